import Derived.Test.YthcpdohdppkmkaaGreatDoorProg
import Derived.Below
import Derived.Lib.Strings
import Derived.Lib.Join
instance : Coe Int Go.Value := ⟨.int .i64⟩
instance : Coe Nat Go.Value := ⟨fun n => .int .i64 (n : Int)⟩
instance : Coe Nat Go.Addr := ⟨fun b => ⟨b, 0, none⟩⟩
instance (b o : Nat) : CoeDep (Nat × Nat) (b, o) Go.Addr := ⟨⟨b, o, none⟩⟩
instance : Coe Go.World Nat := ⟨fun w => w.heap.size⟩
namespace Go.Proofs.YthcpdohdppkmkaaGreatDoor
theorem Zl {n : Nat} : n ≤ n := Nat.le_refl n
theorem Zb {n : Nat} {w : Go.World} : Go.RowKit.Below n w w := Go.RowKit.Below.refl n w
end Go.Proofs.YthcpdohdppkmkaaGreatDoor
theorem Go.RowKit.Hid.o {p : Prop} (h : Go.RowKit.Hid p) : p := h
open Go.Proofs.Tryz
namespace Go.Proofs.YthcpdohdppkmkaaGreatDoor
open Go
def spB(c:UInt8):Bool:=c==32||c==10
def q2j(c:UInt8):Bool:=decide (97<=c.toNat)&&decide (c.toNat<=122)
def q2a(c:UInt8):Bool:=decide (48<=c.toNat)&&decide (c.toNat<=57)
def nlB(c:UInt8):Bool:=c != 10
def prB(c:UInt8):Bool:=decide (32<=c.toNat)&&decide (c.toNat<=126)
def k4i:List UInt8:=[40,41,91,93,44,43,42,61,59]
def y7s(c:UInt8):Bool:=k4i.any (·==c)
def q1d:List UInt8->Nat
 | []=>0
 | c::r=>if q2j c then(r.takeWhile q2j).length+1 else if q2a c then(r.takeWhile q2a).length+1 else if c==35 then(r.takeWhile nlB).length+1 else 1
def q6o:List UInt8->Bool
 | []=>false
 | c::r=>if q2j c then decide ((r.takeWhile q2j).length+1<=8)else if q2a c then decide ((r.takeWhile q2a).length+1<=6)&&(c != 48||(r.takeWhile q2a).length==0)else if c==35 then(r.takeWhile nlB).all prB else y7s c
def q1m(w:List UInt8):List UInt8:=(w.reverse.dropWhile (·==32)).reverse
theorem q9o(w:List UInt8):q1m (w++[32])=q1m w:=by simp[q1m]
theorem q2r(w:List UInt8){c:UInt8}(h:c≠32):q1m (w++[c])=w++[c]:=by simp[q1m,h]
theorem v0l:q1m []=[]:=rfl
theorem z4y(w:List UInt8):∃z,w=q1m w++z:=by
 refine⟨(w.reverse.takeWhile (·==32)).reverse,?_⟩;rw[q1m,<-List.reverse_append,List.takeWhile_append_dropWhile,List.reverse_reverse]
theorem z0z(w:List UInt8):(q1m w).length<=w.length:=by
 obtain⟨z,A⟩:=z4y w
 have:=congrArg List.length A
 rw[List.length_append]at this;omega
theorem z7c(w:List UInt8):w.take (q1m w).length=q1m w:=by
 obtain⟨z,B⟩:=z4y w;have A:w.take (q1m w).length=(q1m w++z).take (q1m w).length:=congrArg (List.take _) B;rw[A,List.take_left]
theorem z4z:∀(n:Nat)(w:List UInt8),w.length<=n->q1m (q1m w)=q1m w
 | n,w,h=>by
  rcases List.eq_nil_or_concat w with rfl|⟨v,c,rfl⟩
  ·rfl
  ·rw[List.concat_eq_append]at h⊢;by_cases hc:c=32
   ·subst hc;rw[q9o]
    match n,h with
    | 0,h=>simp at h
    | n+1,h=>exact z4z n v (by simp at h;omega)
   ·rw[q2r v hc,q2r v hc]
theorem j1c(w:List UInt8):q1m (q1m w)=q1m w:=z4z _ w Zl
theorem z2h{c:UInt8}(h:c≠32)(r:List UInt8):∃z,q1m (c::r)=c::z:=by
 obtain⟨z,E⟩:=z4y (c::r);cases D:q1m (c::r)with
 | nil=>
  exfalso
  have G:∀(l:List UInt8),l.dropWhile (·==32)=[]->∀x∈l,x=32:=by
   intro l
   induction l with
   | nil=>intro _ x B;cases B
   | cons a l ih=>
    intro A x B;rw[List.dropWhile_cons]at A;by_cases C:(a==32)=true
    ·rw[if_pos C]at A;rcases List.mem_cons.1 B with rfl|B
     ·exact beq_iff_eq.1 C
     ·exact ih A x B
    ·rw[if_neg C]at A;cases A
  rw[q1m,List.reverse_eq_nil_iff]at D;exact h (G _ D c (by simp))
 | cons a b=>
  rw[D,List.cons_append,List.cons.injEq]at E;exact⟨b,by rw[E.1]⟩
def tkW(s:List UInt8):List UInt8:=q1m (s.take (q1d s))
theorem q5i(c:UInt8)(r:List UInt8):1<=q1d (c::r):=by
 simp only[q1d]
 split
 ·omega
 ·split
  ·omega
  ·split<;>omega
theorem k8g{α:Type}(p:α->Bool)(l:List α):(l.takeWhile p).length<=l.length:=by
 induction l with
 | nil=>simp
 | cons a l ih=>
  rw[List.takeWhile_cons]
  split
  ·simp;omega
  ·simp
theorem z0v(s:List UInt8):q1d s<=s.length:=by
 cases s with
 | nil=>simp[q1d]
 | cons c r=>
  have A:=k8g q2j r;have B:=k8g q2a r;have C:=k8g nlB r;simp only[q1d,List.length_cons]
  split
  ·omega
  ·split
   ·omega
   ·split<;>omega
def lx(s:List UInt8)(i:Nat):List (Nat × List UInt8) × Option Nat:=
 match s with
 | []=>([],none)
 | c::r=>
  if spB c then lx r (i+1)
  else if q6o (c::r)then((i,tkW (c::r))::(lx ((c::r).drop (q1d (c::r))) (i+q1d (c::r))).1,(lx ((c::r).drop (q1d (c::r))) (i+q1d (c::r))).2)
  else([],some i)
termination_by s.length
decreasing_by
 all_goals first
  | (have:=q5i c r;simp only[List.length_drop,List.length_cons];omega)
  | (simp only[List.length_cons];omega)
def lxW(s:List UInt8)(i:Nat):List (Nat × List UInt8):=(lx s i).1
def lxF(s:List UInt8)(i:Nat):Option Nat:=(lx s i).2
theorem z4i(i:Nat):lx [] i=([],none):=by rw[lx]
theorem j6p{c:UInt8}(r:List UInt8)(i:Nat)(h:spB c=true):lx (c::r) i=lx r (i+1):=by rw[lx,if_pos h]
theorem k7c{c:UInt8}{r:List UInt8}(i:Nat)(h:spB c=false)(ho:q6o (c::r)=true):
  lx (c::r) i=((i,tkW (c::r))::lxW ((c::r).drop (q1d (c::r))) (i+q1d (c::r)),lxF ((c::r).drop (q1d (c::r))) (i+q1d (c::r))):=by
 rw[lx,if_neg (by simp[h]),if_pos ho];rfl
theorem k7b{c:UInt8}{r:List UInt8}(i:Nat)(h:spB c=false)(ho:q6o (c::r)=false):lx (c::r) i=([],some i):=by
 rw[lx,if_neg (by simp[h]),if_neg (by simp[ho])]
def q3a(w:List UInt8):Prop:=∃c r,w=c::r/\spB c=false/\q6o (c::r)=true/\q1d (c::r)=(c::r).length/\q1m (c::r)=c::r
theorem z5b{p:UInt8->Bool}:∀(r:List UInt8)(k:Nat),k<=(r.takeWhile p).length->(r.take k).takeWhile p=r.take k
 | _,0,_=>by simp
 | [],k+1,h=>by simp at h
 | a::r,k+1,h=>by
  rw[List.takeWhile_cons]at h;by_cases ha:p a=true
  ·rw[if_pos ha]at h;rw[List.take_succ_cons,List.takeWhile_cons,if_pos ha,z5b r k (by simp at h;omega)]
  ·rw[if_neg ha]at h;simp at h
theorem z5a{p:UInt8->Bool}(r:List UInt8):r.take (r.takeWhile p).length=r.takeWhile p:=by
 have:=z5b (p:=p) r (r.takeWhile p).length Zl
 induction r with
 | nil=>rfl
 | cons a r ih=>
  rw[List.takeWhile_cons]
  split
  ·rw[List.length_cons,List.take_succ_cons,ih (z5b r _ Zl)]
  ·rfl
theorem v1z{p:UInt8->Bool}{l:List UInt8}(h:l.all p=true)(k:Nat):(l.take k).all p=true:=by
 rw[List.all_eq_true]at h⊢;exact fun x hx=>h x (List.mem_of_mem_take hx)
theorem y9m{p:UInt8->Bool}{l:List UInt8}(h:∀x,p x=true->x≠32):q1m (l.takeWhile p)=l.takeWhile p:=by
 rcases List.eq_nil_or_concat (l.takeWhile p)with e|⟨v,c,e⟩
 ·rw[e];rfl
 ·rw[e,List.concat_eq_append];refine q2r v (h c ?_);have D:c∈l.takeWhile p:=by rw[e];simp
  have B:∀(l:List UInt8)x,x∈l.takeWhile p->p x=true:=by
   intro l
   induction l with
   | nil=>intro x A;cases A
   | cons a l ih=>
    intro x A;rw[List.takeWhile_cons]at A;by_cases C:p a=true
    ·rw[if_pos C]at A;rcases List.mem_cons.1 A with rfl|A
     ·exact C
     ·exact ih x A
    ·rw[if_neg C]at A;cases A
  exact B l c D
theorem j6l{x:UInt8}(h:q2j x=true):x≠32:=by
 rintro rfl;revert h;decide
theorem j3z{x:UInt8}(h:q2a x=true):x≠32:=by
 rintro rfl;revert h;decide
theorem k3p{x:UInt8}(h:q2a x=true):q2j x=false:=by
 simp only[q2a,q2j,Bool.and_eq_true,decide_eq_true_eq,Bool.and_eq_false_iff,decide_eq_false_iff_not]at h⊢;omega
theorem q8u{p:UInt8->Bool}(h:∀x,p x=true->x≠32)(c:UInt8)(hc:p c=true)(r:List UInt8):q1m (c::r.takeWhile p)=c::r.takeWhile p:=by
 have:=y9m (p:=p) (l:=c::r) h
 rw[List.takeWhile_cons,if_pos hc]at this;exact this
theorem v0o(p:UInt8->Bool)(r:List UInt8):(r.takeWhile p).takeWhile p=r.takeWhile p:=by
 have:=z5b (p:=p) r (r.takeWhile p).length Zl
 rw[z5a]at this;exact this
theorem k5e{c:UInt8}(h:spB c=false):c≠32:=by
 rintro rfl;revert h;decide
theorem v9i{c:UInt8}{r:List UInt8}(hs:spB c=false)(ho:q6o (c::r)=true):q3a (tkW (c::r)):=by
 cases A:q2j c with
 | true=>
  have e:tkW (c::r)=c::r.takeWhile q2j:=by
   simp only[tkW,q1d,A,if_true,List.take_succ_cons,z5a];exact q8u (fun _=>j6l) c A r
  refine⟨c,r.takeWhile q2j,e,hs,?_,?_,q8u (fun _=>j6l) c A r⟩
  ·simp only[q6o,A,if_true,v0o]at ho⊢;exact ho
  ·simp only[q1d,A,if_true,v0o,List.length_cons]
 | false=>
  cases B:q2a c with
  | true=>
   have e:tkW (c::r)=c::r.takeWhile q2a:=by
    simp only[tkW,q1d,A,B,if_true,Bool.false_eq_true,if_false,List.take_succ_cons,z5a];exact q8u (fun _=>j3z) c B r
   refine⟨c,r.takeWhile q2a,e,hs,?_,?_,q8u (fun _=>j3z) c B r⟩
   ·simp only[q6o,A,B,if_true,Bool.false_eq_true,if_false,v0o]at ho⊢;exact ho
   ·simp only[q1d,A,B,if_true,Bool.false_eq_true,if_false,v0o,List.length_cons]
  | false=>
   cases C:(c==35)with
   | true=>
    have e:tkW (c::r)=q1m (c::r.takeWhile nlB):=by
     simp only[tkW,q1d,A,B,C,if_true,Bool.false_eq_true,if_false,List.take_succ_cons,z5a]
    obtain⟨z,H⟩:=z2h (k5e hs) (r.takeWhile nlB)
    have E:z=(r.takeWhile nlB).take z.length:=by
     have:=z7c (c::r.takeWhile nlB)
     rw[H,List.length_cons,List.take_succ_cons,List.cons.injEq]at this;exact this.2.symm
    have D:z.length<=(r.takeWhile nlB).length:=by
     have:=z0z (c::r.takeWhile nlB)
     rw[H,List.length_cons,List.length_cons]at this;omega
    have G:z.takeWhile nlB=z:=by
     have:=z5b (p:=nlB) (r.takeWhile nlB) z.length (by rw[v0o];exact D)
     rw[<-E]at this;exact this
    refine⟨c,z,by rw[e,H],hs,?_,?_,by rw[<-H];exact j1c _⟩
    ·simp only[q6o,A,B,C,if_true,Bool.false_eq_true,if_false,G]at ho⊢;rw[E];exact v1z ho _
    ·simp only[q1d,A,B,C,if_true,Bool.false_eq_true,if_false,G,List.length_cons]
   | false=>
    have e:tkW (c::r)=[c]:=by
     simp only[tkW,q1d,A,B,C,Bool.false_eq_true,if_false,List.take_succ_cons,List.take_zero];exact q2r [] (k5e hs)
    refine⟨c,[],e,hs,?_,?_,q2r [] (k5e hs)⟩
    ·simp only[q6o,A,B,C,Bool.false_eq_true,if_false]at ho⊢;exact ho
    ·simp only[q1d,A,B,C,Bool.false_eq_true,if_false,List.length_cons,List.length_nil]
theorem v0i{w:List UInt8}(h:q3a w):1<=w.length:=by
 obtain⟨c,r,rfl,_⟩:=h;simp
def spc:List (List UInt8)->List UInt8
 | []=>[]
 | w::r=>w++10::spc r
def q9s(s:List UInt8)(i:Nat)(x:Nat × List UInt8):Prop:=i<=x.1/\x.1+x.2.length<=i+s.length/\(s.drop (x.1-i)).take x.2.length=x.2/\q3a x.2
theorem q9s.later{s:List UInt8}{i k:Nat}{x:Nat × List UInt8}(h:q9s (s.drop k) (i+k) x)(hk:k<=s.length):q9s s i x:=by
 obtain⟨D,B,A,C⟩:=h;rw[List.length_drop]at B;refine⟨by omega,by omega,?_,C⟩;rw[List.drop_drop]at A;have e:x.1-i=k+(x.1-(i+k)):=by omega
 rw[e];exact A
theorem y1z:∀(n:Nat)(s:List UInt8)(i:Nat),s.length<=n->(∀x∈lxW s i,q9s s i x)/\(lxW s i).Pairwise (fun a b=>a.1+a.2.length<=b.1)
 | 0,s,i,h=>by
  have:s=[]:=List.eq_nil_of_length_eq_zero (by omega)
  subst this;rw[lxW,z4i];exact⟨fun x hx=>absurd hx List.not_mem_nil,List.Pairwise.nil⟩
 | n+1,s,i,h=>by
  cases s with
  | nil=>
   rw[lxW,z4i];exact⟨fun x hx=>absurd hx List.not_mem_nil,List.Pairwise.nil⟩
  | cons c r=>
   cases hs:spB c with
   | true=>
    obtain⟨h1,h2⟩:=y1z n r (i+1) (by simp at h;omega);rw[lxW,j6p r i hs];exact⟨fun x hx=>q9s.later (s:=c::r) (k:=1) (h1 x hx) (by simp),h2⟩
   | false=>
    cases ho:q6o (c::r)with
    | false=>
     rw[lxW,k7b i hs ho];exact⟨fun x hx=>absurd hx List.not_mem_nil,List.Pairwise.nil⟩
    | true=>
     have hp:=q5i c r;have hle:=z0v (c::r)
     have hw:(tkW (c::r)).length<=q1d (c::r):=by
      have:=z0z ((c::r).take (q1d (c::r)))
      rw[List.length_take]at this;rw[tkW];omega
     obtain⟨h1,h2⟩:=y1z n ((c::r).drop (q1d (c::r))) (i+q1d (c::r)) (by simp only[List.length_drop,List.length_cons]at h⊢;omega);rw[lxW,k7c i hs ho];refine⟨fun x hx=>?_,List.pairwise_cons.2 ⟨fun x hx=>?_,h2⟩⟩
     ·rcases List.mem_cons.1 hx with rfl|hx
      ·refine⟨Nat.le_refl _,by simp only;omega,?_,v9i hs ho⟩;simp only[Nat.sub_self,List.drop_zero];have A:=z7c ((c::r).take (q1d (c::r)));rw[List.take_take,Nat.min_eq_left (by rw[tkW]at hw;exact hw)]at A;exact A
      ·exact(h1 x hx).later hle
     ·have:=(h1 x hx).1
      simp only;omega
def q2m(s:List UInt8):List (List UInt8):=(lxW s 0).map (·.2)
def z1z(s:List UInt8):List Nat:=(lxW s 0).map (·.1)
theorem z2p(s:List UInt8):(q2m s).length=(z1z s).length:=by simp[q2m,z1z]
theorem y7j(s:List UInt8)(j:Nat)(h:j<(q2m s).length)(h2:j<(z1z s).length):
  (z1z s)[j]+(q2m s)[j].length<=s.length/\(s.drop (z1z s)[j]).take (q2m s)[j].length=(q2m s)[j]/\q3a (q2m s)[j]/\∀k(hk:k<(q2m s).length)(hk2:k<(z1z s).length),k<j->(z1z s)[k]+(q2m s)[k].length<=(z1z s)[j]:=by
 obtain⟨B,C⟩:=y1z s.length s 0 Zl;have A:j<(lxW s 0).length:=by simpa[q2m]using h
 obtain⟨_,G,D,E⟩:=B (lxW s 0)[j] (List.getElem_mem A);simp only[q2m,z1z,List.getElem_map]at *;refine⟨by omega,by simpa using D,E,fun k hk hk2 hkj=>?_⟩;exact List.pairwise_iff_getElem.1 C k j (by simpa using hk2) A hkj
theorem y3p(s:List UInt8):∀w∈q2m s,q3a w:=by
 intro w B;obtain⟨j,A,rfl⟩:=List.getElem_of_mem B;exact(y7j s j A (by rw[<-z2p];exact A)).2.2.1
theorem z8o:∀(n:Nat)(s:List UInt8)(i:Nat),s.length<=n->(lxW s i).length<=s.length
 | 0,s,i,h=>by
  have:s=[]:=List.eq_nil_of_length_eq_zero (by omega)
  subst this;rw[lxW,z4i];simp
 | n+1,s,i,h=>by
  cases s with
  | nil=>rw[lxW,z4i];simp
  | cons c r=>
   cases hs:spB c with
   | true=>
    have:=z8o n r (i+1) (by simp at h;omega)
    rw[lxW,j6p r i hs];simp only[List.length_cons];rw[lxW]at this;omega
   | false=>
    cases ho:q6o (c::r)with
    | false=>rw[lxW,k7b i hs ho];simp
    | true=>
     have hp:=q5i c r;have hle:=z0v (c::r)
     have:=z8o n ((c::r).drop (q1d (c::r))) (i+q1d (c::r)) (by simp only[List.length_drop,List.length_cons]at h⊢;omega)
     rw[lxW,k7c i hs ho];simp only[List.length_cons,List.length_drop]at this hle⊢;omega
theorem v0u(s:List UInt8):(q2m s).length<=s.length:=by
 have:=z8o s.length s 0 Zl
 simpa[q2m]using this
def y9u(w:List UInt8):Bool:=w.headD 0 != 35
def many(ws:List (List UInt8)):Nat:=(ws.filter y9u).length
theorem k7d(a b:List (List UInt8)):many (a++b)=many a+many b:=by simp[many]
def q5o(s:List UInt8):Int:=if 60000<s.length then 3 else if(lxF s 0).isSome then 5 else if 300<many (q2m s)then 3 else 0
def z3c(s:List UInt8):Nat:=if q5o s=5 then(lxF s 0).getD 0 else 0
theorem q7v{s:List UInt8}(h:q5o s=0):s.length<=60000/\lxF s 0=none/\many (q2m s)<=300:=by
 unfold q5o at h
 split at h
 ·cases h
 ·split at h
  ·cases h
  ·split at h
   ·cases h
   ·rename_i h1 h2 h3;exact⟨by omega,by simpa using h2,by omega⟩
abbrev btL(s:ByteArray):List UInt8:=s.data.toList
theorem q0b(s:ByteArray):(btL s).length=s.size:=(Lib.size_eq s).symm
theorem q1i{s:ByteArray}{k:Nat}(h:k<s.size):(btL s).drop k=s[k]::(btL s).drop (k+1):=by
 have A:k<(btL s).length:=by rw[q0b];exact h
 rw[List.drop_eq_getElem_cons A];rfl
def twN(p:UInt8->Bool)(s:ByteArray)(k:Nat):Nat:=(((btL s).drop k).takeWhile p).length
theorem z9q{p:UInt8->Bool}{s:ByteArray}{k:Nat}(h:k<s.size)(hp:p s[k]=true):twN p s k=twN p s (k+1)+1:=by
 rw[twN,q1i h,List.takeWhile_cons,if_pos hp];rfl
theorem k8f{p:UInt8->Bool}{s:ByteArray}{k:Nat}(h:k<s.size)(hp:p s[k]=false):twN p s k=0:=by
 rw[twN,q1i h,List.takeWhile_cons,if_neg (by simp[hp])];rfl
theorem z9p{p:UInt8->Bool}{s:ByteArray}{k:Nat}(h:¬k<s.size):twN p s k=0:=by
 rw[twN,List.drop_eq_nil_of_le (by rw[q0b];omega)];rfl
def prN(s:ByteArray)(k:Nat):Bool:=(((btL s).drop k).takeWhile nlB).all prB
theorem y2o{s:ByteArray}{k:Nat}(h:k<s.size)(hp:nlB s[k]=true):prN s k=(prB s[k]&&prN s (k+1)):=by
 rw[prN,q1i h,List.takeWhile_cons,if_pos hp,List.all_cons];rfl
theorem y5y{s:ByteArray}{k:Nat}(h:k<s.size)(hp:nlB s[k]=false):prN s k=true:=by
 rw[prN,q1i h,List.takeWhile_cons,if_neg (by simp[hp])];rfl
theorem y2n{s:ByteArray}{k:Nat}(h:¬k<s.size):prN s k=true:=by
 rw[prN,List.drop_eq_nil_of_le (by rw[q0b];omega)];rfl
def z2e(s:ByteArray)(i:Nat):Nat:=q1d ((btL s).drop i)
def tOk(s:ByteArray)(i:Nat):Bool:=q6o ((btL s).drop i)
theorem y9h{s:ByteArray}{i:Nat}(h:i<s.size)(hc:q2j s[i]=true):z2e s i=twN q2j s (i+1)+1/\tOk s i=decide (twN q2j s (i+1)+1<=8):=by
 rw[z2e,tOk,q1i h];simp only[q1d,q6o,hc,if_true];exact⟨rfl,rfl⟩
theorem y9g{s:ByteArray}{i:Nat}(h:i<s.size)(hc:q2j s[i]=false)(hf:q2a s[i]=true):z2e s i=twN q2a s (i+1)+1/\tOk s i=(decide (twN q2a s (i+1)+1<=6)&&(s[i] != 48||twN q2a s (i+1)==0)):=by
 rw[z2e,tOk,q1i h];simp only[q1d,q6o,hc,hf,if_true,Bool.false_eq_true,if_false];exact⟨rfl,rfl⟩
theorem y6n{s:ByteArray}{i:Nat}(h:i<s.size)(hc:q2j s[i]=false)(hf:q2a s[i]=false)(hn:(s[i]==35)=true):z2e s i=twN nlB s (i+1)+1/\tOk s i=prN s (i+1):=by
 rw[z2e,tOk,q1i h];simp only[q1d,q6o,hc,hf,hn,if_true,Bool.false_eq_true,if_false];exact⟨rfl,rfl⟩
theorem y6m{s:ByteArray}{i:Nat}(h:i<s.size)(hc:q2j s[i]=false)(hf:q2a s[i]=false)(hn:(s[i]==35)=false):z2e s i=1/\tOk s i=y7s s[i]:=by
 rw[z2e,tOk,q1i h];simp only[q1d,q6o,hc,hf,hn,Bool.false_eq_true,if_false];exact⟨trivial,trivial⟩
theorem y9w{s:ByteArray}{i:Nat}(h:i<s.size):1<=z2e s i/\i+z2e s i<=s.size:=by
 have A:=z0v ((btL s).drop i);rw[List.length_drop,q0b]at A;rw[z2e];refine⟨?_,by omega⟩;rw[q1i h];exact q5i _ _
theorem q5w(c:UInt8)(n:Nat)(hn:n<256):((c.toNat:Int)==(n:Int))=(c==UInt8.ofNat n):=by
 by_cases h:c=UInt8.ofNat n
 ·subst h;rw[beq_iff_eq.2 (show((UInt8.ofNat n).toNat:Int)=(n:Int) by simp[Nat.mod_eq_of_lt hn])];simp
 ·rw[beq_false_of_ne h,beq_false_of_ne];intro e;apply h
  have:c.toNat=n:=by omega
  rw[<-this];simp
def wbS(w:List UInt8):ByteArray:=⟨w.toArray⟩
theorem q9p(s:ByteArray)(i e:Nat):s.extract i e=wbS (((btL s).drop i).take (e-i)):=by
 apply ByteArray.ext;rw[ByteArray.data_extract];apply Array.ext';simp only[wbS,Array.toList_extract,List.extract]
def q8c(b:UInt8):Bool:=decide (33<=b.toNat)&&decide (b.toNat<=126)
def okW(x:ByteArray):Bool:=decide (1<=x.size)&&decide (x.size<=20)&&x.data.toList.all q8c
def q1c(ws:List ByteArray):Int:=if 60<ws.length then 3 else if ws.all okW then 0 else 5
def q6r(ws:List ByteArray)(wd:Int):Int:=if q1c ws≠0 then q1c ws else if wd<1\/100<wd then 1 else 0
theorem q9q{ws:List ByteArray}(h:q1c ws=0):ws.length<=60/\∀x∈ws,okW x=true:=by
 unfold q1c at h
 split at h
 ·cases h
 ·split at h
  ·rename_i h1 h2;exact⟨by omega,fun x hx=>List.all_eq_true.1 h2 x hx⟩
  ·cases h
theorem v5b{x:ByteArray}(h:okW x=true):1<=x.size/\x.size<=20:=by
 simp only[okW,Bool.and_eq_true,decide_eq_true_eq]at h;exact h.1
def Few(ws:List ByteArray):Prop:=ws.length<=60/\∀x∈ws,x.size<=20
theorem v8a{ws:List ByteArray}(h:q1c ws=0):Few ws:=⟨(q9q h).1,fun x hx=>(v5b ((q9q h).2 x hx)).2⟩
theorem Few.take{ws:List ByteArray}(h:Few ws)(k:Nat):Few (ws.take k):=⟨by have:=h.1;simp;omega,fun x hx=>h.2 x (List.mem_of_mem_take hx)⟩
theorem Few.drop{ws:List ByteArray}(h:Few ws)(k:Nat):Few (ws.drop k):=⟨by have:=h.1;simp;omega,fun x hx=>h.2 x (List.mem_of_mem_drop hx)⟩
theorem k9e{ws:List ByteArray}{wd:Int}(h:q6r ws wd=0):q1c ws=0/\∃n:Nat,wd=n/\1<=n/\n<=100:=by
 unfold q6r at h
 split at h
 ·rename_i h1;exact absurd h h1
 ·rename_i h1
  split at h
  ·cases h
  ·refine⟨by omega,wd.toNat,by omega,by omega,by omega⟩
def tot:List ByteArray->Nat
 | []=>0
 | x::r=>x.size+tot r
theorem y3h(a b:List ByteArray):tot (a++b)=tot a+tot b:=by
 induction a with
 | nil=>simp[tot]
 | cons x r ih=>simp only[List.cons_append,tot,ih];omega
theorem v6t{ws:List ByteArray}{i:Nat}(h:i<ws.length):tot (ws.take (i+1))=tot (ws.take i)+ws[i].size:=by
 rw[List.take_succ_eq_append_getElem h,y3h];simp[tot]
theorem y6s{ws:List ByteArray}(h:∀x∈ws,x.size<=20):tot ws<=20*ws.length:=by
 induction ws with
 | nil=>simp[tot]
 | cons x r ih=>
  have A:=h x (by simp);have B:=ih fun y hy=>h y (by simp[hy])
  simp only[tot,List.length_cons];omega
theorem Few.tot{ws:List ByteArray}(h:Few ws):tot ws<=1200:=by
 have:=y6s h.2
 have:=h.1
 omega
def ln(ws:List ByteArray):Nat:=tot ws+(ws.length-1)
theorem Few.ln{ws:List ByteArray}(h:Few ws):ln ws<=1260:=by
 have:=h.tot
 have:=h.1
 simp only[Go.Proofs.YthcpdohdppkmkaaGreatDoor.ln];omega
def jnL(ws:List ByteArray):List UInt8:=Lib.join (ws.map (·.data.toList)) [32]
def jnS(ws:List ByteArray):ByteArray:=⟨(jnL ws).toArray⟩
theorem v4g(ws:List ByteArray):Lib.lens (ws.map (·.data.toList))=tot ws:=by
 induction ws with
 | nil=>rfl
 | cons x r ih=>
  have e:Lib.lens ((x::r).map (·.data.toList))=x.data.toList.length+Lib.lens (r.map (·.data.toList)):=by simp[Lib.lens]
  rw[e,ih,tot,Lib.size_eq]
theorem j4w(ws:List ByteArray):(jnL ws).length=ln ws:=by
 cases ws with
 | nil=>rfl
 | cons x r=>
  have h:=Lib.join_length x.data.toList (r.map (·.data.toList)) [32];have A:=v4g (x::r);simp only[List.map_cons]at A;simp only[jnL,List.map_cons,h,A,ln,List.length_cons,List.length_nil,List.length_map];omega
theorem z3a(ws:List ByteArray):(jnS ws).size=ln ws:=by
 rw[<-j4w];simp[jnS,ByteArray.size]
theorem y1k:jnS []=⟨#[]⟩:=rfl
theorem v7p(a b:List UInt8):(⟨a.toArray⟩:ByteArray)++⟨b.toArray⟩=⟨(a++b).toArray⟩:=by
 apply ByteArray.ext;simp
theorem v9y(x:ByteArray):(⟨x.data.toList.toArray⟩:ByteArray)=x:=by cases x;simp
theorem j4x{ws:List ByteArray}(h:0<ws.length):jnS (ws.take 1)=ws[0]:=by
 cases ws with
 | nil=>simp at h
 | cons x r=>simp[jnS,jnL,Lib.join_one]
theorem v3z(x:ByteArray)(r:List ByteArray)(y:ByteArray):jnL (x::r++[y])=jnL (x::r)++[32]++y.data.toList:=by
 simp only[jnL,List.map_cons,List.cons_append,List.map_append,List.map_nil,Lib.join_cons,Lib.joinTail,List.flatten_append,List.flatten_cons,List.flatten_nil,List.append_nil,List.append_assoc]
theorem v4a{ws:List ByteArray}{i:Nat}(h0:0<i)(h:i<ws.length):jnS (ws.take (i+1))=jnS (ws.take i)++⟨#[32]⟩++ws[i]:=by
 rw[List.take_succ_eq_append_getElem h];cases ws with
 | nil=>simp at h
 | cons x r=>
  obtain⟨j,rfl⟩:∃j,i=j+1:=⟨i-1,by omega⟩;simp only[List.take_succ_cons];have e:=v3z x (r.take j) ((x::r)[j+1]'h);simp only[jnS,e];have A:(⟨#[32]⟩:ByteArray)=⟨([32]:List UInt8).toArray⟩:=rfl;rw[A]
  conv=>rhs;rw[<-v9y ((x::r)[j+1]'h)]
  rw[v7p,v7p]
def bd(n wd:Nat)(last:Bool):Nat:=if wd<n then 1000*(n-wd)else if last then 0 else(wd-n)*(wd-n)
theorem y4i{n wd:Nat}{last:Bool}(h1:n<=1260)(h2:wd<=100):bd n wd last<=1300000:=by
 unfold bd
 split
 ·omega
 ·split
  ·omega
  ·have:(wd-n)*(wd-n)<=100*100:=Nat.mul_le_mul (by omega) (by omega)
   omega
def q9b(g:Nat->Nat):Nat->Nat
 | 0=>0
 | n+1=>if n=0\/g (n+1)<=q9b g n then g (n+1)else q9b g n
def j1n(g:Nat->Nat):Nat->Nat
 | 0=>0
 | n+1=>if n=0\/g (n+1)<=q9b g n then n+1 else j1n g n
theorem z6o{g h:Nat->Nat}:∀n,(∀k,1<=k->k<=n->g k=h k)->q9b g n=q9b h n
 | 0,_=>rfl
 | n+1,e=>by
  have ih:=z6o n fun k h1 h2=>e k h1 (by omega)
  simp only[q9b,ih,e (n+1) (by omega) Zl]
theorem k4j(g:Nat->Nat):∀n k,1<=k->k<=n->q9b g n<=g k
 | 0,k,h1,h2=>by omega
 | n+1,k,h1,h2=>by
  simp only[q9b]
  split
  ·rename_i h;by_cases hk:k=n+1
   ·subst hk;exact Nat.le_refl _
   ·have:=k4j g n k h1 (by omega)
    rcases h with h|h<;>omega
  ·rename_i h;by_cases hk:k=n+1
   ·subst hk;omega
   ·exact k4j g n k h1 (by omega)
theorem k5s(g:Nat->Nat):∀n,1<=n->1<=j1n g n/\j1n g n<=n
 | 0,h=>by omega
 | n+1,h=>by
  simp only[j1n]
  split
  ·omega
  ·rename_i h1
   have:=k5s g n (by omega)
   omega
theorem j2a(g:Nat->Nat):∀n,1<=n->g (j1n g n)=q9b g n
 | 0,h=>by omega
 | n+1,h=>by
  simp only[j1n,q9b]
  split
  ·rfl
  ·rename_i h1;exact j2a g n (by omega)
theorem k0e(g:Nat->Nat):∀n k,j1n g n<k->k<=n->1<=k->g k≠q9b g n
 | 0,k,h1,h2,h3=>by omega
 | n+1,k,h1,h2,h3=>by
  simp only[j1n]at h1;simp only[q9b]
  split at h1
  ·omega
  ·rename_i h;rw[if_neg h];by_cases hk:k=n+1
   ·subst hk;omega
   ·exact k0e g n k h1 (by omega) h3
theorem j6t(g:Nat->Nat)(n:Nat):q9b g (n+1)=if n=0\/g (n+1)<q9b g n then g (n+1)else q9b g n:=by
 simp only[q9b];by_cases A:n=0
 ·simp[A]
 ·simp only[A,false_or]
  split<;>split<;>omega
def k8r(wd:Nat):List ByteArray->List Nat
 | []=>[0]
 | x::r=>q9b (fun k=>bd (ln ((x::r).take k)) wd (k==r.length+1)+(k8r wd r).getD (k-1) 0) (r.length+1)::k8r wd r
def best(wd:Nat)(ws:List ByteArray):Nat:=(k8r wd ws).getD 0 0
theorem z7s(wd:Nat):best wd []=0:=rfl
theorem z5s(wd:Nat):∀(ws:List ByteArray)(j:Nat),j<=ws.length->(k8r wd ws).getD j 0=best wd (ws.drop j)
 | _,0,_=>by simp[best]
 | [],j+1,h=>by simp at h
 | x::r,j+1,h=>by
  have:=z5s wd r j (by simp at h;omega)
  simpa[k8r]using this
def fOf(wd:Nat)(ws:List ByteArray)(k:Nat):Nat:=bd (ln (ws.take k)) wd (k==ws.length)+best wd (ws.drop k)
theorem z3m(wd:Nat){ws:List ByteArray}(h:ws≠[]):best wd ws=q9b (fOf wd ws) ws.length:=by
 cases ws with
 | nil=>exact absurd rfl h
 | cons x r=>
  simp only[best,k8r,List.getD_cons_zero,List.length_cons];refine z6o _ fun k h1 h2=>?_
  obtain⟨j,rfl⟩:∃j,k=j+1:=⟨k-1,by omega⟩;simp only[fOf,List.length_cons,List.drop_succ_cons,Nat.add_sub_cancel];rw[z5s wd r j (by omega)]
theorem j2l{wd:Nat}(hw:wd<=100):∀(n:Nat)(ws:List ByteArray),ws.length<=n->Few ws->best wd ws<=1300000
 | 0,ws,h,_=>by
  have:ws=[]:=List.eq_nil_of_length_eq_zero (by omega)
  subst this;simp[z7s]
 | n+1,ws,h,hf=>by
  by_cases h0:ws=[]
  ·subst h0;simp[z7s]
  ·have hp:0<ws.length:=List.length_pos_iff.2 h0;rw[z3m wd h0];refine Nat.le_trans (k4j _ _ ws.length hp Zl) ?_;simp only[fOf,List.drop_length,z7s]
   have:=y4i (last:=(ws.length==ws.length)) (hf.take ws.length).ln hw
   omega
theorem j3v{wd:Nat}(hw:wd<=100){ws:List ByteArray}(hf:Few ws)(k:Nat):fOf wd ws k<=2600000:=by
 have A:=j2l hw _ (ws.drop k) Zl (hf.drop k);have B:=y4i (last:=(k==ws.length)) (hf.take k).ln hw;simp only[fOf];omega
def agF(wd:Nat)(ws:List ByteArray):Nat:=j1n (fOf wd ws) ws.length
theorem z1i(wd:Nat){ws:List ByteArray}(h:ws≠[]):1<=agF wd ws/\agF wd ws<=ws.length:=k5s _ _ (List.length_pos_iff.2 h)
def z3s(wd:Nat)(ws:List ByteArray):List Nat:=
 if _h:ws=[]then []else agF wd ws::z3s wd (ws.drop (agF wd ws))
termination_by ws.length
decreasing_by
 have:=z1i wd _h
 simp only[List.length_drop];omega
theorem z2x(wd:Nat):z3s wd []=[]:=by rw[z3s];simp
theorem q9z(wd:Nat){ws:List ByteArray}(h:ws≠[]):z3s wd ws=agF wd ws::z3s wd (ws.drop (agF wd ws)):=by
 rw[z3s,dif_neg h]
def j5z:List ByteArray->List Nat->List ByteArray
 | _,[]=>[]
 | ws,k::ks=>jnS (ws.take k)::j5z (ws.drop k) ks
structure Td where
 op:Int
 tx:ByteArray
 n:Int
def kdT(x:Td):Nat:=if x.op=3\/x.op=4 then x.n.toNat else if x.op=5\/x.op=6 then 2 else if x.op=7\/x.op=8 then 1 else 0
def z5u:List Td->Nat->Option Nat
 | _,0=>some 0
 | [],_+1=>none
 | x::r,m+1=>(z5u r (kdT x+m)).map (· + 1)
theorem q7o(ds:List Td):z5u ds 0=some 0:=by cases ds<;>rfl
theorem q8h(m:Nat):z5u [] (m+1)=none:=rfl
theorem q5b(x:Td)(r:List Td)(m:Nat):z5u (x::r) (m+1)=(z5u r (kdT x+m)).map (· + 1):=rfl
theorem k3h:∀(ds:List Td)(m k:Nat),z5u ds m=some k->m<=k/\k<=ds.length
 | ds,0,k,h=>by rw[q7o]at h;cases h;simp
 | [],m+1,k,h=>by rw[q8h]at h;cases h
 | x::r,m+1,k,h=>by
  rw[q5b,Option.map_eq_some_iff]at h;obtain⟨j,h1,rfl⟩:=h
  have:=k3h r _ j h1
  simp;omega
theorem z7x:∀(ds:List Td)(a b:Nat),z5u ds (a+b)=(z5u ds a).bind fun k=>(z5u (ds.drop k) b).map (k+·)
 | ds,0,b=>by
  rw[q7o];simp
 | [],a+1,b=>by rw[show a+1+b=(a+b)+1 by omega,q8h,q8h];rfl
 | x::r,a+1,b=>by
  rw[show a+1+b=(a+b)+1 by omega,q5b,q5b,show kdT x+(a+b)=(kdT x+a)+b by omega,z7x r _ b];cases z5u r (kdT x+a)with
  | none=>rfl
  | some k=>
   simp only[Option.bind_some,Option.map_some,List.drop_succ_cons];cases z5u (r.drop k) b with
   | none=>rfl
   | some j=>simp;omega
def q3q(ds:List Td)(i m:Nat):Option Nat:=(z5u (ds.drop i) m).map (i+·)
theorem k0q(ds:List Td)(i:Nat):q3q ds i 0=some i:=by simp[q3q,q7o]
theorem q8j(ds:List Td)(i m:Nat)(h:ds.length<=i):q3q ds i (m+1)=none:=by
 rw[q3q,List.drop_eq_nil_of_le h,q8h];rfl
theorem z3u(ds:List Td)(i m:Nat)(h:i<ds.length):q3q ds i (m+1)=q3q ds (i+1) (kdT ds[i]+m):=by
 rw[q3q,List.drop_eq_getElem_cons h,q5b,q3q];cases z5u (ds.drop (i+1)) (kdT ds[i]+m)with
 | none=>rfl
 | some k=>simp;omega
theorem v2y(ds:List Td)(i a b:Nat):q3q ds i (a+b)=(q3q ds i a).bind fun j=>q3q ds j b:=by
 rw[q3q,z7x,q3q];cases z5u (ds.drop i) a with
 | none=>rfl
 | some k=>
  simp only[Option.bind_some,Option.map_some,q3q,List.drop_drop];cases z5u (ds.drop (i+k)) b with
  | none=>rfl
  | some j=>simp;omega
theorem y0z{ds:List Td}{i m j:Nat}(h:q3q ds i m=some j):i+m<=j/\(m=0\/j<=ds.length):=by
 rw[q3q,Option.map_eq_some_iff]at h;obtain⟨k,A,rfl⟩:=h;have B:=k3h _ _ _ A;rw[List.length_drop]at B;omega
def q0p(s:ByteArray):Bool:=decide (1<=s.size)&&decide (s.size<=8)&&decide (btL s≠[108,101,116])&&(btL s).all q2j
def q5l:List UInt8->List (List UInt8)
 | []=>[[]]
 | c::r=>if c=32 then []::q5l r else match q5l r with
  | []=>[[c]]
  | w::ws=>(c::w)::ws
theorem q9n(s:List UInt8):q5l s≠[]:=by
 cases s with
 | nil=>simp[q5l]
 | cons c r=>
  simp only[q5l]
  split
  ·simp
  ·split<;>simp
theorem q6j(r:List UInt8):q5l (32::r)=[]::q5l r:=by simp[q5l]
theorem q4y{c:UInt8}(h:c≠32){r w:List UInt8}{ws:List (List UInt8)}(hr:q5l r=w::ws):q5l (c::r)=(c::w)::ws:=by
 simp only[q5l,if_neg h,hr]
theorem k7y(u r:List UInt8)(h:∀b∈u,b≠32):q5l (u++32::r)=u::q5l r:=by
 induction u with
 | nil=>exact q6j r
 | cons c u ih=>
  have A:=ih fun b hb=>h b (by simp[hb])
  rw[List.cons_append,q4y (h c (by simp)) A]
theorem k7z(u:List UInt8)(h:∀b∈u,b≠32):q5l u=[u]:=by
 induction u with
 | nil=>rfl
 | cons c u ih=>rw[q4y (h c (by simp)) (ih fun b hb=>h b (by simp[hb]))]
def q0f(s:List UInt8):List (List UInt8):=if s=[]then []else q5l s
def q2x(s:ByteArray):Int:=q1c ((q0f (btL s)).map wbS)
def q2u(op:Int):Bool:=decide (op=2)||decide (op=3)||decide (op=7)||decide (op=9)
def q0q(x:Td):Int:=
 if x.op<1\/9<x.op then 1
 else if(x.op=1/\(x.n<0\/999999<x.n))\/((x.op=3\/x.op=4)/\(x.n<0\/6<x.n))then 1
 else if(x.op≠1/\x.op≠3/\x.op≠4/\x.n≠0)\/(q2u x.op=false/\0<x.tx.size)then 2
 else if x.op=9 then q2x x.tx
 else if q2u x.op=true/\q0p x.tx=false then 5 else 0
def v1q:List Td->Int
 | []=>0
 | x::r=>if q0q x=0 then v1q r else q0q x
theorem k6r:∀(ds:List Td),(∀x∈ds,q0q x=0)->v1q ds=0
 | [],_=>rfl
 | x::r,h=>by rw[v1q,if_pos (h x (by simp)),k6r r fun y hy=>h y (by simp[hy])]
theorem k0w:∀(ds:List Td),v1q ds=0->∀x∈ds,q0q x=0
 | [],_=>by simp
 | x::r,h=>by
  rw[v1q]at h
  split at h
  ·rename_i h0;intro y hy;rcases List.mem_cons.1 hy with rfl|hy
   ·exact h0
   ·exact k0w r h y hy
  ·rename_i h0;exact absurd h h0
theorem j4q:∀(ds:List Td)(k:Nat)(h:k<ds.length),(∀x∈ds.take k,q0q x=0)->q0q ds[k]≠0->v1q ds=q0q ds[k]
 | x::r,0,_,_,h=>by
  have h':q0q x≠0:=h;rw[v1q,if_neg h'];rfl
 | x::r,k+1,hk,ha,h=>by
  rw[v1q,if_pos (ha x (by simp)),j4q r k (by simpa using hk) (fun y hy=>ha y (by simp[hy])) h];rfl
def k5i(ds:List Td):Bool:=match ds with
 | []=>true
 | x::r=>decide (7<=x.op)&&r.all fun y=>decide (y.op<7)
def q0c(ds:List Td):Int:=
 if 40<ds.length then 3 else if v1q ds≠0 then v1q ds else if q3q ds 0 1=some ds.length/\k5i ds=true then 0 else 2
theorem q4b{ds:List Td}(h:q0c ds=0):ds.length<=40/\(∀x∈ds,q0q x=0)/\q3q ds 0 1=some ds.length/\k5i ds=true:=by
 unfold q0c at h
 split at h
 ·cases h
 ·split at h
  ·rename_i h1;exact absurd h h1
  ·rename_i h0 h1
   split at h
   ·rename_i h2;exact⟨by omega,k0w ds (by omega),h2.1,h2.2⟩
   ·cases h
theorem v8g{x:Td}(h:q0q x=0):kdT x<=6:=by
 unfold q0q at h
 split at h
 ·cases h
 ·split at h
  ·cases h
  ·rename_i h1 h2;unfold kdT
   split
   ·omega
   ·split
    ·omega
    ·split<;>omega
end Go.Proofs.YthcpdohdppkmkaaGreatDoor
