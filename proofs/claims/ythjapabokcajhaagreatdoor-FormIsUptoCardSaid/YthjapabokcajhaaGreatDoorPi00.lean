/- Texts as one: LexP, LexQ, LexB, FilP, TreP. -/
import Derived.Test.YthjapabokcajhaaGreatDoorProg
import Derived.Below
import Derived.Lib.Strings
import Derived.Lib.Join
instance : Coe Int Go.Value := ⟨.int .i64⟩
instance : Coe Nat Go.Addr := ⟨fun b => ⟨b, 0, none⟩⟩
instance (b o : Nat) : CoeDep (Nat × Nat) (b, o) Go.Addr := ⟨⟨b, o, none⟩⟩
instance : Coe Go.World Nat := ⟨fun w => w.heap.size⟩
namespace Go.Proofs.YthjapabokcajhaaGreatDoor
theorem Zl {n : Nat} : n ≤ n := Nat.le_refl n
theorem Zb {n : Nat} {w : Go.World} : Go.RowKit.Below n w w := Go.RowKit.Below.refl n w
end Go.Proofs.YthjapabokcajhaaGreatDoor
theorem Go.RowKit.Hid.o {p : Prop} (h : Go.RowKit.Hid p) : p := h
open Go.Proofs.Tryz
namespace Go.Proofs.YthjapabokcajhaaGreatDoor
open Go
def spB(c:UInt8):Bool:=c==32||c==10
def q2j(c:UInt8):Bool:=decide (97<=c.toNat)&&decide (c.toNat<=122)
def q1z(c:UInt8):Bool:=decide (48<=c.toNat)&&decide (c.toNat<=57)
def nlB(c:UInt8):Bool:=c != 10
def prB(c:UInt8):Bool:=decide (32<=c.toNat)&&decide (c.toNat<=126)
def k9i:List UInt8:=[40,41,91,93,44,43,42,61,59]
def y6w(c:UInt8):Bool:=k9i.any (·==c)
def q1e:List UInt8->Nat
 | []=>0
 | c::r=>if q2j c then(r.takeWhile q2j).length+1 else if q1z c then(r.takeWhile q1z).length+1 else if c==35 then(r.takeWhile nlB).length+1 else 1
def q6m:List UInt8->Bool
 | []=>false
 | c::r=>if q2j c then decide ((r.takeWhile q2j).length+1<=8)else if q1z c then decide ((r.takeWhile q1z).length+1<=6)&&(c != 48||(r.takeWhile q1z).length==0)else if c==35 then(r.takeWhile nlB).all prB else y6w c
def q1l(w:List UInt8):List UInt8:=(w.reverse.dropWhile (·==32)).reverse
theorem q9r(w:List UInt8):q1l (w++[32])=q1l w:=by simp[q1l]
theorem q2n(w:List UInt8){c:UInt8}(h:c≠32):q1l (w++[c])=w++[c]:=by simp[q1l,h]
theorem j9j:q1l []=[]:=rfl
theorem z5c(w:List UInt8):∃z,w=q1l w++z:=by
 refine⟨(w.reverse.takeWhile (·==32)).reverse,?_⟩;rw[q1l,<-List.reverse_append,List.takeWhile_append_dropWhile,List.reverse_reverse]
theorem z1c(w:List UInt8):(q1l w).length<=w.length:=by
 obtain⟨z,hz⟩:=z5c w
 have:=congrArg List.length hz
 rw[List.length_append]at this;omega
theorem z7j(w:List UInt8):w.take (q1l w).length=q1l w:=by
 obtain⟨z,hz⟩:=z5c w;have h2:w.take (q1l w).length=(q1l w++z).take (q1l w).length:=congrArg (List.take _) hz;rw[h2,List.take_left]
theorem z5d:∀(n:Nat)(w:List UInt8),w.length<=n->q1l (q1l w)=q1l w
 | n,w,h=>by
  rcases List.eq_nil_or_concat w with rfl|⟨v,c,rfl⟩
  ·rfl
  ·rw[List.concat_eq_append]at h⊢;by_cases hc:c=32
   ·subst hc;rw[q9r]
    match n,h with
    | 0,h=>simp at h
    | n+1,h=>exact z5d n v (by simp at h;omega)
   ·rw[q2n v hc,q2n v hc]
theorem j0p(w:List UInt8):q1l (q1l w)=q1l w:=z5d _ w Zl
theorem z2i{c:UInt8}(h:c≠32)(r:List UInt8):∃z,q1l (c::r)=c::z:=by
 obtain⟨z,hz⟩:=z5c (c::r);cases ht:q1l (c::r)with
 | nil=>
  exfalso
  have h1:∀(l:List UInt8),l.dropWhile (·==32)=[]->∀x∈l,x=32:=by
   intro l
   induction l with
   | nil=>intro _ x hx;cases hx
   | cons a l ih=>
    intro h2 x hx;rw[List.dropWhile_cons]at h2;by_cases ha:(a==32)=true
    ·rw[if_pos ha]at h2;rcases List.mem_cons.1 hx with rfl|hx
     ·exact beq_iff_eq.1 ha
     ·exact ih h2 x hx
    ·rw[if_neg ha]at h2;cases h2
  rw[q1l,List.reverse_eq_nil_iff]at ht;exact h (h1 _ ht c (by simp))
 | cons a b=>
  rw[ht,List.cons_append,List.cons.injEq]at hz;exact⟨b,by rw[hz.1]⟩
def tkW(s:List UInt8):List UInt8:=q1l (s.take (q1e s))
theorem q5f(c:UInt8)(r:List UInt8):1<=q1e (c::r):=by
 simp only[q1e]
 split
 ·omega
 ·split
  ·omega
  ·split<;>omega
theorem k7u{α:Type}(p:α->Bool)(l:List α):(l.takeWhile p).length<=l.length:=by
 induction l with
 | nil=>simp
 | cons a l ih=>
  rw[List.takeWhile_cons]
  split
  ·simp;omega
  ·simp
theorem z0y(s:List UInt8):q1e s<=s.length:=by
 cases s with
 | nil=>simp[q1e]
 | cons c r=>
  have h1:=k7u q2j r;have h2:=k7u q1z r;have h3:=k7u nlB r;simp only[q1e,List.length_cons]
  split
  ·omega
  ·split
   ·omega
   ·split<;>omega
def lx(s:List UInt8)(i:Nat):List (Nat × List UInt8) × Option Nat:=
 match s with
 | []=>([],none)
 | c::r=>
  if spB c then lx r (i+1)
  else if q6m (c::r)then((i,tkW (c::r))::(lx ((c::r).drop (q1e (c::r))) (i+q1e (c::r))).1,(lx ((c::r).drop (q1e (c::r))) (i+q1e (c::r))).2)
  else([],some i)
termination_by s.length
decreasing_by
 all_goals first
  | (have:=q5f c r;simp only[List.length_drop,List.length_cons];omega)
  | (simp only[List.length_cons];omega)
def lxW(s:List UInt8)(i:Nat):List (Nat × List UInt8):=(lx s i).1
def lxF(s:List UInt8)(i:Nat):Option Nat:=(lx s i).2
theorem z4j(i:Nat):lx [] i=([],none):=by rw[lx]
theorem j5q{c:UInt8}(r:List UInt8)(i:Nat)(h:spB c=true):lx (c::r) i=lx r (i+1):=by rw[lx,if_pos h]
theorem k6p{c:UInt8}{r:List UInt8}(i:Nat)(h:spB c=false)(ho:q6m (c::r)=true):
  lx (c::r) i=((i,tkW (c::r))::lxW ((c::r).drop (q1e (c::r))) (i+q1e (c::r)),lxF ((c::r).drop (q1e (c::r))) (i+q1e (c::r))):=by
 rw[lx,if_neg (by simp[h]),if_pos ho];rfl
theorem k6o{c:UInt8}{r:List UInt8}(i:Nat)(h:spB c=false)(ho:q6m (c::r)=false):lx (c::r) i=([],some i):=by
 rw[lx,if_neg (by simp[h]),if_neg (by simp[ho])]
def q3k(w:List UInt8):Prop:=∃c r,w=c::r/\spB c=false/\q6m (c::r)=true/\q1e (c::r)=(c::r).length/\q1l (c::r)=c::r
theorem z5f{p:UInt8->Bool}:∀(r:List UInt8)(k:Nat),k<=(r.takeWhile p).length->(r.take k).takeWhile p=r.take k
 | _,0,_=>by simp
 | [],k+1,h=>by simp at h
 | a::r,k+1,h=>by
  rw[List.takeWhile_cons]at h;by_cases ha:p a=true
  ·rw[if_pos ha]at h;rw[List.take_succ_cons,List.takeWhile_cons,if_pos ha,z5f r k (by simp at h;omega)]
  ·rw[if_neg ha]at h;simp at h
theorem z5e{p:UInt8->Bool}(r:List UInt8):r.take (r.takeWhile p).length=r.takeWhile p:=by
 have:=z5f (p:=p) r (r.takeWhile p).length Zl
 induction r with
 | nil=>rfl
 | cons a r ih=>
  rw[List.takeWhile_cons]
  split
  ·rw[List.length_cons,List.take_succ_cons,ih (z5f r _ Zl)]
  ·rfl
theorem v0v{p:UInt8->Bool}{l:List UInt8}(h:l.all p=true)(k:Nat):(l.take k).all p=true:=by
 rw[List.all_eq_true]at h⊢;exact fun x hx=>h x (List.mem_of_mem_take hx)
theorem y8s{p:UInt8->Bool}{l:List UInt8}(h:∀x,p x=true->x≠32):q1l (l.takeWhile p)=l.takeWhile p:=by
 rcases List.eq_nil_or_concat (l.takeWhile p)with e|⟨v,c,e⟩
 ·rw[e];rfl
 ·rw[e,List.concat_eq_append];refine q2n v (h c ?_);have hm:c∈l.takeWhile p:=by rw[e];simp
  have hall:∀(l:List UInt8)x,x∈l.takeWhile p->p x=true:=by
   intro l
   induction l with
   | nil=>intro x hx;cases hx
   | cons a l ih=>
    intro x hx;rw[List.takeWhile_cons]at hx;by_cases ha:p a=true
    ·rw[if_pos ha]at hx;rcases List.mem_cons.1 hx with rfl|hx
     ·exact ha
     ·exact ih x hx
    ·rw[if_neg ha]at hx;cases hx
  exact hall l c hm
theorem j5l{x:UInt8}(h:q2j x=true):x≠32:=by
 rintro rfl;revert h;decide
theorem j3p{x:UInt8}(h:q1z x=true):x≠32:=by
 rintro rfl;revert h;decide
theorem k3p{x:UInt8}(h:q1z x=true):q2j x=false:=by
 simp only[q1z,q2j,Bool.and_eq_true,decide_eq_true_eq,Bool.and_eq_false_iff,decide_eq_false_iff_not]at h⊢;omega
theorem q8w{p:UInt8->Bool}(h:∀x,p x=true->x≠32)(c:UInt8)(hc:p c=true)(r:List UInt8):q1l (c::r.takeWhile p)=c::r.takeWhile p:=by
 have:=y8s (p:=p) (l:=c::r) h
 rw[List.takeWhile_cons,if_pos hc]at this;exact this
theorem j9m(p:UInt8->Bool)(r:List UInt8):(r.takeWhile p).takeWhile p=r.takeWhile p:=by
 have:=z5f (p:=p) r (r.takeWhile p).length Zl
 rw[z5e]at this;exact this
theorem k4x{c:UInt8}(h:spB c=false):c≠32:=by
 rintro rfl;revert h;decide
theorem v8a{c:UInt8}{r:List UInt8}(hs:spB c=false)(ho:q6m (c::r)=true):q3k (tkW (c::r)):=by
 cases hl:q2j c with
 | true=>
  have e:tkW (c::r)=c::r.takeWhile q2j:=by
   simp only[tkW,q1e,hl,if_true,List.take_succ_cons,z5e];exact q8w (fun _=>j5l) c hl r
  refine⟨c,r.takeWhile q2j,e,hs,?_,?_,q8w (fun _=>j5l) c hl r⟩
  ·simp only[q6m,hl,if_true,j9m]at ho⊢;exact ho
  ·simp only[q1e,hl,if_true,j9m,List.length_cons]
 | false=>
  cases hf:q1z c with
  | true=>
   have e:tkW (c::r)=c::r.takeWhile q1z:=by
    simp only[tkW,q1e,hl,hf,if_true,Bool.false_eq_true,if_false,List.take_succ_cons,z5e];exact q8w (fun _=>j3p) c hf r
   refine⟨c,r.takeWhile q1z,e,hs,?_,?_,q8w (fun _=>j3p) c hf r⟩
   ·simp only[q6m,hl,hf,if_true,Bool.false_eq_true,if_false,j9m]at ho⊢;exact ho
   ·simp only[q1e,hl,hf,if_true,Bool.false_eq_true,if_false,j9m,List.length_cons]
  | false=>
   cases hn:(c==35)with
   | true=>
    have e:tkW (c::r)=q1l (c::r.takeWhile nlB):=by
     simp only[tkW,q1e,hl,hf,hn,if_true,Bool.false_eq_true,if_false,List.take_succ_cons,z5e]
    obtain⟨z,hz⟩:=z2i (k4x hs) (r.takeWhile nlB)
    have hzt:z=(r.takeWhile nlB).take z.length:=by
     have:=z7j (c::r.takeWhile nlB)
     rw[hz,List.length_cons,List.take_succ_cons,List.cons.injEq]at this;exact this.2.symm
    have hlen:z.length<=(r.takeWhile nlB).length:=by
     have:=z1c (c::r.takeWhile nlB)
     rw[hz,List.length_cons,List.length_cons]at this;omega
    have hzz:z.takeWhile nlB=z:=by
     have:=z5f (p:=nlB) (r.takeWhile nlB) z.length (by rw[j9m];exact hlen)
     rw[<-hzt]at this;exact this
    refine⟨c,z,by rw[e,hz],hs,?_,?_,by rw[<-hz];exact j0p _⟩
    ·simp only[q6m,hl,hf,hn,if_true,Bool.false_eq_true,if_false,hzz]at ho⊢;rw[hzt];exact v0v ho _
    ·simp only[q1e,hl,hf,hn,if_true,Bool.false_eq_true,if_false,hzz,List.length_cons]
   | false=>
    have e:tkW (c::r)=[c]:=by
     simp only[tkW,q1e,hl,hf,hn,Bool.false_eq_true,if_false,List.take_succ_cons,List.take_zero];exact q2n [] (k4x hs)
    refine⟨c,[],e,hs,?_,?_,q2n [] (k4x hs)⟩
    ·simp only[q6m,hl,hf,hn,Bool.false_eq_true,if_false]at ho⊢;exact ho
    ·simp only[q1e,hl,hf,hn,Bool.false_eq_true,if_false,List.length_cons,List.length_nil]
theorem j9g{w:List UInt8}(h:q3k w):1<=w.length:=by
 obtain⟨c,r,rfl,_⟩:=h;simp
def spc:List (List UInt8)->List UInt8
 | []=>[]
 | w::r=>w++10::spc r
def q9x(s:List UInt8)(i:Nat)(x:Nat × List UInt8):Prop:=i<=x.1/\x.1+x.2.length<=i+s.length/\(s.drop (x.1-i)).take x.2.length=x.2/\q3k x.2
theorem q9x.later{s:List UInt8}{i k:Nat}{x:Nat × List UInt8}(h:q9x (s.drop k) (i+k) x)(hk:k<=s.length):q9x s i x:=by
 obtain⟨h1,h2,h3,h4⟩:=h;rw[List.length_drop]at h2;refine⟨by omega,by omega,?_,h4⟩;rw[List.drop_drop]at h3;have e:x.1-i=k+(x.1-(i+k)):=by omega
 rw[e];exact h3
theorem y0z:∀(n:Nat)(s:List UInt8)(i:Nat),s.length<=n->(∀x∈lxW s i,q9x s i x)/\(lxW s i).Pairwise (fun a b=>a.1+a.2.length<=b.1)
 | 0,s,i,h=>by
  have:s=[]:=List.eq_nil_of_length_eq_zero (by omega)
  subst this;rw[lxW,z4j];exact⟨fun x hx=>absurd hx List.not_mem_nil,List.Pairwise.nil⟩
 | n+1,s,i,h=>by
  cases s with
  | nil=>
   rw[lxW,z4j];exact⟨fun x hx=>absurd hx List.not_mem_nil,List.Pairwise.nil⟩
  | cons c r=>
   cases hs:spB c with
   | true=>
    obtain⟨h1,h2⟩:=y0z n r (i+1) (by simp at h;omega);rw[lxW,j5q r i hs];exact⟨fun x hx=>q9x.later (s:=c::r) (k:=1) (h1 x hx) (by simp),h2⟩
   | false=>
    cases ho:q6m (c::r)with
    | false=>
     rw[lxW,k6o i hs ho];exact⟨fun x hx=>absurd hx List.not_mem_nil,List.Pairwise.nil⟩
    | true=>
     have hp:=q5f c r;have hle:=z0y (c::r)
     have hw:(tkW (c::r)).length<=q1e (c::r):=by
      have:=z1c ((c::r).take (q1e (c::r)))
      rw[List.length_take]at this;rw[tkW];omega
     obtain⟨h1,h2⟩:=y0z n ((c::r).drop (q1e (c::r))) (i+q1e (c::r)) (by simp only[List.length_drop,List.length_cons]at h⊢;omega);rw[lxW,k6p i hs ho];refine⟨fun x hx=>?_,List.pairwise_cons.2 ⟨fun x hx=>?_,h2⟩⟩
     ·rcases List.mem_cons.1 hx with rfl|hx
      ·refine⟨Nat.le_refl _,by simp only;omega,?_,v8a hs ho⟩;simp only[Nat.sub_self,List.drop_zero];have h3:=z7j ((c::r).take (q1e (c::r)));rw[List.take_take,Nat.min_eq_left (by rw[tkW]at hw;exact hw)]at h3;exact h3
      ·exact(h1 x hx).later hle
     ·have:=(h1 x hx).1
      simp only;omega
def q2h(s:List UInt8):List (List UInt8):=(lxW s 0).map (·.2)
def z2c(s:List UInt8):List Nat:=(lxW s 0).map (·.1)
theorem z2r(s:List UInt8):(q2h s).length=(z2c s).length:=by simp[q2h,z2c]
theorem y6n(s:List UInt8)(j:Nat)(h:j<(q2h s).length)(h2:j<(z2c s).length):
  (z2c s)[j]+(q2h s)[j].length<=s.length/\(s.drop (z2c s)[j]).take (q2h s)[j].length=(q2h s)[j]/\q3k (q2h s)[j]/\∀k(hk:k<(q2h s).length)(hk2:k<(z2c s).length),k<j->(z2c s)[k]+(q2h s)[k].length<=(z2c s)[j]:=by
 obtain⟨a1,a2⟩:=y0z s.length s 0 Zl;have hj:j<(lxW s 0).length:=by simpa[q2h]using h
 obtain⟨_,b2,b3,b4⟩:=a1 (lxW s 0)[j] (List.getElem_mem hj);simp only[q2h,z2c,List.getElem_map]at *;refine⟨by omega,by simpa using b3,b4,fun k hk hk2 hkj=>?_⟩;exact List.pairwise_iff_getElem.1 a2 k j (by simpa using hk2) hj hkj
theorem y2m(s:List UInt8):∀w∈q2h s,q3k w:=by
 intro w hw;obtain⟨j,hj,rfl⟩:=List.getElem_of_mem hw;exact(y6n s j hj (by rw[<-z2r];exact hj)).2.2.1
theorem z8t:∀(n:Nat)(s:List UInt8)(i:Nat),s.length<=n->(lxW s i).length<=s.length
 | 0,s,i,h=>by
  have:s=[]:=List.eq_nil_of_length_eq_zero (by omega)
  subst this;rw[lxW,z4j];simp
 | n+1,s,i,h=>by
  cases s with
  | nil=>rw[lxW,z4j];simp
  | cons c r=>
   cases hs:spB c with
   | true=>
    have:=z8t n r (i+1) (by simp at h;omega)
    rw[lxW,j5q r i hs];simp only[List.length_cons];rw[lxW]at this;omega
   | false=>
    cases ho:q6m (c::r)with
    | false=>rw[lxW,k6o i hs ho];simp
    | true=>
     have hp:=q5f c r;have hle:=z0y (c::r)
     have:=z8t n ((c::r).drop (q1e (c::r))) (i+q1e (c::r)) (by simp only[List.length_drop,List.length_cons]at h⊢;omega)
     rw[lxW,k6p i hs ho];simp only[List.length_cons,List.length_drop]at this hle⊢;omega
theorem j9t(s:List UInt8):(q2h s).length<=s.length:=by
 have:=z8t s.length s 0 Zl
 simpa[q2h]using this
def y8y(w:List UInt8):Bool:=w.headD 0 != 35
def many(ws:List (List UInt8)):Nat:=(ws.filter y8y).length
theorem k6r(a b:List (List UInt8)):many (a++b)=many a+many b:=by simp[many]
def q7n(s:List UInt8):Int:=if 60000<s.length then 3 else if(lxF s 0).isSome then 5 else if 300<many (q2h s)then 3 else 0
def z9v(s:List UInt8):Nat:=if q7n s=5 then(lxF s 0).getD 0 else 0
theorem z4f{s:List UInt8}(h:q7n s=0):s.length<=60000/\lxF s 0=none/\many (q2h s)<=300:=by
 unfold q7n at h
 split at h
 ·cases h
 ·split at h
  ·cases h
  ·split at h
   ·cases h
   ·rename_i h1 h2 h3;exact⟨by omega,by simpa using h2,by omega⟩
abbrev btL(s:ByteArray):List UInt8:=s.data.toList
theorem q0c(s:ByteArray):(btL s).length=s.size:=(Lib.size_eq s).symm
theorem q1h{s:ByteArray}{k:Nat}(h:k<s.size):(btL s).drop k=s[k]::(btL s).drop (k+1):=by
 have hl:k<(btL s).length:=by rw[q0c];exact h
 rw[List.drop_eq_getElem_cons hl];rfl
def twN(p:UInt8->Bool)(s:ByteArray)(k:Nat):Nat:=(((btL s).drop k).takeWhile p).length
theorem z9q{p:UInt8->Bool}{s:ByteArray}{k:Nat}(h:k<s.size)(hp:p s[k]=true):twN p s k=twN p s (k+1)+1:=by
 rw[twN,q1h h,List.takeWhile_cons,if_pos hp];rfl
theorem k7t{p:UInt8->Bool}{s:ByteArray}{k:Nat}(h:k<s.size)(hp:p s[k]=false):twN p s k=0:=by
 rw[twN,q1h h,List.takeWhile_cons,if_neg (by simp[hp])];rfl
theorem z9p{p:UInt8->Bool}{s:ByteArray}{k:Nat}(h:¬k<s.size):twN p s k=0:=by
 rw[twN,List.drop_eq_nil_of_le (by rw[q0c];omega)];rfl
def prN(s:ByteArray)(k:Nat):Bool:=(((btL s).drop k).takeWhile nlB).all prB
theorem y1m{s:ByteArray}{k:Nat}(h:k<s.size)(hp:nlB s[k]=true):prN s k=(prB s[k]&&prN s (k+1)):=by
 rw[prN,q1h h,List.takeWhile_cons,if_pos hp,List.all_cons];rfl
theorem y5c{s:ByteArray}{k:Nat}(h:k<s.size)(hp:nlB s[k]=false):prN s k=true:=by
 rw[prN,q1h h,List.takeWhile_cons,if_neg (by simp[hp])];rfl
theorem y1l{s:ByteArray}{k:Nat}(h:¬k<s.size):prN s k=true:=by
 rw[prN,List.drop_eq_nil_of_le (by rw[q0c];omega)];rfl
def z2p(s:ByteArray)(i:Nat):Nat:=q1e ((btL s).drop i)
def tOk(s:ByteArray)(i:Nat):Bool:=q6m ((btL s).drop i)
theorem y8n{s:ByteArray}{i:Nat}(h:i<s.size)(hc:q2j s[i]=true):z2p s i=twN q2j s (i+1)+1/\tOk s i=decide (twN q2j s (i+1)+1<=8):=by
 rw[z2p,tOk,q1h h];simp only[q1e,q6m,hc,if_true];exact⟨rfl,rfl⟩
theorem y8m{s:ByteArray}{i:Nat}(h:i<s.size)(hc:q2j s[i]=false)(hf:q1z s[i]=true):z2p s i=twN q1z s (i+1)+1/\tOk s i=(decide (twN q1z s (i+1)+1<=6)&&(s[i] != 48||twN q1z s (i+1)==0)):=by
 rw[z2p,tOk,q1h h];simp only[q1e,q6m,hc,hf,if_true,Bool.false_eq_true,if_false];exact⟨rfl,rfl⟩
theorem y5q{s:ByteArray}{i:Nat}(h:i<s.size)(hc:q2j s[i]=false)(hf:q1z s[i]=false)(hn:(s[i]==35)=true):z2p s i=twN nlB s (i+1)+1/\tOk s i=prN s (i+1):=by
 rw[z2p,tOk,q1h h];simp only[q1e,q6m,hc,hf,hn,if_true,Bool.false_eq_true,if_false];exact⟨rfl,rfl⟩
theorem y5p{s:ByteArray}{i:Nat}(h:i<s.size)(hc:q2j s[i]=false)(hf:q1z s[i]=false)(hn:(s[i]==35)=false):z2p s i=1/\tOk s i=y6w s[i]:=by
 rw[z2p,tOk,q1h h];simp only[q1e,q6m,hc,hf,hn,Bool.false_eq_true,if_false];exact⟨trivial,trivial⟩
theorem y8z{s:ByteArray}{i:Nat}(h:i<s.size):1<=z2p s i/\i+z2p s i<=s.size:=by
 have h1:=z0y ((btL s).drop i);rw[List.length_drop,q0c]at h1;rw[z2p];refine⟨?_,by omega⟩;rw[q1h h];exact q5f _ _
theorem q5w(c:UInt8)(n:Nat)(hn:n<256):((c.toNat:Int)==(n:Int))=(c==UInt8.ofNat n):=by
 by_cases h:c=UInt8.ofNat n
 ·subst h;rw[beq_iff_eq.2 (show((UInt8.ofNat n).toNat:Int)=(n:Int) by simp[Nat.mod_eq_of_lt hn])];simp
 ·rw[beq_false_of_ne h,beq_false_of_ne];intro e;apply h
  have:c.toNat=n:=by omega
  rw[<-this];simp
def wbS(w:List UInt8):ByteArray:=⟨w.toArray⟩
theorem q9s(s:ByteArray)(i e:Nat):s.extract i e=wbS (((btL s).drop i).take (e-i)):=by
 apply ByteArray.ext;rw[ByteArray.data_extract];apply Array.ext';simp only[wbS,Array.toList_extract,List.extract]
def q8f(b:UInt8):Bool:=decide (33<=b.toNat)&&decide (b.toNat<=126)
def okW(x:ByteArray):Bool:=decide (1<=x.size)&&decide (x.size<=20)&&x.data.toList.all q8f
def q1d(ws:List ByteArray):Int:=if 60<ws.length then 3 else if ws.all okW then 0 else 5
def q6o(ws:List ByteArray)(wd:Int):Int:=if q1d ws≠0 then q1d ws else if wd<1\/100<wd then 1 else 0
theorem q9t{ws:List ByteArray}(h:q1d ws=0):ws.length<=60/\∀x∈ws,okW x=true:=by
 unfold q1d at h
 split at h
 ·cases h
 ·split at h
  ·rename_i h1 h2;exact⟨by omega,fun x hx=>List.all_eq_true.1 h2 x hx⟩
  ·cases h
theorem v3r{x:ByteArray}(h:okW x=true):1<=x.size/\x.size<=20:=by
 simp only[okW,Bool.and_eq_true,decide_eq_true_eq]at h;exact h.1
def Few(ws:List ByteArray):Prop:=ws.length<=60/\∀x∈ws,x.size<=20
theorem v6r{ws:List ByteArray}(h:q1d ws=0):Few ws:=⟨(q9t h).1,fun x hx=>(v3r ((q9t h).2 x hx)).2⟩
theorem Few.take{ws:List ByteArray}(h:Few ws)(k:Nat):Few (ws.take k):=⟨by have:=h.1;simp;omega,fun x hx=>h.2 x (List.mem_of_mem_take hx)⟩
theorem Few.drop{ws:List ByteArray}(h:Few ws)(k:Nat):Few (ws.drop k):=⟨by have:=h.1;simp;omega,fun x hx=>h.2 x (List.mem_of_mem_drop hx)⟩
theorem k8q{ws:List ByteArray}{wd:Int}(h:q6o ws wd=0):q1d ws=0/\∃n:Nat,wd=n/\1<=n/\n<=100:=by
 unfold q6o at h
 split at h
 ·rename_i h1;exact absurd h h1
 ·rename_i h1
  split at h
  ·cases h
  ·refine⟨by omega,wd.toNat,by omega,by omega,by omega⟩
def tot:List ByteArray->Nat
 | []=>0
 | x::r=>x.size+tot r
theorem y2f(a b:List ByteArray):tot (a++b)=tot a+tot b:=by
 induction a with
 | nil=>simp[tot]
 | cons x r ih=>simp only[List.cons_append,tot,ih];omega
theorem v5m{ws:List ByteArray}{i:Nat}(h:i<ws.length):tot (ws.take (i+1))=tot (ws.take i)+ws[i].size:=by
 rw[List.take_succ_eq_append_getElem h,y2f];simp[tot]
theorem y5w{ws:List ByteArray}(h:∀x∈ws,x.size<=20):tot ws<=20*ws.length:=by
 induction ws with
 | nil=>simp[tot]
 | cons x r ih=>
  have h1:=h x (by simp);have h2:=ih fun y hy=>h y (by simp[hy])
  simp only[tot,List.length_cons];omega
theorem Few.tot{ws:List ByteArray}(h:Few ws):tot ws<=1200:=by
 have:=y5w h.2
 have:=h.1
 omega
def ln(ws:List ByteArray):Nat:=tot ws+(ws.length-1)
theorem Few.ln{ws:List ByteArray}(h:Few ws):ln ws<=1260:=by
 have:=h.tot
 have:=h.1
 simp only[Go.Proofs.YthjapabokcajhaaGreatDoor.ln];omega
def jnL(ws:List ByteArray):List UInt8:=Lib.join (ws.map (·.data.toList)) [32]
def jnS(ws:List ByteArray):ByteArray:=⟨(jnL ws).toArray⟩
theorem v3b(ws:List ByteArray):Lib.lens (ws.map (·.data.toList))=tot ws:=by
 induction ws with
 | nil=>rfl
 | cons x r ih=>
  have e:Lib.lens ((x::r).map (·.data.toList))=x.data.toList.length+Lib.lens (r.map (·.data.toList)):=by simp[Lib.lens]
  rw[e,ih,tot,Lib.size_eq]
theorem j4k(ws:List ByteArray):(jnL ws).length=ln ws:=by
 cases ws with
 | nil=>rfl
 | cons x r=>
  have h:=Lib.join_length x.data.toList (r.map (·.data.toList)) [32];have h2:=v3b (x::r);simp only[List.map_cons]at h2;simp only[jnL,List.map_cons,h,h2,ln,List.length_cons,List.length_nil,List.length_map];omega
theorem z3b(ws:List ByteArray):(jnS ws).size=ln ws:=by
 rw[<-j4k];simp[jnS,ByteArray.size]
theorem v9z:jnS []=⟨#[]⟩:=rfl
theorem v6i(a b:List UInt8):(⟨a.toArray⟩:ByteArray)++⟨b.toArray⟩=⟨(a++b).toArray⟩:=by
 apply ByteArray.ext;simp
theorem v8o(x:ByteArray):(⟨x.data.toList.toArray⟩:ByteArray)=x:=by cases x;simp
theorem j4l{ws:List ByteArray}(h:0<ws.length):jnS (ws.take 1)=ws[0]:=by
 cases ws with
 | nil=>simp at h
 | cons x r=>simp[jnS,jnL,Lib.join_one]
theorem v2t(x:ByteArray)(r:List ByteArray)(y:ByteArray):jnL (x::r++[y])=jnL (x::r)++[32]++y.data.toList:=by
 simp only[jnL,List.map_cons,List.cons_append,List.map_append,List.map_nil,Lib.join_cons,Lib.joinTail,List.flatten_append,List.flatten_cons,List.flatten_nil,List.append_nil,List.append_assoc]
theorem v2u{ws:List ByteArray}{i:Nat}(h0:0<i)(h:i<ws.length):jnS (ws.take (i+1))=jnS (ws.take i)++⟨#[32]⟩++ws[i]:=by
 rw[List.take_succ_eq_append_getElem h];cases ws with
 | nil=>simp at h
 | cons x r=>
  obtain⟨j,rfl⟩:∃j,i=j+1:=⟨i-1,by omega⟩;simp only[List.take_succ_cons];have e:=v2t x (r.take j) ((x::r)[j+1]'h);simp only[jnS,e];have e2:(⟨#[32]⟩:ByteArray)=⟨([32]:List UInt8).toArray⟩:=rfl;rw[e2]
  conv=>rhs;rw[<-v8o ((x::r)[j+1]'h)]
  rw[v6i,v6i]
def bd(n wd:Nat)(last:Bool):Nat:=if wd<n then 1000*(n-wd)else if last then 0 else(wd-n)*(wd-n)
theorem y3k{n wd:Nat}{last:Bool}(h1:n<=1260)(h2:wd<=100):bd n wd last<=1300000:=by
 unfold bd
 split
 ·omega
 ·split
  ·omega
  ·have:(wd-n)*(wd-n)<=100*100:=Nat.mul_le_mul (by omega) (by omega)
   omega
def q9c(g:Nat->Nat):Nat->Nat
 | 0=>0
 | n+1=>if n=0\/g (n+1)<=q9c g n then g (n+1)else q9c g n
def j0y(g:Nat->Nat):Nat->Nat
 | 0=>0
 | n+1=>if n=0\/g (n+1)<=q9c g n then n+1 else j0y g n
theorem z6w{g h:Nat->Nat}:∀n,(∀k,1<=k->k<=n->g k=h k)->q9c g n=q9c h n
 | 0,_=>rfl
 | n+1,e=>by
  have ih:=z6w n fun k h1 h2=>e k h1 (by omega)
  simp only[q9c,ih,e (n+1) (by omega) Zl]
theorem k3z(g:Nat->Nat):∀n k,1<=k->k<=n->q9c g n<=g k
 | 0,k,h1,h2=>by omega
 | n+1,k,h1,h2=>by
  simp only[q9c]
  split
  ·rename_i h;by_cases hk:k=n+1
   ·subst hk;exact Nat.le_refl _
   ·have:=k3z g n k h1 (by omega)
    rcases h with h|h<;>omega
  ·rename_i h;by_cases hk:k=n+1
   ·subst hk;omega
   ·exact k3z g n k h1 (by omega)
theorem k5m(g:Nat->Nat):∀n,1<=n->1<=j0y g n/\j0y g n<=n
 | 0,h=>by omega
 | n+1,h=>by
  simp only[j0y]
  split
  ·omega
  ·rename_i h1
   have:=k5m g n (by omega)
   omega
theorem j1o(g:Nat->Nat):∀n,1<=n->g (j0y g n)=q9c g n
 | 0,h=>by omega
 | n+1,h=>by
  simp only[j0y,q9c]
  split
  ·rfl
  ·rename_i h1;exact j1o g n (by omega)
theorem k0d(g:Nat->Nat):∀n k,j0y g n<k->k<=n->1<=k->g k≠q9c g n
 | 0,k,h1,h2,h3=>by omega
 | n+1,k,h1,h2,h3=>by
  simp only[j0y]at h1;simp only[q9c]
  split at h1
  ·omega
  ·rename_i h;rw[if_neg h];by_cases hk:k=n+1
   ·subst hk;omega
   ·exact k0d g n k h1 (by omega) h3
theorem j5v(g:Nat->Nat)(n:Nat):q9c g (n+1)=if n=0\/g (n+1)<q9c g n then g (n+1)else q9c g n:=by
 simp only[q9c];by_cases h0:n=0
 ·simp[h0]
 ·simp only[h0,false_or]
  split<;>split<;>omega
def k8d(wd:Nat):List ByteArray->List Nat
 | []=>[0]
 | x::r=>q9c (fun k=>bd (ln ((x::r).take k)) wd (k==r.length+1)+(k8d wd r).getD (k-1) 0) (r.length+1)::k8d wd r
def best(wd:Nat)(ws:List ByteArray):Nat:=(k8d wd ws).getD 0 0
theorem z7x(wd:Nat):best wd []=0:=rfl
theorem z6c(wd:Nat):∀(ws:List ByteArray)(j:Nat),j<=ws.length->(k8d wd ws).getD j 0=best wd (ws.drop j)
 | _,0,_=>by simp[best]
 | [],j+1,h=>by simp at h
 | x::r,j+1,h=>by
  have:=z6c wd r j (by simp at h;omega)
  simpa[k8d]using this
def fOf(wd:Nat)(ws:List ByteArray)(k:Nat):Nat:=bd (ln (ws.take k)) wd (k==ws.length)+best wd (ws.drop k)
theorem z3m(wd:Nat){ws:List ByteArray}(h:ws≠[]):best wd ws=q9c (fOf wd ws) ws.length:=by
 cases ws with
 | nil=>exact absurd rfl h
 | cons x r=>
  simp only[best,k8d,List.getD_cons_zero,List.length_cons];refine z6w _ fun k h1 h2=>?_
  obtain⟨j,rfl⟩:∃j,k=j+1:=⟨k-1,by omega⟩;simp only[fOf,List.length_cons,List.drop_succ_cons,Nat.add_sub_cancel];rw[z6c wd r j (by omega)]
theorem j1y{wd:Nat}(hw:wd<=100):∀(n:Nat)(ws:List ByteArray),ws.length<=n->Few ws->best wd ws<=1300000
 | 0,ws,h,_=>by
  have:ws=[]:=List.eq_nil_of_length_eq_zero (by omega)
  subst this;simp[z7x]
 | n+1,ws,h,hf=>by
  by_cases h0:ws=[]
  ·subst h0;simp[z7x]
  ·have hp:0<ws.length:=List.length_pos_iff.2 h0;rw[z3m wd h0];refine Nat.le_trans (k3z _ _ ws.length hp Zl) ?_;simp only[fOf,List.drop_length,z7x]
   have:=y3k (last:=(ws.length==ws.length)) (hf.take ws.length).ln hw
   omega
theorem j3m{wd:Nat}(hw:wd<=100){ws:List ByteArray}(hf:Few ws)(k:Nat):fOf wd ws k<=2600000:=by
 have h1:=j1y hw _ (ws.drop k) Zl (hf.drop k);have h2:=y3k (last:=(k==ws.length)) (hf.take k).ln hw;simp only[fOf];omega
def agF(wd:Nat)(ws:List ByteArray):Nat:=j0y (fOf wd ws) ws.length
theorem z1j(wd:Nat){ws:List ByteArray}(h:ws≠[]):1<=agF wd ws/\agF wd ws<=ws.length:=k5m _ _ (List.length_pos_iff.2 h)
def z3s(wd:Nat)(ws:List ByteArray):List Nat:=
 if _h:ws=[]then []else agF wd ws::z3s wd (ws.drop (agF wd ws))
termination_by ws.length
decreasing_by
 have:=z1j wd _h
 simp only[List.length_drop];omega
theorem z2y(wd:Nat):z3s wd []=[]:=by rw[z3s];simp
theorem z0d(wd:Nat){ws:List ByteArray}(h:ws≠[]):z3s wd ws=agF wd ws::z3s wd (ws.drop (agF wd ws)):=by
 rw[z3s,dif_neg h]
def j5k:List ByteArray->List Nat->List ByteArray
 | _,[]=>[]
 | ws,k::ks=>jnS (ws.take k)::j5k (ws.drop k) ks
structure Td where
 op:Int
 tx:ByteArray
 n:Int
def kdT(x:Td):Nat:=if x.op=3\/x.op=4 then x.n.toNat else if x.op=5\/x.op=6 then 2 else if x.op=7\/x.op=8 then 1 else 0
def z6d:List Td->Nat->Option Nat
 | _,0=>some 0
 | [],_+1=>none
 | x::r,m+1=>(z6d r (kdT x+m)).map (· + 1)
theorem q7q(ds:List Td):z6d ds 0=some 0:=by cases ds<;>rfl
theorem q8k(m:Nat):z6d [] (m+1)=none:=rfl
theorem q4y(x:Td)(r:List Td)(m:Nat):z6d (x::r) (m+1)=(z6d r (kdT x+m)).map (· + 1):=rfl
theorem k3h:∀(ds:List Td)(m k:Nat),z6d ds m=some k->m<=k/\k<=ds.length
 | ds,0,k,h=>by rw[q7q]at h;cases h;simp
 | [],m+1,k,h=>by rw[q8k]at h;cases h
 | x::r,m+1,k,h=>by
  rw[q4y,Option.map_eq_some_iff]at h;obtain⟨j,h1,rfl⟩:=h
  have:=k3h r _ j h1
  simp;omega
theorem z8c:∀(ds:List Td)(a b:Nat),z6d ds (a+b)=(z6d ds a).bind fun k=>(z6d (ds.drop k) b).map (k+·)
 | ds,0,b=>by
  rw[q7q];simp
 | [],a+1,b=>by rw[show a+1+b=(a+b)+1 by omega,q8k,q8k];rfl
 | x::r,a+1,b=>by
  rw[show a+1+b=(a+b)+1 by omega,q4y,q4y,show kdT x+(a+b)=(kdT x+a)+b by omega,z8c r _ b];cases z6d r (kdT x+a)with
  | none=>rfl
  | some k=>
   simp only[Option.bind_some,Option.map_some,List.drop_succ_cons];cases z6d (r.drop k) b with
   | none=>rfl
   | some j=>simp;omega
def q3q(ds:List Td)(i m:Nat):Option Nat:=(z6d (ds.drop i) m).map (i+·)
theorem k0o(ds:List Td)(i:Nat):q3q ds i 0=some i:=by simp[q3q,q7q]
theorem q8m(ds:List Td)(i m:Nat)(h:ds.length<=i):q3q ds i (m+1)=none:=by
 rw[q3q,List.drop_eq_nil_of_le h,q8k];rfl
theorem z3v(ds:List Td)(i m:Nat)(h:i<ds.length):q3q ds i (m+1)=q3q ds (i+1) (kdT ds[i]+m):=by
 rw[q3q,List.drop_eq_getElem_cons h,q4y,q3q];cases z6d (ds.drop (i+1)) (kdT ds[i]+m)with
 | none=>rfl
 | some k=>simp;omega
theorem v1v(ds:List Td)(i a b:Nat):q3q ds i (a+b)=(q3q ds i a).bind fun j=>q3q ds j b:=by
 rw[q3q,z8c,q3q];cases z6d (ds.drop i) a with
 | none=>rfl
 | some k=>
  simp only[Option.bind_some,Option.map_some,q3q,List.drop_drop];cases z6d (ds.drop (i+k)) b with
  | none=>rfl
  | some j=>simp;omega
theorem v9q{ds:List Td}{i m j:Nat}(h:q3q ds i m=some j):i+m<=j/\(m=0\/j<=ds.length):=by
 rw[q3q,Option.map_eq_some_iff]at h;obtain⟨k,h1,rfl⟩:=h;have h2:=k3h _ _ _ h1;rw[List.length_drop]at h2;omega
def q0o(s:ByteArray):Bool:=decide (1<=s.size)&&decide (s.size<=8)&&decide (btL s≠[108,101,116])&&(btL s).all q2j
def q5j:List UInt8->List (List UInt8)
 | []=>[[]]
 | c::r=>if c=32 then []::q5j r else match q5j r with
  | []=>[[c]]
  | w::ws=>(c::w)::ws
theorem q9q(s:List UInt8):q5j s≠[]:=by
 cases s with
 | nil=>simp[q5j]
 | cons c r=>
  simp only[q5j]
  split
  ·simp
  ·split<;>simp
theorem q6h(r:List UInt8):q5j (32::r)=[]::q5j r:=by simp[q5j]
theorem q4u{c:UInt8}(h:c≠32){r w:List UInt8}{ws:List (List UInt8)}(hr:q5j r=w::ws):q5j (c::r)=(c::w)::ws:=by
 simp only[q5j,if_neg h,hr]
theorem k7m(u r:List UInt8)(h:∀b∈u,b≠32):q5j (u++32::r)=u::q5j r:=by
 induction u with
 | nil=>exact q6h r
 | cons c u ih=>
  have ih':=ih fun b hb=>h b (by simp[hb])
  rw[List.cons_append,q4u (h c (by simp)) ih']
theorem k7n(u:List UInt8)(h:∀b∈u,b≠32):q5j u=[u]:=by
 induction u with
 | nil=>rfl
 | cons c u ih=>rw[q4u (h c (by simp)) (ih fun b hb=>h b (by simp[hb]))]
def q0e(s:List UInt8):List (List UInt8):=if s=[]then []else q5j s
def q2u(s:ByteArray):Int:=q1d ((q0e (btL s)).map wbS)
def q2s(op:Int):Bool:=decide (op=2)||decide (op=3)||decide (op=7)||decide (op=9)
def q0t(x:Td):Int:=
 if x.op<1\/9<x.op then 1
 else if(x.op=1/\(x.n<0\/999999<x.n))\/((x.op=3\/x.op=4)/\(x.n<0\/6<x.n))then 1
 else if(x.op≠1/\x.op≠3/\x.op≠4/\x.n≠0)\/(q2s x.op=false/\0<x.tx.size)then 2
 else if x.op=9 then q2u x.tx
 else if q2s x.op=true/\q0o x.tx=false then 5 else 0
def v0p:List Td->Int
 | []=>0
 | x::r=>if q0t x=0 then v0p r else q0t x
theorem k6i:∀(ds:List Td),(∀x∈ds,q0t x=0)->v0p ds=0
 | [],_=>rfl
 | x::r,h=>by rw[v0p,if_pos (h x (by simp)),k6i r fun y hy=>h y (by simp[hy])]
theorem k0v:∀(ds:List Td),v0p ds=0->∀x∈ds,q0t x=0
 | [],_=>by simp
 | x::r,h=>by
  rw[v0p]at h
  split at h
  ·rename_i h0;intro y hy;rcases List.mem_cons.1 hy with rfl|hy
   ·exact h0
   ·exact k0v r h y hy
  ·rename_i h0;exact absurd h h0
theorem j4f:∀(ds:List Td)(k:Nat)(h:k<ds.length),(∀x∈ds.take k,q0t x=0)->q0t ds[k]≠0->v0p ds=q0t ds[k]
 | x::r,0,_,_,h=>by
  have h':q0t x≠0:=h;rw[v0p,if_neg h'];rfl
 | x::r,k+1,hk,ha,h=>by
  rw[v0p,if_pos (ha x (by simp)),j4f r k (by simpa using hk) (fun y hy=>ha y (by simp[hy])) h];rfl
def k5b(ds:List Td):Bool:=match ds with
 | []=>true
 | x::r=>decide (7<=x.op)&&r.all fun y=>decide (y.op<7)
def q0b(ds:List Td):Int:=
 if 40<ds.length then 3 else if v0p ds≠0 then v0p ds else if q3q ds 0 1=some ds.length/\k5b ds=true then 0 else 2
theorem q3f{ds:List Td}(h:q0b ds=0):ds.length<=40/\(∀x∈ds,q0t x=0)/\q3q ds 0 1=some ds.length/\k5b ds=true:=by
 unfold q0b at h
 split at h
 ·cases h
 ·split at h
  ·rename_i h1;exact absurd h h1
  ·rename_i h0 h1
   split at h
   ·rename_i h2;exact⟨by omega,k0v ds (by omega),h2.1,h2.2⟩
   ·cases h
theorem v6w{x:Td}(h:q0t x=0):kdT x<=6:=by
 unfold q0t at h
 split at h
 ·cases h
 ·split at h
  ·cases h
  ·rename_i h1 h2;unfold kdT
   split
   ·omega
   ·split
    ·omega
    ·split<;>omega
end Go.Proofs.YthjapabokcajhaaGreatDoor
