import Derived.Test.YthcpdohdppkmkaaGreatDoorProg
import Derived.Below
import Derived.WalkKit
import Derived.Outline
import Derived.WalkLawsBesides
import Derived.Lib.Strings
import Derived.Lib.Join
instance : Coe Int Go.Value := ⟨.int .i64⟩
instance : Coe Nat Go.Value := ⟨fun n => .int .i64 (n : Int)⟩
instance : Coe Nat Go.Addr := ⟨fun b => ⟨b, 0, none⟩⟩
instance (b o : Nat) : CoeDep (Nat × Nat) (b, o) Go.Addr := ⟨⟨b, o, none⟩⟩
instance : Coe Go.World Nat := ⟨fun w => w.heap.size⟩
namespace Go.Proofs.YthcpdohdppkmkaaGreatDoor
theorem Zl {n : Nat} : n ≤ n := Nat.le_refl n
theorem Zb {n : Nat} {w : Go.World} : Go.RowKit.Below n w w := Go.RowKit.Below.refl n w
end Go.Proofs.YthcpdohdppkmkaaGreatDoor
theorem Go.RowKit.Hid.o {p : Prop} (h : Go.RowKit.Hid p) : p := h
open Go.Proofs.Tryz
namespace Go.Proofs.YthcpdohdppkmkaaGreatDoor
open Go Go.RowKit
def q0s(n:Int):Value:=if n=0 then .nilIface else .iface 22 (.int .i64 n)
theorem q0e:q0s 0=.nilIface:=rfl
theorem z7f:q0s 1=.iface 22 (.int .i64 1):=rfl
theorem k2e:q0s 2=.iface 22 (.int .i64 2):=rfl
theorem k9u:q0s 3=.iface 22 (.int .i64 3):=rfl
theorem y9z:q0s 4=.iface 22 (.int .i64 4):=rfl
theorem y1m:q0s 5=.iface 22 (.int .i64 5):=rfl
theorem q0f{n:Int}(h:n≠0):q0s n=.iface 22 (.int .i64 n):=by simp[q0s,h]
theorem q1c{W w1:World}(hb:Below W W w1):(∀b o,b<W.heap.size->w1.cell? ⟨b,o,none⟩=W.cell? ⟨b,o,none⟩)/\(∀b o,b<W.heap.size->w1.frozen? ⟨b,o,none⟩=W.frozen? ⟨b,o,none⟩):=
 ⟨fun b o h=>hb.cell (p:=⟨b,o,none⟩) h,fun b o h=>hb.frozen (p:=⟨b,o,none⟩) h⟩
theorem ane{b o b' o':Nat}(h:b≠b'\/o≠o'):(⟨b,o,none⟩:Addr)≠⟨b',o',none⟩:=by
 intro e;simp at e;omega
theorem cso{W:World}{b o b' o':Nat}{v:Value}(h:b≠b'\/o≠o'):(W.setCell ⟨b,o,none⟩ v).cell? ⟨b',o',none⟩=W.cell? ⟨b',o',none⟩:=World.cell?_setCell_other (h:=ane h) ..
theorem css{W:World}{a:Addr}{v u:Value}(h:W.cell? a=some u):(W.setCell a v).cell? a=some v:=World.cell?_setCell_same (h:=h) ..
theorem csf{W:World}{a b:Addr}{v:Value}:(W.setCell a v).frozen? b=W.frozen? b:=World.frozen?_setCell ..
theorem q7o{n:Nat}{w w1 w2:World}{A:Obj}(h1:Below n w w1)(hn:n<=w.heap.size)(hb:Below (w1.alloc A).heap.size (w1.alloc A) w2):Below n w w2:=
 (h1.alloc (by have:=h1.size;omega) _).trans (hb.mono (by have:=h1.size;simp;omega))
theorem q0c{n:Nat}{w w1 w2:World}(h1:Below n w w1)(hn:n<=w.heap.size)(hb:Below w1 w1 w2):Below n w w2:=
 h1.trans (hb.mono (by have:=h1.size;omega))
theorem hid{p:Prop}(h:p):Hid p:=h
def spB(c:UInt8):Bool:=c==32||c==10
def q3w(c:UInt8):Bool:=decide (97<=c.toNat)&&decide (c.toNat<=122)
def q4d(c:UInt8):Bool:=decide (48<=c.toNat)&&decide (c.toNat<=57)
def nlB(c:UInt8):Bool:=c != 10
def prB(c:UInt8):Bool:=decide (32<=c.toNat)&&decide (c.toNat<=126)
def g1l:List UInt8:=[40,41,91,93,44,43,42,61,59]
def y8y(c:UInt8):Bool:=g1l.any (·==c)
def q0t:List UInt8->Nat
 | []=>0
 | c::r=>if q3w c then(r.takeWhile q3w).length+1 else if q4d c then(r.takeWhile q4d).length+1 else if c==35 then(r.takeWhile nlB).length+1 else 1
def q5f:List UInt8->Bool
 | []=>false
 | c::r=>if q3w c then decide ((r.takeWhile q3w).length+1<=8)else if q4d c then decide ((r.takeWhile q4d).length+1<=6)&&(c != 48||(r.takeWhile q4d).length==0)else if c==35 then(r.takeWhile nlB).all prB else y8y c
def q1f(w:List UInt8):List UInt8:=(w.reverse.dropWhile (·==32)).reverse
theorem z5x(w:List UInt8):q1f (w++[32])=q1f w:=by simp[q1f]
theorem q1m(w:List UInt8){c:UInt8}(h:c≠32):q1f (w++[c])=w++[c]:=by simp[q1f,h]
theorem v3f:q1f []=[]:=rfl
theorem z5y(w:List UInt8):∃z,w=q1f w++z:=by
 refine⟨(w.reverse.takeWhile (·==32)).reverse,?_⟩;rw[q1f,<-List.reverse_append,List.takeWhile_append_dropWhile,List.reverse_reverse]
theorem z1l(w:List UInt8):(q1f w).length<=w.length:=by
 obtain⟨z,hz⟩:=z5y w
 have:=congrArg List.length hz
 rw[List.length_append]at this;omega
theorem z8h(w:List UInt8):w.take (q1f w).length=q1f w:=by
 obtain⟨z,hz⟩:=z5y w;have h2:w.take (q1f w).length=(q1f w++z).take (q1f w).length:=congrArg (List.take _) hz;rw[h2,List.take_left]
theorem z5z:∀(n:Nat)(w:List UInt8),w.length<=n->q1f (q1f w)=q1f w
 | n,w,h=>by
  rcases List.eq_nil_or_concat w with rfl|⟨v,c,rfl⟩
  ·rfl
  ·rw[List.concat_eq_append]at h⊢;by_cases hc:c=32
   ·subst hc;rw[z5x]
    match n,h with
    | 0,h=>simp at h
    | n+1,h=>exact z5z n v (by simp at h;omega)
   ·rw[q1m v hc,q1m v hc]
theorem j4o(w:List UInt8):q1f (q1f w)=q1f w:=z5z _ w Zl
theorem z2y{c:UInt8}(h:c≠32)(r:List UInt8):∃z,q1f (c::r)=c::z:=by
 obtain⟨z,hz⟩:=z5y (c::r);cases ht:q1f (c::r)with
 | nil=>
  exfalso
  have h1:∀(l:List UInt8),l.dropWhile (·==32)=[]->∀x∈l,x=32:=by
   intro l
   induction l with
   | nil=>intro _ x hx;cases hx
   | cons a l ih=>
    intro h2 x hx;rw[List.dropWhile_cons]at h2;by_cases ha:(a==32)=true
    ·rw[if_pos ha]at h2;rcases List.mem_cons.1 hx with rfl|hx
     ·exact beq_iff_eq.1 ha
     ·exact ih h2 x hx
    ·rw[if_neg ha]at h2;cases h2
  rw[q1f,List.reverse_eq_nil_iff]at ht;exact h (h1 _ ht c (by simp))
 | cons a b=>
  rw[ht,List.cons_append,List.cons.injEq]at hz;exact⟨b,by rw[hz.1]⟩
def tkW(s:List UInt8):List UInt8:=q1f (s.take (q0t s))
theorem q5a(c:UInt8)(r:List UInt8):1<=q0t (c::r):=by
 simp only[q0t]
 split
 ·omega
 ·split
  ·omega
  ·split<;>omega
theorem j1v{α:Type}(p:α->Bool)(l:List α):(l.takeWhile p).length<=l.length:=by
 induction l with
 | nil=>simp
 | cons a l ih=>
  rw[List.takeWhile_cons]
  split
  ·simp;omega
  ·simp
theorem z1j(s:List UInt8):q0t s<=s.length:=by
 cases s with
 | nil=>simp[q0t]
 | cons c r=>
  have h1:=j1v q3w r;have h2:=j1v q4d r;have h3:=j1v nlB r;simp only[q0t,List.length_cons]
  split
  ·omega
  ·split
   ·omega
   ·split<;>omega
def lx(s:List UInt8)(i:Nat):List (Nat × List UInt8) × Option Nat:=
 match s with
 | []=>([],none)
 | c::r=>
  if spB c then lx r (i+1)
  else if q5f (c::r)then((i,tkW (c::r))::(lx ((c::r).drop (q0t (c::r))) (i+q0t (c::r))).1,(lx ((c::r).drop (q0t (c::r))) (i+q0t (c::r))).2)
  else([],some i)
termination_by s.length
decreasing_by
 all_goals first
  | (have:=q5a c r;simp only[List.length_drop,List.length_cons];omega)
  | (simp only[List.length_cons];omega)
def lxW(s:List UInt8)(i:Nat):List (Nat × List UInt8):=(lx s i).1
def lxF(s:List UInt8)(i:Nat):Option Nat:=(lx s i).2
theorem q9c(i:Nat):lx [] i=([],none):=by rw[lx]
theorem k3l{c:UInt8}(r:List UInt8)(i:Nat)(h:spB c=true):lx (c::r) i=lx r (i+1):=by rw[lx,if_pos h]
theorem z7t{c:UInt8}{r:List UInt8}(i:Nat)(h:spB c=false)(ho:q5f (c::r)=true):
  lx (c::r) i=((i,tkW (c::r))::lxW ((c::r).drop (q0t (c::r))) (i+q0t (c::r)),lxF ((c::r).drop (q0t (c::r))) (i+q0t (c::r))):=by
 rw[lx,if_neg (by simp[h]),if_pos ho];rfl
theorem j0m{c:UInt8}{r:List UInt8}(i:Nat)(h:spB c=false)(ho:q5f (c::r)=false):lx (c::r) i=([],some i):=by
 rw[lx,if_neg (by simp[h]),if_neg (by simp[ho])]
theorem k1f{p:UInt8->Bool}{x:UInt8}(h:p x=false)(t:List UInt8):∀r:List UInt8,(r++x::t).takeWhile p=r.takeWhile p
 | []=>by rw[List.nil_append,List.takeWhile_cons,if_neg (by simp[h])];rfl
 | a::r=>by
  rw[List.cons_append,List.takeWhile_cons,List.takeWhile_cons,k1f h t r]
theorem g2y(c:UInt8)(r t:List UInt8):q0t (c::r++10::t)=q0t (c::r)/\q5f (c::r++10::t)=q5f (c::r):=by
 have h1:=k1f (p:=q3w) (x:=10) rfl t r;have h2:=k1f (p:=q4d) (x:=10) rfl t r;have h3:=k1f (p:=nlB) (x:=10) rfl t r;simp only[List.cons_append,q0t,q5f,h1,h2,h3,and_self]
def q3v(w:List UInt8):Prop:=∃c r,w=c::r/\spB c=false/\q5f (c::r)=true/\q0t (c::r)=(c::r).length/\q1f (c::r)=c::r
theorem z6a{p:UInt8->Bool}:∀(r:List UInt8)(k:Nat),k<=(r.takeWhile p).length->(r.take k).takeWhile p=r.take k
 | _,0,_=>by simp
 | [],k+1,h=>by simp at h
 | a::r,k+1,h=>by
  rw[List.takeWhile_cons]at h;by_cases ha:p a=true
  ·rw[if_pos ha]at h;rw[List.take_succ_cons,List.takeWhile_cons,if_pos ha,z6a r k (by simp at h;omega)]
  ·rw[if_neg ha]at h;simp at h
theorem z6x{p:UInt8->Bool}(r:List UInt8):r.take (r.takeWhile p).length=r.takeWhile p:=by
 have:=z6a (p:=p) r (r.takeWhile p).length Zl
 induction r with
 | nil=>rfl
 | cons a r ih=>
  rw[List.takeWhile_cons]
  split
  ·rw[List.length_cons,List.take_succ_cons,ih (z6a r _ Zl)]
  ·rfl
theorem v4x{p:UInt8->Bool}{l:List UInt8}(h:l.all p=true)(k:Nat):(l.take k).all p=true:=by
 rw[List.all_eq_true]at h⊢;exact fun x hx=>h x (List.mem_of_mem_take hx)
theorem g5z{p:UInt8->Bool}{l:List UInt8}(h:∀x,p x=true->x≠32):q1f (l.takeWhile p)=l.takeWhile p:=by
 rcases List.eq_nil_or_concat (l.takeWhile p)with e|⟨v,c,e⟩
 ·rw[e];rfl
 ·rw[e,List.concat_eq_append];refine q1m v (h c ?_);have hm:c∈l.takeWhile p:=by rw[e];simp
  have hall:∀(l:List UInt8)x,x∈l.takeWhile p->p x=true:=by
   intro l
   induction l with
   | nil=>intro x hx;cases hx
   | cons a l ih=>
    intro x hx;rw[List.takeWhile_cons]at hx;by_cases ha:p a=true
    ·rw[if_pos ha]at hx;rcases List.mem_cons.1 hx with rfl|hx
     ·exact ha
     ·exact ih x hx
    ·rw[if_neg ha]at hx;cases hx
  exact hall l c hm
theorem k3h{x:UInt8}(h:q3w x=true):x≠32:=by
 rintro rfl;revert h;decide
theorem k2g{x:UInt8}(h:q4d x=true):x≠32:=by
 rintro rfl;revert h;decide
theorem z9c{x:UInt8}(h:q4d x=true):q3w x=false:=by
 simp only[q4d,q3w,Bool.and_eq_true,decide_eq_true_eq,Bool.and_eq_false_iff,decide_eq_false_iff_not]at h⊢;omega
theorem q8w{p:UInt8->Bool}(h:∀x,p x=true->x≠32)(c:UInt8)(hc:p c=true)(r:List UInt8):q1f (c::r.takeWhile p)=c::r.takeWhile p:=by
 have:=g5z (p:=p) (l:=c::r) h
 rw[List.takeWhile_cons,if_pos hc]at this;exact this
theorem v3j(p:UInt8->Bool)(r:List UInt8):(r.takeWhile p).takeWhile p=r.takeWhile p:=by
 have:=z6a (p:=p) r (r.takeWhile p).length Zl
 rw[z6x]at this;exact this
theorem j3u{c:UInt8}(h:spB c=false):c≠32:=by
 rintro rfl;revert h;decide
theorem y3b{c:UInt8}{r:List UInt8}(hs:spB c=false)(ho:q5f (c::r)=true):q3v (tkW (c::r)):=by
 cases hl:q3w c with
 | true=>
  have e:tkW (c::r)=c::r.takeWhile q3w:=by
   simp only[tkW,q0t,hl,if_true,List.take_succ_cons,z6x];exact q8w (fun _=>k3h) c hl r
  refine⟨c,r.takeWhile q3w,e,hs,?_,?_,q8w (fun _=>k3h) c hl r⟩
  ·simp only[q5f,hl,if_true,v3j]at ho⊢;exact ho
  ·simp only[q0t,hl,if_true,v3j,List.length_cons]
 | false=>
  cases hf:q4d c with
  | true=>
   have e:tkW (c::r)=c::r.takeWhile q4d:=by
    simp only[tkW,q0t,hl,hf,if_true,Bool.false_eq_true,if_false,List.take_succ_cons,z6x];exact q8w (fun _=>k2g) c hf r
   refine⟨c,r.takeWhile q4d,e,hs,?_,?_,q8w (fun _=>k2g) c hf r⟩
   ·simp only[q5f,hl,hf,if_true,Bool.false_eq_true,if_false,v3j]at ho⊢;exact ho
   ·simp only[q0t,hl,hf,if_true,Bool.false_eq_true,if_false,v3j,List.length_cons]
  | false=>
   cases hn:(c==35)with
   | true=>
    have e:tkW (c::r)=q1f (c::r.takeWhile nlB):=by
     simp only[tkW,q0t,hl,hf,hn,if_true,Bool.false_eq_true,if_false,List.take_succ_cons,z6x]
    obtain⟨z,hz⟩:=z2y (j3u hs) (r.takeWhile nlB)
    have hzt:z=(r.takeWhile nlB).take z.length:=by
     have:=z8h (c::r.takeWhile nlB)
     rw[hz,List.length_cons,List.take_succ_cons,List.cons.injEq]at this;exact this.2.symm
    have hlen:z.length<=(r.takeWhile nlB).length:=by
     have:=z1l (c::r.takeWhile nlB)
     rw[hz,List.length_cons,List.length_cons]at this;omega
    have hzz:z.takeWhile nlB=z:=by
     have:=z6a (p:=nlB) (r.takeWhile nlB) z.length (by rw[v3j];exact hlen)
     rw[<-hzt]at this;exact this
    refine⟨c,z,by rw[e,hz],hs,?_,?_,by rw[<-hz];exact j4o _⟩
    ·simp only[q5f,hl,hf,hn,if_true,Bool.false_eq_true,if_false,hzz]at ho⊢;rw[hzt];exact v4x ho _
    ·simp only[q0t,hl,hf,hn,if_true,Bool.false_eq_true,if_false,hzz,List.length_cons]
   | false=>
    have e:tkW (c::r)=[c]:=by
     simp only[tkW,q0t,hl,hf,hn,Bool.false_eq_true,if_false,List.take_succ_cons,List.take_zero];exact q1m [] (j3u hs)
    refine⟨c,[],e,hs,?_,?_,q1m [] (j3u hs)⟩
    ·simp only[q5f,hl,hf,hn,Bool.false_eq_true,if_false]at ho⊢;exact ho
    ·simp only[q0t,hl,hf,hn,Bool.false_eq_true,if_false,List.length_cons,List.length_nil]
theorem k0q{w:List UInt8}(h:q3v w):1<=w.length:=by
 obtain⟨c,r,rfl,_⟩:=h;simp
theorem j0o{w:List UInt8}(h:q3v w)(t:List UInt8)(i:Nat):lx (w++10::t) i=((i,w)::lxW t (i+w.length+1),lxF t (i+w.length+1)):=by
 obtain⟨c,r,rfl,hs,ho,hl,ht⟩:=h;obtain⟨e1,e2⟩:=g2y c r t;rw[List.cons_append]at e1 e2;have ho2:q5f (c::(r++10::t))=true:=by rw[e2];exact ho
 have ed:(c::(r++10::t)).drop (q0t (c::(r++10::t)))=10::t:=by
  rw[e1,hl,<-List.cons_append,List.drop_left]
 have ew:tkW (c::(r++10::t))=c::r:=by
  rw[tkW,e1,hl,<-List.cons_append,List.take_left,ht]
 rw[List.cons_append,z7t i hs ho2,ed,ew,e1,hl,lxW,lxF,k3l t _ rfl];rfl
def spc:List (List UInt8)->List UInt8
 | []=>[]
 | w::r=>w++10::spc r
theorem y8a(a b:List (List UInt8)):spc (a++b)=spc a++spc b:=by
 induction a with
 | nil=>rfl
 | cons w r ih=>simp[spc,ih]
theorem y2b:∀(ws:List (List UInt8))(i:Nat),(∀w∈ws,q3v w)->lxF (spc ws) i=none/\(lxW (spc ws) i).map (·.2)=ws
 | [],i,_=>by rw[lxF,lxW,spc,q9c];exact⟨rfl,rfl⟩
 | w::r,i,h=>by
  obtain⟨h1,h2⟩:=y2b r (i+w.length+1) fun x hx=>h x (by simp[hx])
  have e:=j0o (h w (by simp)) (spc r) i;rw[lxF,lxW,spc,e];exact⟨h1,by simp[h2]⟩
def q9w(s:List UInt8)(i:Nat)(x:Nat × List UInt8):Prop:=i<=x.1/\x.1+x.2.length<=i+s.length/\(s.drop (x.1-i)).take x.2.length=x.2/\q3v x.2
theorem q9w.later{s:List UInt8}{i k:Nat}{x:Nat × List UInt8}(h:q9w (s.drop k) (i+k) x)(hk:k<=s.length):q9w s i x:=by
 obtain⟨h1,h2,h3,h4⟩:=h;rw[List.length_drop]at h2;refine⟨by omega,by omega,?_,h4⟩;rw[List.drop_drop]at h3;have e:x.1-i=k+(x.1-(i+k)):=by omega
 rw[e];exact h3
theorem y6g:∀(n:Nat)(s:List UInt8)(i:Nat),s.length<=n->(∀x∈lxW s i,q9w s i x)/\(lxW s i).Pairwise (fun a b=>a.1+a.2.length<=b.1)
 | 0,s,i,h=>by
  have:s=[]:=List.eq_nil_of_length_eq_zero (by omega)
  subst this;rw[lxW,q9c];exact⟨fun x hx=>absurd hx List.not_mem_nil,List.Pairwise.nil⟩
 | n+1,s,i,h=>by
  cases s with
  | nil=>
   rw[lxW,q9c];exact⟨fun x hx=>absurd hx List.not_mem_nil,List.Pairwise.nil⟩
  | cons c r=>
   cases hs:spB c with
   | true=>
    obtain⟨h1,h2⟩:=y6g n r (i+1) (by simp at h;omega);rw[lxW,k3l r i hs];exact⟨fun x hx=>q9w.later (s:=c::r) (k:=1) (h1 x hx) (by simp),h2⟩
   | false=>
    cases ho:q5f (c::r)with
    | false=>
     rw[lxW,j0m i hs ho];exact⟨fun x hx=>absurd hx List.not_mem_nil,List.Pairwise.nil⟩
    | true=>
     have hp:=q5a c r;have hle:=z1j (c::r)
     have hw:(tkW (c::r)).length<=q0t (c::r):=by
      have:=z1l ((c::r).take (q0t (c::r)))
      rw[List.length_take]at this;rw[tkW];omega
     obtain⟨h1,h2⟩:=y6g n ((c::r).drop (q0t (c::r))) (i+q0t (c::r)) (by simp only[List.length_drop,List.length_cons]at h⊢;omega);rw[lxW,z7t i hs ho];refine⟨fun x hx=>?_,List.pairwise_cons.2 ⟨fun x hx=>?_,h2⟩⟩
     ·rcases List.mem_cons.1 hx with rfl|hx
      ·refine⟨Nat.le_refl _,by simp only;omega,?_,y3b hs ho⟩;simp only[Nat.sub_self,List.drop_zero];have h3:=z8h ((c::r).take (q0t (c::r)));rw[List.take_take,Nat.min_eq_left (by rw[tkW]at hw;exact hw)]at h3;exact h3
      ·exact(h1 x hx).later hle
     ·have:=(h1 x hx).1
      simp only;omega
def q1d(s:List UInt8):List (List UInt8):=(lxW s 0).map (·.2)
def z8a(s:List UInt8):List Nat:=(lxW s 0).map (·.1)
theorem j1x(s:List UInt8):(q1d s).length=(z8a s).length:=by simp[q1d,z8a]
theorem g3y(s:List UInt8)(j:Nat)(h:j<(q1d s).length)(h2:j<(z8a s).length):
  (z8a s)[j]+(q1d s)[j].length<=s.length/\(s.drop (z8a s)[j]).take (q1d s)[j].length=(q1d s)[j]/\q3v (q1d s)[j]/\∀k(hk:k<(q1d s).length)(hk2:k<(z8a s).length),k<j->(z8a s)[k]+(q1d s)[k].length<=(z8a s)[j]:=by
 obtain⟨a1,a2⟩:=y6g s.length s 0 Zl;have hj:j<(lxW s 0).length:=by simpa[q1d]using h
 obtain⟨_,b2,b3,b4⟩:=a1 (lxW s 0)[j] (List.getElem_mem hj);simp only[q1d,z8a,List.getElem_map]at *;refine⟨by omega,by simpa using b3,b4,fun k hk hk2 hkj=>?_⟩;exact List.pairwise_iff_getElem.1 a2 k j (by simpa using hk2) hj hkj
theorem z6d(s:List UInt8):∀w∈q1d s,q3v w:=by
 intro w hw;obtain⟨j,hj,rfl⟩:=List.getElem_of_mem hw;exact(g3y s j hj (by rw[<-j1x];exact hj)).2.2.1
theorem z9r:∀(n:Nat)(s:List UInt8)(i:Nat),s.length<=n->(lxW s i).length<=s.length
 | 0,s,i,h=>by
  have:s=[]:=List.eq_nil_of_length_eq_zero (by omega)
  subst this;rw[lxW,q9c];simp
 | n+1,s,i,h=>by
  cases s with
  | nil=>rw[lxW,q9c];simp
  | cons c r=>
   cases hs:spB c with
   | true=>
    have:=z9r n r (i+1) (by simp at h;omega)
    rw[lxW,k3l r i hs];simp only[List.length_cons];rw[lxW]at this;omega
   | false=>
    cases ho:q5f (c::r)with
    | false=>rw[lxW,j0m i hs ho];simp
    | true=>
     have hp:=q5a c r;have hle:=z1j (c::r)
     have:=z9r n ((c::r).drop (q0t (c::r))) (i+q0t (c::r)) (by simp only[List.length_drop,List.length_cons]at h⊢;omega)
     rw[lxW,z7t i hs ho];simp only[List.length_cons,List.length_drop]at this hle⊢;omega
theorem v3r(s:List UInt8):(q1d s).length<=s.length:=by
 have:=z9r s.length s 0 Zl
 simpa[q1d]using this
def z2p(w:List UInt8):Bool:=w.headD 0 != 35
def many(ws:List (List UInt8)):Nat:=(ws.filter z2p).length
theorem z0t(a b:List (List UInt8)):many (a++b)=many a+many b:=by simp[many]
def q4s(s:List UInt8):Int:=if 60000<s.length then 3 else if(lxF s 0).isSome then 5 else if 300<many (q1d s)then 3 else 0
def k1l(s:List UInt8):Nat:=if q4s s=5 then(lxF s 0).getD 0 else 0
theorem q4v{s:List UInt8}(h:q4s s=0):s.length<=60000/\lxF s 0=none/\many (q1d s)<=300:=by
 unfold q4s at h
 split at h
 ·cases h
 ·split at h
  ·cases h
  ·split at h
   ·cases h
   ·rename_i h1 h2 h3;exact⟨by omega,by simpa using h2,by omega⟩
abbrev btL(s:ByteArray):List UInt8:=s.data.toList
theorem q0b(s:ByteArray):(btL s).length=s.size:=(Lib.size_eq s).symm
theorem q2c{s:ByteArray}{k:Nat}(h:k<s.size):(btL s).drop k=s[k]::(btL s).drop (k+1):=by
 have hl:k<(btL s).length:=by rw[q0b];exact h
 rw[List.drop_eq_getElem_cons hl];rfl
def twN(p:UInt8->Bool)(s:ByteArray)(k:Nat):Nat:=(((btL s).drop k).takeWhile p).length
theorem y8l{p:UInt8->Bool}{s:ByteArray}{k:Nat}(h:k<s.size)(hp:p s[k]=true):twN p s k=twN p s (k+1)+1:=by
 rw[twN,q2c h,List.takeWhile_cons,if_pos hp];rfl
theorem g3g{p:UInt8->Bool}{s:ByteArray}{k:Nat}(h:k<s.size)(hp:p s[k]=false):twN p s k=0:=by
 rw[twN,q2c h,List.takeWhile_cons,if_neg (by simp[hp])];rfl
theorem y8k{p:UInt8->Bool}{s:ByteArray}{k:Nat}(h:¬k<s.size):twN p s k=0:=by
 rw[twN,List.drop_eq_nil_of_le (by rw[q0b];omega)];rfl
def v2t(s:ByteArray)(i:Nat):Nat:=q0t ((btL s).drop i)
def tOk(s:ByteArray)(i:Nat):Bool:=q5f ((btL s).drop i)
theorem g6s{s:ByteArray}{i:Nat}(h:i<s.size):1<=v2t s i/\i+v2t s i<=s.size:=by
 have h1:=z1j ((btL s).drop i);rw[List.length_drop,q0b]at h1;rw[v2t];refine⟨?_,by omega⟩;rw[q2c h];exact q5a _ _
theorem j4p(c:UInt8)(n:Nat)(hn:n<256):((c.toNat:Int)==(n:Int))=(c==UInt8.ofNat n):=by
 by_cases h:c=UInt8.ofNat n
 ·subst h;rw[beq_iff_eq.2 (show((UInt8.ofNat n).toNat:Int)=(n:Int) by simp[Nat.mod_eq_of_lt hn])];simp
 ·rw[beq_false_of_ne h,beq_false_of_ne];intro e;apply h
  have:c.toNat=n:=by omega
  rw[<-this];simp
def wbS(w:List UInt8):ByteArray:=⟨w.toArray⟩
theorem k8t(s:ByteArray)(i e:Nat):s.extract i e=wbS (((btL s).drop i).take (e-i)):=by
 apply ByteArray.ext;rw[ByteArray.data_extract];apply Array.ext';simp only[wbS,Array.toList_extract,List.extract]
def q8z(b:UInt8):Bool:=decide (33<=b.toNat)&&decide (b.toNat<=126)
def okW(x:ByteArray):Bool:=decide (1<=x.size)&&decide (x.size<=20)&&x.data.toList.all q8z
def q1i(ws:List ByteArray):Int:=if 60<ws.length then 3 else if ws.all okW then 0 else 5
def q6p(ws:List ByteArray)(wd:Int):Int:=if q1i ws≠0 then q1i ws else if wd<1\/100<wd then 1 else 0
theorem q9s{ws:List ByteArray}(h:q1i ws=0):ws.length<=60/\∀x∈ws,okW x=true:=by
 unfold q1i at h
 split at h
 ·cases h
 ·split at h
  ·rename_i h1 h2;exact⟨by omega,fun x hx=>List.all_eq_true.1 h2 x hx⟩
  ·cases h
theorem v8l{x:ByteArray}(h:okW x=true):1<=x.size/\x.size<=20:=by
 simp only[okW,Bool.and_eq_true,decide_eq_true_eq]at h;exact h.1
def Few(ws:List ByteArray):Prop:=ws.length<=60/\∀x∈ws,x.size<=20
theorem y1n{ws:List ByteArray}(h:q1i ws=0):Few ws:=⟨(q9s h).1,fun x hx=>(v8l ((q9s h).2 x hx)).2⟩
theorem Few.take{ws:List ByteArray}(h:Few ws)(k:Nat):Few (ws.take k):=⟨by have:=h.1;simp;omega,fun x hx=>h.2 x (List.mem_of_mem_take hx)⟩
theorem Few.drop{ws:List ByteArray}(h:Few ws)(k:Nat):Few (ws.drop k):=⟨by have:=h.1;simp;omega,fun x hx=>h.2 x (List.mem_of_mem_drop hx)⟩
theorem j2t{ws:List ByteArray}{wd:Int}(h:q6p ws wd=0):q1i ws=0/\∃n:Nat,wd=n/\1<=n/\n<=100:=by
 unfold q6p at h
 split at h
 ·rename_i h1;exact absurd h h1
 ·rename_i h1
  split at h
  ·cases h
  ·refine⟨by omega,wd.toNat,by omega,by omega,by omega⟩
def tot:List ByteArray->Nat
 | []=>0
 | x::r=>x.size+tot r
theorem y8j(a b:List ByteArray):tot (a++b)=tot a+tot b:=by
 induction a with
 | nil=>simp[tot]
 | cons x r ih=>simp only[List.cons_append,tot,ih];omega
theorem y0g{ws:List ByteArray}{i:Nat}(h:i<ws.length):tot (ws.take (i+1))=tot (ws.take i)+ws[i].size:=by
 rw[List.take_succ_eq_append_getElem h,y8j];simp[tot]
theorem g3e{ws:List ByteArray}(h:∀x∈ws,x.size<=20):tot ws<=20*ws.length:=by
 induction ws with
 | nil=>simp[tot]
 | cons x r ih=>
  have h1:=h x (by simp);have h2:=ih fun y hy=>h y (by simp[hy])
  simp only[tot,List.length_cons];omega
theorem Few.tot{ws:List ByteArray}(h:Few ws):tot ws<=1200:=by
 have:=g3e h.2
 have:=h.1
 omega
def ln(ws:List ByteArray):Nat:=tot ws+(ws.length-1)
theorem Few.ln{ws:List ByteArray}(h:Few ws):ln ws<=1260:=by
 have:=h.tot
 have:=h.1
 simp only[Go.Proofs.YthcpdohdppkmkaaGreatDoor.ln];omega
def jnL(ws:List ByteArray):List UInt8:=Lib.join (ws.map (·.data.toList)) [32]
def jnS(ws:List ByteArray):ByteArray:=⟨(jnL ws).toArray⟩
theorem v7f(ws:List ByteArray):Lib.lens (ws.map (·.data.toList))=tot ws:=by
 induction ws with
 | nil=>rfl
 | cons x r ih=>
  have e:Lib.lens ((x::r).map (·.data.toList))=x.data.toList.length+Lib.lens (r.map (·.data.toList)):=by simp[Lib.lens]
  rw[e,ih,tot,Lib.size_eq]
theorem k6g(ws:List ByteArray):(jnL ws).length=ln ws:=by
 cases ws with
 | nil=>rfl
 | cons x r=>
  have h:=Lib.join_length x.data.toList (r.map (·.data.toList)) [32];have h2:=v7f (x::r);simp only[List.map_cons]at h2;simp only[jnL,List.map_cons,h,h2,ln,List.length_cons,List.length_nil,List.length_map];omega
theorem j0b(ws:List ByteArray):(jnS ws).size=ln ws:=by
 rw[<-k6g];simp[jnS,ByteArray.size]
def bd(n wd:Nat)(last:Bool):Nat:=if wd<n then 1000*(n-wd)else if last then 0 else(wd-n)*(wd-n)
theorem y9l{n wd:Nat}{last:Bool}(h1:n<=1260)(h2:wd<=100):bd n wd last<=1300000:=by
 unfold bd
 split
 ·omega
 ·split
  ·omega
  ·have:(wd-n)*(wd-n)<=100*100:=Nat.mul_le_mul (by omega) (by omega)
   omega
def z6l(g:Nat->Nat):Nat->Nat
 | 0=>0
 | n+1=>if n=0\/g (n+1)<=z6l g n then g (n+1)else z6l g n
def v4o(g:Nat->Nat):Nat->Nat
 | 0=>0
 | n+1=>if n=0\/g (n+1)<=z6l g n then n+1 else v4o g n
theorem z7u{g h:Nat->Nat}:∀n,(∀k,1<=k->k<=n->g k=h k)->z6l g n=z6l h n
 | 0,_=>rfl
 | n+1,e=>by
  have ih:=z7u n fun k h1 h2=>e k h1 (by omega)
  simp only[z6l,ih,e (n+1) (by omega) Zl]
theorem z9v(g:Nat->Nat):∀n k,1<=k->k<=n->z6l g n<=g k
 | 0,k,h1,h2=>by omega
 | n+1,k,h1,h2=>by
  simp only[z6l]
  split
  ·rename_i h;by_cases hk:k=n+1
   ·subst hk;exact Nat.le_refl _
   ·have:=z9v g n k h1 (by omega)
    rcases h with h|h<;>omega
  ·rename_i h;by_cases hk:k=n+1
   ·subst hk;omega
   ·exact z9v g n k h1 (by omega)
theorem k9c(g:Nat->Nat):∀n,1<=n->1<=v4o g n/\v4o g n<=n
 | 0,h=>by omega
 | n+1,h=>by
  simp only[v4o]
  split
  ·omega
  ·rename_i h1
   have:=k9c g n (by omega)
   omega
theorem k1q(g:Nat->Nat):∀n k,v4o g n<k->k<=n->1<=k->g k≠z6l g n
 | 0,k,h1,h2,h3=>by omega
 | n+1,k,h1,h2,h3=>by
  simp only[v4o]at h1;simp only[z6l]
  split at h1
  ·omega
  ·rename_i h;rw[if_neg h];by_cases hk:k=n+1
   ·subst hk;omega
   ·exact k1q g n k h1 (by omega) h3
def j2d(wd:Nat):List ByteArray->List Nat
 | []=>[0]
 | x::r=>z6l (fun k=>bd (ln ((x::r).take k)) wd (k==r.length+1)+(j2d wd r).getD (k-1) 0) (r.length+1)::j2d wd r
def best(wd:Nat)(ws:List ByteArray):Nat:=(j2d wd ws).getD 0 0
theorem z3r(wd:Nat):best wd []=0:=rfl
theorem z7b(wd:Nat):∀(ws:List ByteArray)(j:Nat),j<=ws.length->(j2d wd ws).getD j 0=best wd (ws.drop j)
 | _,0,_=>by simp[best]
 | [],j+1,h=>by simp at h
 | x::r,j+1,h=>by
  have:=z7b wd r j (by simp at h;omega)
  simpa[j2d]using this
def fOf(wd:Nat)(ws:List ByteArray)(k:Nat):Nat:=bd (ln (ws.take k)) wd (k==ws.length)+best wd (ws.drop k)
theorem j5v(wd:Nat){ws:List ByteArray}(h:ws≠[]):best wd ws=z6l (fOf wd ws) ws.length:=by
 cases ws with
 | nil=>exact absurd rfl h
 | cons x r=>
  simp only[best,j2d,List.getD_cons_zero,List.length_cons];refine z7u _ fun k h1 h2=>?_
  obtain⟨j,rfl⟩:∃j,k=j+1:=⟨k-1,by omega⟩;simp only[fOf,List.length_cons,List.drop_succ_cons,Nat.add_sub_cancel];rw[z7b wd r j (by omega)]
theorem y3v{wd:Nat}(hw:wd<=100):∀(n:Nat)(ws:List ByteArray),ws.length<=n->Few ws->best wd ws<=1300000
 | 0,ws,h,_=>by
  have:ws=[]:=List.eq_nil_of_length_eq_zero (by omega)
  subst this;simp[z3r]
 | n+1,ws,h,hf=>by
  by_cases h0:ws=[]
  ·subst h0;simp[z3r]
  ·have hp:0<ws.length:=List.length_pos_iff.2 h0;rw[j5v wd h0];refine Nat.le_trans (z9v _ _ ws.length hp Zl) ?_;simp only[fOf,List.drop_length,z3r]
   have:=y9l (last:=(ws.length==ws.length)) (hf.take ws.length).ln hw
   omega
theorem g0f{wd:Nat}(hw:wd<=100){ws:List ByteArray}(hf:Few ws)(k:Nat):fOf wd ws k<=2600000:=by
 have h1:=y3v hw _ (ws.drop k) Zl (hf.drop k);have h2:=y9l (last:=(k==ws.length)) (hf.take k).ln hw;simp only[fOf];omega
def agF(wd:Nat)(ws:List ByteArray):Nat:=v4o (fOf wd ws) ws.length
theorem q9f(wd:Nat){ws:List ByteArray}(h:ws≠[]):1<=agF wd ws/\agF wd ws<=ws.length:=k9c _ _ (List.length_pos_iff.2 h)
def z2d(wd:Nat)(ws:List ByteArray):List Nat:=
 if _h:ws=[]then []else agF wd ws::z2d wd (ws.drop (agF wd ws))
termination_by ws.length
decreasing_by
 have:=q9f wd _h
 simp only[List.length_drop];omega
theorem q6o(wd:Nat):z2d wd []=[]:=by rw[z2d];simp
theorem q5x(wd:Nat){ws:List ByteArray}(h:ws≠[]):z2d wd ws=agF wd ws::z2d wd (ws.drop (agF wd ws)):=by
 rw[z2d,dif_neg h]
def k2y:List ByteArray->List Nat->List ByteArray
 | _,[]=>[]
 | ws,k::ks=>jnS (ws.take k)::k2y (ws.drop k) ks
structure Td where
 op:Int
 tx:ByteArray
 n:Int
def kdT(x:Td):Nat:=if x.op=3\/x.op=4 then x.n.toNat else if x.op=5\/x.op=6 then 2 else if x.op=7\/x.op=8 then 1 else 0
def k5r:List Td->Nat->Option Nat
 | _,0=>some 0
 | [],_+1=>none
 | x::r,m+1=>(k5r r (kdT x+m)).map (· + 1)
theorem z0e(ds:List Td):k5r ds 0=some 0:=by cases ds<;>rfl
theorem q8j(m:Nat):k5r [] (m+1)=none:=rfl
theorem q5w(x:Td)(r:List Td)(m:Nat):k5r (x::r) (m+1)=(k5r r (kdT x+m)).map (· + 1):=rfl
theorem j6x:∀(ds:List Td)(m k:Nat),k5r ds m=some k->m<=k/\k<=ds.length
 | ds,0,k,h=>by rw[z0e]at h;cases h;simp
 | [],m+1,k,h=>by rw[q8j]at h;cases h
 | x::r,m+1,k,h=>by
  rw[q5w,Option.map_eq_some_iff]at h;obtain⟨j,h1,rfl⟩:=h
  have:=j6x r _ j h1
  simp;omega
theorem k9n:∀(ds:List Td)(a b:Nat),k5r ds (a+b)=(k5r ds a).bind fun k=>(k5r (ds.drop k) b).map (k+·)
 | ds,0,b=>by
  rw[z0e];simp
 | [],a+1,b=>by rw[show a+1+b=(a+b)+1 by omega,q8j,q8j];rfl
 | x::r,a+1,b=>by
  rw[show a+1+b=(a+b)+1 by omega,q5w,q5w,show kdT x+(a+b)=(kdT x+a)+b by omega,k9n r _ b];cases k5r r (kdT x+a)with
  | none=>rfl
  | some k=>
   simp only[Option.bind_some,Option.map_some,List.drop_succ_cons];cases k5r (r.drop k) b with
   | none=>rfl
   | some j=>simp;omega
def z3l(ds:List Td)(i m:Nat):Option Nat:=(k5r (ds.drop i) m).map (i+·)
theorem j7s(ds:List Td)(i:Nat):z3l ds i 0=some i:=by simp[z3l,z0e]
theorem z3w(ds:List Td)(i m:Nat)(h:ds.length<=i):z3l ds i (m+1)=none:=by
 rw[z3l,List.drop_eq_nil_of_le h,q8j];rfl
theorem j7r(ds:List Td)(i m:Nat)(h:i<ds.length):z3l ds i (m+1)=z3l ds (i+1) (kdT ds[i]+m):=by
 rw[z3l,List.drop_eq_getElem_cons h,q5w,z3l];cases k5r (ds.drop (i+1)) (kdT ds[i]+m)with
 | none=>rfl
 | some k=>simp;omega
def q0z(s:ByteArray):Bool:=decide (1<=s.size)&&decide (s.size<=8)&&decide (btL s≠[108,101,116])&&(btL s).all q3w
def q5r:List UInt8->List (List UInt8)
 | []=>[[]]
 | c::r=>if c=32 then []::q5r r else match q5r r with
  | []=>[[c]]
  | w::ws=>(c::w)::ws
theorem q6z(s:List UInt8):q5r s≠[]:=by
 cases s with
 | nil=>simp[q5r]
 | cons c r=>
  simp only[q5r]
  split
  ·simp
  ·split<;>simp
theorem q6e(r:List UInt8):q5r (32::r)=[]::q5r r:=by simp[q5r]
theorem q6f{c:UInt8}(h:c≠32){r w:List UInt8}{ws:List (List UInt8)}(hr:q5r r=w::ws):q5r (c::r)=(c::w)::ws:=by
 simp only[q5r,if_neg h,hr]
theorem j1n(u r:List UInt8)(h:∀b∈u,b≠32):q5r (u++32::r)=u::q5r r:=by
 induction u with
 | nil=>exact q6e r
 | cons c u ih=>
  have ih':=ih fun b hb=>h b (by simp[hb])
  rw[List.cons_append,q6f (h c (by simp)) ih']
theorem j1o(u:List UInt8)(h:∀b∈u,b≠32):q5r u=[u]:=by
 induction u with
 | nil=>rfl
 | cons c u ih=>rw[q6f (h c (by simp)) (ih fun b hb=>h b (by simp[hb]))]
def q0j(s:List UInt8):List (List UInt8):=if s=[]then []else q5r s
def q3m(s:ByteArray):Int:=q1i ((q0j (btL s)).map wbS)
def q2q(op:Int):Bool:=decide (op=2)||decide (op=3)||decide (op=7)||decide (op=9)
def q0r(x:Td):Int:=
 if x.op<1\/9<x.op then 1
 else if(x.op=1/\(x.n<0\/999999<x.n))\/((x.op=3\/x.op=4)/\(x.n<0\/6<x.n))then 1
 else if(x.op≠1/\x.op≠3/\x.op≠4/\x.n≠0)\/(q2q x.op=false/\0<x.tx.size)then 2
 else if x.op=9 then q3m x.tx
 else if q2q x.op=true/\q0z x.tx=false then 5 else 0
def v4p:List Td->Int
 | []=>0
 | x::r=>if q0r x=0 then v4p r else q0r x
theorem k9z:∀(ds:List Td),(∀x∈ds,q0r x=0)->v4p ds=0
 | [],_=>rfl
 | x::r,h=>by rw[v4p,if_pos (h x (by simp)),k9z r fun y hy=>h y (by simp[hy])]
theorem k2j:∀(ds:List Td),v4p ds=0->∀x∈ds,q0r x=0
 | [],_=>by simp
 | x::r,h=>by
  rw[v4p]at h
  split at h
  ·rename_i h0;intro y hy;rcases List.mem_cons.1 hy with rfl|hy
   ·exact h0
   ·exact k2j r h y hy
  ·rename_i h0;exact absurd h h0
theorem j8o:∀(ds:List Td)(k:Nat)(h:k<ds.length),(∀x∈ds.take k,q0r x=0)->q0r ds[k]≠0->v4p ds=q0r ds[k]
 | x::r,0,_,_,h=>by
  have h':q0r x≠0:=h;rw[v4p,if_neg h'];rfl
 | x::r,k+1,hk,ha,h=>by
  rw[v4p,if_pos (ha x (by simp)),j8o r k (by simpa using hk) (fun y hy=>ha y (by simp[hy])) h];rfl
def v3b(ds:List Td):Bool:=match ds with
 | []=>true
 | x::r=>decide (7<=x.op)&&r.all fun y=>decide (y.op<7)
def q0d(ds:List Td):Int:=
 if 40<ds.length then 3 else if v4p ds≠0 then v4p ds else if z3l ds 0 1=some ds.length/\v3b ds=true then 0 else 2
theorem q2o{ds:List Td}(h:q0d ds=0):ds.length<=40/\(∀x∈ds,q0r x=0)/\z3l ds 0 1=some ds.length/\v3b ds=true:=by
 unfold q0d at h
 split at h
 ·cases h
 ·split at h
  ·rename_i h1;exact absurd h h1
  ·rename_i h0 h1
   split at h
   ·rename_i h2;exact⟨by omega,k2j ds (by omega),h2.1,h2.2⟩
   ·cases h
theorem g0y{x:Td}(h:q0r x=0):kdT x<=6:=by
 unfold q0r at h
 split at h
 ·cases h
 ·split at h
  ·cases h
  ·rename_i h1 h2;unfold kdT
   split
   ·omega
   ·split
    ·omega
    ·split<;>omega
def Tds(w:World)(a:Option Addr)(ds:List Td):Prop:=
 ∀i(h:i<ds.length),∃b o,a=some ⟨b,o,none⟩/\b<w.heap.size/\w.cell? ⟨b,o+i*3,none⟩=some (.int .i64 ds[i].op)/\w.cell? ⟨b,o+i*3+1,none⟩=some (.string ds[i].tx)/\w.cell? ⟨b,o+i*3+2,none⟩=some (.int .i64 ds[i].n)
theorem Tds.W{w w':World}{a:Option Addr}{ds:List Td}(h:Tds w a ds)(hb:Below w w w'):Tds w' a ds:=by
 intro i hi;obtain⟨b,o,e,hlt,c1,c2,c3⟩:=h i hi;obtain⟨hc,_⟩:=q1c hb
 have:=hb.size
 exact⟨b,o,e,by omega,(hc _ _ hlt).trans c1,(hc _ _ hlt).trans c2,(hc _ _ hlt).trans c3⟩
theorem Tds.alloc{w:World}{a:Option Addr}{ds:List Td}(h:Tds w a ds)(o:Obj):Tds (w.alloc o) a ds:=h.W (Zb.alloc Zl _)
theorem Tds.nil(w:World)(a:Option Addr):Tds w a []:=fun i hi=>by simp at hi
abbrev tdV(x:Td):Value:=.agg #[.int .i64 x.op,.string x.tx,.int .i64 x.n]
def kdZ(x:Td):Int:=if x.op=3\/x.op=4 then x.n else(kdT x:Int)
theorem g0z{x:Td}(h:q0r x=0):kdZ x=(kdT x:Int):=by
 unfold kdZ
 split
 ·rename_i h1;rw[kdT,if_pos h1];unfold q0r at h
  split at h
  ·cases h
  ·split at h
   ·cases h
   ·omega
 ·rfl
def opT(t:List Td):Int:=match t with
 | []=>0
 | x::_=>x.op
theorem k0f{t:List Td}(h:0<t.length):opT t=t[0].op:=by
 cases t with
 | nil=>simp at h
 | cons x r=>rfl
def q5e(prev:Int)(k:Nat):List (List Td)->Nat × Int
 | []=>(0,0)
 | t::r=>if q0d t≠0 then(k,q0d t)else if opT t=9/\prev=9 then(k,2)else q5e (opT t) (k+1) r
def q0q(ps:List (List Td)):Nat × Int:=if 20<ps.length then(0,3)else q5e 0 0 ps
theorem k1e{t:List Td}(h:q0d t=0):0<t.length:=by
 rcases Nat.eq_zero_or_pos t.length with h0|h0
 ·have:t=[]:=List.eq_nil_of_length_eq_zero h0
  subst this
  have:=(q2o h).2.2.1
  rw[z3w [] 0 0 (by simp)]at this;cases this
 ·exact h0
def q7m(ps:List (List Td))(k:Nat):Int:=if k=0 then 0 else opT (ps.getD (k-1) [])
theorem z8b{ps:List (List Td)}{k:Nat}(h:k<ps.length):q7m ps (k+1)=opT ps[k]:=by
 simp[q7m,h]
theorem v1w{ps:List (List Td)}{k:Nat}{prev:Int}(h:k<ps.length)(he:q0d ps[k]≠0):q5e prev k (ps.drop k)=(k,q0d ps[k]):=by
 rw[List.drop_eq_getElem_cons h,q5e,if_pos he]
theorem v1x{ps:List (List Td)}{k:Nat}{prev:Int}(h:k<ps.length)(he:q0d ps[k]=0)(h2:opT ps[k]=9/\prev=9):q5e prev k (ps.drop k)=(k,2):=by
 rw[List.drop_eq_getElem_cons h,q5e,if_neg (by simp[he]),if_pos h2]
theorem j3p{ps:List (List Td)}{k:Nat}{prev:Int}(h:k<ps.length)(he:q0d ps[k]=0)(h2:¬(opT ps[k]=9/\prev=9)):q5e prev k (ps.drop k)=q5e (q7m ps (k+1)) (k+1) (ps.drop (k+1)):=by
 rw[List.drop_eq_getElem_cons h,q5e,if_neg (by simp[he]),if_neg h2,z8b h]
end Go.Proofs.YthcpdohdppkmkaaGreatDoor
