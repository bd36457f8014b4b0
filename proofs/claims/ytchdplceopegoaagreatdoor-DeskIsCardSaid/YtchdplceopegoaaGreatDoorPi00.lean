import Derived.Test.YtchdplceopegoaaGreatDoorProg
import Derived.Below
import Derived.Lib.Strings
import Derived.Lib.Join
instance : Coe Int Go.Value := ⟨.int .i64⟩
instance : Coe Nat Go.Value := ⟨fun n => .int .i64 (n : Int)⟩
instance : Coe Nat Go.Addr := ⟨fun b => ⟨b, 0, none⟩⟩
instance (b o : Nat) : CoeDep (Nat × Nat) (b, o) Go.Addr := ⟨⟨b, o, none⟩⟩
instance : Coe Go.World Nat := ⟨fun w => w.heap.size⟩
namespace Go.Proofs.YtchdplceopegoaaGreatDoor
theorem Zl {n : Nat} : n ≤ n := Nat.le_refl n
theorem Zb {n : Nat} {w : Go.World} : Go.RowKit.Below n w w := Go.RowKit.Below.refl n w
end Go.Proofs.YtchdplceopegoaaGreatDoor
theorem Go.RowKit.Hid.o {p : Prop} (h : Go.RowKit.Hid p) : p := h
namespace Go.Proofs.YtchdplceopegoaaGreatDoor
open Go Go.RowKit
abbrev Cb (f : FuncId) (a : Array Value) (w : World) (v : Value) : Prop := Calls Tryz.prog f a w fun e w' => e = .returned v ∧ Below w.heap.size w w'
abbrev Cw (f : FuncId) (a : Array Value) (w : World) (v : Value) : Prop := Calls Tryz.prog f a w fun e w' => e = .returned v ∧ w = w'
abbrev Cp (f : FuncId) (a : Array Value) (w : World) (Q : Ending → World → Prop) : Prop := Calls Tryz.prog f a w Q
end Go.Proofs.YtchdplceopegoaaGreatDoor
open Go.Proofs.Tryz
open List (cons_append length_cons length_drop length_nil map_cons not_mem_nil suffix_cons suffix_refl takeWhile_cons take_succ_cons)
namespace Go.Proofs.YtchdplceopegoaaGreatDoor
open Go
def spB(c:UInt8):Bool:=c==32||c==10
def q2a(c:UInt8):Bool:=decide (97<=c.toNat)&&decide (c.toNat<=122)
def q1x(c:UInt8):Bool:=decide (48<=c.toNat)&&decide (c.toNat<=57)
def nlB(c:UInt8):Bool:=c != 10
def prB(c:UInt8):Bool:=decide (32<=c.toNat)&&decide (c.toNat<=126)
def k6i:List UInt8:=[40,41,91,93,44,43,42,61,59]
def y6p(c:UInt8):Bool:=k6i.any (·==c)
def q0x:List UInt8->Nat
 | []=>0
 | c::r=>if q2a c then(r.takeWhile q2a).length+1 else if q1x c then(r.takeWhile q1x).length+1 else if c==35 then(r.takeWhile nlB).length+1 else 1
def q4y:List UInt8->Bool
 | []=>false
 | c::r=>if q2a c then decide ((r.takeWhile q2a).length+1<=8)else if q1x c then decide ((r.takeWhile q1x).length+1<=6)&&(c != 48||(r.takeWhile q1x).length==0)else if c==35 then(r.takeWhile nlB).all prB else y6p c
def q1k(w:List UInt8):List UInt8:=(w.reverse.dropWhile (·==32)).reverse
theorem z0e(w:List UInt8):q1k (w++[32])=q1k w:=by simp[q1k]
theorem q1u(w:List UInt8){c:UInt8}(h:c≠32):q1k (w++[c])=w++[c]:=by simp[q1k,h]
theorem v2r:q1k []=[]:=rfl
theorem z5w(w:List UInt8):∃z,w=q1k w++z:=by
 refine⟨(w.reverse.takeWhile (·==32)).reverse,?_⟩;rw[q1k,<-List.reverse_append,List.takeWhile_append_dropWhile,List.reverse_reverse]
theorem z1u(w:List UInt8):(q1k w).length<=w.length:=by
 obtain⟨z,A⟩:=z5w w
 have:=congrArg List.length A
 rw[List.length_append]at this;omega
theorem z8c(w:List UInt8):w.take (q1k w).length=q1k w:=by
 obtain⟨z,B⟩:=z5w w;have A:w.take (q1k w).length=(q1k w++z).take (q1k w).length:=congrArg (List.take _) B;rw[A,List.take_left]
theorem z5x:∀(n:Nat)(w:List UInt8),w.length<=n->q1k (q1k w)=q1k w
 | n,w,h=>by
  rcases List.eq_nil_or_concat w with rfl|⟨v,c,rfl⟩
  ·rfl
  ·rw[List.concat_eq_append]at h⊢;by_cases hc:c=32
   ·subst hc;rw[z0e]
    match n,h with
    | 0,h=>simp at h
    | n+1,h=>exact z5x n v (by simp at h;omega)
   ·rw[q1u v hc,q1u v hc]
theorem j3q(w:List UInt8):q1k (q1k w)=q1k w:=z5x _ w Zl
theorem z2z{c:UInt8}(h:c≠32)(r:List UInt8):∃z,q1k (c::r)=c::z:=by
 obtain⟨z,E⟩:=z5w (c::r);cases D:q1k (c::r)with
 | nil=>
  exfalso
  have G:∀(l:List UInt8),l.dropWhile (·==32)=[]->∀x∈l,x=32:=by
   intro l
   induction l with
   | nil=>intro _ x B;cases B
   | cons a l ih=>
    intro A x B;rw[List.dropWhile_cons]at A;by_cases C:(a==32)=true
    ·rw[if_pos C]at A;rcases List.mem_cons.1 B with rfl|B
     ·exact beq_iff_eq.1 C
     ·exact ih A x B
    ·rw[if_neg C]at A;cases A
  rw[q1k,List.reverse_eq_nil_iff]at D;exact h (G _ D c (by simp))
 | cons a b=>
  rw[D,cons_append,List.cons.injEq]at E;exact⟨b,by rw[E.1]⟩
def tkW(s:List UInt8):List UInt8:=q1k (s.take (q0x s))
theorem q5p(c:UInt8)(r:List UInt8):1<=q0x (c::r):=by
 simp only[q0x]
 split
 ·omega
 ·split
  ·omega
  ·split<;>omega
theorem j0n{α:Type}(p:α->Bool)(l:List α):(l.takeWhile p).length<=l.length:=by
 induction l with
 | nil=>simp
 | cons a l ih=>
  rw[takeWhile_cons]
  split
  ·simp;omega
  ·simp
theorem z1q(s:List UInt8):q0x s<=s.length:=by
 cases s with
 | nil=>simp[q0x]
 | cons c r=>
  have A:=j0n q2a r;have B:=j0n q1x r;have C:=j0n nlB r;simp only[q0x,length_cons]
  split
  ·omega
  ·split
   ·omega
   ·split<;>omega
def lx(s:List UInt8)(i:Nat):List (Nat × List UInt8) × Option Nat:=
 match s with
 | []=>([],none)
 | c::r=>
  if spB c then lx r (i+1)
  else if q4y (c::r)then((i,tkW (c::r))::(lx ((c::r).drop (q0x (c::r))) (i+q0x (c::r))).1,(lx ((c::r).drop (q0x (c::r))) (i+q0x (c::r))).2)
  else([],some i)
termination_by s.length
decreasing_by
 all_goals first
  | (have:=q5p c r;simp only[length_drop,length_cons];omega)
  | (simp only[length_cons];omega)
def lxW(s:List UInt8)(i:Nat):List (Nat × List UInt8):=(lx s i).1
def lxF(s:List UInt8)(i:Nat):Option Nat:=(lx s i).2
theorem z3h(i:Nat):lx [] i=([],none):=by rw[lx]
theorem k3e{c:UInt8}(r:List UInt8)(i:Nat)(h:spB c=true):lx (c::r) i=lx r (i+1):=by rw[lx,if_pos h]
theorem z7m{c:UInt8}{r:List UInt8}(i:Nat)(h:spB c=false)(ho:q4y (c::r)=true):
  lx (c::r) i=((i,tkW (c::r))::lxW ((c::r).drop (q0x (c::r))) (i+q0x (c::r)),lxF ((c::r).drop (q0x (c::r))) (i+q0x (c::r))):=by
 rw[lx,if_neg (by simp[h]),if_pos ho];rfl
theorem k9c{c:UInt8}{r:List UInt8}(i:Nat)(h:spB c=false)(ho:q4y (c::r)=false):lx (c::r) i=([],some i):=by
 rw[lx,if_neg (by simp[h]),if_neg (by simp[ho])]
theorem k1a{p:UInt8->Bool}{x:UInt8}(h:p x=false)(t:List UInt8):∀r:List UInt8,(r++x::t).takeWhile p=r.takeWhile p
 | []=>by rw[List.nil_append,takeWhile_cons,if_neg (by simp[h])];rfl
 | a::r=>by
  rw[cons_append,takeWhile_cons,takeWhile_cons,k1a h t r]
theorem y9q(c:UInt8)(r t:List UInt8):q0x (c::r++10::t)=q0x (c::r)/\q4y (c::r++10::t)=q4y (c::r):=by
 have A:=k1a (p:=q2a) (x:=10) rfl t r;have B:=k1a (p:=q1x) (x:=10) rfl t r;have C:=k1a (p:=nlB) (x:=10) rfl t r;simp only[cons_append,q0x,q4y,A,B,C,and_self]
def q3l(w:List UInt8):Prop:=∃c r,w=c::r/\spB c=false/\q4y (c::r)=true/\q0x (c::r)=(c::r).length/\q1k (c::r)=c::r
theorem z5z{p:UInt8->Bool}:∀(r:List UInt8)(k:Nat),k<=(r.takeWhile p).length->(r.take k).takeWhile p=r.take k
 | _,0,_=>by simp
 | [],k+1,h=>by simp at h
 | a::r,k+1,h=>by
  rw[takeWhile_cons]at h;by_cases ha:p a=true
  ·rw[if_pos ha]at h;rw[take_succ_cons,takeWhile_cons,if_pos ha,z5z r k (by simp at h;omega)]
  ·rw[if_neg ha]at h;simp at h
theorem z5y{p:UInt8->Bool}(r:List UInt8):r.take (r.takeWhile p).length=r.takeWhile p:=by
 have:=z5z (p:=p) r (r.takeWhile p).length Zl
 induction r with
 | nil=>rfl
 | cons a r ih=>
  rw[takeWhile_cons]
  split
  ·rw[length_cons,take_succ_cons,ih (z5z r _ Zl)]
  ·rfl
theorem v4i{p:UInt8->Bool}{l:List UInt8}(h:l.all p=true)(k:Nat):(l.take k).all p=true:=by
 rw[List.all_eq_true]at h⊢;exact fun x hx=>h x (List.mem_of_mem_take hx)
theorem g2w{p:UInt8->Bool}{l:List UInt8}(h:∀x,p x=true->x≠32):q1k (l.takeWhile p)=l.takeWhile p:=by
 rcases List.eq_nil_or_concat (l.takeWhile p)with e|⟨v,c,e⟩
 ·rw[e];rfl
 ·rw[e,List.concat_eq_append];refine q1u v (h c ?_);have D:c∈l.takeWhile p:=by rw[e];simp
  have B:∀(l:List UInt8)x,x∈l.takeWhile p->p x=true:=by
   intro l
   induction l with
   | nil=>intro x A;cases A
   | cons a l ih=>
    intro x A;rw[takeWhile_cons]at A;by_cases C:p a=true
    ·rw[if_pos C]at A;rcases List.mem_cons.1 A with rfl|A
     ·exact C
     ·exact ih x A
    ·rw[if_neg C]at A;cases A
  exact B l c D
theorem k3a{x:UInt8}(h:q2a x=true):x≠32:=by
 rintro rfl;revert h;decide
theorem k2f{x:UInt8}(h:q1x x=true):x≠32:=by
 rintro rfl;revert h;decide
theorem z9h{x:UInt8}(h:q1x x=true):q2a x=false:=by
 simp only[q1x,q2a,Bool.and_eq_true,decide_eq_true_eq,Bool.and_eq_false_iff,decide_eq_false_iff_not]at h⊢;omega
theorem q9h{p:UInt8->Bool}(h:∀x,p x=true->x≠32)(c:UInt8)(hc:p c=true)(r:List UInt8):q1k (c::r.takeWhile p)=c::r.takeWhile p:=by
 have:=g2w (p:=p) (l:=c::r) h
 rw[takeWhile_cons,if_pos hc]at this;exact this
theorem v2v(p:UInt8->Bool)(r:List UInt8):(r.takeWhile p).takeWhile p=r.takeWhile p:=by
 have:=z5z (p:=p) r (r.takeWhile p).length Zl
 rw[z5y]at this;exact this
theorem k7e{c:UInt8}(h:spB c=false):c≠32:=by
 rintro rfl;revert h;decide
theorem y1u{c:UInt8}{r:List UInt8}(hs:spB c=false)(ho:q4y (c::r)=true):q3l (tkW (c::r)):=by
 cases A:q2a c with
 | true=>
  have e:tkW (c::r)=c::r.takeWhile q2a:=by
   simp only[tkW,q0x,A,if_true,take_succ_cons,z5y];exact q9h (fun _=>k3a) c A r
  refine⟨c,r.takeWhile q2a,e,hs,?_,?_,q9h (fun _=>k3a) c A r⟩
  ·simp only[q4y,A,if_true,v2v]at ho⊢;exact ho
  ·simp only[q0x,A,if_true,v2v,length_cons]
 | false=>
  cases B:q1x c with
  | true=>
   have e:tkW (c::r)=c::r.takeWhile q1x:=by
    simp only[tkW,q0x,A,B,if_true,Bool.false_eq_true,if_false,take_succ_cons,z5y];exact q9h (fun _=>k2f) c B r
   refine⟨c,r.takeWhile q1x,e,hs,?_,?_,q9h (fun _=>k2f) c B r⟩
   ·simp only[q4y,A,B,if_true,Bool.false_eq_true,if_false,v2v]at ho⊢;exact ho
   ·simp only[q0x,A,B,if_true,Bool.false_eq_true,if_false,v2v,length_cons]
  | false=>
   cases C:(c==35)with
   | true=>
    have e:tkW (c::r)=q1k (c::r.takeWhile nlB):=by
     simp only[tkW,q0x,A,B,C,if_true,Bool.false_eq_true,if_false,take_succ_cons,z5y]
    obtain⟨z,H⟩:=z2z (k7e hs) (r.takeWhile nlB)
    have E:z=(r.takeWhile nlB).take z.length:=by
     have:=z8c (c::r.takeWhile nlB)
     rw[H,length_cons,take_succ_cons,List.cons.injEq]at this;exact this.2.symm
    have D:z.length<=(r.takeWhile nlB).length:=by
     have:=z1u (c::r.takeWhile nlB)
     rw[H,length_cons,length_cons]at this;omega
    have G:z.takeWhile nlB=z:=by
     have:=z5z (p:=nlB) (r.takeWhile nlB) z.length (by rw[v2v];exact D)
     rw[<-E]at this;exact this
    refine⟨c,z,by rw[e,H],hs,?_,?_,by rw[<-H];exact j3q _⟩
    ·simp only[q4y,A,B,C,if_true,Bool.false_eq_true,if_false,G]at ho⊢;rw[E];exact v4i ho _
    ·simp only[q0x,A,B,C,if_true,Bool.false_eq_true,if_false,G,length_cons]
   | false=>
    have e:tkW (c::r)=[c]:=by
     simp only[tkW,q0x,A,B,C,Bool.false_eq_true,if_false,take_succ_cons,List.take_zero];exact q1u [] (k7e hs)
    refine⟨c,[],e,hs,?_,?_,q1u [] (k7e hs)⟩
    ·simp only[q4y,A,B,C,Bool.false_eq_true,if_false]at ho⊢;exact ho
    ·simp only[q0x,A,B,C,Bool.false_eq_true,if_false,length_cons,length_nil]
theorem v2o{w:List UInt8}(h:q3l w):1<=w.length:=by
 obtain⟨c,r,rfl,_⟩:=h;simp
theorem y8k{w:List UInt8}(h:q3l w)(t:List UInt8)(i:Nat):lx (w++10::t) i=((i,w)::lxW t (i+w.length+1),lxF t (i+w.length+1)):=by
 obtain⟨c,r,rfl,I,H,B,J⟩:=h;obtain⟨A,D⟩:=y9q c r t;rw[cons_append]at A D;have C:q4y (c::(r++10::t))=true:=by rw[D];exact H
 have E:(c::(r++10::t)).drop (q0x (c::(r++10::t)))=10::t:=by
  rw[A,B,<-cons_append,List.drop_left]
 have G:tkW (c::(r++10::t))=c::r:=by
  rw[tkW,A,B,<-cons_append,List.take_left,J]
 rw[cons_append,z7m i I C,E,G,A,B,lxW,lxF,k3e t _ rfl];rfl
def spc:List (List UInt8)->List UInt8
 | []=>[]
 | w::r=>w++10::spc r
def z0k(s:List UInt8)(i:Nat)(x:Nat × List UInt8):Prop:=i<=x.1/\x.1+x.2.length<=i+s.length/\(s.drop (x.1-i)).take x.2.length=x.2/\q3l x.2
theorem z0k.later{s:List UInt8}{i k:Nat}{x:Nat × List UInt8}(h:z0k (s.drop k) (i+k) x)(hk:k<=s.length):z0k s i x:=by
 obtain⟨D,B,A,C⟩:=h;rw[length_drop]at B;refine⟨by omega,by omega,?_,C⟩;rw[List.drop_drop]at A;have e:x.1-i=k+(x.1-(i+k)):=by omega
 rw[e];exact A
theorem y4o:∀(n:Nat)(s:List UInt8)(i:Nat),s.length<=n->(∀x∈lxW s i,z0k s i x)/\(lxW s i).Pairwise (fun a b=>a.1+a.2.length<=b.1)
 | 0,s,i,h=>by
  have:s=[]:=List.eq_nil_of_length_eq_zero (by omega)
  subst this;rw[lxW,z3h];exact⟨fun x hx=>absurd hx not_mem_nil,List.Pairwise.nil⟩
 | n+1,s,i,h=>by
  cases s with
  | nil=>
   rw[lxW,z3h];exact⟨fun x hx=>absurd hx not_mem_nil,List.Pairwise.nil⟩
  | cons c r=>
   cases hs:spB c with
   | true=>
    obtain⟨h1,h2⟩:=y4o n r (i+1) (by simp at h;omega);rw[lxW,k3e r i hs];exact⟨fun x hx=>z0k.later (s:=c::r) (k:=1) (h1 x hx) (by simp),h2⟩
   | false=>
    cases ho:q4y (c::r)with
    | false=>
     rw[lxW,k9c i hs ho];exact⟨fun x hx=>absurd hx not_mem_nil,List.Pairwise.nil⟩
    | true=>
     have hp:=q5p c r;have hle:=z1q (c::r)
     have hw:(tkW (c::r)).length<=q0x (c::r):=by
      have:=z1u ((c::r).take (q0x (c::r)))
      rw[List.length_take]at this;rw[tkW];omega
     obtain⟨h1,h2⟩:=y4o n ((c::r).drop (q0x (c::r))) (i+q0x (c::r)) (by simp only[length_drop,length_cons]at h⊢;omega);rw[lxW,z7m i hs ho];refine⟨fun x hx=>?_,List.pairwise_cons.2 ⟨fun x hx=>?_,h2⟩⟩
     ·rcases List.mem_cons.1 hx with rfl|hx
      ·refine⟨Nat.le_refl _,by simp only;omega,?_,y1u hs ho⟩;simp only[Nat.sub_self,List.drop_zero];have A:=z8c ((c::r).take (q0x (c::r)));rw[List.take_take,Nat.min_eq_left (by rw[tkW]at hw;exact hw)]at A;exact A
      ·exact(h1 x hx).later hle
     ·have:=(h1 x hx).1
      simp only;omega
def q2o(s:List UInt8):List (List UInt8):=(lxW s 0).map (·.2)
def z3j(s:List UInt8):List Nat:=(lxW s 0).map (·.1)
theorem z3m(s:List UInt8):(q2o s).length=(z3j s).length:=by simp[q2o,z3j]
theorem g0n(s:List UInt8)(j:Nat)(h:j<(q2o s).length)(h2:j<(z3j s).length):
  (z3j s)[j]+(q2o s)[j].length<=s.length/\(s.drop (z3j s)[j]).take (q2o s)[j].length=(q2o s)[j]/\q3l (q2o s)[j]/\∀k(hk:k<(q2o s).length)(hk2:k<(z3j s).length),k<j->(z3j s)[k]+(q2o s)[k].length<=(z3j s)[j]:=by
 obtain⟨B,C⟩:=y4o s.length s 0 Zl;have A:j<(lxW s 0).length:=by simpa[q2o]using h
 obtain⟨_,G,D,E⟩:=B (lxW s 0)[j] (List.getElem_mem A);simp only[q2o,z3j,List.getElem_map]at *;refine⟨by omega,by simpa using D,E,fun k hk hk2 hkj=>?_⟩;exact List.pairwise_iff_getElem.1 C k j (by simpa using hk2) A hkj
theorem y6f(s:List UInt8):∀w∈q2o s,q3l w:=by
 intro w B;obtain⟨j,A,rfl⟩:=List.getElem_of_mem B;exact(g0n s j A (by rw[<-z3m];exact A)).2.2.1
theorem z9s:∀(n:Nat)(s:List UInt8)(i:Nat),s.length<=n->(lxW s i).length<=s.length
 | 0,s,i,h=>by
  have:s=[]:=List.eq_nil_of_length_eq_zero (by omega)
  subst this;rw[lxW,z3h];simp
 | n+1,s,i,h=>by
  cases s with
  | nil=>rw[lxW,z3h];simp
  | cons c r=>
   cases hs:spB c with
   | true=>
    have:=z9s n r (i+1) (by simp at h;omega)
    rw[lxW,k3e r i hs];simp only[length_cons];rw[lxW]at this;omega
   | false=>
    cases ho:q4y (c::r)with
    | false=>rw[lxW,k9c i hs ho];simp
    | true=>
     have hp:=q5p c r;have hle:=z1q (c::r)
     have:=z9s n ((c::r).drop (q0x (c::r))) (i+q0x (c::r)) (by simp only[length_drop,length_cons]at h⊢;omega)
     rw[lxW,z7m i hs ho];simp only[length_cons,length_drop]at this hle⊢;omega
theorem v3c(s:List UInt8):(q2o s).length<=s.length:=by
 have:=z9s s.length s 0 Zl
 simpa[q2o]using this
def g3b(w:List UInt8):Bool:=w.headD 0 != 35
def many(ws:List (List UInt8)):Nat:=(ws.filter g3b).length
theorem k9e(a b:List (List UInt8)):many (a++b)=many a+many b:=by simp[many]
def q8e(s:List UInt8):Int:=if 60000<s.length then 3 else if(lxF s 0).isSome then 5 else if 300<many (q2o s)then 3 else 0
def k1j(s:List UInt8):Nat:=if q8e s=5 then(lxF s 0).getD 0 else 0
theorem z5d{s:List UInt8}(h:q8e s=0):s.length<=60000/\lxF s 0=none/\many (q2o s)<=300:=by
 unfold q8e at h
 split at h
 ·cases h
 ·split at h
  ·cases h
  ·split at h
   ·cases h
   ·rename_i h1 h2 h3;exact⟨by omega,by simpa using h2,by omega⟩
abbrev btL(s:ByteArray):List UInt8:=s.data.toList
theorem q0c(s:ByteArray):(btL s).length=s.size:=(Lib.size_eq s).symm
theorem q1i{s:ByteArray}{k:Nat}(h:k<s.size):(btL s).drop k=s[k]::(btL s).drop (k+1):=by
 have A:k<(btL s).length:=by rw[q0c];exact h
 rw[List.drop_eq_getElem_cons A];rfl
def twN(p:UInt8->Bool)(s:ByteArray)(k:Nat):Nat:=(((btL s).drop k).takeWhile p).length
theorem k0z{p:UInt8->Bool}{s:ByteArray}{k:Nat}(h:k<s.size)(hp:p s[k]=true):twN p s k=twN p s (k+1)+1:=by
 rw[twN,q1i h,takeWhile_cons,if_pos hp];rfl
theorem j0l{p:UInt8->Bool}{s:ByteArray}{k:Nat}(h:k<s.size)(hp:p s[k]=false):twN p s k=0:=by
 rw[twN,q1i h,takeWhile_cons,if_neg (by simp[hp])];rfl
theorem k0y{p:UInt8->Bool}{s:ByteArray}{k:Nat}(h:¬k<s.size):twN p s k=0:=by
 rw[twN,List.drop_eq_nil_of_le (by rw[q0c];omega)];rfl
def prN(s:ByteArray)(k:Nat):Bool:=(((btL s).drop k).takeWhile nlB).all prB
theorem y5c{s:ByteArray}{k:Nat}(h:k<s.size)(hp:nlB s[k]=true):prN s k=(prB s[k]&&prN s (k+1)):=by
 rw[prN,q1i h,takeWhile_cons,if_pos hp,List.all_cons];rfl
theorem y9a{s:ByteArray}{k:Nat}(h:k<s.size)(hp:nlB s[k]=false):prN s k=true:=by
 rw[prN,q1i h,takeWhile_cons,if_neg (by simp[hp])];rfl
theorem y5b{s:ByteArray}{k:Nat}(h:¬k<s.size):prN s k=true:=by
 rw[prN,List.drop_eq_nil_of_le (by rw[q0c];omega)];rfl
def z3k(s:ByteArray)(i:Nat):Nat:=q0x ((btL s).drop i)
def tOk(s:ByteArray)(i:Nat):Bool:=q4y ((btL s).drop i)
theorem g2r{s:ByteArray}{i:Nat}(h:i<s.size)(hc:q2a s[i]=true):z3k s i=twN q2a s (i+1)+1/\tOk s i=decide (twN q2a s (i+1)+1<=8):=by
 rw[z3k,tOk,q1i h];simp only[q0x,q4y,hc,if_true];exact⟨rfl,rfl⟩
theorem g2q{s:ByteArray}{i:Nat}(h:i<s.size)(hc:q2a s[i]=false)(hf:q1x s[i]=true):z3k s i=twN q1x s (i+1)+1/\tOk s i=(decide (twN q1x s (i+1)+1<=6)&&(s[i] != 48||twN q1x s (i+1)==0)):=by
 rw[z3k,tOk,q1i h];simp only[q0x,q4y,hc,hf,if_true,Bool.false_eq_true,if_false];exact⟨rfl,rfl⟩
theorem y9o{s:ByteArray}{i:Nat}(h:i<s.size)(hc:q2a s[i]=false)(hf:q1x s[i]=false)(hn:(s[i]==35)=true):z3k s i=twN nlB s (i+1)+1/\tOk s i=prN s (i+1):=by
 rw[z3k,tOk,q1i h];simp only[q0x,q4y,hc,hf,hn,if_true,Bool.false_eq_true,if_false];exact⟨rfl,rfl⟩
theorem y9n{s:ByteArray}{i:Nat}(h:i<s.size)(hc:q2a s[i]=false)(hf:q1x s[i]=false)(hn:(s[i]==35)=false):z3k s i=1/\tOk s i=y6p s[i]:=by
 rw[z3k,tOk,q1i h];simp only[q0x,q4y,hc,hf,hn,Bool.false_eq_true,if_false];exact⟨trivial,trivial⟩
theorem g3d{s:ByteArray}{i:Nat}(h:i<s.size):1<=z3k s i/\i+z3k s i<=s.size:=by
 have A:=z1q ((btL s).drop i);rw[length_drop,q0c]at A;rw[z3k];refine⟨?_,by omega⟩;rw[q1i h];exact q5p _ _
theorem q6f(c:UInt8)(n:Nat)(hn:n<256):((c.toNat:Int)==(n:Int))=(c==UInt8.ofNat n):=by
 by_cases h:c=UInt8.ofNat n
 ·subst h;rw[beq_iff_eq.2 (show((UInt8.ofNat n).toNat:Int)=(n:Int) by simp[Nat.mod_eq_of_lt hn])];simp
 ·rw[beq_false_of_ne h,beq_false_of_ne];intro e;apply h
  have:c.toNat=n:=by omega
  rw[<-this];simp
def wbS(w:List UInt8):ByteArray:=⟨w.toArray⟩
theorem z0f(s:ByteArray)(i e:Nat):s.extract i e=wbS (((btL s).drop i).take (e-i)):=by
 apply ByteArray.ext;rw[ByteArray.data_extract];apply Array.ext';simp only[wbS,Array.toList_extract,List.extract]
def q7v(b:UInt8):Bool:=decide (33<=b.toNat)&&decide (b.toNat<=126)
def okW(x:ByteArray):Bool:=decide (1<=x.size)&&decide (x.size<=20)&&x.data.toList.all q7v
def q1f(ws:List ByteArray):Int:=if 60<ws.length then 3 else if ws.all okW then 0 else 5
def q6w(ws:List ByteArray)(wd:Int):Int:=if q1f ws≠0 then q1f ws else if wd<1\/100<wd then 1 else 0
theorem z0g{ws:List ByteArray}(h:q1f ws=0):ws.length<=60/\∀x∈ws,okW x=true:=by
 unfold q1f at h
 split at h
 ·cases h
 ·split at h
  ·rename_i h1 h2;exact⟨by omega,fun x hx=>List.all_eq_true.1 h2 x hx⟩
  ·cases h
theorem v7f{x:ByteArray}(h:okW x=true):1<=x.size/\x.size<=20:=by
 simp only[okW,Bool.and_eq_true,decide_eq_true_eq]at h;exact h.1
def Few(ws:List ByteArray):Prop:=ws.length<=60/\∀x∈ws,x.size<=20
theorem y0g{ws:List ByteArray}(h:q1f ws=0):Few ws:=⟨(z0g h).1,fun x hx=>(v7f ((z0g h).2 x hx)).2⟩
theorem Few.take{ws:List ByteArray}(h:Few ws)(k:Nat):Few (ws.take k):=⟨by have:=h.1;simp;omega,fun x hx=>h.2 x (List.mem_of_mem_take hx)⟩
theorem Few.drop{ws:List ByteArray}(h:Few ws)(k:Nat):Few (ws.drop k):=⟨by have:=h.1;simp;omega,fun x hx=>h.2 x (List.mem_of_mem_drop hx)⟩
theorem j1p{ws:List ByteArray}{wd:Int}(h:q6w ws wd=0):q1f ws=0/\∃n:Nat,wd=n/\1<=n/\n<=100:=by
 unfold q6w at h
 split at h
 ·rename_i h1;exact absurd h h1
 ·rename_i h1
  split at h
  ·cases h
  ·refine⟨by omega,wd.toNat,by omega,by omega,by omega⟩
def tot:List ByteArray->Nat
 | []=>0
 | x::r=>x.size+tot r
theorem y5z(a b:List ByteArray):tot (a++b)=tot a+tot b:=by
 induction a with
 | nil=>simp[tot]
 | cons x r ih=>simp only[cons_append,tot,ih];omega
theorem v8x{ws:List ByteArray}{i:Nat}(h:i<ws.length):tot (ws.take (i+1))=tot (ws.take i)+ws[i].size:=by
 rw[List.take_succ_eq_append_getElem h,y5z];simp[tot]
theorem y9u{ws:List ByteArray}(h:∀x∈ws,x.size<=20):tot ws<=20*ws.length:=by
 induction ws with
 | nil=>simp[tot]
 | cons x r ih=>
  have A:=h x (by simp);have B:=ih fun y hy=>h y (by simp[hy])
  simp only[tot,length_cons];omega
theorem Few.tot{ws:List ByteArray}(h:Few ws):tot ws<=1200:=by
 have:=y9u h.2
 have:=h.1
 omega
def ln(ws:List ByteArray):Nat:=tot ws+(ws.length-1)
theorem Few.ln{ws:List ByteArray}(h:Few ws):ln ws<=1260:=by
 have:=h.tot
 have:=h.1
 simp only[Go.Proofs.YtchdplceopegoaaGreatDoor.ln];omega
def jnL(ws:List ByteArray):List UInt8:=Lib.join (ws.map (·.data.toList)) [32]
def jnS(ws:List ByteArray):ByteArray:=⟨(jnL ws).toArray⟩
theorem v6l(ws:List ByteArray):Lib.lens (ws.map (·.data.toList))=tot ws:=by
 induction ws with
 | nil=>rfl
 | cons x r ih=>
  have e:Lib.lens ((x::r).map (·.data.toList))=x.data.toList.length+Lib.lens (r.map (·.data.toList)):=by simp[Lib.lens]
  rw[e,ih,tot,Lib.size_eq]
theorem j7q(ws:List ByteArray):(jnL ws).length=ln ws:=by
 cases ws with
 | nil=>rfl
 | cons x r=>
  have h:=Lib.join_length x.data.toList (r.map (·.data.toList)) [32];have A:=v6l (x::r);simp only[map_cons]at A;simp only[jnL,map_cons,h,A,ln,length_cons,length_nil,List.length_map];omega
theorem z4a(ws:List ByteArray):(jnS ws).size=ln ws:=by
 rw[<-j7q];simp[jnS,ByteArray.size]
theorem y3x:jnS []=⟨#[]⟩:=rfl
theorem v9u(a b:List UInt8):(⟨a.toArray⟩:ByteArray)++⟨b.toArray⟩=⟨(a++b).toArray⟩:=by
 apply ByteArray.ext;simp
theorem y2i(x:ByteArray):(⟨x.data.toList.toArray⟩:ByteArray)=x:=by cases x;simp
theorem j7r{ws:List ByteArray}(h:0<ws.length):jnS (ws.take 1)=ws[0]:=by
 cases ws with
 | nil=>simp at h
 | cons x r=>simp[jnS,jnL,Lib.join_one]
theorem v6d(x:ByteArray)(r:List ByteArray)(y:ByteArray):jnL (x::r++[y])=jnL (x::r)++[32]++y.data.toList:=by
 simp only[jnL,map_cons,cons_append,List.map_append,List.map_nil,Lib.join_cons,Lib.joinTail,List.flatten_append,List.flatten_cons,List.flatten_nil,List.append_nil,List.append_assoc]
theorem v6e{ws:List ByteArray}{i:Nat}(h0:0<i)(h:i<ws.length):jnS (ws.take (i+1))=jnS (ws.take i)++⟨#[32]⟩++ws[i]:=by
 rw[List.take_succ_eq_append_getElem h];cases ws with
 | nil=>simp at h
 | cons x r=>
  obtain⟨j,rfl⟩:∃j,i=j+1:=⟨i-1,by omega⟩;simp only[take_succ_cons];have e:=v6d x (r.take j) ((x::r)[j+1]'h);simp only[jnS,e];have A:(⟨#[32]⟩:ByteArray)=⟨([32]:List UInt8).toArray⟩:=rfl;rw[A]
  conv=>rhs;rw[<-y2i ((x::r)[j+1]'h)]
  rw[v9u,v9u]
def bd(n wd:Nat)(last:Bool):Nat:=if wd<n then 1000*(n-wd)else if last then 0 else(wd-n)*(wd-n)
theorem y7f{n wd:Nat}{last:Bool}(h1:n<=1260)(h2:wd<=100):bd n wd last<=1300000:=by
 unfold bd
 split
 ·omega
 ·split
  ·omega
  ·have:(wd-n)*(wd-n)<=100*100:=Nat.mul_le_mul (by omega) (by omega)
   omega
def q9p(g:Nat->Nat):Nat->Nat
 | 0=>0
 | n+1=>if n=0\/g (n+1)<=q9p g n then g (n+1)else q9p g n
def j4a(g:Nat->Nat):Nat->Nat
 | 0=>0
 | n+1=>if n=0\/g (n+1)<=q9p g n then n+1 else j4a g n
theorem z7n{g h:Nat->Nat}:∀n,(∀k,1<=k->k<=n->g k=h k)->q9p g n=q9p h n
 | 0,_=>rfl
 | n+1,e=>by
  have ih:=z7n n fun k h1 h2=>e k h1 (by omega)
  simp only[q9p,ih,e (n+1) (by omega) Zl]
theorem k6j(g:Nat->Nat):∀n k,1<=k->k<=n->q9p g n<=g k
 | 0,k,h1,h2=>by omega
 | n+1,k,h1,h2=>by
  simp only[q9p]
  split
  ·rename_i h;by_cases hk:k=n+1
   ·subst hk;exact Nat.le_refl _
   ·have:=k6j g n k h1 (by omega)
    rcases h with h|h<;>omega
  ·rename_i h;by_cases hk:k=n+1
   ·subst hk;omega
   ·exact k6j g n k h1 (by omega)
theorem k7t(g:Nat->Nat):∀n,1<=n->1<=j4a g n/\j4a g n<=n
 | 0,h=>by omega
 | n+1,h=>by
  simp only[j4a]
  split
  ·omega
  ·rename_i h1
   have:=k7t g n (by omega)
   omega
theorem j4r(g:Nat->Nat):∀n,1<=n->g (j4a g n)=q9p g n
 | 0,h=>by omega
 | n+1,h=>by
  simp only[j4a,q9p]
  split
  ·rfl
  ·rename_i h1;exact j4r g n (by omega)
theorem k1n(g:Nat->Nat):∀n k,j4a g n<k->k<=n->1<=k->g k≠q9p g n
 | 0,k,h1,h2,h3=>by omega
 | n+1,k,h1,h2,h3=>by
  simp only[j4a]at h1;simp only[q9p]
  split at h1
  ·omega
  ·rename_i h;rw[if_neg h];by_cases hk:k=n+1
   ·subst hk;omega
   ·exact k1n g n k h1 (by omega) h3
theorem j8x(g:Nat->Nat)(n:Nat):q9p g (n+1)=if n=0\/g (n+1)<q9p g n then g (n+1)else q9p g n:=by
 simp only[q9p];by_cases A:n=0
 ·simp[A]
 ·simp only[A,false_or]
  split<;>split<;>omega
def j0z(wd:Nat):List ByteArray->List Nat
 | []=>[0]
 | x::r=>q9p (fun k=>bd (ln ((x::r).take k)) wd (k==r.length+1)+(j0z wd r).getD (k-1) 0) (r.length+1)::j0z wd r
def best(wd:Nat)(ws:List ByteArray):Nat:=(j0z wd ws).getD 0 0
theorem z8t(wd:Nat):best wd []=0:=rfl
theorem z6r(wd:Nat):∀(ws:List ByteArray)(j:Nat),j<=ws.length->(j0z wd ws).getD j 0=best wd (ws.drop j)
 | _,0,_=>by simp[best]
 | [],j+1,h=>by simp at h
 | x::r,j+1,h=>by
  have:=z6r wd r j (by simp at h;omega)
  simpa[j0z]using this
def fOf(wd:Nat)(ws:List ByteArray)(k:Nat):Nat:=bd (ln (ws.take k)) wd (k==ws.length)+best wd (ws.drop k)
theorem z4k(wd:Nat){ws:List ByteArray}(h:ws≠[]):best wd ws=q9p (fOf wd ws) ws.length:=by
 cases ws with
 | nil=>exact absurd rfl h
 | cons x r=>
  simp only[best,j0z,List.getD_cons_zero,length_cons];refine z7n _ fun k h1 h2=>?_
  obtain⟨j,rfl⟩:∃j,k=j+1:=⟨k-1,by omega⟩;simp only[fOf,length_cons,List.drop_succ_cons,Nat.add_sub_cancel];rw[z6r wd r j (by omega)]
theorem j5d{wd:Nat}(hw:wd<=100):∀(n:Nat)(ws:List ByteArray),ws.length<=n->Few ws->best wd ws<=1300000
 | 0,ws,h,_=>by
  have:ws=[]:=List.eq_nil_of_length_eq_zero (by omega)
  subst this;simp[z8t]
 | n+1,ws,h,hf=>by
  by_cases h0:ws=[]
  ·subst h0;simp[z8t]
  ·have hp:0<ws.length:=List.length_pos_iff.2 h0;rw[z4k wd h0];refine Nat.le_trans (k6j _ _ ws.length hp Zl) ?_;simp only[fOf,List.drop_length,z8t]
   have:=y7f (last:=(ws.length==ws.length)) (hf.take ws.length).ln hw
   omega
theorem j6q{wd:Nat}(hw:wd<=100){ws:List ByteArray}(hf:Few ws)(k:Nat):fOf wd ws k<=2600000:=by
 have A:=j5d hw _ (ws.drop k) Zl (hf.drop k);have B:=y7f (last:=(k==ws.length)) (hf.take k).ln hw;simp only[fOf];omega
def agF(wd:Nat)(ws:List ByteArray):Nat:=j4a (fOf wd ws) ws.length
theorem z2d(wd:Nat){ws:List ByteArray}(h:ws≠[]):1<=agF wd ws/\agF wd ws<=ws.length:=k7t _ _ (List.length_pos_iff.2 h)
def z4q(wd:Nat)(ws:List ByteArray):List Nat:=
 if _h:ws=[]then []else agF wd ws::z4q wd (ws.drop (agF wd ws))
termination_by ws.length
decreasing_by
 have:=z2d wd _h
 simp only[length_drop];omega
theorem z3y(wd:Nat):z4q wd []=[]:=by rw[z4q];simp
theorem z0r(wd:Nat){ws:List ByteArray}(h:ws≠[]):z4q wd ws=agF wd ws::z4q wd (ws.drop (agF wd ws)):=by
 rw[z4q,dif_neg h]
def j8p:List ByteArray->List Nat->List ByteArray
 | _,[]=>[]
 | ws,k::ks=>jnS (ws.take k)::j8p (ws.drop k) ks
structure Td where
 op:Int
 tx:ByteArray
 n:Int
def kdT(x:Td):Nat:=if x.op=3\/x.op=4 then x.n.toNat else if x.op=5\/x.op=6 then 2 else if x.op=7\/x.op=8 then 1 else 0
def z6t:List Td->Nat->Option Nat
 | _,0=>some 0
 | [],_+1=>none
 | x::r,m+1=>(z6t r (kdT x+m)).map (· + 1)
theorem q7y(ds:List Td):z6t ds 0=some 0:=by cases ds<;>rfl
theorem q8t(m:Nat):z6t [] (m+1)=none:=rfl
theorem q5i(x:Td)(r:List Td)(m:Nat):z6t (x::r) (m+1)=(z6t r (kdT x+m)).map (· + 1):=rfl
theorem k5l:∀(ds:List Td)(m k:Nat),z6t ds m=some k->m<=k/\k<=ds.length
 | ds,0,k,h=>by rw[q7y]at h;cases h;simp
 | [],m+1,k,h=>by rw[q8t]at h;cases h
 | x::r,m+1,k,h=>by
  rw[q5i,Option.map_eq_some_iff]at h;obtain⟨j,h1,rfl⟩:=h
  have:=k5l r _ j h1
  simp;omega
theorem z8w:∀(ds:List Td)(a b:Nat),z6t ds (a+b)=(z6t ds a).bind fun k=>(z6t (ds.drop k) b).map (k+·)
 | ds,0,b=>by
  rw[q7y];simp
 | [],a+1,b=>by rw[show a+1+b=(a+b)+1 by omega,q8t,q8t];rfl
 | x::r,a+1,b=>by
  rw[show a+1+b=(a+b)+1 by omega,q5i,q5i,show kdT x+(a+b)=(kdT x+a)+b by omega,z8w r _ b];cases z6t r (kdT x+a)with
  | none=>rfl
  | some k=>
   simp only[Option.bind_some,Option.map_some,List.drop_succ_cons];cases z6t (r.drop k) b with
   | none=>rfl
   | some j=>simp;omega
def q3u(ds:List Td)(i m:Nat):Option Nat:=(z6t (ds.drop i) m).map (i+·)
theorem k2c(ds:List Td)(i:Nat):q3u ds i 0=some i:=by simp[q3u,q7y]
theorem q8v(ds:List Td)(i m:Nat)(h:ds.length<=i):q3u ds i (m+1)=none:=by
 rw[q3u,List.drop_eq_nil_of_le h,q8t];rfl
theorem z4s(ds:List Td)(i m:Nat)(h:i<ds.length):q3u ds i (m+1)=q3u ds (i+1) (kdT ds[i]+m):=by
 rw[q3u,List.drop_eq_getElem_cons h,q5i,q3u];cases z6t (ds.drop (i+1)) (kdT ds[i]+m)with
 | none=>rfl
 | some k=>simp;omega
theorem v5g(ds:List Td)(i a b:Nat):q3u ds i (a+b)=(q3u ds i a).bind fun j=>q3u ds j b:=by
 rw[q3u,z8w,q3u];cases z6t (ds.drop i) a with
 | none=>rfl
 | some k=>
  simp only[Option.bind_some,Option.map_some,q3u,List.drop_drop];cases z6t (ds.drop (i+k)) b with
  | none=>rfl
  | some j=>simp;omega
theorem y3n{ds:List Td}{i m j:Nat}(h:q3u ds i m=some j):i+m<=j/\(m=0\/j<=ds.length):=by
 rw[q3u,Option.map_eq_some_iff]at h;obtain⟨k,A,rfl⟩:=h;have B:=k5l _ _ _ A;rw[length_drop]at B;omega
def q0o(s:ByteArray):Bool:=decide (1<=s.size)&&decide (s.size<=8)&&decide (btL s≠[108,101,116])&&(btL s).all q2a
def q4x:List UInt8->List (List UInt8)
 | []=>[[]]
 | c::r=>if c=32 then []::q4x r else match q4x r with
  | []=>[[c]]
  | w::ws=>(c::w)::ws
theorem q8j(s:List UInt8):q4x s≠[]:=by
 cases s with
 | nil=>simp[q4x]
 | cons c r=>
  simp only[q4x]
  split
  ·simp
  ·split<;>simp
theorem q5d(r:List UInt8):q4x (32::r)=[]::q4x r:=by simp[q4x]
theorem q5e{c:UInt8}(h:c≠32){r w:List UInt8}{ws:List (List UInt8)}(hr:q4x r=w::ws):q4x (c::r)=(c::w)::ws:=by
 simp only[q4x,if_neg h,hr]
theorem j0c(u r:List UInt8)(h:∀b∈u,b≠32):q4x (u++32::r)=u::q4x r:=by
 induction u with
 | nil=>exact q5d r
 | cons c u ih=>
  have A:=ih fun b hb=>h b (by simp[hb])
  rw[cons_append,q5e (h c (by simp)) A]
theorem j0d(u:List UInt8)(h:∀b∈u,b≠32):q4x u=[u]:=by
 induction u with
 | nil=>rfl
 | cons c u ih=>rw[q5e (h c (by simp)) (ih fun b hb=>h b (by simp[hb]))]
def q0d(s:List UInt8):List (List UInt8):=if s=[]then []else q4x s
def q2t(s:ByteArray):Int:=q1f ((q0d (btL s)).map wbS)
def q2v(op:Int):Bool:=decide (op=2)||decide (op=3)||decide (op=7)||decide (op=9)
def q0t(x:Td):Int:=
 if x.op<1\/9<x.op then 1
 else if(x.op=1/\(x.n<0\/999999<x.n))\/((x.op=3\/x.op=4)/\(x.n<0\/6<x.n))then 1
 else if(x.op≠1/\x.op≠3/\x.op≠4/\x.n≠0)\/(q2v x.op=false/\0<x.tx.size)then 2
 else if x.op=9 then q2t x.tx
 else if q2v x.op=true/\q0o x.tx=false then 5 else 0
def v4d:List Td->Int
 | []=>0
 | x::r=>if q0t x=0 then v4d r else q0t x
theorem k8t:∀(ds:List Td),(∀x∈ds,q0t x=0)->v4d ds=0
 | [],_=>rfl
 | x::r,h=>by rw[v4d,if_pos (h x (by simp)),k8t r fun y hy=>h y (by simp[hy])]
theorem k2j:∀(ds:List Td),v4d ds=0->∀x∈ds,q0t x=0
 | [],_=>by simp
 | x::r,h=>by
  rw[v4d]at h
  split at h
  ·rename_i h0;intro y hy;rcases List.mem_cons.1 hy with rfl|hy
   ·exact h0
   ·exact k2j r h y hy
  ·rename_i h0;exact absurd h h0
theorem j7k:∀(ds:List Td)(k:Nat)(h:k<ds.length),(∀x∈ds.take k,q0t x=0)->q0t ds[k]≠0->v4d ds=q0t ds[k]
 | x::r,0,_,_,h=>by
  have h':q0t x≠0:=h;rw[v4d,if_neg h'];rfl
 | x::r,k+1,hk,ha,h=>by
  rw[v4d,if_pos (ha x (by simp)),j7k r k (by simpa using hk) (fun y hy=>ha y (by simp[hy])) h];rfl
def k7i(ds:List Td):Bool:=match ds with
 | []=>true
 | x::r=>decide (7<=x.op)&&r.all fun y=>decide (y.op<7)
def q0b(ds:List Td):Int:=
 if 40<ds.length then 3 else if v4d ds≠0 then v4d ds else if q3u ds 0 1=some ds.length/\k7i ds=true then 0 else 2
theorem q3k{ds:List Td}(h:q0b ds=0):ds.length<=40/\(∀x∈ds,q0t x=0)/\q3u ds 0 1=some ds.length/\k7i ds=true:=by
 unfold q0b at h
 split at h
 ·cases h
 ·split at h
  ·rename_i h1;exact absurd h h1
  ·rename_i h0 h1
   split at h
   ·rename_i h2;exact⟨by omega,k2j ds (by omega),h2.1,h2.2⟩
   ·cases h
theorem y0n{x:Td}(h:q0t x=0):kdT x<=6:=by
 unfold q0t at h
 split at h
 ·cases h
 ·split at h
  ·cases h
  ·rename_i h1 h2;unfold kdT
   split
   ·omega
   ·split
    ·omega
    ·split<;>omega
inductive Fo where
 | nil:Fo
 | cons (x:Td) (k n:Fo):Fo
def Fo.len:Fo->Nat
 | .nil=>0
 | .cons _ _ n=>n.len+1
def Fo.N:Fo->List Td
 | .nil=>[]
 | .cons x k n=>x::(k.N++n.N)
def Fo.ok:Fo->Prop
 | .nil=>True
 | .cons x k n=>k.len=kdT x/\k.ok/\n.ok
def Fo.app:Fo->Fo->Fo
 | .nil,g=>g
 | .cons x k n,g=>.cons x k (n.app g)
theorem y3r:∀(l:Nat)(ds:List Td)(m k:Nat),ds.length<=l->z6t ds m=some k->∃F:Fo,F.ok/\F.len=m/\F.N=ds.take k
 | l,ds,0,k,_,h=>by
  rw[q7y]at h;cases h;exact⟨.nil,trivial,rfl,by simp[Fo.N]⟩
 | 0,ds,m+1,k,hl,h=>by
  have:ds=[]:=List.eq_nil_of_length_eq_zero (by omega)
  subst this;rw[q8t]at h;cases h
 | l+1,[],m+1,k,hl,h=>by rw[q8t]at h;cases h
 | l+1,x::r,m+1,k,hl,h=>by
  rw[q5i,Option.map_eq_some_iff]at h;obtain⟨j,h1,rfl⟩:=h;rw[z8w]at h1;cases h2:z6t r (kdT x)with
  | none=>rw[h2]at h1;cases h1
  | some a=>
   rw[h2,Option.bind_some,Option.map_eq_some_iff]at h1;obtain⟨b,h3,rfl⟩:=h1;obtain⟨K,k1,k2,k3⟩:=y3r l r (kdT x) a (by simp at hl;omega) h2;obtain⟨N,n1,n2,n3⟩:=y3r l (r.drop a) m b (by simp at hl⊢;omega) h3;refine⟨.cons x K N,⟨k2,k1,n1⟩,by simp[Fo.len,n2],?_⟩;have ha:=(k5l _ _ _ h2).2;rw[Fo.N,k3,n3,take_succ_cons,List.cons.injEq];refine⟨rfl,?_⟩;rw[List.take_add]
theorem j7g:∀(F:Fo),F.ok->∀(r:List Td)(m:Nat),z6t (F.N++r) (F.len+m)=(z6t r m).map (F.N.length+·)
 | .nil,_,r,m=>by simp[Fo.N,Fo.len]
 | .cons x k n,h,r,m=>by
  have e1:=j7g n h.2.2 r m;have e2:=j7g k h.2.1 (n.N++r) (n.len+m);rw[e1,h.1]at e2;have e3:(Fo.cons x k n).len+m=(n.len+m)+1:=by simp only[Fo.len];omega
  rw[e3,Fo.N,cons_append,q5i,List.append_assoc,e2];cases z6t r m with
  | none=>rfl
  | some j=>simp;omega
abbrev Wd:=List UInt8
def q3o(n:Nat):Wd:=if h:n<=9 then [UInt8.ofNat (48+n)]else q3o (n / 10)++[UInt8.ofNat (48+n % 10)]
termination_by n
decreasing_by omega
def z6i(w:Wd):Nat:=w.foldl (fun a c=>a*10+(c.toNat-48)) 0
theorem z9b{n:Nat}(h:n<=9):(UInt8.ofNat (48+n)).toNat=48+n:=by
 rw[UInt8.toNat_ofNat'];omega
theorem v7c(n:Nat):z6i (q3o n)=n:=by
 induction n using Nat.strongRecOn with
 | ind n ih=>
  rw[q3o]
  split
  ·rename_i h;simp only[z6i,List.foldl_cons,List.foldl_nil,z9b h];omega
  ·rename_i h;have A:=ih (n / 10) (by omega);unfold z6i at A⊢;rw[List.foldl_append,A];simp only[List.foldl_cons,List.foldl_nil,z9b (show n % 10<=9 by omega)];omega
theorem z8z(n:Nat):∀c∈q3o n,q1x c=true:=by
 induction n using Nat.strongRecOn with
 | ind n ih=>
  have B:∀k,k<=9->q1x (UInt8.ofNat (48+k))=true:=fun k hk=>by
   simp only[q1x,z9b hk];simp;omega
  rw[q3o]
  split
  ·rename_i h;intro c A;rw[List.mem_singleton]at A;rw[A];exact B n h
  ·rename_i h;intro c A;rcases List.mem_append.1 A with A|A
   ·exact ih (n / 10) (by omega) c A
   ·rw[List.mem_singleton]at A;rw[A];exact B _ (by omega)
theorem k5p(n:Nat):q3o n≠[]:=by
 rw[q3o]
 split<;>simp
theorem z0s:∀(k n:Nat),n<10 ^ (k+1)->(q3o n).length<=k+1
 | k,n,h=>by
  rw[q3o]
  split
  ·simp
  ·rename_i h9;cases k with
   | zero=>simp at h;omega
   | succ k=>
    have:=z0s k (n / 10) (by rw[Nat.pow_succ]at h;omega)
    simp only[List.length_append,length_cons,length_nil];omega
theorem j6h(n:Nat)(h:0<n):∃c z,q3o n=c::z/\c≠48:=by
 induction n using Nat.strongRecOn with
 | ind n ih=>
  rw[q3o]
  split
  ·rename_i h9;refine⟨_,[],rfl,fun e=>?_⟩
   have:=congrArg UInt8.toNat e
   rw[z9b h9]at this;simp at this;omega
  ·obtain⟨c,z,e,A⟩:=ih (n / 10) (by omega) (by omega);exact⟨c,z++[UInt8.ofNat (48+n % 10)],by rw[e];rfl,A⟩
structure Tn where
 x:Td
 ns:List Td
 tk:List Wd
 tx:List UInt8
def prc(x:Td):Nat:=if x.op=5 then 0 else if x.op=6 then 1 else 2
def brk(l:Nat)(t:Tn):List Wd:=if prc t.x<l then [40]::(t.tk++[[41]])else t.tk
def brx(l:Nat)(t:Tn):List UInt8:=if prc t.x<l then 40::(t.tx++[41])else t.tx
def cmk:List Tn->List Wd
 | []=>[]
 | t::r=>t.tk++match r with
  | []=>[]
  | _::_=>[44]::cmk r
def cmx:List Tn->List UInt8
 | []=>[]
 | t::r=>t.tx++match r with
  | []=>[]
  | _::_=>44::32::cmx r
def two2{α:Type}(f:Tn->Tn->List α):List Tn->List α
 | [a,b]=>f a b
 | _=>[]
def j3o(x:Td)(ks:List Tn):List Wd:=
 if x.op=1 then [q3o x.n.toNat]
 else if x.op=2 then [btL x.tx]
 else if x.op=3 then btL x.tx::[40]::(cmk ks++[[41]])
 else if x.op=4 then [91]::(cmk ks++[[93]])
 else if x.op=5 then two2 (fun a b=>brk 0 a++[43]::brk 1 b) ks
 else two2 (fun a b=>brk 1 a++[42]::brk 2 b) ks
def q2z(x:Td)(ks:List Tn):List UInt8:=
 if x.op=1 then q3o x.n.toNat
 else if x.op=2 then btL x.tx
 else if x.op=3 then btL x.tx++40::(cmx ks++[41])
 else if x.op=4 then 91::(cmx ks++[93])
 else if x.op=5 then two2 (fun a b=>brx 0 a++32::43::32::brx 1 b) ks
 else two2 (fun a b=>brx 1 a++32::42::32::brx 2 b) ks
def q0k(x:Td)(ks:List Tn):Tn:=⟨x,x::ks.flatMap (·.ns),j3o x ks,q2z x ks⟩
def Fo.R:Fo->List Tn
 | .nil=>[]
 | .cons x k n=>q0k x k.R::n.R
theorem z3a:∀F:Fo,F.R.length=F.len
 | .nil=>rfl
 | .cons _ _ n=>by simp[Fo.R,Fo.len,z3a n]
theorem q8m:∀F:Fo,F.R.flatMap (·.ns)=F.N
 | .nil=>rfl
 | .cons x k n=>by
  rw[Fo.R,List.flatMap_cons,q8m n,q0k,q8m k];simp[Fo.N]
def exN(x:Td):Prop:=q0t x=0/\x.op<7
def Fo.exs(F:Fo):Prop:=∀x∈F.N,exN x
theorem q2c{x:Td}(h:exN x):(x.op=1/\x.tx=⟨#[]⟩/\0<=x.n/\x.n<=999999/\kdT x=0)\/(x.op=2/\q0o x.tx=true/\x.n=0/\kdT x=0)
  \/(x.op=3/\q0o x.tx=true/\0<=x.n/\x.n<=6/\kdT x=x.n.toNat)\/(x.op=4/\x.tx=⟨#[]⟩/\0<=x.n/\x.n<=6/\kdT x=x.n.toNat)
  \/(x.op=5/\x.tx=⟨#[]⟩/\x.n=0/\kdT x=2)\/(x.op=6/\x.tx=⟨#[]⟩/\x.n=0/\kdT x=2):=by
 obtain⟨A,G⟩:=h
 have B:∀s:ByteArray,¬0<s.size->s=⟨#[]⟩:=fun s hs=>by
  apply ByteArray.ext;apply Array.toList_inj.1;exact List.eq_nil_of_length_eq_zero (by have:=q0c s;simp only[btL]at this;omega)
 unfold q0t at A
 split at A
 ·cases A
 ·rename_i h1
  split at A
  ·cases A
  ·rename_i h2
   split at A
   ·cases A
   ·rename_i h3;have D:¬x.op=9:=by omega
    rw[if_neg D]at A
    split at A
    ·cases A
    ·rename_i h4;have E:x.op=1\/x.op=2\/x.op=3\/x.op=4\/x.op=5\/x.op=6:=by omega
     rcases E with e|e|e|e|e|e
     ·refine .inl ⟨e,B _ (fun hh=>h3 (.inr ⟨by rw[e];rfl,hh⟩)),by omega,by omega,by unfold kdT;rw[e];rfl⟩
     ·refine .inr (.inl ⟨e,?_,by omega,by unfold kdT;rw[e];rfl⟩);cases C:q0o x.tx with
      | true=>rfl
      | false=>exact absurd ⟨by rw[e];rfl,C⟩ h4
     ·refine .inr (.inr (.inl ⟨e,?_,by omega,by omega,by unfold kdT;rw[if_pos (.inl e)]⟩));cases C:q0o x.tx with
      | true=>rfl
      | false=>exact absurd ⟨by rw[e];rfl,C⟩ h4
     ·exact .inr (.inr (.inr (.inl ⟨e,B _ (fun hh=>h3 (.inr ⟨by rw[e];rfl,hh⟩)),by omega,by omega,by unfold kdT;rw[if_pos (.inr e)]⟩)))
     ·exact .inr (.inr (.inr (.inr (.inl ⟨e,B _ (fun hh=>h3 (.inr ⟨by rw[e];rfl,hh⟩)),by omega,by unfold kdT;rw[e];rfl⟩))))
     ·exact .inr (.inr (.inr (.inr (.inr ⟨e,B _ (fun hh=>h3 (.inr ⟨by rw[e];rfl,hh⟩)),by omega,by unfold kdT;rw[e];rfl⟩))))
inductive Job where
 | level (k:Nat):Job
 | loop (k:Nat) (acc:List Td):Job
 | single:Job
 | args (e:Wd) (n:Nat) (acc:List Td):Job
inductive Rs where
 | ok (n:Nat) (ns:List Td) (rest:List Wd):Rs
 | bad (rest:List Wd):Rs
def sgn(k:Nat):Wd:=if k=0 then [43]else [42]
def sgT(k:Nat):Td:=⟨5+k,⟨#[]⟩,0⟩
def z0d(w:Wd):Bool:=q1x (w.headD 0)
def nmW(w:Wd):Bool:=q0o (wbS w)
def y6n(w:Wd):Td:=⟨1,⟨#[]⟩,(z6i w:Nat)⟩
def nmT(w:Wd):Td:=⟨2,wbS w,0⟩
def clT(w:Wd)(n:Nat):Td:=⟨3,wbS w,(n:Nat)⟩
def lsT(n:Nat):Td:=⟨4,⟨#[]⟩,(n:Nat)⟩
inductive PR:Job->List Wd->Rs->Prop where
 | lev2 {ts r}:PR .single ts r->PR (.level 2) ts r
 | levB {k ts u}:k<2->PR (.level (k+1)) ts (.bad u)->PR (.level k) ts (.bad u)
 | levO {k ts m ns u r}:k<2->PR (.level (k+1)) ts (.ok m ns u)->PR (.loop k ns) u r->PR (.level k) ts r
 | lopE {k acc ts}:ts.head?≠some (sgn k)->PR (.loop k acc) ts (.ok 0 acc ts)
 | lopB {k acc ts u}:PR (.level (k+1)) ts (.bad u)->PR (.loop k acc) (sgn k::ts) (.bad u)
 | lopO {k acc ts m ns u r}:PR (.level (k+1)) ts (.ok m ns u)->PR (.loop k (sgT k::(acc++ns))) u r->PR (.loop k acc) (sgn k::ts) r
 | sinN:PR .single [] (.bad [])
 | sPB {ts u}:PR (.level 0) ts (.bad u)->PR .single ([40]::ts) (.bad u)
 | sPC {ts m ns u}:PR (.level 0) ts (.ok m ns ([41]::u))->PR .single ([40]::ts) (.ok 0 ns u)
 | sPX {ts m ns u}:PR (.level 0) ts (.ok m ns u)->u.head?≠some [41]->PR .single ([40]::ts) (.bad u)
 | sLB {ts u}:PR (.args [93] 0 []) ts (.bad u)->PR .single ([91]::ts) (.bad u)
 | sLO {ts n ns u}:PR (.args [93] 0 []) ts (.ok n ns u)->PR .single ([91]::ts) (.ok 0 (lsT n::ns) u)
 | sNum {w ts}:z0d w=true->PR .single (w::ts) (.ok 0 [y6n w] ts)
 | sName {w ts}:nmW w=true->ts.head?≠some [40]->PR .single (w::ts) (.ok 0 [nmT w] ts)
 | sCB {w ts u}:nmW w=true->PR (.args [41] 0 []) ts (.bad u)->PR .single (w::[40]::ts) (.bad u)
 | sCO {w ts n ns u}:nmW w=true->PR (.args [41] 0 []) ts (.ok n ns u)->PR .single (w::[40]::ts) (.ok 0 (clT w n::ns) u)
 | sBad {w ts}:w≠[40]->w≠[91]->z0d w=false->nmW w=false->PR .single (w::ts) (.bad (w::ts))
 | aEnd {e n acc ts}:PR (.args e n acc) (e::ts) (.ok n acc ts)
 | aSep {e n acc ts}:ts.head?≠some e->ts.head?≠some [44]->PR (.args e (n+1) acc) ts (.bad ts)
 | aB0 {e acc ts u}:ts.head?≠some e->PR (.level 0) ts (.bad u)->PR (.args e 0 acc) ts (.bad u)
 | aO0 {e acc ts m ns u r}:ts.head?≠some e->PR (.level 0) ts (.ok m ns u)->PR (.args e 1 (acc++ns)) u r->PR (.args e 0 acc) ts r
 | aB {e n acc ts u}:e≠[44]->PR (.level 0) ts (.bad u)->PR (.args e (n+1) acc) ([44]::ts) (.bad u)
 | aO {e n acc ts m ns u r}:e≠[44]->PR (.level 0) ts (.ok m ns u)->PR (.args e (n+2) (acc++ns)) u r->PR (.args e (n+1) acc) ([44]::ts) r
theorem q3h{w:Wd}(h:z0d w=true):nmW w=false:=by
 cases A:nmW w with
 | false=>rfl
 | true=>
  exfalso;unfold nmW q0o at A;simp only[Bool.and_eq_true,List.all_eq_true,decide_eq_true_eq]at A;cases w with
  | nil=>simp[wbS,ByteArray.size]at A
  | cons c z=>
   have B:=A.2 c (by show c∈(c::z);simp);have C:q1x c=true:=h
   have:=z9h C
   rw[B]at this;cases this
theorem y1g:z0d [40]=false:=by decide
theorem y1h:z0d [91]=false:=by decide
theorem k6k:nmW [40]=false:=by decide
theorem k6l:nmW [91]=false:=by decide
theorem q3i{j:Job}{ts:List Wd}{r:Rs}(h:PR j ts r):∀{r':Rs},PR j ts r'->r=r':=by
 have D:=y1g;have E:=y1h;have B:=k6k;have C:=k6l
 induction h with
 | lev2 _ ih=>intro r' A;cases A with
  | lev2 h2=>exact ih h2
  | levB h0=>omega
  | levO h0=>omega
 | levB h0 _ ih=>intro r' A;cases A with
  | lev2 h2=>omega
  | levB _ h2=>exact ih h2
  | levO _ h2 _=>cases ih h2
 | levO h0 _ _ ih1 ih2=>intro r' A;cases A with
  | lev2 h2=>omega
  | levB _ h2=>cases ih1 h2
  | levO _ h2 h3=>cases ih1 h2;exact ih2 h3
 | lopE h0=>intro r' A;cases A with
  | lopE _=>rfl
  | lopB _=>simp at h0
  | lopO _ _=>simp at h0
 | lopB _ ih=>intro r' A;cases A with
  | lopE h0=>simp at h0
  | lopB h2=>exact ih h2
  | lopO h2 _=>cases ih h2
 | lopO _ _ ih1 ih2=>intro r' A;cases A with
  | lopE h0=>simp at h0
  | lopB h2=>cases ih1 h2
  | lopO h2 h3=>cases ih1 h2;exact ih2 h3
 | sinN=>intro r' A;cases A;rfl
 | sPB _ ih=>intro r' A;cases A with
  | sPB h2=>exact ih h2
  | sPC h2=>cases ih h2
  | sPX h2 _=>cases ih h2
  | sNum h2=>rw[D]at h2;cases h2
  | sName h2 _=>rw[B]at h2;cases h2
  | sCB h2 _=>rw[B]at h2;cases h2
  | sCO h2 _=>rw[B]at h2;cases h2
  | sBad h2=>exact absurd rfl h2
 | sPC _ ih=>intro r' A;cases A with
  | sPB h2=>cases ih h2
  | sPC h2=>cases ih h2;rfl
  | sPX h2 h3=>cases ih h2;simp at h3
  | sNum h2=>rw[D]at h2;cases h2
  | sName h2 _=>rw[B]at h2;cases h2
  | sCB h2 _=>rw[B]at h2;cases h2
  | sCO h2 _=>rw[B]at h2;cases h2
  | sBad h2=>exact absurd rfl h2
 | sPX _ h0 ih=>intro r' A;cases A with
  | sPB h2=>cases ih h2
  | sPC h2=>cases ih h2;simp at h0
  | sPX h2 h3=>cases ih h2;rfl
  | sNum h2=>rw[D]at h2;cases h2
  | sName h2 _=>rw[B]at h2;cases h2
  | sCB h2 _=>rw[B]at h2;cases h2
  | sCO h2 _=>rw[B]at h2;cases h2
  | sBad h2=>exact absurd rfl h2
 | sLB _ ih=>intro r' A;cases A with
  | sLB h2=>exact ih h2
  | sLO h2=>cases ih h2
  | sNum h2=>rw[E]at h2;cases h2
  | sName h2 _=>rw[C]at h2;cases h2
  | sCB h2 _=>rw[C]at h2;cases h2
  | sCO h2 _=>rw[C]at h2;cases h2
  | sBad _ h2=>exact absurd rfl h2
 | sLO _ ih=>intro r' A;cases A with
  | sLB h2=>cases ih h2
  | sLO h2=>cases ih h2;rfl
  | sNum h2=>rw[E]at h2;cases h2
  | sName h2 _=>rw[C]at h2;cases h2
  | sCB h2 _=>rw[C]at h2;cases h2
  | sCO h2 _=>rw[C]at h2;cases h2
  | sBad _ h2=>exact absurd rfl h2
 | sNum h0=>
  have G:=q3h h0;intro r' A;cases A with
  | sPB h2=>rw[D]at h0;cases h0
  | sPC h2=>rw[D]at h0;cases h0
  | sPX h2 h3=>rw[D]at h0;cases h0
  | sLB h2=>rw[E]at h0;cases h0
  | sLO h2=>rw[E]at h0;cases h0
  | sNum h2=>rfl
  | sName h2 _=>rw[G]at h2;cases h2
  | sCB h2 _=>rw[G]at h2;cases h2
  | sCO h2 _=>rw[G]at h2;cases h2
  | sBad _ _ h2=>rw[h0]at h2;cases h2
 | sName h0 h1=>
  intro r' A;cases A with
  | sPB h2=>rw[B]at h0;cases h0
  | sPC h2=>rw[B]at h0;cases h0
  | sPX h2 h3=>rw[B]at h0;cases h0
  | sLB h2=>rw[C]at h0;cases h0
  | sLO h2=>rw[C]at h0;cases h0
  | sNum h2=>rw[q3h h2]at h0;cases h0
  | sName h2 _=>rfl
  | sCB h2 _=>simp at h1
  | sCO h2 _=>simp at h1
  | sBad _ _ _ h2=>rw[h0]at h2;cases h2
 | sCB h0 _ ih=>
  intro r' A;cases A with
  | sPB h2=>rw[B]at h0;cases h0
  | sPC h2=>rw[B]at h0;cases h0
  | sPX h2 h3=>rw[B]at h0;cases h0
  | sLB h2=>rw[C]at h0;cases h0
  | sLO h2=>rw[C]at h0;cases h0
  | sNum h2=>rw[q3h h2]at h0;cases h0
  | sName _ h2=>simp at h2
  | sCB _ h2=>exact ih h2
  | sCO _ h2=>cases ih h2
  | sBad _ _ _ h2=>rw[h0]at h2;cases h2
 | sCO h0 _ ih=>
  intro r' A;cases A with
  | sPB h2=>rw[B]at h0;cases h0
  | sPC h2=>rw[B]at h0;cases h0
  | sPX h2 h3=>rw[B]at h0;cases h0
  | sLB h2=>rw[C]at h0;cases h0
  | sLO h2=>rw[C]at h0;cases h0
  | sNum h2=>rw[q3h h2]at h0;cases h0
  | sName _ h2=>simp at h2
  | sCB _ h2=>cases ih h2
  | sCO _ h2=>cases ih h2;rfl
  | sBad _ _ _ h2=>rw[h0]at h2;cases h2
 | sBad h0 h1 h3 h4=>
  intro r' A;cases A with
  | sPB h2=>exact absurd rfl h0
  | sPC h2=>exact absurd rfl h0
  | sPX h2 _=>exact absurd rfl h0
  | sLB h2=>exact absurd rfl h1
  | sLO h2=>exact absurd rfl h1
  | sNum h2=>rw[h3]at h2;cases h2
  | sName h2 _=>rw[h4]at h2;cases h2
  | sCB h2 _=>rw[h4]at h2;cases h2
  | sCO h2 _=>rw[h4]at h2;cases h2
  | sBad _ _ _ h2=>rfl
 | aEnd=>
  intro r' A;cases A with
  | aEnd=>rfl
  | aSep h2 _=>simp at h2
  | aB0 h2 _=>simp at h2
  | aO0 h2 _ _=>simp at h2
  | aB h2 _=>exact absurd rfl h2
  | aO h2 _ _=>exact absurd rfl h2
 | aSep h0 h1=>
  intro r' A;cases A with
  | aEnd=>simp at h0
  | aSep h2 _=>rfl
  | aB h2 _=>simp at h1
  | aO h2 _ _=>simp at h1
 | aB0 h0 _ ih=>
  intro r' A;cases A with
  | aEnd=>simp at h0
  | aB0 _ h2=>exact ih h2
  | aO0 _ h2 _=>cases ih h2
 | aO0 h0 _ _ ih1 ih2=>
  intro r' A;cases A with
  | aEnd=>simp at h0
  | aB0 _ h2=>cases ih1 h2
  | aO0 _ h2 h3=>cases ih1 h2;exact ih2 h3
 | aB h0 _ ih=>
  intro r' A;cases A with
  | aEnd=>exact absurd rfl h0
  | aSep _ h2=>simp at h2
  | aB _ h2=>exact ih h2
  | aO _ h2 _=>cases ih h2
 | aO h0 _ _ ih1 ih2=>
  intro r' A;cases A with
  | aEnd=>exact absurd rfl h0
  | aSep _ h2=>simp at h2
  | aB _ h2=>cases ih1 h2
  | aO _ h2 h3=>cases ih1 h2;exact ih2 h3
def Rs.rest:Rs->List Wd
 | .ok _ _ u=>u
 | .bad u=>u
def Job.eats:Job->Nat
 | .level _=>1
 | .single=>1
 | _=>0
theorem q2u{α:Type}{u ts:List α}(w:α)(h:u <:+ ts):u <:+ w::ts:=h.trans (suffix_cons w ts)
theorem q5o{j:Job}{ts:List Wd}{r:Rs}(h:PR j ts r):r.rest <:+ ts/\∀m ns u,r=.ok m ns u->u.length+j.eats<=ts.length:=by
 induction h with
 | lev2 _ ih=>exact ih
 | levB _ _ ih=>exact⟨ih.1,fun _ _ _ e=>by cases e⟩
 | levO _ _ _ ih1 ih2=>
  have A:=ih1.2 _ _ _ rfl;refine⟨ih2.1.trans ih1.1,fun m ns u e=>?_⟩;have B:=ih2.2 _ _ _ e;simp only[Job.eats]at A B⊢;omega
 | lopE _=>exact⟨suffix_refl _,fun _ _ _ e=>by cases e;simp[Job.eats]⟩
 | lopB _ ih=>exact⟨q2u _ ih.1,fun _ _ _ e=>by cases e⟩
 | lopO _ _ ih1 ih2=>
  have A:=ih1.2 _ _ _ rfl;refine⟨q2u _ (ih2.1.trans ih1.1),fun m ns u e=>?_⟩;have B:=ih2.2 _ _ _ e;simp only[Job.eats,length_cons]at A B⊢;omega
 | sinN=>exact⟨suffix_refl _,fun _ _ _ e=>by cases e⟩
 | sPB _ ih=>exact⟨q2u _ ih.1,fun _ _ _ e=>by cases e⟩
 | sPC _ ih=>
  have A:=ih.2 _ _ _ rfl;refine⟨q2u _ ((suffix_cons _ _).trans ih.1),fun m ns u e=>?_⟩;cases e;simp only[Job.eats,length_cons]at A⊢;omega
 | sPX _ _ ih=>exact⟨q2u _ ih.1,fun _ _ _ e=>by cases e⟩
 | sLB _ ih=>exact⟨q2u _ ih.1,fun _ _ _ e=>by cases e⟩
 | sLO _ ih=>
  have A:=ih.2 _ _ _ rfl;refine⟨q2u _ ih.1,fun m ns u e=>?_⟩;cases e;simp only[Job.eats,length_cons]at A⊢;omega
 | sNum _=>exact⟨suffix_cons _ _,fun _ _ _ e=>by cases e;simp[Job.eats]⟩
 | sName _ _=>exact⟨suffix_cons _ _,fun _ _ _ e=>by cases e;simp[Job.eats]⟩
 | sCB _ _ ih=>exact⟨q2u _ (q2u _ ih.1),fun _ _ _ e=>by cases e⟩
 | sCO _ _ ih=>
  have A:=ih.2 _ _ _ rfl;refine⟨q2u _ (q2u _ ih.1),fun m ns u e=>?_⟩;cases e;simp only[Job.eats,length_cons]at A⊢;omega
 | sBad _ _ _ _=>exact⟨suffix_refl _,fun _ _ _ e=>by cases e⟩
 | aEnd=>exact⟨suffix_cons _ _,fun _ _ _ e=>by cases e;simp[Job.eats]⟩
 | aSep _ _=>exact⟨suffix_refl _,fun _ _ _ e=>by cases e⟩
 | aB0 _ _ ih=>exact⟨ih.1,fun _ _ _ e=>by cases e⟩
 | aO0 _ _ _ ih1 ih2=>
  have A:=ih1.2 _ _ _ rfl;refine⟨ih2.1.trans ih1.1,fun m ns u e=>?_⟩;have B:=ih2.2 _ _ _ e;simp only[Job.eats]at A B⊢;omega
 | aB _ _ ih=>exact⟨q2u _ ih.1,fun _ _ _ e=>by cases e⟩
 | aO _ _ _ ih1 ih2=>
  have A:=ih1.2 _ _ _ rfl;refine⟨q2u _ (ih2.1.trans ih1.1),fun m ns u e=>?_⟩;have B:=ih2.2 _ _ _ e;simp only[Job.eats,length_cons]at A B⊢;omega
end Go.Proofs.YtchdplceopegoaaGreatDoor
