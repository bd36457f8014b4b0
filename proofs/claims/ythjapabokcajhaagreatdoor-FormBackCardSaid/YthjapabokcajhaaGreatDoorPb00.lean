/- Texts as one: LexP, LexQ, LexB, FilP, TreP. -/
import Derived.Lib.Strings
import Derived.Lib.Join
namespace Go.Proofs.YthjapabokcajhaaGreatDoor
open Go
def spB (c:UInt8):Bool:=c == 32 || c == 10
def q3g (c:UInt8):Bool:=decide (97≤c.toNat) && decide (c.toNat≤122)
def q4e (c:UInt8):Bool:=decide (48≤c.toNat) && decide (c.toNat≤57)
def nlB (c:UInt8):Bool:=c != 10
def prB (c:UInt8):Bool:=decide (32≤c.toNat) && decide (c.toNat≤126)
def y0p:List UInt8:=[40,41,91,93,44,43,42,61,59]
def v8s (c:UInt8):Bool:=y0p.any (· == c)
def q0q:List UInt8→Nat
 | []=>0
 | c::r=>if q3g c then (r.takeWhile q3g).length+1 else if q4e c then (r.takeWhile q4e).length+1 else if c == 35 then (r.takeWhile nlB).length+1 else 1
def q4r:List UInt8→Bool
 | []=>false
 | c::r=>if q3g c then decide ((r.takeWhile q3g).length+1≤8) else if q4e c then decide ((r.takeWhile q4e).length+1≤6) && (c != 48 || (r.takeWhile q4e).length == 0) else if c == 35 then (r.takeWhile nlB).all prB else v8s c
def q1c (w:List UInt8):List UInt8:=(w.reverse.dropWhile (· == 32)).reverse
theorem z3j (w:List UInt8):q1c (w++[32])=q1c w:=by simp [q1c]
theorem q1j (w:List UInt8) {c:UInt8} (h:c≠32):q1c (w++[c])=w++[c]:=by simp [q1c,h]
theorem j4t:q1c []=[]:=rfl
theorem z3k (w:List UInt8):∃ z,w=q1c w++z:=by
 refine ⟨(w.reverse.takeWhile (· == 32)).reverse,?_⟩
 rw [q1c,←List.reverse_append,List.takeWhile_append_dropWhile,List.reverse_reverse]
theorem q9s (w:List UInt8):(q1c w).length≤w.length:=by
 obtain ⟨z,hz⟩:=z3k w
 have:=congrArg List.length hz
 rw [List.length_append] at this
 omega
theorem z5i (w:List UInt8):w.take (q1c w).length=q1c w:=by
 obtain ⟨z,hz⟩:=z3k w
 have h2:w.take (q1c w).length=(q1c w++z).take (q1c w).length:=congrArg (List.take _) hz
 rw [h2,List.take_left]
theorem z3l:∀ (n:Nat) (w:List UInt8),w.length≤n→q1c (q1c w)=q1c w
 | n,w,h=>by
  rcases List.eq_nil_or_concat w with rfl | ⟨v,c,rfl⟩
  ·rfl
  ·rw [List.concat_eq_append] at h ⊢
   by_cases hc:c=32
   ·subst hc
    rw [z3j]
    match n,h with
    | 0,h=>simp at h
    | n+1,h=>exact z3l n v (by simp at h;omega)
   ·rw [q1j v hc,q1j v hc]
theorem k7f (w:List UInt8):q1c (q1c w)=q1c w:=z3l _ w (Nat.le_refl _)
theorem z0v {c:UInt8} (h:c≠32) (r:List UInt8):∃ z,q1c (c::r)=c::z:=by
 obtain ⟨z,hz⟩:=z3k (c::r)
 cases ht:q1c (c::r) with
 | nil=>
  exfalso
  have h1:∀ (l:List UInt8),l.dropWhile (· == 32)=[]→∀ x∈l,x=32:=by
   intro l
   induction l with
   | nil=>intro _ x hx;cases hx
   | cons a l ih=>
    intro h2 x hx
    rw [List.dropWhile_cons] at h2
    by_cases ha:(a == 32)=true
    ·rw [if_pos ha] at h2
     rcases List.mem_cons.1 hx with rfl | hx
     ·exact beq_iff_eq.1 ha
     ·exact ih h2 x hx
    ·rw [if_neg ha] at h2;cases h2
  rw [q1c,List.reverse_eq_nil_iff] at ht
  exact h (h1 _ ht c (by simp))
 | cons a b=>
  rw [ht,List.cons_append,List.cons.injEq] at hz
  exact ⟨b,by rw [hz.1]⟩
def tkW (s:List UInt8):List UInt8:=q1c (s.take (q0q s))
theorem q4i (c:UInt8) (r:List UInt8):1≤q0q (c::r):=by
 simp only [q0q]
 split
 ·omega
 ·split
  ·omega
  ·split<;>omega
theorem k4u {α:Type} (p:α→Bool) (l:List α):(l.takeWhile p).length≤l.length:=by
 induction l with
 | nil=>simp
 | cons a l ih=>
  rw [List.takeWhile_cons]
  split
  ·simp;omega
  ·simp
theorem q9q (s:List UInt8):q0q s≤s.length:=by
 cases s with
 | nil=>simp [q0q]
 | cons c r=>
  have h1:=k4u q3g r
  have h2:=k4u q4e r
  have h3:=k4u nlB r
  simp only [q0q,List.length_cons]
  split
  ·omega
  ·split
   ·omega
   ·split<;>omega
def lx (s:List UInt8) (i:Nat):List (Nat × List UInt8) × Option Nat:=
 match s with
 | []=>([],none)
 | c::r=>
  if spB c then lx r (i+1)
  else if q4r (c::r) then ((i,tkW (c::r))::(lx ((c::r).drop (q0q (c::r))) (i+q0q (c::r))).1,(lx ((c::r).drop (q0q (c::r))) (i+q0q (c::r))).2)
  else ([],some i)
termination_by s.length
decreasing_by
 all_goals first
  | (have:=q4i c r;simp only [List.length_drop,List.length_cons];omega)
  | (simp only [List.length_cons];omega)
def lxW (s:List UInt8) (i:Nat):List (Nat × List UInt8):=(lx s i).1
def lxF (s:List UInt8) (i:Nat):Option Nat:=(lx s i).2
theorem z0z (i:Nat):lx [] i=([],none):=by rw [lx]
theorem k1n {c:UInt8} (r:List UInt8) (i:Nat) (h:spB c=true):lx (c::r) i=lx r (i+1):=by rw [lx,if_pos h]
theorem z4y {c:UInt8} {r:List UInt8} (i:Nat) (h:spB c=false) (ho:q4r (c::r)=true) :
  lx (c::r) i=((i,tkW (c::r))::lxW ((c::r).drop (q0q (c::r))) (i+q0q (c::r)),lxF ((c::r).drop (q0q (c::r))) (i+q0q (c::r))):=by
 rw [lx,if_neg (by simp [h]),if_pos ho];rfl
theorem k3r {c:UInt8} {r:List UInt8} (i:Nat) (h:spB c=false) (ho:q4r (c::r)=false):lx (c::r) i=([],some i):=by
 rw [lx,if_neg (by simp [h]),if_neg (by simp [ho])]
theorem z7l {p:UInt8→Bool} {x:UInt8} (h:p x=false) (t:List UInt8):∀ r:List UInt8,(r++x::t).takeWhile p=r.takeWhile p
 | []=>by rw [List.nil_append,List.takeWhile_cons,if_neg (by simp [h])];rfl
 | a::r=>by
  rw [List.cons_append,List.takeWhile_cons,List.takeWhile_cons,z7l h t r]
theorem y1v (c:UInt8) (r t:List UInt8):q0q (c::r++10::t)=q0q (c::r)∧q4r (c::r++10::t)=q4r (c::r):=by
 have h1:=z7l (p:=q3g) (x:=10) rfl t r
 have h2:=z7l (p:=q4e) (x:=10) rfl t r
 have h3:=z7l (p:=nlB) (x:=10) rfl t r
 simp only [List.cons_append,q0q,q4r,h1,h2,h3,and_self]
def q3p (w:List UInt8):Prop:=∃ c r,w=c::r∧spB c=false∧q4r (c::r)=true∧q0q (c::r)=(c::r).length∧q1c (c::r)=c::r
theorem z3m {p:UInt8→Bool}:∀ (r:List UInt8) (k:Nat),k≤(r.takeWhile p).length→(r.take k).takeWhile p=r.take k
 | _,0,_=>by simp
 | [],k+1,h=>by simp at h
 | a::r,k+1,h=>by
  rw [List.takeWhile_cons] at h
  by_cases ha:p a=true
  ·rw [if_pos ha] at h
   rw [List.take_succ_cons,List.takeWhile_cons,if_pos ha,z3m r k (by simp at h;omega)]
  ·rw [if_neg ha] at h;simp at h
theorem z4b {p:UInt8→Bool} (r:List UInt8):r.take (r.takeWhile p).length=r.takeWhile p:=by
 have:=z3m (p:=p) r (r.takeWhile p).length (Nat.le_refl _)
 induction r with
 | nil=>rfl
 | cons a r ih=>
  rw [List.takeWhile_cons]
  split
  ·rw [List.length_cons,List.take_succ_cons,ih (z3m r _ (Nat.le_refl _))]
  ·rfl
theorem j6e {p:UInt8→Bool} {l:List UInt8} (h:l.all p=true) (k:Nat):(l.take k).all p=true:=by
 rw [List.all_eq_true] at h ⊢
 exact fun x hx=>h x (List.mem_of_mem_take hx)
theorem y4r {p:UInt8→Bool} {l:List UInt8} (h:∀ x,p x=true→x≠32):q1c (l.takeWhile p)=l.takeWhile p:=by
 rcases List.eq_nil_or_concat (l.takeWhile p) with e | ⟨v,c,e⟩
 ·rw [e];rfl
 ·rw [e,List.concat_eq_append]
  refine q1j v (h c ?_)
  have hm:c∈l.takeWhile p:=by rw [e];simp
  have hall:∀ (l:List UInt8) x,x∈l.takeWhile p→p x=true:=by
   intro l
   induction l with
   | nil=>intro x hx;cases hx
   | cons a l ih=>
    intro x hx
    rw [List.takeWhile_cons] at hx
    by_cases ha:p a=true
    ·rw [if_pos ha] at hx
     rcases List.mem_cons.1 hx with rfl | hx
     ·exact ha
     ·exact ih x hx
    ·rw [if_neg ha] at hx;cases hx
  exact hall l c hm
end Go.Proofs.YthjapabokcajhaaGreatDoor
namespace Go.Proofs.YthjapabokcajhaaGreatDoor
open Go
theorem z9g {x:UInt8} (h:q3g x=true):x≠32:=by
 rintro rfl;revert h;decide
theorem z8l {x:UInt8} (h:q4e x=true):x≠32:=by
 rintro rfl;revert h;decide
theorem k1f {x:UInt8} (h:q4e x=true):q3g x=false:=by
 simp only [q4e,q3g,Bool.and_eq_true,decide_eq_true_eq,Bool.and_eq_false_iff,decide_eq_false_iff_not] at h ⊢
 omega
theorem q7n {p:UInt8→Bool} (h:∀ x,p x=true→x≠32) (c:UInt8) (hc:p c=true) (r:List UInt8):q1c (c::r.takeWhile p)=c::r.takeWhile p:=by
 have:=y4r (p:=p) (l:=c::r) h
 rw [List.takeWhile_cons,if_pos hc] at this
 exact this
theorem j4x (p:UInt8→Bool) (r:List UInt8):(r.takeWhile p).takeWhile p=r.takeWhile p:=by
 have:=z3m (p:=p) r (r.takeWhile p).length (Nat.le_refl _)
 rw [z4b] at this
 exact this
theorem k6v {c:UInt8} (h:spB c=false):c≠32:=by
 rintro rfl;revert h;decide
theorem v3b {c:UInt8} {r:List UInt8} (hs:spB c=false) (ho:q4r (c::r)=true):q3p (tkW (c::r)):=by
 cases hl:q3g c with
 | true=>
  have e:tkW (c::r)=c::r.takeWhile q3g:=by
   simp only [tkW,q0q,hl,if_true,List.take_succ_cons,z4b]
   exact q7n (fun _=>z9g) c hl r
  refine ⟨c,r.takeWhile q3g,e,hs,?_,?_,q7n (fun _=>z9g) c hl r⟩
  ·simp only [q4r,hl,if_true,j4x] at ho ⊢;exact ho
  ·simp only [q0q,hl,if_true,j4x,List.length_cons]
 | false=>
  cases hf:q4e c with
  | true=>
   have e:tkW (c::r)=c::r.takeWhile q4e:=by
    simp only [tkW,q0q,hl,hf,if_true,Bool.false_eq_true,if_false,List.take_succ_cons,z4b]
    exact q7n (fun _=>z8l) c hf r
   refine ⟨c,r.takeWhile q4e,e,hs,?_,?_,q7n (fun _=>z8l) c hf r⟩
   ·simp only [q4r,hl,hf,if_true,Bool.false_eq_true,if_false,j4x] at ho ⊢;exact ho
   ·simp only [q0q,hl,hf,if_true,Bool.false_eq_true,if_false,j4x,List.length_cons]
  | false=>
   cases hn:(c == 35) with
   | true=>
    have e:tkW (c::r)=q1c (c::r.takeWhile nlB):=by
     simp only [tkW,q0q,hl,hf,hn,if_true,Bool.false_eq_true,if_false,List.take_succ_cons,z4b]
    obtain ⟨z,hz⟩:=z0v (k6v hs) (r.takeWhile nlB)
    have hzt:z=(r.takeWhile nlB).take z.length:=by
     have:=z5i (c::r.takeWhile nlB)
     rw [hz,List.length_cons,List.take_succ_cons,List.cons.injEq] at this
     exact this.2.symm
    have hlen:z.length≤(r.takeWhile nlB).length:=by
     have:=q9s (c::r.takeWhile nlB)
     rw [hz,List.length_cons,List.length_cons] at this
     omega
    have hzz:z.takeWhile nlB=z:=by
     have:=z3m (p:=nlB) (r.takeWhile nlB) z.length (by rw [j4x];exact hlen)
     rw [←hzt] at this
     exact this
    refine ⟨c,z,by rw [e,hz],hs,?_,?_,by rw [←hz];exact k7f _⟩
    ·simp only [q4r,hl,hf,hn,if_true,Bool.false_eq_true,if_false,hzz] at ho ⊢
     rw [hzt]
     exact j6e ho _
    ·simp only [q0q,hl,hf,hn,if_true,Bool.false_eq_true,if_false,hzz,List.length_cons]
   | false=>
    have e:tkW (c::r)=[c]:=by
     simp only [tkW,q0q,hl,hf,hn,Bool.false_eq_true,if_false,List.take_succ_cons,List.take_zero]
     exact q1j [] (k6v hs)
    refine ⟨c,[],e,hs,?_,?_,q1j [] (k6v hs)⟩
    ·simp only [q4r,hl,hf,hn,Bool.false_eq_true,if_false] at ho ⊢;exact ho
    ·simp only [q0q,hl,hf,hn,Bool.false_eq_true,if_false,List.length_cons,List.length_nil]
theorem j4o {w:List UInt8} (h:q3p w):1≤w.length:=by
 obtain ⟨c,r,rfl,_⟩:=h
 simp
theorem v2i {w:List UInt8} (h:q3p w) (t:List UInt8) (i:Nat):lx (w++10::t) i=((i,w)::lxW t (i+w.length+1),lxF t (i+w.length+1)):=by
 obtain ⟨c,r,rfl,hs,ho,hl,ht⟩:=h
 obtain ⟨e1,e2⟩:=y1v c r t
 rw [List.cons_append] at e1 e2
 have ho2:q4r (c::(r++10::t))=true:=by rw [e2];exact ho
 have ed:(c::(r++10::t)).drop (q0q (c::(r++10::t)))=10::t:=by
  rw [e1,hl,←List.cons_append,List.drop_left]
 have ew:tkW (c::(r++10::t))=c::r:=by
  rw [tkW,e1,hl,←List.cons_append,List.take_left,ht]
 rw [List.cons_append,z4y i hs ho2,ed,ew,e1,hl,lxW,lxF,k1n t _ rfl]
 rfl
def q8m (s:List UInt8) (i:Nat) (x:Nat × List UInt8):Prop:=i≤x.1∧x.1+x.2.length≤i+s.length∧(s.drop (x.1 - i)).take x.2.length=x.2∧q3p x.2
theorem q8m.later {s:List UInt8} {i k:Nat} {x:Nat × List UInt8} (h:q8m (s.drop k) (i+k) x) (hk:k≤s.length):q8m s i x:=by
 obtain ⟨h1,h2,h3,h4⟩:=h
 rw [List.length_drop] at h2
 refine ⟨by omega,by omega,?_,h4⟩
 rw [List.drop_drop] at h3
 have e:x.1 - i=k+(x.1 - (i+k)):=by omega
 rw [e]
 exact h3
theorem v6h:∀ (n:Nat) (s:List UInt8) (i:Nat),s.length≤n→(∀ x∈lxW s i,q8m s i x)∧(lxW s i).Pairwise (fun a b=>a.1+a.2.length≤b.1)
 | 0,s,i,h=>by
  have:s=[]:=List.eq_nil_of_length_eq_zero (by omega)
  subst this
  rw [lxW,z0z]
  exact ⟨fun x hx=>absurd hx List.not_mem_nil,List.Pairwise.nil⟩
 | n+1,s,i,h=>by
  cases s with
  | nil=>
   rw [lxW,z0z]
   exact ⟨fun x hx=>absurd hx List.not_mem_nil,List.Pairwise.nil⟩
  | cons c r=>
   cases hs:spB c with
   | true=>
    obtain ⟨h1,h2⟩:=v6h n r (i+1) (by simp at h;omega)
    rw [lxW,k1n r i hs]
    exact ⟨fun x hx=>q8m.later (s:=c::r) (k:=1) (h1 x hx) (by simp),h2⟩
   | false=>
    cases ho:q4r (c::r) with
    | false=>
     rw [lxW,k3r i hs ho]
     exact ⟨fun x hx=>absurd hx List.not_mem_nil,List.Pairwise.nil⟩
    | true=>
     have hp:=q4i c r
     have hle:=q9q (c::r)
     have hw:(tkW (c::r)).length≤q0q (c::r):=by
      have:=q9s ((c::r).take (q0q (c::r)))
      rw [List.length_take] at this
      rw [tkW]
      omega
     obtain ⟨h1,h2⟩:=v6h n ((c::r).drop (q0q (c::r))) (i+q0q (c::r)) (by simp only [List.length_drop,List.length_cons] at h ⊢;omega)
     rw [lxW,z4y i hs ho]
     refine ⟨fun x hx=>?_,List.pairwise_cons.2 ⟨fun x hx=>?_,h2⟩⟩
     ·rcases List.mem_cons.1 hx with rfl | hx
      ·refine ⟨Nat.le_refl _,by simp only;omega,?_,v3b hs ho⟩
       simp only [Nat.sub_self,List.drop_zero]
       have h3:=z5i ((c::r).take (q0q (c::r)))
       rw [List.take_take,Nat.min_eq_left (by rw [tkW] at hw;exact hw)] at h3
       exact h3
      ·exact (h1 x hx).later hle
     ·have:=(h1 x hx).1
      simp only
      omega
def q2w (s:List UInt8):List (List UInt8):=(lxW s 0).map (·.2)
def z7o (s:List UInt8):List Nat:=(lxW s 0).map (·.1)
theorem j5l (s:List UInt8):(q2w s).length=(z7o s).length:=by simp [q2w,z7o]
theorem y4v (s:List UInt8) (j:Nat) (h:j<(q2w s).length) (h2:j<(z7o s).length) :
  (z7o s)[j]+(q2w s)[j].length≤s.length∧(s.drop (z7o s)[j]).take (q2w s)[j].length=(q2w s)[j]∧q3p (q2w s)[j]∧∀ k (hk:k<(q2w s).length) (hk2:k<(z7o s).length),k<j→(z7o s)[k]+(q2w s)[k].length≤(z7o s)[j]:=by
 obtain ⟨a1,a2⟩:=v6h s.length s 0 (Nat.le_refl _)
 have hj:j<(lxW s 0).length:=by simpa [q2w] using h
 obtain ⟨_,b2,b3,b4⟩:=a1 (lxW s 0)[j] (List.getElem_mem hj)
 simp only [q2w,z7o,List.getElem_map] at *
 refine ⟨by omega,by simpa using b3,b4,fun k hk hk2 hkj=>?_⟩
 exact List.pairwise_iff_getElem.1 a2 k j (by simpa using hk2) hj hkj
theorem v8p (s:List UInt8):∀ w∈q2w s,q3p w:=by
 intro w hw
 obtain ⟨j,hj,rfl⟩:=List.getElem_of_mem hw
 exact (y4v s j hj (by rw [←j5l];exact hj)).2.2.1
theorem z6t:∀ (n:Nat) (s:List UInt8) (i:Nat),s.length≤n→(lxW s i).length≤s.length
 | 0,s,i,h=>by
  have:s=[]:=List.eq_nil_of_length_eq_zero (by omega)
  subst this
  rw [lxW,z0z];simp
 | n+1,s,i,h=>by
  cases s with
  | nil=>rw [lxW,z0z];simp
  | cons c r=>
   cases hs:spB c with
   | true=>
    have:=z6t n r (i+1) (by simp at h;omega)
    rw [lxW,k1n r i hs]
    simp only [List.length_cons]
    rw [lxW] at this
    omega
   | false=>
    cases ho:q4r (c::r) with
    | false=>rw [lxW,k3r i hs ho];simp
    | true=>
     have hp:=q4i c r
     have hle:=q9q (c::r)
     have:=z6t n ((c::r).drop (q0q (c::r))) (i+q0q (c::r)) (by simp only [List.length_drop,List.length_cons] at h ⊢;omega)
     rw [lxW,z4y i hs ho]
     simp only [List.length_cons,List.length_drop] at this hle ⊢
     omega
theorem j5e (s:List UInt8):(q2w s).length≤s.length:=by
 have:=z6t s.length s 0 (Nat.le_refl _)
 simpa [q2w] using this
def z1i (w:List UInt8):Bool:=w.headD 0 != 35
def many (ws:List (List UInt8)):Nat:=(ws.filter z1i).length
theorem q9c (a b:List (List UInt8)):many (a++b)=many a+many b:=by simp [many]
def q6g (s:List UInt8):Int:=if 60000<s.length then 3 else if (lxF s 0).isSome then 5 else if 300<many (q2w s) then 3 else 0
def z9a (s:List UInt8):Nat:=if q6g s=5 then (lxF s 0).getD 0 else 0
theorem z2w {s:List UInt8} (h:q6g s=0):s.length≤60000∧lxF s 0=none∧many (q2w s)≤300:=by
 unfold q6g at h
 split at h
 ·cases h
 ·split at h
  ·cases h
  ·split at h
   ·cases h
   ·rename_i h1 h2 h3
    exact ⟨by omega,by simpa using h2,by omega⟩
end Go.Proofs.YthjapabokcajhaaGreatDoor
namespace Go.Proofs.YthjapabokcajhaaGreatDoor
open Go
abbrev btL (s:ByteArray):List UInt8:=s.data.toList
theorem q0b (s:ByteArray):(btL s).length=s.size:=(Lib.size_eq s).symm
theorem q1x {s:ByteArray} {k:Nat} (h:k<s.size):(btL s).drop k=s[k]::(btL s).drop (k+1):=by
 have hl:k<(btL s).length:=by rw [q0b];exact h
 rw [List.drop_eq_getElem_cons hl];rfl
def twN (p:UInt8→Bool) (s:ByteArray) (k:Nat):Nat:=(((btL s).drop k).takeWhile p).length
theorem v8i {p:UInt8→Bool} {s:ByteArray} {k:Nat} (h:k<s.size) (hp:p s[k]=true):twN p s k=twN p s (k+1)+1:=by
 rw [twN,q1x h,List.takeWhile_cons,if_pos hp];rfl
theorem y2b {p:UInt8→Bool} {s:ByteArray} {k:Nat} (h:k<s.size) (hp:p s[k]=false):twN p s k=0:=by
 rw [twN,q1x h,List.takeWhile_cons,if_neg (by simp [hp])];rfl
theorem v8h {p:UInt8→Bool} {s:ByteArray} {k:Nat} (h:¬ k<s.size):twN p s k=0:=by
 rw [twN,List.drop_eq_nil_of_le (by rw [q0b];omega)];rfl
def j4i (s:ByteArray) (i:Nat):Nat:=q0q ((btL s).drop i)
def tOk (s:ByteArray) (i:Nat):Bool:=q4r ((btL s).drop i)
theorem y5j {s:ByteArray} {i:Nat} (h:i<s.size):1≤j4i s i∧i+j4i s i≤s.size:=by
 have h1:=q9q ((btL s).drop i)
 rw [List.length_drop,q0b] at h1
 rw [j4i]
 refine ⟨?_,by omega⟩
 rw [q1x h]
 exact q4i _ _
theorem k7g (c:UInt8) (n:Nat) (hn:n<256):((c.toNat:Int) == (n:Int))=(c == UInt8.ofNat n):=by
 by_cases h:c=UInt8.ofNat n
 ·subst h
  rw [beq_iff_eq.2 (show ((UInt8.ofNat n).toNat:Int)=(n:Int) by simp [Nat.mod_eq_of_lt hn])]
  simp
 ·rw [beq_false_of_ne h,beq_false_of_ne]
  intro e
  apply h
  have:c.toNat=n:=by omega
  rw [←this]
  simp
def wbS (w:List UInt8):ByteArray:=⟨w.toArray⟩
theorem k2k (s:ByteArray) (i e:Nat):s.extract i e=wbS (((btL s).drop i).take (e - i)):=by
 apply ByteArray.ext
 rw [ByteArray.data_extract]
 apply Array.ext'
 simp only [wbS,Array.toList_extract,List.extract]
end Go.Proofs.YthjapabokcajhaaGreatDoor
namespace Go.Proofs.YthjapabokcajhaaGreatDoor
open Go
def q7r (b:UInt8):Bool:=decide (33≤b.toNat) && decide (b.toNat≤126)
def okW (x:ByteArray):Bool:=decide (1≤x.size) && decide (x.size≤20) && x.data.toList.all q7r
def q1e (ws:List ByteArray):Int:=if 60<ws.length then 3 else if ws.all okW then 0 else 5
def q5o (ws:List ByteArray) (wd:Int):Int:=if q1e ws≠0 then q1e ws else if wd<1∨100<wd then 1 else 0
theorem q8i {ws:List ByteArray} (h:q1e ws=0):ws.length≤60∧∀ x∈ws,okW x=true:=by
 unfold q1e at h
 split at h
 ·cases h
 ·split at h
  ·rename_i h1 h2
   exact ⟨by omega,fun x hx=>List.all_eq_true.1 h2 x hx⟩
  ·cases h
theorem j9d {x:ByteArray} (h:okW x=true):1≤x.size∧x.size≤20:=by
 simp only [okW,Bool.and_eq_true,decide_eq_true_eq] at h
 exact h.1
def Few (ws:List ByteArray):Prop:=ws.length≤60∧∀ x∈ws,x.size≤20
theorem v1u {ws:List ByteArray} (h:q1e ws=0):Few ws:=⟨(q8i h).1,fun x hx=>(j9d ((q8i h).2 x hx)).2⟩
theorem Few.take {ws:List ByteArray} (h:Few ws) (k:Nat):Few (ws.take k):=⟨by have:=h.1;simp;omega,fun x hx=>h.2 x (List.mem_of_mem_take hx)⟩
theorem Few.drop {ws:List ByteArray} (h:Few ws) (k:Nat):Few (ws.drop k):=⟨by have:=h.1;simp;omega,fun x hx=>h.2 x (List.mem_of_mem_drop hx)⟩
theorem k5u {ws:List ByteArray} {wd:Int} (h:q5o ws wd=0):q1e ws=0∧∃ n:Nat,wd=n∧1≤n∧n≤100:=by
 unfold q5o at h
 split at h
 ·rename_i h1;exact absurd h h1
 ·rename_i h1
  split at h
  ·cases h
  ·refine ⟨by omega,wd.toNat,by omega,by omega,by omega⟩
def tot:List ByteArray→Nat
 | []=>0
 | x::r=>x.size+tot r
theorem v8g (a b:List ByteArray):tot (a++b)=tot a+tot b:=by
 induction a with
 | nil=>simp [tot]
 | cons x r ih=>simp only [List.cons_append,tot,ih];omega
theorem v0n {ws:List ByteArray} {i:Nat} (h:i<ws.length):tot (ws.take (i+1))=tot (ws.take i)+ws[i].size:=by
 rw [List.take_succ_eq_append_getElem h,v8g];simp [tot]
theorem y1z {ws:List ByteArray} (h:∀ x∈ws,x.size≤20):tot ws≤20*ws.length:=by
 induction ws with
 | nil=>simp [tot]
 | cons x r ih=>
  have h1:=h x (by simp)
  have h2:=ih fun y hy=>h y (by simp [hy])
  simp only [tot,List.length_cons];omega
theorem Few.tot {ws:List ByteArray} (h:Few ws):tot ws≤1200:=by
 have:=y1z h.2
 have:=h.1
 omega
def ln (ws:List ByteArray):Nat:=tot ws+(ws.length - 1)
theorem Few.ln {ws:List ByteArray} (h:Few ws):ln ws≤1260:=by
 have:=h.tot
 have:=h.1
 simp only [Go.Proofs.YthjapabokcajhaaGreatDoor.ln];omega
def jnL (ws:List ByteArray):List UInt8:=Lib.join (ws.map (·.data.toList)) [32]
def jnS (ws:List ByteArray):ByteArray:=⟨(jnL ws).toArray⟩
theorem j8h (ws:List ByteArray):Lib.lens (ws.map (·.data.toList))=tot ws:=by
 induction ws with
 | nil=>rfl
 | cons x r ih=>
  have e:Lib.lens ((x::r).map (·.data.toList))=x.data.toList.length+Lib.lens (r.map (·.data.toList)):=by simp [Lib.lens]
  rw [e,ih,tot,Lib.size_eq]
theorem k1j (ws:List ByteArray):(jnL ws).length=ln ws:=by
 cases ws with
 | nil=>rfl
 | cons x r=>
  have h:=Lib.join_length x.data.toList (r.map (·.data.toList)) [32]
  have h2:=j8h (x::r)
  simp only [List.map_cons] at h2
  simp only [jnL,List.map_cons,h,h2,ln,List.length_cons,List.length_nil,List.length_map]
  omega
theorem k3n (ws:List ByteArray):(jnS ws).size=ln ws:=by
 rw [←k1j];simp [jnS,ByteArray.size]
def bd (n wd:Nat) (last:Bool):Nat:=if wd<n then 1000*(n - wd) else if last then 0 else (wd - n)*(wd - n)
theorem v8z {n wd:Nat} {last:Bool} (h1:n≤1260) (h2:wd≤100):bd n wd last≤1300000:=by
 unfold bd
 split
 ·omega
 ·split
  ·omega
  ·have:(wd - n)*(wd - n)≤100*100:=Nat.mul_le_mul (by omega) (by omega)
   omega
def z4a (g:Nat→Nat):Nat→Nat
 | 0=>0
 | n+1=>if n=0∨g (n+1)≤z4a g n then g (n+1) else z4a g n
def j5z (g:Nat→Nat):Nat→Nat
 | 0=>0
 | n+1=>if n=0∨g (n+1)≤z4a g n then n+1 else j5z g n
theorem z4z {g h:Nat→Nat}:∀ n,(∀ k,1≤k→k≤n→g k=h k)→z4a g n=z4a h n
 | 0,_=>rfl
 | n+1,e=>by
  have ih:=z4z n fun k h1 h2=>e k h1 (by omega)
  simp only [z4a,ih,e (n+1) (by omega) (Nat.le_refl _)]
theorem z6w (g:Nat→Nat):∀ n k,1≤k→k≤n→z4a g n≤g k
 | 0,k,h1,h2=>by omega
 | n+1,k,h1,h2=>by
  simp only [z4a]
  split
  ·rename_i h
   by_cases hk:k=n+1
   ·subst hk;exact Nat.le_refl _
   ·have:=z6w g n k h1 (by omega)
    rcases h with h | h<;>omega
  ·rename_i h
   by_cases hk:k=n+1
   ·subst hk;omega
   ·exact z6w g n k h1 (by omega)
theorem k2t (g:Nat→Nat):∀ n,1≤n→1≤j5z g n∧j5z g n≤n
 | 0,h=>by omega
 | n+1,h=>by
  simp only [j5z]
  split
  ·omega
  ·rename_i h1
   have:=k2t g n (by omega)
   omega
theorem z7v (g:Nat→Nat):∀ n k,j5z g n<k→k≤n→1≤k→g k≠z4a g n
 | 0,k,h1,h2,h3=>by omega
 | n+1,k,h1,h2,h3=>by
  simp only [j5z] at h1
  simp only [z4a]
  split at h1
  ·omega
  ·rename_i h
   rw [if_neg h]
   by_cases hk:k=n+1
   ·subst hk;omega
   ·exact z7v g n k h1 (by omega) h3
def k5d (wd:Nat):List ByteArray→List Nat
 | []=>[0]
 | x::r=>z4a (fun k=>bd (ln ((x::r).take k)) wd (k == r.length+1)+(k5d wd r).getD (k - 1) 0) (r.length+1)::k5d wd r
def best (wd:Nat) (ws:List ByteArray):Nat:=(k5d wd ws).getD 0 0
theorem z1m (wd:Nat):best wd []=0:=rfl
theorem z4f (wd:Nat):∀ (ws:List ByteArray) (j:Nat),j≤ws.length→(k5d wd ws).getD j 0=best wd (ws.drop j)
 | _,0,_=>by simp [best]
 | [],j+1,h=>by simp at h
 | x::r,j+1,h=>by
  have:=z4f wd r j (by simp at h;omega)
  simpa [k5d] using this
def fOf (wd:Nat) (ws:List ByteArray) (k:Nat):Nat:=bd (ln (ws.take k)) wd (k == ws.length)+best wd (ws.drop k)
theorem k8h (wd:Nat) {ws:List ByteArray} (h:ws≠[]):best wd ws=z4a (fOf wd ws) ws.length:=by
 cases ws with
 | nil=>exact absurd rfl h
 | cons x r=>
  simp only [best,k5d,List.getD_cons_zero,List.length_cons]
  refine z4z _ fun k h1 h2=>?_
  obtain ⟨j,rfl⟩:∃ j,k=j+1:=⟨k - 1,by omega⟩
  simp only [fOf,List.length_cons,List.drop_succ_cons,Nat.add_sub_cancel]
  rw [z4f wd r j (by omega)]
theorem v3t {wd:Nat} (hw:wd≤100):∀ (n:Nat) (ws:List ByteArray),ws.length≤n→Few ws→best wd ws≤1300000
 | 0,ws,h,_=>by
  have:ws=[]:=List.eq_nil_of_length_eq_zero (by omega)
  subst this
  simp [z1m]
 | n+1,ws,h,hf=>by
  by_cases h0:ws=[]
  ·subst h0;simp [z1m]
  ·have hp:0<ws.length:=List.length_pos_iff.2 h0
   rw [k8h wd h0]
   refine Nat.le_trans (z6w _ _ ws.length hp (Nat.le_refl _)) ?_
   simp only [fOf,List.drop_length,z1m]
   have:=v8z (last:=(ws.length == ws.length)) (hf.take ws.length).ln hw
   omega
theorem v9r {wd:Nat} (hw:wd≤100) {ws:List ByteArray} (hf:Few ws) (k:Nat):fOf wd ws k≤2600000:=by
 have h1:=v3t hw _ (ws.drop k) (Nat.le_refl _) (hf.drop k)
 have h2:=v8z (last:=(k == ws.length)) (hf.take k).ln hw
 simp only [fOf];omega
def agF (wd:Nat) (ws:List ByteArray):Nat:=j5z (fOf wd ws) ws.length
theorem q7w (wd:Nat) {ws:List ByteArray} (h:ws≠[]):1≤agF wd ws∧agF wd ws≤ws.length:=k2t _ _ (List.length_pos_iff.2 h)
def z0e (wd:Nat) (ws:List ByteArray):List Nat:=
 if _h:ws=[] then [] else agF wd ws::z0e wd (ws.drop (agF wd ws))
termination_by ws.length
decreasing_by
 have:=q7w wd _h
 simp only [List.length_drop]
 omega
theorem q5n (wd:Nat):z0e wd []=[]:=by rw [z0e];simp
theorem q5a (wd:Nat) {ws:List ByteArray} (h:ws≠[]):z0e wd ws=agF wd ws::z0e wd (ws.drop (agF wd ws)):=by
 rw [z0e,dif_neg h]
def z9f:List ByteArray→List Nat→List ByteArray
 | _,[]=>[]
 | ws,k::ks=>jnS (ws.take k)::z9f (ws.drop k) ks
end Go.Proofs.YthjapabokcajhaaGreatDoor
namespace Go.Proofs.YthjapabokcajhaaGreatDoor
open Go
structure Td where
 op:Int
 tx:ByteArray
 n:Int
def kdT (x:Td):Nat:=if x.op=3∨x.op=4 then x.n.toNat else if x.op=5∨x.op=6 then 2 else if x.op=7∨x.op=8 then 1 else 0
def z4g:List Td→Nat→Option Nat
 | _,0=>some 0
 | [],_+1=>none
 | x::r,m+1=>(z4g r (kdT x+m)).map (· + 1)
theorem q6m (ds:List Td):z4g ds 0=some 0:=by cases ds<;>rfl
theorem q7c (m:Nat):z4g [] (m+1)=none:=rfl
theorem q4d (x:Td) (r:List Td) (m:Nat):z4g (x::r) (m+1)=(z4g r (kdT x+m)).map (· + 1):=rfl
theorem k0x:∀ (ds:List Td) (m k:Nat),z4g ds m=some k→m≤k∧k≤ds.length
 | ds,0,k,h=>by rw [q6m] at h;cases h;simp
 | [],m+1,k,h=>by rw [q7c] at h;cases h
 | x::r,m+1,k,h=>by
  rw [q4d,Option.map_eq_some_iff] at h
  obtain ⟨j,h1,rfl⟩:=h
  have:=k0x r _ j h1
  simp
  omega
theorem z6a:∀ (ds:List Td) (a b:Nat),z4g ds (a+b)=(z4g ds a).bind fun k=>(z4g (ds.drop k) b).map (k + ·)
 | ds,0,b=>by
  rw [q6m]
  simp
 | [],a+1,b=>by rw [show a+1+b=(a+b)+1 by omega,q7c,q7c];rfl
 | x::r,a+1,b=>by
  rw [show a+1+b=(a+b)+1 by omega,q4d,q4d,show kdT x+(a+b)=(kdT x+a)+b by omega,z6a r _ b]
  cases z4g r (kdT x+a) with
  | none=>rfl
  | some k=>
   simp only [Option.bind_some,Option.map_some,List.drop_succ_cons]
   cases z4g (r.drop k) b with
   | none=>rfl
   | some j=>simp;omega
def q3n (ds:List Td) (i m:Nat):Option Nat:=(z4g (ds.drop i) m).map (i + ·)
theorem z8i (ds:List Td) (i:Nat):q3n ds i 0=some i:=by simp [q3n,q6m]
theorem q8v (ds:List Td) (i m:Nat) (h:ds.length≤i):q3n ds i (m+1)=none:=by
 rw [q3n,List.drop_eq_nil_of_le h,q7c];rfl
theorem z2j (ds:List Td) (i m:Nat) (h:i<ds.length):q3n ds i (m+1)=q3n ds (i+1) (kdT ds[i]+m):=by
 rw [q3n,List.drop_eq_getElem_cons h,q4d,q3n]
 cases z4g (ds.drop (i+1)) (kdT ds[i]+m) with
 | none=>rfl
 | some k=>simp;omega
theorem j7i (ds:List Td) (i a b:Nat):q3n ds i (a+b)=(q3n ds i a).bind fun j=>q3n ds j b:=by
 rw [q3n,z6a,q3n]
 cases z4g (ds.drop i) a with
 | none=>rfl
 | some k=>
  simp only [Option.bind_some,Option.map_some,q3n,List.drop_drop]
  cases z4g (ds.drop (i+k)) b with
  | none=>rfl
  | some j=>simp;omega
theorem v4t {ds:List Td} {i m j:Nat} (h:q3n ds i m=some j):i+m≤j∧(m=0∨j≤ds.length):=by
 rw [q3n,Option.map_eq_some_iff] at h
 obtain ⟨k,h1,rfl⟩:=h
 have h2:=k0x _ _ _ h1
 rw [List.length_drop] at h2
 omega
def q0z (s:ByteArray):Bool:=decide (1≤s.size) && decide (s.size≤8) && decide (btL s≠[108,101,116]) && (btL s).all q3g
def q4w:List UInt8→List (List UInt8)
 | []=>[[]]
 | c::r=>if c=32 then []::q4w r else match q4w r with
  | []=>[[c]]
  | w::ws=>(c::w)::ws
theorem q5y (s:List UInt8):q4w s≠[]:=by
 cases s with
 | nil=>simp [q4w]
 | cons c r=>
  simp only [q4w]
  split
  ·simp
  ·split<;>simp
theorem q5h (r:List UInt8):q4w (32::r)=[]::q4w r:=by simp [q4w]
theorem q5i {c:UInt8} (h:c≠32) {r w:List UInt8} {ws:List (List UInt8)} (hr:q4w r=w::ws):q4w (c::r)=(c::w)::ws:=by
 simp only [q4w,if_neg h,hr]
theorem k4o (u r:List UInt8) (h:∀ b∈u,b≠32):q4w (u++32::r)=u::q4w r:=by
 induction u with
 | nil=>exact q5h r
 | cons c u ih=>
  have ih':=ih fun b hb=>h b (by simp [hb])
  rw [List.cons_append,q5i (h c (by simp)) ih']
theorem k4p (u:List UInt8) (h:∀ b∈u,b≠32):q4w u=[u]:=by
 induction u with
 | nil=>rfl
 | cons c u ih=>rw [q5i (h c (by simp)) (ih fun b hb=>h b (by simp [hb]))]
def q0h (s:List UInt8):List (List UInt8):=if s=[] then [] else q4w s
def q2t (s:ByteArray):Int:=q1e ((q0h (btL s)).map wbS)
def q2f (op:Int):Bool:=decide (op=2) || decide (op=3) || decide (op=7) || decide (op=9)
def q0o (x:Td):Int:=
 if x.op<1∨9<x.op then 1
 else if (x.op=1∧(x.n<0∨999999<x.n))∨((x.op=3∨x.op=4)∧(x.n<0∨6<x.n)) then 1
 else if (x.op≠1∧x.op≠3∧x.op≠4∧x.n≠0)∨(q2f x.op=false∧0<x.tx.size) then 2
 else if x.op=9 then q2t x.tx
 else if q2f x.op=true∧q0z x.tx=false then 5 else 0
def j6a:List Td→Int
 | []=>0
 | x::r=>if q0o x=0 then j6a r else q0o x
theorem k3m:∀ (ds:List Td),(∀ x∈ds,q0o x=0)→j6a ds=0
 | [],_=>rfl
 | x::r,h=>by rw [j6a,if_pos (h x (by simp)),k3m r fun y hy=>h y (by simp [hy])]
theorem z8r:∀ (ds:List Td),j6a ds=0→∀ x∈ds,q0o x=0
 | [],_=>by simp
 | x::r,h=>by
  rw [j6a] at h
  split at h
  ·rename_i h0
   intro y hy
   rcases List.mem_cons.1 hy with rfl | hy
   ·exact h0
   ·exact z8r r h y hy
  ·rename_i h0
   exact absurd h h0
theorem j0t:∀ (ds:List Td) (k:Nat) (h:k<ds.length),(∀ x∈ds.take k,q0o x=0)→q0o ds[k]≠0→j6a ds=q0o ds[k]
 | x::r,0,_,_,h=>by
  have h':q0o x≠0:=h
  rw [j6a,if_neg h'];rfl
 | x::r,k+1,hk,ha,h=>by
  rw [j6a,if_pos (ha x (by simp)),j0t r k (by simpa using hk) (fun y hy=>ha y (by simp [hy])) h]
  rfl
def j4p (ds:List Td):Bool:=match ds with
 | []=>true
 | x::r=>decide (7≤x.op) && r.all fun y=>decide (y.op<7)
def q0f (ds:List Td):Int:=
 if 40<ds.length then 3 else if j6a ds≠0 then j6a ds else if q3n ds 0 1=some ds.length∧j4p ds=true then 0 else 2
theorem q2e {ds:List Td} (h:q0f ds=0):ds.length≤40∧(∀ x∈ds,q0o x=0)∧q3n ds 0 1=some ds.length∧j4p ds=true:=by
 unfold q0f at h
 split at h
 ·cases h
 ·split at h
  ·rename_i h1;exact absurd h h1
  ·rename_i h0 h1
   split at h
   ·rename_i h2
    exact ⟨by omega,z8r ds (by omega),h2.1,h2.2⟩
   ·cases h
theorem v2b {x:Td} (h:q0o x=0):kdT x≤6:=by
 unfold q0o at h
 split at h
 ·cases h
 ·split at h
  ·cases h
  ·rename_i h1 h2
   unfold kdT
   split
   ·omega
   ·split
    ·omega
    ·split<;>omega
end Go.Proofs.YthjapabokcajhaaGreatDoor
