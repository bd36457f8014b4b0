/- Texts as one: LexP, LexQ, LexB, FilP. -/
import Derived.Lib.Strings
import Derived.Lib.Join
namespace Go.Proofs.YtchdplceopegoaaGreatDoor
open Go
def spB (c:UInt8):Bool:=c == 32 || c == 10
def q3a (c:UInt8):Bool:=decide (97≤c.toNat) && decide (c.toNat≤122)
def q3w (c:UInt8):Bool:=decide (48≤c.toNat) && decide (c.toNat≤57)
def nlB (c:UInt8):Bool:=c != 10
def prB (c:UInt8):Bool:=decide (32≤c.toNat) && decide (c.toNat≤126)
def v8d:List UInt8:=[40,41,91,93,44,43,42,61,59]
def y0m (c:UInt8):Bool:=v8d.any (· == c)
def q0o:List UInt8→Nat
 | []=>0
 | c::r=>if q3a c then (r.takeWhile q3a).length+1 else if q3w c then (r.takeWhile q3w).length+1 else if c == 35 then (r.takeWhile nlB).length+1 else 1
def q4g:List UInt8→Bool
 | []=>false
 | c::r=>if q3a c then decide ((r.takeWhile q3a).length+1≤8) else if q3w c then decide ((r.takeWhile q3w).length+1≤6) && (c != 48 || (r.takeWhile q3w).length == 0) else if c == 35 then (r.takeWhile nlB).all prB else y0m c
def q1a (w:List UInt8):List UInt8:=(w.reverse.dropWhile (· == 32)).reverse
theorem z2s (w:List UInt8):q1a (w++[32])=q1a w:=by simp [q1a]
theorem q1i (w:List UInt8) {c:UInt8} (h:c≠32):q1a (w++[c])=w++[c]:=by simp [q1a,h]
theorem j3o:q1a []=[]:=rfl
theorem z2t (w:List UInt8):∃ z,w=q1a w++z:=by
 refine ⟨(w.reverse.takeWhile (· == 32)).reverse,?_⟩
 rw [q1a,←List.reverse_append,List.takeWhile_append_dropWhile,List.reverse_reverse]
theorem q8y (w:List UInt8):(q1a w).length≤w.length:=by
 obtain ⟨z,hz⟩:=z2t w
 have:=congrArg List.length hz
 rw [List.length_append] at this
 omega
theorem z4l (w:List UInt8):w.take (q1a w).length=q1a w:=by
 obtain ⟨z,hz⟩:=z2t w
 have h2:w.take (q1a w).length=(q1a w++z).take (q1a w).length:=congrArg (List.take _) hz
 rw [h2,List.take_left]
theorem z2u:∀ (n:Nat) (w:List UInt8),w.length≤n→q1a (q1a w)=q1a w
 | n,w,h=>by
  rcases List.eq_nil_or_concat w with rfl | ⟨v,c,rfl⟩
  ·rfl
  ·rw [List.concat_eq_append] at h ⊢
   by_cases hc:c=32
   ·subst hc
    rw [z2s]
    match n,h with
    | 0,h=>simp at h
    | n+1,h=>exact z2u n v (by simp at h;omega)
   ·rw [q1i v hc,q1i v hc]
theorem k6h (w:List UInt8):q1a (q1a w)=q1a w:=z2u _ w (Nat.le_refl _)
theorem z0d {c:UInt8} (h:c≠32) (r:List UInt8):∃ z,q1a (c::r)=c::z:=by
 obtain ⟨z,hz⟩:=z2t (c::r)
 cases ht:q1a (c::r) with
 | nil=>
  exfalso
  have h1:∀ (l:List UInt8),l.dropWhile (· == 32)=[]→∀ x∈l,x=32:=by
   intro l
   induction l with
   | nil=>intro _ x hx;cases hx
   | cons a l ih=>
    intro h2 x hx
    rw [List.dropWhile_cons] at h2
    by_cases ha:(a == 32)=true
    ·rw [if_pos ha] at h2
     rcases List.mem_cons.1 hx with rfl | hx
     ·exact beq_iff_eq.1 ha
     ·exact ih h2 x hx
    ·rw [if_neg ha] at h2;cases h2
  rw [q1a,List.reverse_eq_nil_iff] at ht
  exact h (h1 _ ht c (by simp))
 | cons a b=>
  rw [ht,List.cons_append,List.cons.injEq] at hz
  exact ⟨b,by rw [hz.1]⟩
def tkW (s:List UInt8):List UInt8:=q1a (s.take (q0o s))
theorem q3z (c:UInt8) (r:List UInt8):1≤q0o (c::r):=by
 simp only [q0o]
 split
 ·omega
 ·split
  ·omega
  ·split<;>omega
theorem k4e {α:Type} (p:α→Bool) (l:List α):(l.takeWhile p).length≤l.length:=by
 induction l with
 | nil=>simp
 | cons a l ih=>
  rw [List.takeWhile_cons]
  split
  ·simp;omega
  ·simp
theorem q8w (s:List UInt8):q0o s≤s.length:=by
 cases s with
 | nil=>simp [q0o]
 | cons c r=>
  have h1:=k4e q3a r
  have h2:=k4e q3w r
  have h3:=k4e nlB r
  simp only [q0o,List.length_cons]
  split
  ·omega
  ·split
   ·omega
   ·split<;>omega
def lx (s:List UInt8) (i:Nat):List (Nat × List UInt8) × Option Nat:=
 match s with
 | []=>([],none)
 | c::r=>
  if spB c then lx r (i+1)
  else if q4g (c::r) then ((i,tkW (c::r))::(lx ((c::r).drop (q0o (c::r))) (i+q0o (c::r))).1,(lx ((c::r).drop (q0o (c::r))) (i+q0o (c::r))).2)
  else ([],some i)
termination_by s.length
decreasing_by
 all_goals first
  | (have:=q3z c r;simp only [List.length_drop,List.length_cons];omega)
  | (simp only [List.length_cons];omega)
def lxW (s:List UInt8) (i:Nat):List (Nat × List UInt8):=(lx s i).1
def lxF (s:List UInt8) (i:Nat):Option Nat:=(lx s i).2
theorem z0k (i:Nat):lx [] i=([],none):=by rw [lx]
theorem z8k {c:UInt8} (r:List UInt8) (i:Nat) (h:spB c=true):lx (c::r) i=lx r (i+1):=by rw [lx,if_pos h]
theorem z4b {c:UInt8} {r:List UInt8} (i:Nat) (h:spB c=false) (ho:q4g (c::r)=true) :
  lx (c::r) i=((i,tkW (c::r))::lxW ((c::r).drop (q0o (c::r))) (i+q0o (c::r)),lxF ((c::r).drop (q0o (c::r))) (i+q0o (c::r))):=by
 rw [lx,if_neg (by simp [h]),if_pos ho];rfl
theorem k3b {c:UInt8} {r:List UInt8} (i:Nat) (h:spB c=false) (ho:q4g (c::r)=false):lx (c::r) i=([],some i):=by
 rw [lx,if_neg (by simp [h]),if_neg (by simp [ho])]
theorem z6q {p:UInt8→Bool} {x:UInt8} (h:p x=false) (t:List UInt8):∀ r:List UInt8,(r++x::t).takeWhile p=r.takeWhile p
 | []=>by rw [List.nil_append,List.takeWhile_cons,if_neg (by simp [h])];rfl
 | a::r=>by
  rw [List.cons_append,List.takeWhile_cons,List.takeWhile_cons,z6q h t r]
theorem v9g (c:UInt8) (r t:List UInt8):q0o (c::r++10::t)=q0o (c::r)∧q4g (c::r++10::t)=q4g (c::r):=by
 have h1:=z6q (p:=q3a) (x:=10) rfl t r
 have h2:=z6q (p:=q3w) (x:=10) rfl t r
 have h3:=z6q (p:=nlB) (x:=10) rfl t r
 simp only [List.cons_append,q0o,q4g,h1,h2,h3,and_self]
def q3i (w:List UInt8):Prop:=∃ c r,w=c::r∧spB c=false∧q4g (c::r)=true∧q0o (c::r)=(c::r).length∧q1a (c::r)=c::r
theorem z2v {p:UInt8→Bool}:∀ (r:List UInt8) (k:Nat),k≤(r.takeWhile p).length→(r.take k).takeWhile p=r.take k
 | _,0,_=>by simp
 | [],k+1,h=>by simp at h
 | a::r,k+1,h=>by
  rw [List.takeWhile_cons] at h
  by_cases ha:p a=true
  ·rw [if_pos ha] at h
   rw [List.take_succ_cons,List.takeWhile_cons,if_pos ha,z2v r k (by simp at h;omega)]
  ·rw [if_neg ha] at h;simp at h
theorem z3i {p:UInt8→Bool} (r:List UInt8):r.take (r.takeWhile p).length=r.takeWhile p:=by
 have:=z2v (p:=p) r (r.takeWhile p).length (Nat.le_refl _)
 induction r with
 | nil=>rfl
 | cons a r ih=>
  rw [List.takeWhile_cons]
  split
  ·rw [List.length_cons,List.take_succ_cons,ih (z2v r _ (Nat.le_refl _))]
  ·rfl
theorem j5b {p:UInt8→Bool} {l:List UInt8} (h:l.all p=true) (k:Nat):(l.take k).all p=true:=by
 rw [List.all_eq_true] at h ⊢
 exact fun x hx=>h x (List.mem_of_mem_take hx)
theorem y2b {p:UInt8→Bool} {l:List UInt8} (h:∀ x,p x=true→x≠32):q1a (l.takeWhile p)=l.takeWhile p:=by
 rcases List.eq_nil_or_concat (l.takeWhile p) with e | ⟨v,c,e⟩
 ·rw [e];rfl
 ·rw [e,List.concat_eq_append]
  refine q1i v (h c ?_)
  have hm:c∈l.takeWhile p:=by rw [e];simp
  have hall:∀ (l:List UInt8) x,x∈l.takeWhile p→p x=true:=by
   intro l
   induction l with
   | nil=>intro x hx;cases hx
   | cons a l ih=>
    intro x hx
    rw [List.takeWhile_cons] at hx
    by_cases ha:p a=true
    ·rw [if_pos ha] at hx
     rcases List.mem_cons.1 hx with rfl | hx
     ·exact ha
     ·exact ih x hx
    ·rw [if_neg ha] at hx;cases hx
  exact hall l c hm
theorem z8g {x:UInt8} (h:q3a x=true):x≠32:=by
 rintro rfl;revert h;decide
theorem z7q {x:UInt8} (h:q3w x=true):x≠32:=by
 rintro rfl;revert h;decide
theorem k0j {x:UInt8} (h:q3w x=true):q3a x=false:=by
 simp only [q3w,q3a,Bool.and_eq_true,decide_eq_true_eq,Bool.and_eq_false_iff,decide_eq_false_iff_not] at h ⊢
 omega
theorem q7a {p:UInt8→Bool} (h:∀ x,p x=true→x≠32) (c:UInt8) (hc:p c=true) (r:List UInt8):q1a (c::r.takeWhile p)=c::r.takeWhile p:=by
 have:=y2b (p:=p) (l:=c::r) h
 rw [List.takeWhile_cons,if_pos hc] at this
 exact this
theorem j3r (p:UInt8→Bool) (r:List UInt8):(r.takeWhile p).takeWhile p=r.takeWhile p:=by
 have:=z2v (p:=p) r (r.takeWhile p).length (Nat.le_refl _)
 rw [z3i] at this
 exact this
theorem k5y {c:UInt8} (h:spB c=false):c≠32:=by
 rintro rfl;revert h;decide
theorem v1j {c:UInt8} {r:List UInt8} (hs:spB c=false) (ho:q4g (c::r)=true):q3i (tkW (c::r)):=by
 cases hl:q3a c with
 | true=>
  have e:tkW (c::r)=c::r.takeWhile q3a:=by
   simp only [tkW,q0o,hl,if_true,List.take_succ_cons,z3i]
   exact q7a (fun _=>z8g) c hl r
  refine ⟨c,r.takeWhile q3a,e,hs,?_,?_,q7a (fun _=>z8g) c hl r⟩
  ·simp only [q4g,hl,if_true,j3r] at ho ⊢;exact ho
  ·simp only [q0o,hl,if_true,j3r,List.length_cons]
 | false=>
  cases hf:q3w c with
  | true=>
   have e:tkW (c::r)=c::r.takeWhile q3w:=by
    simp only [tkW,q0o,hl,hf,if_true,Bool.false_eq_true,if_false,List.take_succ_cons,z3i]
    exact q7a (fun _=>z7q) c hf r
   refine ⟨c,r.takeWhile q3w,e,hs,?_,?_,q7a (fun _=>z7q) c hf r⟩
   ·simp only [q4g,hl,hf,if_true,Bool.false_eq_true,if_false,j3r] at ho ⊢;exact ho
   ·simp only [q0o,hl,hf,if_true,Bool.false_eq_true,if_false,j3r,List.length_cons]
  | false=>
   cases hn:(c == 35) with
   | true=>
    have e:tkW (c::r)=q1a (c::r.takeWhile nlB):=by
     simp only [tkW,q0o,hl,hf,hn,if_true,Bool.false_eq_true,if_false,List.take_succ_cons,z3i]
    obtain ⟨z,hz⟩:=z0d (k5y hs) (r.takeWhile nlB)
    have hzt:z=(r.takeWhile nlB).take z.length:=by
     have:=z4l (c::r.takeWhile nlB)
     rw [hz,List.length_cons,List.take_succ_cons,List.cons.injEq] at this
     exact this.2.symm
    have hlen:z.length≤(r.takeWhile nlB).length:=by
     have:=q8y (c::r.takeWhile nlB)
     rw [hz,List.length_cons,List.length_cons] at this
     omega
    have hzz:z.takeWhile nlB=z:=by
     have:=z2v (p:=nlB) (r.takeWhile nlB) z.length (by rw [j3r];exact hlen)
     rw [←hzt] at this
     exact this
    refine ⟨c,z,by rw [e,hz],hs,?_,?_,by rw [←hz];exact k6h _⟩
    ·simp only [q4g,hl,hf,hn,if_true,Bool.false_eq_true,if_false,hzz] at ho ⊢
     rw [hzt]
     exact j5b ho _
    ·simp only [q0o,hl,hf,hn,if_true,Bool.false_eq_true,if_false,hzz,List.length_cons]
   | false=>
    have e:tkW (c::r)=[c]:=by
     simp only [tkW,q0o,hl,hf,hn,Bool.false_eq_true,if_false,List.take_succ_cons,List.take_zero]
     exact q1i [] (k5y hs)
    refine ⟨c,[],e,hs,?_,?_,q1i [] (k5y hs)⟩
    ·simp only [q4g,hl,hf,hn,Bool.false_eq_true,if_false] at ho ⊢;exact ho
    ·simp only [q0o,hl,hf,hn,Bool.false_eq_true,if_false,List.length_cons,List.length_nil]
theorem j3j {w:List UInt8} (h:q3i w):1≤w.length:=by
 obtain ⟨c,r,rfl,_⟩:=h
 simp
theorem v8b {w:List UInt8} (h:q3i w) (t:List UInt8) (i:Nat):lx (w++10::t) i=((i,w)::lxW t (i+w.length+1),lxF t (i+w.length+1)):=by
 obtain ⟨c,r,rfl,hs,ho,hl,ht⟩:=h
 obtain ⟨e1,e2⟩:=v9g c r t
 rw [List.cons_append] at e1 e2
 have ho2:q4g (c::(r++10::t))=true:=by rw [e2];exact ho
 have ed:(c::(r++10::t)).drop (q0o (c::(r++10::t)))=10::t:=by
  rw [e1,hl,←List.cons_append,List.drop_left]
 have ew:tkW (c::(r++10::t))=c::r:=by
  rw [tkW,e1,hl,←List.cons_append,List.take_left,ht]
 rw [List.cons_append,z4b i hs ho2,ed,ew,e1,hl,lxW,lxF,z8k t _ rfl]
 rfl
def spc:List (List UInt8)→List UInt8
 | []=>[]
 | w::r=>w++10::spc r
def q7w (s:List UInt8) (i:Nat) (x:Nat × List UInt8):Prop:=i≤x.1∧x.1+x.2.length≤i+s.length∧(s.drop (x.1 - i)).take x.2.length=x.2∧q3i x.2
theorem q7w.later {s:List UInt8} {i k:Nat} {x:Nat × List UInt8} (h:q7w (s.drop k) (i+k) x) (hk:k≤s.length):q7w s i x:=by
 obtain ⟨h1,h2,h3,h4⟩:=h
 rw [List.length_drop] at h2
 refine ⟨by omega,by omega,?_,h4⟩
 rw [List.drop_drop] at h3
 have e:x.1 - i=k+(x.1 - (i+k)):=by omega
 rw [e]
 exact h3
theorem v4b:∀ (n:Nat) (s:List UInt8) (i:Nat),s.length≤n→(∀ x∈lxW s i,q7w s i x)∧(lxW s i).Pairwise (fun a b=>a.1+a.2.length≤b.1)
 | 0,s,i,h=>by
  have:s=[]:=List.eq_nil_of_length_eq_zero (by omega)
  subst this
  rw [lxW,z0k]
  exact ⟨fun x hx=>absurd hx List.not_mem_nil,List.Pairwise.nil⟩
 | n+1,s,i,h=>by
  cases s with
  | nil=>
   rw [lxW,z0k]
   exact ⟨fun x hx=>absurd hx List.not_mem_nil,List.Pairwise.nil⟩
  | cons c r=>
   cases hs:spB c with
   | true=>
    obtain ⟨h1,h2⟩:=v4b n r (i+1) (by simp at h;omega)
    rw [lxW,z8k r i hs]
    exact ⟨fun x hx=>q7w.later (s:=c::r) (k:=1) (h1 x hx) (by simp),h2⟩
   | false=>
    cases ho:q4g (c::r) with
    | false=>
     rw [lxW,k3b i hs ho]
     exact ⟨fun x hx=>absurd hx List.not_mem_nil,List.Pairwise.nil⟩
    | true=>
     have hp:=q3z c r
     have hle:=q8w (c::r)
     have hw:(tkW (c::r)).length≤q0o (c::r):=by
      have:=q8y ((c::r).take (q0o (c::r)))
      rw [List.length_take] at this
      rw [tkW]
      omega
     obtain ⟨h1,h2⟩:=v4b n ((c::r).drop (q0o (c::r))) (i+q0o (c::r)) (by simp only [List.length_drop,List.length_cons] at h ⊢;omega)
     rw [lxW,z4b i hs ho]
     refine ⟨fun x hx=>?_,List.pairwise_cons.2 ⟨fun x hx=>?_,h2⟩⟩
     ·rcases List.mem_cons.1 hx with rfl | hx
      ·refine ⟨Nat.le_refl _,by simp only;omega,?_,v1j hs ho⟩
       simp only [Nat.sub_self,List.drop_zero]
       have h3:=z4l ((c::r).take (q0o (c::r)))
       rw [List.take_take,Nat.min_eq_left (by rw [tkW] at hw;exact hw)] at h3
       exact h3
      ·exact (h1 x hx).later hle
     ·have:=(h1 x hx).1
      simp only
      omega
def q2u (s:List UInt8):List (List UInt8):=(lxW s 0).map (·.2)
def z6v (s:List UInt8):List Nat:=(lxW s 0).map (·.1)
theorem j4i (s:List UInt8):(q2u s).length=(z6v s).length:=by simp [q2u,z6v]
theorem y2f (s:List UInt8) (j:Nat) (h:j<(q2u s).length) (h2:j<(z6v s).length) :
  (z6v s)[j]+(q2u s)[j].length≤s.length∧(s.drop (z6v s)[j]).take (q2u s)[j].length=(q2u s)[j]∧q3i (q2u s)[j]∧∀ k (hk:k<(q2u s).length) (hk2:k<(z6v s).length),k<j→(z6v s)[k]+(q2u s)[k].length≤(z6v s)[j]:=by
 obtain ⟨a1,a2⟩:=v4b s.length s 0 (Nat.le_refl _)
 have hj:j<(lxW s 0).length:=by simpa [q2u] using h
 obtain ⟨_,b2,b3,b4⟩:=a1 (lxW s 0)[j] (List.getElem_mem hj)
 simp only [q2u,z6v,List.getElem_map] at *
 refine ⟨by omega,by simpa using b3,b4,fun k hk hk2 hkj=>?_⟩
 exact List.pairwise_iff_getElem.1 a2 k j (by simpa using hk2) hj hkj
theorem v6d (s:List UInt8):∀ w∈q2u s,q3i w:=by
 intro w hw
 obtain ⟨j,hj,rfl⟩:=List.getElem_of_mem hw
 exact (y2f s j hj (by rw [←j4i];exact hj)).2.2.1
theorem z5r:∀ (n:Nat) (s:List UInt8) (i:Nat),s.length≤n→(lxW s i).length≤s.length
 | 0,s,i,h=>by
  have:s=[]:=List.eq_nil_of_length_eq_zero (by omega)
  subst this
  rw [lxW,z0k];simp
 | n+1,s,i,h=>by
  cases s with
  | nil=>rw [lxW,z0k];simp
  | cons c r=>
   cases hs:spB c with
   | true=>
    have:=z5r n r (i+1) (by simp at h;omega)
    rw [lxW,z8k r i hs]
    simp only [List.length_cons]
    rw [lxW] at this
    omega
   | false=>
    cases ho:q4g (c::r) with
    | false=>rw [lxW,k3b i hs ho];simp
    | true=>
     have hp:=q3z c r
     have hle:=q8w (c::r)
     have:=z5r n ((c::r).drop (q0o (c::r))) (i+q0o (c::r)) (by simp only [List.length_drop,List.length_cons] at h ⊢;omega)
     rw [lxW,z4b i hs ho]
     simp only [List.length_cons,List.length_drop] at this hle ⊢
     omega
theorem j3x (s:List UInt8):(q2u s).length≤s.length:=by
 have:=z5r s.length s 0 (Nat.le_refl _)
 simpa [q2u] using this
def y2j (w:List UInt8):Bool:=w.headD 0 != 35
def many (ws:List (List UInt8)):Nat:=(ws.filter y2j).length
theorem j7e (a b:List (List UInt8)):many (a++b)=many a+many b:=by simp [many]
def q6t (s:List UInt8):Int:=if 60000<s.length then 3 else if (lxF s 0).isSome then 5 else if 300<many (q2u s) then 3 else 0
def z8b (s:List UInt8):Nat:=if q6t s=5 then (lxF s 0).getD 0 else 0
theorem z8a {s:List UInt8} (h:q6t s=0):s.length≤60000∧lxF s 0=none∧many (q2u s)≤300:=by
 unfold q6t at h
 split at h
 ·cases h
 ·split at h
  ·cases h
  ·split at h
   ·cases h
   ·rename_i h1 h2 h3
    exact ⟨by omega,by simpa using h2,by omega⟩
abbrev btL (s:ByteArray):List UInt8:=s.data.toList
theorem q0b (s:ByteArray):(btL s).length=s.size:=(Lib.size_eq s).symm
theorem q1s {s:ByteArray} {k:Nat} (h:k<s.size):(btL s).drop k=s[k]::(btL s).drop (k+1):=by
 have hl:k<(btL s).length:=by rw [q0b];exact h
 rw [List.drop_eq_getElem_cons hl];rfl
def twN (p:UInt8→Bool) (s:ByteArray) (k:Nat):Nat:=(((btL s).drop k).takeWhile p).length
theorem v5y {p:UInt8→Bool} {s:ByteArray} {k:Nat} (h:k<s.size) (hp:p s[k]=true):twN p s k=twN p s (k+1)+1:=by
 rw [twN,q1s h,List.takeWhile_cons,if_pos hp];rfl
theorem v9n {p:UInt8→Bool} {s:ByteArray} {k:Nat} (h:k<s.size) (hp:p s[k]=false):twN p s k=0:=by
 rw [twN,q1s h,List.takeWhile_cons,if_neg (by simp [hp])];rfl
theorem v5x {p:UInt8→Bool} {s:ByteArray} {k:Nat} (h:¬ k<s.size):twN p s k=0:=by
 rw [twN,List.drop_eq_nil_of_le (by rw [q0b];omega)];rfl
def j3c (s:ByteArray) (i:Nat):Nat:=q0o ((btL s).drop i)
def tOk (s:ByteArray) (i:Nat):Bool:=q4g ((btL s).drop i)
theorem y2u {s:ByteArray} {i:Nat} (h:i<s.size):1≤j3c s i∧i+j3c s i≤s.size:=by
 have h1:=q8w ((btL s).drop i)
 rw [List.length_drop,q0b] at h1
 rw [j3c]
 refine ⟨?_,by omega⟩
 rw [q1s h]
 exact q3z _ _
theorem k6i (c:UInt8) (n:Nat) (hn:n<256):((c.toNat:Int) == (n:Int))=(c == UInt8.ofNat n):=by
 by_cases h:c=UInt8.ofNat n
 ·subst h
  rw [beq_iff_eq.2 (show ((UInt8.ofNat n).toNat:Int)=(n:Int) by simp [Nat.mod_eq_of_lt hn])]
  simp
 ·rw [beq_false_of_ne h,beq_false_of_ne]
  intro e
  apply h
  have:c.toNat=n:=by omega
  rw [←this]
  simp
def wbS (w:List UInt8):ByteArray:=⟨w.toArray⟩
theorem k1q (s:ByteArray) (i e:Nat):s.extract i e=wbS (((btL s).drop i).take (e - i)):=by
 apply ByteArray.ext
 rw [ByteArray.data_extract]
 apply Array.ext'
 simp only [wbS,Array.toList_extract,List.extract]
def q9b (b:UInt8):Bool:=decide (33≤b.toNat) && decide (b.toNat≤126)
def okW (x:ByteArray):Bool:=decide (1≤x.size) && decide (x.size≤20) && x.data.toList.all q9b
def q1h (ws:List ByteArray):Int:=if 60<ws.length then 3 else if ws.all okW then 0 else 5
def q5c (ws:List ByteArray) (wd:Int):Int:=if q1h ws≠0 then q1h ws else if wd<1∨100<wd then 1 else 0
theorem q7s {ws:List ByteArray} (h:q1h ws=0):ws.length≤60∧∀ x∈ws,okW x=true:=by
 unfold q1h at h
 split at h
 ·cases h
 ·split at h
  ·rename_i h1 h2
   exact ⟨by omega,fun x hx=>List.all_eq_true.1 h2 x hx⟩
  ·cases h
theorem j7r {x:ByteArray} (h:okW x=true):1≤x.size∧x.size≤20:=by
 simp only [okW,Bool.and_eq_true,decide_eq_true_eq] at h
 exact h.1
def Few (ws:List ByteArray):Prop:=ws.length≤60∧∀ x∈ws,x.size≤20
theorem v0g {ws:List ByteArray} (h:q1h ws=0):Few ws:=⟨(q7s h).1,fun x hx=>(j7r ((q7s h).2 x hx)).2⟩
theorem Few.take {ws:List ByteArray} (h:Few ws) (k:Nat):Few (ws.take k):=⟨by have:=h.1;simp;omega,fun x hx=>h.2 x (List.mem_of_mem_take hx)⟩
theorem Few.drop {ws:List ByteArray} (h:Few ws) (k:Nat):Few (ws.drop k):=⟨by have:=h.1;simp;omega,fun x hx=>h.2 x (List.mem_of_mem_drop hx)⟩
theorem k4z {ws:List ByteArray} {wd:Int} (h:q5c ws wd=0):q1h ws=0∧∃ n:Nat,wd=n∧1≤n∧n≤100:=by
 unfold q5c at h
 split at h
 ·rename_i h1;exact absurd h h1
 ·rename_i h1
  split at h
  ·cases h
  ·refine ⟨by omega,wd.toNat,by omega,by omega,by omega⟩
def tot:List ByteArray→Nat
 | []=>0
 | x::r=>x.size+tot r
theorem v5w (a b:List ByteArray):tot (a++b)=tot a+tot b:=by
 induction a with
 | nil=>simp [tot]
 | cons x r ih=>simp only [List.cons_append,tot,ih];omega
theorem j9b {ws:List ByteArray} {i:Nat} (h:i<ws.length):tot (ws.take (i+1))=tot (ws.take i)+ws[i].size:=by
 rw [List.take_succ_eq_append_getElem h,v5w];simp [tot]
theorem v9k {ws:List ByteArray} (h:∀ x∈ws,x.size≤20):tot ws≤20*ws.length:=by
 induction ws with
 | nil=>simp [tot]
 | cons x r ih=>
  have h1:=h x (by simp)
  have h2:=ih fun y hy=>h y (by simp [hy])
  simp only [tot,List.length_cons];omega
theorem Few.tot {ws:List ByteArray} (h:Few ws):tot ws≤1200:=by
 have:=v9k h.2
 have:=h.1
 omega
def ln (ws:List ByteArray):Nat:=tot ws+(ws.length - 1)
theorem Few.ln {ws:List ByteArray} (h:Few ws):ln ws≤1260:=by
 have:=h.tot
 have:=h.1
 simp only [Go.Proofs.YtchdplceopegoaaGreatDoor.ln];omega
def jnL (ws:List ByteArray):List UInt8:=Lib.join (ws.map (·.data.toList)) [32]
def jnS (ws:List ByteArray):ByteArray:=⟨(jnL ws).toArray⟩
theorem j6v (ws:List ByteArray):Lib.lens (ws.map (·.data.toList))=tot ws:=by
 induction ws with
 | nil=>rfl
 | cons x r ih=>
  have e:Lib.lens ((x::r).map (·.data.toList))=x.data.toList.length+Lib.lens (r.map (·.data.toList)):=by simp [Lib.lens]
  rw [e,ih,tot,Lib.size_eq]
theorem j0a (ws:List ByteArray):(jnL ws).length=ln ws:=by
 cases ws with
 | nil=>rfl
 | cons x r=>
  have h:=Lib.join_length x.data.toList (r.map (·.data.toList)) [32]
  have h2:=j6v (x::r)
  simp only [List.map_cons] at h2
  simp only [jnL,List.map_cons,h,h2,ln,List.length_cons,List.length_nil,List.length_map]
  omega
theorem k2v (ws:List ByteArray):(jnS ws).size=ln ws:=by
 rw [←j0a];simp [jnS,ByteArray.size]
def bd (n wd:Nat) (last:Bool):Nat:=if wd<n then 1000*(n - wd) else if last then 0 else (wd - n)*(wd - n)
theorem v6s {n wd:Nat} {last:Bool} (h1:n≤1260) (h2:wd≤100):bd n wd last≤1300000:=by
 unfold bd
 split
 ·omega
 ·split
  ·omega
  ·have:(wd - n)*(wd - n)≤100*100:=Nat.mul_le_mul (by omega) (by omega)
   omega
def z5u (g:Nat→Nat):Nat→Nat
 | 0=>0
 | n+1=>if n=0∨g (n+1)≤z5u g n then g (n+1) else z5u g n
def j9v (g:Nat→Nat):Nat→Nat
 | 0=>0
 | n+1=>if n=0∨g (n+1)≤z5u g n then n+1 else j9v g n
theorem z4c {g h:Nat→Nat}:∀ n,(∀ k,1≤k→k≤n→g k=h k)→z5u g n=z5u h n
 | 0,_=>rfl
 | n+1,e=>by
  have ih:=z4c n fun k h1 h2=>e k h1 (by omega)
  simp only [z5u,ih,e (n+1) (by omega) (Nat.le_refl _)]
theorem k0u (g:Nat→Nat):∀ n k,1≤k→k≤n→z5u g n≤g k
 | 0,k,h1,h2=>by omega
 | n+1,k,h1,h2=>by
  simp only [z5u]
  split
  ·rename_i h
   by_cases hk:k=n+1
   ·subst hk;exact Nat.le_refl _
   ·have:=k0u g n k h1 (by omega)
    rcases h with h | h<;>omega
  ·rename_i h
   by_cases hk:k=n+1
   ·subst hk;omega
   ·exact k0u g n k h1 (by omega)
theorem k1z (g:Nat→Nat):∀ n,1≤n→1≤j9v g n∧j9v g n≤n
 | 0,h=>by omega
 | n+1,h=>by
  simp only [j9v]
  split
  ·omega
  ·rename_i h1
   have:=k1z g n (by omega)
   omega
def k4k (wd:Nat):List ByteArray→List Nat
 | []=>[0]
 | x::r=>z5u (fun k=>bd (ln ((x::r).take k)) wd (k == r.length+1)+(k4k wd r).getD (k - 1) 0) (r.length+1)::k4k wd r
def best (wd:Nat) (ws:List ByteArray):Nat:=(k4k wd ws).getD 0 0
theorem z4v (wd:Nat):best wd []=0:=rfl
theorem z3m (wd:Nat):∀ (ws:List ByteArray) (j:Nat),j≤ws.length→(k4k wd ws).getD j 0=best wd (ws.drop j)
 | _,0,_=>by simp [best]
 | [],j+1,h=>by simp at h
 | x::r,j+1,h=>by
  have:=z3m wd r j (by simp at h;omega)
  simpa [k4k] using this
def fOf (wd:Nat) (ws:List ByteArray) (k:Nat):Nat:=bd (ln (ws.take k)) wd (k == ws.length)+best wd (ws.drop k)
theorem k7m (wd:Nat) {ws:List ByteArray} (h:ws≠[]):best wd ws=z5u (fOf wd ws) ws.length:=by
 cases ws with
 | nil=>exact absurd rfl h
 | cons x r=>
  simp only [best,k4k,List.getD_cons_zero,List.length_cons]
  refine z4c _ fun k h1 h2=>?_
  obtain ⟨j,rfl⟩:∃ j,k=j+1:=⟨k - 1,by omega⟩
  simp only [fOf,List.length_cons,List.drop_succ_cons,Nat.add_sub_cancel]
  rw [z3m wd r j (by omega)]
theorem v2b {wd:Nat} (hw:wd≤100):∀ (n:Nat) (ws:List ByteArray),ws.length≤n→Few ws→best wd ws≤1300000
 | 0,ws,h,_=>by
  have:ws=[]:=List.eq_nil_of_length_eq_zero (by omega)
  subst this
  simp [z4v]
 | n+1,ws,h,hf=>by
  by_cases h0:ws=[]
  ·subst h0;simp [z4v]
  ·have hp:0<ws.length:=List.length_pos_iff.2 h0
   rw [k7m wd h0]
   refine Nat.le_trans (k0u _ _ ws.length hp (Nat.le_refl _)) ?_
   simp only [fOf,List.drop_length,z4v]
   have:=v6s (last:=(ws.length == ws.length)) (hf.take ws.length).ln hw
   omega
theorem v7e {wd:Nat} (hw:wd≤100) {ws:List ByteArray} (hf:Few ws) (k:Nat):fOf wd ws k≤2600000:=by
 have h1:=v2b hw _ (ws.drop k) (Nat.le_refl _) (hf.drop k)
 have h2:=v6s (last:=(k == ws.length)) (hf.take k).ln hw
 simp only [fOf];omega
def agF (wd:Nat) (ws:List ByteArray):Nat:=j9v (fOf wd ws) ws.length
theorem z1o (wd:Nat) {ws:List ByteArray} (h:ws≠[]):1≤agF wd ws∧agF wd ws≤ws.length:=k1z _ _ (List.length_pos_iff.2 h)
def z1v (wd:Nat) (ws:List ByteArray):List Nat:=
 if _h:ws=[] then [] else agF wd ws::z1v wd (ws.drop (agF wd ws))
termination_by ws.length
decreasing_by
 have:=z1o wd _h
 simp only [List.length_drop]
 omega
theorem z1c (wd:Nat):z1v wd []=[]:=by rw [z1v];simp
theorem q8c (wd:Nat) {ws:List ByteArray} (h:ws≠[]):z1v wd ws=agF wd ws::z1v wd (ws.drop (agF wd ws)):=by
 rw [z1v,dif_neg h]
def j0x:List ByteArray→List Nat→List ByteArray
 | _,[]=>[]
 | ws,k::ks=>jnS (ws.take k)::j0x (ws.drop k) ks
end Go.Proofs.YtchdplceopegoaaGreatDoor
