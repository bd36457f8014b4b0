/- Texts as one: LexP, LexQ, LexB, FilP, TreP. -/
/- Texts as one: SynP, SynR, SynT. -/
import Derived.Lib.Strings
import Derived.Lib.Join
namespace Go.Proofs.YtchdplceopegoaaGreatDoor
open Go
def spB (c:UInt8):Bool:=c == 32 || c == 10
def q3g (c:UInt8):Bool:=decide (97≤c.toNat) && decide (c.toNat≤122)
def q4c (c:UInt8):Bool:=decide (48≤c.toNat) && decide (c.toNat≤57)
def nlB (c:UInt8):Bool:=c != 10
def prB (c:UInt8):Bool:=decide (32≤c.toNat) && decide (c.toNat≤126)
def y1s:List UInt8:=[40,41,91,93,44,43,42,61,59]
def v9q (c:UInt8):Bool:=y1s.any (· == c)
def q0o:List UInt8→Nat
 | []=>0
 | c::r=>if q3g c then (r.takeWhile q3g).length+1 else if q4c c then (r.takeWhile q4c).length+1 else if c == 35 then (r.takeWhile nlB).length+1 else 1
def q4p:List UInt8→Bool
 | []=>false
 | c::r=>if q3g c then decide ((r.takeWhile q3g).length+1≤8) else if q4c c then decide ((r.takeWhile q4c).length+1≤6) && (c != 48 || (r.takeWhile q4c).length == 0) else if c == 35 then (r.takeWhile nlB).all prB else v9q c
def q1b (w:List UInt8):List UInt8:=(w.reverse.dropWhile (· == 32)).reverse
theorem z3r (w:List UInt8):q1b (w++[32])=q1b w:=by simp [q1b]
theorem q1i (w:List UInt8) {c:UInt8} (h:c≠32):q1b (w++[c])=w++[c]:=by simp [q1b,h]
theorem j5l:q1b []=[]:=rfl
theorem z3s (w:List UInt8):∃ z,w=q1b w++z:=by
 refine ⟨(w.reverse.takeWhile (· == 32)).reverse,?_⟩
 rw [q1b,←List.reverse_append,List.takeWhile_append_dropWhile,List.reverse_reverse]
theorem z0a (w:List UInt8):(q1b w).length≤w.length:=by
 obtain ⟨z,hz⟩:=z3s w
 have:=congrArg List.length hz
 rw [List.length_append] at this
 omega
theorem z5m (w:List UInt8):w.take (q1b w).length=q1b w:=by
 obtain ⟨z,hz⟩:=z3s w
 have h2:w.take (q1b w).length=(q1b w++z).take (q1b w).length:=congrArg (List.take _) hz
 rw [h2,List.take_left]
theorem z3t:∀ (n:Nat) (w:List UInt8),w.length≤n→q1b (q1b w)=q1b w
 | n,w,h=>by
  rcases List.eq_nil_or_concat w with rfl | ⟨v,c,rfl⟩
  ·rfl
  ·rw [List.concat_eq_append] at h ⊢
   by_cases hc:c=32
   ·subst hc
    rw [z3r]
    match n,h with
    | 0,h=>simp at h
    | n+1,h=>exact z3t n v (by simp at h;omega)
   ·rw [q1i v hc,q1i v hc]
theorem k7q (w:List UInt8):q1b (q1b w)=q1b w:=z3t _ w (Nat.le_refl _)
theorem z1g {c:UInt8} (h:c≠32) (r:List UInt8):∃ z,q1b (c::r)=c::z:=by
 obtain ⟨z,hz⟩:=z3s (c::r)
 cases ht:q1b (c::r) with
 | nil=>
  exfalso
  have h1:∀ (l:List UInt8),l.dropWhile (· == 32)=[]→∀ x∈l,x=32:=by
   intro l
   induction l with
   | nil=>intro _ x hx;cases hx
   | cons a l ih=>
    intro h2 x hx
    rw [List.dropWhile_cons] at h2
    by_cases ha:(a == 32)=true
    ·rw [if_pos ha] at h2
     rcases List.mem_cons.1 hx with rfl | hx
     ·exact beq_iff_eq.1 ha
     ·exact ih h2 x hx
    ·rw [if_neg ha] at h2;cases h2
  rw [q1b,List.reverse_eq_nil_iff] at ht
  exact h (h1 _ ht c (by simp))
 | cons a b=>
  rw [ht,List.cons_append,List.cons.injEq] at hz
  exact ⟨b,by rw [hz.1]⟩
def tkW (s:List UInt8):List UInt8:=q1b (s.take (q0o s))
theorem q4g (c:UInt8) (r:List UInt8):1≤q0o (c::r):=by
 simp only [q0o]
 split
 ·omega
 ·split
  ·omega
  ·split<;>omega
theorem k5m {α:Type} (p:α→Bool) (l:List α):(l.takeWhile p).length≤l.length:=by
 induction l with
 | nil=>simp
 | cons a l ih=>
  rw [List.takeWhile_cons]
  split
  ·simp;omega
  ·simp
theorem q9y (s:List UInt8):q0o s≤s.length:=by
 cases s with
 | nil=>simp [q0o]
 | cons c r=>
  have h1:=k5m q3g r
  have h2:=k5m q4c r
  have h3:=k5m nlB r
  simp only [q0o,List.length_cons]
  split
  ·omega
  ·split
   ·omega
   ·split<;>omega
def lx (s:List UInt8) (i:Nat):List (Nat × List UInt8) × Option Nat:=
 match s with
 | []=>([],none)
 | c::r=>
  if spB c then lx r (i+1)
  else if q4p (c::r) then ((i,tkW (c::r))::(lx ((c::r).drop (q0o (c::r))) (i+q0o (c::r))).1,(lx ((c::r).drop (q0o (c::r))) (i+q0o (c::r))).2)
  else ([],some i)
termination_by s.length
decreasing_by
 all_goals first
  | (have:=q4g c r;simp only [List.length_drop,List.length_cons];omega)
  | (simp only [List.length_cons];omega)
def lxW (s:List UInt8) (i:Nat):List (Nat × List UInt8):=(lx s i).1
def lxF (s:List UInt8) (i:Nat):Option Nat:=(lx s i).2
theorem q9k (i:Nat):lx [] i=([],none):=by rw [lx]
theorem z9k {c:UInt8} (r:List UInt8) (i:Nat) (h:spB c=true):lx (c::r) i=lx r (i+1):=by rw [lx,if_pos h]
theorem z5b {c:UInt8} {r:List UInt8} (i:Nat) (h:spB c=false) (ho:q4p (c::r)=true) :
  lx (c::r) i=((i,tkW (c::r))::lxW ((c::r).drop (q0o (c::r))) (i+q0o (c::r)),lxF ((c::r).drop (q0o (c::r))) (i+q0o (c::r))):=by
 rw [lx,if_neg (by simp [h]),if_pos ho];rfl
theorem k4i {c:UInt8} {r:List UInt8} (i:Nat) (h:spB c=false) (ho:q4p (c::r)=false):lx (c::r) i=([],some i):=by
 rw [lx,if_neg (by simp [h]),if_neg (by simp [ho])]
theorem z7q {p:UInt8→Bool} {x:UInt8} (h:p x=false) (t:List UInt8):∀ r:List UInt8,(r++x::t).takeWhile p=r.takeWhile p
 | []=>by rw [List.nil_append,List.takeWhile_cons,if_neg (by simp [h])];rfl
 | a::r=>by
  rw [List.cons_append,List.takeWhile_cons,List.takeWhile_cons,z7q h t r]
theorem y2x (c:UInt8) (r t:List UInt8):q0o (c::r++10::t)=q0o (c::r)∧q4p (c::r++10::t)=q4p (c::r):=by
 have h1:=z7q (p:=q3g) (x:=10) rfl t r
 have h2:=z7q (p:=q4c) (x:=10) rfl t r
 have h3:=z7q (p:=nlB) (x:=10) rfl t r
 simp only [List.cons_append,q0o,q4p,h1,h2,h3,and_self]
def q3p (w:List UInt8):Prop:=∃ c r,w=c::r∧spB c=false∧q4p (c::r)=true∧q0o (c::r)=(c::r).length∧q1b (c::r)=c::r
theorem z3u {p:UInt8→Bool}:∀ (r:List UInt8) (k:Nat),k≤(r.takeWhile p).length→(r.take k).takeWhile p=r.take k
 | _,0,_=>by simp
 | [],k+1,h=>by simp at h
 | a::r,k+1,h=>by
  rw [List.takeWhile_cons] at h
  by_cases ha:p a=true
  ·rw [if_pos ha] at h
   rw [List.take_succ_cons,List.takeWhile_cons,if_pos ha,z3u r k (by simp at h;omega)]
  ·rw [if_neg ha] at h;simp at h
theorem z4h {p:UInt8→Bool} (r:List UInt8):r.take (r.takeWhile p).length=r.takeWhile p:=by
 have:=z3u (p:=p) r (r.takeWhile p).length (Nat.le_refl _)
 induction r with
 | nil=>rfl
 | cons a r ih=>
  rw [List.takeWhile_cons]
  split
  ·rw [List.length_cons,List.take_succ_cons,ih (z3u r _ (Nat.le_refl _))]
  ·rfl
theorem j7c {p:UInt8→Bool} {l:List UInt8} (h:l.all p=true) (k:Nat):(l.take k).all p=true:=by
 rw [List.all_eq_true] at h ⊢
 exact fun x hx=>h x (List.mem_of_mem_take hx)
theorem y5x {p:UInt8→Bool} {l:List UInt8} (h:∀ x,p x=true→x≠32):q1b (l.takeWhile p)=l.takeWhile p:=by
 rcases List.eq_nil_or_concat (l.takeWhile p) with e | ⟨v,c,e⟩
 ·rw [e];rfl
 ·rw [e,List.concat_eq_append]
  refine q1i v (h c ?_)
  have hm:c∈l.takeWhile p:=by rw [e];simp
  have hall:∀ (l:List UInt8) x,x∈l.takeWhile p→p x=true:=by
   intro l
   induction l with
   | nil=>intro x hx;cases hx
   | cons a l ih=>
    intro x hx
    rw [List.takeWhile_cons] at hx
    by_cases ha:p a=true
    ·rw [if_pos ha] at hx
     rcases List.mem_cons.1 hx with rfl | hx
     ·exact ha
     ·exact ih x hx
    ·rw [if_neg ha] at hx;cases hx
  exact hall l c hm
theorem z9g {x:UInt8} (h:q3g x=true):x≠32:=by
 rintro rfl;revert h;decide
theorem z8p {x:UInt8} (h:q4c x=true):x≠32:=by
 rintro rfl;revert h;decide
theorem k1k {x:UInt8} (h:q4c x=true):q3g x=false:=by
 simp only [q4c,q3g,Bool.and_eq_true,decide_eq_true_eq,Bool.and_eq_false_iff,decide_eq_false_iff_not] at h ⊢
 omega
theorem q7t {p:UInt8→Bool} (h:∀ x,p x=true→x≠32) (c:UInt8) (hc:p c=true) (r:List UInt8):q1b (c::r.takeWhile p)=c::r.takeWhile p:=by
 have:=y5x (p:=p) (l:=c::r) h
 rw [List.takeWhile_cons,if_pos hc] at this
 exact this
theorem j5p (p:UInt8→Bool) (r:List UInt8):(r.takeWhile p).takeWhile p=r.takeWhile p:=by
 have:=z3u (p:=p) r (r.takeWhile p).length (Nat.le_refl _)
 rw [z4h] at this
 exact this
theorem k7g {c:UInt8} (h:spB c=false):c≠32:=by
 rintro rfl;revert h;decide
theorem v4c {c:UInt8} {r:List UInt8} (hs:spB c=false) (ho:q4p (c::r)=true):q3p (tkW (c::r)):=by
 cases hl:q3g c with
 | true=>
  have e:tkW (c::r)=c::r.takeWhile q3g:=by
   simp only [tkW,q0o,hl,if_true,List.take_succ_cons,z4h]
   exact q7t (fun _=>z9g) c hl r
  refine ⟨c,r.takeWhile q3g,e,hs,?_,?_,q7t (fun _=>z9g) c hl r⟩
  ·simp only [q4p,hl,if_true,j5p] at ho ⊢;exact ho
  ·simp only [q0o,hl,if_true,j5p,List.length_cons]
 | false=>
  cases hf:q4c c with
  | true=>
   have e:tkW (c::r)=c::r.takeWhile q4c:=by
    simp only [tkW,q0o,hl,hf,if_true,Bool.false_eq_true,if_false,List.take_succ_cons,z4h]
    exact q7t (fun _=>z8p) c hf r
   refine ⟨c,r.takeWhile q4c,e,hs,?_,?_,q7t (fun _=>z8p) c hf r⟩
   ·simp only [q4p,hl,hf,if_true,Bool.false_eq_true,if_false,j5p] at ho ⊢;exact ho
   ·simp only [q0o,hl,hf,if_true,Bool.false_eq_true,if_false,j5p,List.length_cons]
  | false=>
   cases hn:(c == 35) with
   | true=>
    have e:tkW (c::r)=q1b (c::r.takeWhile nlB):=by
     simp only [tkW,q0o,hl,hf,hn,if_true,Bool.false_eq_true,if_false,List.take_succ_cons,z4h]
    obtain ⟨z,hz⟩:=z1g (k7g hs) (r.takeWhile nlB)
    have hzt:z=(r.takeWhile nlB).take z.length:=by
     have:=z5m (c::r.takeWhile nlB)
     rw [hz,List.length_cons,List.take_succ_cons,List.cons.injEq] at this
     exact this.2.symm
    have hlen:z.length≤(r.takeWhile nlB).length:=by
     have:=z0a (c::r.takeWhile nlB)
     rw [hz,List.length_cons,List.length_cons] at this
     omega
    have hzz:z.takeWhile nlB=z:=by
     have:=z3u (p:=nlB) (r.takeWhile nlB) z.length (by rw [j5p];exact hlen)
     rw [←hzt] at this
     exact this
    refine ⟨c,z,by rw [e,hz],hs,?_,?_,by rw [←hz];exact k7q _⟩
    ·simp only [q4p,hl,hf,hn,if_true,Bool.false_eq_true,if_false,hzz] at ho ⊢
     rw [hzt]
     exact j7c ho _
    ·simp only [q0o,hl,hf,hn,if_true,Bool.false_eq_true,if_false,hzz,List.length_cons]
   | false=>
    have e:tkW (c::r)=[c]:=by
     simp only [tkW,q0o,hl,hf,hn,Bool.false_eq_true,if_false,List.take_succ_cons,List.take_zero]
     exact q1i [] (k7g hs)
    refine ⟨c,[],e,hs,?_,?_,q1i [] (k7g hs)⟩
    ·simp only [q4p,hl,hf,hn,Bool.false_eq_true,if_false] at ho ⊢;exact ho
    ·simp only [q0o,hl,hf,hn,Bool.false_eq_true,if_false,List.length_cons,List.length_nil]
theorem j5g {w:List UInt8} (h:q3p w):1≤w.length:=by
 obtain ⟨c,r,rfl,_⟩:=h
 simp
theorem j2q {w:List UInt8} (h:q3p w) (t:List UInt8) (i:Nat):lx (w++10::t) i=((i,w)::lxW t (i+w.length+1),lxF t (i+w.length+1)):=by
 obtain ⟨c,r,rfl,hs,ho,hl,ht⟩:=h
 obtain ⟨e1,e2⟩:=y2x c r t
 rw [List.cons_append] at e1 e2
 have ho2:q4p (c::(r++10::t))=true:=by rw [e2];exact ho
 have ed:(c::(r++10::t)).drop (q0o (c::(r++10::t)))=10::t:=by
  rw [e1,hl,←List.cons_append,List.drop_left]
 have ew:tkW (c::(r++10::t))=c::r:=by
  rw [tkW,e1,hl,←List.cons_append,List.take_left,ht]
 rw [List.cons_append,z5b i hs ho2,ed,ew,e1,hl,lxW,lxF,z9k t _ rfl]
 rfl
def spc:List (List UInt8)→List UInt8
 | []=>[]
 | w::r=>w++10::spc r
def q8s (s:List UInt8) (i:Nat) (x:Nat × List UInt8):Prop:=i≤x.1∧x.1+x.2.length≤i+s.length∧(s.drop (x.1 - i)).take x.2.length=x.2∧q3p x.2
theorem q8s.later {s:List UInt8} {i k:Nat} {x:Nat × List UInt8} (h:q8s (s.drop k) (i+k) x) (hk:k≤s.length):q8s s i x:=by
 obtain ⟨h1,h2,h3,h4⟩:=h
 rw [List.length_drop] at h2
 refine ⟨by omega,by omega,?_,h4⟩
 rw [List.drop_drop] at h3
 have e:x.1 - i=k+(x.1 - (i+k)):=by omega
 rw [e]
 exact h3
theorem v7c:∀ (n:Nat) (s:List UInt8) (i:Nat),s.length≤n→(∀ x∈lxW s i,q8s s i x)∧(lxW s i).Pairwise (fun a b=>a.1+a.2.length≤b.1)
 | 0,s,i,h=>by
  have:s=[]:=List.eq_nil_of_length_eq_zero (by omega)
  subst this
  rw [lxW,q9k]
  exact ⟨fun x hx=>absurd hx List.not_mem_nil,List.Pairwise.nil⟩
 | n+1,s,i,h=>by
  cases s with
  | nil=>
   rw [lxW,q9k]
   exact ⟨fun x hx=>absurd hx List.not_mem_nil,List.Pairwise.nil⟩
  | cons c r=>
   cases hs:spB c with
   | true=>
    obtain ⟨h1,h2⟩:=v7c n r (i+1) (by simp at h;omega)
    rw [lxW,z9k r i hs]
    exact ⟨fun x hx=>q8s.later (s:=c::r) (k:=1) (h1 x hx) (by simp),h2⟩
   | false=>
    cases ho:q4p (c::r) with
    | false=>
     rw [lxW,k4i i hs ho]
     exact ⟨fun x hx=>absurd hx List.not_mem_nil,List.Pairwise.nil⟩
    | true=>
     have hp:=q4g c r
     have hle:=q9y (c::r)
     have hw:(tkW (c::r)).length≤q0o (c::r):=by
      have:=z0a ((c::r).take (q0o (c::r)))
      rw [List.length_take] at this
      rw [tkW]
      omega
     obtain ⟨h1,h2⟩:=v7c n ((c::r).drop (q0o (c::r))) (i+q0o (c::r)) (by simp only [List.length_drop,List.length_cons] at h ⊢;omega)
     rw [lxW,z5b i hs ho]
     refine ⟨fun x hx=>?_,List.pairwise_cons.2 ⟨fun x hx=>?_,h2⟩⟩
     ·rcases List.mem_cons.1 hx with rfl | hx
      ·refine ⟨Nat.le_refl _,by simp only;omega,?_,v4c hs ho⟩
       simp only [Nat.sub_self,List.drop_zero]
       have h3:=z5m ((c::r).take (q0o (c::r)))
       rw [List.take_take,Nat.min_eq_left (by rw [tkW] at hw;exact hw)] at h3
       exact h3
      ·exact (h1 x hx).later hle
     ·have:=(h1 x hx).1
      simp only
      omega
def q2x (s:List UInt8):List (List UInt8):=(lxW s 0).map (·.2)
def z7v (s:List UInt8):List Nat:=(lxW s 0).map (·.1)
theorem j6i (s:List UInt8):(q2x s).length=(z7v s).length:=by simp [q2x,z7v]
theorem y6b (s:List UInt8) (j:Nat) (h:j<(q2x s).length) (h2:j<(z7v s).length) :
  (z7v s)[j]+(q2x s)[j].length≤s.length∧(s.drop (z7v s)[j]).take (q2x s)[j].length=(q2x s)[j]∧q3p (q2x s)[j]∧∀ k (hk:k<(q2x s).length) (hk2:k<(z7v s).length),k<j→(z7v s)[k]+(q2x s)[k].length≤(z7v s)[j]:=by
 obtain ⟨a1,a2⟩:=v7c s.length s 0 (Nat.le_refl _)
 have hj:j<(lxW s 0).length:=by simpa [q2x] using h
 obtain ⟨_,b2,b3,b4⟩:=a1 (lxW s 0)[j] (List.getElem_mem hj)
 simp only [q2x,z7v,List.getElem_map] at *
 refine ⟨by omega,by simpa using b3,b4,fun k hk hk2 hkj=>?_⟩
 exact List.pairwise_iff_getElem.1 a2 k j (by simpa using hk2) hj hkj
theorem v9k (s:List UInt8):∀ w∈q2x s,q3p w:=by
 intro w hw
 obtain ⟨j,hj,rfl⟩:=List.getElem_of_mem hw
 exact (y6b s j hj (by rw [←j6i];exact hj)).2.2.1
theorem z6s:∀ (n:Nat) (s:List UInt8) (i:Nat),s.length≤n→(lxW s i).length≤s.length
 | 0,s,i,h=>by
  have:s=[]:=List.eq_nil_of_length_eq_zero (by omega)
  subst this
  rw [lxW,q9k];simp
 | n+1,s,i,h=>by
  cases s with
  | nil=>rw [lxW,q9k];simp
  | cons c r=>
   cases hs:spB c with
   | true=>
    have:=z6s n r (i+1) (by simp at h;omega)
    rw [lxW,z9k r i hs]
    simp only [List.length_cons]
    rw [lxW] at this
    omega
   | false=>
    cases ho:q4p (c::r) with
    | false=>rw [lxW,k4i i hs ho];simp
    | true=>
     have hp:=q4g c r
     have hle:=q9y (c::r)
     have:=z6s n ((c::r).drop (q0o (c::r))) (i+q0o (c::r)) (by simp only [List.length_drop,List.length_cons] at h ⊢;omega)
     rw [lxW,z5b i hs ho]
     simp only [List.length_cons,List.length_drop] at this hle ⊢
     omega
theorem j5x (s:List UInt8):(q2x s).length≤s.length:=by
 have:=z6s s.length s 0 (Nat.le_refl _)
 simpa [q2x] using this
def z1w (w:List UInt8):Bool:=w.headD 0 != 35
def many (ws:List (List UInt8)):Nat:=(ws.filter z1w).length
theorem q9l (a b:List (List UInt8)):many (a++b)=many a+many b:=by simp [many]
def q6d (s:List UInt8):Int:=if 60000<s.length then 3 else if (lxF s 0).isSome then 5 else if 300<many (q2x s) then 3 else 0
def z9b (s:List UInt8):Nat:=if q6d s=5 then (lxF s 0).getD 0 else 0
theorem z3h {s:List UInt8} (h:q6d s=0):s.length≤60000∧lxF s 0=none∧many (q2x s)≤300:=by
 unfold q6d at h
 split at h
 ·cases h
 ·split at h
  ·cases h
  ·split at h
   ·cases h
   ·rename_i h1 h2 h3
    exact ⟨by omega,by simpa using h2,by omega⟩
abbrev btL (s:ByteArray):List UInt8:=s.data.toList
theorem q0b (s:ByteArray):(btL s).length=s.size:=(Lib.size_eq s).symm
theorem q1s {s:ByteArray} {k:Nat} (h:k<s.size):(btL s).drop k=s[k]::(btL s).drop (k+1):=by
 have hl:k<(btL s).length:=by rw [q0b];exact h
 rw [List.drop_eq_getElem_cons hl];rfl
def twN (p:UInt8→Bool) (s:ByteArray) (k:Nat):Nat:=(((btL s).drop k).takeWhile p).length
theorem v9d {p:UInt8→Bool} {s:ByteArray} {k:Nat} (h:k<s.size) (hp:p s[k]=true):twN p s k=twN p s (k+1)+1:=by
 rw [twN,q1s h,List.takeWhile_cons,if_pos hp];rfl
theorem y3e {p:UInt8→Bool} {s:ByteArray} {k:Nat} (h:k<s.size) (hp:p s[k]=false):twN p s k=0:=by
 rw [twN,q1s h,List.takeWhile_cons,if_neg (by simp [hp])];rfl
theorem v9c {p:UInt8→Bool} {s:ByteArray} {k:Nat} (h:¬ k<s.size):twN p s k=0:=by
 rw [twN,List.drop_eq_nil_of_le (by rw [q0b];omega)];rfl
def j4z (s:ByteArray) (i:Nat):Nat:=q0o ((btL s).drop i)
def tOk (s:ByteArray) (i:Nat):Bool:=q4p ((btL s).drop i)
theorem y6p {s:ByteArray} {i:Nat} (h:i<s.size):1≤j4z s i∧i+j4z s i≤s.size:=by
 have h1:=q9y ((btL s).drop i)
 rw [List.length_drop,q0b] at h1
 rw [j4z]
 refine ⟨?_,by omega⟩
 rw [q1s h]
 exact q4g _ _
theorem k7r (c:UInt8) (n:Nat) (hn:n<256):((c.toNat:Int) == (n:Int))=(c == UInt8.ofNat n):=by
 by_cases h:c=UInt8.ofNat n
 ·subst h
  rw [beq_iff_eq.2 (show ((UInt8.ofNat n).toNat:Int)=(n:Int) by simp [Nat.mod_eq_of_lt hn])]
  simp
 ·rw [beq_false_of_ne h,beq_false_of_ne]
  intro e
  apply h
  have:c.toNat=n:=by omega
  rw [←this]
  simp
def wbS (w:List UInt8):ByteArray:=⟨w.toArray⟩
theorem k2u (s:ByteArray) (i e:Nat):s.extract i e=wbS (((btL s).drop i).take (e - i)):=by
 apply ByteArray.ext
 rw [ByteArray.data_extract]
 apply Array.ext'
 simp only [wbS,Array.toList_extract,List.extract]
def q7w (b:UInt8):Bool:=decide (33≤b.toNat) && decide (b.toNat≤126)
def okW (x:ByteArray):Bool:=decide (1≤x.size) && decide (x.size≤20) && x.data.toList.all q7w
def q1e (ws:List ByteArray):Int:=if 60<ws.length then 3 else if ws.all okW then 0 else 5
def q5k (ws:List ByteArray) (wd:Int):Int:=if q1e ws≠0 then q1e ws else if wd<1∨100<wd then 1 else 0
theorem q8o {ws:List ByteArray} (h:q1e ws=0):ws.length≤60∧∀ x∈ws,okW x=true:=by
 unfold q1e at h
 split at h
 ·cases h
 ·split at h
  ·rename_i h1 h2
   exact ⟨by omega,fun x hx=>List.all_eq_true.1 h2 x hx⟩
  ·cases h
theorem v0c {x:ByteArray} (h:okW x=true):1≤x.size∧x.size≤20:=by
 simp only [okW,Bool.and_eq_true,decide_eq_true_eq] at h
 exact h.1
def Few (ws:List ByteArray):Prop:=ws.length≤60∧∀ x∈ws,x.size≤20
theorem v2t {ws:List ByteArray} (h:q1e ws=0):Few ws:=⟨(q8o h).1,fun x hx=>(v0c ((q8o h).2 x hx)).2⟩
theorem Few.take {ws:List ByteArray} (h:Few ws) (k:Nat):Few (ws.take k):=⟨by have:=h.1;simp;omega,fun x hx=>h.2 x (List.mem_of_mem_take hx)⟩
theorem Few.drop {ws:List ByteArray} (h:Few ws) (k:Nat):Few (ws.drop k):=⟨by have:=h.1;simp;omega,fun x hx=>h.2 x (List.mem_of_mem_drop hx)⟩
theorem k6h {ws:List ByteArray} {wd:Int} (h:q5k ws wd=0):q1e ws=0∧∃ n:Nat,wd=n∧1≤n∧n≤100:=by
 unfold q5k at h
 split at h
 ·rename_i h1;exact absurd h h1
 ·rename_i h1
  split at h
  ·cases h
  ·refine ⟨by omega,wd.toNat,by omega,by omega,by omega⟩
def tot:List ByteArray→Nat
 | []=>0
 | x::r=>x.size+tot r
theorem v9b (a b:List ByteArray):tot (a++b)=tot a+tot b:=by
 induction a with
 | nil=>simp [tot]
 | cons x r ih=>simp only [List.cons_append,tot,ih];omega
theorem v1l {ws:List ByteArray} {i:Nat} (h:i<ws.length):tot (ws.take (i+1))=tot (ws.take i)+ws[i].size:=by
 rw [List.take_succ_eq_append_getElem h,v9b];simp [tot]
theorem y3b {ws:List ByteArray} (h:∀ x∈ws,x.size≤20):tot ws≤20*ws.length:=by
 induction ws with
 | nil=>simp [tot]
 | cons x r ih=>
  have h1:=h x (by simp)
  have h2:=ih fun y hy=>h y (by simp [hy])
  simp only [tot,List.length_cons];omega
theorem Few.tot {ws:List ByteArray} (h:Few ws):tot ws≤1200:=by
 have:=y3b h.2
 have:=h.1
 omega
def ln (ws:List ByteArray):Nat:=tot ws+(ws.length - 1)
theorem Few.ln {ws:List ByteArray} (h:Few ws):ln ws≤1260:=by
 have:=h.tot
 have:=h.1
 simp only [Go.Proofs.YtchdplceopegoaaGreatDoor.ln];omega
def jnL (ws:List ByteArray):List UInt8:=Lib.join (ws.map (·.data.toList)) [32]
def jnS (ws:List ByteArray):ByteArray:=⟨(jnL ws).toArray⟩
theorem j9d (ws:List ByteArray):Lib.lens (ws.map (·.data.toList))=tot ws:=by
 induction ws with
 | nil=>rfl
 | cons x r ih=>
  have e:Lib.lens ((x::r).map (·.data.toList))=x.data.toList.length+Lib.lens (r.map (·.data.toList)):=by simp [Lib.lens]
  rw [e,ih,tot,Lib.size_eq]
theorem j1p (ws:List ByteArray):(jnL ws).length=ln ws:=by
 cases ws with
 | nil=>rfl
 | cons x r=>
  have h:=Lib.join_length x.data.toList (r.map (·.data.toList)) [32]
  have h2:=j9d (x::r)
  simp only [List.map_cons] at h2
  simp only [jnL,List.map_cons,h,h2,ln,List.length_cons,List.length_nil,List.length_map]
  omega
theorem k4a (ws:List ByteArray):(jnS ws).size=ln ws:=by
 rw [←j1p];simp [jnS,ByteArray.size]
def bd (n wd:Nat) (last:Bool):Nat:=if wd<n then 1000*(n - wd) else if last then 0 else (wd - n)*(wd - n)
theorem y0a {n wd:Nat} {last:Bool} (h1:n≤1260) (h2:wd≤100):bd n wd last≤1300000:=by
 unfold bd
 split
 ·omega
 ·split
  ·omega
  ·have:(wd - n)*(wd - n)≤100*100:=Nat.mul_le_mul (by omega) (by omega)
   omega
def z6v (g:Nat→Nat):Nat→Nat
 | 0=>0
 | n+1=>if n=0∨g (n+1)≤z6v g n then g (n+1) else z6v g n
def v2f (g:Nat→Nat):Nat→Nat
 | 0=>0
 | n+1=>if n=0∨g (n+1)≤z6v g n then n+1 else v2f g n
theorem z5c {g h:Nat→Nat}:∀ n,(∀ k,1≤k→k≤n→g k=h k)→z6v g n=z6v h n
 | 0,_=>rfl
 | n+1,e=>by
  have ih:=z5c n fun k h1 h2=>e k h1 (by omega)
  simp only [z6v,ih,e (n+1) (by omega) (Nat.le_refl _)]
theorem k1v (g:Nat→Nat):∀ n k,1≤k→k≤n→z6v g n≤g k
 | 0,k,h1,h2=>by omega
 | n+1,k,h1,h2=>by
  simp only [z6v]
  split
  ·rename_i h
   by_cases hk:k=n+1
   ·subst hk;exact Nat.le_refl _
   ·have:=k1v g n k h1 (by omega)
    rcases h with h | h<;>omega
  ·rename_i h
   by_cases hk:k=n+1
   ·subst hk;omega
   ·exact k1v g n k h1 (by omega)
theorem k3e (g:Nat→Nat):∀ n,1≤n→1≤v2f g n∧v2f g n≤n
 | 0,h=>by omega
 | n+1,h=>by
  simp only [v2f]
  split
  ·omega
  ·rename_i h1
   have:=k3e g n (by omega)
   omega
def k5s (wd:Nat):List ByteArray→List Nat
 | []=>[0]
 | x::r=>z6v (fun k=>bd (ln ((x::r).take k)) wd (k == r.length+1)+(k5s wd r).getD (k - 1) 0) (r.length+1)::k5s wd r
def best (wd:Nat) (ws:List ByteArray):Nat:=(k5s wd ws).getD 0 0
theorem z5x (wd:Nat):best wd []=0:=rfl
theorem z4l (wd:Nat):∀ (ws:List ByteArray) (j:Nat),j≤ws.length→(k5s wd ws).getD j 0=best wd (ws.drop j)
 | _,0,_=>by simp [best]
 | [],j+1,h=>by simp at h
 | x::r,j+1,h=>by
  have:=z4l wd r j (by simp at h;omega)
  simpa [k5s] using this
def fOf (wd:Nat) (ws:List ByteArray) (k:Nat):Nat:=bd (ln (ws.take k)) wd (k == ws.length)+best wd (ws.drop k)
theorem k8v (wd:Nat) {ws:List ByteArray} (h:ws≠[]):best wd ws=z6v (fOf wd ws) ws.length:=by
 cases ws with
 | nil=>exact absurd rfl h
 | cons x r=>
  simp only [best,k5s,List.getD_cons_zero,List.length_cons]
  refine z5c _ fun k h1 h2=>?_
  obtain ⟨j,rfl⟩:∃ j,k=j+1:=⟨k - 1,by omega⟩
  simp only [fOf,List.length_cons,List.drop_succ_cons,Nat.add_sub_cancel]
  rw [z4l wd r j (by omega)]
theorem v4v {wd:Nat} (hw:wd≤100):∀ (n:Nat) (ws:List ByteArray),ws.length≤n→Few ws→best wd ws≤1300000
 | 0,ws,h,_=>by
  have:ws=[]:=List.eq_nil_of_length_eq_zero (by omega)
  subst this
  simp [z5x]
 | n+1,ws,h,hf=>by
  by_cases h0:ws=[]
  ·subst h0;simp [z5x]
  ·have hp:0<ws.length:=List.length_pos_iff.2 h0
   rw [k8v wd h0]
   refine Nat.le_trans (k1v _ _ ws.length hp (Nat.le_refl _)) ?_
   simp only [fOf,List.drop_length,z5x]
   have:=y0a (last:=(ws.length == ws.length)) (hf.take ws.length).ln hw
   omega
theorem y0p {wd:Nat} (hw:wd≤100) {ws:List ByteArray} (hf:Few ws) (k:Nat):fOf wd ws k≤2600000:=by
 have h1:=v4v hw _ (ws.drop k) (Nat.le_refl _) (hf.drop k)
 have h2:=y0a (last:=(k == ws.length)) (hf.take k).ln hw
 simp only [fOf];omega
def agF (wd:Nat) (ws:List ByteArray):Nat:=v2f (fOf wd ws) ws.length
theorem z0i (wd:Nat) {ws:List ByteArray} (h:ws≠[]):1≤agF wd ws∧agF wd ws≤ws.length:=k3e _ _ (List.length_pos_iff.2 h)
def z0n (wd:Nat) (ws:List ByteArray):List Nat:=
 if _h:ws=[] then [] else agF wd ws::z0n wd (ws.drop (agF wd ws))
termination_by ws.length
decreasing_by
 have:=z0i wd _h
 simp only [List.length_drop]
 omega
theorem q7h (wd:Nat):z0n wd []=[]:=by rw [z0n];simp
theorem q6j (wd:Nat) {ws:List ByteArray} (h:ws≠[]):z0n wd ws=agF wd ws::z0n wd (ws.drop (agF wd ws)):=by
 rw [z0n,dif_neg h]
def k1t:List ByteArray→List Nat→List ByteArray
 | _,[]=>[]
 | ws,k::ks=>jnS (ws.take k)::k1t (ws.drop k) ks
structure Td where
 op:Int
 tx:ByteArray
 n:Int
def kdT (x:Td):Nat:=if x.op=3∨x.op=4 then x.n.toNat else if x.op=5∨x.op=6 then 2 else if x.op=7∨x.op=8 then 1 else 0
def k1c:List Td→Nat→Option Nat
 | _,0=>some 0
 | [],_+1=>none
 | x::r,m+1=>(k1c r (kdT x+m)).map (· + 1)
theorem q9a (ds:List Td):k1c ds 0=some 0:=by cases ds<;>rfl
theorem q7f (m:Nat):k1c [] (m+1)=none:=rfl
theorem q4x (x:Td) (r:List Td) (m:Nat):k1c (x::r) (m+1)=(k1c r (kdT x+m)).map (· + 1):=rfl
theorem k9r:∀ (ds:List Td) (m k:Nat),k1c ds m=some k→m≤k∧k≤ds.length
 | ds,0,k,h=>by rw [q9a] at h;cases h;simp
 | [],m+1,k,h=>by rw [q7f] at h;cases h
 | x::r,m+1,k,h=>by
  rw [q4x,Option.map_eq_some_iff] at h
  obtain ⟨j,h1,rfl⟩:=h
  have:=k9r r _ j h1
  simp
  omega
theorem k3n:∀ (ds:List Td) (a b:Nat),k1c ds (a+b)=(k1c ds a).bind fun k=>(k1c (ds.drop k) b).map (k + ·)
 | ds,0,b=>by
  rw [q9a]
  simp
 | [],a+1,b=>by rw [show a+1+b=(a+b)+1 by omega,q7f,q7f];rfl
 | x::r,a+1,b=>by
  rw [show a+1+b=(a+b)+1 by omega,q4x,q4x,show kdT x+(a+b)=(kdT x+a)+b by omega,k3n r _ b]
  cases k1c r (kdT x+a) with
  | none=>rfl
  | some k=>
   simp only [Option.bind_some,Option.map_some,List.drop_succ_cons]
   cases k1c (r.drop k) b with
   | none=>rfl
   | some j=>simp;omega
def z1v (ds:List Td) (i m:Nat):Option Nat:=(k1c (ds.drop i) m).map (i + ·)
theorem j0n (ds:List Td) (i:Nat):z1v ds i 0=some i:=by simp [z1v,q9a]
theorem z2f (ds:List Td) (i m:Nat) (h:ds.length≤i):z1v ds i (m+1)=none:=by
 rw [z1v,List.drop_eq_nil_of_le h,q7f];rfl
theorem j0m (ds:List Td) (i m:Nat) (h:i<ds.length):z1v ds i (m+1)=z1v ds (i+1) (kdT ds[i]+m):=by
 rw [z1v,List.drop_eq_getElem_cons h,q4x,z1v]
 cases k1c (ds.drop (i+1)) (kdT ds[i]+m) with
 | none=>rfl
 | some k=>simp;omega
def q0x (s:ByteArray):Bool:=decide (1≤s.size) && decide (s.size≤8) && decide (btL s≠[108,101,116]) && (btL s).all q3g
def q4v:List UInt8→List (List UInt8)
 | []=>[[]]
 | c::r=>if c=32 then []::q4v r else match q4v r with
  | []=>[[c]]
  | w::ws=>(c::w)::ws
theorem q6s (s:List UInt8):q4v s≠[]:=by
 cases s with
 | nil=>simp [q4v]
 | cons c r=>
  simp only [q4v]
  split
  ·simp
  ·split<;>simp
theorem q5e (r:List UInt8):q4v (32::r)=[]::q4v r:=by simp [q4v]
theorem q5f {c:UInt8} (h:c≠32) {r w:List UInt8} {ws:List (List UInt8)} (hr:q4v r=w::ws):q4v (c::r)=(c::w)::ws:=by
 simp only [q4v,if_neg h,hr]
theorem k5e (u r:List UInt8) (h:∀ b∈u,b≠32):q4v (u++32::r)=u::q4v r:=by
 induction u with
 | nil=>exact q5e r
 | cons c u ih=>
  have ih':=ih fun b hb=>h b (by simp [hb])
  rw [List.cons_append,q5f (h c (by simp)) ih']
theorem k5f (u:List UInt8) (h:∀ b∈u,b≠32):q4v u=[u]:=by
 induction u with
 | nil=>rfl
 | cons c u ih=>rw [q5f (h c (by simp)) (ih fun b hb=>h b (by simp [hb]))]
def q0g (s:List UInt8):List (List UInt8):=if s=[] then [] else q4v s
def q2u (s:ByteArray):Int:=q1e ((q0g (btL s)).map wbS)
def q2b (op:Int):Bool:=decide (op=2) || decide (op=3) || decide (op=7) || decide (op=9)
def q0n (x:Td):Int:=
 if x.op<1∨9<x.op then 1
 else if (x.op=1∧(x.n<0∨999999<x.n))∨((x.op=3∨x.op=4)∧(x.n<0∨6<x.n)) then 1
 else if (x.op≠1∧x.op≠3∧x.op≠4∧x.n≠0)∨(q2b x.op=false∧0<x.tx.size) then 2
 else if x.op=9 then q2u x.tx
 else if q2b x.op=true∧q0x x.tx=false then 5 else 0
def j6x:List Td→Int
 | []=>0
 | x::r=>if q0n x=0 then j6x r else q0n x
theorem k3y:∀ (ds:List Td),(∀ x∈ds,q0n x=0)→j6x ds=0
 | [],_=>rfl
 | x::r,h=>by rw [j6x,if_pos (h x (by simp)),k3y r fun y hy=>h y (by simp [hy])]
theorem z8s:∀ (ds:List Td),j6x ds=0→∀ x∈ds,q0n x=0
 | [],_=>by simp
 | x::r,h=>by
  rw [j6x] at h
  split at h
  ·rename_i h0
   intro y hy
   rcases List.mem_cons.1 hy with rfl | hy
   ·exact h0
   ·exact z8s r h y hy
  ·rename_i h0
   exact absurd h h0
theorem j1i:∀ (ds:List Td) (k:Nat) (h:k<ds.length),(∀ x∈ds.take k,q0n x=0)→q0n ds[k]≠0→j6x ds=q0n ds[k]
 | x::r,0,_,_,h=>by
  have h':q0n x≠0:=h
  rw [j6x,if_neg h'];rfl
 | x::r,k+1,hk,ha,h=>by
  rw [j6x,if_pos (ha x (by simp)),j1i r k (by simpa using hk) (fun y hy=>ha y (by simp [hy])) h]
  rfl
def j5h (ds:List Td):Bool:=match ds with
 | []=>true
 | x::r=>decide (7≤x.op) && r.all fun y=>decide (y.op<7)
def q0c (ds:List Td):Int:=
 if 40<ds.length then 3 else if j6x ds≠0 then j6x ds else if z1v ds 0 1=some ds.length∧j5h ds=true then 0 else 2
theorem q2l {ds:List Td} (h:q0c ds=0):ds.length≤40∧(∀ x∈ds,q0n x=0)∧z1v ds 0 1=some ds.length∧j5h ds=true:=by
 unfold q0c at h
 split at h
 ·cases h
 ·split at h
  ·rename_i h1;exact absurd h h1
  ·rename_i h0 h1
   split at h
   ·rename_i h2
    exact ⟨by omega,z8s ds (by omega),h2.1,h2.2⟩
   ·cases h
theorem y1d {x:Td} (h:q0n x=0):kdT x≤6:=by
 unfold q0n at h
 split at h
 ·cases h
 ·split at h
  ·cases h
  ·rename_i h1 h2
   unfold kdT
   split
   ·omega
   ·split
    ·omega
    ·split<;>omega
end Go.Proofs.YtchdplceopegoaaGreatDoor
namespace Go.Proofs.YtchdplceopegoaaGreatDoor
open Go
inductive Fo where
 | nil:Fo
 | cons (x:Td) (k n:Fo):Fo
def Fo.len:Fo→Nat
 | .nil=>0
 | .cons _ _ n=>n.len+1
def Fo.nodes:Fo→List Td
 | .nil=>[]
 | .cons x k n=>x::(k.nodes++n.nodes)
def Fo.ok:Fo→Prop
 | .nil=>True
 | .cons x k n=>k.len=kdT x∧k.ok∧n.ok
def Fo.app:Fo→Fo→Fo
 | .nil,g=>g
 | .cons x k n,g=>.cons x k (n.app g)
theorem k8m:∀ (f g:Fo),(f.app g).len=f.len+g.len
 | .nil,g=>by simp [Fo.app,Fo.len]
 | .cons x k n,g=>by simp only [Fo.app,Fo.len,k8m n g];omega
theorem q8t:∀ (f g:Fo),(f.app g).nodes=f.nodes++g.nodes
 | .nil,g=>rfl
 | .cons x k n,g=>by simp [Fo.app,Fo.nodes,q8t n g]
theorem k8n:∀ {f g:Fo},f.ok→g.ok→(f.app g).ok
 | .nil,_,_,h=>h
 | .cons _ _ _,_,h,h2=>⟨h.1,h.2.1,k8n h.2.2 h2⟩
theorem v6c:∀ (l:Nat) (ds:List Td) (m k:Nat),ds.length≤l→k1c ds m=some k→∃ F:Fo,F.ok∧F.len=m∧F.nodes=ds.take k
 | l,ds,0,k,_,h=>by
  rw [q9a] at h
  cases h
  exact ⟨.nil,trivial,rfl,by simp [Fo.nodes]⟩
 | 0,ds,m+1,k,hl,h=>by
  have:ds=[]:=List.eq_nil_of_length_eq_zero (by omega)
  subst this
  rw [q7f] at h;cases h
 | l+1,[],m+1,k,hl,h=>by rw [q7f] at h;cases h
 | l+1,x::r,m+1,k,hl,h=>by
  rw [q4x,Option.map_eq_some_iff] at h
  obtain ⟨j,h1,rfl⟩:=h
  rw [k3n] at h1
  cases h2:k1c r (kdT x) with
  | none=>rw [h2] at h1;cases h1
  | some a=>
   rw [h2,Option.bind_some,Option.map_eq_some_iff] at h1
   obtain ⟨b,h3,rfl⟩:=h1
   obtain ⟨K,k1,k2,k3⟩:=v6c l r (kdT x) a (by simp at hl;omega) h2
   obtain ⟨N,n1,n2,n3⟩:=v6c l (r.drop a) m b (by simp at hl ⊢;omega) h3
   refine ⟨.cons x K N,⟨k2,k1,n1⟩,by simp [Fo.len,n2],?_⟩
   have ha:=(k9r _ _ _ h2).2
   rw [Fo.nodes,k3,n3,List.take_succ_cons,List.cons.injEq]
   refine ⟨rfl,?_⟩
   rw [List.take_add]
abbrev Wd:=List UInt8
def q3y (n:Nat):Wd:=if h:n≤9 then [UInt8.ofNat (48+n)] else q3y (n / 10)++[UInt8.ofNat (48+n % 10)]
termination_by n
decreasing_by omega
def j3j (w:Wd):Nat:=w.foldl (fun a c=>a*10+(c.toNat - 48)) 0
theorem z6e {n:Nat} (h:n≤9):(UInt8.ofNat (48+n)).toNat=48+n:=by
 rw [UInt8.toNat_ofNat']
 omega
theorem v0a (n:Nat):j3j (q3y n)=n:=by
 induction n using Nat.strongRecOn with
 | ind n ih=>
  rw [q3y]
  split
  ·rename_i h
   simp only [j3j,List.foldl_cons,List.foldl_nil,z6e h];omega
  ·rename_i h
   have h2:=ih (n / 10) (by omega)
   unfold j3j at h2 ⊢
   rw [List.foldl_append,h2]
   simp only [List.foldl_cons,List.foldl_nil,z6e (show n % 10≤9 by omega)]
   omega
theorem z2d (n:Nat):∀ c∈q3y n,q4c c=true:=by
 induction n using Nat.strongRecOn with
 | ind n ih=>
  have hd:∀ k,k≤9→q4c (UInt8.ofNat (48+k))=true:=fun k hk=>by
   simp only [q4c,z6e hk];simp;omega
  rw [q3y]
  split
  ·rename_i h
   intro c hc
   rw [List.mem_singleton] at hc
   rw [hc];exact hd n h
  ·rename_i h
   intro c hc
   rcases List.mem_append.1 hc with hc | hc
   ·exact ih (n / 10) (by omega) c hc
   ·rw [List.mem_singleton] at hc
    rw [hc];exact hd _ (by omega)
theorem k1f (n:Nat):q3y n≠[]:=by
 rw [q3y]
 split<;>simp
theorem q9c:∀ (k n:Nat),n<10 ^ (k+1)→(q3y n).length≤k+1
 | k,n,h=>by
  rw [q3y]
  split
  ·simp
  ·rename_i h9
   cases k with
   | zero=>simp at h;omega
   | succ k=>
    have:=q9c k (n / 10) (by rw [Nat.pow_succ] at h;omega)
    simp only [List.length_append,List.length_cons,List.length_nil];omega
theorem z8j (n:Nat) (h:0<n):∃ c z,q3y n=c::z∧c≠48:=by
 induction n using Nat.strongRecOn with
 | ind n ih=>
  rw [q3y]
  split
  ·rename_i h9
   refine ⟨_,[],rfl,fun e=>?_⟩
   have:=congrArg UInt8.toNat e
   rw [z6e h9] at this
   simp at this;omega
  ·obtain ⟨c,z,e,hc⟩:=ih (n / 10) (by omega) (by omega)
   exact ⟨c,z++[UInt8.ofNat (48+n % 10)],by rw [e];rfl,hc⟩
structure Tn where
 x:Td
 ns:List Td
 tk:List Wd
 tx:List UInt8
def prc (x:Td):Nat:=if x.op=5 then 0 else if x.op=6 then 1 else 2
def brk (l:Nat) (t:Tn):List Wd:=if prc t.x<l then [40]::(t.tk++[[41]]) else t.tk
def brx (l:Nat) (t:Tn):List UInt8:=if prc t.x<l then 40::(t.tx++[41]) else t.tx
def cmk:List Tn→List Wd
 | []=>[]
 | t::r=>t.tk++match r with
  | []=>[]
  | _::_=>[44]::cmk r
def cmx:List Tn→List UInt8
 | []=>[]
 | t::r=>t.tx++match r with
  | []=>[]
  | _::_=>44::32::cmx r
def two2 {α:Type} (f:Tn→Tn→List α):List Tn→List α
 | [a,b]=>f a b
 | _=>[]
def q2p (x:Td) (ks:List Tn):List Wd:=
 if x.op=1 then [q3y x.n.toNat]
 else if x.op=2 then [btL x.tx]
 else if x.op=3 then btL x.tx::[40]::(cmk ks++[[41]])
 else if x.op=4 then [91]::(cmk ks++[[93]])
 else if x.op=5 then two2 (fun a b=>brk 0 a++[43]::brk 1 b) ks
 else two2 (fun a b=>brk 1 a++[42]::brk 2 b) ks
def q2w (x:Td) (ks:List Tn):List UInt8:=
 if x.op=1 then q3y x.n.toNat
 else if x.op=2 then btL x.tx
 else if x.op=3 then btL x.tx++40::(cmx ks++[41])
 else if x.op=4 then 91::(cmx ks++[93])
 else if x.op=5 then two2 (fun a b=>brx 0 a++32::43::32::brx 1 b) ks
 else two2 (fun a b=>brx 1 a++32::42::32::brx 2 b) ks
def q0m (x:Td) (ks:List Tn):Tn:=⟨x,x::ks.flatMap (·.ns),q2p x ks,q2w x ks⟩
def Fo.trs:Fo→List Tn
 | .nil=>[]
 | .cons x k n=>q0m x k.trs::n.trs
theorem q3e:∀ F:Fo,F.trs.length=F.len
 | .nil=>rfl
 | .cons _ _ n=>by simp [Fo.trs,Fo.len,q3e n]
theorem q6x:∀ F:Fo,F.trs.flatMap (·.ns)=F.nodes
 | .nil=>rfl
 | .cons x k n=>by
  rw [Fo.trs,List.flatMap_cons,q6x n,q0m,q6x k]
  simp [Fo.nodes]
def exN (x:Td):Prop:=q0n x=0∧x.op<7
def Fo.exs (F:Fo):Prop:=∀ x∈F.nodes,exN x
theorem q2e {x:Td} (h:exN x):(x.op=1∧x.tx=⟨#[]⟩∧0≤x.n∧x.n≤999999∧kdT x=0)∨(x.op=2∧q0x x.tx=true∧x.n=0∧kdT x=0)
  ∨(x.op=3∧q0x x.tx=true∧0≤x.n∧x.n≤6∧kdT x=x.n.toNat)∨(x.op=4∧x.tx=⟨#[]⟩∧0≤x.n∧x.n≤6∧kdT x=x.n.toNat)
  ∨(x.op=5∧x.tx=⟨#[]⟩∧x.n=0∧kdT x=2)∨(x.op=6∧x.tx=⟨#[]⟩∧x.n=0∧kdT x=2):=by
 obtain ⟨h0,h7⟩:=h
 have hem:∀ s:ByteArray,¬ 0<s.size→s=⟨#[]⟩:=fun s hs=>by
  apply ByteArray.ext
  apply Array.toList_inj.1
  exact List.eq_nil_of_length_eq_zero (by have:=q0b s;simp only [btL] at this;omega)
 unfold q0n at h0
 split at h0
 ·cases h0
 ·rename_i h1
  split at h0
  ·cases h0
  ·rename_i h2
   split at h0
   ·cases h0
   ·rename_i h3
    have h9:¬ x.op=9:=by omega
    rw [if_neg h9] at h0
    split at h0
    ·cases h0
    ·rename_i h4
     have ho:x.op=1∨x.op=2∨x.op=3∨x.op=4∨x.op=5∨x.op=6:=by omega
     rcases ho with e | e | e | e | e | e
     ·refine .inl ⟨e,hem _ (fun hh=>h3 (.inr ⟨by rw [e];rfl,hh⟩)),by omega,by omega,by unfold kdT;rw [e];rfl⟩
     ·refine .inr (.inl ⟨e,?_,by omega,by unfold kdT;rw [e];rfl⟩)
      cases hn:q0x x.tx with
      | true=>rfl
      | false=>exact absurd ⟨by rw [e];rfl,hn⟩ h4
     ·refine .inr (.inr (.inl ⟨e,?_,by omega,by omega,by unfold kdT;rw [if_pos (.inl e)]⟩))
      cases hn:q0x x.tx with
      | true=>rfl
      | false=>exact absurd ⟨by rw [e];rfl,hn⟩ h4
     ·exact .inr (.inr (.inr (.inl ⟨e,hem _ (fun hh=>h3 (.inr ⟨by rw [e];rfl,hh⟩)),by omega,by omega,by unfold kdT;rw [if_pos (.inr e)]⟩)))
     ·exact .inr (.inr (.inr (.inr (.inl ⟨e,hem _ (fun hh=>h3 (.inr ⟨by rw [e];rfl,hh⟩)),by omega,by unfold kdT;rw [e];rfl⟩))))
     ·exact .inr (.inr (.inr (.inr (.inr ⟨e,hem _ (fun hh=>h3 (.inr ⟨by rw [e];rfl,hh⟩)),by omega,by unfold kdT;rw [e];rfl⟩))))
inductive Job where
 | level (k:Nat):Job
 | loop (k:Nat) (acc:List Td):Job
 | single:Job
 | args (e:Wd) (n:Nat) (acc:List Td):Job
inductive Rs where
 | ok (n:Nat) (ns:List Td) (rest:List Wd):Rs
 | bad (rest:List Wd):Rs
def sgn (k:Nat):Wd:=if k=0 then [43] else [42]
def sgT (k:Nat):Td:=⟨5+k,⟨#[]⟩,0⟩
def k0s (w:Wd):Bool:=q4c (w.headD 0)
def nmW (w:Wd):Bool:=q0x (wbS w)
def v3d (w:Wd):Td:=⟨1,⟨#[]⟩,(j3j w:Nat)⟩
def nmT (w:Wd):Td:=⟨2,wbS w,0⟩
def clT (w:Wd) (n:Nat):Td:=⟨3,wbS w,(n:Nat)⟩
def lsT (n:Nat):Td:=⟨4,⟨#[]⟩,(n:Nat)⟩
inductive PR:Job→List Wd→Rs→Prop where
 | lev2 {ts r}:PR .single ts r→PR (.level 2) ts r
 | levB {k ts u}:k<2→PR (.level (k+1)) ts (.bad u)→PR (.level k) ts (.bad u)
 | levO {k ts m ns u r}:k<2→PR (.level (k+1)) ts (.ok m ns u)→PR (.loop k ns) u r→PR (.level k) ts r
 | lopE {k acc ts}:ts.head?≠some (sgn k)→PR (.loop k acc) ts (.ok 0 acc ts)
 | lopB {k acc ts u}:PR (.level (k+1)) ts (.bad u)→PR (.loop k acc) (sgn k::ts) (.bad u)
 | lopO {k acc ts m ns u r}:PR (.level (k+1)) ts (.ok m ns u)→PR (.loop k (sgT k::(acc++ns))) u r→PR (.loop k acc) (sgn k::ts) r
 | sinN:PR .single [] (.bad [])
 | sPB {ts u}:PR (.level 0) ts (.bad u)→PR .single ([40]::ts) (.bad u)
 | sPC {ts m ns u}:PR (.level 0) ts (.ok m ns ([41]::u))→PR .single ([40]::ts) (.ok 0 ns u)
 | sPX {ts m ns u}:PR (.level 0) ts (.ok m ns u)→u.head?≠some [41]→PR .single ([40]::ts) (.bad u)
 | sLB {ts u}:PR (.args [93] 0 []) ts (.bad u)→PR .single ([91]::ts) (.bad u)
 | sLO {ts n ns u}:PR (.args [93] 0 []) ts (.ok n ns u)→PR .single ([91]::ts) (.ok 0 (lsT n::ns) u)
 | sNum {w ts}:k0s w=true→PR .single (w::ts) (.ok 0 [v3d w] ts)
 | sName {w ts}:nmW w=true→ts.head?≠some [40]→PR .single (w::ts) (.ok 0 [nmT w] ts)
 | sCB {w ts u}:nmW w=true→PR (.args [41] 0 []) ts (.bad u)→PR .single (w::[40]::ts) (.bad u)
 | sCO {w ts n ns u}:nmW w=true→PR (.args [41] 0 []) ts (.ok n ns u)→PR .single (w::[40]::ts) (.ok 0 (clT w n::ns) u)
 | sBad {w ts}:w≠[40]→w≠[91]→k0s w=false→nmW w=false→PR .single (w::ts) (.bad (w::ts))
 | aEnd {e n acc ts}:PR (.args e n acc) (e::ts) (.ok n acc ts)
 | aSep {e n acc ts}:ts.head?≠some e→ts.head?≠some [44]→PR (.args e (n+1) acc) ts (.bad ts)
 | aB0 {e acc ts u}:ts.head?≠some e→PR (.level 0) ts (.bad u)→PR (.args e 0 acc) ts (.bad u)
 | aO0 {e acc ts m ns u r}:ts.head?≠some e→PR (.level 0) ts (.ok m ns u)→PR (.args e 1 (acc++ns)) u r→PR (.args e 0 acc) ts r
 | aB {e n acc ts u}:e≠[44]→PR (.level 0) ts (.bad u)→PR (.args e (n+1) acc) ([44]::ts) (.bad u)
 | aO {e n acc ts m ns u r}:e≠[44]→PR (.level 0) ts (.ok m ns u)→PR (.args e (n+2) (acc++ns)) u r→PR (.args e (n+1) acc) ([44]::ts) r
theorem q4n {w:Wd} (h:k0s w=true):nmW w=false:=by
 cases hn:nmW w with
 | false=>rfl
 | true=>
  exfalso
  unfold nmW q0x at hn
  simp only [Bool.and_eq_true,List.all_eq_true,decide_eq_true_eq] at hn
  cases w with
  | nil=>simp [wbS,ByteArray.size] at hn
  | cons c z=>
   have h1:=hn.2 c (by show c∈(c::z);simp)
   have h2:q4c c=true:=h
   have:=k1k h2
   rw [h1] at this;cases this
theorem y2i:k0s [40]=false:=by decide
theorem y2j:k0s [91]=false:=by decide
theorem v7j:nmW [40]=false:=by decide
theorem v7k:nmW [91]=false:=by decide
theorem q2k {j:Job} {ts:List Wd} {r:Rs} (h:PR j ts r):∀ {r':Rs},PR j ts r'→r=r':=by
 have n40:=y2i
 have n91:=y2j
 have a40:=v7j
 have a91:=v7k
 induction h with
 | lev2 _ ih=>intro r' h';cases h' with
  | lev2 h2=>exact ih h2
  | levB h0=>omega
  | levO h0=>omega
 | levB h0 _ ih=>intro r' h';cases h' with
  | lev2 h2=>omega
  | levB _ h2=>exact ih h2
  | levO _ h2 _=>cases ih h2
 | levO h0 _ _ ih1 ih2=>intro r' h';cases h' with
  | lev2 h2=>omega
  | levB _ h2=>cases ih1 h2
  | levO _ h2 h3=>cases ih1 h2;exact ih2 h3
 | lopE h0=>intro r' h';cases h' with
  | lopE _=>rfl
  | lopB _=>simp at h0
  | lopO _ _=>simp at h0
 | lopB _ ih=>intro r' h';cases h' with
  | lopE h0=>simp at h0
  | lopB h2=>exact ih h2
  | lopO h2 _=>cases ih h2
 | lopO _ _ ih1 ih2=>intro r' h';cases h' with
  | lopE h0=>simp at h0
  | lopB h2=>cases ih1 h2
  | lopO h2 h3=>cases ih1 h2;exact ih2 h3
 | sinN=>intro r' h';cases h';rfl
 | sPB _ ih=>intro r' h';cases h' with
  | sPB h2=>exact ih h2
  | sPC h2=>cases ih h2
  | sPX h2 _=>cases ih h2
  | sNum h2=>rw [n40] at h2;cases h2
  | sName h2 _=>rw [a40] at h2;cases h2
  | sCB h2 _=>rw [a40] at h2;cases h2
  | sCO h2 _=>rw [a40] at h2;cases h2
  | sBad h2=>exact absurd rfl h2
 | sPC _ ih=>intro r' h';cases h' with
  | sPB h2=>cases ih h2
  | sPC h2=>cases ih h2;rfl
  | sPX h2 h3=>cases ih h2;simp at h3
  | sNum h2=>rw [n40] at h2;cases h2
  | sName h2 _=>rw [a40] at h2;cases h2
  | sCB h2 _=>rw [a40] at h2;cases h2
  | sCO h2 _=>rw [a40] at h2;cases h2
  | sBad h2=>exact absurd rfl h2
 | sPX _ h0 ih=>intro r' h';cases h' with
  | sPB h2=>cases ih h2
  | sPC h2=>cases ih h2;simp at h0
  | sPX h2 h3=>cases ih h2;rfl
  | sNum h2=>rw [n40] at h2;cases h2
  | sName h2 _=>rw [a40] at h2;cases h2
  | sCB h2 _=>rw [a40] at h2;cases h2
  | sCO h2 _=>rw [a40] at h2;cases h2
  | sBad h2=>exact absurd rfl h2
 | sLB _ ih=>intro r' h';cases h' with
  | sLB h2=>exact ih h2
  | sLO h2=>cases ih h2
  | sNum h2=>rw [n91] at h2;cases h2
  | sName h2 _=>rw [a91] at h2;cases h2
  | sCB h2 _=>rw [a91] at h2;cases h2
  | sCO h2 _=>rw [a91] at h2;cases h2
  | sBad _ h2=>exact absurd rfl h2
 | sLO _ ih=>intro r' h';cases h' with
  | sLB h2=>cases ih h2
  | sLO h2=>cases ih h2;rfl
  | sNum h2=>rw [n91] at h2;cases h2
  | sName h2 _=>rw [a91] at h2;cases h2
  | sCB h2 _=>rw [a91] at h2;cases h2
  | sCO h2 _=>rw [a91] at h2;cases h2
  | sBad _ h2=>exact absurd rfl h2
 | sNum h0=>
  have hn:=q4n h0
  intro r' h';cases h' with
  | sPB h2=>rw [n40] at h0;cases h0
  | sPC h2=>rw [n40] at h0;cases h0
  | sPX h2 h3=>rw [n40] at h0;cases h0
  | sLB h2=>rw [n91] at h0;cases h0
  | sLO h2=>rw [n91] at h0;cases h0
  | sNum h2=>rfl
  | sName h2 _=>rw [hn] at h2;cases h2
  | sCB h2 _=>rw [hn] at h2;cases h2
  | sCO h2 _=>rw [hn] at h2;cases h2
  | sBad _ _ h2=>rw [h0] at h2;cases h2
 | sName h0 h1=>
  intro r' h';cases h' with
  | sPB h2=>rw [a40] at h0;cases h0
  | sPC h2=>rw [a40] at h0;cases h0
  | sPX h2 h3=>rw [a40] at h0;cases h0
  | sLB h2=>rw [a91] at h0;cases h0
  | sLO h2=>rw [a91] at h0;cases h0
  | sNum h2=>rw [q4n h2] at h0;cases h0
  | sName h2 _=>rfl
  | sCB h2 _=>simp at h1
  | sCO h2 _=>simp at h1
  | sBad _ _ _ h2=>rw [h0] at h2;cases h2
 | sCB h0 _ ih=>
  intro r' h';cases h' with
  | sPB h2=>rw [a40] at h0;cases h0
  | sPC h2=>rw [a40] at h0;cases h0
  | sPX h2 h3=>rw [a40] at h0;cases h0
  | sLB h2=>rw [a91] at h0;cases h0
  | sLO h2=>rw [a91] at h0;cases h0
  | sNum h2=>rw [q4n h2] at h0;cases h0
  | sName _ h2=>simp at h2
  | sCB _ h2=>exact ih h2
  | sCO _ h2=>cases ih h2
  | sBad _ _ _ h2=>rw [h0] at h2;cases h2
 | sCO h0 _ ih=>
  intro r' h';cases h' with
  | sPB h2=>rw [a40] at h0;cases h0
  | sPC h2=>rw [a40] at h0;cases h0
  | sPX h2 h3=>rw [a40] at h0;cases h0
  | sLB h2=>rw [a91] at h0;cases h0
  | sLO h2=>rw [a91] at h0;cases h0
  | sNum h2=>rw [q4n h2] at h0;cases h0
  | sName _ h2=>simp at h2
  | sCB _ h2=>cases ih h2
  | sCO _ h2=>cases ih h2;rfl
  | sBad _ _ _ h2=>rw [h0] at h2;cases h2
 | sBad h0 h1 h3 h4=>
  intro r' h';cases h' with
  | sPB h2=>exact absurd rfl h0
  | sPC h2=>exact absurd rfl h0
  | sPX h2 _=>exact absurd rfl h0
  | sLB h2=>exact absurd rfl h1
  | sLO h2=>exact absurd rfl h1
  | sNum h2=>rw [h3] at h2;cases h2
  | sName h2 _=>rw [h4] at h2;cases h2
  | sCB h2 _=>rw [h4] at h2;cases h2
  | sCO h2 _=>rw [h4] at h2;cases h2
  | sBad _ _ _ h2=>rfl
 | aEnd=>
  intro r' h';cases h' with
  | aEnd=>rfl
  | aSep h2 _=>simp at h2
  | aB0 h2 _=>simp at h2
  | aO0 h2 _ _=>simp at h2
  | aB h2 _=>exact absurd rfl h2
  | aO h2 _ _=>exact absurd rfl h2
 | aSep h0 h1=>
  intro r' h';cases h' with
  | aEnd=>simp at h0
  | aSep h2 _=>rfl
  | aB h2 _=>simp at h1
  | aO h2 _ _=>simp at h1
 | aB0 h0 _ ih=>
  intro r' h';cases h' with
  | aEnd=>simp at h0
  | aB0 _ h2=>exact ih h2
  | aO0 _ h2 _=>cases ih h2
 | aO0 h0 _ _ ih1 ih2=>
  intro r' h';cases h' with
  | aEnd=>simp at h0
  | aB0 _ h2=>cases ih1 h2
  | aO0 _ h2 h3=>cases ih1 h2;exact ih2 h3
 | aB h0 _ ih=>
  intro r' h';cases h' with
  | aEnd=>exact absurd rfl h0
  | aSep _ h2=>simp at h2
  | aB _ h2=>exact ih h2
  | aO _ h2 _=>cases ih h2
 | aO h0 _ _ ih1 ih2=>
  intro r' h';cases h' with
  | aEnd=>exact absurd rfl h0
  | aSep _ h2=>simp at h2
  | aB _ h2=>cases ih1 h2
  | aO _ h2 h3=>cases ih1 h2;exact ih2 h3
def Rs.rest:Rs→List Wd
 | .ok _ _ u=>u
 | .bad u=>u
def Job.eats:Job→Nat
 | .level _=>1
 | .single=>1
 | _=>0
theorem q2a {α:Type} {u ts:List α} (w:α) (h:u <:+ ts):u <:+ w::ts:=h.trans (List.suffix_cons w ts)
theorem q9r {j:Job} {ts:List Wd} {r:Rs} (h:PR j ts r):r.rest <:+ ts∧∀ m ns u,r = .ok m ns u→u.length+j.eats≤ts.length:=by
 induction h with
 | lev2 _ ih=>exact ih
 | levB _ _ ih=>exact ⟨ih.1,fun _ _ _ e=>by cases e⟩
 | levO _ _ _ ih1 ih2=>
  have h1:=ih1.2 _ _ _ rfl
  refine ⟨ih2.1.trans ih1.1,fun m ns u e=>?_⟩
  have h2:=ih2.2 _ _ _ e
  simp only [Job.eats] at h1 h2 ⊢;omega
 | lopE _=>exact ⟨List.suffix_refl _,fun _ _ _ e=>by cases e;simp [Job.eats]⟩
 | lopB _ ih=>exact ⟨q2a _ ih.1,fun _ _ _ e=>by cases e⟩
 | lopO _ _ ih1 ih2=>
  have h1:=ih1.2 _ _ _ rfl
  refine ⟨q2a _ (ih2.1.trans ih1.1),fun m ns u e=>?_⟩
  have h2:=ih2.2 _ _ _ e
  simp only [Job.eats,List.length_cons] at h1 h2 ⊢;omega
 | sinN=>exact ⟨List.suffix_refl _,fun _ _ _ e=>by cases e⟩
 | sPB _ ih=>exact ⟨q2a _ ih.1,fun _ _ _ e=>by cases e⟩
 | sPC _ ih=>
  have h1:=ih.2 _ _ _ rfl
  refine ⟨q2a _ ((List.suffix_cons _ _).trans ih.1),fun m ns u e=>?_⟩
  cases e
  simp only [Job.eats,List.length_cons] at h1 ⊢;omega
 | sPX _ _ ih=>exact ⟨q2a _ ih.1,fun _ _ _ e=>by cases e⟩
 | sLB _ ih=>exact ⟨q2a _ ih.1,fun _ _ _ e=>by cases e⟩
 | sLO _ ih=>
  have h1:=ih.2 _ _ _ rfl
  refine ⟨q2a _ ih.1,fun m ns u e=>?_⟩
  cases e
  simp only [Job.eats,List.length_cons] at h1 ⊢;omega
 | sNum _=>exact ⟨List.suffix_cons _ _,fun _ _ _ e=>by cases e;simp [Job.eats]⟩
 | sName _ _=>exact ⟨List.suffix_cons _ _,fun _ _ _ e=>by cases e;simp [Job.eats]⟩
 | sCB _ _ ih=>exact ⟨q2a _ (q2a _ ih.1),fun _ _ _ e=>by cases e⟩
 | sCO _ _ ih=>
  have h1:=ih.2 _ _ _ rfl
  refine ⟨q2a _ (q2a _ ih.1),fun m ns u e=>?_⟩
  cases e
  simp only [Job.eats,List.length_cons] at h1 ⊢;omega
 | sBad _ _ _ _=>exact ⟨List.suffix_refl _,fun _ _ _ e=>by cases e⟩
 | aEnd=>exact ⟨List.suffix_cons _ _,fun _ _ _ e=>by cases e;simp [Job.eats]⟩
 | aSep _ _=>exact ⟨List.suffix_refl _,fun _ _ _ e=>by cases e⟩
 | aB0 _ _ ih=>exact ⟨ih.1,fun _ _ _ e=>by cases e⟩
 | aO0 _ _ _ ih1 ih2=>
  have h1:=ih1.2 _ _ _ rfl
  refine ⟨ih2.1.trans ih1.1,fun m ns u e=>?_⟩
  have h2:=ih2.2 _ _ _ e
  simp only [Job.eats] at h1 h2 ⊢;omega
 | aB _ _ ih=>exact ⟨q2a _ ih.1,fun _ _ _ e=>by cases e⟩
 | aO _ _ _ ih1 ih2=>
  have h1:=ih1.2 _ _ _ rfl
  refine ⟨q2a _ (ih2.1.trans ih1.1),fun m ns u e=>?_⟩
  have h2:=ih2.2 _ _ _ e
  simp only [Job.eats,List.length_cons] at h1 h2 ⊢;omega
def y0b (w:Wd):Prop:=w=[40]∨w=[91]∨k0s w=true∨nmW w=true
theorem q7n {w:Wd} (h:nmW w=true):∃ c z,w=c::z∧q3g c=true∧w≠[108,101,116]∧w.length≤8∧∀ b∈w,q3g b=true:=by
 unfold nmW q0x at h
 simp only [Bool.and_eq_true,List.all_eq_true,decide_eq_true_eq] at h
 obtain ⟨⟨⟨h1,h2⟩,h3⟩,h4⟩:=h
 cases w with
 | nil=>simp [wbS,ByteArray.size] at h1
 | cons c z=>
  refine ⟨c,z,rfl,h4 c (by show c∈(c::z);simp),h3,?_,h4⟩
  have e:(wbS (c::z)).size=(c::z).length:=by rw [←q0b];rfl
  rw [e] at h2;exact h2
theorem z2s {w:Wd} (h:y0b w):w≠[41]∧w≠[93]∧w≠[44]∧w≠[108,101,116]∧w.headD 0≠35:=by
 rcases h with rfl | rfl | h | h
 ·decide
 ·decide
 ·have:∀ c:UInt8,q4c c=true→c≠41∧c≠93∧c≠44∧c≠108∧c≠35:=fun c hc=>by
   refine ⟨?_,?_,?_,?_,?_⟩<;>(rintro rfl;revert hc;decide)
  cases w with
  | nil=>exact absurd h (by decide)
  | cons c z=>
   obtain ⟨h1,h2,h3,h4,h5⟩:=this c h
   refine ⟨?_,?_,?_,?_,h5⟩<;>(intro e;rw [List.cons.injEq] at e;simp_all)
 ·obtain ⟨c,z,rfl,hc,hl,_,_⟩:=q7n h
  have:c≠41∧c≠93∧c≠44∧c≠35:=by
   refine ⟨?_,?_,?_,?_⟩<;>(rintro rfl;revert hc;decide)
  refine ⟨?_,?_,?_,hl,this.2.2.2⟩<;>(intro e;rw [List.cons.injEq] at e;simp_all)
structure z1s (t:Tn):Prop where
 b:∃ w z,t.tk=w::z∧y0b w
 s:∀ rest:List Wd,rest.head?≠some [40]→PR .single (brk 2 t++rest) (.ok 0 t.ns rest)
 l1:∀ (rest:List Wd) (r:Rs),rest.head?≠some [40]→PR (.loop 1 t.ns) rest r→PR (.level 1) (brk 1 t++rest) r
 l0:∀ (rest:List Wd) (r:Rs),rest.head?≠some [40]→rest.head?≠some [42]→PR (.loop 0 t.ns) rest r→PR (.level 0) (brk 0 t++rest) r
theorem q3f (t:Tn):brk 0 t=t.tk:=by simp [brk]
theorem z6r {t:Tn} (h:z1s t) {rest:List Wd} (h1:rest.head?≠some [40]) (h2:rest.head?≠some [42]) (h3:rest.head?≠some [43]):PR (.level 0) (t.tk++rest) (.ok 0 t.ns rest):=by
 have:=h.l0 rest (.ok 0 t.ns rest) h1 h2 (.lopE h3)
 rwa [q3f] at this
theorem v7b {t:Tn} (h:z1s t) {rest:List Wd} (h1:rest.head?≠some [40]) (h2:rest.head?≠some [42]):PR (.level 1) (brk 1 t++rest) (.ok 0 t.ns rest):=
 h.l1 rest (.ok 0 t.ns rest) h1 (.lopE h2)
theorem q4o {t:Tn} (hp:prc t.x=2) (hb:∃ w z,t.tk=w::z∧y0b w) (h:∀ rest:List Wd,rest.head?≠some [40]→PR .single (t.tk++rest) (.ok 0 t.ns rest)):z1s t:=by
 have b1:brk 1 t=t.tk:=by rw [brk,if_neg (by omega)]
 have b2:brk 2 t=t.tk:=by rw [brk,if_neg (by omega)]
 have h1:∀ (rest:List Wd) (r:Rs),rest.head?≠some [40]→PR (.loop 1 t.ns) rest r→PR (.level 1) (t.tk++rest) r:=
  fun rest r hr hl=>.levO (by omega) (.lev2 (h rest hr)) hl
 refine ⟨hb,by rw [b2];exact h,by rw [b1];exact h1,fun rest r hr hs hl=>?_⟩
 rw [q3f]
 exact .levO (by omega) (h1 rest _ hr (.lopE hs)) hl
theorem k9e {t:Tn} (h:∃ w z,t.tk=w::z∧y0b w) (l:Nat) (r:List Wd):∃ w z,brk l t++r=w::z∧y0b w:=by
 by_cases hp:prc t.x<l
 ·rw [brk,if_pos hp]
  exact ⟨[40],_,rfl,.inl rfl⟩
 ·rw [brk,if_neg hp]
  obtain ⟨w,z,e,hw⟩:=h
  exact ⟨w,z++r,by rw [e];rfl,hw⟩
theorem z9x {t:Tn} {l:Nat} (hp:prc t.x<l) (hl:∀ rest:List Wd,rest.head?≠some [40]→rest.head?≠some [42]→rest.head?≠some [43]→PR (.level 0) (t.tk++rest) (.ok 0 t.ns rest)) (rest:List Wd):PR .single (brk l t++rest) (.ok 0 t.ns rest):=by
 rw [brk,if_pos hp,List.cons_append,List.append_assoc]
 exact .sPC (hl ([41]::rest) (by simp) (by simp) (by simp))
theorem j4f {x:Td} {a b:Tn} (hx:x=sgT 1) (ha:z1s a) (hb:z1s b):z1s (q0m x [a,b]):=by
 have ho:x.op=6:=by rw [hx];rfl
 have hp:prc (q0m x [a,b]).x=1:=by simp [q0m,prc,ho]
 have hk:(q0m x [a,b]).tk=brk 1 a++[42]::brk 2 b:=by simp [q0m,q2p,two2,ho]
 have hn:(q0m x [a,b]).ns=sgT 1::(a.ns++b.ns):=by simp [q0m,hx]
 have h1:∀ (rest:List Wd) (r:Rs),rest.head?≠some [40]→PR (.loop 1 (q0m x [a,b]).ns) rest r→PR (.level 1) ((q0m x [a,b]).tk++rest) r:=by
  intro rest r hr hl
  rw [hk,List.append_assoc]
  refine ha.l1 _ _ (by simp) ?_
  rw [hn] at hl
  exact .lopO (k:=1) (.lev2 (hb.s rest hr)) hl
 have h0:∀ (rest:List Wd) (r:Rs),rest.head?≠some [40]→rest.head?≠some [42]→PR (.loop 0 (q0m x [a,b]).ns) rest r→PR (.level 0) ((q0m x [a,b]).tk++rest) r:=
  fun rest r hr hs hl=>.levO (by omega) (h1 rest _ hr (.lopE hs)) hl
 refine ⟨by rw [hk];exact k9e ha.b _ _,fun rest _=>z9x (by omega) (fun rest h40 h42 h43=>h0 rest _ h40 h42 (.lopE h43)) rest,fun rest r hr hl=>?_,fun rest r hr hs hl=>?_⟩
 ·rw [brk,if_neg (by omega)];exact h1 rest r hr hl
 ·rw [q3f];exact h0 rest r hr hs hl
theorem j4g {x:Td} {a b:Tn} (hx:x=sgT 0) (ha:z1s a) (hb:z1s b):z1s (q0m x [a,b]):=by
 have ho:x.op=5:=by rw [hx];rfl
 have hp:prc (q0m x [a,b]).x=0:=by simp [q0m,prc,ho]
 have hk:(q0m x [a,b]).tk=brk 0 a++[43]::brk 1 b:=by simp [q0m,q2p,two2,ho]
 have hn:(q0m x [a,b]).ns=sgT 0::(a.ns++b.ns):=by simp [q0m,hx]
 have h0:∀ (rest:List Wd) (r:Rs),rest.head?≠some [40]→rest.head?≠some [42]→PR (.loop 0 (q0m x [a,b]).ns) rest r→PR (.level 0) ((q0m x [a,b]).tk++rest) r:=by
  intro rest r hr hs hl
  rw [hk,List.append_assoc]
  refine ha.l0 _ _ (by simp) (by simp) ?_
  rw [hn] at hl
  exact .lopO (k:=0) (v7b hb hr hs) hl
 have hs:∀ l,0<l→∀ rest:List Wd,PR .single (brk l (q0m x [a,b])++rest) (.ok 0 (q0m x [a,b]).ns rest):=
  fun l hl rest=>z9x (by omega) (fun rest h40 h42 h43=>h0 rest _ h40 h42 (.lopE h43)) rest
 refine ⟨by rw [hk];exact k9e ha.b _ _,fun rest _=>hs 2 (by omega) rest,fun rest r _ hl=>.levO (by omega) (.lev2 (hs 1 (by omega) rest)) hl,fun rest r hr hs hl=>?_⟩
 rw [q3f];exact h0 rest r hr hs hl
def cmt:List Tn→List Wd
 | []=>[]
 | t::r=>[44]::cmk (t::r)
theorem z2a (t:Tn) (r:List Tn):cmk (t::r)=t.tk++cmt r:=by
 cases r with
 | nil=>simp [cmk,cmt]
 | cons u r=>simp [cmk,cmt]
theorem k3m {e:Wd} (he:e=[41]∨e=[93]) (r:List Tn) (rest:List Wd):(cmt r++e::rest).head?≠some [40]∧(cmt r++e::rest).head?≠some [42]∧(cmt r++e::rest).head?≠some [43]:=by
 cases r with
 | nil=>rcases he with rfl | rfl<;>simp [cmt]
 | cons t r=>simp [cmt]
theorem z8a {e:Wd} (he:e=[41]∨e=[93]):∀ (ks:List Tn),(∀ t∈ks,z1s t)→∀ (n:Nat) (acc:List Td) (rest:List Wd),
  PR (.args e (n+1) acc) (cmt ks++e::rest) (.ok (n+1+ks.length) (acc++ks.flatMap (·.ns)) rest)
 | [],_,n,acc,rest=>by simpa [cmt] using PR.aEnd
 | t::r,h,n,acc,rest=>by
  obtain ⟨h1,h2,h3⟩:=k3m he r rest
  have ih:=z8a he r (fun u hu=>h u (by simp [hu])) (n+1) (acc++t.ns) rest
  have hl:=z6r (h t (by simp)) h1 h2 h3
  have e1:cmt (t::r)++e::rest=[44]::(t.tk++(cmt r++e::rest)):=by rw [cmt,z2a];simp
  have e2:n+1+(t::r).length=n+1+1+r.length:=by simp;omega
  have e3:acc++(t::r).flatMap (·.ns)=acc++t.ns++r.flatMap (·.ns):=by simp
  rw [e1,e2,e3]
  exact .aO (by rcases he with rfl | rfl<;>decide) hl ih
theorem k3f {e:Wd} (he:e=[41]∨e=[93]) (ks:List Tn) (h:∀ t∈ks,z1s t) (rest:List Wd) :
  PR (.args e 0 []) (cmk ks++e::rest) (.ok ks.length (ks.flatMap (·.ns)) rest):=by
 cases ks with
 | nil=>simpa [cmk] using PR.aEnd
 | cons t r=>
  obtain ⟨h1,h2,h3⟩:=k3m he r rest
  have ih:=z8a he r (fun u hu=>h u (by simp [hu])) 0 ([]++t.ns) rest
  have hl:=z6r (h t (by simp)) h1 h2 h3
  obtain ⟨w,z,e0,hw⟩:=(h t (by simp)).b
  have hne:=z2s hw
  have e1:cmk (t::r)++e::rest=t.tk++(cmt r++e::rest):=by rw [z2a];simp
  have e2:(t::r).length=0+1+r.length:=by simp;omega
  have e3:(t::r).flatMap (·.ns)=[]++t.ns++r.flatMap (·.ns):=by simp
  rw [e1,e2,e3]
  refine .aO0 ?_ hl ih
  rw [e0,List.cons_append,List.head?_cons]
  intro e4
  rcases he with rfl | rfl
  ·exact hne.1 (Option.some.inj e4)
  ·exact hne.2.1 (Option.some.inj e4)
theorem z1e {x:Td} {op:Int} {tx:ByteArray} {n:Int} (h1:x.op=op) (h2:x.tx=tx) (h3:x.n=n):x=⟨op,tx,n⟩:=by
 cases x;simp_all
theorem v9o {α:Type} {l:List α} (h:l.length=2):∃ a b,l=[a,b]:=by
 match l,h with
 | [a,b],_=>exact ⟨a,b,rfl⟩
theorem q9s:∀ F:Fo,F.ok→F.exs→∀ t∈F.trs,z1s t
 | .nil,_,_,t,ht=>by cases ht
 | .cons x k n,hok,hex,t,ht=>by
  have hexk:k.exs:=fun y hy=>hex y (by simp [Fo.nodes,hy])
  have hexn:n.exs:=fun y hy=>hex y (by simp [Fo.nodes,hy])
  have ihk:=q9s k hok.2.1 hexk
  rw [Fo.trs] at ht
  rcases List.mem_cons.1 ht with rfl | ht
  ·have hlen:k.trs.length=kdT x:=by rw [q3e];exact hok.1
   rcases q2e (hex x (by simp [Fo.nodes])) with ⟨ho,htx,hn0,hn1,hk⟩ | ⟨ho,hnm,hn0,hk⟩ | ⟨ho,hnm,hn0,hn1,hk⟩ | ⟨ho,htx,hn0,hn1,hk⟩ | ⟨ho,htx,hn0,hk⟩ | ⟨ho,htx,hn0,hk⟩
   ·have hks:k.trs=[]:=List.eq_nil_of_length_eq_zero (by omega)
    have hnum:k0s (q3y x.n.toNat)=true:=by
     have h1:=z2d x.n.toNat
     cases hd:q3y x.n.toNat with
     | nil=>exact absurd hd (k1f _)
     | cons c z=>exact h1 c (by rw [hd];simp)
    have htk:(q0m x k.trs).tk=[q3y x.n.toNat]:=by simp [q0m,q2p,ho]
    have hns:(q0m x k.trs).ns=[v3d (q3y x.n.toNat)]:=by
     rw [q0m,hks]
     simp only [List.flatMap_nil,List.cons.injEq,and_true]
     exact z1e ho htx (by rw [v0a];omega)
    refine q4o (by simp [q0m,prc,ho]) ⟨_,_,htk,.inr (.inr (.inl hnum))⟩ fun rest _=>?_
    rw [htk,hns]
    exact .sNum hnum
   ·have hks:k.trs=[]:=List.eq_nil_of_length_eq_zero (by omega)
    have hnw:nmW (btL x.tx)=true:=hnm
    have htk:(q0m x k.trs).tk=[btL x.tx]:=by simp [q0m,q2p,ho]
    have hns:(q0m x k.trs).ns=[nmT (btL x.tx)]:=by
     rw [q0m,hks]
     simp only [List.flatMap_nil,List.cons.injEq,and_true]
     exact z1e ho rfl hn0
    refine q4o (by simp [q0m,prc,ho]) ⟨_,_,htk,.inr (.inr (.inr hnw))⟩ fun rest hr=>?_
    rw [htk,hns]
    exact .sName hnw hr
   ·have hnw:nmW (btL x.tx)=true:=hnm
    have htk:(q0m x k.trs).tk=btL x.tx::[40]::(cmk k.trs++[[41]]):=by simp [q0m,q2p,ho]
    have hns:(q0m x k.trs).ns=clT (btL x.tx) k.trs.length::k.trs.flatMap (·.ns):=by
     rw [q0m]
     simp only [List.cons.injEq,and_true]
     exact z1e ho rfl (by omega)
    refine q4o (by simp [q0m,prc,ho]) ⟨_,_,htk,.inr (.inr (.inr hnw))⟩ fun rest hr=>?_
    rw [htk,hns]
    have:=k3f (.inl rfl) k.trs ihk rest
    refine .sCO hnw ?_
    simpa using this
   ·have htk:(q0m x k.trs).tk=[91]::(cmk k.trs++[[93]]):=by simp [q0m,q2p,ho]
    have hns:(q0m x k.trs).ns=lsT k.trs.length::k.trs.flatMap (·.ns):=by
     rw [q0m]
     simp only [List.cons.injEq,and_true]
     exact z1e ho htx (by omega)
    refine q4o (by simp [q0m,prc,ho]) ⟨_,_,htk,.inr (.inl rfl)⟩ fun rest hr=>?_
    rw [htk,hns]
    have:=k3f (.inr rfl) k.trs ihk rest
    refine .sLO ?_
    simpa using this
   ·obtain ⟨a,b,hab⟩:=v9o (hlen.trans hk)
    rw [hab] at ihk ⊢
    exact j4g (z1e ho htx hn0) (ihk a (by simp)) (ihk b (by simp))
   ·obtain ⟨a,b,hab⟩:=v9o (hlen.trans hk)
    rw [hab] at ihk ⊢
    exact j4f (z1e ho htx hn0) (ihk a (by simp)) (ihk b (by simp))
  ·exact q9s n hok.2.2 hexn t ht
end Go.Proofs.YtchdplceopegoaaGreatDoor
