/- Texts as one: LexP, LexQ, LexB, FilP. -/
/- Texts as one: TreP, SynP, SynR. -/
import Derived.Lib.Strings
import Derived.Lib.Join
namespace Go.Proofs.YtchdplceopegoaaGreatDoor
open Go
def spB (c:UInt8):Bool:=c == 32 || c == 10
def q3a (c:UInt8):Bool:=decide (97≤c.toNat) && decide (c.toNat≤122)
def q3w (c:UInt8):Bool:=decide (48≤c.toNat) && decide (c.toNat≤57)
def nlB (c:UInt8):Bool:=c != 10
def prB (c:UInt8):Bool:=decide (32≤c.toNat) && decide (c.toNat≤126)
def v8d:List UInt8:=[40,41,91,93,44,43,42,61,59]
def y0m (c:UInt8):Bool:=v8d.any (· == c)
def q0o:List UInt8→Nat
 | []=>0
 | c::r=>if q3a c then (r.takeWhile q3a).length+1 else if q3w c then (r.takeWhile q3w).length+1 else if c == 35 then (r.takeWhile nlB).length+1 else 1
def q4g:List UInt8→Bool
 | []=>false
 | c::r=>if q3a c then decide ((r.takeWhile q3a).length+1≤8) else if q3w c then decide ((r.takeWhile q3w).length+1≤6) && (c != 48 || (r.takeWhile q3w).length == 0) else if c == 35 then (r.takeWhile nlB).all prB else y0m c
def q1a (w:List UInt8):List UInt8:=(w.reverse.dropWhile (· == 32)).reverse
theorem z2s (w:List UInt8):q1a (w++[32])=q1a w:=by simp [q1a]
theorem q1i (w:List UInt8) {c:UInt8} (h:c≠32):q1a (w++[c])=w++[c]:=by simp [q1a,h]
theorem j3o:q1a []=[]:=rfl
theorem z2t (w:List UInt8):∃ z,w=q1a w++z:=by
 refine ⟨(w.reverse.takeWhile (· == 32)).reverse,?_⟩
 rw [q1a,←List.reverse_append,List.takeWhile_append_dropWhile,List.reverse_reverse]
theorem q8y (w:List UInt8):(q1a w).length≤w.length:=by
 obtain ⟨z,hz⟩:=z2t w
 have:=congrArg List.length hz
 rw [List.length_append] at this
 omega
theorem z4l (w:List UInt8):w.take (q1a w).length=q1a w:=by
 obtain ⟨z,hz⟩:=z2t w
 have h2:w.take (q1a w).length=(q1a w++z).take (q1a w).length:=congrArg (List.take _) hz
 rw [h2,List.take_left]
theorem z2u:∀ (n:Nat) (w:List UInt8),w.length≤n→q1a (q1a w)=q1a w
 | n,w,h=>by
  rcases List.eq_nil_or_concat w with rfl | ⟨v,c,rfl⟩
  ·rfl
  ·rw [List.concat_eq_append] at h ⊢
   by_cases hc:c=32
   ·subst hc
    rw [z2s]
    match n,h with
    | 0,h=>simp at h
    | n+1,h=>exact z2u n v (by simp at h;omega)
   ·rw [q1i v hc,q1i v hc]
theorem k6h (w:List UInt8):q1a (q1a w)=q1a w:=z2u _ w (Nat.le_refl _)
theorem z0d {c:UInt8} (h:c≠32) (r:List UInt8):∃ z,q1a (c::r)=c::z:=by
 obtain ⟨z,hz⟩:=z2t (c::r)
 cases ht:q1a (c::r) with
 | nil=>
  exfalso
  have h1:∀ (l:List UInt8),l.dropWhile (· == 32)=[]→∀ x∈l,x=32:=by
   intro l
   induction l with
   | nil=>intro _ x hx;cases hx
   | cons a l ih=>
    intro h2 x hx
    rw [List.dropWhile_cons] at h2
    by_cases ha:(a == 32)=true
    ·rw [if_pos ha] at h2
     rcases List.mem_cons.1 hx with rfl | hx
     ·exact beq_iff_eq.1 ha
     ·exact ih h2 x hx
    ·rw [if_neg ha] at h2;cases h2
  rw [q1a,List.reverse_eq_nil_iff] at ht
  exact h (h1 _ ht c (by simp))
 | cons a b=>
  rw [ht,List.cons_append,List.cons.injEq] at hz
  exact ⟨b,by rw [hz.1]⟩
def tkW (s:List UInt8):List UInt8:=q1a (s.take (q0o s))
theorem q3z (c:UInt8) (r:List UInt8):1≤q0o (c::r):=by
 simp only [q0o]
 split
 ·omega
 ·split
  ·omega
  ·split<;>omega
theorem k4e {α:Type} (p:α→Bool) (l:List α):(l.takeWhile p).length≤l.length:=by
 induction l with
 | nil=>simp
 | cons a l ih=>
  rw [List.takeWhile_cons]
  split
  ·simp;omega
  ·simp
theorem q8w (s:List UInt8):q0o s≤s.length:=by
 cases s with
 | nil=>simp [q0o]
 | cons c r=>
  have h1:=k4e q3a r
  have h2:=k4e q3w r
  have h3:=k4e nlB r
  simp only [q0o,List.length_cons]
  split
  ·omega
  ·split
   ·omega
   ·split<;>omega
def lx (s:List UInt8) (i:Nat):List (Nat × List UInt8) × Option Nat:=
 match s with
 | []=>([],none)
 | c::r=>
  if spB c then lx r (i+1)
  else if q4g (c::r) then ((i,tkW (c::r))::(lx ((c::r).drop (q0o (c::r))) (i+q0o (c::r))).1,(lx ((c::r).drop (q0o (c::r))) (i+q0o (c::r))).2)
  else ([],some i)
termination_by s.length
decreasing_by
 all_goals first
  | (have:=q3z c r;simp only [List.length_drop,List.length_cons];omega)
  | (simp only [List.length_cons];omega)
def lxW (s:List UInt8) (i:Nat):List (Nat × List UInt8):=(lx s i).1
def lxF (s:List UInt8) (i:Nat):Option Nat:=(lx s i).2
theorem z0k (i:Nat):lx [] i=([],none):=by rw [lx]
theorem z8k {c:UInt8} (r:List UInt8) (i:Nat) (h:spB c=true):lx (c::r) i=lx r (i+1):=by rw [lx,if_pos h]
theorem z4b {c:UInt8} {r:List UInt8} (i:Nat) (h:spB c=false) (ho:q4g (c::r)=true) :
  lx (c::r) i=((i,tkW (c::r))::lxW ((c::r).drop (q0o (c::r))) (i+q0o (c::r)),lxF ((c::r).drop (q0o (c::r))) (i+q0o (c::r))):=by
 rw [lx,if_neg (by simp [h]),if_pos ho];rfl
theorem k3b {c:UInt8} {r:List UInt8} (i:Nat) (h:spB c=false) (ho:q4g (c::r)=false):lx (c::r) i=([],some i):=by
 rw [lx,if_neg (by simp [h]),if_neg (by simp [ho])]
theorem z6q {p:UInt8→Bool} {x:UInt8} (h:p x=false) (t:List UInt8):∀ r:List UInt8,(r++x::t).takeWhile p=r.takeWhile p
 | []=>by rw [List.nil_append,List.takeWhile_cons,if_neg (by simp [h])];rfl
 | a::r=>by
  rw [List.cons_append,List.takeWhile_cons,List.takeWhile_cons,z6q h t r]
theorem v9g (c:UInt8) (r t:List UInt8):q0o (c::r++10::t)=q0o (c::r)∧q4g (c::r++10::t)=q4g (c::r):=by
 have h1:=z6q (p:=q3a) (x:=10) rfl t r
 have h2:=z6q (p:=q3w) (x:=10) rfl t r
 have h3:=z6q (p:=nlB) (x:=10) rfl t r
 simp only [List.cons_append,q0o,q4g,h1,h2,h3,and_self]
def q3i (w:List UInt8):Prop:=∃ c r,w=c::r∧spB c=false∧q4g (c::r)=true∧q0o (c::r)=(c::r).length∧q1a (c::r)=c::r
theorem z2v {p:UInt8→Bool}:∀ (r:List UInt8) (k:Nat),k≤(r.takeWhile p).length→(r.take k).takeWhile p=r.take k
 | _,0,_=>by simp
 | [],k+1,h=>by simp at h
 | a::r,k+1,h=>by
  rw [List.takeWhile_cons] at h
  by_cases ha:p a=true
  ·rw [if_pos ha] at h
   rw [List.take_succ_cons,List.takeWhile_cons,if_pos ha,z2v r k (by simp at h;omega)]
  ·rw [if_neg ha] at h;simp at h
theorem z3i {p:UInt8→Bool} (r:List UInt8):r.take (r.takeWhile p).length=r.takeWhile p:=by
 have:=z2v (p:=p) r (r.takeWhile p).length (Nat.le_refl _)
 induction r with
 | nil=>rfl
 | cons a r ih=>
  rw [List.takeWhile_cons]
  split
  ·rw [List.length_cons,List.take_succ_cons,ih (z2v r _ (Nat.le_refl _))]
  ·rfl
theorem j5b {p:UInt8→Bool} {l:List UInt8} (h:l.all p=true) (k:Nat):(l.take k).all p=true:=by
 rw [List.all_eq_true] at h ⊢
 exact fun x hx=>h x (List.mem_of_mem_take hx)
theorem y2b {p:UInt8→Bool} {l:List UInt8} (h:∀ x,p x=true→x≠32):q1a (l.takeWhile p)=l.takeWhile p:=by
 rcases List.eq_nil_or_concat (l.takeWhile p) with e | ⟨v,c,e⟩
 ·rw [e];rfl
 ·rw [e,List.concat_eq_append]
  refine q1i v (h c ?_)
  have hm:c∈l.takeWhile p:=by rw [e];simp
  have hall:∀ (l:List UInt8) x,x∈l.takeWhile p→p x=true:=by
   intro l
   induction l with
   | nil=>intro x hx;cases hx
   | cons a l ih=>
    intro x hx
    rw [List.takeWhile_cons] at hx
    by_cases ha:p a=true
    ·rw [if_pos ha] at hx
     rcases List.mem_cons.1 hx with rfl | hx
     ·exact ha
     ·exact ih x hx
    ·rw [if_neg ha] at hx;cases hx
  exact hall l c hm
theorem z8g {x:UInt8} (h:q3a x=true):x≠32:=by
 rintro rfl;revert h;decide
theorem z7q {x:UInt8} (h:q3w x=true):x≠32:=by
 rintro rfl;revert h;decide
theorem k0j {x:UInt8} (h:q3w x=true):q3a x=false:=by
 simp only [q3w,q3a,Bool.and_eq_true,decide_eq_true_eq,Bool.and_eq_false_iff,decide_eq_false_iff_not] at h ⊢
 omega
theorem q7a {p:UInt8→Bool} (h:∀ x,p x=true→x≠32) (c:UInt8) (hc:p c=true) (r:List UInt8):q1a (c::r.takeWhile p)=c::r.takeWhile p:=by
 have:=y2b (p:=p) (l:=c::r) h
 rw [List.takeWhile_cons,if_pos hc] at this
 exact this
theorem j3r (p:UInt8→Bool) (r:List UInt8):(r.takeWhile p).takeWhile p=r.takeWhile p:=by
 have:=z2v (p:=p) r (r.takeWhile p).length (Nat.le_refl _)
 rw [z3i] at this
 exact this
theorem k5y {c:UInt8} (h:spB c=false):c≠32:=by
 rintro rfl;revert h;decide
theorem v1j {c:UInt8} {r:List UInt8} (hs:spB c=false) (ho:q4g (c::r)=true):q3i (tkW (c::r)):=by
 cases hl:q3a c with
 | true=>
  have e:tkW (c::r)=c::r.takeWhile q3a:=by
   simp only [tkW,q0o,hl,if_true,List.take_succ_cons,z3i]
   exact q7a (fun _=>z8g) c hl r
  refine ⟨c,r.takeWhile q3a,e,hs,?_,?_,q7a (fun _=>z8g) c hl r⟩
  ·simp only [q4g,hl,if_true,j3r] at ho ⊢;exact ho
  ·simp only [q0o,hl,if_true,j3r,List.length_cons]
 | false=>
  cases hf:q3w c with
  | true=>
   have e:tkW (c::r)=c::r.takeWhile q3w:=by
    simp only [tkW,q0o,hl,hf,if_true,Bool.false_eq_true,if_false,List.take_succ_cons,z3i]
    exact q7a (fun _=>z7q) c hf r
   refine ⟨c,r.takeWhile q3w,e,hs,?_,?_,q7a (fun _=>z7q) c hf r⟩
   ·simp only [q4g,hl,hf,if_true,Bool.false_eq_true,if_false,j3r] at ho ⊢;exact ho
   ·simp only [q0o,hl,hf,if_true,Bool.false_eq_true,if_false,j3r,List.length_cons]
  | false=>
   cases hn:(c == 35) with
   | true=>
    have e:tkW (c::r)=q1a (c::r.takeWhile nlB):=by
     simp only [tkW,q0o,hl,hf,hn,if_true,Bool.false_eq_true,if_false,List.take_succ_cons,z3i]
    obtain ⟨z,hz⟩:=z0d (k5y hs) (r.takeWhile nlB)
    have hzt:z=(r.takeWhile nlB).take z.length:=by
     have:=z4l (c::r.takeWhile nlB)
     rw [hz,List.length_cons,List.take_succ_cons,List.cons.injEq] at this
     exact this.2.symm
    have hlen:z.length≤(r.takeWhile nlB).length:=by
     have:=q8y (c::r.takeWhile nlB)
     rw [hz,List.length_cons,List.length_cons] at this
     omega
    have hzz:z.takeWhile nlB=z:=by
     have:=z2v (p:=nlB) (r.takeWhile nlB) z.length (by rw [j3r];exact hlen)
     rw [←hzt] at this
     exact this
    refine ⟨c,z,by rw [e,hz],hs,?_,?_,by rw [←hz];exact k6h _⟩
    ·simp only [q4g,hl,hf,hn,if_true,Bool.false_eq_true,if_false,hzz] at ho ⊢
     rw [hzt]
     exact j5b ho _
    ·simp only [q0o,hl,hf,hn,if_true,Bool.false_eq_true,if_false,hzz,List.length_cons]
   | false=>
    have e:tkW (c::r)=[c]:=by
     simp only [tkW,q0o,hl,hf,hn,Bool.false_eq_true,if_false,List.take_succ_cons,List.take_zero]
     exact q1i [] (k5y hs)
    refine ⟨c,[],e,hs,?_,?_,q1i [] (k5y hs)⟩
    ·simp only [q4g,hl,hf,hn,Bool.false_eq_true,if_false] at ho ⊢;exact ho
    ·simp only [q0o,hl,hf,hn,Bool.false_eq_true,if_false,List.length_cons,List.length_nil]
theorem j3j {w:List UInt8} (h:q3i w):1≤w.length:=by
 obtain ⟨c,r,rfl,_⟩:=h
 simp
theorem v8b {w:List UInt8} (h:q3i w) (t:List UInt8) (i:Nat):lx (w++10::t) i=((i,w)::lxW t (i+w.length+1),lxF t (i+w.length+1)):=by
 obtain ⟨c,r,rfl,hs,ho,hl,ht⟩:=h
 obtain ⟨e1,e2⟩:=v9g c r t
 rw [List.cons_append] at e1 e2
 have ho2:q4g (c::(r++10::t))=true:=by rw [e2];exact ho
 have ed:(c::(r++10::t)).drop (q0o (c::(r++10::t)))=10::t:=by
  rw [e1,hl,←List.cons_append,List.drop_left]
 have ew:tkW (c::(r++10::t))=c::r:=by
  rw [tkW,e1,hl,←List.cons_append,List.take_left,ht]
 rw [List.cons_append,z4b i hs ho2,ed,ew,e1,hl,lxW,lxF,z8k t _ rfl]
 rfl
def spc:List (List UInt8)→List UInt8
 | []=>[]
 | w::r=>w++10::spc r
def q7w (s:List UInt8) (i:Nat) (x:Nat × List UInt8):Prop:=i≤x.1∧x.1+x.2.length≤i+s.length∧(s.drop (x.1 - i)).take x.2.length=x.2∧q3i x.2
theorem q7w.later {s:List UInt8} {i k:Nat} {x:Nat × List UInt8} (h:q7w (s.drop k) (i+k) x) (hk:k≤s.length):q7w s i x:=by
 obtain ⟨h1,h2,h3,h4⟩:=h
 rw [List.length_drop] at h2
 refine ⟨by omega,by omega,?_,h4⟩
 rw [List.drop_drop] at h3
 have e:x.1 - i=k+(x.1 - (i+k)):=by omega
 rw [e]
 exact h3
theorem v4b:∀ (n:Nat) (s:List UInt8) (i:Nat),s.length≤n→(∀ x∈lxW s i,q7w s i x)∧(lxW s i).Pairwise (fun a b=>a.1+a.2.length≤b.1)
 | 0,s,i,h=>by
  have:s=[]:=List.eq_nil_of_length_eq_zero (by omega)
  subst this
  rw [lxW,z0k]
  exact ⟨fun x hx=>absurd hx List.not_mem_nil,List.Pairwise.nil⟩
 | n+1,s,i,h=>by
  cases s with
  | nil=>
   rw [lxW,z0k]
   exact ⟨fun x hx=>absurd hx List.not_mem_nil,List.Pairwise.nil⟩
  | cons c r=>
   cases hs:spB c with
   | true=>
    obtain ⟨h1,h2⟩:=v4b n r (i+1) (by simp at h;omega)
    rw [lxW,z8k r i hs]
    exact ⟨fun x hx=>q7w.later (s:=c::r) (k:=1) (h1 x hx) (by simp),h2⟩
   | false=>
    cases ho:q4g (c::r) with
    | false=>
     rw [lxW,k3b i hs ho]
     exact ⟨fun x hx=>absurd hx List.not_mem_nil,List.Pairwise.nil⟩
    | true=>
     have hp:=q3z c r
     have hle:=q8w (c::r)
     have hw:(tkW (c::r)).length≤q0o (c::r):=by
      have:=q8y ((c::r).take (q0o (c::r)))
      rw [List.length_take] at this
      rw [tkW]
      omega
     obtain ⟨h1,h2⟩:=v4b n ((c::r).drop (q0o (c::r))) (i+q0o (c::r)) (by simp only [List.length_drop,List.length_cons] at h ⊢;omega)
     rw [lxW,z4b i hs ho]
     refine ⟨fun x hx=>?_,List.pairwise_cons.2 ⟨fun x hx=>?_,h2⟩⟩
     ·rcases List.mem_cons.1 hx with rfl | hx
      ·refine ⟨Nat.le_refl _,by simp only;omega,?_,v1j hs ho⟩
       simp only [Nat.sub_self,List.drop_zero]
       have h3:=z4l ((c::r).take (q0o (c::r)))
       rw [List.take_take,Nat.min_eq_left (by rw [tkW] at hw;exact hw)] at h3
       exact h3
      ·exact (h1 x hx).later hle
     ·have:=(h1 x hx).1
      simp only
      omega
def q2u (s:List UInt8):List (List UInt8):=(lxW s 0).map (·.2)
def z6v (s:List UInt8):List Nat:=(lxW s 0).map (·.1)
theorem j4i (s:List UInt8):(q2u s).length=(z6v s).length:=by simp [q2u,z6v]
theorem y2f (s:List UInt8) (j:Nat) (h:j<(q2u s).length) (h2:j<(z6v s).length) :
  (z6v s)[j]+(q2u s)[j].length≤s.length∧(s.drop (z6v s)[j]).take (q2u s)[j].length=(q2u s)[j]∧q3i (q2u s)[j]∧∀ k (hk:k<(q2u s).length) (hk2:k<(z6v s).length),k<j→(z6v s)[k]+(q2u s)[k].length≤(z6v s)[j]:=by
 obtain ⟨a1,a2⟩:=v4b s.length s 0 (Nat.le_refl _)
 have hj:j<(lxW s 0).length:=by simpa [q2u] using h
 obtain ⟨_,b2,b3,b4⟩:=a1 (lxW s 0)[j] (List.getElem_mem hj)
 simp only [q2u,z6v,List.getElem_map] at *
 refine ⟨by omega,by simpa using b3,b4,fun k hk hk2 hkj=>?_⟩
 exact List.pairwise_iff_getElem.1 a2 k j (by simpa using hk2) hj hkj
theorem v6d (s:List UInt8):∀ w∈q2u s,q3i w:=by
 intro w hw
 obtain ⟨j,hj,rfl⟩:=List.getElem_of_mem hw
 exact (y2f s j hj (by rw [←j4i];exact hj)).2.2.1
theorem z5r:∀ (n:Nat) (s:List UInt8) (i:Nat),s.length≤n→(lxW s i).length≤s.length
 | 0,s,i,h=>by
  have:s=[]:=List.eq_nil_of_length_eq_zero (by omega)
  subst this
  rw [lxW,z0k];simp
 | n+1,s,i,h=>by
  cases s with
  | nil=>rw [lxW,z0k];simp
  | cons c r=>
   cases hs:spB c with
   | true=>
    have:=z5r n r (i+1) (by simp at h;omega)
    rw [lxW,z8k r i hs]
    simp only [List.length_cons]
    rw [lxW] at this
    omega
   | false=>
    cases ho:q4g (c::r) with
    | false=>rw [lxW,k3b i hs ho];simp
    | true=>
     have hp:=q3z c r
     have hle:=q8w (c::r)
     have:=z5r n ((c::r).drop (q0o (c::r))) (i+q0o (c::r)) (by simp only [List.length_drop,List.length_cons] at h ⊢;omega)
     rw [lxW,z4b i hs ho]
     simp only [List.length_cons,List.length_drop] at this hle ⊢
     omega
theorem j3x (s:List UInt8):(q2u s).length≤s.length:=by
 have:=z5r s.length s 0 (Nat.le_refl _)
 simpa [q2u] using this
def y2j (w:List UInt8):Bool:=w.headD 0 != 35
def many (ws:List (List UInt8)):Nat:=(ws.filter y2j).length
theorem j7e (a b:List (List UInt8)):many (a++b)=many a+many b:=by simp [many]
def q6t (s:List UInt8):Int:=if 60000<s.length then 3 else if (lxF s 0).isSome then 5 else if 300<many (q2u s) then 3 else 0
def z8b (s:List UInt8):Nat:=if q6t s=5 then (lxF s 0).getD 0 else 0
theorem z8a {s:List UInt8} (h:q6t s=0):s.length≤60000∧lxF s 0=none∧many (q2u s)≤300:=by
 unfold q6t at h
 split at h
 ·cases h
 ·split at h
  ·cases h
  ·split at h
   ·cases h
   ·rename_i h1 h2 h3
    exact ⟨by omega,by simpa using h2,by omega⟩
abbrev btL (s:ByteArray):List UInt8:=s.data.toList
theorem q0b (s:ByteArray):(btL s).length=s.size:=(Lib.size_eq s).symm
theorem q1s {s:ByteArray} {k:Nat} (h:k<s.size):(btL s).drop k=s[k]::(btL s).drop (k+1):=by
 have hl:k<(btL s).length:=by rw [q0b];exact h
 rw [List.drop_eq_getElem_cons hl];rfl
def twN (p:UInt8→Bool) (s:ByteArray) (k:Nat):Nat:=(((btL s).drop k).takeWhile p).length
theorem v5y {p:UInt8→Bool} {s:ByteArray} {k:Nat} (h:k<s.size) (hp:p s[k]=true):twN p s k=twN p s (k+1)+1:=by
 rw [twN,q1s h,List.takeWhile_cons,if_pos hp];rfl
theorem v9n {p:UInt8→Bool} {s:ByteArray} {k:Nat} (h:k<s.size) (hp:p s[k]=false):twN p s k=0:=by
 rw [twN,q1s h,List.takeWhile_cons,if_neg (by simp [hp])];rfl
theorem v5x {p:UInt8→Bool} {s:ByteArray} {k:Nat} (h:¬ k<s.size):twN p s k=0:=by
 rw [twN,List.drop_eq_nil_of_le (by rw [q0b];omega)];rfl
def j3c (s:ByteArray) (i:Nat):Nat:=q0o ((btL s).drop i)
def tOk (s:ByteArray) (i:Nat):Bool:=q4g ((btL s).drop i)
theorem y2u {s:ByteArray} {i:Nat} (h:i<s.size):1≤j3c s i∧i+j3c s i≤s.size:=by
 have h1:=q8w ((btL s).drop i)
 rw [List.length_drop,q0b] at h1
 rw [j3c]
 refine ⟨?_,by omega⟩
 rw [q1s h]
 exact q3z _ _
theorem k6i (c:UInt8) (n:Nat) (hn:n<256):((c.toNat:Int) == (n:Int))=(c == UInt8.ofNat n):=by
 by_cases h:c=UInt8.ofNat n
 ·subst h
  rw [beq_iff_eq.2 (show ((UInt8.ofNat n).toNat:Int)=(n:Int) by simp [Nat.mod_eq_of_lt hn])]
  simp
 ·rw [beq_false_of_ne h,beq_false_of_ne]
  intro e
  apply h
  have:c.toNat=n:=by omega
  rw [←this]
  simp
def wbS (w:List UInt8):ByteArray:=⟨w.toArray⟩
theorem k1q (s:ByteArray) (i e:Nat):s.extract i e=wbS (((btL s).drop i).take (e - i)):=by
 apply ByteArray.ext
 rw [ByteArray.data_extract]
 apply Array.ext'
 simp only [wbS,Array.toList_extract,List.extract]
def q9b (b:UInt8):Bool:=decide (33≤b.toNat) && decide (b.toNat≤126)
def okW (x:ByteArray):Bool:=decide (1≤x.size) && decide (x.size≤20) && x.data.toList.all q9b
def q1h (ws:List ByteArray):Int:=if 60<ws.length then 3 else if ws.all okW then 0 else 5
def q5c (ws:List ByteArray) (wd:Int):Int:=if q1h ws≠0 then q1h ws else if wd<1∨100<wd then 1 else 0
theorem q7s {ws:List ByteArray} (h:q1h ws=0):ws.length≤60∧∀ x∈ws,okW x=true:=by
 unfold q1h at h
 split at h
 ·cases h
 ·split at h
  ·rename_i h1 h2
   exact ⟨by omega,fun x hx=>List.all_eq_true.1 h2 x hx⟩
  ·cases h
theorem j7r {x:ByteArray} (h:okW x=true):1≤x.size∧x.size≤20:=by
 simp only [okW,Bool.and_eq_true,decide_eq_true_eq] at h
 exact h.1
def Few (ws:List ByteArray):Prop:=ws.length≤60∧∀ x∈ws,x.size≤20
theorem v0g {ws:List ByteArray} (h:q1h ws=0):Few ws:=⟨(q7s h).1,fun x hx=>(j7r ((q7s h).2 x hx)).2⟩
theorem Few.take {ws:List ByteArray} (h:Few ws) (k:Nat):Few (ws.take k):=⟨by have:=h.1;simp;omega,fun x hx=>h.2 x (List.mem_of_mem_take hx)⟩
theorem Few.drop {ws:List ByteArray} (h:Few ws) (k:Nat):Few (ws.drop k):=⟨by have:=h.1;simp;omega,fun x hx=>h.2 x (List.mem_of_mem_drop hx)⟩
theorem k4z {ws:List ByteArray} {wd:Int} (h:q5c ws wd=0):q1h ws=0∧∃ n:Nat,wd=n∧1≤n∧n≤100:=by
 unfold q5c at h
 split at h
 ·rename_i h1;exact absurd h h1
 ·rename_i h1
  split at h
  ·cases h
  ·refine ⟨by omega,wd.toNat,by omega,by omega,by omega⟩
def tot:List ByteArray→Nat
 | []=>0
 | x::r=>x.size+tot r
theorem v5w (a b:List ByteArray):tot (a++b)=tot a+tot b:=by
 induction a with
 | nil=>simp [tot]
 | cons x r ih=>simp only [List.cons_append,tot,ih];omega
theorem j9b {ws:List ByteArray} {i:Nat} (h:i<ws.length):tot (ws.take (i+1))=tot (ws.take i)+ws[i].size:=by
 rw [List.take_succ_eq_append_getElem h,v5w];simp [tot]
theorem v9k {ws:List ByteArray} (h:∀ x∈ws,x.size≤20):tot ws≤20*ws.length:=by
 induction ws with
 | nil=>simp [tot]
 | cons x r ih=>
  have h1:=h x (by simp)
  have h2:=ih fun y hy=>h y (by simp [hy])
  simp only [tot,List.length_cons];omega
theorem Few.tot {ws:List ByteArray} (h:Few ws):tot ws≤1200:=by
 have:=v9k h.2
 have:=h.1
 omega
def ln (ws:List ByteArray):Nat:=tot ws+(ws.length - 1)
theorem Few.ln {ws:List ByteArray} (h:Few ws):ln ws≤1260:=by
 have:=h.tot
 have:=h.1
 simp only [Go.Proofs.YtchdplceopegoaaGreatDoor.ln];omega
def jnL (ws:List ByteArray):List UInt8:=Lib.join (ws.map (·.data.toList)) [32]
def jnS (ws:List ByteArray):ByteArray:=⟨(jnL ws).toArray⟩
theorem j6v (ws:List ByteArray):Lib.lens (ws.map (·.data.toList))=tot ws:=by
 induction ws with
 | nil=>rfl
 | cons x r ih=>
  have e:Lib.lens ((x::r).map (·.data.toList))=x.data.toList.length+Lib.lens (r.map (·.data.toList)):=by simp [Lib.lens]
  rw [e,ih,tot,Lib.size_eq]
theorem j0a (ws:List ByteArray):(jnL ws).length=ln ws:=by
 cases ws with
 | nil=>rfl
 | cons x r=>
  have h:=Lib.join_length x.data.toList (r.map (·.data.toList)) [32]
  have h2:=j6v (x::r)
  simp only [List.map_cons] at h2
  simp only [jnL,List.map_cons,h,h2,ln,List.length_cons,List.length_nil,List.length_map]
  omega
theorem k2v (ws:List ByteArray):(jnS ws).size=ln ws:=by
 rw [←j0a];simp [jnS,ByteArray.size]
def bd (n wd:Nat) (last:Bool):Nat:=if wd<n then 1000*(n - wd) else if last then 0 else (wd - n)*(wd - n)
theorem v6s {n wd:Nat} {last:Bool} (h1:n≤1260) (h2:wd≤100):bd n wd last≤1300000:=by
 unfold bd
 split
 ·omega
 ·split
  ·omega
  ·have:(wd - n)*(wd - n)≤100*100:=Nat.mul_le_mul (by omega) (by omega)
   omega
def z5u (g:Nat→Nat):Nat→Nat
 | 0=>0
 | n+1=>if n=0∨g (n+1)≤z5u g n then g (n+1) else z5u g n
def j9v (g:Nat→Nat):Nat→Nat
 | 0=>0
 | n+1=>if n=0∨g (n+1)≤z5u g n then n+1 else j9v g n
theorem z4c {g h:Nat→Nat}:∀ n,(∀ k,1≤k→k≤n→g k=h k)→z5u g n=z5u h n
 | 0,_=>rfl
 | n+1,e=>by
  have ih:=z4c n fun k h1 h2=>e k h1 (by omega)
  simp only [z5u,ih,e (n+1) (by omega) (Nat.le_refl _)]
theorem k0u (g:Nat→Nat):∀ n k,1≤k→k≤n→z5u g n≤g k
 | 0,k,h1,h2=>by omega
 | n+1,k,h1,h2=>by
  simp only [z5u]
  split
  ·rename_i h
   by_cases hk:k=n+1
   ·subst hk;exact Nat.le_refl _
   ·have:=k0u g n k h1 (by omega)
    rcases h with h | h<;>omega
  ·rename_i h
   by_cases hk:k=n+1
   ·subst hk;omega
   ·exact k0u g n k h1 (by omega)
theorem k1z (g:Nat→Nat):∀ n,1≤n→1≤j9v g n∧j9v g n≤n
 | 0,h=>by omega
 | n+1,h=>by
  simp only [j9v]
  split
  ·omega
  ·rename_i h1
   have:=k1z g n (by omega)
   omega
def k4k (wd:Nat):List ByteArray→List Nat
 | []=>[0]
 | x::r=>z5u (fun k=>bd (ln ((x::r).take k)) wd (k == r.length+1)+(k4k wd r).getD (k - 1) 0) (r.length+1)::k4k wd r
def best (wd:Nat) (ws:List ByteArray):Nat:=(k4k wd ws).getD 0 0
theorem z4v (wd:Nat):best wd []=0:=rfl
theorem z3m (wd:Nat):∀ (ws:List ByteArray) (j:Nat),j≤ws.length→(k4k wd ws).getD j 0=best wd (ws.drop j)
 | _,0,_=>by simp [best]
 | [],j+1,h=>by simp at h
 | x::r,j+1,h=>by
  have:=z3m wd r j (by simp at h;omega)
  simpa [k4k] using this
def fOf (wd:Nat) (ws:List ByteArray) (k:Nat):Nat:=bd (ln (ws.take k)) wd (k == ws.length)+best wd (ws.drop k)
theorem k7m (wd:Nat) {ws:List ByteArray} (h:ws≠[]):best wd ws=z5u (fOf wd ws) ws.length:=by
 cases ws with
 | nil=>exact absurd rfl h
 | cons x r=>
  simp only [best,k4k,List.getD_cons_zero,List.length_cons]
  refine z4c _ fun k h1 h2=>?_
  obtain ⟨j,rfl⟩:∃ j,k=j+1:=⟨k - 1,by omega⟩
  simp only [fOf,List.length_cons,List.drop_succ_cons,Nat.add_sub_cancel]
  rw [z3m wd r j (by omega)]
theorem v2b {wd:Nat} (hw:wd≤100):∀ (n:Nat) (ws:List ByteArray),ws.length≤n→Few ws→best wd ws≤1300000
 | 0,ws,h,_=>by
  have:ws=[]:=List.eq_nil_of_length_eq_zero (by omega)
  subst this
  simp [z4v]
 | n+1,ws,h,hf=>by
  by_cases h0:ws=[]
  ·subst h0;simp [z4v]
  ·have hp:0<ws.length:=List.length_pos_iff.2 h0
   rw [k7m wd h0]
   refine Nat.le_trans (k0u _ _ ws.length hp (Nat.le_refl _)) ?_
   simp only [fOf,List.drop_length,z4v]
   have:=v6s (last:=(ws.length == ws.length)) (hf.take ws.length).ln hw
   omega
theorem v7e {wd:Nat} (hw:wd≤100) {ws:List ByteArray} (hf:Few ws) (k:Nat):fOf wd ws k≤2600000:=by
 have h1:=v2b hw _ (ws.drop k) (Nat.le_refl _) (hf.drop k)
 have h2:=v6s (last:=(k == ws.length)) (hf.take k).ln hw
 simp only [fOf];omega
def agF (wd:Nat) (ws:List ByteArray):Nat:=j9v (fOf wd ws) ws.length
theorem z1o (wd:Nat) {ws:List ByteArray} (h:ws≠[]):1≤agF wd ws∧agF wd ws≤ws.length:=k1z _ _ (List.length_pos_iff.2 h)
def z1v (wd:Nat) (ws:List ByteArray):List Nat:=
 if _h:ws=[] then [] else agF wd ws::z1v wd (ws.drop (agF wd ws))
termination_by ws.length
decreasing_by
 have:=z1o wd _h
 simp only [List.length_drop]
 omega
theorem z1c (wd:Nat):z1v wd []=[]:=by rw [z1v];simp
theorem q8c (wd:Nat) {ws:List ByteArray} (h:ws≠[]):z1v wd ws=agF wd ws::z1v wd (ws.drop (agF wd ws)):=by
 rw [z1v,dif_neg h]
def j0x:List ByteArray→List Nat→List ByteArray
 | _,[]=>[]
 | ws,k::ks=>jnS (ws.take k)::j0x (ws.drop k) ks
end Go.Proofs.YtchdplceopegoaaGreatDoor
namespace Go.Proofs.YtchdplceopegoaaGreatDoor
open Go
structure Td where
 op:Int
 tx:ByteArray
 n:Int
def kdT (x:Td):Nat:=if x.op=3∨x.op=4 then x.n.toNat else if x.op=5∨x.op=6 then 2 else if x.op=7∨x.op=8 then 1 else 0
def k0b:List Td→Nat→Option Nat
 | _,0=>some 0
 | [],_+1=>none
 | x::r,m+1=>(k0b r (kdT x+m)).map (· + 1)
theorem q8b (ds:List Td):k0b ds 0=some 0:=by cases ds<;>rfl
theorem q6o (m:Nat):k0b [] (m+1)=none:=rfl
theorem q4o (x:Td) (r:List Td) (m:Nat):k0b (x::r) (m+1)=(k0b r (kdT x+m)).map (· + 1):=rfl
theorem k8g:∀ (ds:List Td) (m k:Nat),k0b ds m=some k→m≤k∧k≤ds.length
 | ds,0,k,h=>by rw [q8b] at h;cases h;simp
 | [],m+1,k,h=>by rw [q6o] at h;cases h
 | x::r,m+1,k,h=>by
  rw [q4o,Option.map_eq_some_iff] at h
  obtain ⟨j,h1,rfl⟩:=h
  have:=k8g r _ j h1
  simp
  omega
theorem k2i:∀ (ds:List Td) (a b:Nat),k0b ds (a+b)=(k0b ds a).bind fun k=>(k0b (ds.drop k) b).map (k + ·)
 | ds,0,b=>by
  rw [q8b]
  simp
 | [],a+1,b=>by rw [show a+1+b=(a+b)+1 by omega,q6o,q6o];rfl
 | x::r,a+1,b=>by
  rw [show a+1+b=(a+b)+1 by omega,q4o,q4o,show kdT x+(a+b)=(kdT x+a)+b by omega,k2i r _ b]
  cases k0b r (kdT x+a) with
  | none=>rfl
  | some k=>
   simp only [Option.bind_some,Option.map_some,List.drop_succ_cons]
   cases k0b (r.drop k) b with
   | none=>rfl
   | some j=>simp;omega
def z0s (ds:List Td) (i m:Nat):Option Nat:=(k0b (ds.drop i) m).map (i + ·)
theorem k9b (ds:List Td) (i:Nat):z0s ds i 0=some i:=by simp [z0s,q8b]
theorem z1d (ds:List Td) (i m:Nat) (h:ds.length≤i):z0s ds i (m+1)=none:=by
 rw [z0s,List.drop_eq_nil_of_le h,q6o];rfl
theorem k9a (ds:List Td) (i m:Nat) (h:i<ds.length):z0s ds i (m+1)=z0s ds (i+1) (kdT ds[i]+m):=by
 rw [z0s,List.drop_eq_getElem_cons h,q4o,z0s]
 cases k0b (ds.drop (i+1)) (kdT ds[i]+m) with
 | none=>rfl
 | some k=>simp;omega
def q1c (s:ByteArray):Bool:=decide (1≤s.size) && decide (s.size≤8) && decide (btL s≠[108,101,116]) && (btL s).all q3a
def q4v:List UInt8→List (List UInt8)
 | []=>[[]]
 | c::r=>if c=32 then []::q4v r else match q4v r with
  | []=>[[c]]
  | w::ws=>(c::w)::ws
theorem q7o (s:List UInt8):q4v s≠[]:=by
 cases s with
 | nil=>simp [q4v]
 | cons c r=>
  simp only [q4v]
  split
  ·simp
  ·split<;>simp
theorem q4w (r:List UInt8):q4v (32::r)=[]::q4v r:=by simp [q4v]
theorem q4x {c:UInt8} (h:c≠32) {r w:List UInt8} {ws:List (List UInt8)} (hr:q4v r=w::ws):q4v (c::r)=(c::w)::ws:=by
 simp only [q4v,if_neg h,hr]
theorem j8n (u r:List UInt8) (h:∀ b∈u,b≠32):q4v (u++32::r)=u::q4v r:=by
 induction u with
 | nil=>exact q4w r
 | cons c u ih=>
  have ih':=ih fun b hb=>h b (by simp [hb])
  rw [List.cons_append,q4x (h c (by simp)) ih']
theorem j8o (u:List UInt8) (h:∀ b∈u,b≠32):q4v u=[u]:=by
 induction u with
 | nil=>rfl
 | cons c u ih=>rw [q4x (h c (by simp)) (ih fun b hb=>h b (by simp [hb]))]
def q0k (s:List UInt8):List (List UInt8):=if s=[] then [] else q4v s
def q3k (s:ByteArray):Int:=q1h ((q0k (btL s)).map wbS)
def q1z (op:Int):Bool:=decide (op=2) || decide (op=3) || decide (op=7) || decide (op=9)
def q0l (x:Td):Int:=
 if x.op<1∨9<x.op then 1
 else if (x.op=1∧(x.n<0∨999999<x.n))∨((x.op=3∨x.op=4)∧(x.n<0∨6<x.n)) then 1
 else if (x.op≠1∧x.op≠3∧x.op≠4∧x.n≠0)∨(q1z x.op=false∧0<x.tx.size) then 2
 else if x.op=9 then q3k x.tx
 else if q1z x.op=true∧q1c x.tx=false then 5 else 0
def j4x:List Td→Int
 | []=>0
 | x::r=>if q0l x=0 then j4x r else q0l x
theorem k2t:∀ (ds:List Td),(∀ x∈ds,q0l x=0)→j4x ds=0
 | [],_=>rfl
 | x::r,h=>by rw [j4x,if_pos (h x (by simp)),k2t r fun y hy=>h y (by simp [hy])]
theorem z7t:∀ (ds:List Td),j4x ds=0→∀ x∈ds,q0l x=0
 | [],_=>by simp
 | x::r,h=>by
  rw [j4x] at h
  split at h
  ·rename_i h0
   intro y hy
   rcases List.mem_cons.1 hy with rfl | hy
   ·exact h0
   ·exact z7t r h y hy
  ·rename_i h0
   exact absurd h h0
theorem k9u:∀ (ds:List Td) (k:Nat) (h:k<ds.length),(∀ x∈ds.take k,q0l x=0)→q0l ds[k]≠0→j4x ds=q0l ds[k]
 | x::r,0,_,_,h=>by
  have h':q0l x≠0:=h
  rw [j4x,if_neg h'];rfl
 | x::r,k+1,hk,ha,h=>by
  rw [j4x,if_pos (ha x (by simp)),k9u r k (by simpa using hk) (fun y hy=>ha y (by simp [hy])) h]
  rfl
def j3k (ds:List Td):Bool:=match ds with
 | []=>true
 | x::r=>decide (7≤x.op) && r.all fun y=>decide (y.op<7)
def q0c (ds:List Td):Int:=
 if 40<ds.length then 3 else if j4x ds≠0 then j4x ds else if z0s ds 0 1=some ds.length∧j3k ds=true then 0 else 2
theorem q2i {ds:List Td} (h:q0c ds=0):ds.length≤40∧(∀ x∈ds,q0l x=0)∧z0s ds 0 1=some ds.length∧j3k ds=true:=by
 unfold q0c at h
 split at h
 ·cases h
 ·split at h
  ·rename_i h1;exact absurd h h1
  ·rename_i h0 h1
   split at h
   ·rename_i h2
    exact ⟨by omega,z7t ds (by omega),h2.1,h2.2⟩
   ·cases h
theorem v7q {x:Td} (h:q0l x=0):kdT x≤6:=by
 unfold q0l at h
 split at h
 ·cases h
 ·split at h
  ·cases h
  ·rename_i h1 h2
   unfold kdT
   split
   ·omega
   ·split
    ·omega
    ·split<;>omega
inductive Fo where
 | nil:Fo
 | cons (x:Td) (k n:Fo):Fo
def Fo.len:Fo→Nat
 | .nil=>0
 | .cons _ _ n=>n.len+1
def Fo.nodes:Fo→List Td
 | .nil=>[]
 | .cons x k n=>x::(k.nodes++n.nodes)
def Fo.ok:Fo→Prop
 | .nil=>True
 | .cons x k n=>k.len=kdT x∧k.ok∧n.ok
def Fo.app:Fo→Fo→Fo
 | .nil,g=>g
 | .cons x k n,g=>.cons x k (n.app g)
theorem v3c:∀ (l:Nat) (ds:List Td) (m k:Nat),ds.length≤l→k0b ds m=some k→∃ F:Fo,F.ok∧F.len=m∧F.nodes=ds.take k
 | l,ds,0,k,_,h=>by
  rw [q8b] at h
  cases h
  exact ⟨.nil,trivial,rfl,by simp [Fo.nodes]⟩
 | 0,ds,m+1,k,hl,h=>by
  have:ds=[]:=List.eq_nil_of_length_eq_zero (by omega)
  subst this
  rw [q6o] at h;cases h
 | l+1,[],m+1,k,hl,h=>by rw [q6o] at h;cases h
 | l+1,x::r,m+1,k,hl,h=>by
  rw [q4o,Option.map_eq_some_iff] at h
  obtain ⟨j,h1,rfl⟩:=h
  rw [k2i] at h1
  cases h2:k0b r (kdT x) with
  | none=>rw [h2] at h1;cases h1
  | some a=>
   rw [h2,Option.bind_some,Option.map_eq_some_iff] at h1
   obtain ⟨b,h3,rfl⟩:=h1
   obtain ⟨K,k1,k2,k3⟩:=v3c l r (kdT x) a (by simp at hl;omega) h2
   obtain ⟨N,n1,n2,n3⟩:=v3c l (r.drop a) m b (by simp at hl ⊢;omega) h3
   refine ⟨.cons x K N,⟨k2,k1,n1⟩,by simp [Fo.len,n2],?_⟩
   have ha:=(k8g _ _ _ h2).2
   rw [Fo.nodes,k3,n3,List.take_succ_cons,List.cons.injEq]
   refine ⟨rfl,?_⟩
   rw [List.take_add]
abbrev Wd:=List UInt8
def q4m (n:Nat):Wd:=if h:n≤9 then [UInt8.ofNat (48+n)] else q4m (n / 10)++[UInt8.ofNat (48+n % 10)]
termination_by n
decreasing_by omega
def j1q (w:Wd):Nat:=w.foldl (fun a c=>a*10+(c.toNat - 48)) 0
theorem z5e {n:Nat} (h:n≤9):(UInt8.ofNat (48+n)).toNat=48+n:=by
 rw [UInt8.toNat_ofNat']
 omega
theorem j7p (n:Nat):j1q (q4m n)=n:=by
 induction n using Nat.strongRecOn with
 | ind n ih=>
  rw [q4m]
  split
  ·rename_i h
   simp only [j1q,List.foldl_cons,List.foldl_nil,z5e h];omega
  ·rename_i h
   have h2:=ih (n / 10) (by omega)
   unfold j1q at h2 ⊢
   rw [List.foldl_append,h2]
   simp only [List.foldl_cons,List.foldl_nil,z5e (show n % 10≤9 by omega)]
   omega
theorem z5c (n:Nat):∀ c∈q4m n,q3w c=true:=by
 induction n using Nat.strongRecOn with
 | ind n ih=>
  have hd:∀ k,k≤9→q3w (UInt8.ofNat (48+k))=true:=fun k hk=>by
   simp only [q3w,z5e hk];simp;omega
  rw [q4m]
  split
  ·rename_i h
   intro c hc
   rw [List.mem_singleton] at hc
   rw [hc];exact hd n h
  ·rename_i h
   intro c hc
   rcases List.mem_append.1 hc with hc | hc
   ·exact ih (n / 10) (by omega) c hc
   ·rw [List.mem_singleton] at hc
    rw [hc];exact hd _ (by omega)
theorem k0e (n:Nat):q4m n≠[]:=by
 rw [q4m]
 split<;>simp
theorem q8d:∀ (k n:Nat),n<10 ^ (k+1)→(q4m n).length≤k+1
 | k,n,h=>by
  rw [q4m]
  split
  ·simp
  ·rename_i h9
   cases k with
   | zero=>simp at h;omega
   | succ k=>
    have:=q8d k (n / 10) (by rw [Nat.pow_succ] at h;omega)
    simp only [List.length_append,List.length_cons,List.length_nil];omega
theorem k8r (n:Nat) (h:0<n):∃ c z,q4m n=c::z∧c≠48:=by
 induction n using Nat.strongRecOn with
 | ind n ih=>
  rw [q4m]
  split
  ·rename_i h9
   refine ⟨_,[],rfl,fun e=>?_⟩
   have:=congrArg UInt8.toNat e
   rw [z5e h9] at this
   simp at this;omega
  ·obtain ⟨c,z,e,hc⟩:=ih (n / 10) (by omega) (by omega)
   exact ⟨c,z++[UInt8.ofNat (48+n % 10)],by rw [e];rfl,hc⟩
structure Tn where
 x:Td
 ns:List Td
 tk:List Wd
 tx:List UInt8
def prc (x:Td):Nat:=if x.op=5 then 0 else if x.op=6 then 1 else 2
def brk (l:Nat) (t:Tn):List Wd:=if prc t.x<l then [40]::(t.tk++[[41]]) else t.tk
def brx (l:Nat) (t:Tn):List UInt8:=if prc t.x<l then 40::(t.tx++[41]) else t.tx
def cmk:List Tn→List Wd
 | []=>[]
 | t::r=>t.tk++match r with
  | []=>[]
  | _::_=>[44]::cmk r
def cmx:List Tn→List UInt8
 | []=>[]
 | t::r=>t.tx++match r with
  | []=>[]
  | _::_=>44::32::cmx r
def two2 {α:Type} (f:Tn→Tn→List α):List Tn→List α
 | [a,b]=>f a b
 | _=>[]
def q9e (x:Td) (ks:List Tn):List Wd:=
 if x.op=1 then [q4m x.n.toNat]
 else if x.op=2 then [btL x.tx]
 else if x.op=3 then btL x.tx::[40]::(cmk ks++[[41]])
 else if x.op=4 then [91]::(cmk ks++[[93]])
 else if x.op=5 then two2 (fun a b=>brk 0 a++[43]::brk 1 b) ks
 else two2 (fun a b=>brk 1 a++[42]::brk 2 b) ks
def q2r (x:Td) (ks:List Tn):List UInt8:=
 if x.op=1 then q4m x.n.toNat
 else if x.op=2 then btL x.tx
 else if x.op=3 then btL x.tx++40::(cmx ks++[41])
 else if x.op=4 then 91::(cmx ks++[93])
 else if x.op=5 then two2 (fun a b=>brx 0 a++32::43::32::brx 1 b) ks
 else two2 (fun a b=>brx 1 a++32::42::32::brx 2 b) ks
def q0r (x:Td) (ks:List Tn):Tn:=⟨x,x::ks.flatMap (·.ns),q9e x ks,q2r x ks⟩
def Fo.trs:Fo→List Tn
 | .nil=>[]
 | .cons x k n=>q0r x k.trs::n.trs
theorem z0e:∀ F:Fo,F.trs.length=F.len
 | .nil=>rfl
 | .cons _ _ n=>by simp [Fo.trs,Fo.len,z0e n]
theorem q8z:∀ F:Fo,F.trs.flatMap (·.ns)=F.nodes
 | .nil=>rfl
 | .cons x k n=>by
  rw [Fo.trs,List.flatMap_cons,q8z n,q0r,q8z k]
  simp [Fo.nodes]
def exN (x:Td):Prop:=q0l x=0∧x.op<7
def Fo.exs (F:Fo):Prop:=∀ x∈F.nodes,exN x
theorem q3c {x:Td} (h:exN x):(x.op=1∧x.tx=⟨#[]⟩∧0≤x.n∧x.n≤999999∧kdT x=0)∨(x.op=2∧q1c x.tx=true∧x.n=0∧kdT x=0)
  ∨(x.op=3∧q1c x.tx=true∧0≤x.n∧x.n≤6∧kdT x=x.n.toNat)∨(x.op=4∧x.tx=⟨#[]⟩∧0≤x.n∧x.n≤6∧kdT x=x.n.toNat)
  ∨(x.op=5∧x.tx=⟨#[]⟩∧x.n=0∧kdT x=2)∨(x.op=6∧x.tx=⟨#[]⟩∧x.n=0∧kdT x=2):=by
 obtain ⟨h0,h7⟩:=h
 have hem:∀ s:ByteArray,¬ 0<s.size→s=⟨#[]⟩:=fun s hs=>by
  apply ByteArray.ext
  apply Array.toList_inj.1
  exact List.eq_nil_of_length_eq_zero (by have:=q0b s;simp only [btL] at this;omega)
 unfold q0l at h0
 split at h0
 ·cases h0
 ·rename_i h1
  split at h0
  ·cases h0
  ·rename_i h2
   split at h0
   ·cases h0
   ·rename_i h3
    have h9:¬ x.op=9:=by omega
    rw [if_neg h9] at h0
    split at h0
    ·cases h0
    ·rename_i h4
     have ho:x.op=1∨x.op=2∨x.op=3∨x.op=4∨x.op=5∨x.op=6:=by omega
     rcases ho with e | e | e | e | e | e
     ·refine .inl ⟨e,hem _ (fun hh=>h3 (.inr ⟨by rw [e];rfl,hh⟩)),by omega,by omega,by unfold kdT;rw [e];rfl⟩
     ·refine .inr (.inl ⟨e,?_,by omega,by unfold kdT;rw [e];rfl⟩)
      cases hn:q1c x.tx with
      | true=>rfl
      | false=>exact absurd ⟨by rw [e];rfl,hn⟩ h4
     ·refine .inr (.inr (.inl ⟨e,?_,by omega,by omega,by unfold kdT;rw [if_pos (.inl e)]⟩))
      cases hn:q1c x.tx with
      | true=>rfl
      | false=>exact absurd ⟨by rw [e];rfl,hn⟩ h4
     ·exact .inr (.inr (.inr (.inl ⟨e,hem _ (fun hh=>h3 (.inr ⟨by rw [e];rfl,hh⟩)),by omega,by omega,by unfold kdT;rw [if_pos (.inr e)]⟩)))
     ·exact .inr (.inr (.inr (.inr (.inl ⟨e,hem _ (fun hh=>h3 (.inr ⟨by rw [e];rfl,hh⟩)),by omega,by unfold kdT;rw [e];rfl⟩))))
     ·exact .inr (.inr (.inr (.inr (.inr ⟨e,hem _ (fun hh=>h3 (.inr ⟨by rw [e];rfl,hh⟩)),by omega,by unfold kdT;rw [e];rfl⟩))))
inductive Job where
 | level (k:Nat):Job
 | loop (k:Nat) (acc:List Td):Job
 | single:Job
 | args (e:Wd) (n:Nat) (acc:List Td):Job
inductive Rs where
 | ok (n:Nat) (ns:List Td) (rest:List Wd):Rs
 | bad (rest:List Wd):Rs
def sgn (k:Nat):Wd:=if k=0 then [43] else [42]
def sgT (k:Nat):Td:=⟨5+k,⟨#[]⟩,0⟩
def k1b (w:Wd):Bool:=q3w (w.headD 0)
def nmW (w:Wd):Bool:=q1c (wbS w)
def y0l (w:Wd):Td:=⟨1,⟨#[]⟩,(j1q w:Nat)⟩
def nmT (w:Wd):Td:=⟨2,wbS w,0⟩
def clT (w:Wd) (n:Nat):Td:=⟨3,wbS w,(n:Nat)⟩
def lsT (n:Nat):Td:=⟨4,⟨#[]⟩,(n:Nat)⟩
inductive PR:Job→List Wd→Rs→Prop where
 | lev2 {ts r}:PR .single ts r→PR (.level 2) ts r
 | levB {k ts u}:k<2→PR (.level (k+1)) ts (.bad u)→PR (.level k) ts (.bad u)
 | levO {k ts m ns u r}:k<2→PR (.level (k+1)) ts (.ok m ns u)→PR (.loop k ns) u r→PR (.level k) ts r
 | lopE {k acc ts}:ts.head?≠some (sgn k)→PR (.loop k acc) ts (.ok 0 acc ts)
 | lopB {k acc ts u}:PR (.level (k+1)) ts (.bad u)→PR (.loop k acc) (sgn k::ts) (.bad u)
 | lopO {k acc ts m ns u r}:PR (.level (k+1)) ts (.ok m ns u)→PR (.loop k (sgT k::(acc++ns))) u r→PR (.loop k acc) (sgn k::ts) r
 | sinN:PR .single [] (.bad [])
 | sPB {ts u}:PR (.level 0) ts (.bad u)→PR .single ([40]::ts) (.bad u)
 | sPC {ts m ns u}:PR (.level 0) ts (.ok m ns ([41]::u))→PR .single ([40]::ts) (.ok 0 ns u)
 | sPX {ts m ns u}:PR (.level 0) ts (.ok m ns u)→u.head?≠some [41]→PR .single ([40]::ts) (.bad u)
 | sLB {ts u}:PR (.args [93] 0 []) ts (.bad u)→PR .single ([91]::ts) (.bad u)
 | sLO {ts n ns u}:PR (.args [93] 0 []) ts (.ok n ns u)→PR .single ([91]::ts) (.ok 0 (lsT n::ns) u)
 | sNum {w ts}:k1b w=true→PR .single (w::ts) (.ok 0 [y0l w] ts)
 | sName {w ts}:nmW w=true→ts.head?≠some [40]→PR .single (w::ts) (.ok 0 [nmT w] ts)
 | sCB {w ts u}:nmW w=true→PR (.args [41] 0 []) ts (.bad u)→PR .single (w::[40]::ts) (.bad u)
 | sCO {w ts n ns u}:nmW w=true→PR (.args [41] 0 []) ts (.ok n ns u)→PR .single (w::[40]::ts) (.ok 0 (clT w n::ns) u)
 | sBad {w ts}:w≠[40]→w≠[91]→k1b w=false→nmW w=false→PR .single (w::ts) (.bad (w::ts))
 | aEnd {e n acc ts}:PR (.args e n acc) (e::ts) (.ok n acc ts)
 | aSep {e n acc ts}:ts.head?≠some e→ts.head?≠some [44]→PR (.args e (n+1) acc) ts (.bad ts)
 | aB0 {e acc ts u}:ts.head?≠some e→PR (.level 0) ts (.bad u)→PR (.args e 0 acc) ts (.bad u)
 | aO0 {e acc ts m ns u r}:ts.head?≠some e→PR (.level 0) ts (.ok m ns u)→PR (.args e 1 (acc++ns)) u r→PR (.args e 0 acc) ts r
 | aB {e n acc ts u}:e≠[44]→PR (.level 0) ts (.bad u)→PR (.args e (n+1) acc) ([44]::ts) (.bad u)
 | aO {e n acc ts m ns u r}:e≠[44]→PR (.level 0) ts (.ok m ns u)→PR (.args e (n+2) (acc++ns)) u r→PR (.args e (n+1) acc) ([44]::ts) r
theorem q4e {w:Wd} (h:k1b w=true):nmW w=false:=by
 cases hn:nmW w with
 | false=>rfl
 | true=>
  exfalso
  unfold nmW q1c at hn
  simp only [Bool.and_eq_true,List.all_eq_true,decide_eq_true_eq] at hn
  cases w with
  | nil=>simp [wbS,ByteArray.size] at hn
  | cons c z=>
   have h1:=hn.2 c (by show c∈(c::z);simp)
   have h2:q3w c=true:=h
   have:=k0j h2
   rw [h1] at this;cases this
theorem v8t:k1b [40]=false:=by decide
theorem v8u:k1b [91]=false:=by decide
theorem v4i:nmW [40]=false:=by decide
theorem v4j:nmW [91]=false:=by decide
theorem q2h {j:Job} {ts:List Wd} {r:Rs} (h:PR j ts r):∀ {r':Rs},PR j ts r'→r=r':=by
 have n40:=v8t
 have n91:=v8u
 have a40:=v4i
 have a91:=v4j
 induction h with
 | lev2 _ ih=>intro r' h';cases h' with
  | lev2 h2=>exact ih h2
  | levB h0=>omega
  | levO h0=>omega
 | levB h0 _ ih=>intro r' h';cases h' with
  | lev2 h2=>omega
  | levB _ h2=>exact ih h2
  | levO _ h2 _=>cases ih h2
 | levO h0 _ _ ih1 ih2=>intro r' h';cases h' with
  | lev2 h2=>omega
  | levB _ h2=>cases ih1 h2
  | levO _ h2 h3=>cases ih1 h2;exact ih2 h3
 | lopE h0=>intro r' h';cases h' with
  | lopE _=>rfl
  | lopB _=>simp at h0
  | lopO _ _=>simp at h0
 | lopB _ ih=>intro r' h';cases h' with
  | lopE h0=>simp at h0
  | lopB h2=>exact ih h2
  | lopO h2 _=>cases ih h2
 | lopO _ _ ih1 ih2=>intro r' h';cases h' with
  | lopE h0=>simp at h0
  | lopB h2=>cases ih1 h2
  | lopO h2 h3=>cases ih1 h2;exact ih2 h3
 | sinN=>intro r' h';cases h';rfl
 | sPB _ ih=>intro r' h';cases h' with
  | sPB h2=>exact ih h2
  | sPC h2=>cases ih h2
  | sPX h2 _=>cases ih h2
  | sNum h2=>rw [n40] at h2;cases h2
  | sName h2 _=>rw [a40] at h2;cases h2
  | sCB h2 _=>rw [a40] at h2;cases h2
  | sCO h2 _=>rw [a40] at h2;cases h2
  | sBad h2=>exact absurd rfl h2
 | sPC _ ih=>intro r' h';cases h' with
  | sPB h2=>cases ih h2
  | sPC h2=>cases ih h2;rfl
  | sPX h2 h3=>cases ih h2;simp at h3
  | sNum h2=>rw [n40] at h2;cases h2
  | sName h2 _=>rw [a40] at h2;cases h2
  | sCB h2 _=>rw [a40] at h2;cases h2
  | sCO h2 _=>rw [a40] at h2;cases h2
  | sBad h2=>exact absurd rfl h2
 | sPX _ h0 ih=>intro r' h';cases h' with
  | sPB h2=>cases ih h2
  | sPC h2=>cases ih h2;simp at h0
  | sPX h2 h3=>cases ih h2;rfl
  | sNum h2=>rw [n40] at h2;cases h2
  | sName h2 _=>rw [a40] at h2;cases h2
  | sCB h2 _=>rw [a40] at h2;cases h2
  | sCO h2 _=>rw [a40] at h2;cases h2
  | sBad h2=>exact absurd rfl h2
 | sLB _ ih=>intro r' h';cases h' with
  | sLB h2=>exact ih h2
  | sLO h2=>cases ih h2
  | sNum h2=>rw [n91] at h2;cases h2
  | sName h2 _=>rw [a91] at h2;cases h2
  | sCB h2 _=>rw [a91] at h2;cases h2
  | sCO h2 _=>rw [a91] at h2;cases h2
  | sBad _ h2=>exact absurd rfl h2
 | sLO _ ih=>intro r' h';cases h' with
  | sLB h2=>cases ih h2
  | sLO h2=>cases ih h2;rfl
  | sNum h2=>rw [n91] at h2;cases h2
  | sName h2 _=>rw [a91] at h2;cases h2
  | sCB h2 _=>rw [a91] at h2;cases h2
  | sCO h2 _=>rw [a91] at h2;cases h2
  | sBad _ h2=>exact absurd rfl h2
 | sNum h0=>
  have hn:=q4e h0
  intro r' h';cases h' with
  | sPB h2=>rw [n40] at h0;cases h0
  | sPC h2=>rw [n40] at h0;cases h0
  | sPX h2 h3=>rw [n40] at h0;cases h0
  | sLB h2=>rw [n91] at h0;cases h0
  | sLO h2=>rw [n91] at h0;cases h0
  | sNum h2=>rfl
  | sName h2 _=>rw [hn] at h2;cases h2
  | sCB h2 _=>rw [hn] at h2;cases h2
  | sCO h2 _=>rw [hn] at h2;cases h2
  | sBad _ _ h2=>rw [h0] at h2;cases h2
 | sName h0 h1=>
  intro r' h';cases h' with
  | sPB h2=>rw [a40] at h0;cases h0
  | sPC h2=>rw [a40] at h0;cases h0
  | sPX h2 h3=>rw [a40] at h0;cases h0
  | sLB h2=>rw [a91] at h0;cases h0
  | sLO h2=>rw [a91] at h0;cases h0
  | sNum h2=>rw [q4e h2] at h0;cases h0
  | sName h2 _=>rfl
  | sCB h2 _=>simp at h1
  | sCO h2 _=>simp at h1
  | sBad _ _ _ h2=>rw [h0] at h2;cases h2
 | sCB h0 _ ih=>
  intro r' h';cases h' with
  | sPB h2=>rw [a40] at h0;cases h0
  | sPC h2=>rw [a40] at h0;cases h0
  | sPX h2 h3=>rw [a40] at h0;cases h0
  | sLB h2=>rw [a91] at h0;cases h0
  | sLO h2=>rw [a91] at h0;cases h0
  | sNum h2=>rw [q4e h2] at h0;cases h0
  | sName _ h2=>simp at h2
  | sCB _ h2=>exact ih h2
  | sCO _ h2=>cases ih h2
  | sBad _ _ _ h2=>rw [h0] at h2;cases h2
 | sCO h0 _ ih=>
  intro r' h';cases h' with
  | sPB h2=>rw [a40] at h0;cases h0
  | sPC h2=>rw [a40] at h0;cases h0
  | sPX h2 h3=>rw [a40] at h0;cases h0
  | sLB h2=>rw [a91] at h0;cases h0
  | sLO h2=>rw [a91] at h0;cases h0
  | sNum h2=>rw [q4e h2] at h0;cases h0
  | sName _ h2=>simp at h2
  | sCB _ h2=>cases ih h2
  | sCO _ h2=>cases ih h2;rfl
  | sBad _ _ _ h2=>rw [h0] at h2;cases h2
 | sBad h0 h1 h3 h4=>
  intro r' h';cases h' with
  | sPB h2=>exact absurd rfl h0
  | sPC h2=>exact absurd rfl h0
  | sPX h2 _=>exact absurd rfl h0
  | sLB h2=>exact absurd rfl h1
  | sLO h2=>exact absurd rfl h1
  | sNum h2=>rw [h3] at h2;cases h2
  | sName h2 _=>rw [h4] at h2;cases h2
  | sCB h2 _=>rw [h4] at h2;cases h2
  | sCO h2 _=>rw [h4] at h2;cases h2
  | sBad _ _ _ h2=>rfl
 | aEnd=>
  intro r' h';cases h' with
  | aEnd=>rfl
  | aSep h2 _=>simp at h2
  | aB0 h2 _=>simp at h2
  | aO0 h2 _ _=>simp at h2
  | aB h2 _=>exact absurd rfl h2
  | aO h2 _ _=>exact absurd rfl h2
 | aSep h0 h1=>
  intro r' h';cases h' with
  | aEnd=>simp at h0
  | aSep h2 _=>rfl
  | aB h2 _=>simp at h1
  | aO h2 _ _=>simp at h1
 | aB0 h0 _ ih=>
  intro r' h';cases h' with
  | aEnd=>simp at h0
  | aB0 _ h2=>exact ih h2
  | aO0 _ h2 _=>cases ih h2
 | aO0 h0 _ _ ih1 ih2=>
  intro r' h';cases h' with
  | aEnd=>simp at h0
  | aB0 _ h2=>cases ih1 h2
  | aO0 _ h2 h3=>cases ih1 h2;exact ih2 h3
 | aB h0 _ ih=>
  intro r' h';cases h' with
  | aEnd=>exact absurd rfl h0
  | aSep _ h2=>simp at h2
  | aB _ h2=>exact ih h2
  | aO _ h2 _=>cases ih h2
 | aO h0 _ _ ih1 ih2=>
  intro r' h';cases h' with
  | aEnd=>exact absurd rfl h0
  | aSep _ h2=>simp at h2
  | aB _ h2=>cases ih1 h2
  | aO _ h2 h3=>cases ih1 h2;exact ih2 h3
def Rs.rest:Rs→List Wd
 | .ok _ _ u=>u
 | .bad u=>u
def Job.eats:Job→Nat
 | .level _=>1
 | .single=>1
 | _=>0
theorem q1y {α:Type} {u ts:List α} (w:α) (h:u <:+ ts):u <:+ w::ts:=h.trans (List.suffix_cons w ts)
theorem q8q {j:Job} {ts:List Wd} {r:Rs} (h:PR j ts r):r.rest <:+ ts∧∀ m ns u,r = .ok m ns u→u.length+j.eats≤ts.length:=by
 induction h with
 | lev2 _ ih=>exact ih
 | levB _ _ ih=>exact ⟨ih.1,fun _ _ _ e=>by cases e⟩
 | levO _ _ _ ih1 ih2=>
  have h1:=ih1.2 _ _ _ rfl
  refine ⟨ih2.1.trans ih1.1,fun m ns u e=>?_⟩
  have h2:=ih2.2 _ _ _ e
  simp only [Job.eats] at h1 h2 ⊢;omega
 | lopE _=>exact ⟨List.suffix_refl _,fun _ _ _ e=>by cases e;simp [Job.eats]⟩
 | lopB _ ih=>exact ⟨q1y _ ih.1,fun _ _ _ e=>by cases e⟩
 | lopO _ _ ih1 ih2=>
  have h1:=ih1.2 _ _ _ rfl
  refine ⟨q1y _ (ih2.1.trans ih1.1),fun m ns u e=>?_⟩
  have h2:=ih2.2 _ _ _ e
  simp only [Job.eats,List.length_cons] at h1 h2 ⊢;omega
 | sinN=>exact ⟨List.suffix_refl _,fun _ _ _ e=>by cases e⟩
 | sPB _ ih=>exact ⟨q1y _ ih.1,fun _ _ _ e=>by cases e⟩
 | sPC _ ih=>
  have h1:=ih.2 _ _ _ rfl
  refine ⟨q1y _ ((List.suffix_cons _ _).trans ih.1),fun m ns u e=>?_⟩
  cases e
  simp only [Job.eats,List.length_cons] at h1 ⊢;omega
 | sPX _ _ ih=>exact ⟨q1y _ ih.1,fun _ _ _ e=>by cases e⟩
 | sLB _ ih=>exact ⟨q1y _ ih.1,fun _ _ _ e=>by cases e⟩
 | sLO _ ih=>
  have h1:=ih.2 _ _ _ rfl
  refine ⟨q1y _ ih.1,fun m ns u e=>?_⟩
  cases e
  simp only [Job.eats,List.length_cons] at h1 ⊢;omega
 | sNum _=>exact ⟨List.suffix_cons _ _,fun _ _ _ e=>by cases e;simp [Job.eats]⟩
 | sName _ _=>exact ⟨List.suffix_cons _ _,fun _ _ _ e=>by cases e;simp [Job.eats]⟩
 | sCB _ _ ih=>exact ⟨q1y _ (q1y _ ih.1),fun _ _ _ e=>by cases e⟩
 | sCO _ _ ih=>
  have h1:=ih.2 _ _ _ rfl
  refine ⟨q1y _ (q1y _ ih.1),fun m ns u e=>?_⟩
  cases e
  simp only [Job.eats,List.length_cons] at h1 ⊢;omega
 | sBad _ _ _ _=>exact ⟨List.suffix_refl _,fun _ _ _ e=>by cases e⟩
 | aEnd=>exact ⟨List.suffix_cons _ _,fun _ _ _ e=>by cases e;simp [Job.eats]⟩
 | aSep _ _=>exact ⟨List.suffix_refl _,fun _ _ _ e=>by cases e⟩
 | aB0 _ _ ih=>exact ⟨ih.1,fun _ _ _ e=>by cases e⟩
 | aO0 _ _ _ ih1 ih2=>
  have h1:=ih1.2 _ _ _ rfl
  refine ⟨ih2.1.trans ih1.1,fun m ns u e=>?_⟩
  have h2:=ih2.2 _ _ _ e
  simp only [Job.eats] at h1 h2 ⊢;omega
 | aB _ _ ih=>exact ⟨q1y _ ih.1,fun _ _ _ e=>by cases e⟩
 | aO _ _ _ ih1 ih2=>
  have h1:=ih1.2 _ _ _ rfl
  refine ⟨q1y _ (ih2.1.trans ih1.1),fun m ns u e=>?_⟩
  have h2:=ih2.2 _ _ _ e
  simp only [Job.eats,List.length_cons] at h1 h2 ⊢;omega
end Go.Proofs.YtchdplceopegoaaGreatDoor
