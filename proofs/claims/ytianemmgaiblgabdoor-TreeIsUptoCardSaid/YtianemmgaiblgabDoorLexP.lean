/- Words of a program, plainly: where they begin and what they are; the first place that can be no word. -/
import Derived.Lib.Strings
namespace Go.Proofs.YtianemmgaiblgabDoor
open Go

def spB (c : UInt8) : Bool := c == 32 || c == 10
def lowB (c : UInt8) : Bool := decide (97 ≤ c.toNat) && decide (c.toNat ≤ 122)
def figB (c : UInt8) : Bool := decide (48 ≤ c.toNat) && decide (c.toNat ≤ 57)
def nlB (c : UInt8) : Bool := c != 10
def prB (c : UInt8) : Bool := decide (32 ≤ c.toNat) && decide (c.toNat ≤ 126)
def marks : List UInt8 := [40, 41, 91, 93, 44, 43, 42, 61, 59]
def mrkB (c : UInt8) : Bool := marks.any (· == c)

/-- How many bytes what begins here has. -/
def tkLen : List UInt8 → Nat
  | [] => 0
  | c :: r => if lowB c then (r.takeWhile lowB).length + 1 else if figB c then (r.takeWhile figB).length + 1 else if c == 35 then (r.takeWhile nlB).length + 1 else 1
/-- Whether it is a word. -/
def tkOk : List UInt8 → Bool
  | [] => false
  | c :: r => if lowB c then decide ((r.takeWhile lowB).length + 1 ≤ 8) else if figB c then decide ((r.takeWhile figB).length + 1 ≤ 6) && (c != 48 || (r.takeWhile figB).length == 0) else if c == 35 then (r.takeWhile nlB).all prB else mrkB c
/-- Without blanks at its end. -/
def trimE (w : List UInt8) : List UInt8 := (w.reverse.dropWhile (· == 32)).reverse
theorem trimE_blank (w : List UInt8) : trimE (w ++ [32]) = trimE w := by simp [trimE]
theorem trimE_other (w : List UInt8) {c : UInt8} (h : c ≠ 32) : trimE (w ++ [c]) = w ++ [c] := by simp [trimE, h]
theorem trimE_nil : trimE [] = [] := rfl
theorem dropWhile_len {α : Type} (p : α → Bool) : ∀ l : List α, (l.dropWhile p).length ≤ l.length
  | [] => Nat.le_refl _
  | a :: l => by
    rw [List.dropWhile_cons]
    split
    · have := dropWhile_len p l; simp; omega
    · exact Nat.le_refl _
theorem trimE_pre (w : List UInt8) : ∃ z, w = trimE w ++ z := by
  refine ⟨(w.reverse.takeWhile (· == 32)).reverse, ?_⟩
  rw [trimE, ← List.reverse_append, List.takeWhile_append_dropWhile, List.reverse_reverse]
theorem trimE_len (w : List UInt8) : (trimE w).length ≤ w.length := by
  obtain ⟨z, hz⟩ := trimE_pre w
  have := congrArg List.length hz
  rw [List.length_append] at this
  omega
theorem trimE_take (w : List UInt8) : w.take (trimE w).length = trimE w := by
  obtain ⟨z, hz⟩ := trimE_pre w
  have h2 : w.take (trimE w).length = (trimE w ++ z).take (trimE w).length := congrArg (List.take _) hz
  rw [h2, List.take_left]
theorem trimE_twice : ∀ (n : Nat) (w : List UInt8), w.length ≤ n → trimE (trimE w) = trimE w
  | n, w, h => by
    rcases List.eq_nil_or_concat w with rfl | ⟨v, c, rfl⟩
    · rfl
    · rw [List.concat_eq_append] at h ⊢
      by_cases hc : c = 32
      · subst hc
        rw [trimE_blank]
        match n, h with
        | 0, h => simp at h
        | n + 1, h => exact trimE_twice n v (by simp at h; omega)
      · rw [trimE_other v hc, trimE_other v hc]
theorem trimE_last (w : List UInt8) : trimE (trimE w) = trimE w := trimE_twice _ w (Nat.le_refl _)
theorem trimE_cons {c : UInt8} (h : c ≠ 32) (r : List UInt8) : ∃ z, trimE (c :: r) = c :: z := by
  obtain ⟨z, hz⟩ := trimE_pre (c :: r)
  cases ht : trimE (c :: r) with
  | nil =>
    exfalso
    have h1 : ∀ (l : List UInt8), l.dropWhile (· == 32) = [] → ∀ x ∈ l, x = 32 := by
      intro l
      induction l with
      | nil => intro _ x hx; cases hx
      | cons a l ih =>
        intro h2 x hx
        rw [List.dropWhile_cons] at h2
        by_cases ha : (a == 32) = true
        · rw [if_pos ha] at h2
          rcases List.mem_cons.1 hx with rfl | hx
          · exact beq_iff_eq.1 ha
          · exact ih h2 x hx
        · rw [if_neg ha] at h2; cases h2
    rw [trimE, List.reverse_eq_nil_iff] at ht
    exact h (h1 _ ht c (by simp))
  | cons a b =>
    rw [ht, List.cons_append, List.cons.injEq] at hz
    exact ⟨b, by rw [hz.1]⟩
/-- The word that begins here. -/
def tkW (s : List UInt8) : List UInt8 := trimE (s.take (tkLen s))

theorem tkLen_pos (c : UInt8) (r : List UInt8) : 1 ≤ tkLen (c :: r) := by
  simp only [tkLen]
  split
  · omega
  · split
    · omega
    · split <;> omega
theorem tw_len {α : Type} (p : α → Bool) (l : List α) : (l.takeWhile p).length ≤ l.length := by
  induction l with
  | nil => simp
  | cons a l ih =>
    rw [List.takeWhile_cons]
    split
    · simp; omega
    · simp
theorem tkLen_le (s : List UInt8) : tkLen s ≤ s.length := by
  cases s with
  | nil => simp [tkLen]
  | cons c r =>
    have h1 := tw_len lowB r
    have h2 := tw_len figB r
    have h3 := tw_len nlB r
    simp only [tkLen, List.length_cons]
    split
    · omega
    · split
      · omega
      · split <;> omega

/-- All words from a place on, and the first place that can be no word. -/
def lx (s : List UInt8) (i : Nat) : List (Nat × List UInt8) × Option Nat :=
  match s with
  | [] => ([], none)
  | c :: r =>
    if spB c then lx r (i + 1)
    else if tkOk (c :: r) then ((i, tkW (c :: r)) :: (lx ((c :: r).drop (tkLen (c :: r))) (i + tkLen (c :: r))).1, (lx ((c :: r).drop (tkLen (c :: r))) (i + tkLen (c :: r))).2)
    else ([], some i)
termination_by s.length
decreasing_by
  all_goals first
    | (have := tkLen_pos c r; simp only [List.length_drop, List.length_cons]; omega)
    | (simp only [List.length_cons]; omega)
def lxW (s : List UInt8) (i : Nat) : List (Nat × List UInt8) := (lx s i).1
def lxF (s : List UInt8) (i : Nat) : Option Nat := (lx s i).2
theorem lx_nil (i : Nat) : lx [] i = ([], none) := by rw [lx]
theorem lx_sp {c : UInt8} (r : List UInt8) (i : Nat) (h : spB c = true) : lx (c :: r) i = lx r (i + 1) := by rw [lx, if_pos h]
theorem lx_tok {c : UInt8} {r : List UInt8} (i : Nat) (h : spB c = false) (ho : tkOk (c :: r) = true) :
    lx (c :: r) i = ((i, tkW (c :: r)) :: lxW ((c :: r).drop (tkLen (c :: r))) (i + tkLen (c :: r)), lxF ((c :: r).drop (tkLen (c :: r))) (i + tkLen (c :: r))) := by
  rw [lx, if_neg (by simp [h]), if_pos ho]; rfl
theorem lx_bad {c : UInt8} {r : List UInt8} (i : Nat) (h : spB c = false) (ho : tkOk (c :: r) = false) : lx (c :: r) i = ([], some i) := by
  rw [lx, if_neg (by simp [h]), if_neg (by simp [ho])]

/-- Words further behind. -/
def shiftW (d : Nat) (l : List (Nat × List UInt8)) : List (Nat × List UInt8) := l.map fun x => (x.1 + d, x.2)
theorem lx_shift (d : Nat) : ∀ (n : Nat) (s : List UInt8) (i : Nat), s.length ≤ n → lx s (i + d) = (shiftW d (lxW s i), (lxF s i).map (· + d))
  | 0, s, i, h => by
    have : s = [] := List.eq_nil_of_length_eq_zero (by omega)
    subst this
    rw [lxW, lxF, lx_nil, lx_nil]; rfl
  | n + 1, s, i, h => by
    cases s with
    | nil => rw [lxW, lxF, lx_nil, lx_nil]; rfl
    | cons c r =>
      cases hs : spB c with
      | true =>
        have ih := lx_shift d n r (i + 1) (by simp at h; omega)
        rw [lxW, lxF, lx_sp r i hs, lx_sp r (i + d) hs, Nat.add_right_comm i d 1, ih]; rfl
      | false =>
        cases ho : tkOk (c :: r) with
        | true =>
          have hp := tkLen_pos c r
          have ih := lx_shift d n ((c :: r).drop (tkLen (c :: r))) (i + tkLen (c :: r)) (by simp only [List.length_drop, List.length_cons] at h ⊢; omega)
          rw [lxW, lxF, lx_tok i hs ho, lx_tok (i + d) hs ho, Nat.add_right_comm i d]
          simp only [lxW, lxF, ih] at ih ⊢
          rfl
        | false => rw [lxW, lxF, lx_bad i hs ho, lx_bad (i + d) hs ho]; rfl

theorem tw_stop {p : UInt8 → Bool} {x : UInt8} (h : p x = false) (t : List UInt8) : ∀ r : List UInt8, (r ++ x :: t).takeWhile p = r.takeWhile p
  | [] => by rw [List.nil_append, List.takeWhile_cons, if_neg (by simp [h])]; rfl
  | a :: r => by
    rw [List.cons_append, List.takeWhile_cons, List.takeWhile_cons, tw_stop h t r]
theorem tk_app (c : UInt8) (r t : List UInt8) : tkLen (c :: r ++ 10 :: t) = tkLen (c :: r) ∧ tkOk (c :: r ++ 10 :: t) = tkOk (c :: r) := by
  have h1 := tw_stop (p := lowB) (x := 10) rfl t r
  have h2 := tw_stop (p := figB) (x := 10) rfl t r
  have h3 := tw_stop (p := nlB) (x := 10) rfl t r
  simp only [List.cons_append, tkLen, tkOk, h1, h2, h3, and_self]
/-- A text, a new line, a text: the words of both. -/
theorem lx_app (t : List UInt8) : ∀ (n : Nat) (s : List UInt8) (i : Nat), s.length ≤ n → lxF s i = none → lx (s ++ 10 :: t) i = (lxW s i ++ lxW t (i + s.length + 1), lxF t (i + s.length + 1))
  | 0, s, i, h, _ => by
    have : s = [] := List.eq_nil_of_length_eq_zero (by omega)
    subst this
    rw [List.nil_append, lx_sp t i rfl, lxW, lx_nil]; rfl
  | n + 1, s, i, h, hf => by
    cases s with
    | nil => rw [List.nil_append, lx_sp t i rfl, lxW, lx_nil]; rfl
    | cons c r =>
      cases hs : spB c with
      | true =>
        have hf' : lxF r (i + 1) = none := by rw [← hf, lxF, lxF, lx_sp r i hs]
        have ih := lx_app t n r (i + 1) (by simp at h; omega) hf'
        rw [List.cons_append, lx_sp _ i hs, ih]
        have e : i + 1 + r.length + 1 = i + (c :: r).length + 1 := by simp; omega
        have e2 : lxW (c :: r) i = lxW r (i + 1) := by rw [lxW, lxW, lx_sp r i hs]
        rw [e, e2]
      | false =>
        cases ho : tkOk (c :: r) with
        | false => rw [lxF, lx_bad i hs ho] at hf; cases hf
        | true =>
          have hp := tkLen_pos c r
          have hle := tkLen_le (c :: r)
          obtain ⟨e1, e2⟩ := tk_app c r t
          rw [lxF, lx_tok i hs ho] at hf
          have ih := lx_app t n ((c :: r).drop (tkLen (c :: r))) (i + tkLen (c :: r)) (by simp only [List.length_drop, List.length_cons] at h ⊢; omega) hf
          rw [List.cons_append] at e1 e2
          have ho2 : tkOk (c :: (r ++ 10 :: t)) = true := by rw [e2]; exact ho
          have ed : (c :: (r ++ 10 :: t)).drop (tkLen (c :: (r ++ 10 :: t))) = (c :: r).drop (tkLen (c :: r)) ++ 10 :: t := by
            rw [e1, ← List.cons_append, List.drop_append_of_le_length hle]
          have ew : tkW (c :: (r ++ 10 :: t)) = tkW (c :: r) := by
            rw [tkW, tkW, e1, ← List.cons_append, List.take_append_of_le_length hle]
          have el : i + tkLen (c :: r) + ((c :: r).drop (tkLen (c :: r))).length + 1 = i + (c :: r).length + 1 := by
            simp only [List.length_drop]; omega
          rw [List.cons_append, lx_tok i hs ho2, ed, e1, ew]
          rw [el] at ih
          simp only [lxW, lxF, ih]
          rw [lx_tok i hs ho]
          rfl

/-- A word by itself. -/
def isTok (w : List UInt8) : Prop := ∃ c r, w = c :: r ∧ spB c = false ∧ tkOk (c :: r) = true ∧ tkLen (c :: r) = (c :: r).length ∧ trimE (c :: r) = c :: r
theorem tw_take {p : UInt8 → Bool} : ∀ (r : List UInt8) (k : Nat), k ≤ (r.takeWhile p).length → (r.take k).takeWhile p = r.take k
  | _, 0, _ => by simp
  | [], k + 1, h => by simp at h
  | a :: r, k + 1, h => by
    rw [List.takeWhile_cons] at h
    by_cases ha : p a = true
    · rw [if_pos ha] at h
      rw [List.take_succ_cons, List.takeWhile_cons, if_pos ha, tw_take r k (by simp at h; omega)]
    · rw [if_neg ha] at h; simp at h
theorem tw_is {p : UInt8 → Bool} (r : List UInt8) : r.take (r.takeWhile p).length = r.takeWhile p := by
  have := tw_take (p := p) r (r.takeWhile p).length (Nat.le_refl _)
  induction r with
  | nil => rfl
  | cons a r ih =>
    rw [List.takeWhile_cons]
    split
    · rw [List.length_cons, List.take_succ_cons, ih (tw_take r _ (Nat.le_refl _))]
    · rfl
theorem all_take {p : UInt8 → Bool} {l : List UInt8} (h : l.all p = true) (k : Nat) : (l.take k).all p = true := by
  rw [List.all_eq_true] at h ⊢
  exact fun x hx => h x (List.mem_of_mem_take hx)
theorem tw_no {p : UInt8 → Bool} {l : List UInt8} (h : ∀ x, p x = true → x ≠ 32) : trimE (l.takeWhile p) = l.takeWhile p := by
  rcases List.eq_nil_or_concat (l.takeWhile p) with e | ⟨v, c, e⟩
  · rw [e]; rfl
  · rw [e, List.concat_eq_append]
    refine trimE_other v (h c ?_)
    have hm : c ∈ l.takeWhile p := by rw [e]; simp
    have hall : ∀ (l : List UInt8) x, x ∈ l.takeWhile p → p x = true := by
      intro l
      induction l with
      | nil => intro x hx; cases hx
      | cons a l ih =>
        intro x hx
        rw [List.takeWhile_cons] at hx
        by_cases ha : p a = true
        · rw [if_pos ha] at hx
          rcases List.mem_cons.1 hx with rfl | hx
          · exact ha
          · exact ih x hx
        · rw [if_neg ha] at hx; cases hx
    exact hall l c hm
end Go.Proofs.YtianemmgaiblgabDoor
