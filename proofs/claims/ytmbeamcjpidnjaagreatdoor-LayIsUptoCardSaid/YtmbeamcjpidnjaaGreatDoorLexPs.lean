/- Some texts as one: LexP, LexQ, LexB. -/
import Derived.Lib.Strings
namespace Go.Proofs.YtmbeamcjpidnjaaGreatDoor
open Go

def spB (c : UInt8) : Bool := c == 32 || c == 10
def lowB (c : UInt8) : Bool := decide (97 ≤ c.toNat) && decide (c.toNat ≤ 122)
def figB (c : UInt8) : Bool := decide (48 ≤ c.toNat) && decide (c.toNat ≤ 57)
def nlB (c : UInt8) : Bool := c != 10
def prB (c : UInt8) : Bool := decide (32 ≤ c.toNat) && decide (c.toNat ≤ 126)
def marks : List UInt8 := [40, 41, 91, 93, 44, 43, 42, 61, 59]
def mrkB (c : UInt8) : Bool := marks.any (· == c)

/-- How many bytes what begins here has. -/
def tkLen : List UInt8 → Nat
  | [] => 0
  | c :: r => if lowB c then (r.takeWhile lowB).length + 1 else if figB c then (r.takeWhile figB).length + 1 else if c == 35 then (r.takeWhile nlB).length + 1 else 1
/-- Whether it is a word. -/
def tkOk : List UInt8 → Bool
  | [] => false
  | c :: r => if lowB c then decide ((r.takeWhile lowB).length + 1 ≤ 8) else if figB c then decide ((r.takeWhile figB).length + 1 ≤ 6) && (c != 48 || (r.takeWhile figB).length == 0) else if c == 35 then (r.takeWhile nlB).all prB else mrkB c
/-- Without blanks at its end. -/
def trimE (w : List UInt8) : List UInt8 := (w.reverse.dropWhile (· == 32)).reverse
theorem trimE_blank (w : List UInt8) : trimE (w ++ [32]) = trimE w := by simp [trimE]
theorem trimE_other (w : List UInt8) {c : UInt8} (h : c ≠ 32) : trimE (w ++ [c]) = w ++ [c] := by simp [trimE, h]
theorem trimE_nil : trimE [] = [] := rfl
theorem dropWhile_len {α : Type} (p : α → Bool) : ∀ l : List α, (l.dropWhile p).length ≤ l.length
  | [] => Nat.le_refl _
  | a :: l => by
    rw [List.dropWhile_cons]
    split
    · have := dropWhile_len p l; simp; omega
    · exact Nat.le_refl _
theorem trimE_pre (w : List UInt8) : ∃ z, w = trimE w ++ z := by
  refine ⟨(w.reverse.takeWhile (· == 32)).reverse, ?_⟩
  rw [trimE, ← List.reverse_append, List.takeWhile_append_dropWhile, List.reverse_reverse]
theorem trimE_len (w : List UInt8) : (trimE w).length ≤ w.length := by
  obtain ⟨z, hz⟩ := trimE_pre w
  have := congrArg List.length hz
  rw [List.length_append] at this
  omega
theorem trimE_take (w : List UInt8) : w.take (trimE w).length = trimE w := by
  obtain ⟨z, hz⟩ := trimE_pre w
  have h2 : w.take (trimE w).length = (trimE w ++ z).take (trimE w).length := congrArg (List.take _) hz
  rw [h2, List.take_left]
theorem trimE_twice : ∀ (n : Nat) (w : List UInt8), w.length ≤ n → trimE (trimE w) = trimE w
  | n, w, h => by
    rcases List.eq_nil_or_concat w with rfl | ⟨v, c, rfl⟩
    · rfl
    · rw [List.concat_eq_append] at h ⊢
      by_cases hc : c = 32
      · subst hc
        rw [trimE_blank]
        match n, h with
        | 0, h => simp at h
        | n + 1, h => exact trimE_twice n v (by simp at h; omega)
      · rw [trimE_other v hc, trimE_other v hc]
theorem trimE_last (w : List UInt8) : trimE (trimE w) = trimE w := trimE_twice _ w (Nat.le_refl _)
theorem trimE_cons {c : UInt8} (h : c ≠ 32) (r : List UInt8) : ∃ z, trimE (c :: r) = c :: z := by
  obtain ⟨z, hz⟩ := trimE_pre (c :: r)
  cases ht : trimE (c :: r) with
  | nil =>
    exfalso
    have h1 : ∀ (l : List UInt8), l.dropWhile (· == 32) = [] → ∀ x ∈ l, x = 32 := by
      intro l
      induction l with
      | nil => intro _ x hx; cases hx
      | cons a l ih =>
        intro h2 x hx
        rw [List.dropWhile_cons] at h2
        by_cases ha : (a == 32) = true
        · rw [if_pos ha] at h2
          rcases List.mem_cons.1 hx with rfl | hx
          · exact beq_iff_eq.1 ha
          · exact ih h2 x hx
        · rw [if_neg ha] at h2; cases h2
    rw [trimE, List.reverse_eq_nil_iff] at ht
    exact h (h1 _ ht c (by simp))
  | cons a b =>
    rw [ht, List.cons_append, List.cons.injEq] at hz
    exact ⟨b, by rw [hz.1]⟩
/-- The word that begins here. -/
def tkW (s : List UInt8) : List UInt8 := trimE (s.take (tkLen s))

theorem tkLen_pos (c : UInt8) (r : List UInt8) : 1 ≤ tkLen (c :: r) := by
  simp only [tkLen]
  split
  · omega
  · split
    · omega
    · split <;> omega
theorem tw_len {α : Type} (p : α → Bool) (l : List α) : (l.takeWhile p).length ≤ l.length := by
  induction l with
  | nil => simp
  | cons a l ih =>
    rw [List.takeWhile_cons]
    split
    · simp; omega
    · simp
theorem tkLen_le (s : List UInt8) : tkLen s ≤ s.length := by
  cases s with
  | nil => simp [tkLen]
  | cons c r =>
    have h1 := tw_len lowB r
    have h2 := tw_len figB r
    have h3 := tw_len nlB r
    simp only [tkLen, List.length_cons]
    split
    · omega
    · split
      · omega
      · split <;> omega

/-- All words from a place on, and the first place that can be no word. -/
def lx (s : List UInt8) (i : Nat) : List (Nat × List UInt8) × Option Nat :=
  match s with
  | [] => ([], none)
  | c :: r =>
    if spB c then lx r (i + 1)
    else if tkOk (c :: r) then ((i, tkW (c :: r)) :: (lx ((c :: r).drop (tkLen (c :: r))) (i + tkLen (c :: r))).1, (lx ((c :: r).drop (tkLen (c :: r))) (i + tkLen (c :: r))).2)
    else ([], some i)
termination_by s.length
decreasing_by
  all_goals first
    | (have := tkLen_pos c r; simp only [List.length_drop, List.length_cons]; omega)
    | (simp only [List.length_cons]; omega)
def lxW (s : List UInt8) (i : Nat) : List (Nat × List UInt8) := (lx s i).1
def lxF (s : List UInt8) (i : Nat) : Option Nat := (lx s i).2
theorem lx_nil (i : Nat) : lx [] i = ([], none) := by rw [lx]
theorem lx_sp {c : UInt8} (r : List UInt8) (i : Nat) (h : spB c = true) : lx (c :: r) i = lx r (i + 1) := by rw [lx, if_pos h]
theorem lx_tok {c : UInt8} {r : List UInt8} (i : Nat) (h : spB c = false) (ho : tkOk (c :: r) = true) :
    lx (c :: r) i = ((i, tkW (c :: r)) :: lxW ((c :: r).drop (tkLen (c :: r))) (i + tkLen (c :: r)), lxF ((c :: r).drop (tkLen (c :: r))) (i + tkLen (c :: r))) := by
  rw [lx, if_neg (by simp [h]), if_pos ho]; rfl
theorem lx_bad {c : UInt8} {r : List UInt8} (i : Nat) (h : spB c = false) (ho : tkOk (c :: r) = false) : lx (c :: r) i = ([], some i) := by
  rw [lx, if_neg (by simp [h]), if_neg (by simp [ho])]

/-- Words further behind. -/
def shiftW (d : Nat) (l : List (Nat × List UInt8)) : List (Nat × List UInt8) := l.map fun x => (x.1 + d, x.2)
theorem lx_shift (d : Nat) : ∀ (n : Nat) (s : List UInt8) (i : Nat), s.length ≤ n → lx s (i + d) = (shiftW d (lxW s i), (lxF s i).map (· + d))
  | 0, s, i, h => by
    have : s = [] := List.eq_nil_of_length_eq_zero (by omega)
    subst this
    rw [lxW, lxF, lx_nil, lx_nil]; rfl
  | n + 1, s, i, h => by
    cases s with
    | nil => rw [lxW, lxF, lx_nil, lx_nil]; rfl
    | cons c r =>
      cases hs : spB c with
      | true =>
        have ih := lx_shift d n r (i + 1) (by simp at h; omega)
        rw [lxW, lxF, lx_sp r i hs, lx_sp r (i + d) hs, Nat.add_right_comm i d 1, ih]; rfl
      | false =>
        cases ho : tkOk (c :: r) with
        | true =>
          have hp := tkLen_pos c r
          have ih := lx_shift d n ((c :: r).drop (tkLen (c :: r))) (i + tkLen (c :: r)) (by simp only [List.length_drop, List.length_cons] at h ⊢; omega)
          rw [lxW, lxF, lx_tok i hs ho, lx_tok (i + d) hs ho, Nat.add_right_comm i d]
          simp only [lxW, lxF, ih] at ih ⊢
          rfl
        | false => rw [lxW, lxF, lx_bad i hs ho, lx_bad (i + d) hs ho]; rfl

theorem tw_stop {p : UInt8 → Bool} {x : UInt8} (h : p x = false) (t : List UInt8) : ∀ r : List UInt8, (r ++ x :: t).takeWhile p = r.takeWhile p
  | [] => by rw [List.nil_append, List.takeWhile_cons, if_neg (by simp [h])]; rfl
  | a :: r => by
    rw [List.cons_append, List.takeWhile_cons, List.takeWhile_cons, tw_stop h t r]
theorem tk_app (c : UInt8) (r t : List UInt8) : tkLen (c :: r ++ 10 :: t) = tkLen (c :: r) ∧ tkOk (c :: r ++ 10 :: t) = tkOk (c :: r) := by
  have h1 := tw_stop (p := lowB) (x := 10) rfl t r
  have h2 := tw_stop (p := figB) (x := 10) rfl t r
  have h3 := tw_stop (p := nlB) (x := 10) rfl t r
  simp only [List.cons_append, tkLen, tkOk, h1, h2, h3, and_self]
/-- A text, a new line, a text: the words of both. -/
theorem lx_app (t : List UInt8) : ∀ (n : Nat) (s : List UInt8) (i : Nat), s.length ≤ n → lxF s i = none → lx (s ++ 10 :: t) i = (lxW s i ++ lxW t (i + s.length + 1), lxF t (i + s.length + 1))
  | 0, s, i, h, _ => by
    have : s = [] := List.eq_nil_of_length_eq_zero (by omega)
    subst this
    rw [List.nil_append, lx_sp t i rfl, lxW, lx_nil]; rfl
  | n + 1, s, i, h, hf => by
    cases s with
    | nil => rw [List.nil_append, lx_sp t i rfl, lxW, lx_nil]; rfl
    | cons c r =>
      cases hs : spB c with
      | true =>
        have hf' : lxF r (i + 1) = none := by rw [← hf, lxF, lxF, lx_sp r i hs]
        have ih := lx_app t n r (i + 1) (by simp at h; omega) hf'
        rw [List.cons_append, lx_sp _ i hs, ih]
        have e : i + 1 + r.length + 1 = i + (c :: r).length + 1 := by simp; omega
        have e2 : lxW (c :: r) i = lxW r (i + 1) := by rw [lxW, lxW, lx_sp r i hs]
        rw [e, e2]
      | false =>
        cases ho : tkOk (c :: r) with
        | false => rw [lxF, lx_bad i hs ho] at hf; cases hf
        | true =>
          have hp := tkLen_pos c r
          have hle := tkLen_le (c :: r)
          obtain ⟨e1, e2⟩ := tk_app c r t
          rw [lxF, lx_tok i hs ho] at hf
          have ih := lx_app t n ((c :: r).drop (tkLen (c :: r))) (i + tkLen (c :: r)) (by simp only [List.length_drop, List.length_cons] at h ⊢; omega) hf
          rw [List.cons_append] at e1 e2
          have ho2 : tkOk (c :: (r ++ 10 :: t)) = true := by rw [e2]; exact ho
          have ed : (c :: (r ++ 10 :: t)).drop (tkLen (c :: (r ++ 10 :: t))) = (c :: r).drop (tkLen (c :: r)) ++ 10 :: t := by
            rw [e1, ← List.cons_append, List.drop_append_of_le_length hle]
          have ew : tkW (c :: (r ++ 10 :: t)) = tkW (c :: r) := by
            rw [tkW, tkW, e1, ← List.cons_append, List.take_append_of_le_length hle]
          have el : i + tkLen (c :: r) + ((c :: r).drop (tkLen (c :: r))).length + 1 = i + (c :: r).length + 1 := by
            simp only [List.length_drop]; omega
          rw [List.cons_append, lx_tok i hs ho2, ed, e1, ew]
          rw [el] at ih
          simp only [lxW, lxF, ih]
          rw [lx_tok i hs ho]
          rfl

/-- A word by itself. -/
def isTok (w : List UInt8) : Prop := ∃ c r, w = c :: r ∧ spB c = false ∧ tkOk (c :: r) = true ∧ tkLen (c :: r) = (c :: r).length ∧ trimE (c :: r) = c :: r
theorem tw_take {p : UInt8 → Bool} : ∀ (r : List UInt8) (k : Nat), k ≤ (r.takeWhile p).length → (r.take k).takeWhile p = r.take k
  | _, 0, _ => by simp
  | [], k + 1, h => by simp at h
  | a :: r, k + 1, h => by
    rw [List.takeWhile_cons] at h
    by_cases ha : p a = true
    · rw [if_pos ha] at h
      rw [List.take_succ_cons, List.takeWhile_cons, if_pos ha, tw_take r k (by simp at h; omega)]
    · rw [if_neg ha] at h; simp at h
theorem tw_is {p : UInt8 → Bool} (r : List UInt8) : r.take (r.takeWhile p).length = r.takeWhile p := by
  have := tw_take (p := p) r (r.takeWhile p).length (Nat.le_refl _)
  induction r with
  | nil => rfl
  | cons a r ih =>
    rw [List.takeWhile_cons]
    split
    · rw [List.length_cons, List.take_succ_cons, ih (tw_take r _ (Nat.le_refl _))]
    · rfl
theorem all_take {p : UInt8 → Bool} {l : List UInt8} (h : l.all p = true) (k : Nat) : (l.take k).all p = true := by
  rw [List.all_eq_true] at h ⊢
  exact fun x hx => h x (List.mem_of_mem_take hx)
theorem tw_no {p : UInt8 → Bool} {l : List UInt8} (h : ∀ x, p x = true → x ≠ 32) : trimE (l.takeWhile p) = l.takeWhile p := by
  rcases List.eq_nil_or_concat (l.takeWhile p) with e | ⟨v, c, e⟩
  · rw [e]; rfl
  · rw [e, List.concat_eq_append]
    refine trimE_other v (h c ?_)
    have hm : c ∈ l.takeWhile p := by rw [e]; simp
    have hall : ∀ (l : List UInt8) x, x ∈ l.takeWhile p → p x = true := by
      intro l
      induction l with
      | nil => intro x hx; cases hx
      | cons a l ih =>
        intro x hx
        rw [List.takeWhile_cons] at hx
        by_cases ha : p a = true
        · rw [if_pos ha] at hx
          rcases List.mem_cons.1 hx with rfl | hx
          · exact ha
          · exact ih x hx
        · rw [if_neg ha] at hx; cases hx
    exact hall l c hm
end Go.Proofs.YtmbeamcjpidnjaaGreatDoor
namespace Go.Proofs.YtmbeamcjpidnjaaGreatDoor
open Go

theorem low_ne {x : UInt8} (h : lowB x = true) : x ≠ 32 := by
  rintro rfl; revert h; decide
theorem fig_ne {x : UInt8} (h : figB x = true) : x ≠ 32 := by
  rintro rfl; revert h; decide
theorem fig_low {x : UInt8} (h : figB x = true) : lowB x = false := by
  simp only [figB, lowB, Bool.and_eq_true, decide_eq_true_eq, Bool.and_eq_false_iff, decide_eq_false_iff_not] at h ⊢
  omega
theorem trimE_tw {p : UInt8 → Bool} (h : ∀ x, p x = true → x ≠ 32) (c : UInt8) (hc : p c = true) (r : List UInt8) : trimE (c :: r.takeWhile p) = c :: r.takeWhile p := by
  have := tw_no (p := p) (l := c :: r) h
  rw [List.takeWhile_cons, if_pos hc] at this
  exact this
theorem tw_tw (p : UInt8 → Bool) (r : List UInt8) : (r.takeWhile p).takeWhile p = r.takeWhile p := by
  have := tw_take (p := p) r (r.takeWhile p).length (Nat.le_refl _)
  rw [tw_is] at this
  exact this
theorem tw_len_tw (p : UInt8 → Bool) (r : List UInt8) : ((r.takeWhile p).takeWhile p).length = (r.takeWhile p).length := by rw [tw_tw]
theorem sp_ne {c : UInt8} (h : spB c = false) : c ≠ 32 := by
  rintro rfl; revert h; decide
/-- The word that begins at a word's first byte is a word by itself. -/
theorem tkW_is {c : UInt8} {r : List UInt8} (hs : spB c = false) (ho : tkOk (c :: r) = true) : isTok (tkW (c :: r)) := by
  cases hl : lowB c with
  | true =>
    have e : tkW (c :: r) = c :: r.takeWhile lowB := by
      simp only [tkW, tkLen, hl, if_true, List.take_succ_cons, tw_is]
      exact trimE_tw (fun _ => low_ne) c hl r
    refine ⟨c, r.takeWhile lowB, e, hs, ?_, ?_, trimE_tw (fun _ => low_ne) c hl r⟩
    · simp only [tkOk, hl, if_true, tw_tw] at ho ⊢; exact ho
    · simp only [tkLen, hl, if_true, tw_tw, List.length_cons]
  | false =>
    cases hf : figB c with
    | true =>
      have e : tkW (c :: r) = c :: r.takeWhile figB := by
        simp only [tkW, tkLen, hl, hf, if_true, Bool.false_eq_true, if_false, List.take_succ_cons, tw_is]
        exact trimE_tw (fun _ => fig_ne) c hf r
      refine ⟨c, r.takeWhile figB, e, hs, ?_, ?_, trimE_tw (fun _ => fig_ne) c hf r⟩
      · simp only [tkOk, hl, hf, if_true, Bool.false_eq_true, if_false, tw_tw] at ho ⊢; exact ho
      · simp only [tkLen, hl, hf, if_true, Bool.false_eq_true, if_false, tw_tw, List.length_cons]
    | false =>
      cases hn : (c == 35) with
      | true =>
        have e : tkW (c :: r) = trimE (c :: r.takeWhile nlB) := by
          simp only [tkW, tkLen, hl, hf, hn, if_true, Bool.false_eq_true, if_false, List.take_succ_cons, tw_is]
        obtain ⟨z, hz⟩ := trimE_cons (sp_ne hs) (r.takeWhile nlB)
        have hzt : z = (r.takeWhile nlB).take z.length := by
          have := trimE_take (c :: r.takeWhile nlB)
          rw [hz, List.length_cons, List.take_succ_cons, List.cons.injEq] at this
          exact this.2.symm
        have hlen : z.length ≤ (r.takeWhile nlB).length := by
          have := trimE_len (c :: r.takeWhile nlB)
          rw [hz, List.length_cons, List.length_cons] at this
          omega
        have hzz : z.takeWhile nlB = z := by
          have := tw_take (p := nlB) (r.takeWhile nlB) z.length (by rw [tw_tw]; exact hlen)
          rw [← hzt] at this
          exact this
        refine ⟨c, z, by rw [e, hz], hs, ?_, ?_, by rw [← hz]; exact trimE_last _⟩
        · simp only [tkOk, hl, hf, hn, if_true, Bool.false_eq_true, if_false, hzz] at ho ⊢
          rw [hzt]
          exact all_take ho _
        · simp only [tkLen, hl, hf, hn, if_true, Bool.false_eq_true, if_false, hzz, List.length_cons]
      | false =>
        have e : tkW (c :: r) = [c] := by
          simp only [tkW, tkLen, hl, hf, hn, Bool.false_eq_true, if_false, List.take_succ_cons, List.take_zero]
          exact trimE_other [] (sp_ne hs)
        refine ⟨c, [], e, hs, ?_, ?_, trimE_other [] (sp_ne hs)⟩
        · simp only [tkOk, hl, hf, hn, Bool.false_eq_true, if_false] at ho ⊢; exact ho
        · simp only [tkLen, hl, hf, hn, Bool.false_eq_true, if_false, List.length_cons, List.length_nil]
theorem tok_pos {w : List UInt8} (h : isTok w) : 1 ≤ w.length := by
  obtain ⟨c, r, rfl, _⟩ := h
  simp
/-- A word, a new line, and more. -/
theorem lx_one {w : List UInt8} (h : isTok w) (t : List UInt8) (i : Nat) : lx (w ++ 10 :: t) i = ((i, w) :: lxW t (i + w.length + 1), lxF t (i + w.length + 1)) := by
  obtain ⟨c, r, rfl, hs, ho, hl, ht⟩ := h
  obtain ⟨e1, e2⟩ := tk_app c r t
  rw [List.cons_append] at e1 e2
  have ho2 : tkOk (c :: (r ++ 10 :: t)) = true := by rw [e2]; exact ho
  have ed : (c :: (r ++ 10 :: t)).drop (tkLen (c :: (r ++ 10 :: t))) = 10 :: t := by
    rw [e1, hl, ← List.cons_append, List.drop_left]
  have ew : tkW (c :: (r ++ 10 :: t)) = c :: r := by
    rw [tkW, e1, hl, ← List.cons_append, List.take_left, ht]
  rw [List.cons_append, lx_tok i hs ho2, ed, ew, e1, hl, lxW, lxF, lx_sp t _ rfl]
  rfl
/-- Words, a new line behind each. -/
def spc : List (List UInt8) → List UInt8
  | [] => []
  | w :: r => w ++ 10 :: spc r
theorem spc_app (a b : List (List UInt8)) : spc (a ++ b) = spc a ++ spc b := by
  induction a with
  | nil => rfl
  | cons w r ih => simp [spc, ih]
theorem lx_spc : ∀ (ws : List (List UInt8)) (i : Nat), (∀ w ∈ ws, isTok w) → lxF (spc ws) i = none ∧ (lxW (spc ws) i).map (·.2) = ws
  | [], i, _ => by rw [lxF, lxW, spc, lx_nil]; exact ⟨rfl, rfl⟩
  | w :: r, i, h => by
    obtain ⟨h1, h2⟩ := lx_spc r (i + w.length + 1) fun x hx => h x (by simp [hx])
    have e := lx_one (h w (by simp)) (spc r) i
    rw [lxF, lxW, spc, e]
    exact ⟨h1, by simp [h2]⟩

/-- A word where it stands. -/
def StandsAt (s : List UInt8) (i : Nat) (x : Nat × List UInt8) : Prop := i ≤ x.1 ∧ x.1 + x.2.length ≤ i + s.length ∧ (s.drop (x.1 - i)).take x.2.length = x.2 ∧ isTok x.2
theorem StandsAt.later {s : List UInt8} {i k : Nat} {x : Nat × List UInt8} (h : StandsAt (s.drop k) (i + k) x) (hk : k ≤ s.length) : StandsAt s i x := by
  obtain ⟨h1, h2, h3, h4⟩ := h
  rw [List.length_drop] at h2
  refine ⟨by omega, by omega, ?_, h4⟩
  rw [List.drop_drop] at h3
  have e : x.1 - i = k + (x.1 - (i + k)) := by omega
  rw [e]
  exact h3
theorem lx_at : ∀ (n : Nat) (s : List UInt8) (i : Nat), s.length ≤ n → (∀ x ∈ lxW s i, StandsAt s i x) ∧ (lxW s i).Pairwise (fun a b => a.1 + a.2.length ≤ b.1)
  | 0, s, i, h => by
    have : s = [] := List.eq_nil_of_length_eq_zero (by omega)
    subst this
    rw [lxW, lx_nil]
    exact ⟨fun x hx => absurd hx List.not_mem_nil, List.Pairwise.nil⟩
  | n + 1, s, i, h => by
    cases s with
    | nil =>
      rw [lxW, lx_nil]
      exact ⟨fun x hx => absurd hx List.not_mem_nil, List.Pairwise.nil⟩
    | cons c r =>
      cases hs : spB c with
      | true =>
        obtain ⟨h1, h2⟩ := lx_at n r (i + 1) (by simp at h; omega)
        rw [lxW, lx_sp r i hs]
        exact ⟨fun x hx => StandsAt.later (s := c :: r) (k := 1) (h1 x hx) (by simp), h2⟩
      | false =>
        cases ho : tkOk (c :: r) with
        | false =>
          rw [lxW, lx_bad i hs ho]
          exact ⟨fun x hx => absurd hx List.not_mem_nil, List.Pairwise.nil⟩
        | true =>
          have hp := tkLen_pos c r
          have hle := tkLen_le (c :: r)
          have hw : (tkW (c :: r)).length ≤ tkLen (c :: r) := by
            have := trimE_len ((c :: r).take (tkLen (c :: r)))
            rw [List.length_take] at this
            rw [tkW]
            omega
          obtain ⟨h1, h2⟩ := lx_at n ((c :: r).drop (tkLen (c :: r))) (i + tkLen (c :: r)) (by simp only [List.length_drop, List.length_cons] at h ⊢; omega)
          rw [lxW, lx_tok i hs ho]
          refine ⟨fun x hx => ?_, List.pairwise_cons.2 ⟨fun x hx => ?_, h2⟩⟩
          · rcases List.mem_cons.1 hx with rfl | hx
            · refine ⟨Nat.le_refl _, by simp only; omega, ?_, tkW_is hs ho⟩
              simp only [Nat.sub_self, List.drop_zero]
              have h3 := trimE_take ((c :: r).take (tkLen (c :: r)))
              rw [List.take_take, Nat.min_eq_left (by rw [tkW] at hw; exact hw)] at h3
              exact h3
            · exact (h1 x hx).later hle
          · have := (h1 x hx).1
            simp only
            omega
/-- The words of a text, and where they begin. -/
def wdsL (s : List UInt8) : List (List UInt8) := (lxW s 0).map (·.2)
def plcL (s : List UInt8) : List Nat := (lxW s 0).map (·.1)
theorem wp_len (s : List UInt8) : (wdsL s).length = (plcL s).length := by simp [wdsL, plcL]
theorem wp_at (s : List UInt8) (j : Nat) (h : j < (wdsL s).length) (h2 : j < (plcL s).length) :
    (plcL s)[j] + (wdsL s)[j].length ≤ s.length ∧ (s.drop (plcL s)[j]).take (wdsL s)[j].length = (wdsL s)[j] ∧ isTok (wdsL s)[j] ∧ ∀ k (hk : k < (wdsL s).length) (hk2 : k < (plcL s).length), k < j → (plcL s)[k] + (wdsL s)[k].length ≤ (plcL s)[j] := by
  obtain ⟨a1, a2⟩ := lx_at s.length s 0 (Nat.le_refl _)
  have hj : j < (lxW s 0).length := by simpa [wdsL] using h
  obtain ⟨_, b2, b3, b4⟩ := a1 (lxW s 0)[j] (List.getElem_mem hj)
  simp only [wdsL, plcL, List.getElem_map] at *
  refine ⟨by omega, by simpa using b3, b4, fun k hk hk2 hkj => ?_⟩
  exact List.pairwise_iff_getElem.1 a2 k j (by simpa using hk2) hj hkj
theorem wds_tok (s : List UInt8) : ∀ w ∈ wdsL s, isTok w := by
  intro w hw
  obtain ⟨j, hj, rfl⟩ := List.getElem_of_mem hw
  exact (wp_at s j hj (by rw [← wp_len]; exact hj)).2.2.1
theorem lx_count : ∀ (n : Nat) (s : List UInt8) (i : Nat), s.length ≤ n → (lxW s i).length ≤ s.length
  | 0, s, i, h => by
    have : s = [] := List.eq_nil_of_length_eq_zero (by omega)
    subst this
    rw [lxW, lx_nil]; simp
  | n + 1, s, i, h => by
    cases s with
    | nil => rw [lxW, lx_nil]; simp
    | cons c r =>
      cases hs : spB c with
      | true =>
        have := lx_count n r (i + 1) (by simp at h; omega)
        rw [lxW, lx_sp r i hs]
        simp only [List.length_cons]
        rw [lxW] at this
        omega
      | false =>
        cases ho : tkOk (c :: r) with
        | false => rw [lxW, lx_bad i hs ho]; simp
        | true =>
          have hp := tkLen_pos c r
          have hle := tkLen_le (c :: r)
          have := lx_count n ((c :: r).drop (tkLen (c :: r))) (i + tkLen (c :: r)) (by simp only [List.length_drop, List.length_cons] at h ⊢; omega)
          rw [lxW, lx_tok i hs ho]
          simp only [List.length_cons, List.length_drop] at this hle ⊢
          omega
theorem wds_count (s : List UInt8) : (wdsL s).length ≤ s.length := by
  have := lx_count s.length s 0 (Nat.le_refl _)
  simpa [wdsL] using this

/-- How many words are no notes. -/
def notN (w : List UInt8) : Bool := w.headD 0 != 35
def many (ws : List (List UInt8)) : Nat := (ws.filter notN).length
theorem many_app (a b : List (List UInt8)) : many (a ++ b) = many a + many b := by simp [many]
/-- What is wrong with a text, and where. -/
def lexE (s : List UInt8) : Int := if 60000 < s.length then 3 else if (lxF s 0).isSome then 5 else if 300 < many (wdsL s) then 3 else 0
def lexK (s : List UInt8) : Nat := if lexE s = 5 then (lxF s 0).getD 0 else 0
theorem lexE_zero {s : List UInt8} (h : lexE s = 0) : s.length ≤ 60000 ∧ lxF s 0 = none ∧ many (wdsL s) ≤ 300 := by
  unfold lexE at h
  split at h
  · cases h
  · split at h
    · cases h
    · split at h
      · cases h
      · rename_i h1 h2 h3
        exact ⟨by omega, by simpa using h2, by omega⟩
/-- Two texts, a new line between. -/
theorem lex_parts {s t : List UInt8} (hs : lxF s 0 = none) (ht : lxF t 0 = none) :
    lxF (s ++ 10 :: t) 0 = none ∧ wdsL (s ++ 10 :: t) = wdsL s ++ wdsL t ∧ plcL (s ++ 10 :: t) = plcL s ++ (plcL t).map (· + (s.length + 1)) := by
  have e := lx_app t s.length s 0 (Nat.le_refl _) hs
  have e2 := lx_shift (s.length + 1) t.length t 0 (Nat.le_refl _)
  have e3 : 0 + s.length + 1 = 0 + (s.length + 1) := by omega
  rw [e3] at e
  simp only [lxW, lxF] at e e2 hs ht
  rw [e2] at e
  refine ⟨?_, ?_, ?_⟩
  · rw [lxF, e, ht]; rfl
  · simp only [wdsL, lxW, e, shiftW, List.map_append, List.map_map]; rfl
  · simp only [plcL, lxW, e, shiftW, List.map_append, List.map_map]; rfl
end Go.Proofs.YtmbeamcjpidnjaaGreatDoor
namespace Go.Proofs.YtmbeamcjpidnjaaGreatDoor
open Go

/-- The bytes of a text. -/
abbrev btL (s : ByteArray) : List UInt8 := s.data.toList
theorem btL_len (s : ByteArray) : (btL s).length = s.size := (Lib.size_eq s).symm
theorem btL_drop {s : ByteArray} {k : Nat} (h : k < s.size) : (btL s).drop k = s[k] :: (btL s).drop (k + 1) := by
  have hl : k < (btL s).length := by rw [btL_len]; exact h
  rw [List.drop_eq_getElem_cons hl]; rfl
/-- How many bytes from a place on are of a kind. -/
def twN (p : UInt8 → Bool) (s : ByteArray) (k : Nat) : Nat := (((btL s).drop k).takeWhile p).length
theorem twN_yes {p : UInt8 → Bool} {s : ByteArray} {k : Nat} (h : k < s.size) (hp : p s[k] = true) : twN p s k = twN p s (k + 1) + 1 := by
  rw [twN, btL_drop h, List.takeWhile_cons, if_pos hp]; rfl
theorem twN_no {p : UInt8 → Bool} {s : ByteArray} {k : Nat} (h : k < s.size) (hp : p s[k] = false) : twN p s k = 0 := by
  rw [twN, btL_drop h, List.takeWhile_cons, if_neg (by simp [hp])]; rfl
theorem twN_end {p : UInt8 → Bool} {s : ByteArray} {k : Nat} (h : ¬ k < s.size) : twN p s k = 0 := by
  rw [twN, List.drop_eq_nil_of_le (by rw [btL_len]; omega)]; rfl
/-- Whether a note's bytes from a place on may all be. -/
def prN (s : ByteArray) (k : Nat) : Bool := (((btL s).drop k).takeWhile nlB).all prB
theorem prN_yes {s : ByteArray} {k : Nat} (h : k < s.size) (hp : nlB s[k] = true) : prN s k = (prB s[k] && prN s (k + 1)) := by
  rw [prN, btL_drop h, List.takeWhile_cons, if_pos hp, List.all_cons]; rfl
theorem prN_no {s : ByteArray} {k : Nat} (h : k < s.size) (hp : nlB s[k] = false) : prN s k = true := by
  rw [prN, btL_drop h, List.takeWhile_cons, if_neg (by simp [hp])]; rfl
theorem prN_end {s : ByteArray} {k : Nat} (h : ¬ k < s.size) : prN s k = true := by
  rw [prN, List.drop_eq_nil_of_le (by rw [btL_len]; omega)]; rfl

/-- What begins at a place: how long it is, and whether it is a word. -/
def tLen (s : ByteArray) (i : Nat) : Nat := tkLen ((btL s).drop i)
def tOk (s : ByteArray) (i : Nat) : Bool := tkOk ((btL s).drop i)
theorem t_low {s : ByteArray} {i : Nat} (h : i < s.size) (hc : lowB s[i] = true) : tLen s i = twN lowB s (i + 1) + 1 ∧ tOk s i = decide (twN lowB s (i + 1) + 1 ≤ 8) := by
  rw [tLen, tOk, btL_drop h]
  simp only [tkLen, tkOk, hc, if_true]
  exact ⟨rfl, rfl⟩
theorem t_fig {s : ByteArray} {i : Nat} (h : i < s.size) (hc : lowB s[i] = false) (hf : figB s[i] = true) : tLen s i = twN figB s (i + 1) + 1 ∧ tOk s i = (decide (twN figB s (i + 1) + 1 ≤ 6) && (s[i] != 48 || twN figB s (i + 1) == 0)) := by
  rw [tLen, tOk, btL_drop h]
  simp only [tkLen, tkOk, hc, hf, if_true, Bool.false_eq_true, if_false]
  exact ⟨rfl, rfl⟩
theorem t_note {s : ByteArray} {i : Nat} (h : i < s.size) (hc : lowB s[i] = false) (hf : figB s[i] = false) (hn : (s[i] == 35) = true) : tLen s i = twN nlB s (i + 1) + 1 ∧ tOk s i = prN s (i + 1) := by
  rw [tLen, tOk, btL_drop h]
  simp only [tkLen, tkOk, hc, hf, hn, if_true, Bool.false_eq_true, if_false]
  exact ⟨rfl, rfl⟩
theorem t_mark {s : ByteArray} {i : Nat} (h : i < s.size) (hc : lowB s[i] = false) (hf : figB s[i] = false) (hn : (s[i] == 35) = false) : tLen s i = 1 ∧ tOk s i = mrkB s[i] := by
  rw [tLen, tOk, btL_drop h]
  simp only [tkLen, tkOk, hc, hf, hn, Bool.false_eq_true, if_false]
  exact ⟨trivial, trivial⟩
theorem t_le {s : ByteArray} {i : Nat} (h : i < s.size) : 1 ≤ tLen s i ∧ i + tLen s i ≤ s.size := by
  have h1 := tkLen_le ((btL s).drop i)
  rw [List.length_drop, btL_len] at h1
  rw [tLen]
  refine ⟨?_, by omega⟩
  rw [btL_drop h]
  exact tkLen_pos _ _
/-- A byte against a number. -/
theorem u8_eq (c : UInt8) (n : Nat) (hn : n < 256) : ((c.toNat : Int) == (n : Int)) = (c == UInt8.ofNat n) := by
  by_cases h : c = UInt8.ofNat n
  · subst h
    rw [beq_iff_eq.2 (show ((UInt8.ofNat n).toNat : Int) = (n : Int) by simp [Nat.mod_eq_of_lt hn])]
    simp
  · rw [beq_false_of_ne h, beq_false_of_ne]
    intro e
    apply h
    have : c.toNat = n := by omega
    rw [← this]
    simp
/-- The word from one place to another. -/
def wbS (w : List UInt8) : ByteArray := ⟨w.toArray⟩
theorem wbS_ext (s : ByteArray) (i e : Nat) : s.extract i e = wbS (((btL s).drop i).take (e - i)) := by
  apply ByteArray.ext
  rw [ByteArray.data_extract]
  apply Array.ext'
  simp only [wbS, Array.toList_extract, List.extract]
end Go.Proofs.YtmbeamcjpidnjaaGreatDoor
