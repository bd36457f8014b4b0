/- Words of a program, plainly: each by itself is the same word; where they stand. -/
import Derived.Test.YtianemmgaiblgabDoorLexP
namespace Go.Proofs.YtianemmgaiblgabDoor
open Go

theorem low_ne {x : UInt8} (h : lowB x = true) : x ≠ 32 := by
  rintro rfl; revert h; decide
theorem fig_ne {x : UInt8} (h : figB x = true) : x ≠ 32 := by
  rintro rfl; revert h; decide
theorem fig_low {x : UInt8} (h : figB x = true) : lowB x = false := by
  simp only [figB, lowB, Bool.and_eq_true, decide_eq_true_eq, Bool.and_eq_false_iff, decide_eq_false_iff_not] at h ⊢
  omega
theorem trimE_tw {p : UInt8 → Bool} (h : ∀ x, p x = true → x ≠ 32) (c : UInt8) (hc : p c = true) (r : List UInt8) : trimE (c :: r.takeWhile p) = c :: r.takeWhile p := by
  have := tw_no (p := p) (l := c :: r) h
  rw [List.takeWhile_cons, if_pos hc] at this
  exact this
theorem tw_tw (p : UInt8 → Bool) (r : List UInt8) : (r.takeWhile p).takeWhile p = r.takeWhile p := by
  have := tw_take (p := p) r (r.takeWhile p).length (Nat.le_refl _)
  rw [tw_is] at this
  exact this
theorem tw_len_tw (p : UInt8 → Bool) (r : List UInt8) : ((r.takeWhile p).takeWhile p).length = (r.takeWhile p).length := by rw [tw_tw]
theorem sp_ne {c : UInt8} (h : spB c = false) : c ≠ 32 := by
  rintro rfl; revert h; decide
/-- The word that begins at a word's first byte is a word by itself. -/
theorem tkW_is {c : UInt8} {r : List UInt8} (hs : spB c = false) (ho : tkOk (c :: r) = true) : isTok (tkW (c :: r)) := by
  cases hl : lowB c with
  | true =>
    have e : tkW (c :: r) = c :: r.takeWhile lowB := by
      simp only [tkW, tkLen, hl, if_true, List.take_succ_cons, tw_is]
      exact trimE_tw (fun _ => low_ne) c hl r
    refine ⟨c, r.takeWhile lowB, e, hs, ?_, ?_, trimE_tw (fun _ => low_ne) c hl r⟩
    · simp only [tkOk, hl, if_true, tw_tw] at ho ⊢; exact ho
    · simp only [tkLen, hl, if_true, tw_tw, List.length_cons]
  | false =>
    cases hf : figB c with
    | true =>
      have e : tkW (c :: r) = c :: r.takeWhile figB := by
        simp only [tkW, tkLen, hl, hf, if_true, Bool.false_eq_true, if_false, List.take_succ_cons, tw_is]
        exact trimE_tw (fun _ => fig_ne) c hf r
      refine ⟨c, r.takeWhile figB, e, hs, ?_, ?_, trimE_tw (fun _ => fig_ne) c hf r⟩
      · simp only [tkOk, hl, hf, if_true, Bool.false_eq_true, if_false, tw_tw] at ho ⊢; exact ho
      · simp only [tkLen, hl, hf, if_true, Bool.false_eq_true, if_false, tw_tw, List.length_cons]
    | false =>
      cases hn : (c == 35) with
      | true =>
        have e : tkW (c :: r) = trimE (c :: r.takeWhile nlB) := by
          simp only [tkW, tkLen, hl, hf, hn, if_true, Bool.false_eq_true, if_false, List.take_succ_cons, tw_is]
        obtain ⟨z, hz⟩ := trimE_cons (sp_ne hs) (r.takeWhile nlB)
        have hzt : z = (r.takeWhile nlB).take z.length := by
          have := trimE_take (c :: r.takeWhile nlB)
          rw [hz, List.length_cons, List.take_succ_cons, List.cons.injEq] at this
          exact this.2.symm
        have hlen : z.length ≤ (r.takeWhile nlB).length := by
          have := trimE_len (c :: r.takeWhile nlB)
          rw [hz, List.length_cons, List.length_cons] at this
          omega
        have hzz : z.takeWhile nlB = z := by
          have := tw_take (p := nlB) (r.takeWhile nlB) z.length (by rw [tw_tw]; exact hlen)
          rw [← hzt] at this
          exact this
        refine ⟨c, z, by rw [e, hz], hs, ?_, ?_, by rw [← hz]; exact trimE_last _⟩
        · simp only [tkOk, hl, hf, hn, if_true, Bool.false_eq_true, if_false, hzz] at ho ⊢
          rw [hzt]
          exact all_take ho _
        · simp only [tkLen, hl, hf, hn, if_true, Bool.false_eq_true, if_false, hzz, List.length_cons]
      | false =>
        have e : tkW (c :: r) = [c] := by
          simp only [tkW, tkLen, hl, hf, hn, Bool.false_eq_true, if_false, List.take_succ_cons, List.take_zero]
          exact trimE_other [] (sp_ne hs)
        refine ⟨c, [], e, hs, ?_, ?_, trimE_other [] (sp_ne hs)⟩
        · simp only [tkOk, hl, hf, hn, Bool.false_eq_true, if_false] at ho ⊢; exact ho
        · simp only [tkLen, hl, hf, hn, Bool.false_eq_true, if_false, List.length_cons, List.length_nil]
theorem tok_pos {w : List UInt8} (h : isTok w) : 1 ≤ w.length := by
  obtain ⟨c, r, rfl, _⟩ := h
  simp
/-- A word, a new line, and more. -/
theorem lx_one {w : List UInt8} (h : isTok w) (t : List UInt8) (i : Nat) : lx (w ++ 10 :: t) i = ((i, w) :: lxW t (i + w.length + 1), lxF t (i + w.length + 1)) := by
  obtain ⟨c, r, rfl, hs, ho, hl, ht⟩ := h
  obtain ⟨e1, e2⟩ := tk_app c r t
  rw [List.cons_append] at e1 e2
  have ho2 : tkOk (c :: (r ++ 10 :: t)) = true := by rw [e2]; exact ho
  have ed : (c :: (r ++ 10 :: t)).drop (tkLen (c :: (r ++ 10 :: t))) = 10 :: t := by
    rw [e1, hl, ← List.cons_append, List.drop_left]
  have ew : tkW (c :: (r ++ 10 :: t)) = c :: r := by
    rw [tkW, e1, hl, ← List.cons_append, List.take_left, ht]
  rw [List.cons_append, lx_tok i hs ho2, ed, ew, e1, hl, lxW, lxF, lx_sp t _ rfl]
  rfl
/-- Words, a new line behind each. -/
def spc : List (List UInt8) → List UInt8
  | [] => []
  | w :: r => w ++ 10 :: spc r
theorem spc_app (a b : List (List UInt8)) : spc (a ++ b) = spc a ++ spc b := by
  induction a with
  | nil => rfl
  | cons w r ih => simp [spc, ih]
theorem lx_spc : ∀ (ws : List (List UInt8)) (i : Nat), (∀ w ∈ ws, isTok w) → lxF (spc ws) i = none ∧ (lxW (spc ws) i).map (·.2) = ws
  | [], i, _ => by rw [lxF, lxW, spc, lx_nil]; exact ⟨rfl, rfl⟩
  | w :: r, i, h => by
    obtain ⟨h1, h2⟩ := lx_spc r (i + w.length + 1) fun x hx => h x (by simp [hx])
    have e := lx_one (h w (by simp)) (spc r) i
    rw [lxF, lxW, spc, e]
    exact ⟨h1, by simp [h2]⟩

/-- A word where it stands. -/
def StandsAt (s : List UInt8) (i : Nat) (x : Nat × List UInt8) : Prop := i ≤ x.1 ∧ x.1 + x.2.length ≤ i + s.length ∧ (s.drop (x.1 - i)).take x.2.length = x.2 ∧ isTok x.2
theorem StandsAt.later {s : List UInt8} {i k : Nat} {x : Nat × List UInt8} (h : StandsAt (s.drop k) (i + k) x) (hk : k ≤ s.length) : StandsAt s i x := by
  obtain ⟨h1, h2, h3, h4⟩ := h
  rw [List.length_drop] at h2
  refine ⟨by omega, by omega, ?_, h4⟩
  rw [List.drop_drop] at h3
  have e : x.1 - i = k + (x.1 - (i + k)) := by omega
  rw [e]
  exact h3
theorem lx_at : ∀ (n : Nat) (s : List UInt8) (i : Nat), s.length ≤ n → (∀ x ∈ lxW s i, StandsAt s i x) ∧ (lxW s i).Pairwise (fun a b => a.1 + a.2.length ≤ b.1)
  | 0, s, i, h => by
    have : s = [] := List.eq_nil_of_length_eq_zero (by omega)
    subst this
    rw [lxW, lx_nil]
    exact ⟨fun x hx => absurd hx List.not_mem_nil, List.Pairwise.nil⟩
  | n + 1, s, i, h => by
    cases s with
    | nil =>
      rw [lxW, lx_nil]
      exact ⟨fun x hx => absurd hx List.not_mem_nil, List.Pairwise.nil⟩
    | cons c r =>
      cases hs : spB c with
      | true =>
        obtain ⟨h1, h2⟩ := lx_at n r (i + 1) (by simp at h; omega)
        rw [lxW, lx_sp r i hs]
        exact ⟨fun x hx => StandsAt.later (s := c :: r) (k := 1) (h1 x hx) (by simp), h2⟩
      | false =>
        cases ho : tkOk (c :: r) with
        | false =>
          rw [lxW, lx_bad i hs ho]
          exact ⟨fun x hx => absurd hx List.not_mem_nil, List.Pairwise.nil⟩
        | true =>
          have hp := tkLen_pos c r
          have hle := tkLen_le (c :: r)
          have hw : (tkW (c :: r)).length ≤ tkLen (c :: r) := by
            have := trimE_len ((c :: r).take (tkLen (c :: r)))
            rw [List.length_take] at this
            rw [tkW]
            omega
          obtain ⟨h1, h2⟩ := lx_at n ((c :: r).drop (tkLen (c :: r))) (i + tkLen (c :: r)) (by simp only [List.length_drop, List.length_cons] at h ⊢; omega)
          rw [lxW, lx_tok i hs ho]
          refine ⟨fun x hx => ?_, List.pairwise_cons.2 ⟨fun x hx => ?_, h2⟩⟩
          · rcases List.mem_cons.1 hx with rfl | hx
            · refine ⟨Nat.le_refl _, by simp only; omega, ?_, tkW_is hs ho⟩
              simp only [Nat.sub_self, List.drop_zero]
              have h3 := trimE_take ((c :: r).take (tkLen (c :: r)))
              rw [List.take_take, Nat.min_eq_left (by rw [tkW] at hw; exact hw)] at h3
              exact h3
            · exact (h1 x hx).later hle
          · have := (h1 x hx).1
            simp only
            omega
/-- The words of a text, and where they begin. -/
def wdsL (s : List UInt8) : List (List UInt8) := (lxW s 0).map (·.2)
def plcL (s : List UInt8) : List Nat := (lxW s 0).map (·.1)
theorem wp_len (s : List UInt8) : (wdsL s).length = (plcL s).length := by simp [wdsL, plcL]
theorem wp_at (s : List UInt8) (j : Nat) (h : j < (wdsL s).length) (h2 : j < (plcL s).length) :
    (plcL s)[j] + (wdsL s)[j].length ≤ s.length ∧ (s.drop (plcL s)[j]).take (wdsL s)[j].length = (wdsL s)[j] ∧ isTok (wdsL s)[j] ∧ ∀ k (hk : k < (wdsL s).length) (hk2 : k < (plcL s).length), k < j → (plcL s)[k] + (wdsL s)[k].length ≤ (plcL s)[j] := by
  obtain ⟨a1, a2⟩ := lx_at s.length s 0 (Nat.le_refl _)
  have hj : j < (lxW s 0).length := by simpa [wdsL] using h
  obtain ⟨_, b2, b3, b4⟩ := a1 (lxW s 0)[j] (List.getElem_mem hj)
  simp only [wdsL, plcL, List.getElem_map] at *
  refine ⟨by omega, by simpa using b3, b4, fun k hk hk2 hkj => ?_⟩
  exact List.pairwise_iff_getElem.1 a2 k j (by simpa using hk2) hj hkj
theorem wds_tok (s : List UInt8) : ∀ w ∈ wdsL s, isTok w := by
  intro w hw
  obtain ⟨j, hj, rfl⟩ := List.getElem_of_mem hw
  exact (wp_at s j hj (by rw [← wp_len]; exact hj)).2.2.1
theorem lx_count : ∀ (n : Nat) (s : List UInt8) (i : Nat), s.length ≤ n → (lxW s i).length ≤ s.length
  | 0, s, i, h => by
    have : s = [] := List.eq_nil_of_length_eq_zero (by omega)
    subst this
    rw [lxW, lx_nil]; simp
  | n + 1, s, i, h => by
    cases s with
    | nil => rw [lxW, lx_nil]; simp
    | cons c r =>
      cases hs : spB c with
      | true =>
        have := lx_count n r (i + 1) (by simp at h; omega)
        rw [lxW, lx_sp r i hs]
        simp only [List.length_cons]
        rw [lxW] at this
        omega
      | false =>
        cases ho : tkOk (c :: r) with
        | false => rw [lxW, lx_bad i hs ho]; simp
        | true =>
          have hp := tkLen_pos c r
          have hle := tkLen_le (c :: r)
          have := lx_count n ((c :: r).drop (tkLen (c :: r))) (i + tkLen (c :: r)) (by simp only [List.length_drop, List.length_cons] at h ⊢; omega)
          rw [lxW, lx_tok i hs ho]
          simp only [List.length_cons, List.length_drop] at this hle ⊢
          omega
theorem wds_count (s : List UInt8) : (wdsL s).length ≤ s.length := by
  have := lx_count s.length s 0 (Nat.le_refl _)
  simpa [wdsL] using this

/-- How many words are no notes. -/
def notN (w : List UInt8) : Bool := w.headD 0 != 35
def many (ws : List (List UInt8)) : Nat := (ws.filter notN).length
theorem many_app (a b : List (List UInt8)) : many (a ++ b) = many a + many b := by simp [many]
/-- What is wrong with a text, and where. -/
def lexE (s : List UInt8) : Int := if 60000 < s.length then 3 else if (lxF s 0).isSome then 5 else if 300 < many (wdsL s) then 3 else 0
def lexK (s : List UInt8) : Nat := if lexE s = 5 then (lxF s 0).getD 0 else 0
theorem lexE_zero {s : List UInt8} (h : lexE s = 0) : s.length ≤ 60000 ∧ lxF s 0 = none ∧ many (wdsL s) ≤ 300 := by
  unfold lexE at h
  split at h
  · cases h
  · split at h
    · cases h
    · split at h
      · cases h
      · rename_i h1 h2 h3
        exact ⟨by omega, by simpa using h2, by omega⟩
/-- Two texts, a new line between. -/
theorem lex_parts {s t : List UInt8} (hs : lxF s 0 = none) (ht : lxF t 0 = none) :
    lxF (s ++ 10 :: t) 0 = none ∧ wdsL (s ++ 10 :: t) = wdsL s ++ wdsL t ∧ plcL (s ++ 10 :: t) = plcL s ++ (plcL t).map (· + (s.length + 1)) := by
  have e := lx_app t s.length s 0 (Nat.le_refl _) hs
  have e2 := lx_shift (s.length + 1) t.length t 0 (Nat.le_refl _)
  have e3 : 0 + s.length + 1 = 0 + (s.length + 1) := by omega
  rw [e3] at e
  simp only [lxW, lxF] at e e2 hs ht
  rw [e2] at e
  refine ⟨?_, ?_, ?_⟩
  · rw [lxF, e, ht]; rfl
  · simp only [wdsL, lxW, e, shiftW, List.map_append, List.map_map]; rfl
  · simp only [plcL, lxW, e, shiftW, List.map_append, List.map_map]; rfl
end Go.Proofs.YtianemmgaiblgabDoor
