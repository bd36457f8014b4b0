/- Words of a program, plainly: blanks behind a word stand between words; what a text begins with. -/
import Derived.Test.YtlogepdifapciabDoorLexB
import Derived.Lib.Bytealg
import Derived.Lib.IndexLaws
namespace Go.Proofs.YtlogepdifapciabDoor
open Go

theorem lx_blanks : ∀ (z r : List UInt8) (i : Nat), (∀ x ∈ z, x = 32) → lx (z ++ r) i = lx r (i + z.length)
  | [], r, i, _ => by simp
  | c :: z, r, i, h => by
    have hc : c = 32 := h c (by simp)
    subst hc
    rw [List.cons_append, lx_sp _ _ (by decide), lx_blanks z r (i + 1) (fun x hx => h x (by simp [hx])), List.length_cons]
    congr 1; omega
theorem tw_all {p : UInt8 → Bool} : ∀ (l : List UInt8) x, x ∈ l.takeWhile p → p x = true
  | [], x, hx => by cases hx
  | a :: l, x, hx => by
    rw [List.takeWhile_cons] at hx
    by_cases ha : p a = true
    · rw [if_pos ha] at hx
      rcases List.mem_cons.1 hx with rfl | hx
      · exact ha
      · exact tw_all l x hx
    · rw [if_neg ha] at hx; cases hx
theorem trimE_rest (w : List UInt8) : ∃ z, w = trimE w ++ z ∧ ∀ x ∈ z, x = 32 := by
  refine ⟨(w.reverse.takeWhile (· == 32)).reverse, ?_, fun x hx => ?_⟩
  · rw [trimE, ← List.reverse_append, List.takeWhile_append_dropWhile, List.reverse_reverse]
  · have := tw_all _ _ (List.mem_reverse.1 hx)
    exact beq_iff_eq.1 this
/-- The word is shorter than what begins here by blanks alone. -/
theorem tkW_len (s : List UInt8) : (tkW s).length ≤ s.length := by
  have h1 := trimE_len (s.take (tkLen s))
  rw [List.length_take] at h1
  rw [tkW]; omega
theorem lx_short (s : List UInt8) (i : Nat) : lx (s.drop (tkW s).length) (i + (tkW s).length) = lx (s.drop (tkLen s)) (i + tkLen s) := by
  obtain ⟨z, hz, h32⟩ := trimE_rest (s.take (tkLen s))
  have hle := tkLen_le s
  have hlen := congrArg List.length hz
  rw [List.length_append, List.length_take, Nat.min_eq_left hle] at hlen
  have e : s.drop (tkW s).length = z ++ s.drop (tkLen s) := by
    have h1 : s = trimE (s.take (tkLen s)) ++ (z ++ s.drop (tkLen s)) := by
      rw [← List.append_assoc, ← hz, List.take_append_drop]
    have h2 : s.drop (tkW s).length = (trimE (s.take (tkLen s)) ++ (z ++ s.drop (tkLen s))).drop (tkW s).length := congrArg (List.drop _) h1
    rw [h2, tkW, List.drop_left]
  rw [e, lx_blanks z _ _ h32]
  congr 1
  rw [tkW]; omega
theorem tkW_pos {c : UInt8} {r : List UInt8} (hs : spB c = false) (ho : tkOk (c :: r) = true) : 1 ≤ (tkW (c :: r)).length := tok_pos (tkW_is hs ho)

/-- What a text begins with, kind by kind. -/
theorem f_low {c : UInt8} {r : List UInt8} (hl : lowB c = true) : tkW (c :: r) = (c :: r).takeWhile lowB ∧ tkOk (c :: r) = decide (((c :: r).takeWhile lowB).length ≤ 8) := by
  refine ⟨?_, ?_⟩
  · simp only [tkW, tkLen, hl, if_true, List.take_succ_cons, tw_is, List.takeWhile_cons]
    exact trimE_tw (fun _ => low_ne) c hl r
  · simp only [tkOk, hl, if_true, List.takeWhile_cons, List.length_cons]
theorem f_fig {c : UInt8} {r : List UInt8} (hl : lowB c = false) (hf : figB c = true) : tkW (c :: r) = (c :: r).takeWhile figB ∧ tkOk (c :: r) = (decide (((c :: r).takeWhile figB).length ≤ 6) && (c != 48 || (c :: r).takeWhile figB == [48])) := by
  refine ⟨?_, ?_⟩
  · simp only [tkW, tkLen, hl, hf, if_true, Bool.false_eq_true, if_false, List.take_succ_cons, tw_is, List.takeWhile_cons]
    exact trimE_tw (fun _ => fig_ne) c hf r
  · simp only [tkOk, hl, hf, if_true, Bool.false_eq_true, if_false, List.takeWhile_cons, List.length_cons]
    congr 1
    by_cases h : c = 48
    · subst h
      cases hr : r.takeWhile figB with
      | nil => rfl
      | cons a b =>
        simp
    · have : (c != 48) = true := by simp [h]
      rw [this]; rfl
theorem all_tw {p : UInt8 → Bool} : ∀ l : List UInt8, (l.takeWhile p == l) = l.all p
  | [] => rfl
  | a :: l => by
    rw [List.takeWhile_cons, List.all_cons]
    cases h : p a with
    | true =>
      rw [if_pos rfl, ← all_tw l]
      simp
    | false => simp
theorem f_note {c : UInt8} {r : List UInt8} (hl : lowB c = false) (hf : figB c = false) (hn : c = 35) : tkW (c :: r) = trimE ((c :: r).takeWhile nlB) ∧ tkOk (c :: r) = ((trimE ((c :: r).takeWhile nlB)).takeWhile prB == trimE ((c :: r).takeWhile nlB)) := by
  subst hn
  have e0 : (35 :: r : List UInt8).takeWhile nlB = 35 :: r.takeWhile nlB := by rw [List.takeWhile_cons]; rfl
  refine ⟨?_, ?_⟩
  · simp only [tkW, tkLen, hl, hf, if_true, Bool.false_eq_true, if_false, List.take_succ_cons, tw_is, beq_self_eq_true, e0]
  · rw [all_tw, e0]
    simp only [tkOk, hl, hf, if_true, Bool.false_eq_true, if_false, beq_self_eq_true]
    obtain ⟨z, hz, h32⟩ := trimE_rest (35 :: r.takeWhile nlB)
    have h1 : (35 :: r.takeWhile nlB).all prB = ((trimE (35 :: r.takeWhile nlB)).all prB && z.all prB) := by
      rw [← List.all_append, ← hz]
    have h2 : z.all prB = true := by
      rw [List.all_eq_true]
      intro x hx
      rw [h32 x hx]; decide
    rw [h2, Bool.and_true, List.all_cons] at h1
    rw [← h1]
    rfl
theorem f_mark {c : UInt8} {r : List UInt8} (hs : spB c = false) (hl : lowB c = false) (hf : figB c = false) (hn : (c == 35) = false) : tkW (c :: r) = [c] ∧ tkOk (c :: r) = mrkB c := by
  refine ⟨?_, ?_⟩
  · simp only [tkW, tkLen, hl, hf, hn, Bool.false_eq_true, if_false, List.take_succ_cons, List.take_zero]
    exact trimE_other [] (sp_ne hs)
  · simp only [tkOk, hl, hf, hn, Bool.false_eq_true, if_false]

/-- The line that a text begins with, by the place of the first new line. -/
theorem nl_miss : ∀ l : List UInt8, Lib.indexByte l 10 = -1 → l.takeWhile nlB = l
  | [], _ => rfl
  | b :: l, h => by
    unfold Lib.indexByte at h
    have hge := Lib.indexByte_ge l 10
    split at h
    · cases h
    · rename_i hb
      have hb' : nlB b = true := by simpa [nlB] using hb
      split at h
      · rename_i h1
        rw [List.takeWhile_cons, if_pos hb', nl_miss l (by simpa using h1)]
      · omega
theorem nl_hit : ∀ (l : List UInt8) (i : Nat), Lib.indexByte l 10 = i → l.takeWhile nlB = l.take i ∧ i + 1 ≤ l.length
  | [], i, h => by simp [Lib.indexByte] at h
  | b :: l, i, h => by
    unfold Lib.indexByte at h
    have hge := Lib.indexByte_ge l 10
    split at h
    · rename_i hb
      have : i = 0 := by omega
      subst this
      have hb' : nlB b = false := by simpa [nlB] using hb
      rw [List.takeWhile_cons, if_neg (by simp [hb'])]
      simp
    · rename_i hb
      have hb' : nlB b = true := by simpa [nlB] using hb
      split at h
      · omega
      · rename_i h1
        have h1' : Lib.indexByte l 10 ≠ -1 := by simpa using h1
        obtain ⟨j, rfl⟩ : ∃ j, i = j + 1 := ⟨i - 1, by omega⟩
        obtain ⟨e1, e2⟩ := nl_hit l j (by omega)
        rw [List.takeWhile_cons, if_pos hb', e1, List.take_succ_cons]
        exact ⟨rfl, by simp; omega⟩
/-- A byte among bytes. -/
theorem ib_any : ∀ (l : List UInt8) (c : UInt8), decide (0 ≤ Lib.indexByte l c) = l.any (· == c)
  | [], c => rfl
  | b :: l, c => by
    unfold Lib.indexByte
    have hge := Lib.indexByte_ge l c
    have ih := ib_any l c
    rw [List.any_cons, ← ih]
    cases hb : (b == c) with
    | true => simp
    | false =>
      simp only [Bool.false_eq_true, if_false, Bool.false_or]
      by_cases h : Lib.indexByte l c = -1
      · simp [h]
      · have h2 : (Lib.indexByte l c == -1) = false := by simpa using h
        rw [h2]
        simp only [Bool.false_eq_true, if_false]
        rw [decide_eq_true (by omega), decide_eq_true (by omega)]
end Go.Proofs.YtlogepdifapciabDoor
