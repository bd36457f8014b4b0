/- Pieces of a text between blanks, so many at most; what is wrong with words that are cut so. -/
import Derived.Test.YtianemmgaiblgabDoorTreP
import Derived.Test.YtianemmgaiblgabDoorFilQ
import Derived.Lib.IndexBytes
import Derived.Lib.Split
namespace Go.Proofs.YtianemmgaiblgabDoor
open Go

theorem let_eq {s : ByteArray} : btL s = [108, 101, 116] ↔ s = ⟨#[108, 101, 116]⟩ := by
  constructor
  · intro h
    apply ByteArray.ext
    apply Array.ext'
    exact h
  · intro h; rw [h]
theorem nameT_all {s : ByteArray} (h1 : 1 ≤ s.size) (h2 : s.size ≤ 8) (h3 : ¬ s = ⟨#[108, 101, 116]⟩) (h : ∀ k (h : k < s.size), lowB s[k] = true) : nameT s = true := by
  have h3' : btL s ≠ [108, 101, 116] := fun e => h3 (let_eq.1 e)
  simp only [nameT, h1, h2, h3', decide_true, Bool.true_and, List.all_eq_true, ne_eq, not_false_eq_true]
  intro b hb
  obtain ⟨i, hi, rfl⟩ := List.getElem_of_mem hb
  exact h i (by rw [← btL_len]; exact hi)
theorem nameT_not {s : ByteArray} {k : Nat} (h : k < s.size) (hb : lowB s[k] = false) : nameT s = false := by
  cases e : nameT s with
  | false => rfl
  | true =>
    simp only [nameT, Bool.and_eq_true, List.all_eq_true] at e
    have hl : k < (btL s).length := by rw [btL_len]; exact h
    have := e.2 s[k] (List.getElem_mem hl)
    rw [hb] at this
    cases this
theorem nameT_short {s : ByteArray} (h : s.size < 1) : nameT s = false := by
  have : decide (1 ≤ s.size) = false := decide_eq_false (by omega)
  simp [nameT, this]
theorem nameT_long {s : ByteArray} (h : 8 < s.size) : nameT s = false := by
  have : decide (s.size ≤ 8) = false := decide_eq_false (by omega)
  simp [nameT, this]
theorem wbS_bt (s : ByteArray) : wbS (btL s) = s := by
  obtain ⟨d⟩ := s
  simp [wbS, btL]
theorem cut_miss {l : List UInt8} (h : Lib.indexByte l 32 = -1) : ∀ b ∈ l, b ≠ 32 := by
  intro b hb e
  subst e
  obtain ⟨k, hk⟩ := List.getElem?_of_mem hb
  exact Lib.indexByte_none h k hk
theorem cut_hit {l : List UInt8} {i : Nat} (h : Lib.indexByte l 32 = i) : i < l.length ∧ l = l.take i ++ 32 :: l.drop (i + 1) ∧ ∀ b ∈ l.take i, b ≠ 32 := by
  obtain ⟨h1, h2⟩ := Lib.indexByte_some h
  obtain ⟨hi, h3⟩ := List.getElem?_eq_some_iff.1 h1
  refine ⟨hi, ?_, ?_⟩
  · have := (List.take_append_drop i l).symm
    rw [List.drop_eq_getElem_cons hi, h3] at this
    exact this
  · intro b hb e
    subst e
    obtain ⟨k, hk⟩ := List.getElem?_of_mem hb
    rw [List.getElem?_take] at hk
    split at hk
    · rename_i hki; exact h2 k hki hk
    · cases hk
/-- Pieces between blanks, by so many cuts at most. -/
def spK : Nat → ByteArray → List ByteArray
  | 0, s => [s]
  | k + 1, s => if Lib.indexByte s.data.toList 32 = -1 then [s] else s.extract 0 (Lib.indexByte s.data.toList 32).toNat :: spK k (s.extract ((Lib.indexByte s.data.toList 32).toNat + 1) s.size)
theorem spK_zero (s : ByteArray) : spK 0 s = [s] := rfl
theorem spK_miss (k : Nat) {s : ByteArray} (h : Lib.indexByte s.data.toList 32 = -1) : spK k s = [s] := by
  cases k with
  | zero => rfl
  | succ k => rw [spK, if_pos h]
theorem spK_hit (k : Nat) {s : ByteArray} {i : Nat} (h : Lib.indexByte s.data.toList 32 = i) : spK (k + 1) s = s.extract 0 i :: spK k (s.extract (i + 1) s.size) := by
  rw [spK, if_neg (by omega), h]; rfl
theorem bt_to (s : ByteArray) (i : Nat) : btL (s.extract 0 i) = (btL s).take i := by
  rw [wbS_ext, List.drop_zero, Nat.sub_zero]; rfl
theorem bt_from (s : ByteArray) (i : Nat) : btL (s.extract i s.size) = (btL s).drop i := Lib.extract_to_end s i
theorem sp_cases (s : ByteArray) : Lib.indexByte s.data.toList 32 = -1 ∨ ∃ i : Nat, Lib.indexByte s.data.toList 32 = i ∧ i < s.size := by
  have hge := Lib.indexByte_ge s.data.toList 32
  by_cases h : Lib.indexByte s.data.toList 32 = -1
  · exact .inl h
  · refine .inr ⟨(Lib.indexByte s.data.toList 32).toNat, by omega, ?_⟩
    have := (cut_hit (l := btL s) (i := (Lib.indexByte s.data.toList 32).toNat) (by show Lib.indexByte s.data.toList 32 = _; omega)).1
    rw [btL_len] at this
    exact this
theorem sp_step {s : ByteArray} {i : Nat} (h : Lib.indexByte s.data.toList 32 = i) : splB (btL s) = btL (s.extract 0 i) :: splB (btL (s.extract (i + 1) s.size)) := by
  obtain ⟨_, h2, h3⟩ := cut_hit (l := btL s) h
  rw [bt_to, bt_from]
  conv => lhs; rw [h2]
  rw [splB_app _ _ h3]
theorem sp_one {s : ByteArray} (h : Lib.indexByte s.data.toList 32 = -1) : splB (btL s) = [btL s] := splB_one _ (cut_miss (l := btL s) h)
theorem sp_size {s : ByteArray} {i : Nat} (h : i < s.size) : (s.extract (i + 1) s.size).size = s.size - (i + 1) := by
  rw [ByteArray.size_extract]; omega
theorem spK_all : ∀ (k : Nat) (s : ByteArray), s.size ≤ k → (spK k s).map btL = splB (btL s)
  | 0, s, h => by
    have e : btL s = [] := List.eq_nil_of_length_eq_zero (by rw [btL_len]; omega)
    rw [spK_zero, List.map_cons, List.map_nil, e]; rfl
  | k + 1, s, h => by
    rcases sp_cases s with h1 | ⟨i, h1, h2⟩
    · rw [spK_miss _ h1, sp_one h1]; rfl
    · rw [spK_hit k h1, sp_step h1, List.map_cons, spK_all k _ (by rw [sp_size h2]; omega)]
theorem spK_few : ∀ (k : Nat) (s : ByteArray), (spK k s).length ≤ k → (spK k s).map btL = splB (btL s)
  | 0, s, h => by rw [spK_zero] at h; simp at h
  | k + 1, s, h => by
    rcases sp_cases s with h1 | ⟨i, h1, h2⟩
    · rw [spK_miss _ h1, sp_one h1]; rfl
    · rw [spK_hit k h1] at h ⊢
      rw [List.length_cons] at h
      rw [sp_step h1, List.map_cons, spK_few k _ (by omega)]
theorem spK_le : ∀ (k : Nat) (s : ByteArray), (spK k s).length ≤ (splB (btL s)).length
  | 0, s => by
    rw [spK_zero]
    have := splB_ne (btL s)
    cases h : splB (btL s) with
    | nil => exact absurd h this
    | cons a b => simp
  | k + 1, s => by
    rcases sp_cases s with h1 | ⟨i, h1, h2⟩
    · rw [spK_miss _ h1, sp_one h1]; simp
    · rw [spK_hit k h1, sp_step h1, List.length_cons, List.length_cons]
      have := spK_le k (s.extract (i + 1) s.size)
      omega
theorem spK_len : ∀ (k : Nat) (s : ByteArray), 1 ≤ (spK k s).length ∧ (spK k s).length ≤ k + 1
  | 0, s => by rw [spK_zero]; simp
  | k + 1, s => by
    rcases sp_cases s with h1 | ⟨i, h1, h2⟩
    · rw [spK_miss _ h1]; simp
    · rw [spK_hit k h1, List.length_cons]
      have := spK_len k (s.extract (i + 1) s.size)
      omega
theorem back_bt {l : List ByteArray} {m : List (List UInt8)} (h : l.map btL = m) : l = m.map wbS := by
  subst h
  rw [List.map_map]
  have : (wbS ∘ btL) = id := by funext s; exact wbS_bt s
  rw [this, List.map_id]
/-- Cut short or not, the words have the same fault. -/
theorem spK_fault (s : ByteArray) (k : Nat) (hk : k = min 60 s.size) : wordsF (spK k s) = wordsF ((splB (btL s)).map wbS) := by
  by_cases h : s.size ≤ 60
  · rw [back_bt (spK_all k s (by omega))]
  · have hk' : k = 60 := by omega
    subst hk'
    by_cases hl : (spK 60 s).length ≤ 60
    · rw [back_bt (spK_few 60 s hl)]
    · have h1 := spK_le 60 s
      rw [wordsF_full (by omega), wordsF_full (by rw [List.length_map]; omega)]
theorem note_spK {s : ByteArray} (h : 0 < s.size) (k : Nat) (hk : k = min 60 s.size) : wordsF (spK k s) = noteF s := by
  rw [spK_fault s k hk, noteF, noteW, if_neg]
  intro e
  have := congrArg List.length e
  rw [btL_len, List.length_nil] at this
  omega
theorem note_none {s : ByteArray} (h : s.size = 0) : noteF s = 0 := by
  have e : btL s = [] := List.eq_nil_of_length_eq_zero (by rw [btL_len]; exact h)
  rw [noteF, noteW, if_pos e]; rfl
end Go.Proofs.YtianemmgaiblgabDoor
