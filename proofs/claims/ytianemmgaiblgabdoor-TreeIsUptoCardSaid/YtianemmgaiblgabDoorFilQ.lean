/- Words, plainly: what walks over them want. -/
import Derived.Test.YtianemmgaiblgabDoorFilP
namespace Go.Proofs.YtianemmgaiblgabDoor
open Go

theorem byteAt {s : ByteArray} {k : Nat} (h : k < s.size) : s[k] ∈ s.data.toList := by
  have hl : k < s.data.toList.length := by rw [← Lib.size_eq]; exact h
  exact List.getElem_mem hl
theorem okW_take {s : ByteArray} (h1 : 1 ≤ s.size) (h2 : s.size ≤ 20) (h : ∀ k (h : k < s.size), wByte s[k] = true) : okW s = true := by
  simp only [okW, h1, h2, decide_true, Bool.true_and, List.all_eq_true]
  intro b hb
  obtain ⟨i, hi, rfl⟩ := List.getElem_of_mem hb
  exact h i (by rw [Lib.size_eq]; exact hi)
theorem okW_not {s : ByteArray} {k : Nat} (h : k < s.size) (hb : wByte s[k] = false) : okW s = false := by
  cases e : okW s with
  | false => rfl
  | true =>
    simp only [okW, Bool.and_eq_true, List.all_eq_true] at e
    have := e.2 s[k] (byteAt h)
    rw [hb] at this
    cases this
theorem wByte_false {b : UInt8} (h : wByte b = false) : (b.toNat : Int) < 33 ∨ (¬ (b.toNat : Int) < 33 ∧ 126 < (b.toNat : Int)) := by
  simp [wByte] at h
  omega
theorem wByte_true {b : UInt8} (h : wByte b = true) : ¬ (b.toNat : Int) < 33 ∧ ¬ 126 < (b.toNat : Int) := by
  simp [wByte] at h
  omega

theorem wordsF_full {ws : List ByteArray} (h : 60 < ws.length) : wordsF ws = 3 := by rw [wordsF, if_pos h]
theorem wordsF_not {ws : List ByteArray} {k : Nat} (hl : ws.length ≤ 60) (hk : k < ws.length) (h : okW ws[k] = false) : wordsF ws = 5 := by
  rw [wordsF, if_neg (by omega), if_neg]
  intro e
  have := List.all_eq_true.1 e ws[k] (List.getElem_mem hk)
  rw [h] at this
  cases this
theorem wordsF_all {ws : List ByteArray} (hl : ws.length ≤ 60) (h : ∀ j (h : j < ws.length), okW ws[j] = true) : wordsF ws = 0 := by
  rw [wordsF, if_neg (by omega), if_pos]
  rw [List.all_eq_true]
  intro x hx
  obtain ⟨j, hj, rfl⟩ := List.getElem_of_mem hx
  exact h j hj
end Go.Proofs.YtianemmgaiblgabDoor
