/- Bytes of a text: how many from a place on are of a kind; what begins at a place; pieces. -/
import Derived.Test.YtianemmgaiblgabDoorLexQ
namespace Go.Proofs.YtianemmgaiblgabDoor
open Go

/-- The bytes of a text. -/
abbrev btL (s : ByteArray) : List UInt8 := s.data.toList
theorem btL_len (s : ByteArray) : (btL s).length = s.size := (Lib.size_eq s).symm
theorem btL_drop {s : ByteArray} {k : Nat} (h : k < s.size) : (btL s).drop k = s[k] :: (btL s).drop (k + 1) := by
  have hl : k < (btL s).length := by rw [btL_len]; exact h
  rw [List.drop_eq_getElem_cons hl]; rfl
/-- How many bytes from a place on are of a kind. -/
def twN (p : UInt8 → Bool) (s : ByteArray) (k : Nat) : Nat := (((btL s).drop k).takeWhile p).length
theorem twN_yes {p : UInt8 → Bool} {s : ByteArray} {k : Nat} (h : k < s.size) (hp : p s[k] = true) : twN p s k = twN p s (k + 1) + 1 := by
  rw [twN, btL_drop h, List.takeWhile_cons, if_pos hp]; rfl
theorem twN_no {p : UInt8 → Bool} {s : ByteArray} {k : Nat} (h : k < s.size) (hp : p s[k] = false) : twN p s k = 0 := by
  rw [twN, btL_drop h, List.takeWhile_cons, if_neg (by simp [hp])]; rfl
theorem twN_end {p : UInt8 → Bool} {s : ByteArray} {k : Nat} (h : ¬ k < s.size) : twN p s k = 0 := by
  rw [twN, List.drop_eq_nil_of_le (by rw [btL_len]; omega)]; rfl
/-- Whether a note's bytes from a place on may all be. -/
def prN (s : ByteArray) (k : Nat) : Bool := (((btL s).drop k).takeWhile nlB).all prB
theorem prN_yes {s : ByteArray} {k : Nat} (h : k < s.size) (hp : nlB s[k] = true) : prN s k = (prB s[k] && prN s (k + 1)) := by
  rw [prN, btL_drop h, List.takeWhile_cons, if_pos hp, List.all_cons]; rfl
theorem prN_no {s : ByteArray} {k : Nat} (h : k < s.size) (hp : nlB s[k] = false) : prN s k = true := by
  rw [prN, btL_drop h, List.takeWhile_cons, if_neg (by simp [hp])]; rfl
theorem prN_end {s : ByteArray} {k : Nat} (h : ¬ k < s.size) : prN s k = true := by
  rw [prN, List.drop_eq_nil_of_le (by rw [btL_len]; omega)]; rfl

/-- What begins at a place: how long it is, and whether it is a word. -/
def tLen (s : ByteArray) (i : Nat) : Nat := tkLen ((btL s).drop i)
def tOk (s : ByteArray) (i : Nat) : Bool := tkOk ((btL s).drop i)
theorem t_low {s : ByteArray} {i : Nat} (h : i < s.size) (hc : lowB s[i] = true) : tLen s i = twN lowB s (i + 1) + 1 ∧ tOk s i = decide (twN lowB s (i + 1) + 1 ≤ 8) := by
  rw [tLen, tOk, btL_drop h]
  simp only [tkLen, tkOk, hc, if_true]
  exact ⟨rfl, rfl⟩
theorem t_fig {s : ByteArray} {i : Nat} (h : i < s.size) (hc : lowB s[i] = false) (hf : figB s[i] = true) : tLen s i = twN figB s (i + 1) + 1 ∧ tOk s i = (decide (twN figB s (i + 1) + 1 ≤ 6) && (s[i] != 48 || twN figB s (i + 1) == 0)) := by
  rw [tLen, tOk, btL_drop h]
  simp only [tkLen, tkOk, hc, hf, if_true, Bool.false_eq_true, if_false]
  exact ⟨rfl, rfl⟩
theorem t_note {s : ByteArray} {i : Nat} (h : i < s.size) (hc : lowB s[i] = false) (hf : figB s[i] = false) (hn : (s[i] == 35) = true) : tLen s i = twN nlB s (i + 1) + 1 ∧ tOk s i = prN s (i + 1) := by
  rw [tLen, tOk, btL_drop h]
  simp only [tkLen, tkOk, hc, hf, hn, if_true, Bool.false_eq_true, if_false]
  exact ⟨rfl, rfl⟩
theorem t_mark {s : ByteArray} {i : Nat} (h : i < s.size) (hc : lowB s[i] = false) (hf : figB s[i] = false) (hn : (s[i] == 35) = false) : tLen s i = 1 ∧ tOk s i = mrkB s[i] := by
  rw [tLen, tOk, btL_drop h]
  simp only [tkLen, tkOk, hc, hf, hn, Bool.false_eq_true, if_false]
  exact ⟨trivial, trivial⟩
theorem t_le {s : ByteArray} {i : Nat} (h : i < s.size) : 1 ≤ tLen s i ∧ i + tLen s i ≤ s.size := by
  have h1 := tkLen_le ((btL s).drop i)
  rw [List.length_drop, btL_len] at h1
  rw [tLen]
  refine ⟨?_, by omega⟩
  rw [btL_drop h]
  exact tkLen_pos _ _
/-- A byte against a number. -/
theorem u8_eq (c : UInt8) (n : Nat) (hn : n < 256) : ((c.toNat : Int) == (n : Int)) = (c == UInt8.ofNat n) := by
  by_cases h : c = UInt8.ofNat n
  · subst h
    rw [beq_iff_eq.2 (show ((UInt8.ofNat n).toNat : Int) = (n : Int) by simp [Nat.mod_eq_of_lt hn])]
    simp
  · rw [beq_false_of_ne h, beq_false_of_ne]
    intro e
    apply h
    have : c.toNat = n := by omega
    rw [← this]
    simp
/-- The word from one place to another. -/
def wbS (w : List UInt8) : ByteArray := ⟨w.toArray⟩
theorem wbS_ext (s : ByteArray) (i e : Nat) : s.extract i e = wbS (((btL s).drop i).take (e - i)) := by
  apply ByteArray.ext
  rw [ByteArray.data_extract]
  apply Array.ext'
  simp only [wbS, Array.toList_extract, List.extract]
end Go.Proofs.YtianemmgaiblgabDoor
