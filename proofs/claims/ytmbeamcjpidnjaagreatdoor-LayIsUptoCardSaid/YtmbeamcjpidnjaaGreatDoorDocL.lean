/- Docs, plainly: what walks over them want. -/
import Derived.Test.YtmbeamcjpidnjaaGreatDoorDocA0
namespace Go.Proofs.YtmbeamcjpidnjaaGreatDoor
open Go Go.RowKit

theorem isW_take {s : ByteArray} (h1 : 1 ≤ s.size) (h2 : s.size ≤ 20) (h : ∀ k (h : k < s.size), wordB s[k] = true) : isW s = true := by
  simp only [isW, h1, h2, decide_true, Bool.true_and, List.all_eq_true]
  intro b hb
  obtain ⟨i, hi, rfl⟩ := List.getElem_of_mem hb
  exact h i (by rw [← size_list]; exact hi)
theorem isW_not {s : ByteArray} {k : Nat} (h : k < s.size) (hb : wordB s[k] = false) : isW s = false := by
  cases e : isW s with
  | false => rfl
  | true =>
    simp only [isW, Bool.and_eq_true, List.all_eq_true] at e
    have := e.2 s[k] (by
      have : k < s.data.toList.length := by rw [size_list]; exact h
      exact List.getElem_mem this)
    rw [hb] at this
    cases this
theorem wordB_false {b : UInt8} (h : wordB b = false) : (b.toNat : Int) < 32 ∨ (¬ (b.toNat : Int) < 32 ∧ 126 < (b.toNat : Int)) := by
  simp [wordB] at h
  omega
theorem wordB_true {b : UInt8} (h : wordB b = true) : ¬ (b.toNat : Int) < 32 ∧ ¬ 126 < (b.toNat : Int) := by
  simp [wordB] at h
  omega

theorem size_ne {s : ByteArray} (h : s.size ≠ 0) : ¬ s.toList = [] := by
  rw [ByteArray.toList_eq]
  intro e
  have := size_list s
  rw [e] at this
  exact h this.symm

/-- The nine ops. -/
theorem ops9 {op : Int} (h1 : ¬ op < 1) (h2 : ¬ 9 < op) : op = 1 ∨ op = 2 ∨ op = 3 ∨ op = 4 ∨ op = 5 ∨ op = 6 ∨ op = 7 ∨ op = 8 ∨ op = 9 := by omega

theorem docF_full {ds : List Nd} (h : 400 < ds.length) : docF ds = 3 := by rw [docF, if_pos h]
theorem docF_node {ds : List Nd} {k : Nat} (hl : ds.length ≤ 400) (hk : k < ds.length) (ha : ∀ x ∈ ds.take k, nodeF x = 0) (h : nodeF ds[k] ≠ 0) : docF ds = nodeF ds[k] := by
  have e := firstF_at ds k hk ha h
  rw [docF, if_neg (by omega), if_neg (by rw [e]; exact h), e]
theorem docF_end {ds : List Nd} (hl : ds.length ≤ 400) (ha : ∀ x ∈ ds, nodeF x = 0) : docF ds = if endAt ds 0 1 = some ds.length then 0 else 2 := by
  rw [docF, if_neg (by omega), if_pos (firstF_all ds ha)]
theorem take_all {ds : List Nd} {k : Nat} (h : ¬ k < ds.length) (ha : ∀ x ∈ ds.take k, nodeF x = 0) : ∀ x ∈ ds, nodeF x = 0 := by
  rw [List.take_of_length_le (by omega)] at ha; exact ha
theorem take_more {ds : List Nd} {k : Nat} (h : k < ds.length) (ha : ∀ x ∈ ds.take k, nodeF x = 0) (h0 : nodeF ds[k] = 0) : ∀ x ∈ ds.take (k + 1), nodeF x = 0 := by
  intro x hx
  rw [List.take_succ_eq_append_getElem h] at hx
  rcases List.mem_append.1 hx with hx | hx
  · exact ha x hx
  · simp at hx; subst hx; exact h0

/-- The document's place: -1 where there is none. -/
def endZ (o : Option Nat) : Int := match o with | some j => j | none => -1

/-- End: the error's number, and the place. -/
def endF (ds : List Nd) (i : Int) : Int := if docF ds = 0 then (if i < 0 ∨ (ds.length : Int) ≤ i then 1 else 0) else docF ds
def endX (ds : List Nd) (i : Int) : Int := if endF ds i = 0 then endZ (endAt ds i.toNat 1) else 0

theorem endX_bad {ds : List Nd} (i : Int) (h : docF ds ≠ 0) : endX ds i = 0 ∧ endF ds i = docF ds := by
  have e : endF ds i = docF ds := by simp [endF, h]
  exact ⟨by rw [endX, if_neg (by rw [e]; exact h)], e⟩
theorem endX_out {ds : List Nd} (i : Int) (h : docF ds = 0) (hi : i < 0 ∨ (ds.length : Int) ≤ i) : endX ds i = 0 ∧ endF ds i = 1 := by
  have e : endF ds i = 1 := by rw [endF, if_pos h, if_pos hi]
  exact ⟨by rw [endX, if_neg (by rw [e]; decide)], e⟩
theorem endX_in {ds : List Nd} (n : Nat) (h : docF ds = 0) (hi : n < ds.length) : endX ds n = endZ (endAt ds n 1) ∧ endF ds n = 0 := by
  have e : endF ds n = 0 := by rw [endF, if_pos h, if_neg (by omega)]
  exact ⟨by rw [endX, if_pos e, Int.toNat_natCast], e⟩


theorem drop_head {ds : List Nd} {i : Nat} {x : Nd} {r : List Nd} (h : ds.drop i = x :: r) : ∃ hi : i < ds.length, ds[i] = x ∧ ds.drop (i + 1) = r := by
  have hi : i < ds.length := by
    rcases Nat.lt_or_ge i ds.length with h' | h'
    · exact h'
    · rw [List.drop_eq_nil_of_le h'] at h; cases h
  rw [List.drop_eq_getElem_cons hi] at h
  simp only [List.cons.injEq] at h
  exact ⟨hi, h.1, h.2⟩
theorem drop_more {ds A r : List Nd} {i : Nat} (h : ds.drop i = A ++ r) : ds.drop (i + A.length) = r := by
  rw [← List.drop_drop, h, List.drop_left]
end Go.Proofs.YtmbeamcjpidnjaaGreatDoor
