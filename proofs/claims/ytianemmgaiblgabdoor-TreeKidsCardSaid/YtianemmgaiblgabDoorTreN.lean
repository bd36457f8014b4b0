/- Each node of a statement but the first is the kid of just one, plainly. -/
import Derived.Test.YtianemmgaiblgabDoorTreK
namespace Go.Proofs.YtianemmgaiblgabDoor
open Go

/-- How many of the first so many statements from a place on begin at a place. -/
def rcT (ds : List Td) (i q x : Nat) : Nat := ((List.range q).filter fun j => endT ds i j == some x).length
theorem rcT_zero (ds : List Td) (i x : Nat) : rcT ds i 0 x = 0 := rfl
theorem rcT_succ (ds : List Td) (i q x : Nat) : rcT ds i (q + 1) x = rcT ds i q x + (if endT ds i q = some x then 1 else 0) := by
  simp only [rcT, List.range_succ, List.filter_append, List.length_append]
  congr 1
  by_cases h : endT ds i q = some x
  · simp [h]
  · simp [h]
theorem rcT_add (ds : List Td) (i x a : Nat) : ∀ b, rcT ds i (a + b) x = rcT ds i a x + ((List.range b).filter fun j => endT ds i (a + j) == some x).length
  | 0 => by simp
  | b + 1 => by
    rw [← Nat.add_assoc, rcT_succ, rcT_add ds i x a b, List.range_succ, List.filter_append, List.length_append, Nat.add_assoc]
    congr 2
    by_cases h : endT ds i (a + b) = some x
    · simp [h]
    · simp [h]
theorem rcT_step {ds : List Td} {i : Nat} (h : i < ds.length) (x : Nat) : ∀ m, rcT ds i (m + 1) x = (if x = i then 1 else 0) + ((List.range m).filter fun j => endT ds (i + 1) (kdT ds[i] + j) == some x).length
  | 0 => by
    rw [rcT_succ, rcT_zero, endT_zero]
    simp [eq_comm]
  | m + 1 => by
    rw [rcT_succ, rcT_step h x m, endT_step ds i m h, List.range_succ, List.filter_append, List.length_append, Nat.add_assoc]
    congr 2
    by_cases h2 : endT ds (i + 1) (kdT ds[i] + m) = some x
    · simp [h2]
    · simp [h2]
/-- How often a place is the kid of one of so many nodes from a place on. -/
def kcT (ds : List Td) (lo : Nat) : Nat → Nat → Nat
  | 0, _ => 0
  | n + 1, x => rcT ds (lo + 1) (kdT (ds.getD lo ⟨0, ⟨#[]⟩, 0⟩)) x + kcT ds (lo + 1) n x
theorem kcT_succ {ds : List Td} {lo : Nat} (h : lo < ds.length) (n x : Nat) : kcT ds lo (n + 1) x = rcT ds (lo + 1) (kdT ds[lo]) x + kcT ds (lo + 1) n x := by
  rw [kcT, List.getD_eq_getElem?_getD, List.getElem?_eq_getElem h]; rfl
theorem kcT_all (ds : List Td) (x : Nat) : ∀ (n i q e : Nat), endT ds i q = some e → e - i = n → kcT ds i n x + rcT ds i q x = if i ≤ x ∧ x < e then 1 else 0
  | n, i, 0, e, h, hn => by
    rw [endT_zero] at h
    cases h
    obtain rfl : n = 0 := by omega
    rw [kcT, rcT_zero, if_neg (by omega)]
  | n, i, m + 1, e, h, hn => by
    have hb := endT_bd h
    have hi : i < ds.length := by
      rcases Nat.lt_or_ge i ds.length with h' | h'
      · exact h'
      · rw [endT_out ds i m h'] at h; cases h
    obtain ⟨n, rfl⟩ : ∃ n', n = n' + 1 := ⟨n - 1, by omega⟩
    have h2 := h
    rw [endT_step ds i m hi] at h2
    have ih := kcT_all ds x n (i + 1) (kdT ds[i] + m) e h2 (by omega)
    rw [rcT_add] at ih
    rw [kcT_succ hi, rcT_step hi]
    by_cases hx : x = i
    · subst hx
      rw [if_neg (by omega)] at ih
      rw [if_pos rfl, if_pos (by omega)]
      omega
    · rw [if_neg hx]
      by_cases hr : i ≤ x ∧ x < e
      · rw [if_pos hr]; rw [if_pos (by omega)] at ih; omega
      · rw [if_neg hr]; rw [if_neg (by omega)] at ih; omega
/-- Each node but the first is the kid of just one. -/
theorem kids_once {ds : List Td} (h : treeF ds = 0) (x : Nat) (hx : x < ds.length) : kcT ds 0 ds.length x = if x = 0 then 0 else 1 := by
  obtain ⟨_, _, he, _⟩ := treeF_zero h
  have h1 := kcT_all ds x ds.length 0 1 ds.length he (by omega)
  have h2 : rcT ds 0 1 x = if x = 0 then 1 else 0 := by
    rw [rcT_succ, rcT_zero, endT_zero]
    simp [eq_comm]
  have h3 : (if 0 ≤ x ∧ x < ds.length then 1 else 0) = 1 := if_pos ⟨Nat.zero_le _, hx⟩
  rw [h2, h3] at h1
  by_cases h0 : x = 0
  · rw [if_pos h0] at h1 ⊢; omega
  · rw [if_neg h0] at h1 ⊢; omega
/-- So many nodes from the first one on, one more. -/
theorem kcT_last {ds : List Td} (x : Nat) : ∀ (n lo : Nat), kcT ds lo (n + 1) x = kcT ds lo n x + rcT ds (lo + n + 1) (kdT (ds.getD (lo + n) ⟨0, ⟨#[]⟩, 0⟩)) x
  | 0, lo => by simp [kcT]
  | n + 1, lo => by
    rw [kcT, kcT_last x n (lo + 1), kcT]
    have e : lo + 1 + n = lo + (n + 1) := by omega
    rw [e]
    omega
end Go.Proofs.YtianemmgaiblgabDoor
