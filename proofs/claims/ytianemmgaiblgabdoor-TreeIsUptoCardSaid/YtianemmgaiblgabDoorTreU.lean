/- What is wrong with a node, arm by arm. (Made by tools/gen_treu.py.) -/
import Derived.Test.YtianemmgaiblgabDoorTreP
namespace Go.Proofs.YtianemmgaiblgabDoor
open Go

theorem nodT_0 {op : Int} {tx : ByteArray} {n : Int} (_h0 : op < 1) : nodT ⟨op, tx, n⟩ = 1 := by
  unfold nodT
  (repeat' split) <;> first | rfl | (exfalso; omega) | (exfalso; simp_all; done) | (exfalso; simp_all <;> omega) | (simp_all; done)
theorem nodT_1 {op : Int} {tx : ByteArray} {n : Int} (_h0 : ¬ op < 1) (_h1 : 9 < op) : nodT ⟨op, tx, n⟩ = 1 := by
  unfold nodT
  (repeat' split) <;> first | rfl | (exfalso; omega) | (exfalso; simp_all; done) | (exfalso; simp_all <;> omega) | (simp_all; done)
theorem nodT_2 {tx : ByteArray} {n : Int} (_h0 : n < 0) : nodT ⟨1, tx, n⟩ = 1 := by
  have ht : hasTx 1 = false := rfl
  unfold nodT
  (repeat' split) <;> first | rfl | (exfalso; omega) | (exfalso; simp_all; done) | (exfalso; simp_all <;> omega) | (simp_all; done)
theorem nodT_3 {tx : ByteArray} {n : Int} (_h0 : ¬ n < 0) (_h1 : 999999 < n) : nodT ⟨1, tx, n⟩ = 1 := by
  have ht : hasTx 1 = false := rfl
  unfold nodT
  (repeat' split) <;> first | rfl | (exfalso; omega) | (exfalso; simp_all; done) | (exfalso; simp_all <;> omega) | (simp_all; done)
theorem nodT_4 {tx : ByteArray} {n : Int} (_h0 : ¬ n < 0) (_h1 : ¬ 999999 < n) (_h2 : 0 < (tx.size : Int)) : nodT ⟨1, tx, n⟩ = 2 := by
  have ht : hasTx 1 = false := rfl
  unfold nodT
  (repeat' split) <;> first | rfl | (exfalso; omega) | (exfalso; simp_all; done) | (exfalso; simp_all <;> omega) | (simp_all; done)
theorem nodT_5 {tx : ByteArray} {n : Int} (_h0 : ¬ n < 0) (_h1 : ¬ 999999 < n) (_h2 : ¬ 0 < (tx.size : Int)) : nodT ⟨1, tx, n⟩ = 0 := by
  have ht : hasTx 1 = false := rfl
  unfold nodT
  (repeat' split) <;> first | rfl | (exfalso; omega) | (exfalso; simp_all; done) | (exfalso; simp_all <;> omega) | (simp_all; done)
theorem nodT_6 {tx : ByteArray} {n : Int} (_h0 : ¬ n = 0) : nodT ⟨2, tx, n⟩ = 2 := by
  have ht : hasTx 2 = true := rfl
  unfold nodT
  (repeat' split) <;> first | rfl | (exfalso; omega) | (exfalso; simp_all; done) | (exfalso; simp_all <;> omega) | (simp_all; done)
theorem nodT_7 {tx : ByteArray} {n : Int} (_h0 : n = 0) (_h1 : nameT tx = true) : nodT ⟨2, tx, n⟩ = 0 := by
  have ht : hasTx 2 = true := rfl
  unfold nodT
  (repeat' split) <;> first | rfl | (exfalso; omega) | (exfalso; simp_all; done) | (exfalso; simp_all <;> omega) | (simp_all; done)
theorem nodT_8 {tx : ByteArray} {n : Int} (_h0 : n = 0) (_h1 : nameT tx = false) : nodT ⟨2, tx, n⟩ = 5 := by
  have ht : hasTx 2 = true := rfl
  unfold nodT
  (repeat' split) <;> first | rfl | (exfalso; omega) | (exfalso; simp_all; done) | (exfalso; simp_all <;> omega) | (simp_all; done)
theorem nodT_9 {tx : ByteArray} {n : Int} (_h0 : n < 0) : nodT ⟨3, tx, n⟩ = 1 := by
  have ht : hasTx 3 = true := rfl
  unfold nodT
  (repeat' split) <;> first | rfl | (exfalso; omega) | (exfalso; simp_all; done) | (exfalso; simp_all <;> omega) | (simp_all; done)
theorem nodT_10 {tx : ByteArray} {n : Int} (_h0 : ¬ n < 0) (_h1 : 6 < n) : nodT ⟨3, tx, n⟩ = 1 := by
  have ht : hasTx 3 = true := rfl
  unfold nodT
  (repeat' split) <;> first | rfl | (exfalso; omega) | (exfalso; simp_all; done) | (exfalso; simp_all <;> omega) | (simp_all; done)
theorem nodT_11 {tx : ByteArray} {n : Int} (_h0 : ¬ n < 0) (_h1 : ¬ 6 < n) (_h2 : nameT tx = true) : nodT ⟨3, tx, n⟩ = 0 := by
  have ht : hasTx 3 = true := rfl
  unfold nodT
  (repeat' split) <;> first | rfl | (exfalso; omega) | (exfalso; simp_all; done) | (exfalso; simp_all <;> omega) | (simp_all; done)
theorem nodT_12 {tx : ByteArray} {n : Int} (_h0 : ¬ n < 0) (_h1 : ¬ 6 < n) (_h2 : nameT tx = false) : nodT ⟨3, tx, n⟩ = 5 := by
  have ht : hasTx 3 = true := rfl
  unfold nodT
  (repeat' split) <;> first | rfl | (exfalso; omega) | (exfalso; simp_all; done) | (exfalso; simp_all <;> omega) | (simp_all; done)
theorem nodT_13 {tx : ByteArray} {n : Int} (_h0 : n < 0) : nodT ⟨4, tx, n⟩ = 1 := by
  have ht : hasTx 4 = false := rfl
  unfold nodT
  (repeat' split) <;> first | rfl | (exfalso; omega) | (exfalso; simp_all; done) | (exfalso; simp_all <;> omega) | (simp_all; done)
theorem nodT_14 {tx : ByteArray} {n : Int} (_h0 : ¬ n < 0) (_h1 : 6 < n) : nodT ⟨4, tx, n⟩ = 1 := by
  have ht : hasTx 4 = false := rfl
  unfold nodT
  (repeat' split) <;> first | rfl | (exfalso; omega) | (exfalso; simp_all; done) | (exfalso; simp_all <;> omega) | (simp_all; done)
theorem nodT_15 {tx : ByteArray} {n : Int} (_h0 : ¬ n < 0) (_h1 : ¬ 6 < n) (_h2 : 0 < (tx.size : Int)) : nodT ⟨4, tx, n⟩ = 2 := by
  have ht : hasTx 4 = false := rfl
  unfold nodT
  (repeat' split) <;> first | rfl | (exfalso; omega) | (exfalso; simp_all; done) | (exfalso; simp_all <;> omega) | (simp_all; done)
theorem nodT_16 {tx : ByteArray} {n : Int} (_h0 : ¬ n < 0) (_h1 : ¬ 6 < n) (_h2 : ¬ 0 < (tx.size : Int)) : nodT ⟨4, tx, n⟩ = 0 := by
  have ht : hasTx 4 = false := rfl
  unfold nodT
  (repeat' split) <;> first | rfl | (exfalso; omega) | (exfalso; simp_all; done) | (exfalso; simp_all <;> omega) | (simp_all; done)
theorem nodT_17 {tx : ByteArray} {n : Int} (_h0 : ¬ n = 0) : nodT ⟨5, tx, n⟩ = 2 := by
  have ht : hasTx 5 = false := rfl
  unfold nodT
  (repeat' split) <;> first | rfl | (exfalso; omega) | (exfalso; simp_all; done) | (exfalso; simp_all <;> omega) | (simp_all; done)
theorem nodT_18 {tx : ByteArray} {n : Int} (_h0 : n = 0) (_h1 : 0 < (tx.size : Int)) : nodT ⟨5, tx, n⟩ = 2 := by
  have ht : hasTx 5 = false := rfl
  unfold nodT
  (repeat' split) <;> first | rfl | (exfalso; omega) | (exfalso; simp_all; done) | (exfalso; simp_all <;> omega) | (simp_all; done)
theorem nodT_19 {tx : ByteArray} {n : Int} (_h0 : n = 0) (_h1 : ¬ 0 < (tx.size : Int)) : nodT ⟨5, tx, n⟩ = 0 := by
  have ht : hasTx 5 = false := rfl
  unfold nodT
  (repeat' split) <;> first | rfl | (exfalso; omega) | (exfalso; simp_all; done) | (exfalso; simp_all <;> omega) | (simp_all; done)
theorem nodT_20 {tx : ByteArray} {n : Int} (_h0 : ¬ n = 0) : nodT ⟨6, tx, n⟩ = 2 := by
  have ht : hasTx 6 = false := rfl
  unfold nodT
  (repeat' split) <;> first | rfl | (exfalso; omega) | (exfalso; simp_all; done) | (exfalso; simp_all <;> omega) | (simp_all; done)
theorem nodT_21 {tx : ByteArray} {n : Int} (_h0 : n = 0) (_h1 : 0 < (tx.size : Int)) : nodT ⟨6, tx, n⟩ = 2 := by
  have ht : hasTx 6 = false := rfl
  unfold nodT
  (repeat' split) <;> first | rfl | (exfalso; omega) | (exfalso; simp_all; done) | (exfalso; simp_all <;> omega) | (simp_all; done)
theorem nodT_22 {tx : ByteArray} {n : Int} (_h0 : n = 0) (_h1 : ¬ 0 < (tx.size : Int)) : nodT ⟨6, tx, n⟩ = 0 := by
  have ht : hasTx 6 = false := rfl
  unfold nodT
  (repeat' split) <;> first | rfl | (exfalso; omega) | (exfalso; simp_all; done) | (exfalso; simp_all <;> omega) | (simp_all; done)
theorem nodT_23 {tx : ByteArray} {n : Int} (_h0 : ¬ n = 0) : nodT ⟨7, tx, n⟩ = 2 := by
  have ht : hasTx 7 = true := rfl
  unfold nodT
  (repeat' split) <;> first | rfl | (exfalso; omega) | (exfalso; simp_all; done) | (exfalso; simp_all <;> omega) | (simp_all; done)
theorem nodT_24 {tx : ByteArray} {n : Int} (_h0 : n = 0) (_h1 : nameT tx = true) : nodT ⟨7, tx, n⟩ = 0 := by
  have ht : hasTx 7 = true := rfl
  unfold nodT
  (repeat' split) <;> first | rfl | (exfalso; omega) | (exfalso; simp_all; done) | (exfalso; simp_all <;> omega) | (simp_all; done)
theorem nodT_25 {tx : ByteArray} {n : Int} (_h0 : n = 0) (_h1 : nameT tx = false) : nodT ⟨7, tx, n⟩ = 5 := by
  have ht : hasTx 7 = true := rfl
  unfold nodT
  (repeat' split) <;> first | rfl | (exfalso; omega) | (exfalso; simp_all; done) | (exfalso; simp_all <;> omega) | (simp_all; done)
theorem nodT_26 {tx : ByteArray} {n : Int} (_h0 : ¬ n = 0) : nodT ⟨8, tx, n⟩ = 2 := by
  have ht : hasTx 8 = false := rfl
  unfold nodT
  (repeat' split) <;> first | rfl | (exfalso; omega) | (exfalso; simp_all; done) | (exfalso; simp_all <;> omega) | (simp_all; done)
theorem nodT_27 {tx : ByteArray} {n : Int} (_h0 : n = 0) (_h1 : 0 < (tx.size : Int)) : nodT ⟨8, tx, n⟩ = 2 := by
  have ht : hasTx 8 = false := rfl
  unfold nodT
  (repeat' split) <;> first | rfl | (exfalso; omega) | (exfalso; simp_all; done) | (exfalso; simp_all <;> omega) | (simp_all; done)
theorem nodT_28 {tx : ByteArray} {n : Int} (_h0 : n = 0) (_h1 : ¬ 0 < (tx.size : Int)) : nodT ⟨8, tx, n⟩ = 0 := by
  have ht : hasTx 8 = false := rfl
  unfold nodT
  (repeat' split) <;> first | rfl | (exfalso; omega) | (exfalso; simp_all; done) | (exfalso; simp_all <;> omega) | (simp_all; done)
theorem nodT_29 {tx : ByteArray} {n : Int} (_h0 : ¬ n = 0) : nodT ⟨9, tx, n⟩ = 2 := by
  have ht : hasTx 9 = true := rfl
  unfold nodT
  (repeat' split) <;> first | rfl | (exfalso; omega) | (exfalso; simp_all; done) | (exfalso; simp_all <;> omega) | (simp_all; done)
theorem nodT_30 {tx : ByteArray} {n : Int} (_h0 : n = 0) (_h1 : noteF tx = 0) : nodT ⟨9, tx, n⟩ = 0 := by
  have ht : hasTx 9 = true := rfl
  unfold nodT
  (repeat' split) <;> first | rfl | (exfalso; omega) | (exfalso; simp_all; done) | (exfalso; simp_all <;> omega) | (simp_all; done)
theorem nodT_31 {tx : ByteArray} {n : Int} (_h0 : n = 0) (_h1 : ¬ noteF tx = 0) : nodT ⟨9, tx, n⟩ = noteF tx := by
  have ht : hasTx 9 = true := rfl
  unfold nodT
  (repeat' split) <;> first | rfl | (exfalso; omega) | (exfalso; simp_all; done) | (exfalso; simp_all <;> omega) | (simp_all; done)
theorem treeF_long {ds : List Td} (h : 40 < ds.length) : treeF ds = 3 := by rw [treeF, if_pos h]
theorem treeF_node {ds : List Td} {k : Nat} (hl : ds.length ≤ 40) (hk : k < ds.length) (ha : ∀ x ∈ ds.take k, nodT x = 0) (h : nodT ds[k] ≠ 0) : treeF ds = nodT ds[k] := by
  have e := fstT_at ds k hk ha h
  rw [treeF, if_neg (by omega), if_pos (by rw [e]; exact h), e]
theorem treeF_end {ds : List Td} (hl : ds.length ≤ 40) (ha : ∀ x ∈ ds, nodT x = 0) : treeF ds = if endT ds 0 1 = some ds.length ∧ topT ds = true then 0 else 2 := by
  rw [treeF, if_neg (by omega), if_neg (by rw [fstT_all ds ha]; simp)]
theorem take_moreT {ds : List Td} {k : Nat} (h : k < ds.length) (ha : ∀ x ∈ ds.take k, nodT x = 0) (h0 : nodT ds[k] = 0) : ∀ x ∈ ds.take (k + 1), nodT x = 0 := by
  intro x hx
  rw [List.take_succ_eq_append_getElem h] at hx
  rcases List.mem_append.1 hx with hx | hx
  · exact ha x hx
  · simp at hx; subst hx; exact h0
theorem topT_iff {ds : List Td} : topT ds = true ↔ ∀ k (h : k < ds.length), decide (7 ≤ ds[k].op) = decide (k = 0) := by
  cases ds with
  | nil => simp [topT]
  | cons x r =>
    simp only [topT, Bool.and_eq_true, decide_eq_true_eq, List.all_eq_true]
    constructor
    · rintro ⟨h1, h2⟩ k hk
      cases k with
      | zero => simpa using h1
      | succ k =>
        have := h2 (r[k]'(by simpa using hk)) (List.getElem_mem _)
        simp only [List.getElem_cons_succ, Nat.add_eq_zero_iff, Nat.one_ne_zero, and_false, decide_false, decide_eq_false_iff_not]
        omega
    · intro h
      have h0 := h 0 (by simp)
      simp only [List.getElem_cons_zero, decide_true, decide_eq_true_eq] at h0
      refine ⟨h0, fun y hy => ?_⟩
      obtain ⟨k, hk, rfl⟩ := List.getElem_of_mem hy
      have := h (k + 1) (by simpa using hk)
      simp at this
      omega
end Go.Proofs.YtianemmgaiblgabDoor
