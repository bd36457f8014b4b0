/- Some texts as one: TreP, TreU, TreX, TreF. -/
import Derived.Test.YtmbeamcjpidnjaaGreatDoorLexPs
import Derived.Test.YtmbeamcjpidnjaaGreatDoorFilPs
import Derived.Lib.IndexBytes
import Derived.Lib.Split
namespace Go.Proofs.YtmbeamcjpidnjaaGreatDoor
open Go

/-- A node of a statement. -/
structure Td where
  op : Int
  tx : ByteArray
  n : Int

/-- How many kids a node has. -/
def kdT (x : Td) : Nat := if x.op = 3 ∨ x.op = 4 then x.n.toNat else if x.op = 5 ∨ x.op = 6 then 2 else if x.op = 7 ∨ x.op = 8 then 1 else 0

/-- How many nodes so many statements take. -/
def cntT : List Td → Nat → Option Nat
  | _, 0 => some 0
  | [], _ + 1 => none
  | x :: r, m + 1 => (cntT r (kdT x + m)).map (· + 1)
theorem cntT_zero (ds : List Td) : cntT ds 0 = some 0 := by cases ds <;> rfl
theorem cntT_nil (m : Nat) : cntT [] (m + 1) = none := rfl
theorem cntT_cons (x : Td) (r : List Td) (m : Nat) : cntT (x :: r) (m + 1) = (cntT r (kdT x + m)).map (· + 1) := rfl

theorem cntT_le : ∀ (ds : List Td) (m k : Nat), cntT ds m = some k → m ≤ k ∧ k ≤ ds.length
  | ds, 0, k, h => by rw [cntT_zero] at h; cases h; simp
  | [], m + 1, k, h => by rw [cntT_nil] at h; cases h
  | x :: r, m + 1, k, h => by
    rw [cntT_cons, Option.map_eq_some_iff] at h
    obtain ⟨j, h1, rfl⟩ := h
    have := cntT_le r _ j h1
    simp
    omega

theorem cntT_add : ∀ (ds : List Td) (a b : Nat), cntT ds (a + b) = (cntT ds a).bind fun k => (cntT (ds.drop k) b).map (k + ·)
  | ds, 0, b => by
    rw [cntT_zero]
    simp
  | [], a + 1, b => by rw [show a + 1 + b = (a + b) + 1 by omega, cntT_nil, cntT_nil]; rfl
  | x :: r, a + 1, b => by
    rw [show a + 1 + b = (a + b) + 1 by omega, cntT_cons, cntT_cons, show kdT x + (a + b) = (kdT x + a) + b by omega, cntT_add r _ b]
    cases cntT r (kdT x + a) with
    | none => rfl
    | some k =>
      simp only [Option.bind_some, Option.map_some, List.drop_succ_cons]
      cases cntT (r.drop k) b with
      | none => rfl
      | some j => simp; omega

theorem cntT_mid : ∀ (ds : List Td) (m k i : Nat), cntT ds m = some k → i < k → ∃ m', cntT (ds.drop i) (m' + 1) = some (k - i)
  | ds, 0, k, i, h, hi => by rw [cntT_zero] at h; cases h; omega
  | [], m + 1, k, i, h, hi => by rw [cntT_nil] at h; cases h
  | x :: r, m + 1, k, i, h, hi => by
    cases i with
    | zero => exact ⟨m, h⟩
    | succ i =>
      rw [cntT_cons, Option.map_eq_some_iff] at h
      obtain ⟨j, h1, rfl⟩ := h
      obtain ⟨m', h2⟩ := cntT_mid r _ j i h1 (by omega)
      exact ⟨m', by rw [List.drop_succ_cons, h2]; congr 1; omega⟩

/-- Where so many statements that begin at a place end. -/
def endT (ds : List Td) (i m : Nat) : Option Nat := (cntT (ds.drop i) m).map (i + ·)
theorem endT_zero (ds : List Td) (i : Nat) : endT ds i 0 = some i := by simp [endT, cntT_zero]
theorem endT_out (ds : List Td) (i m : Nat) (h : ds.length ≤ i) : endT ds i (m + 1) = none := by
  rw [endT, List.drop_eq_nil_of_le h, cntT_nil]; rfl
theorem endT_step (ds : List Td) (i m : Nat) (h : i < ds.length) : endT ds i (m + 1) = endT ds (i + 1) (kdT ds[i] + m) := by
  rw [endT, List.drop_eq_getElem_cons h, cntT_cons, endT]
  cases cntT (ds.drop (i + 1)) (kdT ds[i] + m) with
  | none => rfl
  | some k => simp; omega
theorem endT_add (ds : List Td) (i a b : Nat) : endT ds i (a + b) = (endT ds i a).bind fun j => endT ds j b := by
  rw [endT, cntT_add, endT]
  cases cntT (ds.drop i) a with
  | none => rfl
  | some k =>
    simp only [Option.bind_some, Option.map_some, endT, List.drop_drop]
    cases cntT (ds.drop (i + k)) b with
    | none => rfl
    | some j => simp; omega
theorem endT_bd {ds : List Td} {i m j : Nat} (h : endT ds i m = some j) : i + m ≤ j ∧ (m = 0 ∨ j ≤ ds.length) := by
  rw [endT, Option.map_eq_some_iff] at h
  obtain ⟨k, h1, rfl⟩ := h
  have h2 := cntT_le _ _ _ h1
  rw [List.length_drop] at h2
  omega
theorem endT_mid {ds : List Td} {i : Nat} (h : endT ds 0 1 = some ds.length) (hi : i < ds.length) : ∃ j, endT ds i 1 = some j ∧ i < j ∧ j ≤ ds.length := by
  rw [endT, Option.map_eq_some_iff] at h
  obtain ⟨k, h1, h2⟩ := h
  have hk : k = ds.length := by omega
  subst hk
  obtain ⟨m', h3⟩ := cntT_mid _ _ _ i h1 hi
  rw [List.drop_zero, Nat.add_comm m' 1, cntT_add] at h3
  cases h4 : cntT (ds.drop i) 1 with
  | none => rw [h4] at h3; cases h3
  | some j =>
    have h5 : endT ds i 1 = some (i + j) := by rw [endT, h4]; rfl
    have h6 := endT_bd h5
    exact ⟨i + j, h5, by omega, by omega⟩

/-- A name. -/
def nameT (s : ByteArray) : Bool := decide (1 ≤ s.size) && decide (s.size ≤ 8) && decide (btL s ≠ [108, 101, 116]) && (btL s).all lowB
/-- Pieces between blanks. -/
def splB : List UInt8 → List (List UInt8)
  | [] => [[]]
  | c :: r => if c = 32 then [] :: splB r else match splB r with
    | [] => [[c]]
    | w :: ws => (c :: w) :: ws
theorem splB_ne (s : List UInt8) : splB s ≠ [] := by
  cases s with
  | nil => simp [splB]
  | cons c r =>
    simp only [splB]
    split
    · simp
    · split <;> simp
theorem splB_blank (r : List UInt8) : splB (32 :: r) = [] :: splB r := by simp [splB]
theorem splB_other {c : UInt8} (h : c ≠ 32) {r w : List UInt8} {ws : List (List UInt8)} (hr : splB r = w :: ws) : splB (c :: r) = (c :: w) :: ws := by
  simp only [splB, if_neg h, hr]
/-- Words ahead of a blank, and what is behind it. -/
theorem splB_app (u r : List UInt8) (h : ∀ b ∈ u, b ≠ 32) : splB (u ++ 32 :: r) = u :: splB r := by
  induction u with
  | nil => exact splB_blank r
  | cons c u ih =>
    have ih' := ih fun b hb => h b (by simp [hb])
    rw [List.cons_append, splB_other (h c (by simp)) ih']
theorem splB_one (u : List UInt8) (h : ∀ b ∈ u, b ≠ 32) : splB u = [u] := by
  induction u with
  | nil => rfl
  | cons c u ih => rw [splB_other (h c (by simp)) (ih fun b hb => h b (by simp [hb]))]
theorem splB_len (s : List UInt8) : (splB s).length ≤ s.length + 1 := by
  induction s with
  | nil => simp [splB]
  | cons c r ih =>
    simp only [splB]
    split
    · simp; omega
    · split
      · simp
      · rename_i h; rw [h] at ih; simp at ih ⊢; omega
/-- A note's words. -/
def noteW (s : List UInt8) : List (List UInt8) := if s = [] then [] else splB s
def noteF (s : ByteArray) : Int := wordsF ((noteW (btL s)).map wbS)

/-- Whether a node has a text. -/
def hasTx (op : Int) : Bool := decide (op = 2) || decide (op = 3) || decide (op = 7) || decide (op = 9)
/-- What is wrong with a node. -/
def nodT (x : Td) : Int :=
  if x.op < 1 ∨ 9 < x.op then 1
  else if (x.op = 1 ∧ (x.n < 0 ∨ 999999 < x.n)) ∨ ((x.op = 3 ∨ x.op = 4) ∧ (x.n < 0 ∨ 6 < x.n)) then 1
  else if (x.op ≠ 1 ∧ x.op ≠ 3 ∧ x.op ≠ 4 ∧ x.n ≠ 0) ∨ (hasTx x.op = false ∧ 0 < x.tx.size) then 2
  else if x.op = 9 then noteF x.tx
  else if hasTx x.op = true ∧ nameT x.tx = false then 5 else 0
/-- The first node's fault. -/
def fstT : List Td → Int
  | [] => 0
  | x :: r => if nodT x = 0 then fstT r else nodT x
theorem fstT_all : ∀ (ds : List Td), (∀ x ∈ ds, nodT x = 0) → fstT ds = 0
  | [], _ => rfl
  | x :: r, h => by rw [fstT, if_pos (h x (by simp)), fstT_all r fun y hy => h y (by simp [hy])]
theorem fstT_zero : ∀ (ds : List Td), fstT ds = 0 → ∀ x ∈ ds, nodT x = 0
  | [], _ => by simp
  | x :: r, h => by
    rw [fstT] at h
    split at h
    · rename_i h0
      intro y hy
      rcases List.mem_cons.1 hy with rfl | hy
      · exact h0
      · exact fstT_zero r h y hy
    · rename_i h0
      exact absurd h h0
theorem fstT_at : ∀ (ds : List Td) (k : Nat) (h : k < ds.length), (∀ x ∈ ds.take k, nodT x = 0) → nodT ds[k] ≠ 0 → fstT ds = nodT ds[k]
  | x :: r, 0, _, _, h => by
    have h' : nodT x ≠ 0 := h
    rw [fstT, if_neg h']; rfl
  | x :: r, k + 1, hk, ha, h => by
    rw [fstT, if_pos (ha x (by simp)), fstT_at r k (by simpa using hk) (fun y hy => ha y (by simp [hy])) h]
    rfl
/-- Let, Do and Note stand first, and nowhere else. -/
def topT (ds : List Td) : Bool := match ds with
  | [] => true
  | x :: r => decide (7 ≤ x.op) && r.all fun y => decide (y.op < 7)
/-- What is wrong with a statement. -/
def treeF (ds : List Td) : Int :=
  if 40 < ds.length then 3 else if fstT ds ≠ 0 then fstT ds else if endT ds 0 1 = some ds.length ∧ topT ds = true then 0 else 2
theorem treeF_zero {ds : List Td} (h : treeF ds = 0) : ds.length ≤ 40 ∧ (∀ x ∈ ds, nodT x = 0) ∧ endT ds 0 1 = some ds.length ∧ topT ds = true := by
  unfold treeF at h
  split at h
  · cases h
  · split at h
    · rename_i h1; exact absurd h h1
    · rename_i h0 h1
      split at h
      · rename_i h2
        exact ⟨by omega, fstT_zero ds (by omega), h2.1, h2.2⟩
      · cases h
theorem kdT_le {x : Td} (h : nodT x = 0) : kdT x ≤ 6 := by
  unfold nodT at h
  split at h
  · cases h
  · split at h
    · cases h
    · rename_i h1 h2
      unfold kdT
      split
      · omega
      · split
        · omega
        · split <;> omega
end Go.Proofs.YtmbeamcjpidnjaaGreatDoor
namespace Go.Proofs.YtmbeamcjpidnjaaGreatDoor
open Go

theorem nodT_0 {op : Int} {tx : ByteArray} {n : Int} (_h0 : op < 1) : nodT ⟨op, tx, n⟩ = 1 := by
  unfold nodT
  (repeat' split) <;> first | rfl | (exfalso; omega) | (exfalso; simp_all; done) | (exfalso; simp_all <;> omega) | (simp_all; done)
theorem nodT_1 {op : Int} {tx : ByteArray} {n : Int} (_h0 : ¬ op < 1) (_h1 : 9 < op) : nodT ⟨op, tx, n⟩ = 1 := by
  unfold nodT
  (repeat' split) <;> first | rfl | (exfalso; omega) | (exfalso; simp_all; done) | (exfalso; simp_all <;> omega) | (simp_all; done)
theorem nodT_2 {tx : ByteArray} {n : Int} (_h0 : n < 0) : nodT ⟨1, tx, n⟩ = 1 := by
  have ht : hasTx 1 = false := rfl
  unfold nodT
  (repeat' split) <;> first | rfl | (exfalso; omega) | (exfalso; simp_all; done) | (exfalso; simp_all <;> omega) | (simp_all; done)
theorem nodT_3 {tx : ByteArray} {n : Int} (_h0 : ¬ n < 0) (_h1 : 999999 < n) : nodT ⟨1, tx, n⟩ = 1 := by
  have ht : hasTx 1 = false := rfl
  unfold nodT
  (repeat' split) <;> first | rfl | (exfalso; omega) | (exfalso; simp_all; done) | (exfalso; simp_all <;> omega) | (simp_all; done)
theorem nodT_4 {tx : ByteArray} {n : Int} (_h0 : ¬ n < 0) (_h1 : ¬ 999999 < n) (_h2 : 0 < (tx.size : Int)) : nodT ⟨1, tx, n⟩ = 2 := by
  have ht : hasTx 1 = false := rfl
  unfold nodT
  (repeat' split) <;> first | rfl | (exfalso; omega) | (exfalso; simp_all; done) | (exfalso; simp_all <;> omega) | (simp_all; done)
theorem nodT_5 {tx : ByteArray} {n : Int} (_h0 : ¬ n < 0) (_h1 : ¬ 999999 < n) (_h2 : ¬ 0 < (tx.size : Int)) : nodT ⟨1, tx, n⟩ = 0 := by
  have ht : hasTx 1 = false := rfl
  unfold nodT
  (repeat' split) <;> first | rfl | (exfalso; omega) | (exfalso; simp_all; done) | (exfalso; simp_all <;> omega) | (simp_all; done)
theorem nodT_6 {tx : ByteArray} {n : Int} (_h0 : ¬ n = 0) : nodT ⟨2, tx, n⟩ = 2 := by
  have ht : hasTx 2 = true := rfl
  unfold nodT
  (repeat' split) <;> first | rfl | (exfalso; omega) | (exfalso; simp_all; done) | (exfalso; simp_all <;> omega) | (simp_all; done)
theorem nodT_7 {tx : ByteArray} {n : Int} (_h0 : n = 0) (_h1 : nameT tx = true) : nodT ⟨2, tx, n⟩ = 0 := by
  have ht : hasTx 2 = true := rfl
  unfold nodT
  (repeat' split) <;> first | rfl | (exfalso; omega) | (exfalso; simp_all; done) | (exfalso; simp_all <;> omega) | (simp_all; done)
theorem nodT_8 {tx : ByteArray} {n : Int} (_h0 : n = 0) (_h1 : nameT tx = false) : nodT ⟨2, tx, n⟩ = 5 := by
  have ht : hasTx 2 = true := rfl
  unfold nodT
  (repeat' split) <;> first | rfl | (exfalso; omega) | (exfalso; simp_all; done) | (exfalso; simp_all <;> omega) | (simp_all; done)
theorem nodT_9 {tx : ByteArray} {n : Int} (_h0 : n < 0) : nodT ⟨3, tx, n⟩ = 1 := by
  have ht : hasTx 3 = true := rfl
  unfold nodT
  (repeat' split) <;> first | rfl | (exfalso; omega) | (exfalso; simp_all; done) | (exfalso; simp_all <;> omega) | (simp_all; done)
theorem nodT_10 {tx : ByteArray} {n : Int} (_h0 : ¬ n < 0) (_h1 : 6 < n) : nodT ⟨3, tx, n⟩ = 1 := by
  have ht : hasTx 3 = true := rfl
  unfold nodT
  (repeat' split) <;> first | rfl | (exfalso; omega) | (exfalso; simp_all; done) | (exfalso; simp_all <;> omega) | (simp_all; done)
theorem nodT_11 {tx : ByteArray} {n : Int} (_h0 : ¬ n < 0) (_h1 : ¬ 6 < n) (_h2 : nameT tx = true) : nodT ⟨3, tx, n⟩ = 0 := by
  have ht : hasTx 3 = true := rfl
  unfold nodT
  (repeat' split) <;> first | rfl | (exfalso; omega) | (exfalso; simp_all; done) | (exfalso; simp_all <;> omega) | (simp_all; done)
theorem nodT_12 {tx : ByteArray} {n : Int} (_h0 : ¬ n < 0) (_h1 : ¬ 6 < n) (_h2 : nameT tx = false) : nodT ⟨3, tx, n⟩ = 5 := by
  have ht : hasTx 3 = true := rfl
  unfold nodT
  (repeat' split) <;> first | rfl | (exfalso; omega) | (exfalso; simp_all; done) | (exfalso; simp_all <;> omega) | (simp_all; done)
theorem nodT_13 {tx : ByteArray} {n : Int} (_h0 : n < 0) : nodT ⟨4, tx, n⟩ = 1 := by
  have ht : hasTx 4 = false := rfl
  unfold nodT
  (repeat' split) <;> first | rfl | (exfalso; omega) | (exfalso; simp_all; done) | (exfalso; simp_all <;> omega) | (simp_all; done)
theorem nodT_14 {tx : ByteArray} {n : Int} (_h0 : ¬ n < 0) (_h1 : 6 < n) : nodT ⟨4, tx, n⟩ = 1 := by
  have ht : hasTx 4 = false := rfl
  unfold nodT
  (repeat' split) <;> first | rfl | (exfalso; omega) | (exfalso; simp_all; done) | (exfalso; simp_all <;> omega) | (simp_all; done)
theorem nodT_15 {tx : ByteArray} {n : Int} (_h0 : ¬ n < 0) (_h1 : ¬ 6 < n) (_h2 : 0 < (tx.size : Int)) : nodT ⟨4, tx, n⟩ = 2 := by
  have ht : hasTx 4 = false := rfl
  unfold nodT
  (repeat' split) <;> first | rfl | (exfalso; omega) | (exfalso; simp_all; done) | (exfalso; simp_all <;> omega) | (simp_all; done)
theorem nodT_16 {tx : ByteArray} {n : Int} (_h0 : ¬ n < 0) (_h1 : ¬ 6 < n) (_h2 : ¬ 0 < (tx.size : Int)) : nodT ⟨4, tx, n⟩ = 0 := by
  have ht : hasTx 4 = false := rfl
  unfold nodT
  (repeat' split) <;> first | rfl | (exfalso; omega) | (exfalso; simp_all; done) | (exfalso; simp_all <;> omega) | (simp_all; done)
theorem nodT_17 {tx : ByteArray} {n : Int} (_h0 : ¬ n = 0) : nodT ⟨5, tx, n⟩ = 2 := by
  have ht : hasTx 5 = false := rfl
  unfold nodT
  (repeat' split) <;> first | rfl | (exfalso; omega) | (exfalso; simp_all; done) | (exfalso; simp_all <;> omega) | (simp_all; done)
theorem nodT_18 {tx : ByteArray} {n : Int} (_h0 : n = 0) (_h1 : 0 < (tx.size : Int)) : nodT ⟨5, tx, n⟩ = 2 := by
  have ht : hasTx 5 = false := rfl
  unfold nodT
  (repeat' split) <;> first | rfl | (exfalso; omega) | (exfalso; simp_all; done) | (exfalso; simp_all <;> omega) | (simp_all; done)
theorem nodT_19 {tx : ByteArray} {n : Int} (_h0 : n = 0) (_h1 : ¬ 0 < (tx.size : Int)) : nodT ⟨5, tx, n⟩ = 0 := by
  have ht : hasTx 5 = false := rfl
  unfold nodT
  (repeat' split) <;> first | rfl | (exfalso; omega) | (exfalso; simp_all; done) | (exfalso; simp_all <;> omega) | (simp_all; done)
theorem nodT_20 {tx : ByteArray} {n : Int} (_h0 : ¬ n = 0) : nodT ⟨6, tx, n⟩ = 2 := by
  have ht : hasTx 6 = false := rfl
  unfold nodT
  (repeat' split) <;> first | rfl | (exfalso; omega) | (exfalso; simp_all; done) | (exfalso; simp_all <;> omega) | (simp_all; done)
theorem nodT_21 {tx : ByteArray} {n : Int} (_h0 : n = 0) (_h1 : 0 < (tx.size : Int)) : nodT ⟨6, tx, n⟩ = 2 := by
  have ht : hasTx 6 = false := rfl
  unfold nodT
  (repeat' split) <;> first | rfl | (exfalso; omega) | (exfalso; simp_all; done) | (exfalso; simp_all <;> omega) | (simp_all; done)
theorem nodT_22 {tx : ByteArray} {n : Int} (_h0 : n = 0) (_h1 : ¬ 0 < (tx.size : Int)) : nodT ⟨6, tx, n⟩ = 0 := by
  have ht : hasTx 6 = false := rfl
  unfold nodT
  (repeat' split) <;> first | rfl | (exfalso; omega) | (exfalso; simp_all; done) | (exfalso; simp_all <;> omega) | (simp_all; done)
theorem nodT_23 {tx : ByteArray} {n : Int} (_h0 : ¬ n = 0) : nodT ⟨7, tx, n⟩ = 2 := by
  have ht : hasTx 7 = true := rfl
  unfold nodT
  (repeat' split) <;> first | rfl | (exfalso; omega) | (exfalso; simp_all; done) | (exfalso; simp_all <;> omega) | (simp_all; done)
theorem nodT_24 {tx : ByteArray} {n : Int} (_h0 : n = 0) (_h1 : nameT tx = true) : nodT ⟨7, tx, n⟩ = 0 := by
  have ht : hasTx 7 = true := rfl
  unfold nodT
  (repeat' split) <;> first | rfl | (exfalso; omega) | (exfalso; simp_all; done) | (exfalso; simp_all <;> omega) | (simp_all; done)
theorem nodT_25 {tx : ByteArray} {n : Int} (_h0 : n = 0) (_h1 : nameT tx = false) : nodT ⟨7, tx, n⟩ = 5 := by
  have ht : hasTx 7 = true := rfl
  unfold nodT
  (repeat' split) <;> first | rfl | (exfalso; omega) | (exfalso; simp_all; done) | (exfalso; simp_all <;> omega) | (simp_all; done)
theorem nodT_26 {tx : ByteArray} {n : Int} (_h0 : ¬ n = 0) : nodT ⟨8, tx, n⟩ = 2 := by
  have ht : hasTx 8 = false := rfl
  unfold nodT
  (repeat' split) <;> first | rfl | (exfalso; omega) | (exfalso; simp_all; done) | (exfalso; simp_all <;> omega) | (simp_all; done)
theorem nodT_27 {tx : ByteArray} {n : Int} (_h0 : n = 0) (_h1 : 0 < (tx.size : Int)) : nodT ⟨8, tx, n⟩ = 2 := by
  have ht : hasTx 8 = false := rfl
  unfold nodT
  (repeat' split) <;> first | rfl | (exfalso; omega) | (exfalso; simp_all; done) | (exfalso; simp_all <;> omega) | (simp_all; done)
theorem nodT_28 {tx : ByteArray} {n : Int} (_h0 : n = 0) (_h1 : ¬ 0 < (tx.size : Int)) : nodT ⟨8, tx, n⟩ = 0 := by
  have ht : hasTx 8 = false := rfl
  unfold nodT
  (repeat' split) <;> first | rfl | (exfalso; omega) | (exfalso; simp_all; done) | (exfalso; simp_all <;> omega) | (simp_all; done)
theorem nodT_29 {tx : ByteArray} {n : Int} (_h0 : ¬ n = 0) : nodT ⟨9, tx, n⟩ = 2 := by
  have ht : hasTx 9 = true := rfl
  unfold nodT
  (repeat' split) <;> first | rfl | (exfalso; omega) | (exfalso; simp_all; done) | (exfalso; simp_all <;> omega) | (simp_all; done)
theorem nodT_30 {tx : ByteArray} {n : Int} (_h0 : n = 0) (_h1 : noteF tx = 0) : nodT ⟨9, tx, n⟩ = 0 := by
  have ht : hasTx 9 = true := rfl
  unfold nodT
  (repeat' split) <;> first | rfl | (exfalso; omega) | (exfalso; simp_all; done) | (exfalso; simp_all <;> omega) | (simp_all; done)
theorem nodT_31 {tx : ByteArray} {n : Int} (_h0 : n = 0) (_h1 : ¬ noteF tx = 0) : nodT ⟨9, tx, n⟩ = noteF tx := by
  have ht : hasTx 9 = true := rfl
  unfold nodT
  (repeat' split) <;> first | rfl | (exfalso; omega) | (exfalso; simp_all; done) | (exfalso; simp_all <;> omega) | (simp_all; done)
theorem treeF_long {ds : List Td} (h : 40 < ds.length) : treeF ds = 3 := by rw [treeF, if_pos h]
theorem treeF_node {ds : List Td} {k : Nat} (hl : ds.length ≤ 40) (hk : k < ds.length) (ha : ∀ x ∈ ds.take k, nodT x = 0) (h : nodT ds[k] ≠ 0) : treeF ds = nodT ds[k] := by
  have e := fstT_at ds k hk ha h
  rw [treeF, if_neg (by omega), if_pos (by rw [e]; exact h), e]
theorem treeF_end {ds : List Td} (hl : ds.length ≤ 40) (ha : ∀ x ∈ ds, nodT x = 0) : treeF ds = if endT ds 0 1 = some ds.length ∧ topT ds = true then 0 else 2 := by
  rw [treeF, if_neg (by omega), if_neg (by rw [fstT_all ds ha]; simp)]
theorem take_moreT {ds : List Td} {k : Nat} (h : k < ds.length) (ha : ∀ x ∈ ds.take k, nodT x = 0) (h0 : nodT ds[k] = 0) : ∀ x ∈ ds.take (k + 1), nodT x = 0 := by
  intro x hx
  rw [List.take_succ_eq_append_getElem h] at hx
  rcases List.mem_append.1 hx with hx | hx
  · exact ha x hx
  · simp at hx; subst hx; exact h0
theorem topT_iff {ds : List Td} : topT ds = true ↔ ∀ k (h : k < ds.length), decide (7 ≤ ds[k].op) = decide (k = 0) := by
  cases ds with
  | nil => simp [topT]
  | cons x r =>
    simp only [topT, Bool.and_eq_true, decide_eq_true_eq, List.all_eq_true]
    constructor
    · rintro ⟨h1, h2⟩ k hk
      cases k with
      | zero => simpa using h1
      | succ k =>
        have := h2 (r[k]'(by simpa using hk)) (List.getElem_mem _)
        simp only [List.getElem_cons_succ, Nat.add_eq_zero_iff, Nat.one_ne_zero, and_false, decide_false, decide_eq_false_iff_not]
        omega
    · intro h
      have h0 := h 0 (by simp)
      simp only [List.getElem_cons_zero, decide_true, decide_eq_true_eq] at h0
      refine ⟨h0, fun y hy => ?_⟩
      obtain ⟨k, hk, rfl⟩ := List.getElem_of_mem hy
      have := h (k + 1) (by simpa using hk)
      simp at this
      omega
end Go.Proofs.YtmbeamcjpidnjaaGreatDoor
namespace Go.Proofs.YtmbeamcjpidnjaaGreatDoor
open Go

theorem let_eq {s : ByteArray} : btL s = [108, 101, 116] ↔ s = ⟨#[108, 101, 116]⟩ := by
  constructor
  · intro h
    apply ByteArray.ext
    apply Array.ext'
    exact h
  · intro h; rw [h]
theorem nameT_all {s : ByteArray} (h1 : 1 ≤ s.size) (h2 : s.size ≤ 8) (h3 : ¬ s = ⟨#[108, 101, 116]⟩) (h : ∀ k (h : k < s.size), lowB s[k] = true) : nameT s = true := by
  have h3' : btL s ≠ [108, 101, 116] := fun e => h3 (let_eq.1 e)
  simp only [nameT, h1, h2, h3', decide_true, Bool.true_and, List.all_eq_true, ne_eq, not_false_eq_true]
  intro b hb
  obtain ⟨i, hi, rfl⟩ := List.getElem_of_mem hb
  exact h i (by rw [← btL_len]; exact hi)
theorem nameT_not {s : ByteArray} {k : Nat} (h : k < s.size) (hb : lowB s[k] = false) : nameT s = false := by
  cases e : nameT s with
  | false => rfl
  | true =>
    simp only [nameT, Bool.and_eq_true, List.all_eq_true] at e
    have hl : k < (btL s).length := by rw [btL_len]; exact h
    have := e.2 s[k] (List.getElem_mem hl)
    rw [hb] at this
    cases this
theorem nameT_short {s : ByteArray} (h : s.size < 1) : nameT s = false := by
  have : decide (1 ≤ s.size) = false := decide_eq_false (by omega)
  simp [nameT, this]
theorem nameT_long {s : ByteArray} (h : 8 < s.size) : nameT s = false := by
  have : decide (s.size ≤ 8) = false := decide_eq_false (by omega)
  simp [nameT, this]
theorem wbS_bt (s : ByteArray) : wbS (btL s) = s := by
  obtain ⟨d⟩ := s
  simp [wbS, btL]
theorem cutw_miss {l : List UInt8} (h : Lib.indexByte l 32 = -1) : ∀ b ∈ l, b ≠ 32 := by
  intro b hb e
  subst e
  obtain ⟨k, hk⟩ := List.getElem?_of_mem hb
  exact Lib.indexByte_none h k hk
theorem cutw_hit {l : List UInt8} {i : Nat} (h : Lib.indexByte l 32 = i) : i < l.length ∧ l = l.take i ++ 32 :: l.drop (i + 1) ∧ ∀ b ∈ l.take i, b ≠ 32 := by
  obtain ⟨h1, h2⟩ := Lib.indexByte_some h
  obtain ⟨hi, h3⟩ := List.getElem?_eq_some_iff.1 h1
  refine ⟨hi, ?_, ?_⟩
  · have := (List.take_append_drop i l).symm
    rw [List.drop_eq_getElem_cons hi, h3] at this
    exact this
  · intro b hb e
    subst e
    obtain ⟨k, hk⟩ := List.getElem?_of_mem hb
    rw [List.getElem?_take] at hk
    split at hk
    · rename_i hki; exact h2 k hki hk
    · cases hk
/-- Pieces between blanks, by so many cuts at most. -/
def spK : Nat → ByteArray → List ByteArray
  | 0, s => [s]
  | k + 1, s => if Lib.indexByte s.data.toList 32 = -1 then [s] else s.extract 0 (Lib.indexByte s.data.toList 32).toNat :: spK k (s.extract ((Lib.indexByte s.data.toList 32).toNat + 1) s.size)
theorem spK_zero (s : ByteArray) : spK 0 s = [s] := rfl
theorem spK_miss (k : Nat) {s : ByteArray} (h : Lib.indexByte s.data.toList 32 = -1) : spK k s = [s] := by
  cases k with
  | zero => rfl
  | succ k => rw [spK, if_pos h]
theorem spK_hit (k : Nat) {s : ByteArray} {i : Nat} (h : Lib.indexByte s.data.toList 32 = i) : spK (k + 1) s = s.extract 0 i :: spK k (s.extract (i + 1) s.size) := by
  rw [spK, if_neg (by omega), h]; rfl
theorem bt_to (s : ByteArray) (i : Nat) : btL (s.extract 0 i) = (btL s).take i := by
  rw [wbS_ext, List.drop_zero, Nat.sub_zero]; rfl
theorem bt_from (s : ByteArray) (i : Nat) : btL (s.extract i s.size) = (btL s).drop i := Lib.extract_to_end s i
theorem spw_cases (s : ByteArray) : Lib.indexByte s.data.toList 32 = -1 ∨ ∃ i : Nat, Lib.indexByte s.data.toList 32 = i ∧ i < s.size := by
  have hge := Lib.indexByte_ge s.data.toList 32
  by_cases h : Lib.indexByte s.data.toList 32 = -1
  · exact .inl h
  · refine .inr ⟨(Lib.indexByte s.data.toList 32).toNat, by omega, ?_⟩
    have := (cutw_hit (l := btL s) (i := (Lib.indexByte s.data.toList 32).toNat) (by show Lib.indexByte s.data.toList 32 = _; omega)).1
    rw [btL_len] at this
    exact this
theorem spw_step {s : ByteArray} {i : Nat} (h : Lib.indexByte s.data.toList 32 = i) : splB (btL s) = btL (s.extract 0 i) :: splB (btL (s.extract (i + 1) s.size)) := by
  obtain ⟨_, h2, h3⟩ := cutw_hit (l := btL s) h
  rw [bt_to, bt_from]
  conv => lhs; rw [h2]
  rw [splB_app _ _ h3]
theorem spw_one {s : ByteArray} (h : Lib.indexByte s.data.toList 32 = -1) : splB (btL s) = [btL s] := splB_one _ (cutw_miss (l := btL s) h)
theorem spw_size {s : ByteArray} {i : Nat} (h : i < s.size) : (s.extract (i + 1) s.size).size = s.size - (i + 1) := by
  rw [ByteArray.size_extract]; omega
theorem spK_all : ∀ (k : Nat) (s : ByteArray), s.size ≤ k → (spK k s).map btL = splB (btL s)
  | 0, s, h => by
    have e : btL s = [] := List.eq_nil_of_length_eq_zero (by rw [btL_len]; omega)
    rw [spK_zero, List.map_cons, List.map_nil, e]; rfl
  | k + 1, s, h => by
    rcases spw_cases s with h1 | ⟨i, h1, h2⟩
    · rw [spK_miss _ h1, spw_one h1]; rfl
    · rw [spK_hit k h1, spw_step h1, List.map_cons, spK_all k _ (by rw [spw_size h2]; omega)]
theorem spK_few : ∀ (k : Nat) (s : ByteArray), (spK k s).length ≤ k → (spK k s).map btL = splB (btL s)
  | 0, s, h => by rw [spK_zero] at h; simp at h
  | k + 1, s, h => by
    rcases spw_cases s with h1 | ⟨i, h1, h2⟩
    · rw [spK_miss _ h1, spw_one h1]; rfl
    · rw [spK_hit k h1] at h ⊢
      rw [List.length_cons] at h
      rw [spw_step h1, List.map_cons, spK_few k _ (by omega)]
theorem spK_le : ∀ (k : Nat) (s : ByteArray), (spK k s).length ≤ (splB (btL s)).length
  | 0, s => by
    rw [spK_zero]
    have := splB_ne (btL s)
    cases h : splB (btL s) with
    | nil => exact absurd h this
    | cons a b => simp
  | k + 1, s => by
    rcases spw_cases s with h1 | ⟨i, h1, h2⟩
    · rw [spK_miss _ h1, spw_one h1]; simp
    · rw [spK_hit k h1, spw_step h1, List.length_cons, List.length_cons]
      have := spK_le k (s.extract (i + 1) s.size)
      omega
theorem spK_len : ∀ (k : Nat) (s : ByteArray), 1 ≤ (spK k s).length ∧ (spK k s).length ≤ k + 1
  | 0, s => by rw [spK_zero]; simp
  | k + 1, s => by
    rcases spw_cases s with h1 | ⟨i, h1, h2⟩
    · rw [spK_miss _ h1]; simp
    · rw [spK_hit k h1, List.length_cons]
      have := spK_len k (s.extract (i + 1) s.size)
      omega
theorem back_bt {l : List ByteArray} {m : List (List UInt8)} (h : l.map btL = m) : l = m.map wbS := by
  subst h
  rw [List.map_map]
  have : (wbS ∘ btL) = id := by funext s; exact wbS_bt s
  rw [this, List.map_id]
/-- Cut short or not, the words have the same fault. -/
theorem spK_fault (s : ByteArray) (k : Nat) (hk : k = min 60 s.size) : wordsF (spK k s) = wordsF ((splB (btL s)).map wbS) := by
  by_cases h : s.size ≤ 60
  · rw [back_bt (spK_all k s (by omega))]
  · have hk' : k = 60 := by omega
    subst hk'
    by_cases hl : (spK 60 s).length ≤ 60
    · rw [back_bt (spK_few 60 s hl)]
    · have h1 := spK_le 60 s
      rw [wordsF_full (by omega), wordsF_full (by rw [List.length_map]; omega)]
theorem note_spK {s : ByteArray} (h : 0 < s.size) (k : Nat) (hk : k = min 60 s.size) : wordsF (spK k s) = noteF s := by
  rw [spK_fault s k hk, noteF, noteW, if_neg]
  intro e
  have := congrArg List.length e
  rw [btL_len, List.length_nil] at this
  omega
theorem note_none {s : ByteArray} (h : s.size = 0) : noteF s = 0 := by
  have e : btL s = [] := List.eq_nil_of_length_eq_zero (by rw [btL_len]; exact h)
  rw [noteF, noteW, if_pos e]; rfl
end Go.Proofs.YtmbeamcjpidnjaaGreatDoor
namespace Go.Proofs.YtmbeamcjpidnjaaGreatDoor
open Go

/-- The first node's op. -/
def opT (t : List Td) : Int := match t with
  | [] => 0
  | x :: _ => x.op
theorem opT_get {t : List Td} (h : 0 < t.length) : opT t = t[0].op := by
  cases t with
  | nil => simp at h
  | cons x r => rfl
/-- The first statement that is wrong, and how. -/
def progG (prev : Int) (k : Nat) : List (List Td) → Nat × Int
  | [] => (0, 0)
  | t :: r => if treeF t ≠ 0 then (k, treeF t) else if opT t = 9 ∧ prev = 9 then (k, 2) else progG (opT t) (k + 1) r
def progF (ps : List (List Td)) : Nat × Int := if 20 < ps.length then (0, 3) else progG 0 0 ps
theorem treeF_ne {t : List Td} (h : treeF t = 0) : 0 < t.length := by
  rcases Nat.eq_zero_or_pos t.length with h0 | h0
  · have : t = [] := List.eq_nil_of_length_eq_zero h0
    subst this
    have := (treeF_zero h).2.2.1
    rw [endT_out [] 0 0 (by simp)] at this
    cases this
  · exact h0
def prevT (ps : List (List Td)) (k : Nat) : Int := if k = 0 then 0 else opT (ps.getD (k - 1) [])
theorem prevT_next {ps : List (List Td)} {k : Nat} (h : k < ps.length) : prevT ps (k + 1) = opT ps[k] := by
  simp [prevT, h]
theorem progG_bad {ps : List (List Td)} {k : Nat} {prev : Int} (h : k < ps.length) (he : treeF ps[k] ≠ 0) : progG prev k (ps.drop k) = (k, treeF ps[k]) := by
  rw [List.drop_eq_getElem_cons h, progG, if_pos he]
theorem progG_two {ps : List (List Td)} {k : Nat} {prev : Int} (h : k < ps.length) (he : treeF ps[k] = 0) (h2 : opT ps[k] = 9 ∧ prev = 9) : progG prev k (ps.drop k) = (k, 2) := by
  rw [List.drop_eq_getElem_cons h, progG, if_neg (by simp [he]), if_pos h2]
theorem progG_next {ps : List (List Td)} {k : Nat} {prev : Int} (h : k < ps.length) (he : treeF ps[k] = 0) (h2 : ¬ (opT ps[k] = 9 ∧ prev = 9)) : progG prev k (ps.drop k) = progG (prevT ps (k + 1)) (k + 1) (ps.drop (k + 1)) := by
  rw [List.drop_eq_getElem_cons h, progG, if_neg (by simp [he]), if_neg h2, prevT_next h]

end Go.Proofs.YtmbeamcjpidnjaaGreatDoor
