/- Statements, plainly: nodes, where a node and its kids end, names, notes' words; what is wrong. -/
import Derived.Test.YtianemmgaiblgabDoorLexB
import Derived.Test.YtianemmgaiblgabDoorFilP
namespace Go.Proofs.YtianemmgaiblgabDoor
open Go

/-- A node of a statement. -/
structure Td where
  op : Int
  tx : ByteArray
  n : Int

/-- How many kids a node has. -/
def kdT (x : Td) : Nat := if x.op = 3 ∨ x.op = 4 then x.n.toNat else if x.op = 5 ∨ x.op = 6 then 2 else if x.op = 7 ∨ x.op = 8 then 1 else 0

/-- How many nodes so many statements take. -/
def cntT : List Td → Nat → Option Nat
  | _, 0 => some 0
  | [], _ + 1 => none
  | x :: r, m + 1 => (cntT r (kdT x + m)).map (· + 1)
theorem cntT_zero (ds : List Td) : cntT ds 0 = some 0 := by cases ds <;> rfl
theorem cntT_nil (m : Nat) : cntT [] (m + 1) = none := rfl
theorem cntT_cons (x : Td) (r : List Td) (m : Nat) : cntT (x :: r) (m + 1) = (cntT r (kdT x + m)).map (· + 1) := rfl

theorem cntT_le : ∀ (ds : List Td) (m k : Nat), cntT ds m = some k → m ≤ k ∧ k ≤ ds.length
  | ds, 0, k, h => by rw [cntT_zero] at h; cases h; simp
  | [], m + 1, k, h => by rw [cntT_nil] at h; cases h
  | x :: r, m + 1, k, h => by
    rw [cntT_cons, Option.map_eq_some_iff] at h
    obtain ⟨j, h1, rfl⟩ := h
    have := cntT_le r _ j h1
    simp
    omega

theorem cntT_add : ∀ (ds : List Td) (a b : Nat), cntT ds (a + b) = (cntT ds a).bind fun k => (cntT (ds.drop k) b).map (k + ·)
  | ds, 0, b => by
    rw [cntT_zero]
    simp
  | [], a + 1, b => by rw [show a + 1 + b = (a + b) + 1 by omega, cntT_nil, cntT_nil]; rfl
  | x :: r, a + 1, b => by
    rw [show a + 1 + b = (a + b) + 1 by omega, cntT_cons, cntT_cons, show kdT x + (a + b) = (kdT x + a) + b by omega, cntT_add r _ b]
    cases cntT r (kdT x + a) with
    | none => rfl
    | some k =>
      simp only [Option.bind_some, Option.map_some, List.drop_succ_cons]
      cases cntT (r.drop k) b with
      | none => rfl
      | some j => simp; omega

theorem cntT_mid : ∀ (ds : List Td) (m k i : Nat), cntT ds m = some k → i < k → ∃ m', cntT (ds.drop i) (m' + 1) = some (k - i)
  | ds, 0, k, i, h, hi => by rw [cntT_zero] at h; cases h; omega
  | [], m + 1, k, i, h, hi => by rw [cntT_nil] at h; cases h
  | x :: r, m + 1, k, i, h, hi => by
    cases i with
    | zero => exact ⟨m, h⟩
    | succ i =>
      rw [cntT_cons, Option.map_eq_some_iff] at h
      obtain ⟨j, h1, rfl⟩ := h
      obtain ⟨m', h2⟩ := cntT_mid r _ j i h1 (by omega)
      exact ⟨m', by rw [List.drop_succ_cons, h2]; congr 1; omega⟩

/-- Where so many statements that begin at a place end. -/
def endT (ds : List Td) (i m : Nat) : Option Nat := (cntT (ds.drop i) m).map (i + ·)
theorem endT_zero (ds : List Td) (i : Nat) : endT ds i 0 = some i := by simp [endT, cntT_zero]
theorem endT_out (ds : List Td) (i m : Nat) (h : ds.length ≤ i) : endT ds i (m + 1) = none := by
  rw [endT, List.drop_eq_nil_of_le h, cntT_nil]; rfl
theorem endT_step (ds : List Td) (i m : Nat) (h : i < ds.length) : endT ds i (m + 1) = endT ds (i + 1) (kdT ds[i] + m) := by
  rw [endT, List.drop_eq_getElem_cons h, cntT_cons, endT]
  cases cntT (ds.drop (i + 1)) (kdT ds[i] + m) with
  | none => rfl
  | some k => simp; omega
theorem endT_add (ds : List Td) (i a b : Nat) : endT ds i (a + b) = (endT ds i a).bind fun j => endT ds j b := by
  rw [endT, cntT_add, endT]
  cases cntT (ds.drop i) a with
  | none => rfl
  | some k =>
    simp only [Option.bind_some, Option.map_some, endT, List.drop_drop]
    cases cntT (ds.drop (i + k)) b with
    | none => rfl
    | some j => simp; omega
theorem endT_bd {ds : List Td} {i m j : Nat} (h : endT ds i m = some j) : i + m ≤ j ∧ (m = 0 ∨ j ≤ ds.length) := by
  rw [endT, Option.map_eq_some_iff] at h
  obtain ⟨k, h1, rfl⟩ := h
  have h2 := cntT_le _ _ _ h1
  rw [List.length_drop] at h2
  omega
theorem endT_mid {ds : List Td} {i : Nat} (h : endT ds 0 1 = some ds.length) (hi : i < ds.length) : ∃ j, endT ds i 1 = some j ∧ i < j ∧ j ≤ ds.length := by
  rw [endT, Option.map_eq_some_iff] at h
  obtain ⟨k, h1, h2⟩ := h
  have hk : k = ds.length := by omega
  subst hk
  obtain ⟨m', h3⟩ := cntT_mid _ _ _ i h1 hi
  rw [List.drop_zero, Nat.add_comm m' 1, cntT_add] at h3
  cases h4 : cntT (ds.drop i) 1 with
  | none => rw [h4] at h3; cases h3
  | some j =>
    have h5 : endT ds i 1 = some (i + j) := by rw [endT, h4]; rfl
    have h6 := endT_bd h5
    exact ⟨i + j, h5, by omega, by omega⟩

/-- A name. -/
def nameT (s : ByteArray) : Bool := decide (1 ≤ s.size) && decide (s.size ≤ 8) && decide (btL s ≠ [108, 101, 116]) && (btL s).all lowB
/-- Pieces between blanks. -/
def splB : List UInt8 → List (List UInt8)
  | [] => [[]]
  | c :: r => if c = 32 then [] :: splB r else match splB r with
    | [] => [[c]]
    | w :: ws => (c :: w) :: ws
theorem splB_ne (s : List UInt8) : splB s ≠ [] := by
  cases s with
  | nil => simp [splB]
  | cons c r =>
    simp only [splB]
    split
    · simp
    · split <;> simp
theorem splB_blank (r : List UInt8) : splB (32 :: r) = [] :: splB r := by simp [splB]
theorem splB_other {c : UInt8} (h : c ≠ 32) {r w : List UInt8} {ws : List (List UInt8)} (hr : splB r = w :: ws) : splB (c :: r) = (c :: w) :: ws := by
  simp only [splB, if_neg h, hr]
/-- Words ahead of a blank, and what is behind it. -/
theorem splB_app (u r : List UInt8) (h : ∀ b ∈ u, b ≠ 32) : splB (u ++ 32 :: r) = u :: splB r := by
  induction u with
  | nil => exact splB_blank r
  | cons c u ih =>
    have ih' := ih fun b hb => h b (by simp [hb])
    rw [List.cons_append, splB_other (h c (by simp)) ih']
theorem splB_one (u : List UInt8) (h : ∀ b ∈ u, b ≠ 32) : splB u = [u] := by
  induction u with
  | nil => rfl
  | cons c u ih => rw [splB_other (h c (by simp)) (ih fun b hb => h b (by simp [hb]))]
theorem splB_len (s : List UInt8) : (splB s).length ≤ s.length + 1 := by
  induction s with
  | nil => simp [splB]
  | cons c r ih =>
    simp only [splB]
    split
    · simp; omega
    · split
      · simp
      · rename_i h; rw [h] at ih; simp at ih ⊢; omega
/-- A note's words. -/
def noteW (s : List UInt8) : List (List UInt8) := if s = [] then [] else splB s
def noteF (s : ByteArray) : Int := wordsF ((noteW (btL s)).map wbS)

/-- Whether a node has a text. -/
def hasTx (op : Int) : Bool := decide (op = 2) || decide (op = 3) || decide (op = 7) || decide (op = 9)
/-- What is wrong with a node. -/
def nodT (x : Td) : Int :=
  if x.op < 1 ∨ 9 < x.op then 1
  else if (x.op = 1 ∧ (x.n < 0 ∨ 999999 < x.n)) ∨ ((x.op = 3 ∨ x.op = 4) ∧ (x.n < 0 ∨ 6 < x.n)) then 1
  else if (x.op ≠ 1 ∧ x.op ≠ 3 ∧ x.op ≠ 4 ∧ x.n ≠ 0) ∨ (hasTx x.op = false ∧ 0 < x.tx.size) then 2
  else if x.op = 9 then noteF x.tx
  else if hasTx x.op = true ∧ nameT x.tx = false then 5 else 0
/-- The first node's fault. -/
def fstT : List Td → Int
  | [] => 0
  | x :: r => if nodT x = 0 then fstT r else nodT x
theorem fstT_all : ∀ (ds : List Td), (∀ x ∈ ds, nodT x = 0) → fstT ds = 0
  | [], _ => rfl
  | x :: r, h => by rw [fstT, if_pos (h x (by simp)), fstT_all r fun y hy => h y (by simp [hy])]
theorem fstT_zero : ∀ (ds : List Td), fstT ds = 0 → ∀ x ∈ ds, nodT x = 0
  | [], _ => by simp
  | x :: r, h => by
    rw [fstT] at h
    split at h
    · rename_i h0
      intro y hy
      rcases List.mem_cons.1 hy with rfl | hy
      · exact h0
      · exact fstT_zero r h y hy
    · rename_i h0
      exact absurd h h0
theorem fstT_at : ∀ (ds : List Td) (k : Nat) (h : k < ds.length), (∀ x ∈ ds.take k, nodT x = 0) → nodT ds[k] ≠ 0 → fstT ds = nodT ds[k]
  | x :: r, 0, _, _, h => by
    have h' : nodT x ≠ 0 := h
    rw [fstT, if_neg h']; rfl
  | x :: r, k + 1, hk, ha, h => by
    rw [fstT, if_pos (ha x (by simp)), fstT_at r k (by simpa using hk) (fun y hy => ha y (by simp [hy])) h]
    rfl
/-- Let, Do and Note stand first, and nowhere else. -/
def topT (ds : List Td) : Bool := match ds with
  | [] => true
  | x :: r => decide (7 ≤ x.op) && r.all fun y => decide (y.op < 7)
/-- What is wrong with a statement. -/
def treeF (ds : List Td) : Int :=
  if 40 < ds.length then 3 else if fstT ds ≠ 0 then fstT ds else if endT ds 0 1 = some ds.length ∧ topT ds = true then 0 else 2
theorem treeF_zero {ds : List Td} (h : treeF ds = 0) : ds.length ≤ 40 ∧ (∀ x ∈ ds, nodT x = 0) ∧ endT ds 0 1 = some ds.length ∧ topT ds = true := by
  unfold treeF at h
  split at h
  · cases h
  · split at h
    · rename_i h1; exact absurd h h1
    · rename_i h0 h1
      split at h
      · rename_i h2
        exact ⟨by omega, fstT_zero ds (by omega), h2.1, h2.2⟩
      · cases h
theorem kdT_le {x : Td} (h : nodT x = 0) : kdT x ≤ 6 := by
  unfold nodT at h
  split at h
  · cases h
  · split at h
    · cases h
    · rename_i h1 h2
      unfold kdT
      split
      · omega
      · split
        · omega
        · split <;> omega
end Go.Proofs.YtianemmgaiblgabDoor
