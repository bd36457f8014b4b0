/- Programs, plainly: the first statement that is wrong. -/
import Derived.Test.YtianemmgaiblgabDoorTreP
namespace Go.Proofs.YtianemmgaiblgabDoor
open Go

/-- The first node's op. -/
def opT (t : List Td) : Int := match t with
  | [] => 0
  | x :: _ => x.op
theorem opT_get {t : List Td} (h : 0 < t.length) : opT t = t[0].op := by
  cases t with
  | nil => simp at h
  | cons x r => rfl
/-- The first statement that is wrong, and how. -/
def progG (prev : Int) (k : Nat) : List (List Td) → Nat × Int
  | [] => (0, 0)
  | t :: r => if treeF t ≠ 0 then (k, treeF t) else if opT t = 9 ∧ prev = 9 then (k, 2) else progG (opT t) (k + 1) r
def progF (ps : List (List Td)) : Nat × Int := if 20 < ps.length then (0, 3) else progG 0 0 ps
theorem treeF_ne {t : List Td} (h : treeF t = 0) : 0 < t.length := by
  rcases Nat.eq_zero_or_pos t.length with h0 | h0
  · have : t = [] := List.eq_nil_of_length_eq_zero h0
    subst this
    have := (treeF_zero h).2.2.1
    rw [endT_out [] 0 0 (by simp)] at this
    cases this
  · exact h0
def prevT (ps : List (List Td)) (k : Nat) : Int := if k = 0 then 0 else opT (ps.getD (k - 1) [])
theorem prevT_next {ps : List (List Td)} {k : Nat} (h : k < ps.length) : prevT ps (k + 1) = opT ps[k] := by
  simp [prevT, h]
theorem progG_bad {ps : List (List Td)} {k : Nat} {prev : Int} (h : k < ps.length) (he : treeF ps[k] ≠ 0) : progG prev k (ps.drop k) = (k, treeF ps[k]) := by
  rw [List.drop_eq_getElem_cons h, progG, if_pos he]
theorem progG_two {ps : List (List Td)} {k : Nat} {prev : Int} (h : k < ps.length) (he : treeF ps[k] = 0) (h2 : opT ps[k] = 9 ∧ prev = 9) : progG prev k (ps.drop k) = (k, 2) := by
  rw [List.drop_eq_getElem_cons h, progG, if_neg (by simp [he]), if_pos h2]
theorem progG_next {ps : List (List Td)} {k : Nat} {prev : Int} (h : k < ps.length) (he : treeF ps[k] = 0) (h2 : ¬ (opT ps[k] = 9 ∧ prev = 9)) : progG prev k (ps.drop k) = progG (prevT ps (k + 1)) (k + 1) (ps.drop (k + 1)) := by
  rw [List.drop_eq_getElem_cons h, progG, if_neg (by simp [he]), if_neg h2, prevT_next h]

end Go.Proofs.YtianemmgaiblgabDoor
