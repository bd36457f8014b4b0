/- What package lay's functions hand back. -/
import Derived.Test.YtmbeamcjpidnjaaGreatDoorLayPs
import Derived.Test.YtmbeamcjpidnjaaGreatDoorMems
import Derived.Test.YtmbeamcjpidnjaaGreatDoorDocA0
namespace Go.Proofs.YtmbeamcjpidnjaaGreatDoor
open Go Go.RowKit

/-- What is wrong with a statement as a doc; its nodes. -/
def layE (t : List Td) : Int := if treeF t ≠ 0 then treeF t else if opT t = 9 then 2 else if 400 < (stDoc t).nodes.length then 3 else 0
def layD (t : List Td) : List Nd := if layE t = 0 then (stDoc t).nodes else []
/-- What is wrong with a statement as a note; its words. -/
def layF (t : List Td) : Int := if treeF t ≠ 0 then treeF t else if opT t = 9 then 0 else 2
def txT (t : List Td) : ByteArray := match t with
  | [] => ⟨#[]⟩
  | x :: _ => x.tx
def layW (t : List Td) : List ByteArray := if layF t = 0 then (noteW (btL (txT t))).map wbS else []
def DocOut (t : List Td) (e : Ending) (w' : World) : Prop := ∃ A c, e = .returned (.tuple #[.slice A (layD t).length c, errN (layE t)]) ∧ Nods w' A (layD t) ∧ (layD t).length ≤ c
def NoteOut (t : List Td) (e : Ending) (w' : World) : Prop := ∃ A c, e = .returned (.tuple #[.slice A (layW t).length c, errN (layF t)]) ∧ Wds w' A (layW t)
theorem lay_bad {t : List Td} (h : treeF t ≠ 0) : layE t = treeF t ∧ layD t = [] ∧ layF t = treeF t ∧ layW t = [] := by
  have e1 : layE t = treeF t := by rw [layE, if_pos h]
  have e2 : layF t = treeF t := by rw [layF, if_pos h]
  exact ⟨e1, by rw [layD, if_neg (by rw [e1]; exact h)], e2, by rw [layW, if_neg (by rw [e2]; exact h)]⟩
theorem lay_note {t : List Td} (h : treeF t = 0) (h9 : opT t = 9) : layE t = 2 ∧ layD t = [] ∧ layF t = 0 ∧ layW t = (noteW (btL (txT t))).map wbS := by
  have e1 : layE t = 2 := by rw [layE, if_neg (by simp [h]), if_pos h9]
  have e2 : layF t = 0 := by rw [layF, if_neg (by simp [h]), if_pos h9]
  exact ⟨e1, by rw [layD, if_neg (by rw [e1]; decide)], e2, by rw [layW, if_pos e2]⟩
theorem lay_many {t : List Td} (h : treeF t = 0) (h9 : opT t ≠ 9) (hn : 400 < (stDoc t).nodes.length) : layE t = 3 ∧ layD t = [] ∧ layF t = 2 ∧ layW t = [] := by
  have e1 : layE t = 3 := by rw [layE, if_neg (by simp [h]), if_neg h9, if_pos hn]
  have e2 : layF t = 2 := by rw [layF, if_neg (by simp [h]), if_neg h9]
  exact ⟨e1, by rw [layD, if_neg (by rw [e1]; decide)], e2, by rw [layW, if_neg (by rw [e2]; decide)]⟩
theorem lay_few {t : List Td} (h : treeF t = 0) (h9 : opT t ≠ 9) (hn : ¬ 400 < (stDoc t).nodes.length) : layE t = 0 ∧ layD t = (stDoc t).nodes ∧ layF t = 2 ∧ layW t = [] := by
  have e1 : layE t = 0 := by rw [layE, if_neg (by simp [h]), if_neg h9, if_neg hn]
  have e2 : layF t = 2 := by rw [layF, if_neg (by simp [h]), if_neg h9]
  exact ⟨e1, by rw [layD, if_pos e1], e2, by rw [layW, if_neg (by rw [e2]; decide)]⟩
end Go.Proofs.YtmbeamcjpidnjaaGreatDoor
