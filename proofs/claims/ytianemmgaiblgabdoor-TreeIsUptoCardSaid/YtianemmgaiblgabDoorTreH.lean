/- Programs in memory. -/
import Derived.Test.YtianemmgaiblgabDoorTreM
import Derived.Test.YtianemmgaiblgabDoorTreF
namespace Go.Proofs.YtianemmgaiblgabDoor
open Go Go.RowKit

/-- A program's statements lie behind an address. -/
def Prg (w : World) (a : Option Addr) (ps : List (List Td)) : Prop :=
  ∀ i (h : i < ps.length), ∃ b o a' c', a = some ⟨b, o, none⟩ ∧ b < w.heap.size ∧ w.cell? ⟨b, o + i, none⟩ = some (.slice a' ps[i].length c') ∧ ps[i].length ≤ c' ∧ Tds w a' ps[i]
theorem Prg.below {w w' : World} {a : Option Addr} {ps : List (List Td)} (h : Prg w a ps) (hb : Below w.heap.size w w') : Prg w' a ps := by
  intro i hi
  obtain ⟨b, o, a', c', e, hlt, c1, c2, c3⟩ := h i hi
  have := hb.size
  exact ⟨b, o, a', c', e, by omega, ((bcell hb).1 _ _ hlt).trans c1, c2, c3.below hb⟩
theorem Prg.nil (w : World) (a : Option Addr) : Prg w a [] := fun i hi => by simp at hi

end Go.Proofs.YtianemmgaiblgabDoor
