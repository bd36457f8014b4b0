/- A statement in memory. -/
import Derived.Test.YtianemmgaiblgabDoorBase
import Derived.Test.YtianemmgaiblgabDoorTreP
namespace Go.Proofs.YtianemmgaiblgabDoor
open Go Go.RowKit

/-- A statement's nodes lie behind an address. -/
def Tds (w : World) (a : Option Addr) (ds : List Td) : Prop :=
  ∀ i (h : i < ds.length), ∃ b o, a = some ⟨b, o, none⟩ ∧ b < w.heap.size ∧ w.cell? ⟨b, o + i * 3, none⟩ = some (.int .i64 ds[i].op) ∧ w.cell? ⟨b, o + i * 3 + 1, none⟩ = some (.string ds[i].tx) ∧ w.cell? ⟨b, o + i * 3 + 2, none⟩ = some (.int .i64 ds[i].n)
theorem Tds.below {w w' : World} {a : Option Addr} {ds : List Td} (h : Tds w a ds) (hb : Below w.heap.size w w') : Tds w' a ds := by
  intro i hi
  obtain ⟨b, o, e, hlt, c1, c2, c3⟩ := h i hi
  obtain ⟨hc, _⟩ := bcell hb
  have := hb.size
  exact ⟨b, o, e, by omega, (hc _ _ hlt).trans c1, (hc _ _ hlt).trans c2, (hc _ _ hlt).trans c3⟩
theorem Tds.alloc {w : World} {a : Option Addr} {ds : List Td} (h : Tds w a ds) (o : Obj) : Tds (w.alloc o) a ds := h.below ((Below.refl _ _).alloc (Nat.le_refl _) _)
theorem Tds.nil (w : World) (a : Option Addr) : Tds w a [] := fun i hi => by simp at hi
abbrev tdV (x : Td) : Value := .agg #[.int .i64 x.op, .string x.tx, .int .i64 x.n]
/-- The document's place: -1 where there is none. -/
def endTZ (o : Option Nat) : Int := match o with | some j => j | none => -1
/-- Kids as the document tells them, whatever the node is. -/
def kdZ (x : Td) : Int := if x.op = 3 ∨ x.op = 4 then x.n else (kdT x : Int)
theorem kdZ_ok {x : Td} (h : nodT x = 0) : kdZ x = (kdT x : Int) := by
  unfold kdZ
  split
  · rename_i h1
    rw [kdT, if_pos h1]
    unfold nodT at h
    split at h
    · cases h
    · split at h
      · cases h
      · omega
  · rfl
end Go.Proofs.YtianemmgaiblgabDoor
