/- A doc in memory. -/
import Derived.Test.YtmbeamcjpidnjaaGreatDoorBase
import Derived.Test.YtmbeamcjpidnjaaGreatDoorDocFs
namespace Go.Proofs.YtmbeamcjpidnjaaGreatDoor
open Go Go.RowKit

/-- A doc's nodes lie behind an address. -/
def Nods (w : World) (a : Option Addr) (ds : List Nd) : Prop :=
  ∀ i (h : i < ds.length), ∃ b o, a = some ⟨b, o, none⟩ ∧ b < w.heap.size ∧ w.cell? ⟨b, o + i * 3, none⟩ = some (.int .i64 ds[i].op) ∧ w.cell? ⟨b, o + i * 3 + 1, none⟩ = some (.string ds[i].tx) ∧ w.cell? ⟨b, o + i * 3 + 2, none⟩ = some (.int .i64 ds[i].n)
theorem Nods.below {w w' : World} {a : Option Addr} {ds : List Nd} (h : Nods w a ds) (hb : Below w.heap.size w w') : Nods w' a ds := by
  intro i hi
  obtain ⟨b, o, e, hlt, c1, c2, c3⟩ := h i hi
  obtain ⟨hc, _⟩ := bcell hb
  have := hb.size
  exact ⟨b, o, e, by omega, (hc _ _ hlt).trans c1, (hc _ _ hlt).trans c2, (hc _ _ hlt).trans c3⟩
theorem Nods.alloc {w : World} {a : Option Addr} {ds : List Nd} (h : Nods w a ds) (o : Obj) : Nods (w.alloc o) a ds := h.below ((Below.refl _ _).alloc (Nat.le_refl _) _)
theorem Nods.nil (w : World) (a : Option Addr) : Nods w a [] := fun i hi => by simp at hi

abbrev nodV (x : Nd) : Value := .agg #[.int .i64 x.op, .string x.tx, .int .i64 x.n]

end Go.Proofs.YtmbeamcjpidnjaaGreatDoor
