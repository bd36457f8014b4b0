/- Numbers in memory. -/
import Derived.Test.YtianemmgaiblgabDoorBase
namespace Go.Proofs.YtianemmgaiblgabDoor
open Go Go.RowKit

/-- Numbers lie behind an address, below a block. -/
def IntsB (B : Nat) (w : World) (a : Option Addr) (ws : List Int) : Prop :=
  ∀ i (h : i < ws.length), ∃ b o, a = some ⟨b, o, none⟩ ∧ b < B ∧ w.cell? ⟨b, o + i, none⟩ = some (.int .i64 ws[i])
theorem IntsB.below {B : Nat} {w w' : World} {a : Option Addr} {ws : List Int} (h : IntsB B w a ws) (hb : Below B w w') : IntsB B w' a ws := by
  intro i hi
  obtain ⟨b, o, e, hlt, c1⟩ := h i hi
  exact ⟨b, o, e, hlt, (hb.cell (p := ⟨b, _, none⟩) hlt).trans c1⟩
theorem IntsB.rest {B : Nat} {w : World} {b o : Nat} {x : Int} {ws : List Int} (h : IntsB B w (some ⟨b, o, none⟩) (x :: ws)) : IntsB B w (some ⟨b, o + 1, none⟩) ws := by
  intro i hi
  obtain ⟨b', o', e, hlt, c1⟩ := h (i + 1) (by simp; omega)
  simp only [Option.some.injEq, Addr.mk.injEq, and_true] at e
  obtain ⟨rfl, rfl⟩ := e
  refine ⟨b, o + 1, rfl, hlt, ?_⟩
  rw [show o + 1 + i = o + (i + 1) by omega]; exact c1
theorem IntsB.slid {B : Nat} {w : World} {b o cap : Nat} {x : Int} {ws : List Int} (h : IntsB B w (some ⟨b, o, none⟩) (x :: ws)) (hc : ws.length + 1 ≤ cap) :
    IntsB B w (if cap = 1 then some ⟨b, o, none⟩ else some ⟨b, o + 1, none⟩) ws := by
  by_cases h1 : cap = 1
  · have : ws = [] := List.eq_nil_of_length_eq_zero (by omega)
    subst this
    exact fun i hi => by simp at hi
  · rw [if_neg h1]; exact h.rest

/-- Numbers that came in. -/
abbrev Ints (w : World) (a : Option Addr) (ws : List Int) : Prop := IntsB w.heap.size w a ws
theorem IntsB.up {B B' : Nat} {w : World} {a : Option Addr} {ws : List Int} (h : IntsB B w a ws) (hB : B ≤ B') : IntsB B' w a ws := by
  intro i hi
  obtain ⟨b, o, e, hlt, c1⟩ := h i hi
  exact ⟨b, o, e, by omega, c1⟩
theorem Ints.below {w w' : World} {a : Option Addr} {ws : List Int} (h : Ints w a ws) (hb : Below w.heap.size w w') : Ints w' a ws := (IntsB.below h hb).up hb.size
end Go.Proofs.YtianemmgaiblgabDoor
