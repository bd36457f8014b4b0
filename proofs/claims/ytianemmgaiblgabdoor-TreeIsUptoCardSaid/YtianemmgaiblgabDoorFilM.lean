/- Words in memory. -/
import Derived.Test.YtianemmgaiblgabDoorBase
namespace Go.Proofs.YtianemmgaiblgabDoor
open Go Go.RowKit

/-- Words lie behind an address, below a block. -/
def WdsB (B : Nat) (w : World) (a : Option Addr) (ws : List ByteArray) : Prop :=
  ∀ i (h : i < ws.length), ∃ b o, a = some ⟨b, o, none⟩ ∧ b < B ∧ w.cell? ⟨b, o + i, none⟩ = some (.string ws[i])
theorem WdsB.below {B : Nat} {w w' : World} {a : Option Addr} {ws : List ByteArray} (h : WdsB B w a ws) (hb : Below B w w') : WdsB B w' a ws := by
  intro i hi
  obtain ⟨b, o, e, hlt, c1⟩ := h i hi
  exact ⟨b, o, e, hlt, (hb.cell (p := ⟨b, _, none⟩) hlt).trans c1⟩
theorem WdsB.up {B B' : Nat} {w : World} {a : Option Addr} {ws : List ByteArray} (h : WdsB B w a ws) (hB : B ≤ B') : WdsB B' w a ws := by
  intro i hi
  obtain ⟨b, o, e, hlt, c1⟩ := h i hi
  exact ⟨b, o, e, by omega, c1⟩
theorem WdsB.nil (B : Nat) (w : World) (a : Option Addr) : WdsB B w a [] := fun i hi => by simp at hi
theorem WdsB.take {B : Nat} {w : World} {a : Option Addr} {ws : List ByteArray} (h : WdsB B w a ws) (k : Nat) : WdsB B w a (ws.take k) := by
  intro i hi
  have hi' : i < ws.length := by simp at hi; omega
  obtain ⟨b, o, e, hlt, c1⟩ := h i hi'
  exact ⟨b, o, e, hlt, by rw [List.getElem_take]; exact c1⟩
theorem WdsB.drop {B : Nat} {w : World} {b o : Nat} {ws : List ByteArray} (h : WdsB B w (some ⟨b, o, none⟩) ws) (k : Nat) : WdsB B w (some ⟨b, o + k, none⟩) (ws.drop k) := by
  intro i hi
  have hi' : k + i < ws.length := by simp at hi; omega
  obtain ⟨b', o', e, hlt, c1⟩ := h (k + i) hi'
  simp only [Option.some.injEq, Addr.mk.injEq, and_true] at e
  obtain ⟨rfl, rfl⟩ := e
  refine ⟨b, o + k, rfl, hlt, ?_⟩
  rw [List.getElem_drop, Nat.add_assoc]; exact c1
theorem WdsB.some {B : Nat} {w : World} {a : Option Addr} {ws : List ByteArray} (h : WdsB B w a ws) (h0 : 0 < ws.length) : ∃ b o, a = some ⟨b, o, none⟩ ∧ b < B := by
  obtain ⟨b, o, e, hlt, _⟩ := h 0 h0
  exact ⟨b, o, e, hlt⟩
/-- Words that came in. -/
abbrev Wds (w : World) (a : Option Addr) (ws : List ByteArray) : Prop := WdsB w.heap.size w a ws
theorem Wds.below {w w' : World} {a : Option Addr} {ws : List ByteArray} (h : Wds w a ws) (hb : Below w.heap.size w w') : Wds w' a ws := (WdsB.below h hb).up hb.size
end Go.Proofs.YtianemmgaiblgabDoor
