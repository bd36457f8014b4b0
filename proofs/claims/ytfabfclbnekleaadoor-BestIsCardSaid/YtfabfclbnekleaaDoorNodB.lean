/- A doc's nodes in memory, below a block. -/
import Derived.Test.YtfabfclbnekleaaDoorDocA0
namespace Go.Proofs.YtfabfclbnekleaaDoor
open Go Go.RowKit

/-- A doc's nodes lie behind an address, below a block. -/
def NodsB (B : Nat) (w : World) (a : Option Addr) (ds : List Nd) : Prop :=
  ∀ i (h : i < ds.length), ∃ b o, a = some ⟨b, o, none⟩ ∧ b < B ∧ w.cell? ⟨b, o + i * 3, none⟩ = some (.int .i64 ds[i].op) ∧ w.cell? ⟨b, o + i * 3 + 1, none⟩ = some (.string ds[i].tx) ∧ w.cell? ⟨b, o + i * 3 + 2, none⟩ = some (.int .i64 ds[i].n)
theorem Nods.b {w : World} {a : Option Addr} {ds : List Nd} (h : Nods w a ds) : NodsB w.heap.size w a ds := h
theorem NodsB.below {B : Nat} {w w' : World} {a : Option Addr} {ds : List Nd} (h : NodsB B w a ds) (hb : Below B w w') : NodsB B w' a ds := by
  intro i hi
  obtain ⟨b, o, e, hlt, c1, c2, c3⟩ := h i hi
  exact ⟨b, o, e, hlt, (hb.cell (p := ⟨b, _, none⟩) hlt).trans c1, (hb.cell (p := ⟨b, _, none⟩) hlt).trans c2, (hb.cell (p := ⟨b, _, none⟩) hlt).trans c3⟩
theorem NodsB.nods {B : Nat} {w : World} {a : Option Addr} {ds : List Nd} (h : NodsB B w a ds) (hB : B ≤ w.heap.size) : Nods w a ds := by
  intro i hi
  obtain ⟨b, o, e, hlt, c1, c2, c3⟩ := h i hi
  exact ⟨b, o, e, by omega, c1, c2, c3⟩
/-- What is behind the first node. -/
theorem NodsB.rest {B : Nat} {w : World} {b o : Nat} {x : Nd} {ds : List Nd} (h : NodsB B w (some ⟨b, o, none⟩) (x :: ds)) : NodsB B w (some ⟨b, o + 3, none⟩) ds := by
  intro i hi
  obtain ⟨b', o', e, hlt, c1, c2, c3⟩ := h (i + 1) (by simp; omega)
  simp only [Option.some.injEq, Addr.mk.injEq, and_true] at e
  obtain ⟨rfl, rfl⟩ := e
  refine ⟨b, o + 3, rfl, hlt, ?_, ?_, ?_⟩
  · rw [show o + 3 + i * 3 = o + (i + 1) * 3 by omega]; exact c1
  · rw [show o + 3 + i * 3 + 1 = o + (i + 1) * 3 + 1 by omega]; exact c2
  · rw [show o + 3 + i * 3 + 2 = o + (i + 1) * 3 + 2 by omega]; exact c3
theorem NodsB.slid {B : Nat} {w : World} {b o cap : Nat} {x : Nd} {ds : List Nd} (h : NodsB B w (some ⟨b, o, none⟩) (x :: ds)) (hc : ds.length + 1 ≤ cap) :
    NodsB B w (if cap = 1 then some ⟨b, o, none⟩ else some ⟨b, o + 3, none⟩) ds := by
  by_cases h1 : cap = 1
  · have : ds = [] := List.eq_nil_of_length_eq_zero (by omega)
    subst this
    exact fun i hi => by simp at hi
  · rw [if_neg h1]; exact h.rest

end Go.Proofs.YtfabfclbnekleaaDoor
