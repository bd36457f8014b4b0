/- A doc's nodes in memory, in one block. -/
import Derived.Test.YtmbeamcjpidnjaaGreatDoorDocA0
namespace Go.Proofs.YtmbeamcjpidnjaaGreatDoor
open Go Go.RowKit

/-- A doc's nodes lie behind an address, in block s. -/
def NodsS (s : Nat) (w : World) (a : Option Addr) (ds : List Nd) : Prop :=
  ∀ i (h : i < ds.length), ∃ o, a = some ⟨s, o, none⟩ ∧ w.cell? ⟨s, o + i * 3, none⟩ = some (.int .i64 ds[i].op) ∧ w.cell? ⟨s, o + i * 3 + 1, none⟩ = some (.string ds[i].tx) ∧ w.cell? ⟨s, o + i * 3 + 2, none⟩ = some (.int .i64 ds[i].n)
theorem Nods.s {w : World} {a : Option Addr} {ds : List Nd} (h : Nods w a ds) (h0 : ds ≠ []) : ∃ s, s < w.heap.size ∧ NodsS s w a ds := by
  obtain ⟨s, o, rfl, hs, _⟩ := h 0 (List.length_pos_iff.2 h0)
  refine ⟨s, hs, fun i hi => ?_⟩
  obtain ⟨b, o', e, _, c⟩ := h i hi
  simp only [Option.some.injEq, Addr.mk.injEq, and_true] at e
  obtain ⟨rfl, rfl⟩ := e
  exact ⟨o, rfl, c⟩
theorem NodsS.nods {s : Nat} {w : World} {a : Option Addr} {ds : List Nd} (h : NodsS s w a ds) (hs : s < w.heap.size) : Nods w a ds := by
  intro i hi
  obtain ⟨o, e, c⟩ := h i hi
  exact ⟨s, o, e, hs, c⟩
theorem NodsS.kept {s : Nat} {w w' : World} {a : Option Addr} {ds : List Nd} (h : NodsS s w a ds) (hb : w'.heap[s]? = w.heap[s]?) : NodsS s w' a ds := by
  intro i hi
  obtain ⟨o, e, c1, c2, c3⟩ := h i hi
  have hc : ∀ j, w'.cell? ⟨s, j, none⟩ = w.cell? ⟨s, j, none⟩ := fun j => World.cell?_of_block (w := w) (a := ⟨s, j, none⟩) hb
  exact ⟨o, e, (hc _).trans c1, (hc _).trans c2, (hc _).trans c3⟩
/-- What is behind the first node. -/
theorem NodsS.rest {s : Nat} {w : World} {o : Nat} {x : Nd} {ds : List Nd} (h : NodsS s w (some ⟨s, o, none⟩) (x :: ds)) : NodsS s w (some ⟨s, o + 3, none⟩) ds := by
  intro i hi
  obtain ⟨o', e, c1, c2, c3⟩ := h (i + 1) (by simp; omega)
  simp only [Option.some.injEq, Addr.mk.injEq, and_true, true_and] at e
  obtain rfl := e
  refine ⟨o + 3, rfl, ?_, ?_, ?_⟩
  · rw [show o + 3 + i * 3 = o + (i + 1) * 3 by omega]; exact c1
  · rw [show o + 3 + i * 3 + 1 = o + (i + 1) * 3 + 1 by omega]; exact c2
  · rw [show o + 3 + i * 3 + 2 = o + (i + 1) * 3 + 2 by omega]; exact c3
theorem NodsS.slid {s : Nat} {w : World} {o cap : Nat} {x : Nd} {ds : List Nd} (h : NodsS s w (some ⟨s, o, none⟩) (x :: ds)) (hc : ds.length + 1 ≤ cap) :
    NodsS s w (if cap = 1 then some ⟨s, o, none⟩ else some ⟨s, o + 3, none⟩) ds := by
  by_cases h1 : cap = 1
  · have : ds = [] := List.eq_nil_of_length_eq_zero (by omega)
    subst this
    exact fun i hi => by simp at hi
  · rw [if_neg h1]; exact h.rest
end Go.Proofs.YtmbeamcjpidnjaaGreatDoor
