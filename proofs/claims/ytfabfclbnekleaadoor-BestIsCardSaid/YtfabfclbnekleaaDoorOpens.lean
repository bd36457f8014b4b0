/- Some texts as one: OpenN, OpenI. -/
import Derived.Test.YtfabfclbnekleaaDoorRows
import Derived.Test.YtfabfclbnekleaaDoorDocA0
import Derived.Deep.Slices
import Derived.Carry
import Derived.LaidMore
import Derived.LaidSub
import Derived.LaidLaws
import Derived.LaidHandle
import Derived.LaidOnce
import Derived.Stop.Joined
import Derived.Test.YtfabfclbnekleaaDoorIntB
namespace Go.Proofs.YtfabfclbnekleaaDoor
open Go Go.ChangeShapes Go.WideShapes Go.RowKit

theorem Tryd.laidOut : laidOutB Tryd.prog = true := by kernel_rfl
theorem Tryd.cells48 : Tryd.prog.cellsOf 48 = 3 := by kernel_rfl
theorem Tryd.cellsI : Tryd.prog.cellsOf 3 = 1 := by kernel_rfl
theorem Tryd.cellsS : Tryd.prog.cellsOf 9 = 1 := by kernel_rfl
instance : Inhabited Nd := ⟨⟨0, ⟨#[]⟩, 0⟩⟩

theorem add_plain (b o n : Nat) : (⟨b, o, none⟩ : Addr).add n = ⟨b, o + n, none⟩ := by
  unfold Addr.add
  split
  · rename_i h; subst h; rfl
  · rfl

theorem three {α : Type} {l : List α} (h : l.length = 3) : ∃ a b c, l = [a, b, c] := by
  match l, h with
  | [a, b, c], _ => exact ⟨a, b, c, rfl⟩

section
variable {H : Type} {enc : TypeId × Value → H} {W : World}
theorem open_nodes {a0 : Option Addr} {l0 c0 : Nat} {d : DataW H} {p : List MemPlace} (h : DataW.Trod enc Tryd.prog W 0 (fun _ => true) true 37 (.slice a0 l0 c0) d p) :
    ∃ ds : List Nd, l0 = ds.length ∧ ds.length ≤ c0 ∧ Nods W a0 ds := by
  obtain ⟨fuel, hf⟩ := h
  have hf : DataW.trod enc Tryd.prog W 0 (fun _ => true) true fuel 37 [.slice a0 l0 c0] = some (d, p) := hf
  rcases Deep.open_slice Tryd.underlying37 hf with ⟨h1, _⟩ | ⟨a, len, cap, m, n, D, Pl, h1, _, hl, _, hm, _, hx⟩
  · simp only [List.cons.injEq, and_true, Value.slice.injEq] at h1
    obtain ⟨rfl, rfl, rfl⟩ := h1
    exact ⟨[], rfl, Nat.le_refl _, Nods.nil _ _⟩
  · simp only [List.cons.injEq, and_true, Value.slice.injEq] at h1
    obtain ⟨rfl, rfl, rfl⟩ := h1
    have hlm : l0 ≤ m := by rw [hm]; simp only [if_true]; exact hl
    have each : ∀ i, i < l0 → ∃ x : Nd, W.cell? ((a.add (i * 3)).add 0) = some (.int .i64 x.op) ∧ W.cell? ((a.add (i * 3)).add 1) = some (.string x.tx) ∧ W.cell? ((a.add (i * 3)).add 2) = some (.int .i64 x.n) := by
      intro i hi
      obtain ⟨cs', g1, g2⟩ := hx i (by omega)
      rw [Tryd.cells48] at g1
      obtain ⟨_, hlen, hcell⟩ := World.cells?_some g1
      obtain ⟨xs, k, _, _, _, hxl, hfl⟩ := DataW.trod_struct Tryd.underlying48 g2
      have hfl0 := hfl 0 _ rfl
      have hfl1 := hfl 1 _ rfl
      have hfl2 := hfl 2 _ rfl
      obtain ⟨y0, y1, y2, rfl⟩ := three hxl
      obtain ⟨v0, v1, v2, rfl⟩ := three hlen
      clear hxl hlen
      simp [Tryd.cellsI, Tryd.cellsS] at hfl0 hfl1 hfl2
      obtain ⟨z0, e0, _, _⟩ := DataW.trod_int Tryd.underlying3 hfl0
      obtain ⟨s1, e1, _, _⟩ := DataW.trod_string Tryd.underlying9 hfl1
      obtain ⟨z2, e2, _, _⟩ := DataW.trod_int Tryd.underlying3 hfl2
      simp only [List.cons.injEq, and_true] at e0 e1 e2
      subst e0 e1 e2
      exact ⟨⟨z0, s1, z2⟩, hcell 0 (by omega), hcell 1 (by omega), hcell 2 (by omega)⟩
    obtain ⟨q, hq⟩ := Deep.choose_lt each
    refine ⟨(List.range l0).map q, by simp, by simpa using hl, ?_⟩
    intro i hi
    have hi' : i < l0 := by simpa using hi
    obtain ⟨c0, c1, c2⟩ := hq i hi'
    obtain ⟨c00, _, _⟩ := hq 0 (by omega)
    have hs : a.spot = none := by
      have := World.cell?_spot c00
      simpa [Addr.add] using this
    obtain ⟨b, o, sp⟩ := a
    simp only at hs
    subst hs
    simp only [add_plain, Nat.add_zero] at c0 c1 c2
    have hb : b < W.heap.size := by
      rcases Nat.lt_or_ge b W.heap.size with h' | h'
      · exact h'
      · simp [World.cell?, Array.getElem?_eq_none h'] at c0
    refine ⟨b, o, rfl, hb, ?_, ?_, ?_⟩
    · simpa using c0
    · simpa using c1
    · simpa using c2
end

/-- The world that the program's own text lays. -/
noncomputable abbrev doorW (os : Os) : World := World.doorLaid Tryd.prog 200 os
theorem doorShaped (os : Os) (args : Array Value) : ((doorW os).forCall (fun _ _ => 0) ⟨#[], args, []⟩).Shaped Tryd.prog := World.shaped_of_RefB (by kernel_rfl) (by kernel_rfl)
end Go.Proofs.YtfabfclbnekleaaDoor
namespace Go.Proofs.YtfabfclbnekleaaDoor
open Go Go.ChangeShapes Go.WideShapes Go.RowKit

section
variable {H : Type} {enc : TypeId × Value → H} {W : World}
theorem open_intsB {a0 : Option Addr} {l0 c0 : Nat} {d : DataW H} {p : List MemPlace} (h : DataW.Trod enc Tryd.prog W 0 (fun _ => true) true 60 (.slice a0 l0 c0) d p) :
    ∃ ws : List Int, l0 = ws.length ∧ ws.length ≤ c0 ∧ c0 ≤ maxLen ∧ Ints W a0 ws ∧ (a0 = none → ws = [] ∧ c0 = 0) := by
  obtain ⟨fuel, hf⟩ := h
  have hf : DataW.trod enc Tryd.prog W 0 (fun _ => true) true fuel 60 [.slice a0 l0 c0] = some (d, p) := hf
  rcases Deep.open_slice Tryd.underlying60 hf with ⟨h1, _⟩ | ⟨a, len, cap, m, n, D, Pl, h1, _, hl, hcm, hm, _, hx⟩
  · simp only [List.cons.injEq, and_true, Value.slice.injEq] at h1
    obtain ⟨rfl, rfl, rfl⟩ := h1
    exact ⟨[], rfl, Nat.le_refl _, Nat.zero_le _, fun i hi => by simp at hi, fun _ => ⟨rfl, rfl⟩⟩
  · simp only [List.cons.injEq, and_true, Value.slice.injEq] at h1
    obtain ⟨rfl, rfl, rfl⟩ := h1
    have hlm : l0 ≤ m := by rw [hm]; simp only [if_true]; exact hl
    have each : ∀ i, i < l0 → ∃ x : Int, W.cell? (a.add i) = some (.int .i64 x) := by
      intro i hi
      obtain ⟨cs', g1, g2⟩ := hx i (by omega)
      rw [Tryd.cellsI] at g1
      obtain ⟨_, hlen, hcell⟩ := World.cells?_some g1
      obtain ⟨z, rfl⟩ : ∃ z, cs' = [z] := by
        match cs', hlen with
        | [z], _ => exact ⟨z, rfl⟩
      obtain ⟨y, e0, _, _⟩ := DataW.trod_int Tryd.underlying3 g2
      simp only [List.cons.injEq, and_true] at e0
      subst e0
      have hc := hcell 0 (by omega)
      have ha : (a.add (i * 1)).add 0 = a.add i := by rw [Nat.mul_one]; simp [Addr.add]
      rw [ha] at hc
      exact ⟨y, hc⟩
    obtain ⟨q, hq⟩ := Deep.choose_lt each
    refine ⟨(List.range l0).map q, by simp, by simpa using hl, hcm, ?_, fun h => by cases h⟩
    intro i hi
    have hi' : i < l0 := by simpa using hi
    have c0 := hq i hi'
    have c00 := hq 0 (by omega)
    have hs : a.spot = none := by
      have := World.cell?_spot c00
      simpa [Addr.add] using this
    obtain ⟨b, o, sp⟩ := a
    simp only at hs
    subst hs
    simp only [add_plain] at c0
    have hb : b < W.heap.size := by
      rcases Nat.lt_or_ge b W.heap.size with h' | h'
      · exact h'
      · simp [World.cell?, Array.getElem?_eq_none h'] at c0
    exact ⟨b, o, rfl, hb, by simpa using c0⟩
theorem trod_len {t e : TypeId} {a0 : Option Addr} {l0 c0 : Nat} {d : DataW H} {p : List MemPlace} (ht : Tryd.prog.underlying t = some (.slice e)) (h : DataW.Trod enc Tryd.prog W 0 (fun _ => true) true t (.slice a0 l0 c0) d p) :
    l0 = 0 ∨ ∃ elems spare, d = .slice elems spare ∧ elems.length = l0 := by
  obtain ⟨fuel, hf⟩ := h
  have hf : DataW.trod enc Tryd.prog W 0 (fun _ => true) true fuel t [.slice a0 l0 c0] = some (d, p) := hf
  rcases Deep.open_slice ht hf with ⟨h1, _⟩ | ⟨a, len, cap, m, n, D, Pl, h1, _, hl, hcm, hm, h2, hx⟩
  · simp only [List.cons.injEq, and_true, Value.slice.injEq] at h1
    exact .inl h1.2.1
  · simp only [List.cons.injEq, and_true, Value.slice.injEq] at h1
    obtain ⟨rfl, rfl, rfl⟩ := h1
    simp only [Prod.mk.injEq] at h2
    exact .inr ⟨_, _, h2.1, by simp⟩
end
end Go.Proofs.YtfabfclbnekleaaDoor
