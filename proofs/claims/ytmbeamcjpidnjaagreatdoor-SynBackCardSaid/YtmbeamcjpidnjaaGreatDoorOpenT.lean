/- Statements and programs that came in, opened; how long their texts are. -/
import Derived.Test.YtmbeamcjpidnjaaGreatDoorRows
import Derived.Test.YtmbeamcjpidnjaaGreatDoorMems
import Derived.Deep.Slices
import Derived.Carry
import Derived.RowKit
import Derived.SizedLaws
namespace Go.Proofs.YtmbeamcjpidnjaaGreatDoor
open Go Go.ChangeShapes Go.WideShapes Go.RowKit

theorem laidOutT : laidOutB Tryz.prog = true := by kernel_rfl
theorem cellsTree : Tryz.prog.cellsOf 39 = 3 := by kernel_rfl
theorem cellsTI : Tryz.prog.cellsOf 3 = 1 := by kernel_rfl
theorem cellsTS : Tryz.prog.cellsOf 9 = 1 := by kernel_rfl
theorem addPlainT (b o n : Nat) : (⟨b, o, none⟩ : Addr).add n = ⟨b, o + n, none⟩ := by
  unfold Addr.add
  split
  · rename_i h; subst h; rfl
  · rfl
theorem threeT {α : Type} {l : List α} (h : l.length = 3) : ∃ a b c, l = [a, b, c] := by
  match l, h with
  | [a, b, c], _ => exact ⟨a, b, c, rfl⟩
theorem bulk_part {H : Type} {d : DataW H} {l : List (DataW H)} (h : d ∈ l) : Rows.uptoBulk d ≤ Rows.uptoBulkAll l := by
  induction l with
  | nil => cases h
  | cons x r ih =>
    simp only [Rows.uptoBulkAll]
    cases List.mem_cons.1 h with
    | inl e => subst e; omega
    | inr e => have := ih e; omega
theorem bulk_slice {H : Type} {d : DataW H} {l s : List (DataW H)} (h : d ∈ l) : Rows.uptoBulk d ≤ Rows.uptoBulk (.slice l s) := by
  have := bulk_part h
  simp only [Rows.uptoBulk]
  omega

section
variable {H : Type} {enc : TypeId × Value → H} {W : World}
theorem weightsAll_in {P : Program} {e : TypeId} : ∀ {l : List (DataW H)} {d : DataW H}, d ∈ l → ∀ n ∈ d.weights P e, n ∈ DataW.weightsAll P e l
  | d' :: r, d, hd, n, hn => by
    simp only [DataW.weightsAll, List.mem_append]
    rcases List.mem_cons.1 hd with rfl | h
    · exact Or.inl hn
    · exact Or.inr (weightsAll_in h n hn)
theorem open_treesW {fuel : Nat} {a0 : Option Addr} {l0 c0 : Nat} {d : DataW H} {p : List MemPlace} (hf : DataW.trod enc Tryz.prog W 0 (fun _ => true) true fuel 40 [.slice a0 l0 c0] = some (d, p)) :
    ∃ ds : List Td, l0 = ds.length ∧ ds.length ≤ c0 ∧ Tds W a0 ds ∧ ∀ x ∈ ds, x.tx.size ≤ Rows.uptoBulk d ∧ x.tx.size ∈ d.weights Tryz.prog 40 := by
  rcases Deep.open_slice Tryz.underlying40 hf with ⟨h1, _⟩ | ⟨a, len, cap, m, n, D, Pl, h1, _, hl, _, hm, hd, hx⟩
  · simp only [List.cons.injEq, and_true, Value.slice.injEq] at h1
    obtain ⟨rfl, rfl, rfl⟩ := h1
    exact ⟨[], rfl, Nat.le_refl _, fun i hi => by simp at hi, fun x hx => by cases hx⟩
  · simp only [List.cons.injEq, and_true, Value.slice.injEq] at h1
    obtain ⟨rfl, rfl, rfl⟩ := h1
    have hlm : l0 ≤ m := by rw [hm]; simp only [if_true]; exact hl
    have each : ∀ i, i < l0 → ∃ x : Td, W.cell? ((a.add (i * 3)).add 0) = some (.int .i64 x.op) ∧ W.cell? ((a.add (i * 3)).add 1) = some (.string x.tx) ∧ W.cell? ((a.add (i * 3)).add 2) = some (.int .i64 x.n) ∧ x.tx.size ≤ Rows.uptoBulk (D i) ∧ x.tx.size ∈ (D i).weights Tryz.prog 39 := by
      intro i hi
      obtain ⟨cs', g1, g2⟩ := hx i (by omega)
      rw [cellsTree] at g1
      obtain ⟨_, hlen, hcell⟩ := World.cells?_some g1
      obtain ⟨xs, k, _, hxd, _, hxl, hfl⟩ := DataW.trod_struct Tryz.underlying39 g2
      have hfl0 := hfl 0 _ rfl
      have hfl1 := hfl 1 _ rfl
      have hfl2 := hfl 2 _ rfl
      obtain ⟨y0, y1, y2, rfl⟩ := threeT hxl
      obtain ⟨v0, v1, v2, rfl⟩ := threeT hlen
      clear hxl hlen
      simp [cellsTI, cellsTS] at hfl0 hfl1 hfl2
      obtain ⟨z0, e0, _, _⟩ := DataW.trod_int Tryz.underlying3 hfl0
      obtain ⟨s1, e1, e1d, _⟩ := DataW.trod_string Tryz.underlying9 hfl1
      obtain ⟨z2, e2, _, _⟩ := DataW.trod_int Tryz.underlying3 hfl2
      simp only [List.cons.injEq, and_true] at e0 e1 e2
      subst e0 e1 e2
      refine ⟨⟨z0, s1, z2⟩, hcell 0 (by omega), hcell 1 (by omega), hcell 2 (by omega), ?_⟩
      have hD : D i = .agg ([y0, y1, y2].map (·.1)) := (Prod.mk.inj hxd).1
      rw [hD, e1d]
      have e : s1.data.toList.length = s1.size := by rw [Array.length_toList]; rfl
      refine ⟨?_, ?_⟩
      · simp only [List.map_cons, List.map_nil, Rows.uptoBulk, Rows.uptoBulkAll]
        omega
      · simp only [DataW.weights, Tryz.underlying39]
        refine DataW.weights_mem_each (j := 1) (t := 9) rfl rfl _ ?_
        rw [← e]
        exact List.mem_singleton.2 rfl
    have inh : Inhabited Td := ⟨⟨0, ⟨#[]⟩, 0⟩⟩
    obtain ⟨q, hq⟩ := Deep.choose_lt each
    refine ⟨(List.range l0).map q, by simp, by simpa using hl, ?_, ?_⟩
    · intro i hi
      have hi' : i < l0 := by simpa using hi
      obtain ⟨c0, c1, c2, _, _⟩ := hq i hi'
      obtain ⟨c00, _, _, _, _⟩ := hq 0 (by omega)
      have hs : a.spot = none := by
        have := World.cell?_spot c00
        simpa [Addr.add] using this
      obtain ⟨b, o, sp⟩ := a
      simp only at hs
      subst hs
      simp only [addPlainT, Nat.add_zero] at c0 c1 c2
      have hb : b < W.heap.size := by
        rcases Nat.lt_or_ge b W.heap.size with h' | h'
        · exact h'
        · simp [World.cell?, Array.getElem?_eq_none h'] at c0
      refine ⟨b, o, rfl, hb, ?_, ?_, ?_⟩
      · simpa using c0
      · simpa using c1
      · simpa using c2
    · intro x hx
      obtain ⟨i, hi, rfl⟩ := List.mem_map.1 hx
      have hi' := List.mem_range.1 hi
      obtain ⟨_, _, _, h4, h6⟩ := hq i hi'
      have hd' : d = _ := (Prod.mk.inj hd).1
      have h5 : Rows.uptoBulk (D i) ≤ Rows.uptoBulk d := by
        rw [hd']
        exact bulk_slice (List.mem_map.2 ⟨i, hi, rfl⟩)
      refine ⟨by omega, ?_⟩
      rw [hd']
      simp only [DataW.weights, Tryz.underlying40]
      exact List.mem_cons_of_mem _ (List.mem_append_left _ (weightsAll_in (List.mem_map.2 ⟨i, hi, rfl⟩) _ h6))
theorem open_treesF {fuel : Nat} {a0 : Option Addr} {l0 c0 : Nat} {d : DataW H} {p : List MemPlace} (hf : DataW.trod enc Tryz.prog W 0 (fun _ => true) true fuel 40 [.slice a0 l0 c0] = some (d, p)) :
    ∃ ds : List Td, l0 = ds.length ∧ ds.length ≤ c0 ∧ Tds W a0 ds ∧ ∀ x ∈ ds, x.tx.size ≤ Rows.uptoBulk d := by
  obtain ⟨ds, h1, h2, h3, h4⟩ := open_treesW hf
  exact ⟨ds, h1, h2, h3, fun x hx => (h4 x hx).1⟩
/-- How long the texts are, by what comes in. -/
theorem open_treesS {a0 : Option Addr} {l0 c0 : Nat} {d : DataW H} {p : List MemPlace} (h : DataW.Trod enc Tryz.prog W 0 (fun _ => true) true 40 (.slice a0 l0 c0) d p) :
    ∃ ds : List Td, l0 = ds.length ∧ ds.length ≤ c0 ∧ Tds W a0 ds ∧ ∀ x ∈ ds, x.tx.size ∈ d.weights Tryz.prog 40 := by
  obtain ⟨fuel, hf⟩ := h
  obtain ⟨ds, h1, h2, h3, h4⟩ := open_treesW hf
  exact ⟨ds, h1, h2, h3, fun x hx => (h4 x hx).2⟩
theorem open_trees {a0 : Option Addr} {l0 c0 : Nat} {d : DataW H} {p : List MemPlace} (h : DataW.Trod enc Tryz.prog W 0 (fun _ => true) true 40 (.slice a0 l0 c0) d p) :
    ∃ ds : List Td, l0 = ds.length ∧ ds.length ≤ c0 ∧ Tds W a0 ds ∧ ∀ x ∈ ds, x.tx.size ≤ Rows.uptoBulk d := by
  obtain ⟨fuel, hf⟩ := h
  exact open_treesF hf
end
end Go.Proofs.YtmbeamcjpidnjaaGreatDoor
