/- Programs that came in, opened; how long their texts are. -/
import Derived.Test.YtmbeamcjpidnjaaGreatDoorOpenT
namespace Go.Proofs.YtmbeamcjpidnjaaGreatDoor
open Go Go.ChangeShapes Go.WideShapes Go.RowKit

section
variable {H : Type} {enc : TypeId × Value → H} {W : World}
theorem cellsTrees : Tryz.prog.cellsOf 40 = 1 := by kernel_rfl
theorem open_progW {a0 : Option Addr} {l0 c0 : Nat} {d : DataW H} {p : List MemPlace} (h : DataW.Trod enc Tryz.prog W 0 (fun _ => true) true 22 (.slice a0 l0 c0) d p) :
    ∃ ps : List (List Td), l0 = ps.length ∧ ps.length ≤ c0 ∧ Prg W a0 ps ∧ ∀ t ∈ ps, ∀ x ∈ t, x.tx.size ≤ Rows.uptoBulk d ∧ x.tx.size ∈ d.weights Tryz.prog 22 := by
  obtain ⟨fuel, hf⟩ := h
  have hf : DataW.trod enc Tryz.prog W 0 (fun _ => true) true fuel 22 [.slice a0 l0 c0] = some (d, p) := hf
  rcases Deep.open_slice1 Tryz.underlying22 cellsTrees hf with ⟨h1, _⟩ | ⟨a, len, cap, m, n, V, D, Pl, h1, _, hl, _, hm, hd, hx⟩
  · simp only [List.cons.injEq, and_true, Value.slice.injEq] at h1
    obtain ⟨rfl, rfl, rfl⟩ := h1
    exact ⟨[], rfl, Nat.le_refl _, Prg.nil _ _, fun x hx => by cases hx⟩
  · simp only [List.cons.injEq, and_true, Value.slice.injEq] at h1
    obtain ⟨rfl, rfl, rfl⟩ := h1
    have hlm : l0 ≤ m := by rw [hm]; simp only [if_true]; exact hl
    have each : ∀ i, i < l0 → ∃ t : List Td, (∃ a' c', W.cell? (a.add i) = some (.slice a' t.length c') ∧ t.length ≤ c' ∧ Tds W a' t) ∧ ∀ x ∈ t, x.tx.size ≤ Rows.uptoBulk (D i) ∧ x.tx.size ∈ (D i).weights Tryz.prog 40 := by
      intro i hi
      obtain ⟨g1, g2⟩ := hx i (by omega)
      obtain ⟨a', l', c', hv⟩ : ∃ a' l' c', V i = .slice a' l' c' := by
        rcases DataW.trod_slice Tryz.underlying40 g2 with ⟨e, _⟩ | ⟨a', l', c', _, _, _, _, e, _⟩
        · exact ⟨none, 0, 0, by simpa using e⟩
        · exact ⟨some a', l', c', by simpa using e⟩
      rw [hv] at g1 g2
      obtain ⟨t, rfl, t2, t3, t4⟩ := open_treesW g2
      exact ⟨t, ⟨a', c', g1, t2, t3⟩, t4⟩
    obtain ⟨q, hq⟩ := Deep.choose_lt each
    refine ⟨(List.range l0).map q, by simp, by simpa using hl, ?_, ?_⟩
    · intro i hi
      have hi' : i < l0 := by simpa using hi
      obtain ⟨⟨a', c', c0, c1, c2⟩, _⟩ := hq i hi'
      have hs : a.spot = none := by
        obtain ⟨⟨_, _, c00, _⟩, _⟩ := hq 0 (by omega)
        have := World.cell?_spot c00
        simpa [Addr.add] using this
      obtain ⟨b, o, sp⟩ := a
      simp only at hs
      subst hs
      simp only [addPlainT] at c0
      have hb : b < W.heap.size := by
        rcases Nat.lt_or_ge b W.heap.size with h' | h'
        · exact h'
        · simp [World.cell?, Array.getElem?_eq_none h'] at c0
      refine ⟨b, o, a', c', rfl, hb, ?_, ?_, ?_⟩
      · simpa using c0
      · simpa using c1
      · simpa using c2
    · intro t ht x hx
      obtain ⟨i, hi, rfl⟩ := List.mem_map.1 ht
      have hi' := List.mem_range.1 hi
      obtain ⟨_, h4⟩ := hq i hi'
      have hd' : d = _ := (Prod.mk.inj hd).1
      have h5 : Rows.uptoBulk (D i) ≤ Rows.uptoBulk d := by
        rw [hd']
        exact bulk_slice (List.mem_map.2 ⟨i, hi, rfl⟩)
      have h6 := h4 x hx
      refine ⟨by omega, ?_⟩
      rw [hd']
      simp only [DataW.weights, Tryz.underlying22]
      exact List.mem_cons_of_mem _ (List.mem_append_left _ (weightsAll_in (List.mem_map.2 ⟨i, hi, rfl⟩) _ h6.2))
theorem open_prog {a0 : Option Addr} {l0 c0 : Nat} {d : DataW H} {p : List MemPlace} (h : DataW.Trod enc Tryz.prog W 0 (fun _ => true) true 22 (.slice a0 l0 c0) d p) :
    ∃ ps : List (List Td), l0 = ps.length ∧ ps.length ≤ c0 ∧ Prg W a0 ps ∧ ∀ t ∈ ps, ∀ x ∈ t, x.tx.size ≤ Rows.uptoBulk d := by
  obtain ⟨ps, h1, h2, h3, h4⟩ := open_progW h
  exact ⟨ps, h1, h2, h3, fun t ht x hx => (h4 t ht x hx).1⟩
/-- How long the texts are, by what comes in. -/
theorem open_progS {a0 : Option Addr} {l0 c0 : Nat} {d : DataW H} {p : List MemPlace} (h : DataW.Trod enc Tryz.prog W 0 (fun _ => true) true 22 (.slice a0 l0 c0) d p) :
    ∃ ps : List (List Td), l0 = ps.length ∧ ps.length ≤ c0 ∧ Prg W a0 ps ∧ ∀ t ∈ ps, ∀ x ∈ t, x.tx.size ∈ d.weights Tryz.prog 22 := by
  obtain ⟨ps, h1, h2, h3, h4⟩ := open_progW h
  exact ⟨ps, h1, h2, h3, fun t ht x hx => (h4 t ht x hx).2⟩
end
end Go.Proofs.YtmbeamcjpidnjaaGreatDoor
