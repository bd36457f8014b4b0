/- Words and numbers that came in, opened. -/
import Derived.Test.YtmbeamcjpidnjaaGreatDoorRows
import Derived.Test.YtmbeamcjpidnjaaGreatDoorMems
import Derived.Deep.Slices
import Derived.Carry
import Derived.RowKit
namespace Go.Proofs.YtmbeamcjpidnjaaGreatDoor
open Go Go.ChangeShapes Go.WideShapes Go.RowKit

theorem laidOutW : laidOutB Tryz.prog = true := by kernel_rfl
theorem cellsInt : Tryz.prog.cellsOf 3 = 1 := by kernel_rfl
theorem cellsStr : Tryz.prog.cellsOf 9 = 1 := by kernel_rfl
theorem addPlain (b o n : Nat) : (⟨b, o, none⟩ : Addr).add n = ⟨b, o + n, none⟩ := by
  unfold Addr.add
  split
  · rename_i h; subst h; rfl
  · rfl

section
variable {H : Type} {enc : TypeId × Value → H} {W : World}
theorem open_words {a0 : Option Addr} {l0 c0 : Nat} {d : DataW H} {p : List MemPlace} (h : DataW.Trod enc Tryz.prog W 0 (fun _ => true) true 41 (.slice a0 l0 c0) d p) :
    ∃ ws : List ByteArray, l0 = ws.length ∧ ws.length ≤ c0 ∧ c0 ≤ maxLen ∧ Wds W a0 ws := by
  obtain ⟨fuel, hf⟩ := h
  have hf : DataW.trod enc Tryz.prog W 0 (fun _ => true) true fuel 41 [.slice a0 l0 c0] = some (d, p) := hf
  rcases Deep.open_slice Tryz.underlying41 hf with ⟨h1, _⟩ | ⟨a, len, cap, m, n, D, Pl, h1, _, hl, hcm, hm, _, hx⟩
  · simp only [List.cons.injEq, and_true, Value.slice.injEq] at h1
    obtain ⟨rfl, rfl, rfl⟩ := h1
    exact ⟨[], rfl, Nat.le_refl _, Nat.zero_le _, fun i hi => by simp at hi⟩
  · simp only [List.cons.injEq, and_true, Value.slice.injEq] at h1
    obtain ⟨rfl, rfl, rfl⟩ := h1
    have hlm : l0 ≤ m := by rw [hm]; simp only [if_true]; exact hl
    have each : ∀ i, i < l0 → ∃ x : ByteArray, W.cell? (a.add i) = some (.string x) := by
      intro i hi
      obtain ⟨cs', g1, g2⟩ := hx i (by omega)
      rw [cellsStr] at g1
      obtain ⟨_, hlen, hcell⟩ := World.cells?_some g1
      obtain ⟨z, rfl⟩ : ∃ z, cs' = [z] := by
        match cs', hlen with
        | [z], _ => exact ⟨z, rfl⟩
      obtain ⟨y, e0, _, _⟩ := DataW.trod_string Tryz.underlying9 g2
      simp only [List.cons.injEq, and_true] at e0
      subst e0
      have hc := hcell 0 (by omega)
      have ha : (a.add (i * 1)).add 0 = a.add i := by rw [Nat.mul_one]; simp [Addr.add]
      rw [ha] at hc
      exact ⟨y, hc⟩
    obtain ⟨q, hq⟩ := Deep.choose_lt each
    refine ⟨(List.range l0).map q, by simp, by simpa using hl, hcm, ?_⟩
    intro i hi
    have hi' : i < l0 := by simpa using hi
    have c0 := hq i hi'
    have c00 := hq 0 (by omega)
    have hs : a.spot = none := by
      have := World.cell?_spot c00
      simpa [Addr.add] using this
    obtain ⟨b, o, sp⟩ := a
    simp only at hs
    subst hs
    simp only [addPlain] at c0
    have hb : b < W.heap.size := by
      rcases Nat.lt_or_ge b W.heap.size with h' | h'
      · exact h'
      · simp [World.cell?, Array.getElem?_eq_none h'] at c0
    exact ⟨b, o, rfl, hb, by simpa using c0⟩
theorem open_nums {a0 : Option Addr} {l0 c0 : Nat} {d : DataW H} {p : List MemPlace} (h : DataW.Trod enc Tryz.prog W 0 (fun _ => true) true 42 (.slice a0 l0 c0) d p) :
    ∃ ws : List Int, l0 = ws.length ∧ ws.length ≤ c0 ∧ c0 ≤ maxLen ∧ Ints W a0 ws := by
  obtain ⟨fuel, hf⟩ := h
  have hf : DataW.trod enc Tryz.prog W 0 (fun _ => true) true fuel 42 [.slice a0 l0 c0] = some (d, p) := hf
  rcases Deep.open_slice Tryz.underlying42 hf with ⟨h1, _⟩ | ⟨a, len, cap, m, n, D, Pl, h1, _, hl, hcm, hm, _, hx⟩
  · simp only [List.cons.injEq, and_true, Value.slice.injEq] at h1
    obtain ⟨rfl, rfl, rfl⟩ := h1
    exact ⟨[], rfl, Nat.le_refl _, Nat.zero_le _, fun i hi => by simp at hi⟩
  · simp only [List.cons.injEq, and_true, Value.slice.injEq] at h1
    obtain ⟨rfl, rfl, rfl⟩ := h1
    have hlm : l0 ≤ m := by rw [hm]; simp only [if_true]; exact hl
    have each : ∀ i, i < l0 → ∃ x : Int, W.cell? (a.add i) = some (.int .i64 x) := by
      intro i hi
      obtain ⟨cs', g1, g2⟩ := hx i (by omega)
      rw [cellsInt] at g1
      obtain ⟨_, hlen, hcell⟩ := World.cells?_some g1
      obtain ⟨z, rfl⟩ : ∃ z, cs' = [z] := by
        match cs', hlen with
        | [z], _ => exact ⟨z, rfl⟩
      obtain ⟨y, e0, _, _⟩ := DataW.trod_int Tryz.underlying3 g2
      simp only [List.cons.injEq, and_true] at e0
      subst e0
      have hc := hcell 0 (by omega)
      have ha : (a.add (i * 1)).add 0 = a.add i := by rw [Nat.mul_one]; simp [Addr.add]
      rw [ha] at hc
      exact ⟨y, hc⟩
    obtain ⟨q, hq⟩ := Deep.choose_lt each
    refine ⟨(List.range l0).map q, by simp, by simpa using hl, hcm, ?_⟩
    intro i hi
    have hi' : i < l0 := by simpa using hi
    have c0 := hq i hi'
    have c00 := hq 0 (by omega)
    have hs : a.spot = none := by
      have := World.cell?_spot c00
      simpa [Addr.add] using this
    obtain ⟨b, o, sp⟩ := a
    simp only at hs
    subst hs
    simp only [addPlain] at c0
    have hb : b < W.heap.size := by
      rcases Nat.lt_or_ge b W.heap.size with h' | h'
      · exact h'
      · simp [World.cell?, Array.getElem?_eq_none h'] at c0
    exact ⟨b, o, rfl, hb, by simpa using c0⟩
end
end Go.Proofs.YtmbeamcjpidnjaaGreatDoor
