/- together of the statements' package: two docs as one. -/
import Derived.Test.YtfabfclbnekleabNodApp
namespace Go.Proofs.Ytfabfclbnekleab
open Go Go.RowKit

theorem nods_ne {w : World} {a : Option Addr} {ds : List Nd} (h : Nods w a ds) (h0 : ds ≠ []) : ∃ b o, a = some ⟨b, o, none⟩ ∧ b < w.heap.size := by
  have hl : 0 < ds.length := List.length_pos_iff.2 h0
  obtain ⟨b, o, e, hb, _⟩ := h 0 hl
  exact ⟨b, o, e, hb⟩

set_option maxRecDepth 100000 in
set_option maxHeartbeats 2000000 in
theorem together_any (ds es : List Nd) (a o : Option Addr) (cap cap2 : Nat) (w : World) (hN : Nods w a ds) (hM : Nods w o es) (hd : ds ≠ []) (he : es ≠ []) (hl : ds.length + es.length ≤ 1000000) :
    Calls Try.prog 7 #[.slice a ds.length cap, .slice o es.length cap2] w fun e w' => (∃ a' cap', e = .returned (.slice a' (ds.length + es.length + 1) cap') ∧ ds.length + es.length + 1 ≤ cap' ∧ Nods w' a' (⟨6, ⟨#[]⟩, 0⟩ :: (ds ++ es))) ∧ Below w.heap.size w w' := by
  obtain ⟨i0, hi, hz0, hz1, hz2⟩ := info_parts ndInfo
  obtain ⟨b1, o1, rfl, hb1⟩ := nods_ne hN hd
  obtain ⟨b2, o2, rfl, hb2⟩ := nods_ne hM he
  have HN : Hid (Nods w (some ⟨b1, o1, none⟩) ds) := hN
  have HM : Hid (Nods w (some ⟨b2, o2, none⟩) es) := hM
  clear hN hM
  go_enter Try.func7, Try.ntmps7
  have hown0 : (w.alloc (.cells #[.int .i64 6, .string ⟨#[]⟩, .int .i64 0] 31)).ownsRow w.heap.size 31 3 (.slice (some ⟨w.heap.size, 0, none⟩) 1 1) 1 (ndCells [⟨6, ⟨#[]⟩, 0⟩]) :=
    ⟨rfl, .inr ⟨w.heap.size, 1, #[.int .i64 6, .string ⟨#[]⟩, .int .i64 0], rfl, Nat.le_refl _, heap_alloc_new w _, Nat.le_refl _, by unfold maxLen; decide, rfl, rfl⟩⟩
  have HO : Hid ((w.alloc (.cells #[.int .i64 6, .string ⟨#[]⟩, .int .i64 0] 31)).ownsRow w.heap.size 31 3 (.slice (some ⟨w.heap.size, 0, none⟩) 1 1) 1 (ndCells [⟨6, ⟨#[]⟩, 0⟩])) := hown0
  clear hown0
  go_wp2_with (at_builtin; refine wpList_append_own _ rfl _ _ 22 rfl w.heap.size 31 i0 _ 3 32 Try.underlying22 hi hz0 hz1 hz2 rfl (by decide) _ _ _ rfl HO.out ⟨b1, o1, none⟩ ds.length cap (ndCells ds) rfl (ndCells_len ds) ?c1 (ndCells_one ds) ?c3 ?c4 ?c5 ?_)
  case c1 => exact nods_news (HN.out.alloc _)
  case c3 => unfold maxLen; omega
  case c4 => omega
  case c5 => simp
  intro v1 w1 hown1 hgrow1 _
  have HB1 : Hid (Below w.heap.size w w1) := ((Below.refl _ w).alloc (Nat.le_refl _) _).grown hgrow1 (by simp) (fun k hk => by simp only [Value.ownBlock, Option.some.injEq] at hk; omega)
  have HO1 : Hid (w1.ownsRow w.heap.size 31 3 v1 (1 + ds.length) (ndCells [⟨6, ⟨#[]⟩, 0⟩] ++ ndCells ds)) := hown1
  have hw1 := HB1.out.size
  clear hown1 hgrow1 HO
  go_wp2_with (at_builtin; refine wpList_append_own _ rfl _ _ 22 rfl w.heap.size 31 i0 _ 3 32 Try.underlying22 hi hz0 hz1 hz2 rfl (by decide) _ _ _ rfl HO1.out ⟨b2, o2, none⟩ es.length cap2 (ndCells es) rfl (ndCells_len es) ?c1 (ndCells_one es) ?c3 ?c4 ?c5 ?_)
  case c1 => exact nods_news (HM.out.below HB1.out)
  case c3 => unfold maxLen; omega
  case c4 => omega
  case c5 => exact hw1
  intro v2 w2 hown2 hgrow2 _
  have HB2 : Hid (Below w.heap.size w w2) := HB1.out.grown hgrow2 hw1 (fun k hk => (HO1.out.lt k hk).1)
  obtain ⟨a2, c2, rfl⟩ : ∃ a2 c2, v2 = .slice a2 (ds.length + es.length + 1) c2 := by
    rcases hown2.2 with ⟨_, h0⟩ | ⟨g, c, cur, hv, _⟩
    · omega
    · exact ⟨_, c, by rw [hv]; congr 1; omega⟩
  have HO2 : Hid (w2.ownsRow w.heap.size 31 3 (.slice a2 (ds.length + es.length + 1) c2) (⟨6, ⟨#[]⟩, 0⟩ :: (ds ++ es) : List Nd).length (ndCells (⟨6, ⟨#[]⟩, 0⟩ :: (ds ++ es)))) := by
    have e1 : (⟨6, ⟨#[]⟩, 0⟩ :: (ds ++ es) : List Nd).length = 1 + ds.length + es.length := by simp; omega
    have e2 : ndCells (⟨6, ⟨#[]⟩, 0⟩ :: (ds ++ es)) = ndCells [⟨6, ⟨#[]⟩, 0⟩] ++ ndCells ds ++ ndCells es := by
      rw [← ndCells_app, ← ndCells_app]; rfl
    show w2.ownsRow _ _ _ _ _ _
    rw [e1, e2]
    exact hown2
  clear hown2 hgrow2 HO1
  go_wp2
  go_ret
  obtain ⟨_, q2, q3⟩ := own_nods HO2.out
  refine ⟨⟨a2, c2, rfl, ?_, q3⟩, HB2.out⟩
  simp at q2
  exact q2
end Go.Proofs.Ytfabfclbnekleab
