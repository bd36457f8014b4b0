/- Some texts as one: FlatF, FlatG. -/
import Derived.Test.YtfabfclbnekleaaDoorLayFs
import Derived.Test.YtfabfclbnekleaaDoorFlatS
import Derived.Test.YtfabfclbnekleaaDoorDocs
namespace Go.Proofs.YtfabfclbnekleaaDoor
open Go Go.RowKit

set_option maxRecDepth 100000 in
set_option maxHeartbeats 2000000 in
theorem flat_bad (ds : List Nd) (a : Option Addr) (cap : Nat) (w : World) (hN : Nods w a ds) (h : docF ds ≠ 0) :
    Calls Tryd.prog 27 #[.slice a ds.length cap] w fun e w' => e = .returned (.tuple #[.string ⟨#[]⟩, .bool false, errN (docF ds)]) ∧ Below w.heap.size w w' := by
  have HN : Hid (Nods w a ds) := hN
  have H : Hid (docF ds ≠ 0) := h
  rw [errN_ne h]
  clear hN h
  go_enter Tryd.func27, Tryd.ntmps27
  go_wp2_with fail
  refine (dcheck_any ds a cap _ HN.out).mono ?_
  rintro e w2 ⟨rfl, hB⟩
  rw [errN_ne H.out]
  go_wp2
  go_ret3
  exact ⟨rfl, hB⟩

set_option maxRecDepth 100000 in
set_option maxHeartbeats 2000000 in
theorem flat_ok (ds : List Nd) (t : Tr) (hd : ds = t.nodes) (ht : t.Wf) (hl : ds.length ≤ 400) (a : Option Addr) (cap : Nat) (hc : ds.length ≤ cap) (w : World) (hN : Nods w a ds) :
    Calls Tryd.prog 27 #[.slice a ds.length cap] w fun e w' => e = .returned (.tuple #[.string t.line, .bool t.isFlat, .nilIface]) ∧ Below w.heap.size w w' := by
  have HN : Hid (Nods w a ds) := hN
  have H : Hid (docF ds = 0) := (show docF ds = 0 by rw [hd]; exact tree_doc ht (by rw [← hd]; exact hl))
  have HD : Hid (ds = t.nodes) := hd
  have H0 : Hid (ds ≠ []) := (show ds ≠ [] by have := t.pos; rw [← hd] at this; exact List.length_pos_iff.1 this)
  clear hN hd
  cases hk : t.brk
  case' true => obtain ⟨q1, q2⟩ := laid_none hk
  case' false => obtain ⟨q1, q2⟩ := laid_line hk
  all_goals
    rw [q1, q2]
    have HK := (show Hid (t.brk = _) from hk)
    clear hk q1 q2
    go_enter Tryd.func27, Tryd.ntmps27
    go_wp2_with fail
    refine (dcheck_any ds a cap _ HN.out).mono ?_
    rintro e w2 ⟨rfl, hB⟩
    rw [H.out, errN_0]
    have HB : Hid (Below w.heap.size w w2) := hB
    obtain ⟨s, hs, hns⟩ := (HN.out.below hB).s H0.out
    have HM : Hid (NodsS s w2 a ds) := hns
    clear hB hns
    go_wp2_with fail
    refine (lnlay_any t ht w2.heap.size w2.heap.size s ds [] a cap [] false _ (by rw [HD.out]; simp) (HM.out.kept (Below.heap_alloc _ _ _ hs)) hs (by omega) hc (IsX.fresh 92 w2 [.bool false]) (by simp) (by simp; omega)).mono ?_
    rintro e w3 ⟨⟨a3, cap3, rfl, _, _⟩, hw3, hb3, _⟩
    have hB3 : Below w.heap.size w w3 := HB.out.trans ((((Below.refl _ w2).alloc (Nat.le_refl _) _).trans (hb3.below (Nat.le_refl _))).mono HB.out.size)
    rw [Bool.false_or, List.nil_append] at hw3
    have HW3 : Hid (Ln w2.heap.size w2.heap.size t.laid t.brk w3) := hw3
    have g1 := hw3.cell
    rw [HK.out] at g1
    clear hw3
  · go_wp2_with fail
    refine (xout_any 92 w2.heap.size w2.heap.size t.laid [.bool t.brk] w3 HW3.out).mono ?_
    rintro e w4 ⟨rfl, hb4⟩
    go_wp2
    go_ret3
    exact ⟨rfl, hB3.trans (hb4.mono HB.out.size)⟩
  · go_wp2
    go_ret3
    exact ⟨rfl, hB3⟩

theorem flat_any (ds : List Nd) (a : Option Addr) (cap : Nat) (hc : ds.length ≤ cap) (w : World) (hN : Nods w a ds) :
    Calls Tryd.prog 27 #[.slice a ds.length cap] w fun e w' => e = .returned (.tuple #[.string (flS ds), .bool (flB ds), errN (docF ds)]) ∧ Below w.heap.size w w' := by
  by_cases h : docF ds = 0
  · obtain ⟨hl, _, _⟩ := docF_zero h
    obtain ⟨e0, e1, e2⟩ := fl_tree (docT_wf h) (docT_nodes h) hl
    rw [e1, e2, h, errN_0]
    exact flat_ok ds _ (docT_nodes h) (docT_wf h) hl a cap hc w hN
  · obtain ⟨e1, e2⟩ := fl_bad h
    rw [e1, e2]
    exact flat_bad ds a cap w hN h
end Go.Proofs.YtfabfclbnekleaaDoor
namespace Go.Proofs.YtfabfclbnekleaaDoor
open Go Go.RowKit

set_option maxRecDepth 100000 in
set_option maxHeartbeats 2000000 in
theorem flong_any (ds : List Nd) (a : Option Addr) (cap : Nat) (hc : ds.length ≤ cap) (w : World) (hN : Nods w a ds) :
    Calls Tryd.prog 28 #[.slice a ds.length cap] w fun e w' => e = .returned (.tuple #[.int .i64 (flS ds).size, .bool (flB ds), errN (docF ds)]) ∧ Below w.heap.size w w' := by
  have HN : Hid (Nods w a ds) := hN
  clear hN
  generalize hs : flS ds = s
  generalize hb : flB ds = b
  generalize he : errN (docF ds) = v
  have H : Hid (flS ds = s ∧ flB ds = b ∧ errN (docF ds) = v) := ⟨hs, hb, he⟩
  clear hs hb he
  go_enter Tryd.func28, Tryd.ntmps28
  go_wp2_with fail
  refine (flat_any ds a cap hc _ HN.out).mono ?_
  rintro e w2 ⟨rfl, hB⟩
  rw [H.out.1, H.out.2.1, H.out.2.2]
  go_wp2
  go_ret3
  exact ⟨rfl, hB⟩
end Go.Proofs.YtfabfclbnekleaaDoor
