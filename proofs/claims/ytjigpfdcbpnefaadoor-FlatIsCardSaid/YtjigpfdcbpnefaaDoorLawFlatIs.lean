/- The walk of the law FlatIs. -/
import Derived.Test.YtjigpfdcbpnefaaDoorFlatG
import Derived.Test.YtjigpfdcbpnefaaDoorFlatRZ
import Derived.Test.YtjigpfdcbpnefaaDoorDocD
import Derived.Test.YtjigpfdcbpnefaaDoorTold
namespace Go.Proofs.YtjigpfdcbpnefaaDoor
open Go Go.RowKit

set_option maxRecDepth 100000 in
set_option maxHeartbeats 4000000 in
theorem flatIs_bad (ds : List Nd) (a : Option Addr) (cap : Nat) (hc : ds.length ≤ cap) (w : World) (hN : Nods w a ds) (hg : Hnd w) (h : docF ds ≠ 0) :
    Calls Tryd.prog 6 #[.slice a ds.length cap] w fun e w' => e = .returned (.bool true) ∧ Below w.heap.size w w' := by
  have HN : Hid (Nods w a ds) := hN
  have HG : Hid (Hnd w) := hg
  have H : Hid (docF ds ≠ 0) := h
  have HX : Hid (flS ds = ⟨#[]⟩ ∧ flB ds = false) := fl_bad h
  have h0 : (docF ds == 0) = false := by simp [h]
  have h1 : (docF ds == docF ds) = true := by simp
  clear hN hg h
  go_enter Tryd.func6, Tryd.ntmps6
  go_wp2_with fail
  refine (rfault_any ds a cap _ HN.out).mono ?_
  rintro e w1 ⟨rfl, b1⟩
  go_wp2_with fail
  refine (flat_any ds a cap hc _ (HN.out.below b1)).mono ?_
  rintro e w2 ⟨rfl, b2⟩
  rw [HX.out.1, HX.out.2]
  have B2 := belowT b1 (Nat.le_refl _) b2
  go_wp2_with fail
  refine (serr_any (docF ds) (docF ds) _ (HG.out.below B2)).mono ?_
  rintro e w3 ⟨rfl, b3⟩
  have B3 := belowT B2 (Nat.le_refl _) b3
  go_wp2_with fail
  refine (flong_any ds a cap hc _ (HN.out.below B3)).mono ?_
  rintro e w4 ⟨rfl, b4⟩
  rw [HX.out.1, HX.out.2]
  have B4 := belowT B3 (Nat.le_refl _) b4
  go_wp2_with fail
  refine (serr_any (docF ds) (docF ds) _ (HG.out.below B4)).mono ?_
  rintro e w5 ⟨rfl, b5⟩
  have B5 := belowT B4 (Nat.le_refl _) b5
  go_wp2
  go_ret
  exact ⟨by rfl, B5⟩

set_option maxRecDepth 100000 in
set_option maxHeartbeats 4000000 in
theorem flatIs_ok (ds : List Nd) (a : Option Addr) (cap : Nat) (hc : ds.length ≤ cap) (w : World) (hN : Nods w a ds) (hg : Hnd w) (h : docF ds = 0) :
    Calls Tryd.prog 6 #[.slice a ds.length cap] w fun e w' => e = .returned (.bool true) ∧ Below w.heap.size w w' := by
  obtain ⟨hl, _, _⟩ := docF_zero h
  obtain ⟨_, q1, q2⟩ := fl_tree (docT_wf h) (docT_nodes h) hl
  have HT : Hid (∀ (W : World), Nods W a ds → Calls Tryd.prog 23 #[.slice a ds.length cap, .int .i64 0] W fun e w' => e = .returned (.tuple #[.string (flS ds), .bool (flB ds)]) ∧ Below W.heap.size W w') := fun W hW => by
    have ht := docT_wf h
    have hd := docT_nodes h
    rw [q1, q2]
    generalize docT ds h = t at *
    subst hd
    exact rflat_ok ht hl a cap W hW
  have h1 : flB ds = false → flS ds = ⟨#[]⟩ := fun hf => by
    rw [q2, Tr.isFlat] at hf
    rw [q1, Tr.line]
    cases hk : (docT ds h).flat with
    | none => rfl
    | some s => rw [hk] at hf; cases hf
  have HN : Hid (Nods w a ds) := hN
  have HG : Hid (Hnd w) := hg
  have H : Hid (docF ds = 0) := h
  generalize hs : flS ds = s at h1
  have HS : Hid (flS ds = s) := hs
  clear hN hg h q1 q2 hs
  cases hb : flB ds
  case' false => obtain rfl := h1 hb
  all_goals
    have HB := (show Hid (flB ds = _) from hb)
    clear hb h1
    go_enter Tryd.func6, Tryd.ntmps6
    go_wp2_with fail
    refine (rfault_any ds a cap _ HN.out).mono ?_
    rintro e w1 ⟨rfl, b1⟩
    rw [H.out]
    go_wp2_with fail
    refine (HT.out _ (HN.out.below b1)).mono ?_
    rintro e w2 ⟨rfl, b2⟩
    rw [HS.out, HB.out]
    have B2 := belowT b1 (Nat.le_refl _) b2
    go_wp2_with fail
    refine (flat_any ds a cap hc _ (HN.out.below B2)).mono ?_
    rintro e w3 ⟨rfl, b3⟩
    rw [H.out, HS.out, HB.out]
    have B3 := belowT B2 (Nat.le_refl _) b3
    go_wp2_with fail
    refine (serr_any 0 0 _ (HG.out.below B3)).mono ?_
    rintro e w4 ⟨rfl, b4⟩
    have B4 := belowT B3 (Nat.le_refl _) b4
    go_wp2_with fail
    refine (flong_any ds a cap hc _ (HN.out.below B4)).mono ?_
    rintro e w5 ⟨rfl, b5⟩
    rw [H.out, HS.out, HB.out]
    have B5 := belowT B4 (Nat.le_refl _) b5
    go_wp2_with fail
    refine (serr_any 0 0 _ (HG.out.below B5)).mono ?_
    rintro e w6 ⟨rfl, b6⟩
    have B6 := belowT B5 (Nat.le_refl _) b6
    go_wp2
    go_ret
    exact ⟨by rfl, B6⟩

theorem flatIs_any (ds : List Nd) (a : Option Addr) (cap : Nat) (hc : ds.length ≤ cap) (w : World) (hN : Nods w a ds) (hg : Hnd w) :
    Calls Tryd.prog 6 #[.slice a ds.length cap] w fun e w' => e = .returned (.bool true) ∧ Below w.heap.size w w' := by
  by_cases h : docF ds = 0
  · exact flatIs_ok ds a cap hc w hN hg h
  · exact flatIs_bad ds a cap hc w hN hg h
end Go.Proofs.YtjigpfdcbpnefaaDoor
