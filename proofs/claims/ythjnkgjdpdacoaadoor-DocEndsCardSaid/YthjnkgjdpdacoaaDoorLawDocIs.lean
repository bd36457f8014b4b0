/- The walk of the law DocIs. -/
import Derived.Test.YthjnkgjdpdacoaaDoorDocZ
import Derived.Test.YthjnkgjdpdacoaaDoorTold
namespace Go.Proofs.YthjnkgjdpdacoaaDoor
open Go Go.RowKit

theorem endX_bad {ds : List Nd} (i : Int) (h : docF ds ≠ 0) : endX ds i = 0 ∧ endF ds i = docF ds := by
  have e : endF ds i = docF ds := by simp [endF, h]
  exact ⟨by rw [endX, if_neg (by rw [e]; exact h)], e⟩
theorem endX_out {ds : List Nd} (i : Int) (h : docF ds = 0) (hi : i < 0 ∨ (ds.length : Int) ≤ i) : endX ds i = 0 ∧ endF ds i = 1 := by
  have e : endF ds i = 1 := by rw [endF, if_pos h, if_pos hi]
  exact ⟨by rw [endX, if_neg (by rw [e]; decide)], e⟩
theorem endX_in {ds : List Nd} (n : Nat) (h : docF ds = 0) (hi : n < ds.length) : endX ds n = endZ (endAt ds n 1) ∧ endF ds n = 0 := by
  have e : endF ds n = 0 := by rw [endF, if_pos h, if_neg (by omega)]
  exact ⟨by rw [endX, if_pos e, Int.toNat_natCast], e⟩

set_option maxRecDepth 100000 in
set_option maxHeartbeats 4000000 in
theorem docIs_bad (ds : List Nd) (a : Option Addr) (cap : Nat) (i : Int) (w : World) (hN : Nods w a ds) (hg : Hnd w) (h : docF ds ≠ 0) :
    Calls Tryd.prog 4 #[.slice a ds.length cap, .int .i64 i] w fun e w' => e = .returned (.bool true) ∧ Below w.heap.size w w' := by
  have HN : Hid (Nods w a ds) := hN
  have HG : Hid (Hnd w) := hg
  have H : Hid (docF ds ≠ 0) := h
  obtain ⟨x1, x2⟩ := endX_bad i h
  have HX : Hid (endX ds i = 0 ∧ endF ds i = docF ds) := ⟨x1, x2⟩
  have h0 : (docF ds == 0) = false := by simp [h]
  have h1 : (docF ds == docF ds) = true := by simp
  clear hN hg h x1 x2
  go_enter Tryd.func4, Tryd.ntmps4
  go_wp2_with fail
  refine (rfault_any ds a cap _ HN.out).mono ?_
  rintro e w1 ⟨rfl, b1⟩
  go_wp2_with fail
  refine (dcheck_any ds a cap _ (HN.out.below b1)).mono ?_
  rintro e w2 ⟨rfl, b2⟩
  have B2 := belowT b1 (Nat.le_refl _) b2
  go_wp2_with fail
  refine (serr_any (docF ds) (docF ds) _ (HG.out.below B2)).mono ?_
  rintro e w3 ⟨rfl, b3⟩
  have B3 := belowT B2 (Nat.le_refl _) b3
  go_wp2_with fail
  refine (dtext_bad ds a cap _ (HN.out.below B3) H.out).mono ?_
  rintro e w4 ⟨rfl, b4⟩
  have B4 := belowT B3 (Nat.le_refl _) b4
  go_wp2_with fail
  refine (serr_any (docF ds) (docF ds) _ (HG.out.below B4)).mono ?_
  rintro e w5 ⟨rfl, b5⟩
  have B5 := belowT B4 (Nat.le_refl _) b5
  go_wp2_with fail
  refine (dend_any ds a cap i _ (HN.out.below B5)).mono ?_
  rintro e w6 ⟨rfl, b6⟩
  have B6 := belowT B5 (Nat.le_refl _) b6
  rw [HX.out.1, HX.out.2]
  go_wp2_with fail
  refine (serr_any (docF ds) (docF ds) _ (HG.out.below B6)).mono ?_
  rintro e w7 ⟨rfl, b7⟩
  have B7 := belowT B6 (Nat.le_refl _) b7
  go_wp2
  go_ret
  exact ⟨by rfl, B7⟩

set_option maxRecDepth 100000 in
set_option maxHeartbeats 4000000 in
theorem docIs_out (ds : List Nd) (a : Option Addr) (cap : Nat) (hc : ds.length ≤ cap) (i : Int) (w : World) (hN : Nods w a ds) (hg : Hnd w) (h : docF ds = 0) (hi : i < 0 ∨ (¬ i < 0 ∧ (ds.length : Int) ≤ i)) :
    Calls Tryd.prog 4 #[.slice a ds.length cap, .int .i64 i] w fun e w' => e = .returned (.bool true) ∧ Below w.heap.size w w' := by
  obtain ⟨t, ht, hd⟩ := doc_tree h
  obtain ⟨hl, _, _⟩ := docF_zero h
  have HN : Hid (Nods w a ds) := hN
  have HG : Hid (Hnd w) := hg
  have H : Hid (docF ds = 0) := h
  have HD : Hid (ds = t.nodes) := hd
  obtain ⟨x1, x2⟩ := endX_out i h (by omega)
  have HX : Hid (endX ds i = 0 ∧ endF ds i = 1) := ⟨x1, x2⟩
  have HT : Hid (∀ (W : World), Nods W a ds → Calls Tryd.prog 15 #[.slice a ds.length cap, .int .i64 0] W fun e w' => e = .returned (.string t.str) ∧ Below W.heap.size W w') := fun W hW => by
    rw [hd] at hW ⊢
    exact rtext_ok ht (by rw [← hd]; exact hl) a cap W hW
  clear hN hg h x1 x2 hd
  rcases hi with hi | ⟨hi, hi2⟩
  all_goals
    go_enter Tryd.func4, Tryd.ntmps4
    go_wp2_with fail
    refine (rfault_any ds a cap _ HN.out).mono ?_
    rintro e w1 ⟨rfl, b1⟩
    rw [H.out]
    go_wp2_with fail
    refine (dcheck_any ds a cap _ (HN.out.below b1)).mono ?_
    rintro e w2 ⟨rfl, b2⟩
    rw [H.out]
    have B2 := belowT b1 (Nat.le_refl _) b2
    go_wp2_with fail
    refine (serr_any 0 0 _ (HG.out.below B2)).mono ?_
    rintro e w3 ⟨rfl, b3⟩
    have B3 := belowT B2 (Nat.le_refl _) b3
    go_wp2_with fail
    refine (HT.out _ (HN.out.below B3)).mono ?_
    rintro e w4 ⟨rfl, b4⟩
    have B4 := belowT B3 (Nat.le_refl _) b4
    go_wp2_with fail
    refine (dtext_ok ds t HD.out ht hl a cap hc _ (HN.out.below B4)).mono ?_
    rintro e w5 ⟨rfl, b5⟩
    have B5 := belowT B4 (Nat.le_refl _) b5
    go_wp2_with fail
    refine (serr_any 0 0 _ (HG.out.below B5)).mono ?_
    rintro e w6 ⟨rfl, b6⟩
    have B6 := belowT B5 (Nat.le_refl _) b6
    go_wp2_with fail
    refine (dend_any ds a cap i _ (HN.out.below B6)).mono ?_
    rintro e w7 ⟨rfl, b7⟩
    have B7 := belowT B6 (Nat.le_refl _) b7
    rw [HX.out.1, HX.out.2]
    go_wp2_with fail
    refine (serr_any 1 1 _ (HG.out.below B7)).mono ?_
    rintro e w8 ⟨rfl, b8⟩
    have B8 := belowT B7 (Nat.le_refl _) b8
    go_wp2
    go_ret
    exact ⟨by rfl, B8⟩

set_option maxRecDepth 100000 in
set_option maxHeartbeats 4000000 in
theorem docIs_in (ds : List Nd) (a : Option Addr) (cap : Nat) (hc : ds.length ≤ cap) (i : Nat) (w : World) (hN : Nods w a ds) (hg : Hnd w) (h : docF ds = 0) (hi : i < ds.length) :
    Calls Tryd.prog 4 #[.slice a ds.length cap, .int .i64 i] w fun e w' => e = .returned (.bool true) ∧ Below w.heap.size w w' := by
  obtain ⟨t, ht, hd⟩ := doc_tree h
  obtain ⟨hl, _, _⟩ := docF_zero h
  have HN : Hid (Nods w a ds) := hN
  have HG : Hid (Hnd w) := hg
  have H : Hid (docF ds = 0) := h
  have HD : Hid (ds = t.nodes) := hd
  obtain ⟨x1, x2⟩ := endX_in i h hi
  generalize hz : endZ (endAt ds i 1) = z at x1
  have HZ : Hid (endZ (endAt ds i 1) = z) := hz
  have HX : Hid (endX ds i = z ∧ endF ds i = 0) := ⟨x1, x2⟩
  have HT : Hid (∀ (W : World), Nods W a ds → Calls Tryd.prog 15 #[.slice a ds.length cap, .int .i64 0] W fun e w' => e = .returned (.string t.str) ∧ Below W.heap.size W w') := fun W hW => by
    rw [hd] at hW ⊢
    exact rtext_ok ht (by rw [← hd]; exact hl) a cap W hW
  have hi2 : ¬ (ds.length : Int) ≤ (i : Int) := by omega
  clear hN hg h x1 x2 hd hz
  go_enter Tryd.func4, Tryd.ntmps4
  go_wp2_with fail
  refine (rfault_any ds a cap _ HN.out).mono ?_
  rintro e w1 ⟨rfl, b1⟩
  rw [H.out]
  go_wp2_with fail
  refine (dcheck_any ds a cap _ (HN.out.below b1)).mono ?_
  rintro e w2 ⟨rfl, b2⟩
  rw [H.out]
  have B2 := belowT b1 (Nat.le_refl _) b2
  go_wp2_with fail
  refine (serr_any 0 0 _ (HG.out.below B2)).mono ?_
  rintro e w3 ⟨rfl, b3⟩
  have B3 := belowT B2 (Nat.le_refl _) b3
  go_wp2_with fail
  refine (HT.out _ (HN.out.below B3)).mono ?_
  rintro e w4 ⟨rfl, b4⟩
  have B4 := belowT B3 (Nat.le_refl _) b4
  go_wp2_with fail
  refine (dtext_ok ds t HD.out ht hl a cap hc _ (HN.out.below B4)).mono ?_
  rintro e w5 ⟨rfl, b5⟩
  have B5 := belowT B4 (Nat.le_refl _) b5
  go_wp2_with fail
  refine (serr_any 0 0 _ (HG.out.below B5)).mono ?_
  rintro e w6 ⟨rfl, b6⟩
  have B6 := belowT B5 (Nat.le_refl _) b6
  go_wp2_with fail
  refine (rendOf_any ds a cap hl (ds.length + 1) i _ (HN.out.below B6) (by omega) (by omega)).mono ?_
  rintro e w6' ⟨rfl, rfl⟩
  rw [HZ.out]
  go_wp2_with fail
  refine (dend_any ds a cap i _ (HN.out.below B6)).mono ?_
  rintro e w7 ⟨rfl, b7⟩
  have B7 := belowT B6 (Nat.le_refl _) b7
  rw [HX.out.1, HX.out.2]
  go_wp2_with fail
  refine (serr_any 0 0 _ (HG.out.below B7)).mono ?_
  rintro e w8 ⟨rfl, b8⟩
  have B8 := belowT B7 (Nat.le_refl _) b8
  go_wp2
  go_ret
  exact ⟨by rfl, B8⟩

theorem docIs_any (ds : List Nd) (a : Option Addr) (cap : Nat) (hc : ds.length ≤ cap) (i : Int) (w : World) (hN : Nods w a ds) (hg : Hnd w) :
    Calls Tryd.prog 4 #[.slice a ds.length cap, .int .i64 i] w fun e w' => e = .returned (.bool true) ∧ Below w.heap.size w w' := by
  by_cases h : docF ds = 0
  · by_cases hi : i < 0
    · exact docIs_out ds a cap hc i w hN hg h (.inl hi)
    · by_cases hj : (ds.length : Int) ≤ i
      · exact docIs_out ds a cap hc i w hN hg h (.inr ⟨hi, hj⟩)
      · obtain ⟨n, rfl⟩ : ∃ n : Nat, i = n := ⟨i.toNat, by omega⟩
        exact docIs_in ds a cap hc n w hN hg h (by omega)
  · exact docIs_bad ds a cap i w hN hg h
end Go.Proofs.YthjnkgjdpdacoaaDoor
