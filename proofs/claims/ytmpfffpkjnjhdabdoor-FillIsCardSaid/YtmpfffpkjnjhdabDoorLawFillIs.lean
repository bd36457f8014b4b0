/- The walk of the law FillIs. -/
import Derived.Test.YtmpfffpkjnjhdabDoorFilG
import Derived.Test.YtmpfffpkjnjhdabDoorFilT
import Derived.Test.YtmpfffpkjnjhdabDoorAsT
namespace Go.Proofs.YtmpfffpkjnjhdabDoor
open Go Go.RowKit

theorem fillE_words {ws : List ByteArray} (wd : Int) (h : wordsF ws ≠ 0) : fillE ws wd = wordsF ws := by rw [fillE, if_pos h]
theorem fillE_range {ws : List ByteArray} {wd : Int} (h : wordsF ws = 0) (hw : wd < 1 ∨ 100 < wd) : fillE ws wd = 1 := by rw [fillE, if_neg (by simp [h]), if_pos hw]
theorem fillE_ok {ws : List ByteArray} {wd : Nat} (h : wordsF ws = 0) (h1 : 1 ≤ wd) (h2 : wd ≤ 100) : fillE ws wd = 0 := by rw [fillE, if_neg (by simp [h]), if_neg (by omega)]

set_option maxRecDepth 100000 in
set_option maxHeartbeats 4000000 in
theorem fillIs_words (ws : List ByteArray) (a : Option Addr) (cap : Nat) (ms : List Int) (ma : Option Addr) (mc : Nat) (wd : Int) (w : World) (hc : ws.length ≤ cap) (hW : Wds w a ws) (hM : Ints w ma ms) (hl : ms.length ≤ 9223372036854775807) (hg : Hnd w) (h : wordsF ws ≠ 0) :
    Calls Tryd.prog 3 #[.slice a ws.length cap, .slice ma ms.length mc, .int .i64 wd] w fun e w' => e = .returned (.bool true) ∧ Below w.heap.size w w' := by
  have HW : Hid (Wds w a ws) := hW
  have HM : Hid (Ints w ma ms) := hM
  have HG : Hid (Hnd w) := hg
  have h0 : (wordsF ws == 0) = false := by simp [h]
  have HE : Hid (fillE ws wd = wordsF ws) := fillE_words wd h
  have HR : Hid (rgE ws ms wd = wordsF ws ∧ rgK ws ms wd = 0) := by
    have := rgE_bad (ms := ms) (show fillE ws wd ≠ 0 by rw [HE.out]; exact h)
    rw [HE.out] at this
    exact this
  have HN : Hid (fillE ws wd ≠ 0) := by show fillE ws wd ≠ 0; rw [HE.out]; exact h
  have h1 : (wordsF ws == wordsF ws) = true := by simp
  clear hW hM hg h
  generalize hwf : wordsF ws = z at h0 HE HR h1
  have HZ : Hid (wordsF ws = z) := hwf
  clear hwf
  go_enter Tryd.func3, Tryd.ntmps3
  go_wp2_with fail
  refine (rWords_any ws a cap _ HW.out).mono ?_
  rintro e w1 ⟨rfl, rfl⟩
  rw [HZ.out]
  go_wp2_with fail
  refine (xCheck_any ws a cap _ HW.out).mono ?_
  rintro e w1 ⟨rfl, rfl⟩
  rw [HZ.out]
  go_wp2_with fail
  refine (serr_any z z _ HG.out).mono ?_
  rintro e w2 ⟨rfl, b2⟩
  go_wp2_with fail
  refine (xFill_bad ws a cap wd _ (Wds.below HW.out b2) HN.out).mono ?_
  rintro e w3 ⟨rfl, rfl⟩
  rw [HE.out]
  go_wp2_with fail
  refine (serr_any z z _ (HG.out.below b2)).mono ?_
  rintro e w4 ⟨rfl, b4⟩
  have B4 := belowT b2 (Nat.le_refl _) b4
  go_wp2_with fail
  refine (stexts_same [] none none 0 0 _ (WdsB.nil _ _ _) (WdsB.nil _ _ _) (by simp)).mono ?_
  rintro e w5 ⟨rfl, q, hq⟩
  have B5 : Below w.heap.size w w5 := by rw [hq]; exact belDraw B4 q
  clear hq
  go_wp2_with fail
  refine (xRagged_any ws a cap ms ma mc wd _ hc (Wds.below HW.out B5) (Ints.below HM.out B5) hl).mono ?_
  rintro e w6 ⟨rfl, rfl⟩
  rw [HR.out.1, HR.out.2]
  go_wp2_with fail
  refine (serr_any z z _ (HG.out.below B5)).mono ?_
  rintro e w7 ⟨rfl, b7⟩
  have B7 := belowT B5 (Nat.le_refl _) b7
  go_wp2
  go_ret
  exact ⟨by rfl, B7⟩

set_option maxRecDepth 100000 in
set_option maxHeartbeats 4000000 in
theorem fillIs_range (ws : List ByteArray) (a : Option Addr) (cap : Nat) (ms : List Int) (ma : Option Addr) (mc : Nat) (wd : Int) (w : World) (hc : ws.length ≤ cap) (hW : Wds w a ws) (hM : Ints w ma ms) (hl : ms.length ≤ 9223372036854775807) (hg : Hnd w) (h : wordsF ws = 0) (hw : wd < 1 ∨ 100 < wd) :
    Calls Tryd.prog 3 #[.slice a ws.length cap, .slice ma ms.length mc, .int .i64 wd] w fun e w' => e = .returned (.bool true) ∧ Below w.heap.size w w' := by
  have HW : Hid (Wds w a ws) := hW
  have HM : Hid (Ints w ma ms) := hM
  have HG : Hid (Hnd w) := hg
  have HE : Hid (fillE ws wd = 1) := fillE_range h hw
  have HN : Hid (fillE ws wd ≠ 0) := by show fillE ws wd ≠ 0; rw [HE.out]; decide
  have HR : Hid (rgE ws ms wd = 1 ∧ rgK ws ms wd = 0) := by
    have := rgE_bad (ms := ms) HN.out
    rw [HE.out] at this
    exact this
  have HZ : Hid (wordsF ws = 0) := h
  have hcase : wd < 1 ∨ (¬ wd < 1 ∧ 100 < wd) := by omega
  clear hW hM hg h hw
  rcases hcase with hw | ⟨hw1, hw⟩
  all_goals
    go_enter Tryd.func3, Tryd.ntmps3
    go_wp2_with fail
    refine (rWords_any ws a cap _ HW.out).mono ?_
    rintro e w1 ⟨rfl, rfl⟩
    rw [HZ.out]
    go_wp2_with fail
    refine (xCheck_any ws a cap _ HW.out).mono ?_
    rintro e w1 ⟨rfl, rfl⟩
    rw [HZ.out]
    go_wp2_with fail
    refine (serr_any 0 0 _ HG.out).mono ?_
    rintro e w2 ⟨rfl, b2⟩
    go_wp2_with fail
    refine (xFill_bad ws a cap wd _ (Wds.below HW.out b2) HN.out).mono ?_
    rintro e w3 ⟨rfl, rfl⟩
    rw [HE.out]
    go_wp2_with fail
    refine (serr_any 1 1 _ (HG.out.below b2)).mono ?_
    rintro e w4 ⟨rfl, b4⟩
    have B4 := belowT b2 (Nat.le_refl _) b4
    go_wp2_with fail
    refine (stexts_same [] none none 0 0 _ (WdsB.nil _ _ _) (WdsB.nil _ _ _) (by simp)).mono ?_
    rintro e w5 ⟨rfl, q, hq⟩
    have B5 : Below w.heap.size w w5 := by rw [hq]; exact belDraw B4 q
    clear hq
    go_wp2_with fail
    refine (xRagged_any ws a cap ms ma mc wd _ hc (Wds.below HW.out B5) (Ints.below HM.out B5) hl).mono ?_
    rintro e w6 ⟨rfl, rfl⟩
    rw [HR.out.1, HR.out.2]
    go_wp2_with fail
    refine (serr_any 1 1 _ (HG.out.below B5)).mono ?_
    rintro e w7 ⟨rfl, b7⟩
    have B7 := belowT B5 (Nat.le_refl _) b7
    go_wp2
    go_ret
    exact ⟨by rfl, B7⟩

set_option maxRecDepth 100000 in
set_option maxHeartbeats 4000000 in
theorem fillIs_ok (ws : List ByteArray) (a : Option Addr) (cap : Nat) (ms : List Int) (ma : Option Addr) (mc wd : Nat) (w : World) (hc : ws.length ≤ cap) (hW : Wds w a ws) (hM : Ints w ma ms) (hl : ms.length ≤ 9223372036854775807) (hg : Hnd w) (h : wordsF ws = 0) (hw1 : 1 ≤ wd) (hw2 : wd ≤ 100) :
    Calls Tryd.prog 3 #[.slice a ws.length cap, .slice ma ms.length mc, .int .i64 wd] w fun e w' => e = .returned (.bool true) ∧ Below w.heap.size w w' := by
  have HW : Hid (Wds w a ws) := hW
  have HM : Hid (Ints w ma ms) := hM
  have HG : Hid (Hnd w) := hg
  have HE : Hid (fillE ws wd = 0) := fillE_ok h hw1 hw2
  have HF : Hid (Few ws) := few_of h
  have HZ : Hid (wordsF ws = 0) := h
  have hfl : (fillL wd ws).length ≤ 60 := Nat.le_trans (fillL_len wd _ ws (Nat.le_refl _)) HF.out.1
  have HO1 : Hid (∀ W : World, Below w.heap.size w W → Calls Tryd.prog 7 #[.slice a ws.length cap, .int .i64 wd] W fun e w' => (∃ L c, e = .returned (.slice L (fillL wd ws).length c) ∧ Wds w' L (fillL wd ws)) ∧ Below W.heap.size W w') := fun W hb =>
    (fillOf_any ws a cap wd W hc HF.out hw2 (Wds.below HW.out hb)).mono fun _ _ h => ⟨h.1.elim fun L h => h.elim fun c h => ⟨L, c, h.1, strsO_wds h.2⟩, h.2⟩
  have HO2 : Hid (∀ W : World, Below w.heap.size w W → Calls Tryd.prog 9 #[.slice a ws.length cap, .int .i64 wd] W fun e w' => (∃ L c, e = .returned (.tuple #[.slice L (fillL wd ws).length c, .nilIface]) ∧ Wds w' L (fillL wd ws)) ∧ Below W.heap.size W w') := fun W hb =>
    (xFill_ok ws a cap wd W hc (Wds.below HW.out hb) HE.out).mono fun _ _ h => ⟨h.1.elim fun L h => h.elim fun c h => ⟨L, c, h.1, strsO_wds h.2⟩, h.2⟩
  clear hW hM hg h
  generalize fillL wd ws = xs at HO1 HO2 hfl
  cases hsh : share ms ws.length
  case' false => have HR : Hid (rgE ws ms wd = 2 ∧ rgK ws ms wd = 0) := rgE_no HE.out hsh
  case' true => have HR : Hid (rgE ws ms wd = 0 ∧ rgK ws ms wd = ragOf wd ws ms) := rgE_yes HE.out hsh
  all_goals
    have HSH := (show Hid (share ms ws.length = _) from hsh)
    clear hsh
    go_enter Tryd.func3, Tryd.ntmps3
    go_wp2_with fail
    refine (rWords_any ws a cap _ HW.out).mono ?_
    rintro e w1 ⟨rfl, rfl⟩
    rw [HZ.out]
    go_wp2_with fail
    refine (xCheck_any ws a cap _ HW.out).mono ?_
    rintro e w1 ⟨rfl, rfl⟩
    rw [HZ.out]
    go_wp2_with fail
    refine (serr_any 0 0 _ HG.out).mono ?_
    rintro e w2 ⟨rfl, b2⟩
    have hwa : ¬ (wd : Int) < 1 := by omega
    have hwb : ¬ 100 < (wd : Int) := by omega
    go_wp2_with fail
    refine (HO1.out _ b2).mono ?_
    rintro e w3 ⟨⟨L1, c1, rfl, hx1⟩, b3⟩
    have B3 := belowT b2 (Nat.le_refl _) b3
    have HX1 : Hid (Wds w3 L1 xs) := hx1
    clear hx1
    go_wp2_with fail
    refine (rRagged_any ws a cap ms ma mc wd _ hc HF.out hw2 (Wds.below HW.out B3) (Ints.below HM.out B3) hl).mono ?_
    rintro e w4 ⟨⟨r, rfl, hr⟩, rfl⟩
    rw [HSH.out] at hr ⊢
    first | (obtain rfl := hr rfl) | skip
    clear hr
    have hkk : ((ragOf wd ws ms : Int) == (ragOf wd ws ms : Int)) = true := by simp
    go_wp2_with fail
    refine (HO2.out _ B3).mono ?_
    rintro e w5 ⟨⟨L2, c2, rfl, hx2⟩, b5⟩
    have B5 := belowT B3 (Nat.le_refl _) b5
    have HX2 : Hid (Wds w5 L2 xs) := hx2
    have HX1' : Hid (Wds w5 L1 xs) := Wds.below HX1.out b5
    clear hx2
    go_wp2_with fail
    refine (serr_any 0 0 _ (HG.out.below B5)).mono ?_
    rintro e w6 ⟨rfl, b6⟩
    have B6 := belowT B5 (Nat.le_refl _) b6
    go_wp2_with fail
    refine (stexts_same xs L2 L1 c2 c1 _ (Wds.below HX2.out b6) (Wds.below HX1'.out b6) (by omega)).mono ?_
    rintro e w7 ⟨rfl, q, hq⟩
    have B7 : Below w.heap.size w w7 := by rw [hq]; exact belDraw B6 q
    clear hq
    go_wp2_with fail
    refine (xRagged_any ws a cap ms ma mc wd _ hc (Wds.below HW.out B7) (Ints.below HM.out B7) hl).mono ?_
    rintro e w8 ⟨rfl, rfl⟩
    rw [HR.out.1, HR.out.2]
    go_wp2_with fail
    first
      | refine (serr_any 2 2 _ (HG.out.below B7)).mono ?_
      | refine (serr_any 0 0 _ (HG.out.below B7)).mono ?_
    rintro e w9 ⟨rfl, b9⟩
    have B9 := belowT B7 (Nat.le_refl _) b9
    go_wp2
    go_ret
    exact ⟨by first | rfl | (rw [← hkk]; rfl), B9⟩

theorem fillIs_any (ws : List ByteArray) (a : Option Addr) (cap : Nat) (ms : List Int) (ma : Option Addr) (mc : Nat) (wd : Int) (w : World) (hc : ws.length ≤ cap) (hW : Wds w a ws) (hM : Ints w ma ms) (hl : ms.length ≤ 9223372036854775807) (hg : Hnd w) :
    Calls Tryd.prog 3 #[.slice a ws.length cap, .slice ma ms.length mc, .int .i64 wd] w fun e w' => e = .returned (.bool true) ∧ Below w.heap.size w w' := by
  by_cases h : wordsF ws = 0
  · by_cases hw : wd < 1 ∨ 100 < wd
    · exact fillIs_range ws a cap ms ma mc wd w hc hW hM hl hg h hw
    · obtain ⟨n, rfl⟩ : ∃ n : Nat, wd = n := ⟨wd.toNat, by omega⟩
      exact fillIs_ok ws a cap ms ma mc n w hc hW hM hl hg h (by omega) (by omega)
  · exact fillIs_words ws a cap ms ma mc wd w hc hW hM hl hg h
end Go.Proofs.YtmpfffpkjnjhdabDoor
