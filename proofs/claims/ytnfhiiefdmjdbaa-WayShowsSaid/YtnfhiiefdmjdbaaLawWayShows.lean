/- The walk of the law WayShows. -/
import Derived.Test.YtnfhiiefdmjdbaaShowW
import Derived.Test.YtnfhiiefdmjdbaaAhd
namespace Go.Proofs.Ytnfhiiefdmjdbaa
open Go Go.RowKit

theorem mem_take_succ {ws : List Int} {l : List (List Int)} {k : Nat} (hk : k < l.length) : decide (ws ∈ l.take (k + 1)) = (decide (ws ∈ l.take k) || decide (l[k] = ws)) := by
  rw [List.take_add_one, List.getElem?_eq_getElem hk]
  simp only [Option.toList_some, List.mem_append, List.mem_singleton, Bool.decide_or]
  congr 1
  exact decide_eq_decide.2 ⟨fun h => h.symm, fun h => h.symm⟩

/-- The law's fact. -/
theorem fact_all (w : World) : Calls Try.prog 12 #[.slice (some ⟨w.heap.size, 0, none⟩) 2 2] (w.alloc (.cells #[.int .i64 8, .string ⟨#[]⟩, .int .i64 0, .int .i64 4, .string ⟨#[]⟩, .int .i64 0] 37))
    fun e w' => (∃ a' c', e = .returned (.tuple #[.slice a' 1 c', .nilIface]) ∧ WaysIn w' a' [[1]]) ∧ Below w.heap.size w w' := by
  have ht : Tr.Wf (.one ⟨8, ⟨#[]⟩, 0⟩ (.leaf ⟨4, ⟨#[]⟩, 0⟩)) := ⟨by decide +kernel, by decide +kernel, by decide +kernel, by decide +kernel⟩
  have hw : Tr.ways (.one ⟨8, ⟨#[]⟩, 0⟩ (.leaf ⟨4, ⟨#[]⟩, 0⟩)) = [[1]] := rfl
  refine (wall_ok [⟨8, ⟨#[]⟩, 0⟩, ⟨4, ⟨#[]⟩, 0⟩] _ rfl ht (some ⟨w.heap.size, 0, none⟩) 2 _ ?_ (tree_doc ht (by decide))).mono ?_
  · intro i hi
    have h3 : i = 0 ∨ i = 1 := by simp at hi; omega
    rcases h3 with rfl | rfl
    all_goals exact ⟨w.heap.size, 0, rfl, by simp, by simp [go_sem], by simp [go_sem], by simp [go_sem]⟩
  · rintro e w' ⟨h, hb⟩
    rw [hw] at h
    refine ⟨?_, ((Below.refl _ w).alloc (Nat.le_refl _) _).trans (hb.mono (by simp))⟩
    rcases h with ⟨_, a', c', rfl, hg⟩ | ⟨h1, _⟩
    · exact ⟨a', c', rfl, hg.ways.2⟩
    · simp at h1
/-- .. is as it should be. -/
theorem fact_same (a : Option Addr) (c : Nat) (w : World) (h : WaysIn w a [[1]]) : Calls Try.prog 13 #[.slice a 1 c, .slice (some ⟨w.heap.size + 1, 0, none⟩) 1 1] ((w.alloc (.cells #[.int .i64 1] 3)).alloc (.cells #[.slice (some ⟨w.heap.size, 0, none⟩) 1 1] 39))
    fun e w' => e = .returned (.bool true) ∧ Below w.heap.size w w' := by
  have hA : ∀ O1 O2 : Obj, Below w.heap.size w ((w.alloc O1).alloc O2) := fun O1 O2 => ((Below.refl _ w).alloc (Nat.le_refl _) _).alloc (by simp) _
  refine (sways_any [[1]] [[1]] a (some ⟨w.heap.size + 1, 0, none⟩) c 1 _ (h.below (hA _ _)) ?_ (by simp) (by simp)).mono ?_
  · intro i hi
    obtain rfl : i = 0 := by simp at hi; omega
    refine ⟨w.heap.size + 1, 0, some ⟨w.heap.size, 0, none⟩, 1, rfl, by simp, by simp [go_sem], by simp, ?_⟩
    intro j hj
    obtain rfl : j = 0 := by simp at hj; omega
    exact ⟨w.heap.size, 0, rfl, by simp; omega, by simp [go_sem]⟩
  · rintro e w' ⟨rfl, q, rfl⟩
    exact ⟨by rw [decide_eq_true rfl], (hA _ _).trans ⟨rfl, rfl, rfl, Nat.le_refl _, fun _ _ => rfl⟩⟩

set_option maxRecDepth 100000 in
set_option maxHeartbeats 4000000 in
theorem wayShows_a (ds : List Nd) (ws : List Int) (a wa : Option Addr) (cap wc : Nat) (w : World) (hN : Nods w a ds) (h : docF ds ≠ 0) :
    Calls Try.prog 5 #[.slice a ds.length cap, .slice wa ws.length wc] w fun e w' => e = .returned (.bool true) ∧ Below w.heap.size w w' := by
  have HN : Hid (Nods w a ds) := hN
  have H : Hid (docF ds ≠ 0) := h
  clear hN h
  go_enter Try.func5, Try.ntmps5
  go_wp2_with fail
  refine (fact_all w).mono ?_
  rintro e w1 ⟨⟨a1, c1, rfl, hw1⟩, b1⟩
  have HW1 : Hid (WaysIn w1 a1 [[1]]) := hw1
  clear hw1
  go_wp2_with fail
  refine (fact_same a1 c1 w1 HW1.out).mono ?_
  rintro e w2 ⟨rfl, b2⟩
  have B2 := belowT b1 (Nat.le_refl _) b2
  clear b1 b2
  go_wp2_with fail
  refine (wall_bad ds a cap _ (HN.out.below B2) H.out).mono ?_
  rintro e w3 ⟨rfl, b3⟩
  have B3 := belowT B2 (Nat.le_refl _) b3
  clear B2 b3
  rw [errN_ne H.out]
  go_wp2
  go_ret
  exact ⟨rfl, B3⟩

set_option maxRecDepth 100000 in
set_option maxHeartbeats 4000000 in
theorem wayShows_c (ds : List Nd) (t : Tr) (hd : ds = t.nodes) (ht : t.Wf) (ws : List Int) (a wa : Option Addr) (cap wc : Nat) (hc : ds.length ≤ cap) (hwc : ws.length ≤ wc) (hl : ws.length ≤ 9223372036854775807) (w : World) (hN : Nods w a ds) (hI : Ints w wa ws) (h : docF ds = 0) :
    Calls Try.prog 5 #[.slice a ds.length cap, .slice wa ws.length wc] w fun e w' => e = .returned (.bool true) ∧ Below w.heap.size w w' := by
  have HN : Hid (Nods w a ds) := hN
  have HI : Hid (Ints w wa ws) := hI
  have H : Hid (docF ds = 0) := h
  have h4 := (docF_zero h).1
  have HT : Hid (t.Wf) := ht
  have HD : Hid (ds = t.nodes) := hd
  clear hN hI h ht hd
  go_enter Try.func5, Try.ntmps5
  go_wp2_with fail
  refine (fact_all w).mono ?_
  rintro e w1 ⟨⟨a1, c1, rfl, hw1⟩, b1⟩
  have HW1 : Hid (WaysIn w1 a1 [[1]]) := hw1
  clear hw1
  go_wp2_with fail
  refine (fact_same a1 c1 w1 HW1.out).mono ?_
  rintro e w2 ⟨rfl, b2⟩
  have B2 := belowT b1 (Nat.le_refl _) b2
  clear b1 b2
  go_wp2_with fail
  refine (wall_ok ds t HD.out HT.out a cap _ (HN.out.below B2) H.out).mono ?_
  rintro e w3 ⟨h3, b3⟩
  have B3 := belowT B2 (Nat.le_refl _) b3
  clear B2 b3
  rcases h3 with ⟨hl3, a3, c3, rfl, hg3⟩ | ⟨hl3, rfl⟩
  · have HW3 : Hid (WaysIn w3 a3 t.ways) := hg3.ways.2
    have hne : 0 < t.ways.length := List.length_pos_iff.2 (ways_ne t)
    have hne' : ((t.ways.length : Int) == 0) = false := beq_eq_false_iff_ne.2 (by omega)
    have HSH : Hid (∀ l ∈ t.ways, (∃ u, shS (showD ds l) = u) ∧ shE (showD ds l) = 0 ∧ l.length ≤ 400) := fun l hl => by
      obtain ⟨u, hu⟩ := (show_ways t l).2 hl
      have e : showD ds l = .ok u := by rw [showD_tree HT.out HD.out h4]; exact hu
      have hw := way_len t l hl
      rw [← HD.out] at hw
      exact ⟨⟨_, rfl⟩, by rw [e]; rfl, by omega⟩
    have HRI : Hid (∀ i j (hi : i < t.ways.length) (hj : j < t.ways.length), i < j → aheadL t.ways[i] t.ways[j]) := fun i j hi hj hij => List.pairwise_iff_getElem.1 (ways_rise t) i j hi hj hij
    have HN3 : Hid (Nods w3 a ds) := HN.out.below B3
    have HI3 : Hid (Ints w3 wa ws) := HI.out.below B3
    clear hg3
    go_wp2
    go_loopw [10] (fun i wr => Below w3.heap.size w3 wr ∧ ∃ k : Nat, k ≤ t.ways.length ∧ i = .int .i64 k) (fun i _ => t.ways.length - (intOf i).toNat)
    case atStart => exact ⟨Below.refl _ _, 0, Nat.zero_le _, rfl⟩
    case round =>
      obtain ⟨hBr, k, hk, rfl⟩ := hrel
      have HWr : Hid (WaysIn wr a3 t.ways) := HW3.out.below hBr
      have HBr : Hid (Below w3.heap.size w3 wr) := hBr
      clear hBr
      by_cases hlt : k < t.ways.length
      · have hki : (k : Int) < (t.ways.length : Int) := by omega
        obtain ⟨b1, o1, a4, d1, ea, _, c1, hcap, i1⟩ := HWr.out k hlt
        subst ea
        obtain ⟨⟨us, hus⟩, hE, hl4⟩ := HSH.out _ (List.getElem_mem hlt)
        have HSW : Hid (∀ wq, wr = wq → Calls Try.prog 14 #[.slice a ds.length cap, .slice a4 t.ways[k].length d1] wq fun e w' => e = .returned (.tuple #[.string us, .nilIface]) ∧ Below wq.heap.size wq w') := fun wq e => by
          subst e
          have := wshow_any ds t.ways[k] a a4 cap d1 hc hcap (by omega) wr (HN3.out.below HBr.out) i1
          rw [hus, hE, errN_0] at this
          exact this
        clear hus hE i1
        go_wp2_with fail
        refine (HSW.out _ rfl).mono ?_
        rintro e w4 ⟨rfl, b4⟩
        have HW4 : Hid (WaysIn w4 (some ⟨b1, o1, none⟩) t.ways) := HWr.out.below b4
        have HB4 : Hid (Below w3.heap.size w3 w4) := belowT HBr.out (Nat.le_refl _) b4
        clear b4 c1 hcap hl4
        by_cases hk0 : k = 0
        · subst hk0
          have hd0 : decide ((0 : Int) < ((0 : Nat) : Int)) = false := by decide
          go_wp2_with fail
          go_quiet (fail)
          go_wp2
          go_roundw
          case rel => exact ⟨HB4.out.trans ⟨rfl, rfl, rfl, Nat.le_refl _, fun _ _ => rfl⟩, 1, by omega, by go_num⟩
          case measure => simp [intOf]; omega
        · obtain ⟨m, rfl⟩ : ∃ m, k = m + 1 := ⟨k - 1, by omega⟩
          obtain ⟨b2, o2, a5, d2, eb, _, c2, _, i2⟩ := HW4.out m (by omega)
          obtain ⟨b3, o3, a6, d3, ec, _, c3', _, i3⟩ := HW4.out (m + 1) hlt
          simp only [Option.some.injEq, Addr.mk.injEq, and_true] at eb ec
          obtain ⟨rfl, rfl⟩ := eb
          obtain ⟨rfl, rfl⟩ := ec
          have HAH : Hid (∀ q, Calls Try.prog 15 #[.slice a5 t.ways[m].length d2, .slice a6 t.ways[m + 1].length d3] (w4.drewN q) fun e w' => e = .returned (.bool true) ∧ ∃ m, w' = (w4.drewN q).drewN m) := fun q =>
            lahead_yes _ _ a5 a6 d2 d3 (w4.drewN q) i2 i3 (by have := (HSH.out _ (List.getElem_mem (show m < t.ways.length by omega))).2.2; omega) (HRI.out m (m + 1) (by omega) hlt (by omega))
          have hpos : (0 : Int) < (m : Int) + 1 := by omega
          have hm1 : (m : Int) < (t.ways.length : Int) := by omega
          have hm0 : (0 : Int) ≤ (m : Int) := by omega
          have hm2 : (m : Int) + 1 < (t.ways.length : Int) := by omega
          have hm3 : (0 : Int) ≤ (m : Int) + 1 := by omega
          have htn : ((m : Int) + 1).toNat = m + 1 := by omega
          clear i2 i3
          go_wp2_with fail
          go_quiet ((go_at_call 15; exact Calls.quiet_of (HAH.out _)))
          go_wp2
          go_roundw
          case rel => exact ⟨HB4.out.trans ⟨rfl, rfl, rfl, Nat.le_refl _, fun _ _ => rfl⟩, m + 1 + 1, by omega, by go_num⟩
          case measure => simp [intOf]; omega
      · have hsw := wshow_any ds ws a wa cap wc hc hwc hl wr (HN3.out.below HBr.out) (HI3.out.below HBr.out)
        have HIN : Hid (ws ∈ t.ways ↔ shE (showD ds ws) = 0) := by
          show _ ↔ _
          rw [← show_ways t ws, showD_tree HT.out HD.out h4]
          cases hsh : t.show ws with
          | error er => simp [shE, show_err hsh]
          | ok u => simp [shE]
        generalize shS (showD ds ws) = us at hsw
        generalize shE (showD ds ws) = ue at hsw HIN
        have HSW : Hid (Calls Try.prog 14 #[.slice a ds.length cap, .slice wa ws.length wc] wr fun e w' => e = .returned (.tuple #[.string us, errN ue]) ∧ Below wr.heap.size wr w') := hsw
        clear hsw
        go_wp2_with fail
        refine HSW.out.mono ?_
        rintro e w5 ⟨rfl, b5⟩
        have HW5 : Hid (WaysIn w5 a3 t.ways) := HWr.out.below b5
        have HI5 : Hid (Ints w5 wa ws) := (HI3.out.below HBr.out).below b5
        have HB5 : Hid (Below w.heap.size w w5) := belowT (belowT B3 (Nat.le_refl _) HBr.out) (Nat.le_refl _) b5
        clear b5
        go_wp2_with fail
        go_loopw [15, 16] (fun vin i wq => (∃ q : Nat, wq = w5.drewN q) ∧ ∃ k : Nat, k ≤ t.ways.length ∧ i = .int .i64 k ∧ vin = .bool (decide (ws ∈ t.ways.take k))) (fun _ i _ => t.ways.length - (intOf i).toNat)
        case atStart => exact ⟨⟨0, rfl⟩, 0, Nat.zero_le _, rfl, by simp⟩
        case round =>
          obtain ⟨⟨q, rfl⟩, j, hj, rfl, rfl⟩ := hrel
          by_cases hjl : j < t.ways.length
          · have hji : (j : Int) < (t.ways.length : Int) := by omega
            obtain ⟨b1, o1, a4, d1, ea, _, c1, _, i1⟩ := HW5.out j hjl
            subst ea
            have hl4 := (HSH.out _ (List.getElem_mem hjl)).2.2
            have hsi := sints_any t.ways[j] ws a4 wa d1 wc (w5.drewN q) i1 HI5.out (by omega)
            have hmt := mem_take_succ (ws := ws) hjl
            generalize hb1 : decide (ws ∈ t.ways.take j) = v1 at hmt ⊢
            generalize hb2 : decide (t.ways[j] = ws) = v2 at hmt hsi
            have HMT : Hid (decide (ws ∈ t.ways.take (j + 1)) = (v1 || v2)) := hmt
            have HSI : Hid (Calls Try.prog 16 #[.slice a4 t.ways[j].length d1, .slice wa ws.length wc] (w5.drewN q) fun e w' => e = .returned (.bool v2) ∧ ∃ m, w' = (w5.drewN q).drewN m) := hsi
            clear hb1 hb2 hmt hsi i1
            cases v1 <;> cases v2
            all_goals
              go_wp2_with fail
              refine HSI.out.mono ?_
              rintro e w6 ⟨rfl, m, rfl⟩
              go_wp2
              go_roundw
              case rel => exact ⟨⟨_, rfl⟩, j + 1, by omega, by go_num, by rw [HMT.out]; rfl⟩
              case measure => simp [intOf]; omega
          · obtain rfl : j = t.ways.length := by omega
            have hin : decide (ws ∈ t.ways.take t.ways.length) = decide (ue = 0) := by
              rw [List.take_length]
              exact decide_eq_decide.2 HIN.out
            rw [hin]
            clear hin
            by_cases hue : ue = 0
            · subst hue
              rw [errN_0]
              go_wp2
              go_ret
              exact ⟨rfl, HB5.out.trans ⟨rfl, rfl, rfl, Nat.le_refl _, fun _ _ => rfl⟩⟩
            · have hud : decide (ue = 0) = false := decide_eq_false hue
              rw [errN_ne hue, hud]
              clear hud hue
              go_wp2
              go_ret
              exact ⟨rfl, HB5.out.trans ⟨rfl, rfl, rfl, Nat.le_refl _, fun _ _ => rfl⟩⟩
  · rw [errN_3]
    go_wp2
    go_ret
    exact ⟨rfl, B3⟩

theorem wayShows_any (ds : List Nd) (ws : List Int) (a wa : Option Addr) (cap wc : Nat) (hc : ds.length ≤ cap) (hwc : ws.length ≤ wc) (hl : ws.length ≤ 9223372036854775807) (w : World) (hN : Nods w a ds) (hI : Ints w wa ws) :
    Calls Try.prog 5 #[.slice a ds.length cap, .slice wa ws.length wc] w fun e w' => e = .returned (.bool true) ∧ Below w.heap.size w w' := by
  by_cases h : docF ds = 0
  · exact wayShows_c ds _ (docT_nodes h) (docT_wf h) ws a wa cap wc hc hwc hl w hN hI h
  · exact wayShows_a ds ws a wa cap wc w hN h
end Go.Proofs.Ytnfhiiefdmjdbaa
