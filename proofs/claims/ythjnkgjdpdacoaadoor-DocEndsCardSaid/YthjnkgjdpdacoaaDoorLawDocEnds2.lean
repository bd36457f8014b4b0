/- The walk of the law DocEnds, of a doc that is one. -/
import Derived.Test.YthjnkgjdpdacoaaDoorLawDocEnds
namespace Go.Proofs.YthjnkgjdpdacoaaDoor
open Go Go.RowKit

/-- What the law's loop keeps: so many parts are still to end, at this place. -/
def Ahead (ds : List Nd) (n j p q m : Nat) : Prop := q ≤ p ∧ n < m ∧ m ≤ ds.length ∧ endAt ds m (p - q) = some j
theorem ahead_start {ds : List Nd} {n j : Nat} (hn : n < ds.length) (h : endAt ds n 1 = some j) : Ahead ds n j (pts ds[n].op) 0 (n + 1) :=
  ⟨Nat.zero_le _, by omega, by omega, by rw [Nat.sub_zero, ← h]; exact (endAt_step ds n 0 hn).symm⟩
theorem ahead_step {ds : List Nd} {n j p q m : Nat} (h : Ahead ds n j p q m) (hq : q < p) : ∃ m', endAt ds m 1 = some m' ∧ m < ds.length ∧ m < m' ∧ Ahead ds n j p (q + 1) m' := by
  obtain ⟨_, h2, _, h4⟩ := h
  obtain ⟨r, hr⟩ : ∃ r, p - q = 1 + r := ⟨p - q - 1, by omega⟩
  rw [hr, endAt_add] at h4
  cases hm : endAt ds m 1 with
  | none => rw [hm] at h4; cases h4
  | some m' =>
    rw [hm] at h4
    have hb := endAt_bd hm
    have hl : m < ds.length := by
      rcases Nat.lt_or_ge m ds.length with h' | h'
      · exact h'
      · rw [endAt_out ds m 0 h'] at hm; cases hm
    refine ⟨m', rfl, hl, by omega, by omega, by omega, by omega, ?_⟩
    rw [show p - (q + 1) = r by omega]
    exact h4
theorem ahead_end {ds : List Nd} {n j p m : Nat} (h : Ahead ds n j p p m) : m = j := by
  obtain ⟨_, _, _, h4⟩ := h
  rw [Nat.sub_self, endAt_zero] at h4
  exact Option.some.inj h4

set_option maxRecDepth 100000 in
set_option maxHeartbeats 8000000 in
theorem docEnds_good (ds es : List Nd) (a o : Option Addr) (cap cap2 : Nat) (hc : ds.length ≤ cap) (hc2 : es.length ≤ cap2) (i : Int) (w : World) (hN : Nods w a ds) (hM : Nods w o es) (h : docF ds = 0)
    (hi : i < 0 ∨ (¬ i < 0 ∧ (ds.length : Int) ≤ i) ∨ ∃ n : Nat, i = n ∧ n < ds.length) :
    Calls Tryd.prog 5 #[.slice a ds.length cap, .int .i64 i, .slice o es.length cap2] w fun e w' => e = .returned (.bool true) ∧ Below w.heap.size w w' := by
  obtain ⟨hl, hnf, hend⟩ := docF_zero h
  have HN : Hid (Nods w a ds) := hN
  have HM : Hid (Nods w o es) := hM
  have H : Hid (docF ds = 0) := h
  have HF : Hid (∀ x ∈ ds, nodeF x = 0) := hnf
  have HE : Hid (endAt ds 0 1 = some ds.length) := hend
  have HC2 : Hid (es.length ≤ cap2) := hc2
  have HI : Hid (i < 0 ∨ (¬ i < 0 ∧ (ds.length : Int) ≤ i) ∨ ∃ n : Nat, i = n ∧ n < ds.length) := hi
  clear hN hM h hnf hend hc2 hi
  go_enter Tryd.func5, Tryd.ntmps5
  go_wp2_with fail
  refine (fact_text w.heap.size _ (fact_nods w)).mono ?_
  rintro e w1 ⟨rfl, b1⟩
  have B1 := belowA (Below.refl _ _) (Nat.le_refl _) b1
  clear b1
  go_wp2_with fail
  refine (dtext_any ds a cap hc _ (HN.out.below B1)).mono ?_
  rintro e w2 ⟨rfl, b2⟩
  have B2 := belowT B1 (Nat.le_refl _) b2
  rw [H.out, errN_0]
  clear b2
  go_wp2_with fail
  refine (dtext_any es o cap2 HC2.out _ (HM.out.below B2)).mono ?_
  rintro e w3 ⟨rfl, b3⟩
  have B3 := belowT B2 (Nat.le_refl _) b3
  clear b3
  go_wp2_with fail
  refine (docs_at ds es a o cap cap2 hl _ (HN.out.below B3) (HM.out.below B3)).mono ?_
  rintro e w4 ⟨rfl, b4⟩
  have B4 := belowT B3 (Nat.le_refl _) b4
  clear b4
  go_upto_region 9 with fail
  go_cut [9, 11, 12, 13, 34, 36, 37, 41, 43, 44, 45, 48, 67] (fun _ _ _ _ _ _ _ _ _ _ _ _ c wx => c = .bool false ∧ wx = w4)
  case first =>
    by_cases h' : docF es = 0
    · have H' : Hid (docF es = 0) := h'
      rw [h', errN_0]
      clear h'
      by_cases hs : ds = es
      · have e1 : sameB ds es = true := by simp [sameB, hs]
        have e2 : txtS ds = txtS es := by rw [hs]
        rw [e1, e2]
        clear hs e1 e2
        go_wp2_with fail
        go_meet
        exact ⟨rfl, rfl⟩
      · have e1 : sameB ds es = false := by simp [sameB, hs]
        rw [e1]
        by_cases ht : txtS ds = txtS es
        · have HQ : Hid (quo ds = false → quo es = true) := fun hq => quoted_one H.out H'.out hs ht hq
          rw [ht]
          clear hs e1 ht
          cases hq : quo ds with
          | true =>
            have HQ1 : Hid (quo ds = true) := hq
            clear hq
            go_wp2_with fail
            refine (quoted_any ds a cap hl (node_small H.out) _ (HN.out.below B4)).mono ?_
            rintro e w5 ⟨rfl, rfl⟩
            rw [HQ1.out]
            go_wp2_with fail
            go_meet
            exact ⟨rfl, rfl⟩
          | false =>
            have HQ1 : Hid (quo ds = false) := hq
            clear hq
            go_wp2_with fail
            refine (quoted_any ds a cap hl (node_small H.out) _ (HN.out.below B4)).mono ?_
            rintro e w5 ⟨rfl, rfl⟩
            rw [HQ1.out]
            go_wp2_with fail
            refine (quoted_any es o cap2 (docF_zero H'.out).1 (node_small H'.out) _ (HM.out.below B4)).mono ?_
            rintro e w6 ⟨rfl, rfl⟩
            rw [HQ.out HQ1.out]
            go_wp2_with fail
            go_meet
            exact ⟨rfl, rfl⟩
        · have g : ((txtS ds).toList == (txtS es).toList) = false := by
            rw [ByteArray.toList_eq, ByteArray.toList_eq]
            simp only [beq_eq_false_iff_ne, ne_eq]
            exact fun h => ht (bytes_inj h)
          clear hs e1 ht
          go_wp2_with fail
          go_meet
          exact ⟨rfl, rfl⟩
    · rw [errN_ne h']
      clear h'
      go_wp2_with fail
      go_meet
      exact ⟨rfl, rfl⟩
  case rest =>
    obtain ⟨rfl, rfl⟩ := hcut
    rcases HI.out with hi | ⟨hi, hi2⟩ | ⟨n, rfl, hn⟩
    · obtain ⟨x1, x2⟩ := endX_out i H.out (.inl hi)
      have HX : Hid (endX ds i = 0 ∧ endF ds i = 1) := ⟨x1, x2⟩
      clear x1 x2
      go_wp2_with fail
      refine (dend_any ds a cap i _ (HN.out.below B4)).mono ?_
      rintro e w5 ⟨rfl, b5⟩
      have B5 := belowT B4 (Nat.le_refl _) b5
      rw [HX.out.1, HX.out.2, errN_1]
      go_wp2
      go_ret
      exact ⟨rfl, B5⟩
    · obtain ⟨x1, x2⟩ := endX_out i H.out (.inr hi2)
      have HX : Hid (endX ds i = 0 ∧ endF ds i = 1) := ⟨x1, x2⟩
      clear x1 x2
      go_wp2_with fail
      refine (dend_any ds a cap i _ (HN.out.below B4)).mono ?_
      rintro e w5 ⟨rfl, b5⟩
      have B5 := belowT B4 (Nat.le_refl _) b5
      rw [HX.out.1, HX.out.2, errN_1]
      go_wp2
      go_ret
      exact ⟨rfl, B5⟩
    · obtain ⟨j, hj, hnj, hjl⟩ := endAt_mid HE.out hn
      obtain ⟨t, ht, hd, hjt⟩ := tree_at HF.out hj
      obtain ⟨x1, x2⟩ := endX_in n H.out hn
      rw [hj] at x1
      have HX : Hid (endX ds n = (j : Int) ∧ endF ds n = 0) := ⟨x1, x2⟩
      have HJ : Hid (endAt ds n 1 = some j) := hj
      obtain ⟨b, of, ea, hb, _, _, _⟩ := HN.out n hn
      subst ea
      have hcn : ¬ cap = n := by omega
      have hnj1 : decide (j ≤ n) = false := decide_eq_false (by omega)
      have hjl1 : decide (ds.length < j) = false := decide_eq_false (by omega)
      have hn01 : decide ((n : Int) < 0) = false := decide_eq_false (by omega)
      have hjc : (j : Int) ≤ (cap : Int) := by omega
      have hnj2 : (n : Int) ≤ (j : Int) := by omega
      have HK : Hid (t.nodes.length = j - n) := (show t.nodes.length = j - n by omega)
      have HD : Hid (ds.drop n = t.nodes ++ ds.drop j) := hd
      have HT : Hid (docF t.nodes = 0) := tree_doc ht (by omega)
      clear x1 x2 hj hd hjt
      go_wp2_with fail
      refine (dend_any ds _ cap n _ (HN.out.below B4)).mono ?_
      rintro e w5 ⟨rfl, b5⟩
      have B5 := belowT B4 (Nat.le_refl _) b5
      rw [HX.out.1, HX.out.2, errN_0]
      clear b5
      go_wp2_with fail
      have hchk := dcheck_any t.nodes (some ⟨b, of + n * 3, none⟩) (cap - n) w5 (sub_nods (HN.out.below B5) HD.out)
      rw [HK.out, HT.out, errN_0] at hchk
      have HCK : Hid (Calls Tryd.prog 14 #[.slice (some ⟨b, of + n * 3, none⟩) (j - n) (cap - n)] w5 fun e w' => e = .returned .nilIface ∧ Below w5.heap.size w5 w') := hchk
      clear hchk
      refine HCK.out.mono ?_
      rintro e w6 ⟨rfl, b6⟩
      have B6 := belowT B5 (Nat.le_refl _) b6
      clear b6
      have HA0 : Hid (Ahead ds n j (pts ds[n].op) 0 (n + 1)) := ahead_start hn HJ.out
      have hp := pts_le ds[n].op
      generalize hpp : pts ds[n].op = p at HA0 hp
      have HP : Hid (pts ds[n].op = p) := hpp
      clear hpp
      go_wp2
      go_loopw [15, 16, 17, 18] (fun z k _ _ wr => Below w.heap.size w wr ∧ ∃ q m : Nat, k = .int .i64 q ∧ z = .int .i64 m ∧ Ahead ds n j p q m) (fun _ k _ _ _ => p - (intOf k).toNat)
      case atStart => exact ⟨B6, 0, n + 1, rfl, by go_num, HA0.out⟩
      case round =>
        obtain ⟨hB, q, m, rfl, rfl, hA⟩ := hrel
        have hml := hA.2.2.1
        have hqp := hA.1
        have HA : Hid (Ahead ds n j p q m) := hA
        clear hA
        obtain ⟨b9, of9, ea9, hb9, c1, _, _⟩ := HN.out.below hB n hn
        simp only [Option.some.injEq, Addr.mk.injEq, and_true] at ea9
        obtain ⟨rfl, rfl⟩ := ea9
        by_cases hq : q < p
        · obtain ⟨m', hm1, hm2, hm3, hm4⟩ := ahead_step HA.out hq
          obtain ⟨y1, y2⟩ := endX_in m H.out hm2
          rw [hm1] at y1
          have HY : Hid (endX ds m = (m' : Int) ∧ endF ds m = 0) := ⟨y1, y2⟩
          have HA' : Hid (Ahead ds n j p (q + 1) m') := hm4
          have hmm : decide (m' ≤ m) = false := decide_eq_false (by omega)
          clear y1 y2 hm1 hm4
          go_wp2_with fail
          refine (rparts_any _ _).mono ?_
          rintro e w7 ⟨rfl, rfl⟩
          rw [HP.out]
          go_wp2_with fail
          refine (dend_any ds _ cap m _ (HN.out.below hB)).mono ?_
          rintro e w8 ⟨rfl, b8⟩
          have B8 := belowT hB (Nat.le_refl _) b8
          rw [HY.out.1, HY.out.2, errN_0]
          clear b8
          go_wp2
          go_roundw
          case rel => exact ⟨B8, q + 1, m', by go_num, rfl, HA'.out⟩
          case measure => simp [intOf]; omega
        · obtain rfl : q = p := by omega
          have hmj : m = j := ahead_end HA.out
          subst hmj
          go_wp2_with fail
          refine (rparts_any _ _).mono ?_
          rintro e w7 ⟨rfl, rfl⟩
          rw [HP.out]
          go_wp2
          go_ret
          exact ⟨by simp, hB⟩

theorem docEnds_any (ds es : List Nd) (a o : Option Addr) (cap cap2 : Nat) (hc : ds.length ≤ cap) (hc2 : es.length ≤ cap2) (i : Int) (w : World) (hN : Nods w a ds) (hM : Nods w o es) :
    Calls Tryd.prog 5 #[.slice a ds.length cap, .int .i64 i, .slice o es.length cap2] w fun e w' => e = .returned (.bool true) ∧ Below w.heap.size w w' := by
  by_cases h : docF ds = 0
  · refine docEnds_good ds es a o cap cap2 hc hc2 i w hN hM h ?_
    by_cases h1 : i < 0
    · exact .inl h1
    · by_cases h2 : (ds.length : Int) ≤ i
      · exact .inr (.inl ⟨h1, h2⟩)
      · exact .inr (.inr ⟨i.toNat, by omega, by omega⟩)
  · exact docEnds_bad ds es a o cap cap2 i w hN h
end Go.Proofs.YthjnkgjdpdacoaaDoor
