/- The law CostOrder: its walk. -/
import Derived.Test.YtppdaldobmlooaaAny
import Derived.Deep.DeepCutAuto
import Derived.Deep.DeepFit
import Derived.Deep.DeepMust
namespace Go.Proofs.Ytppdaldobmlooaa
open Go Go.RowKit


theorem fact_o : ofO ⟨#[97, 98, 99, 10, 100]⟩ 2 = 1 := by decide
theorem fact_l : ofL ⟨#[97, 98, 99, 10, 100]⟩ 2 = 1 := by decide
theorem fact_e : ofE ⟨#[97, 98, 99, 10, 100]⟩ 2 = 0 := by decide

/-- The boxes of the three costs lie as they were laid. -/
def Bx (n : Nat) (a0 a1 b0 b1 c0 c1 : Int) (W : World) : Prop :=
  n + 1 + 1 < W.heap.size ∧ W.cell? ⟨n, 0, none⟩ = some (.int .i64 a0) ∧ W.cell? ⟨n, 1, none⟩ = some (.int .i64 a1) ∧ W.cell? ⟨n + 1, 0, none⟩ = some (.int .i64 b0) ∧ W.cell? ⟨n + 1, 1, none⟩ = some (.int .i64 b1)
    ∧ W.cell? ⟨n + 1 + 1, 0, none⟩ = some (.int .i64 c0) ∧ W.cell? ⟨n + 1 + 1, 1, none⟩ = some (.int .i64 c1)

theorem Bx.below {n : Nat} {a0 a1 b0 b1 c0 c1 : Int} {W W' : World} (h : Bx n a0 a1 b0 b1 c0 c1 W) (hb : Below W.heap.size W W') : Bx n a0 a1 b0 b1 c0 c1 W' := by
  obtain ⟨h0, h1, h2, h3, h4, h5, h6⟩ := h
  have hc := (bcell hb).1
  have := hb.size
  exact ⟨by omega, (hc _ _ (by omega)).trans h1, (hc _ _ (by omega)).trans h2, (hc _ _ (by omega)).trans h3, (hc _ _ (by omega)).trans h4, (hc _ _ (by omega)).trans h5, (hc _ _ (by omega)).trans h6⟩

theorem Bx.alloc {n : Nat} {a0 a1 b0 b1 c0 c1 : Int} {W : World} (h : Bx n a0 a1 b0 b1 c0 c1 W) (o : Obj) : Bx n a0 a1 b0 b1 c0 c1 (W.alloc o) := h.below ((Below.refl _ _).alloc (Nat.le_refl _) _)

theorem Bx.start (w : World) (a0 a1 b0 b1 c0 c1 : Int) : Bx w.heap.size a0 a1 b0 b1 c0 c1 (((w.alloc (.cells #[.int .i64 a0, .int .i64 a1] 23)).alloc (.cells #[.int .i64 b0, .int .i64 b1] 23)).alloc (.cells #[.int .i64 c0, .int .i64 c1] 23)) :=
  ⟨by simp only [World.size_alloc]; omega, by simp [go_sem], by simp [go_sem], by simp [go_sem], by simp [go_sem], by simp [go_sem], by simp [go_sem]⟩



theorem okAB_comm (a b : Int × Int) : okAB a b = okAB b a := by unfold okAB; exact Bool.and_comm _ _
theorem less_cases (a b : Int × Int) : lessE a b = 1 ∨ (lessE a b = 0 ∧ lessE b a = 0 ∧
    ((lessX a b = true ∧ lessX b a = false) ∨ (lessX a b = false ∧ lessX b a = true ∧ (a.1 ≠ b.1 ∨ a.2 ≠ b.2)) ∨ (lessX a b = false ∧ lessX b a = false ∧ a.1 = b.1 ∧ a.2 = b.2))) := by
  have hc := okAB_comm b a
  cases h : okAB a b with
  | false => left; simp [lessE, h]
  | true =>
    right
    rw [h] at hc
    refine ⟨by simp [lessE, h], by simp [lessE, hc], ?_⟩
    simp only [lessX, h, hc, Bool.true_and, lessB]
    by_cases h1 : a.1 = b.1
    · have h1' := h1.symm
      simp only [h1, if_true]
      simp
      omega
    · have h1' : ¬ b.1 = a.1 := fun e => h1 e.symm
      simp only [h1, h1', if_false]
      simp
      omega

theorem add_less (a b c : Int × Int) (h1 : okAdd a c = true) (h2 : okAdd b c = true) : lessE (addX a c) (addX b c) = 0 ∧ lessX (addX a c) (addX b c) = lessX a b := by
  have e1 : addX a c = sumC a c := by simp [addX, h1]
  have e2 : addX b c = sumC b c := by simp [addX, h2]
  rw [e1, e2]
  simp only [okAdd, okAB, Bool.and_eq_true] at h1 h2
  have k1 : okAB (sumC a c) (sumC b c) = true := by simp [okAB, h1.2, h2.2]
  have k2 : okAB a b = true := by simp [okAB, h1.1.1, h2.1.1]
  refine ⟨by simp [lessE, k1], ?_⟩
  simp only [lessX, k1, k2, Bool.true_and, lessB, sumC]
  have i1 : (a.1 + c.1 = b.1 + c.1) ↔ (a.1 = b.1) := by omega
  have i2 : (a.2 + c.2 < b.2 + c.2) ↔ (a.2 < b.2) := by omega
  have i3 : (a.1 + c.1 < b.1 + c.1) ↔ (a.1 < b.1) := by omega
  simp only [i1, i2, i3]

theorem addE_cases (a b : Int × Int) : (okAdd a b = true ∧ addE a b = 0) ∨ (okAdd a b = false ∧ addE a b = 1) := by
  cases h : okAdd a b with
  | true => left; simp [addE, h]
  | false => right; simp [addE, h]

theorem ofE_cases (s : ByteArray) (wd : Int) : ofE s wd = 0 ∨ ofE s wd = 1 ∨ ofE s wd = 3 := by
  unfold ofE
  split
  · simp
  · split <;> simp

theorem lns_bd (l : List UInt8) (h : l.length ≤ 60000) : ∀ x ∈ lns l, x.length ≤ 60000 := by
  intro x hx
  exact Nat.le_trans (lns_le l x hx) h

theorem ofO_bd (s : ByteArray) (wd : Int) (h : ofE s wd = 0) : 0 ≤ ofO s wd ∧ ofO s wd ≤ 3600060000 := by
  have e : ofO s wd = costOver s wd := by simp [ofO, h]
  have hz : s.size ≤ 60000 ∧ 0 ≤ wd := by
    unfold ofE at h
    split at h
    · omega
    · split at h <;> omega
  rw [e]
  unfold costOver
  have h1 := over_le wd hz.2 (M := 60000) (lens s.data.toList) (by
    intro m hm
    obtain ⟨y, hy, rfl⟩ := List.mem_map.1 hm
    have := lns_bd s.data.toList (by rw [← Lib.size_eq]; exact hz.1) y hy
    omega)
  have h2 := lns_len s.data.toList
  rw [← Lib.size_eq] at h2
  have h3 : ((lens s.data.toList).length : Int) ≤ 60001 := by simp [lens]; omega
  exact ⟨over_nonneg _ _, by omega⟩

theorem ofL_bd (s : ByteArray) (wd : Int) (h : ofE s wd = 0) : 0 ≤ ofL s wd ∧ ofL s wd ≤ 60000 := by
  have e : ofL s wd = costLines s := by simp [ofL, h]
  have hz : s.size ≤ 60000 := by
    unfold ofE at h
    split at h <;> omega
  rw [e]
  unfold costLines
  have h1 := lens_pos s.data.toList
  have h2 := lns_len s.data.toList
  rw [← Lib.size_eq] at h2
  have h3 : ((lens s.data.toList).length : Int) ≤ 60001 := by simp [lens]; omega
  omega

theorem cat_cost (s t st : ByteArray) (wd : Int) (e : st.data.toList = s.data.toList ++ 10 :: t.data.toList) (h1 : ofE s wd = 0) (h2 : ofE t wd = 0) (h3 : ofE st wd = 0) :
    ofO st wd = ofO s wd + ofO t wd ∧ ofL st wd = ofL s wd + ofL t wd + 1 := by
  simp only [ofO, ofL, h1, h2, h3, if_true, costOver, costLines]
  rw [e, lens_append, over_append, List.length_append]
  exact ⟨rfl, by omega⟩

set_option maxRecDepth 100000 in
set_option maxHeartbeats 2000000 in
theorem law_any (a0 a1 b0 b1 c0 c1 : Int) (s t : ByteArray) (wd : Int) (w : World) (hs : s.size ≤ 140737488351232) (ht : t.size ≤ 140737488351232) :
    Calls Try.prog 3 #[.agg #[.int .i64 a0, .int .i64 a1], .agg #[.int .i64 b0, .int .i64 b1], .agg #[.int .i64 c0, .int .i64 c1], .string s, .string t, .int .i64 wd] w fun e w' => e = .returned (.bool true) ∧ Below w.heap.size w w' := by
  go_enter Try.func3, Try.ntmps3
  go_wp2_with fail
  refine (of_any ⟨#[97, 98, 99, 10, 100]⟩ 2 _).mono ?_
  rintro e w1 ⟨rfl, hb1⟩
  rw [fact_o, fact_l, fact_e, errN_0]
  have hB1 := below3 hb1
  have hX1 := ((Bx.start w a0 a1 b0 b1 c0 c1).below hb1).alloc (.cells #[.int .i64 1, .int .i64 1] 23)
  clear hb1
  obtain ⟨hz1, ca0, ca1, cb0, cb1, cc0, cc1⟩ := id hX1
  go_wp2_with fail
  refine (less_any (a0, a1) (b0, b1) _).mono ?_
  rintro e w2 ⟨rfl, hb2⟩
  have hB2 := belowA hB1 (Nat.le_refl _) hb2
  have hX2 := hX1.below hb2
  clear hb2 hB1 hX1 hz1 ca0 ca1 cb0 cb1 cc0 cc1
  obtain ⟨hz1, ca0, ca1, cb0, cb1, cc0, cc1⟩ := id hX2
  go_wp2_with fail
  refine (less_any (b0, b1) (a0, a1) _).mono ?_
  rintro e w3 ⟨rfl, hb3⟩
  have hB3 := belowT hB2 (Nat.le_refl _) hb3
  have hX3 := hX2.below hb3
  clear hb3 hB2 hX2 hz1 ca0 ca1 cb0 cb1 cc0 cc1
  obtain ⟨hz1, ca0, ca1, cb0, cb1, cc0, cc1⟩ := id hX3
  go_upto_region 6 with fail
  go_cut [0, 1, 15, 16, 17, 18, 78] (fun _ _ x _ _ _ c wx => x = .bool (lessX (a0, a1) (b0, b1)) ∧ c = .bool false ∧ wx = w3)
  case first =>
    have e0 := errN_0
    have e1 := errN_1
    rcases less_cases (a0, a1) (b0, b1) with h | ⟨h1, h2, ⟨h3, h4⟩ | ⟨h3, h4, h5⟩ | ⟨h3, h4, h5, h6⟩⟩
    · go_wp2
      go_meet
      exact ⟨rfl, rfl, rfl⟩
    · go_wp2
      go_meet
      exact ⟨by rw [h3], rfl, rfl⟩
    · go_wp2
      all_goals
        go_meet
        case rel => exact ⟨by rw [h3], by first | rfl | (rename_i h7; simp at h7; omega) | simp_all, rfl⟩
    · go_wp2
      go_meet
      exact ⟨by rw [h3], rfl, rfl⟩
  case rest =>
    obtain ⟨rfl, rfl, rfl⟩ := hcut
    clear hz1 ca0 ca1 cb0 cb1 cc0 cc1
    obtain ⟨hz1, ca0, ca1, cb0, cb1, cc0, cc1⟩ := id hX3
    go_wp2_with fail
    refine (add_any (a0, a1) (c0, c1) _).mono ?_
    rintro e w4 ⟨rfl, hb4⟩
    have hB4 := belowT hB3 (Nat.le_refl _) hb4
    have hX4 := (hX3.below hb4).alloc (.cells #[.int .i64 (addX (a0, a1) (c0, c1)).1, .int .i64 (addX (a0, a1) (c0, c1)).2] 23)
    clear hb4 hB3 hX3 hz1 ca0 ca1 cb0 cb1 cc0 cc1
    obtain ⟨hz1, ca0, ca1, cb0, cb1, cc0, cc1⟩ := id hX4
    go_wp2_with fail
    refine (add_any (b0, b1) (c0, c1) _).mono ?_
    rintro e w5 ⟨rfl, hb5⟩
    have hB5 := belowA hB4 (Nat.le_refl _) hb5
    have hc5 := (bcell hb5).1
    have hz5 : w4.heap.size < w5.heap.size := by have := hb5.size; simp at this; omega
    have cp0 : w5.cell? ⟨w4.heap.size, 0, none⟩ = some (.int .i64 (addX (a0, a1) (c0, c1)).1) := (hc5 _ _ (by simp only [World.size_alloc]; omega)).trans (by simp [go_sem])
    have cp1 : w5.cell? ⟨w4.heap.size, 1, none⟩ = some (.int .i64 (addX (a0, a1) (c0, c1)).2) := (hc5 _ _ (by simp only [World.size_alloc]; omega)).trans (by simp [go_sem])
    clear hb5 hB4 hX4 hz1 ca0 ca1 cb0 cb1 cc0 cc1 hc5
    have hbq : Below w5.heap.size w5 (w5.alloc (.cells #[.int .i64 (addX (b0, b1) (c0, c1)).1, .int .i64 (addX (b0, b1) (c0, c1)).2] 23)) := (Below.refl _ _).alloc (Nat.le_refl _) _
    have dp0 := ((bcell hbq).1 w4.heap.size 0 hz5).trans cp0
    have dp1 := ((bcell hbq).1 w4.heap.size 1 hz5).trans cp1
    have hB6 := belowT hB5 (Nat.le_refl _) hbq
    clear hbq hB5 cp0 cp1
    go_upto_region 10 with fail
    go_cut [16, 18, 96] (fun _ _ c wx => c = .bool (okAdd (a0, a1) (c0, c1) && okAdd (b0, b1) (c0, c1)) ∧ wx = w5.alloc (.cells #[.int .i64 (addX (b0, b1) (c0, c1)).1, .int .i64 (addX (b0, b1) (c0, c1)).2] 23))
    case first =>
      have e0 := errN_0
      have e1 := errN_1
      rcases addE_cases (a0, a1) (c0, c1) with ⟨k1, k2⟩ | ⟨k1, k2⟩
      · rcases addE_cases (b0, b1) (c0, c1) with ⟨k3, k4⟩ | ⟨k3, k4⟩
        · go_wp2
          go_meet
          exact ⟨by rw [k1, k3]; rfl, rfl⟩
        · go_wp2
          go_meet
          exact ⟨by rw [k1, k3]; rfl, rfl⟩
      · go_wp2
        go_meet
        exact ⟨by rw [k1]; rfl, rfl⟩
    case rest =>
      obtain ⟨rfl, rfl⟩ := hcut
      go_upto_if 96 with fail
      go_cut [21, 22] (fun _ _ wx => Below w.heap.size w wx)
      case first =>
        cases hk : (okAdd (a0, a1) (c0, c1) && okAdd (b0, b1) (c0, c1)) with
        | false =>
          go_wp2
          go_meet
          exact hB6
        | true =>
          simp only [Bool.and_eq_true] at hk
          obtain ⟨l1, l2⟩ := add_less (a0, a1) (b0, b1) (c0, c1) hk.1 hk.2
          have e0 := errN_0
          go_wp2_with fail
          refine (less_any (addX (a0, a1) (c0, c1)) (addX (b0, b1) (c0, c1)) _).mono ?_
          rintro e w6 ⟨rfl, hb6⟩
          rw [l1, l2, errN_0]
          have hB7 := belowT hB6 (Nat.le_refl _) hb6
          clear hb6
          go_wp2
          go_meet
          exact hB7
      case rest =>
        go_wp2_with fail
        refine (of_any s wd _).mono ?_
        rintro e w7 ⟨rfl, hb7⟩
        have hB7 := belowT hcut (Nat.le_refl _) hb7
        clear hb7 hcut
        go_wp2_with fail
        refine (of_any t wd _).mono ?_
        rintro e w8 ⟨rfl, hb8⟩
        have hB8 := belowA hB7 (Nat.le_refl _) hb8
        have hz8 : w7.heap.size < w8.heap.size := by have := hb8.size; simp at this; omega
        have cu0 : w8.cell? ⟨w7.heap.size, 0, none⟩ = some (.int .i64 (ofO s wd)) := ((bcell hb8).1 _ _ (by simp only [World.size_alloc]; omega)).trans (by simp [go_sem])
        have cu1 : w8.cell? ⟨w7.heap.size, 1, none⟩ = some (.int .i64 (ofL s wd)) := ((bcell hb8).1 _ _ (by simp only [World.size_alloc]; omega)).trans (by simp [go_sem])
        clear hb8 hB7
        go_wp2_with fail
        refine (of_any _ _ _).mono ?_
        rintro e w9 ⟨rfl, hb9⟩
        have hB9 := belowA hB8 (Nat.le_refl _) hb9
        clear hs ht hB8
        generalize hst : s ++ _ ++ t = st
        have hst' : st.data.toList = s.data.toList ++ 10 :: t.data.toList := by rw [← hst]; simp
        have HS : Hid (st.data.toList = s.data.toList ++ 10 :: t.data.toList) := hst'
        clear hst hst'
        have hz9 : w8.heap.size < w9.heap.size := by have := hb9.size; simp at this; omega
        have hb8 : Below w8.heap.size w8 (w8.alloc (.cells #[.int .i64 (ofO t wd), .int .i64 (ofL t wd)] 23)) := (Below.refl _ _).alloc (Nat.le_refl _) _
        have hb8' : Below w8.heap.size w8 w9 := hb8.trans (hb9.mono (by simp))
        have hb10 : Below w9.heap.size w9 (w9.alloc (.cells #[.int .i64 (ofO st wd), .int .i64 (ofL st wd)] 23)) := (Below.refl _ _).alloc (Nat.le_refl _) _
        have du0 := ((bcell hb10).1 w7.heap.size 0 (by omega)).trans (((bcell hb8').1 w7.heap.size 0 hz8).trans cu0)
        have du1 := ((bcell hb10).1 w7.heap.size 1 (by omega)).trans (((bcell hb8').1 w7.heap.size 1 hz8).trans cu1)
        have cv0 : w9.cell? ⟨w8.heap.size, 0, none⟩ = some (.int .i64 (ofO t wd)) := ((bcell hb9).1 _ _ (by simp only [World.size_alloc]; omega)).trans (by simp [go_sem])
        have cv1 : w9.cell? ⟨w8.heap.size, 1, none⟩ = some (.int .i64 (ofL t wd)) := ((bcell hb9).1 _ _ (by simp only [World.size_alloc]; omega)).trans (by simp [go_sem])
        have dv0 := ((bcell hb10).1 w8.heap.size 0 hz9).trans cv0
        have dv1 := ((bcell hb10).1 w8.heap.size 1 hz9).trans cv1
        have hB10 := belowT hB9 (Nat.le_refl _) hb10
        clear hb8 hb8' hb9 hb10 cu0 cu1 cv0 cv1 hB9 hz5 dp0 dp1 hB6
        have e0 := errN_0
        have e1 := errN_1
        have e3 := errN_3
        rcases ofE_cases s wd with g1 | g1 | g1
        · rcases ofE_cases t wd with g2 | g2 | g2
          · rcases ofE_cases st wd with g3 | g3 | g3
            · obtain ⟨q1, q2⟩ := cat_cost s t st wd HS.out g1 g2 g3
              obtain ⟨b1, b2⟩ := ofO_bd s wd g1
              obtain ⟨b3, b4⟩ := ofO_bd t wd g2
              obtain ⟨b5, b6⟩ := ofL_bd s wd g1
              obtain ⟨b7, b8⟩ := ofL_bd t wd g2
              have q3 : (ofO st wd == ofO s wd + ofO t wd) = true := by simp [q1]
              have q4 : (ofL st wd == ofL s wd + ofL t wd + 1) = true := by simp [q2]
              clear q1 q2
              go_wp2
              go_ret
              exact ⟨rfl, hB10⟩
            all_goals
              go_wp2
              go_ret
              exact ⟨rfl, hB10⟩
          all_goals
            go_wp2
            go_ret
            exact ⟨rfl, hB10⟩
        all_goals
          go_wp2
          go_ret
          exact ⟨rfl, hB10⟩
end Go.Proofs.Ytppdaldobmlooaa
