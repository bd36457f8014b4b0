/- The law CostIs: its walk. -/
import Derived.Test.YtppdaldobmlooaaDoorRef1
import Derived.Deep.DeepCutAuto
namespace Go.Proofs.YtppdaldobmlooaaDoor
open Go Go.RowKit


theorem hide {p : Prop} (h : p) : Hid p := h
def Bx2 (n : Nat) (a0 a1 b0 b1 : Int) (W : World) : Prop :=
  (0 < n ∧ n + 1 < W.heap.size) ∧ W.cell? ⟨n, 0, none⟩ = some (.int .i64 a0) ∧ W.cell? ⟨n, 1, none⟩ = some (.int .i64 a1) ∧ W.cell? ⟨n + 1, 0, none⟩ = some (.int .i64 b0) ∧ W.cell? ⟨n + 1, 1, none⟩ = some (.int .i64 b1) ∧ Hnd W

theorem Bx2.of {n q : Nat} {a0 a1 b0 b1 : Int} {W W' : World} (h : Bx2 n a0 a1 b0 b1 W) (hq : n + 1 < q) (hb : Below q W W') : Bx2 n a0 a1 b0 b1 W' := by
  obtain ⟨⟨h0, h0'⟩, h1, h2, h3, h4, h5⟩ := h
  have hs := hb.size
  exact ⟨⟨h0, by omega⟩, (hb.cell (p := ⟨n, 0, none⟩) (show n < q by omega)).trans h1, (hb.cell (p := ⟨n, 1, none⟩) (show n < q by omega)).trans h2, (hb.cell (p := ⟨n + 1, 0, none⟩) (show n + 1 < q by omega)).trans h3, (hb.cell (p := ⟨n + 1, 1, none⟩) (show n + 1 < q by omega)).trans h4,
    (hb.cell (p := ⟨0, 0, none⟩) (show 0 < q by omega)).trans h5⟩
theorem Bx2.below {n : Nat} {a0 a1 b0 b1 : Int} {W W' : World} (h : Bx2 n a0 a1 b0 b1 W) (hb : Below W.heap.size W W') : Bx2 n a0 a1 b0 b1 W' := h.of h.1.2 hb
theorem Bx2.alloc {n : Nat} {a0 a1 b0 b1 : Int} {W : World} (h : Bx2 n a0 a1 b0 b1 W) (o : Obj) : Bx2 n a0 a1 b0 b1 (W.alloc o) := h.below ((Below.refl _ _).alloc (Nat.le_refl _) _)
theorem Bx2.start (w : World) (a0 a1 b0 b1 : Int) (hg : Hnd w) : Bx2 w.heap.size a0 a1 b0 b1 ((w.alloc (.cells #[.int .i64 a0, .int .i64 a1] 23)).alloc (.cells #[.int .i64 b0, .int .i64 b1] 23)) :=
  ⟨⟨hg.lt, by simp only [World.size_alloc]; omega⟩, by simp [go_sem], by simp [go_sem], by simp [go_sem], by simp [go_sem], (hg.alloc _).alloc _⟩

/-- A box that holds a cost. -/
def Bc (q : Nat) (x y : Int) (W : World) : Prop := q < W.heap.size ∧ W.cell? ⟨q, 0, none⟩ = some (.int .i64 x) ∧ W.cell? ⟨q, 1, none⟩ = some (.int .i64 y) ∧ W.frozen? ⟨q, 0, none⟩ = false ∧ W.frozen? ⟨q, 1, none⟩ = false
theorem Bc.new (W : World) (x y : Int) : Bc W.heap.size x y (W.alloc (.cells #[.int .i64 x, .int .i64 y] 23)) := ⟨by simp, by simp [go_sem], by simp [go_sem], by simp [go_sem], by simp [go_sem]⟩
theorem Bc.below {q : Nat} {x y : Int} {W W' : World} (h : Bc q x y W) (hb : Below W.heap.size W W') : Bc q x y W' := by
  obtain ⟨h0, h1, h2, h3, h4⟩ := h
  obtain ⟨hc, hf⟩ := bcell hb
  have hs := hb.size
  exact ⟨by omega, (hc _ _ h0).trans h1, (hc _ _ h0).trans h2, (hf _ _ h0).trans h3, (hf _ _ h0).trans h4⟩
theorem Bc.alloc {q : Nat} {x y : Int} {W : World} (h : Bc q x y W) (o : Obj) : Bc q x y (W.alloc o) := h.below ((Below.refl _ _).alloc (Nat.le_refl _) _)
theorem putBelow {n q : Nat} {W : World} {x y : Value} (h : n ≤ q) : Below n W ((W.setCell ⟨q, 0, none⟩ x).setCell ⟨q, 1, none⟩ y) :=
  ((Below.refl n W).setCell (p := ⟨q, 0, none⟩) h _).setCell (p := ⟨q, 1, none⟩) h _
theorem Bc.put {q : Nat} {x y : Int} {W : World} (h : Bc q x y W) (x' y' : Int) : Bc q x' y' ((W.setCell ⟨q, 0, none⟩ (.int .i64 x')).setCell ⟨q, 1, none⟩ (.int .i64 y')) := by
  obtain ⟨h0, h1, h2, h3, h4⟩ := h
  have hs := (putBelow (n := 0) (q := q) (W := W) (x := .int .i64 x') (y := .int .i64 y') (Nat.zero_le _)).size
  exact ⟨by omega, (cso (by omega)).trans (css h1), css ((cso (by omega)).trans h2), csf.trans (csf.trans h3), csf.trans (csf.trans h4)⟩
theorem Bc.other {q r : Nat} {x y : Int} {W : World} (h : Bc q x y W) (hqr : q ≠ r) (x' y' : Value) : Bc q x y ((W.setCell ⟨r, 0, none⟩ x').setCell ⟨r, 1, none⟩ y') := by
  obtain ⟨h0, h1, h2, h3, h4⟩ := h
  have hs := (putBelow (n := 0) (q := r) (W := W) (x := x') (y := y') (Nat.zero_le _)).size
  exact ⟨by omega, (cso (by omega)).trans ((cso (by omega)).trans h1), (cso (by omega)).trans ((cso (by omega)).trans h2), csf.trans (csf.trans h3), csf.trans (csf.trans h4)⟩


theorem costIs_cases (a b : Int × Int) : (okC a = false) ∨ (okC a = true ∧ okC b = false) ∨ (okC a = true ∧ okC b = true ∧ okC (sumC a b) = false) ∨ (okC a = true ∧ okC b = true ∧ okC (sumC a b) = true) := by
  cases okC a <;> cases okC b <;> cases okC (sumC a b) <;> simp
theorem fN_t {c : Int × Int} (h : okC c = true) : faultN c = 0 := by simp [faultN, h]
theorem fN_f {c : Int × Int} (h : okC c = false) : faultN c = 1 := by simp [faultN, h]
theorem lE_t {a b : Int × Int} (h : okC a = true) (h' : okC b = true) : lessE a b = 0 ∧ lessX a b = lessB a b := by simp [lessE, lessX, okAB, h, h']
theorem lE_f {a b : Int × Int} (h : (okC a && okC b) = false) : lessE a b = 1 ∧ lessX a b = false := by simp [lessE, lessX, okAB, h]
theorem aE_f {a b : Int × Int} (h : (okC a && okC b && okC (sumC a b)) = false) : addE a b = 1 ∧ addX a b = (0, 0) := by simp [addE, addX, okAdd, okAB, h]
theorem aE_t {a b : Int × Int} (h : okC a = true) (h' : okC b = true) (h'' : okC (sumC a b) = true) : addE a b = 0 ∧ addX a b = sumC a b := by simp [addE, addX, okAdd, okAB, h, h', h'']

set_option maxRecDepth 100000 in
set_option maxHeartbeats 4000000 in
theorem law_1 (a0 a1 b0 b1 : Int) (s : ByteArray) (wd : Int) (w : World) (hg : Hnd w) (k1 : okC (a0, a1) = false) :
    Calls Tryd.prog 3 #[.agg #[.int .i64 a0, .int .i64 a1], .agg #[.int .i64 b0, .int .i64 b1], .string s, .int .i64 wd] w fun e w' => e = .returned (.bool true) ∧ Below w.heap.size w w' := by
  have HG : Hid (Hnd w) := hg
  clear hg
  have g1 := fN_f k1
  obtain ⟨g3, g4⟩ := lE_f (a := (a0, a1)) (b := (b0, b1)) (by simp [k1])
  obtain ⟨g5, g6⟩ := aE_f (a := (a0, a1)) (b := (b0, b1)) (by simp [k1])
  clear k1
  replace g1 := hide g1
  replace g3 := hide g3
  replace g4 := hide g4
  replace g5 := hide g5
  replace g6 := hide g6
  go_enter Tryd.func3, Tryd.ntmps3
  go_wp2_with fail
  refine (fault_any (a0, a1) _).mono ?_
  rintro e w2 ⟨rfl, hb⟩
  rw [g1.out]
  have hB : Below w.heap.size w w2 := (((Below.refl _ _).alloc (Nat.le_refl _) _).alloc (by simp) _).trans (hb.mono (by simp; omega))
  have hX := (Bx2.start w a0 a1 b0 b1 HG.out).below hb
  clear hb
  obtain ⟨⟨hv, hz⟩, ca0, ca1, cb0, cb1, hh⟩ := id hX
  go_wp2_with fail
  refine (less_any (a0, a1) (b0, b1) _).mono ?_
  rintro e w2 ⟨rfl, hb⟩
  rw [g3.out, g4.out]
  replace hB := belowT hB (Nat.le_refl _) hb
  replace hX := hX.below hb
  clear hb hv hz ca0 ca1 cb0 cb1 hh
  obtain ⟨⟨hv, hz⟩, ca0, ca1, cb0, cb1, hh⟩ := id hX
  go_wp2_with fail
  refine (serr_any 1 1 _ hh).mono ?_
  rintro e w2 ⟨rfl, hb⟩
  replace hB := belowT hB (Nat.le_refl _) hb
  replace hX := hX.below hb
  clear hb hv hz ca0 ca1 cb0 cb1 hh
  obtain ⟨⟨hv, hz⟩, ca0, ca1, cb0, cb1, hh⟩ := id hX
  have hC := Bc.new w2 (0) (0)
  replace hX := hX.alloc (.cells #[.int .i64 (0), .int .i64 (0)] 23)
  obtain ⟨q, hq⟩ : ∃ z, z = w2.heap.size := ⟨_, rfl⟩
  rw [← hq] at hC
  have hqn : w.heap.size + 1 < q := by rw [hq]; exact hz
  replace hq := hide hq
  clear hv hz ca0 ca1 cb0 cb1 hh
  obtain ⟨⟨hv, hz⟩, ca0, ca1, cb0, cb1, hh⟩ := id hX
  go_wp2_with fail
  refine (add_any (a0, a1) (b0, b1) _).mono ?_
  rintro e w2 ⟨rfl, hb⟩
  rw [g5.out, g6.out]
  rw [← hq.out]
  replace hB := belowA hB (Nat.le_refl _) hb
  replace hX := hX.below hb
  replace hC := hC.below hb
  clear hb hv hz ca0 ca1 cb0 cb1 hh
  obtain ⟨⟨hv, hz⟩, ca0, ca1, cb0, cb1, hh⟩ := id hX
  have hqr : q < w2.heap.size := hC.1
  replace hC := hC.alloc (.cells #[.int .i64 (0), .int .i64 (0)] 23)
  have hY := Bc.new w2 (0) (0)
  replace hX := hX.alloc (.cells #[.int .i64 (0), .int .i64 (0)] 23)
  obtain ⟨r, hr⟩ : ∃ z, z = w2.heap.size := ⟨_, rfl⟩
  rw [← hr] at hY
  have hrn : w.heap.size + 1 < r := by rw [hr]; exact hz
  replace hr := hide hr
  clear hv hz ca0 ca1 cb0 cb1 hh
  obtain ⟨⟨hv, hz⟩, ca0, ca1, cb0, cb1, hh⟩ := id hX
  have hqr' : q < r := by rw [hr.out]; exact hqr
  clear hqr
  go_wp2_with fail
  refine (serr_any 1 1 _ hh).mono ?_
  rintro e w2 ⟨rfl, hb⟩
  rw [← hr.out]
  replace hB := belowA hB (Nat.le_refl _) hb
  replace hX := hX.below hb
  replace hC := hC.below hb
  replace hY := hY.below hb
  clear hb hv hz ca0 ca1 cb0 cb1 hh
  obtain ⟨⟨hv, hz⟩, ca0, ca1, cb0, cb1, hh⟩ := id hX
  obtain ⟨hc0, hc1, hc2, hc3, hc4⟩ := id hC
  obtain ⟨hy0, hy1, hy2, hy3, hy4⟩ := id hY
  go_upto_region 19 with fail
  by_cases hs : 60000 < s.size
  · have e0 : ofE s wd = 3 := by simp [ofE, hs]
    have t1 := hide e0
    have t2 : Hid (ofO s wd = 0) := hide (by simp [ofO, e0])
    have t3 : Hid (ofL s wd = 0) := hide (by simp [ofL, e0])
    have hs' : (60000 : Int) < (s.size : Int) := by omega
    clear e0 hs
    go_wp2_with fail
    replace hX := hX.of hqn (putBelow (x := .int .i64 (0)) (y := .int .i64 (0)) (Nat.le_refl q))
    replace hC := hC.put (0) (0)
    replace hY := hY.other (r := q) (by omega) (.int .i64 (0)) (.int .i64 (0))
    replace hB := hB.trans (putBelow (n := w.heap.size) (x := .int .i64 (0)) (y := .int .i64 (0)) (show w.heap.size ≤ q by omega))
    refine (of_any s wd _).mono ?_
    rintro e w2 ⟨rfl, hb⟩
    rw [t1.out, t2.out, t3.out]
    replace hB := belowT hB (Nat.le_refl _) hb
    replace hX := hX.below hb
    replace hC := hC.below hb
    replace hY := hY.below hb
    clear hb
    clear hv hz ca0 ca1 cb0 cb1 hh hc0 hc1 hc2 hc3 hc4 hy0 hy1 hy2 hy3 hy4
    obtain ⟨⟨hv, hz⟩, ca0, ca1, cb0, cb1, hh⟩ := id hX
    obtain ⟨hc0, hc1, hc2, hc3, hc4⟩ := id hC
    obtain ⟨hy0, hy1, hy2, hy3, hy4⟩ := id hY
    go_wp2_with fail
    replace hX := hX.of hrn (putBelow (x := .int .i64 (0)) (y := .int .i64 (0)) (Nat.le_refl r))
    replace hY := hY.put (0) (0)
    replace hC := hC.other (r := r) (by omega) (.int .i64 (0)) (.int .i64 (0))
    replace hB := hB.trans (putBelow (n := w.heap.size) (x := .int .i64 (0)) (y := .int .i64 (0)) (show w.heap.size ≤ r by omega))
    refine (serr_any 3 3 _ hX.2.2.2.2.2).mono ?_
    rintro e w2 ⟨rfl, hb⟩
    replace hB := belowT hB (Nat.le_refl _) hb
    replace hX := hX.below hb
    replace hC := hC.below hb
    replace hY := hY.below hb
    clear hb
    clear hv hz ca0 ca1 cb0 cb1 hh hc0 hc1 hc2 hc3 hc4 hy0 hy1 hy2 hy3 hy4
    obtain ⟨⟨hv, hz⟩, ca0, ca1, cb0, cb1, hh⟩ := id hX
    obtain ⟨hc0, hc1, hc2, hc3, hc4⟩ := id hC
    obtain ⟨hy0, hy1, hy2, hy3, hy4⟩ := id hY
    go_wp2
    go_ret
    exact ⟨rfl, hB⟩
  · have hs' : ¬ (60000 : Int) < (s.size : Int) := by omega
    have hs2 : s.size ≤ 60000 := by omega
    by_cases hw1 : wd < 0
    · have e0 : ofE s wd = 1 := by simp [ofE, hs, hw1]
      have t1 := hide e0
      have t2 : Hid (ofO s wd = 0) := hide (by simp [ofO, e0])
      have t3 : Hid (ofL s wd = 0) := hide (by simp [ofL, e0])
      clear e0 hs
      go_wp2_with fail
      replace hX := hX.of hqn (putBelow (x := .int .i64 (0)) (y := .int .i64 (0)) (Nat.le_refl q))
      replace hC := hC.put (0) (0)
      replace hY := hY.other (r := q) (by omega) (.int .i64 (0)) (.int .i64 (0))
      replace hB := hB.trans (putBelow (n := w.heap.size) (x := .int .i64 (0)) (y := .int .i64 (0)) (show w.heap.size ≤ q by omega))
      refine (of_any s wd _).mono ?_
      rintro e w2 ⟨rfl, hb⟩
      rw [t1.out, t2.out, t3.out]
      replace hB := belowT hB (Nat.le_refl _) hb
      replace hX := hX.below hb
      replace hC := hC.below hb
      replace hY := hY.below hb
      clear hb
      clear hv hz ca0 ca1 cb0 cb1 hh hc0 hc1 hc2 hc3 hc4 hy0 hy1 hy2 hy3 hy4
      obtain ⟨⟨hv, hz⟩, ca0, ca1, cb0, cb1, hh⟩ := id hX
      obtain ⟨hc0, hc1, hc2, hc3, hc4⟩ := id hC
      obtain ⟨hy0, hy1, hy2, hy3, hy4⟩ := id hY
      go_wp2_with fail
      replace hX := hX.of hrn (putBelow (x := .int .i64 (0)) (y := .int .i64 (0)) (Nat.le_refl r))
      replace hY := hY.put (0) (0)
      replace hC := hC.other (r := r) (by omega) (.int .i64 (0)) (.int .i64 (0))
      replace hB := hB.trans (putBelow (n := w.heap.size) (x := .int .i64 (0)) (y := .int .i64 (0)) (show w.heap.size ≤ r by omega))
      refine (serr_any 1 1 _ hX.2.2.2.2.2).mono ?_
      rintro e w2 ⟨rfl, hb⟩
      replace hB := belowT hB (Nat.le_refl _) hb
      replace hX := hX.below hb
      replace hC := hC.below hb
      replace hY := hY.below hb
      clear hb
      clear hv hz ca0 ca1 cb0 cb1 hh hc0 hc1 hc2 hc3 hc4 hy0 hy1 hy2 hy3 hy4
      obtain ⟨⟨hv, hz⟩, ca0, ca1, cb0, cb1, hh⟩ := id hX
      obtain ⟨hc0, hc1, hc2, hc3, hc4⟩ := id hC
      obtain ⟨hy0, hy1, hy2, hy3, hy4⟩ := id hY
      go_wp2
      go_ret
      exact ⟨rfl, hB⟩
    · by_cases hw2 : 100 < wd
      · have e0 : ofE s wd = 1 := by simp [ofE, hs, hw2]
        have t1 := hide e0
        have t2 : Hid (ofO s wd = 0) := hide (by simp [ofO, e0])
        have t3 : Hid (ofL s wd = 0) := hide (by simp [ofL, e0])
        clear e0 hs
        go_wp2_with fail
        replace hX := hX.of hqn (putBelow (x := .int .i64 (0)) (y := .int .i64 (0)) (Nat.le_refl q))
        replace hC := hC.put (0) (0)
        replace hY := hY.other (r := q) (by omega) (.int .i64 (0)) (.int .i64 (0))
        replace hB := hB.trans (putBelow (n := w.heap.size) (x := .int .i64 (0)) (y := .int .i64 (0)) (show w.heap.size ≤ q by omega))
        refine (of_any s wd _).mono ?_
        rintro e w2 ⟨rfl, hb⟩
        rw [t1.out, t2.out, t3.out]
        replace hB := belowT hB (Nat.le_refl _) hb
        replace hX := hX.below hb
        replace hC := hC.below hb
        replace hY := hY.below hb
        clear hb
        clear hv hz ca0 ca1 cb0 cb1 hh hc0 hc1 hc2 hc3 hc4 hy0 hy1 hy2 hy3 hy4
        obtain ⟨⟨hv, hz⟩, ca0, ca1, cb0, cb1, hh⟩ := id hX
        obtain ⟨hc0, hc1, hc2, hc3, hc4⟩ := id hC
        obtain ⟨hy0, hy1, hy2, hy3, hy4⟩ := id hY
        go_wp2_with fail
        replace hX := hX.of hrn (putBelow (x := .int .i64 (0)) (y := .int .i64 (0)) (Nat.le_refl r))
        replace hY := hY.put (0) (0)
        replace hC := hC.other (r := r) (by omega) (.int .i64 (0)) (.int .i64 (0))
        replace hB := hB.trans (putBelow (n := w.heap.size) (x := .int .i64 (0)) (y := .int .i64 (0)) (show w.heap.size ≤ r by omega))
        refine (serr_any 1 1 _ hX.2.2.2.2.2).mono ?_
        rintro e w2 ⟨rfl, hb⟩
        replace hB := belowT hB (Nat.le_refl _) hb
        replace hX := hX.below hb
        replace hC := hC.below hb
        replace hY := hY.below hb
        clear hb
        clear hv hz ca0 ca1 cb0 cb1 hh hc0 hc1 hc2 hc3 hc4 hy0 hy1 hy2 hy3 hy4
        obtain ⟨⟨hv, hz⟩, ca0, ca1, cb0, cb1, hh⟩ := id hX
        obtain ⟨hc0, hc1, hc2, hc3, hc4⟩ := id hC
        obtain ⟨hy0, hy1, hy2, hy3, hy4⟩ := id hY
        go_wp2
        go_ret
        exact ⟨rfl, hB⟩
      · have e0 : ofE s wd = 0 := by simp [ofE, hs, hw1, hw2]
        have t1 := hide e0
        have t2 : Hid (ofO s wd = costOver s wd) := hide (by simp [ofO, e0])
        have t3 : Hid (ofL s wd = costLines s) := hide (by simp [ofL, e0])
        clear e0 hs
        have hw0 : 0 ≤ wd := by omega
        have hs := hs2
        go_wp2_with fail
        replace hX := hX.of hqn (putBelow (x := .int .i64 (0)) (y := .int .i64 (0)) (Nat.le_refl q))
        replace hC := hC.put (0) (0)
        replace hY := hY.other (r := q) (by omega) (.int .i64 (0)) (.int .i64 (0))
        replace hB := hB.trans (putBelow (n := w.heap.size) (x := .int .i64 (0)) (y := .int .i64 (0)) (show w.heap.size ≤ q by omega))
        refine (costOf_any s wd _ hs hw0).mono ?_
        rintro e w2 ⟨rfl, hb⟩
        replace hB := belowT hB (Nat.le_refl _) hb
        replace hX := hX.below hb
        replace hC := hC.below hb
        replace hY := hY.below hb
        clear hb
        clear hv hz ca0 ca1 cb0 cb1 hh hc0 hc1 hc2 hc3 hc4 hy0 hy1 hy2 hy3 hy4
        obtain ⟨⟨hv, hz⟩, ca0, ca1, cb0, cb1, hh⟩ := id hX
        obtain ⟨hc0, hc1, hc2, hc3, hc4⟩ := id hC
        obtain ⟨hy0, hy1, hy2, hy3, hy4⟩ := id hY
        go_wp2_with fail
        replace hX := hX.of hqn (putBelow (x := .int .i64 (costOver s wd)) (y := .int .i64 (costLines s)) (Nat.le_refl q))
        replace hC := hC.put (costOver s wd) (costLines s)
        replace hY := hY.other (r := q) (by omega) (.int .i64 (costOver s wd)) (.int .i64 (costLines s))
        replace hB := hB.trans (putBelow (n := w.heap.size) (x := .int .i64 (costOver s wd)) (y := .int .i64 (costLines s)) (show w.heap.size ≤ q by omega))
        refine (of_any s wd _).mono ?_
        rintro e w2 ⟨rfl, hb⟩
        rw [t1.out, t2.out, t3.out]
        replace hB := belowT hB (Nat.le_refl _) hb
        replace hX := hX.below hb
        replace hC := hC.below hb
        replace hY := hY.below hb
        clear hb
        clear hv hz ca0 ca1 cb0 cb1 hh hc0 hc1 hc2 hc3 hc4 hy0 hy1 hy2 hy3 hy4
        obtain ⟨⟨hv, hz⟩, ca0, ca1, cb0, cb1, hh⟩ := id hX
        obtain ⟨hc0, hc1, hc2, hc3, hc4⟩ := id hC
        obtain ⟨hy0, hy1, hy2, hy3, hy4⟩ := id hY
        go_wp2_with fail
        replace hX := hX.of hrn (putBelow (x := .int .i64 (costOver s wd)) (y := .int .i64 (costLines s)) (Nat.le_refl r))
        replace hY := hY.put (costOver s wd) (costLines s)
        replace hC := hC.other (r := r) (by omega) (.int .i64 (costOver s wd)) (.int .i64 (costLines s))
        replace hB := hB.trans (putBelow (n := w.heap.size) (x := .int .i64 (costOver s wd)) (y := .int .i64 (costLines s)) (show w.heap.size ≤ r by omega))
        refine (serr_any 0 0 _ hX.2.2.2.2.2).mono ?_
        rintro e w2 ⟨rfl, hb⟩
        replace hB := belowT hB (Nat.le_refl _) hb
        replace hX := hX.below hb
        replace hC := hC.below hb
        replace hY := hY.below hb
        clear hb
        clear hv hz ca0 ca1 cb0 cb1 hh hc0 hc1 hc2 hc3 hc4 hy0 hy1 hy2 hy3 hy4
        obtain ⟨⟨hv, hz⟩, ca0, ca1, cb0, cb1, hh⟩ := id hX
        obtain ⟨hc0, hc1, hc2, hc3, hc4⟩ := id hC
        obtain ⟨hy0, hy1, hy2, hy3, hy4⟩ := id hY
        go_wp2
        go_ret
        exact ⟨rfl, hB⟩

set_option maxRecDepth 100000 in
set_option maxHeartbeats 4000000 in
theorem law_2 (a0 a1 b0 b1 : Int) (s : ByteArray) (wd : Int) (w : World) (hg : Hnd w) (k1 : okC (a0, a1) = true) (k2 : okC (b0, b1) = false) :
    Calls Tryd.prog 3 #[.agg #[.int .i64 a0, .int .i64 a1], .agg #[.int .i64 b0, .int .i64 b1], .string s, .int .i64 wd] w fun e w' => e = .returned (.bool true) ∧ Below w.heap.size w w' := by
  have HG : Hid (Hnd w) := hg
  clear hg
  have g1 := fN_t k1
  have g2 := fN_f k2
  obtain ⟨g3, g4⟩ := lE_f (a := (a0, a1)) (b := (b0, b1)) (by simp [k2])
  obtain ⟨g5, g6⟩ := aE_f (a := (a0, a1)) (b := (b0, b1)) (by simp [k2])
  clear k1 k2
  replace g1 := hide g1
  replace g2 := hide g2
  replace g3 := hide g3
  replace g4 := hide g4
  replace g5 := hide g5
  replace g6 := hide g6
  go_enter Tryd.func3, Tryd.ntmps3
  go_wp2_with fail
  refine (fault_any (a0, a1) _).mono ?_
  rintro e w2 ⟨rfl, hb⟩
  rw [g1.out]
  have hB : Below w.heap.size w w2 := (((Below.refl _ _).alloc (Nat.le_refl _) _).alloc (by simp) _).trans (hb.mono (by simp; omega))
  have hX := (Bx2.start w a0 a1 b0 b1 HG.out).below hb
  clear hb
  obtain ⟨⟨hv, hz⟩, ca0, ca1, cb0, cb1, hh⟩ := id hX
  go_wp2_with fail
  refine (fault_any (b0, b1) _).mono ?_
  rintro e w2 ⟨rfl, hb⟩
  rw [g2.out]
  replace hB := belowT hB (Nat.le_refl _) hb
  replace hX := hX.below hb
  clear hb hv hz ca0 ca1 cb0 cb1 hh
  obtain ⟨⟨hv, hz⟩, ca0, ca1, cb0, cb1, hh⟩ := id hX
  go_wp2_with fail
  refine (less_any (a0, a1) (b0, b1) _).mono ?_
  rintro e w2 ⟨rfl, hb⟩
  rw [g3.out, g4.out]
  replace hB := belowT hB (Nat.le_refl _) hb
  replace hX := hX.below hb
  clear hb hv hz ca0 ca1 cb0 cb1 hh
  obtain ⟨⟨hv, hz⟩, ca0, ca1, cb0, cb1, hh⟩ := id hX
  go_wp2_with fail
  refine (serr_any 1 1 _ hh).mono ?_
  rintro e w2 ⟨rfl, hb⟩
  replace hB := belowT hB (Nat.le_refl _) hb
  replace hX := hX.below hb
  clear hb hv hz ca0 ca1 cb0 cb1 hh
  obtain ⟨⟨hv, hz⟩, ca0, ca1, cb0, cb1, hh⟩ := id hX
  have hC := Bc.new w2 (0) (0)
  replace hX := hX.alloc (.cells #[.int .i64 (0), .int .i64 (0)] 23)
  obtain ⟨q, hq⟩ : ∃ z, z = w2.heap.size := ⟨_, rfl⟩
  rw [← hq] at hC
  have hqn : w.heap.size + 1 < q := by rw [hq]; exact hz
  replace hq := hide hq
  clear hv hz ca0 ca1 cb0 cb1 hh
  obtain ⟨⟨hv, hz⟩, ca0, ca1, cb0, cb1, hh⟩ := id hX
  go_wp2_with fail
  refine (add_any (a0, a1) (b0, b1) _).mono ?_
  rintro e w2 ⟨rfl, hb⟩
  rw [g5.out, g6.out]
  rw [← hq.out]
  replace hB := belowA hB (Nat.le_refl _) hb
  replace hX := hX.below hb
  replace hC := hC.below hb
  clear hb hv hz ca0 ca1 cb0 cb1 hh
  obtain ⟨⟨hv, hz⟩, ca0, ca1, cb0, cb1, hh⟩ := id hX
  have hqr : q < w2.heap.size := hC.1
  replace hC := hC.alloc (.cells #[.int .i64 (0), .int .i64 (0)] 23)
  have hY := Bc.new w2 (0) (0)
  replace hX := hX.alloc (.cells #[.int .i64 (0), .int .i64 (0)] 23)
  obtain ⟨r, hr⟩ : ∃ z, z = w2.heap.size := ⟨_, rfl⟩
  rw [← hr] at hY
  have hrn : w.heap.size + 1 < r := by rw [hr]; exact hz
  replace hr := hide hr
  clear hv hz ca0 ca1 cb0 cb1 hh
  obtain ⟨⟨hv, hz⟩, ca0, ca1, cb0, cb1, hh⟩ := id hX
  have hqr' : q < r := by rw [hr.out]; exact hqr
  clear hqr
  go_wp2_with fail
  refine (serr_any 1 1 _ hh).mono ?_
  rintro e w2 ⟨rfl, hb⟩
  rw [← hr.out]
  replace hB := belowA hB (Nat.le_refl _) hb
  replace hX := hX.below hb
  replace hC := hC.below hb
  replace hY := hY.below hb
  clear hb hv hz ca0 ca1 cb0 cb1 hh
  obtain ⟨⟨hv, hz⟩, ca0, ca1, cb0, cb1, hh⟩ := id hX
  obtain ⟨hc0, hc1, hc2, hc3, hc4⟩ := id hC
  obtain ⟨hy0, hy1, hy2, hy3, hy4⟩ := id hY
  go_upto_region 19 with fail
  by_cases hs : 60000 < s.size
  · have e0 : ofE s wd = 3 := by simp [ofE, hs]
    have t1 := hide e0
    have t2 : Hid (ofO s wd = 0) := hide (by simp [ofO, e0])
    have t3 : Hid (ofL s wd = 0) := hide (by simp [ofL, e0])
    have hs' : (60000 : Int) < (s.size : Int) := by omega
    clear e0 hs
    go_wp2_with fail
    replace hX := hX.of hqn (putBelow (x := .int .i64 (0)) (y := .int .i64 (0)) (Nat.le_refl q))
    replace hC := hC.put (0) (0)
    replace hY := hY.other (r := q) (by omega) (.int .i64 (0)) (.int .i64 (0))
    replace hB := hB.trans (putBelow (n := w.heap.size) (x := .int .i64 (0)) (y := .int .i64 (0)) (show w.heap.size ≤ q by omega))
    refine (of_any s wd _).mono ?_
    rintro e w2 ⟨rfl, hb⟩
    rw [t1.out, t2.out, t3.out]
    replace hB := belowT hB (Nat.le_refl _) hb
    replace hX := hX.below hb
    replace hC := hC.below hb
    replace hY := hY.below hb
    clear hb
    clear hv hz ca0 ca1 cb0 cb1 hh hc0 hc1 hc2 hc3 hc4 hy0 hy1 hy2 hy3 hy4
    obtain ⟨⟨hv, hz⟩, ca0, ca1, cb0, cb1, hh⟩ := id hX
    obtain ⟨hc0, hc1, hc2, hc3, hc4⟩ := id hC
    obtain ⟨hy0, hy1, hy2, hy3, hy4⟩ := id hY
    go_wp2_with fail
    replace hX := hX.of hrn (putBelow (x := .int .i64 (0)) (y := .int .i64 (0)) (Nat.le_refl r))
    replace hY := hY.put (0) (0)
    replace hC := hC.other (r := r) (by omega) (.int .i64 (0)) (.int .i64 (0))
    replace hB := hB.trans (putBelow (n := w.heap.size) (x := .int .i64 (0)) (y := .int .i64 (0)) (show w.heap.size ≤ r by omega))
    refine (serr_any 3 3 _ hX.2.2.2.2.2).mono ?_
    rintro e w2 ⟨rfl, hb⟩
    replace hB := belowT hB (Nat.le_refl _) hb
    replace hX := hX.below hb
    replace hC := hC.below hb
    replace hY := hY.below hb
    clear hb
    clear hv hz ca0 ca1 cb0 cb1 hh hc0 hc1 hc2 hc3 hc4 hy0 hy1 hy2 hy3 hy4
    obtain ⟨⟨hv, hz⟩, ca0, ca1, cb0, cb1, hh⟩ := id hX
    obtain ⟨hc0, hc1, hc2, hc3, hc4⟩ := id hC
    obtain ⟨hy0, hy1, hy2, hy3, hy4⟩ := id hY
    go_wp2
    go_ret
    exact ⟨rfl, hB⟩
  · have hs' : ¬ (60000 : Int) < (s.size : Int) := by omega
    have hs2 : s.size ≤ 60000 := by omega
    by_cases hw1 : wd < 0
    · have e0 : ofE s wd = 1 := by simp [ofE, hs, hw1]
      have t1 := hide e0
      have t2 : Hid (ofO s wd = 0) := hide (by simp [ofO, e0])
      have t3 : Hid (ofL s wd = 0) := hide (by simp [ofL, e0])
      clear e0 hs
      go_wp2_with fail
      replace hX := hX.of hqn (putBelow (x := .int .i64 (0)) (y := .int .i64 (0)) (Nat.le_refl q))
      replace hC := hC.put (0) (0)
      replace hY := hY.other (r := q) (by omega) (.int .i64 (0)) (.int .i64 (0))
      replace hB := hB.trans (putBelow (n := w.heap.size) (x := .int .i64 (0)) (y := .int .i64 (0)) (show w.heap.size ≤ q by omega))
      refine (of_any s wd _).mono ?_
      rintro e w2 ⟨rfl, hb⟩
      rw [t1.out, t2.out, t3.out]
      replace hB := belowT hB (Nat.le_refl _) hb
      replace hX := hX.below hb
      replace hC := hC.below hb
      replace hY := hY.below hb
      clear hb
      clear hv hz ca0 ca1 cb0 cb1 hh hc0 hc1 hc2 hc3 hc4 hy0 hy1 hy2 hy3 hy4
      obtain ⟨⟨hv, hz⟩, ca0, ca1, cb0, cb1, hh⟩ := id hX
      obtain ⟨hc0, hc1, hc2, hc3, hc4⟩ := id hC
      obtain ⟨hy0, hy1, hy2, hy3, hy4⟩ := id hY
      go_wp2_with fail
      replace hX := hX.of hrn (putBelow (x := .int .i64 (0)) (y := .int .i64 (0)) (Nat.le_refl r))
      replace hY := hY.put (0) (0)
      replace hC := hC.other (r := r) (by omega) (.int .i64 (0)) (.int .i64 (0))
      replace hB := hB.trans (putBelow (n := w.heap.size) (x := .int .i64 (0)) (y := .int .i64 (0)) (show w.heap.size ≤ r by omega))
      refine (serr_any 1 1 _ hX.2.2.2.2.2).mono ?_
      rintro e w2 ⟨rfl, hb⟩
      replace hB := belowT hB (Nat.le_refl _) hb
      replace hX := hX.below hb
      replace hC := hC.below hb
      replace hY := hY.below hb
      clear hb
      clear hv hz ca0 ca1 cb0 cb1 hh hc0 hc1 hc2 hc3 hc4 hy0 hy1 hy2 hy3 hy4
      obtain ⟨⟨hv, hz⟩, ca0, ca1, cb0, cb1, hh⟩ := id hX
      obtain ⟨hc0, hc1, hc2, hc3, hc4⟩ := id hC
      obtain ⟨hy0, hy1, hy2, hy3, hy4⟩ := id hY
      go_wp2
      go_ret
      exact ⟨rfl, hB⟩
    · by_cases hw2 : 100 < wd
      · have e0 : ofE s wd = 1 := by simp [ofE, hs, hw2]
        have t1 := hide e0
        have t2 : Hid (ofO s wd = 0) := hide (by simp [ofO, e0])
        have t3 : Hid (ofL s wd = 0) := hide (by simp [ofL, e0])
        clear e0 hs
        go_wp2_with fail
        replace hX := hX.of hqn (putBelow (x := .int .i64 (0)) (y := .int .i64 (0)) (Nat.le_refl q))
        replace hC := hC.put (0) (0)
        replace hY := hY.other (r := q) (by omega) (.int .i64 (0)) (.int .i64 (0))
        replace hB := hB.trans (putBelow (n := w.heap.size) (x := .int .i64 (0)) (y := .int .i64 (0)) (show w.heap.size ≤ q by omega))
        refine (of_any s wd _).mono ?_
        rintro e w2 ⟨rfl, hb⟩
        rw [t1.out, t2.out, t3.out]
        replace hB := belowT hB (Nat.le_refl _) hb
        replace hX := hX.below hb
        replace hC := hC.below hb
        replace hY := hY.below hb
        clear hb
        clear hv hz ca0 ca1 cb0 cb1 hh hc0 hc1 hc2 hc3 hc4 hy0 hy1 hy2 hy3 hy4
        obtain ⟨⟨hv, hz⟩, ca0, ca1, cb0, cb1, hh⟩ := id hX
        obtain ⟨hc0, hc1, hc2, hc3, hc4⟩ := id hC
        obtain ⟨hy0, hy1, hy2, hy3, hy4⟩ := id hY
        go_wp2_with fail
        replace hX := hX.of hrn (putBelow (x := .int .i64 (0)) (y := .int .i64 (0)) (Nat.le_refl r))
        replace hY := hY.put (0) (0)
        replace hC := hC.other (r := r) (by omega) (.int .i64 (0)) (.int .i64 (0))
        replace hB := hB.trans (putBelow (n := w.heap.size) (x := .int .i64 (0)) (y := .int .i64 (0)) (show w.heap.size ≤ r by omega))
        refine (serr_any 1 1 _ hX.2.2.2.2.2).mono ?_
        rintro e w2 ⟨rfl, hb⟩
        replace hB := belowT hB (Nat.le_refl _) hb
        replace hX := hX.below hb
        replace hC := hC.below hb
        replace hY := hY.below hb
        clear hb
        clear hv hz ca0 ca1 cb0 cb1 hh hc0 hc1 hc2 hc3 hc4 hy0 hy1 hy2 hy3 hy4
        obtain ⟨⟨hv, hz⟩, ca0, ca1, cb0, cb1, hh⟩ := id hX
        obtain ⟨hc0, hc1, hc2, hc3, hc4⟩ := id hC
        obtain ⟨hy0, hy1, hy2, hy3, hy4⟩ := id hY
        go_wp2
        go_ret
        exact ⟨rfl, hB⟩
      · have e0 : ofE s wd = 0 := by simp [ofE, hs, hw1, hw2]
        have t1 := hide e0
        have t2 : Hid (ofO s wd = costOver s wd) := hide (by simp [ofO, e0])
        have t3 : Hid (ofL s wd = costLines s) := hide (by simp [ofL, e0])
        clear e0 hs
        have hw0 : 0 ≤ wd := by omega
        have hs := hs2
        go_wp2_with fail
        replace hX := hX.of hqn (putBelow (x := .int .i64 (0)) (y := .int .i64 (0)) (Nat.le_refl q))
        replace hC := hC.put (0) (0)
        replace hY := hY.other (r := q) (by omega) (.int .i64 (0)) (.int .i64 (0))
        replace hB := hB.trans (putBelow (n := w.heap.size) (x := .int .i64 (0)) (y := .int .i64 (0)) (show w.heap.size ≤ q by omega))
        refine (costOf_any s wd _ hs hw0).mono ?_
        rintro e w2 ⟨rfl, hb⟩
        replace hB := belowT hB (Nat.le_refl _) hb
        replace hX := hX.below hb
        replace hC := hC.below hb
        replace hY := hY.below hb
        clear hb
        clear hv hz ca0 ca1 cb0 cb1 hh hc0 hc1 hc2 hc3 hc4 hy0 hy1 hy2 hy3 hy4
        obtain ⟨⟨hv, hz⟩, ca0, ca1, cb0, cb1, hh⟩ := id hX
        obtain ⟨hc0, hc1, hc2, hc3, hc4⟩ := id hC
        obtain ⟨hy0, hy1, hy2, hy3, hy4⟩ := id hY
        go_wp2_with fail
        replace hX := hX.of hqn (putBelow (x := .int .i64 (costOver s wd)) (y := .int .i64 (costLines s)) (Nat.le_refl q))
        replace hC := hC.put (costOver s wd) (costLines s)
        replace hY := hY.other (r := q) (by omega) (.int .i64 (costOver s wd)) (.int .i64 (costLines s))
        replace hB := hB.trans (putBelow (n := w.heap.size) (x := .int .i64 (costOver s wd)) (y := .int .i64 (costLines s)) (show w.heap.size ≤ q by omega))
        refine (of_any s wd _).mono ?_
        rintro e w2 ⟨rfl, hb⟩
        rw [t1.out, t2.out, t3.out]
        replace hB := belowT hB (Nat.le_refl _) hb
        replace hX := hX.below hb
        replace hC := hC.below hb
        replace hY := hY.below hb
        clear hb
        clear hv hz ca0 ca1 cb0 cb1 hh hc0 hc1 hc2 hc3 hc4 hy0 hy1 hy2 hy3 hy4
        obtain ⟨⟨hv, hz⟩, ca0, ca1, cb0, cb1, hh⟩ := id hX
        obtain ⟨hc0, hc1, hc2, hc3, hc4⟩ := id hC
        obtain ⟨hy0, hy1, hy2, hy3, hy4⟩ := id hY
        go_wp2_with fail
        replace hX := hX.of hrn (putBelow (x := .int .i64 (costOver s wd)) (y := .int .i64 (costLines s)) (Nat.le_refl r))
        replace hY := hY.put (costOver s wd) (costLines s)
        replace hC := hC.other (r := r) (by omega) (.int .i64 (costOver s wd)) (.int .i64 (costLines s))
        replace hB := hB.trans (putBelow (n := w.heap.size) (x := .int .i64 (costOver s wd)) (y := .int .i64 (costLines s)) (show w.heap.size ≤ r by omega))
        refine (serr_any 0 0 _ hX.2.2.2.2.2).mono ?_
        rintro e w2 ⟨rfl, hb⟩
        replace hB := belowT hB (Nat.le_refl _) hb
        replace hX := hX.below hb
        replace hC := hC.below hb
        replace hY := hY.below hb
        clear hb
        clear hv hz ca0 ca1 cb0 cb1 hh hc0 hc1 hc2 hc3 hc4 hy0 hy1 hy2 hy3 hy4
        obtain ⟨⟨hv, hz⟩, ca0, ca1, cb0, cb1, hh⟩ := id hX
        obtain ⟨hc0, hc1, hc2, hc3, hc4⟩ := id hC
        obtain ⟨hy0, hy1, hy2, hy3, hy4⟩ := id hY
        go_wp2
        go_ret
        exact ⟨rfl, hB⟩

set_option maxRecDepth 100000 in
set_option maxHeartbeats 4000000 in
theorem law_3 (a0 a1 b0 b1 : Int) (s : ByteArray) (wd : Int) (w : World) (hg : Hnd w) (k1 : okC (a0, a1) = true) (k2 : okC (b0, b1) = true) (k3 : okC (sumC (a0, a1) (b0, b1)) = false) :
    Calls Tryd.prog 3 #[.agg #[.int .i64 a0, .int .i64 a1], .agg #[.int .i64 b0, .int .i64 b1], .string s, .int .i64 wd] w fun e w' => e = .returned (.bool true) ∧ Below w.heap.size w w' := by
  have HG : Hid (Hnd w) := hg
  clear hg
  have g1 := fN_t k1
  have g2 := fN_t k2
  have g7 := fN_f k3
  obtain ⟨g3, g4⟩ := lE_t k1 k2
  obtain ⟨g5, g6⟩ := aE_f (a := (a0, a1)) (b := (b0, b1)) (by simp [k3])
  obtain ⟨⟨p1, p2⟩, ⟨p3, p4⟩⟩ := okC_bd k1
  obtain ⟨⟨q1, q2⟩, ⟨q3, q4⟩⟩ := okC_bd k2
  simp only at p1 p2 p3 p4 q1 q2 q3 q4
  clear k1 k2 k3
  replace g1 := hide g1
  replace g2 := hide g2
  replace g3 := hide g3
  replace g4 := hide g4
  replace g5 := hide g5
  replace g6 := hide g6
  replace g7 := hide g7
  go_enter Tryd.func3, Tryd.ntmps3
  go_wp2_with fail
  refine (fault_any (a0, a1) _).mono ?_
  rintro e w2 ⟨rfl, hb⟩
  rw [g1.out]
  have hB : Below w.heap.size w w2 := (((Below.refl _ _).alloc (Nat.le_refl _) _).alloc (by simp) _).trans (hb.mono (by simp; omega))
  have hX := (Bx2.start w a0 a1 b0 b1 HG.out).below hb
  clear hb
  obtain ⟨⟨hv, hz⟩, ca0, ca1, cb0, cb1, hh⟩ := id hX
  go_wp2_with fail
  refine (fault_any (b0, b1) _).mono ?_
  rintro e w2 ⟨rfl, hb⟩
  rw [g2.out]
  replace hB := belowT hB (Nat.le_refl _) hb
  replace hX := hX.below hb
  clear hb hv hz ca0 ca1 cb0 cb1 hh
  obtain ⟨⟨hv, hz⟩, ca0, ca1, cb0, cb1, hh⟩ := id hX
  go_wp2_with fail
  refine (rless_any (a0, a1) (b0, b1) _).mono ?_
  rintro e w2 ⟨rfl, hb⟩
  replace hB := belowT hB (Nat.le_refl _) hb
  replace hX := hX.below hb
  clear hb hv hz ca0 ca1 cb0 cb1 hh
  obtain ⟨⟨hv, hz⟩, ca0, ca1, cb0, cb1, hh⟩ := id hX
  go_wp2_with fail
  refine (less_any (a0, a1) (b0, b1) _).mono ?_
  rintro e w2 ⟨rfl, hb⟩
  rw [g3.out, g4.out]
  replace hB := belowT hB (Nat.le_refl _) hb
  replace hX := hX.below hb
  clear hb hv hz ca0 ca1 cb0 cb1 hh
  obtain ⟨⟨hv, hz⟩, ca0, ca1, cb0, cb1, hh⟩ := id hX
  go_wp2_with fail
  refine (serr_any 0 0 _ hh).mono ?_
  rintro e w2 ⟨rfl, hb⟩
  replace hB := belowT hB (Nat.le_refl _) hb
  replace hX := hX.below hb
  clear hb hv hz ca0 ca1 cb0 cb1 hh
  obtain ⟨⟨hv, hz⟩, ca0, ca1, cb0, cb1, hh⟩ := id hX
  have hC := Bc.new w2 (a0 + b0) (a1 + b1)
  have hX0 := hX.alloc (.cells #[.int .i64 0, .int .i64 0] 23)
  replace hX := hX.alloc (.cells #[.int .i64 (a0 + b0), .int .i64 (a1 + b1)] 23)
  obtain ⟨q, hq⟩ : ∃ z, z = w2.heap.size := ⟨_, rfl⟩
  rw [← hq] at hC
  have hqn : w.heap.size + 1 < q := by rw [hq]; exact hz
  replace hq := hide hq
  clear hv hz ca0 ca1 cb0 cb1 hh
  obtain ⟨⟨hv, hz⟩, ca0, ca1, cb0, cb1, hh⟩ := hX0
  go_wp2_with fail
  refine (fault_any (sumC (a0, a1) (b0, b1)) _).mono ?_
  rintro e w2 ⟨rfl, hb⟩
  rw [g7.out]
  rw [← hq.out]
  replace hB := belowA hB (Nat.le_refl _) hb
  replace hX := hX.below hb
  replace hC := hC.below hb
  clear hb hv hz ca0 ca1 cb0 cb1 hh
  obtain ⟨⟨hv, hz⟩, ca0, ca1, cb0, cb1, hh⟩ := id hX
  obtain ⟨hc0, hc1, hc2, hc3, hc4⟩ := id hC
  have hX1 := hX.of hqn (putBelow (x := .int .i64 0) (y := .int .i64 0) (Nat.le_refl q))
  have hC1 := hC.put 0 0
  have hB1 := hB.trans (putBelow (n := w.heap.size) (W := w2) (x := .int .i64 0) (y := .int .i64 0) (show w.heap.size ≤ q by omega))
  clear hv hz ca0 ca1 cb0 cb1 hh
  obtain ⟨⟨hv, hz⟩, ca0, ca1, cb0, cb1, hh⟩ := id hX1
  go_wp2_with fail
  refine (add_any (a0, a1) (b0, b1) _).mono ?_
  rintro e w2 ⟨rfl, hb⟩
  rw [g5.out, g6.out]
  replace hB := belowT hB1 (Nat.le_refl _) hb
  replace hX := hX1.below hb
  replace hC := hC1.below hb
  clear hb hv hz ca0 ca1 cb0 cb1 hh hX1 hC1 hB1 hc0 hc1 hc2 hc3 hc4
  obtain ⟨⟨hv, hz⟩, ca0, ca1, cb0, cb1, hh⟩ := id hX
  have hqr : q < w2.heap.size := hC.1
  replace hC := hC.alloc (.cells #[.int .i64 (0), .int .i64 (0)] 23)
  have hY := Bc.new w2 (0) (0)
  replace hX := hX.alloc (.cells #[.int .i64 (0), .int .i64 (0)] 23)
  obtain ⟨r, hr⟩ : ∃ z, z = w2.heap.size := ⟨_, rfl⟩
  rw [← hr] at hY
  have hrn : w.heap.size + 1 < r := by rw [hr]; exact hz
  replace hr := hide hr
  clear hv hz ca0 ca1 cb0 cb1 hh
  obtain ⟨⟨hv, hz⟩, ca0, ca1, cb0, cb1, hh⟩ := id hX
  have hqr' : q < r := by rw [hr.out]; exact hqr
  clear hqr
  go_wp2_with fail
  refine (serr_any 1 1 _ hh).mono ?_
  rintro e w2 ⟨rfl, hb⟩
  rw [← hr.out]
  replace hB := belowA hB (Nat.le_refl _) hb
  replace hX := hX.below hb
  replace hC := hC.below hb
  replace hY := hY.below hb
  clear hb hv hz ca0 ca1 cb0 cb1 hh
  obtain ⟨⟨hv, hz⟩, ca0, ca1, cb0, cb1, hh⟩ := id hX
  obtain ⟨hc0, hc1, hc2, hc3, hc4⟩ := id hC
  obtain ⟨hy0, hy1, hy2, hy3, hy4⟩ := id hY
  go_upto_region 19 with fail
  by_cases hs : 60000 < s.size
  · have e0 : ofE s wd = 3 := by simp [ofE, hs]
    have t1 := hide e0
    have t2 : Hid (ofO s wd = 0) := hide (by simp [ofO, e0])
    have t3 : Hid (ofL s wd = 0) := hide (by simp [ofL, e0])
    have hs' : (60000 : Int) < (s.size : Int) := by omega
    clear e0 hs
    go_wp2_with fail
    replace hX := hX.of hqn (putBelow (x := .int .i64 (0)) (y := .int .i64 (0)) (Nat.le_refl q))
    replace hC := hC.put (0) (0)
    replace hY := hY.other (r := q) (by omega) (.int .i64 (0)) (.int .i64 (0))
    replace hB := hB.trans (putBelow (n := w.heap.size) (x := .int .i64 (0)) (y := .int .i64 (0)) (show w.heap.size ≤ q by omega))
    refine (of_any s wd _).mono ?_
    rintro e w2 ⟨rfl, hb⟩
    rw [t1.out, t2.out, t3.out]
    replace hB := belowT hB (Nat.le_refl _) hb
    replace hX := hX.below hb
    replace hC := hC.below hb
    replace hY := hY.below hb
    clear hb
    clear hv hz ca0 ca1 cb0 cb1 hh hc0 hc1 hc2 hc3 hc4 hy0 hy1 hy2 hy3 hy4
    obtain ⟨⟨hv, hz⟩, ca0, ca1, cb0, cb1, hh⟩ := id hX
    obtain ⟨hc0, hc1, hc2, hc3, hc4⟩ := id hC
    obtain ⟨hy0, hy1, hy2, hy3, hy4⟩ := id hY
    go_wp2_with fail
    replace hX := hX.of hrn (putBelow (x := .int .i64 (0)) (y := .int .i64 (0)) (Nat.le_refl r))
    replace hY := hY.put (0) (0)
    replace hC := hC.other (r := r) (by omega) (.int .i64 (0)) (.int .i64 (0))
    replace hB := hB.trans (putBelow (n := w.heap.size) (x := .int .i64 (0)) (y := .int .i64 (0)) (show w.heap.size ≤ r by omega))
    refine (serr_any 3 3 _ hX.2.2.2.2.2).mono ?_
    rintro e w2 ⟨rfl, hb⟩
    replace hB := belowT hB (Nat.le_refl _) hb
    replace hX := hX.below hb
    replace hC := hC.below hb
    replace hY := hY.below hb
    clear hb
    clear hv hz ca0 ca1 cb0 cb1 hh hc0 hc1 hc2 hc3 hc4 hy0 hy1 hy2 hy3 hy4
    obtain ⟨⟨hv, hz⟩, ca0, ca1, cb0, cb1, hh⟩ := id hX
    obtain ⟨hc0, hc1, hc2, hc3, hc4⟩ := id hC
    obtain ⟨hy0, hy1, hy2, hy3, hy4⟩ := id hY
    go_wp2
    go_ret
    exact ⟨rfl, hB⟩
  · have hs' : ¬ (60000 : Int) < (s.size : Int) := by omega
    have hs2 : s.size ≤ 60000 := by omega
    by_cases hw1 : wd < 0
    · have e0 : ofE s wd = 1 := by simp [ofE, hs, hw1]
      have t1 := hide e0
      have t2 : Hid (ofO s wd = 0) := hide (by simp [ofO, e0])
      have t3 : Hid (ofL s wd = 0) := hide (by simp [ofL, e0])
      clear e0 hs
      go_wp2_with fail
      replace hX := hX.of hqn (putBelow (x := .int .i64 (0)) (y := .int .i64 (0)) (Nat.le_refl q))
      replace hC := hC.put (0) (0)
      replace hY := hY.other (r := q) (by omega) (.int .i64 (0)) (.int .i64 (0))
      replace hB := hB.trans (putBelow (n := w.heap.size) (x := .int .i64 (0)) (y := .int .i64 (0)) (show w.heap.size ≤ q by omega))
      refine (of_any s wd _).mono ?_
      rintro e w2 ⟨rfl, hb⟩
      rw [t1.out, t2.out, t3.out]
      replace hB := belowT hB (Nat.le_refl _) hb
      replace hX := hX.below hb
      replace hC := hC.below hb
      replace hY := hY.below hb
      clear hb
      clear hv hz ca0 ca1 cb0 cb1 hh hc0 hc1 hc2 hc3 hc4 hy0 hy1 hy2 hy3 hy4
      obtain ⟨⟨hv, hz⟩, ca0, ca1, cb0, cb1, hh⟩ := id hX
      obtain ⟨hc0, hc1, hc2, hc3, hc4⟩ := id hC
      obtain ⟨hy0, hy1, hy2, hy3, hy4⟩ := id hY
      go_wp2_with fail
      replace hX := hX.of hrn (putBelow (x := .int .i64 (0)) (y := .int .i64 (0)) (Nat.le_refl r))
      replace hY := hY.put (0) (0)
      replace hC := hC.other (r := r) (by omega) (.int .i64 (0)) (.int .i64 (0))
      replace hB := hB.trans (putBelow (n := w.heap.size) (x := .int .i64 (0)) (y := .int .i64 (0)) (show w.heap.size ≤ r by omega))
      refine (serr_any 1 1 _ hX.2.2.2.2.2).mono ?_
      rintro e w2 ⟨rfl, hb⟩
      replace hB := belowT hB (Nat.le_refl _) hb
      replace hX := hX.below hb
      replace hC := hC.below hb
      replace hY := hY.below hb
      clear hb
      clear hv hz ca0 ca1 cb0 cb1 hh hc0 hc1 hc2 hc3 hc4 hy0 hy1 hy2 hy3 hy4
      obtain ⟨⟨hv, hz⟩, ca0, ca1, cb0, cb1, hh⟩ := id hX
      obtain ⟨hc0, hc1, hc2, hc3, hc4⟩ := id hC
      obtain ⟨hy0, hy1, hy2, hy3, hy4⟩ := id hY
      go_wp2
      go_ret
      exact ⟨rfl, hB⟩
    · by_cases hw2 : 100 < wd
      · have e0 : ofE s wd = 1 := by simp [ofE, hs, hw2]
        have t1 := hide e0
        have t2 : Hid (ofO s wd = 0) := hide (by simp [ofO, e0])
        have t3 : Hid (ofL s wd = 0) := hide (by simp [ofL, e0])
        clear e0 hs
        go_wp2_with fail
        replace hX := hX.of hqn (putBelow (x := .int .i64 (0)) (y := .int .i64 (0)) (Nat.le_refl q))
        replace hC := hC.put (0) (0)
        replace hY := hY.other (r := q) (by omega) (.int .i64 (0)) (.int .i64 (0))
        replace hB := hB.trans (putBelow (n := w.heap.size) (x := .int .i64 (0)) (y := .int .i64 (0)) (show w.heap.size ≤ q by omega))
        refine (of_any s wd _).mono ?_
        rintro e w2 ⟨rfl, hb⟩
        rw [t1.out, t2.out, t3.out]
        replace hB := belowT hB (Nat.le_refl _) hb
        replace hX := hX.below hb
        replace hC := hC.below hb
        replace hY := hY.below hb
        clear hb
        clear hv hz ca0 ca1 cb0 cb1 hh hc0 hc1 hc2 hc3 hc4 hy0 hy1 hy2 hy3 hy4
        obtain ⟨⟨hv, hz⟩, ca0, ca1, cb0, cb1, hh⟩ := id hX
        obtain ⟨hc0, hc1, hc2, hc3, hc4⟩ := id hC
        obtain ⟨hy0, hy1, hy2, hy3, hy4⟩ := id hY
        go_wp2_with fail
        replace hX := hX.of hrn (putBelow (x := .int .i64 (0)) (y := .int .i64 (0)) (Nat.le_refl r))
        replace hY := hY.put (0) (0)
        replace hC := hC.other (r := r) (by omega) (.int .i64 (0)) (.int .i64 (0))
        replace hB := hB.trans (putBelow (n := w.heap.size) (x := .int .i64 (0)) (y := .int .i64 (0)) (show w.heap.size ≤ r by omega))
        refine (serr_any 1 1 _ hX.2.2.2.2.2).mono ?_
        rintro e w2 ⟨rfl, hb⟩
        replace hB := belowT hB (Nat.le_refl _) hb
        replace hX := hX.below hb
        replace hC := hC.below hb
        replace hY := hY.below hb
        clear hb
        clear hv hz ca0 ca1 cb0 cb1 hh hc0 hc1 hc2 hc3 hc4 hy0 hy1 hy2 hy3 hy4
        obtain ⟨⟨hv, hz⟩, ca0, ca1, cb0, cb1, hh⟩ := id hX
        obtain ⟨hc0, hc1, hc2, hc3, hc4⟩ := id hC
        obtain ⟨hy0, hy1, hy2, hy3, hy4⟩ := id hY
        go_wp2
        go_ret
        exact ⟨rfl, hB⟩
      · have e0 : ofE s wd = 0 := by simp [ofE, hs, hw1, hw2]
        have t1 := hide e0
        have t2 : Hid (ofO s wd = costOver s wd) := hide (by simp [ofO, e0])
        have t3 : Hid (ofL s wd = costLines s) := hide (by simp [ofL, e0])
        clear e0 hs
        have hw0 : 0 ≤ wd := by omega
        have hs := hs2
        go_wp2_with fail
        replace hX := hX.of hqn (putBelow (x := .int .i64 (0)) (y := .int .i64 (0)) (Nat.le_refl q))
        replace hC := hC.put (0) (0)
        replace hY := hY.other (r := q) (by omega) (.int .i64 (0)) (.int .i64 (0))
        replace hB := hB.trans (putBelow (n := w.heap.size) (x := .int .i64 (0)) (y := .int .i64 (0)) (show w.heap.size ≤ q by omega))
        refine (costOf_any s wd _ hs hw0).mono ?_
        rintro e w2 ⟨rfl, hb⟩
        replace hB := belowT hB (Nat.le_refl _) hb
        replace hX := hX.below hb
        replace hC := hC.below hb
        replace hY := hY.below hb
        clear hb
        clear hv hz ca0 ca1 cb0 cb1 hh hc0 hc1 hc2 hc3 hc4 hy0 hy1 hy2 hy3 hy4
        obtain ⟨⟨hv, hz⟩, ca0, ca1, cb0, cb1, hh⟩ := id hX
        obtain ⟨hc0, hc1, hc2, hc3, hc4⟩ := id hC
        obtain ⟨hy0, hy1, hy2, hy3, hy4⟩ := id hY
        go_wp2_with fail
        replace hX := hX.of hqn (putBelow (x := .int .i64 (costOver s wd)) (y := .int .i64 (costLines s)) (Nat.le_refl q))
        replace hC := hC.put (costOver s wd) (costLines s)
        replace hY := hY.other (r := q) (by omega) (.int .i64 (costOver s wd)) (.int .i64 (costLines s))
        replace hB := hB.trans (putBelow (n := w.heap.size) (x := .int .i64 (costOver s wd)) (y := .int .i64 (costLines s)) (show w.heap.size ≤ q by omega))
        refine (of_any s wd _).mono ?_
        rintro e w2 ⟨rfl, hb⟩
        rw [t1.out, t2.out, t3.out]
        replace hB := belowT hB (Nat.le_refl _) hb
        replace hX := hX.below hb
        replace hC := hC.below hb
        replace hY := hY.below hb
        clear hb
        clear hv hz ca0 ca1 cb0 cb1 hh hc0 hc1 hc2 hc3 hc4 hy0 hy1 hy2 hy3 hy4
        obtain ⟨⟨hv, hz⟩, ca0, ca1, cb0, cb1, hh⟩ := id hX
        obtain ⟨hc0, hc1, hc2, hc3, hc4⟩ := id hC
        obtain ⟨hy0, hy1, hy2, hy3, hy4⟩ := id hY
        go_wp2_with fail
        replace hX := hX.of hrn (putBelow (x := .int .i64 (costOver s wd)) (y := .int .i64 (costLines s)) (Nat.le_refl r))
        replace hY := hY.put (costOver s wd) (costLines s)
        replace hC := hC.other (r := r) (by omega) (.int .i64 (costOver s wd)) (.int .i64 (costLines s))
        replace hB := hB.trans (putBelow (n := w.heap.size) (x := .int .i64 (costOver s wd)) (y := .int .i64 (costLines s)) (show w.heap.size ≤ r by omega))
        refine (serr_any 0 0 _ hX.2.2.2.2.2).mono ?_
        rintro e w2 ⟨rfl, hb⟩
        replace hB := belowT hB (Nat.le_refl _) hb
        replace hX := hX.below hb
        replace hC := hC.below hb
        replace hY := hY.below hb
        clear hb
        clear hv hz ca0 ca1 cb0 cb1 hh hc0 hc1 hc2 hc3 hc4 hy0 hy1 hy2 hy3 hy4
        obtain ⟨⟨hv, hz⟩, ca0, ca1, cb0, cb1, hh⟩ := id hX
        obtain ⟨hc0, hc1, hc2, hc3, hc4⟩ := id hC
        obtain ⟨hy0, hy1, hy2, hy3, hy4⟩ := id hY
        go_wp2
        go_ret
        exact ⟨rfl, hB⟩

set_option maxRecDepth 100000 in
set_option maxHeartbeats 4000000 in
theorem law_4 (a0 a1 b0 b1 : Int) (s : ByteArray) (wd : Int) (w : World) (hg : Hnd w) (k1 : okC (a0, a1) = true) (k2 : okC (b0, b1) = true) (k3 : okC (sumC (a0, a1) (b0, b1)) = true) :
    Calls Tryd.prog 3 #[.agg #[.int .i64 a0, .int .i64 a1], .agg #[.int .i64 b0, .int .i64 b1], .string s, .int .i64 wd] w fun e w' => e = .returned (.bool true) ∧ Below w.heap.size w w' := by
  have HG : Hid (Hnd w) := hg
  clear hg
  have g1 := fN_t k1
  have g2 := fN_t k2
  have g7 := fN_t k3
  obtain ⟨g3, g4⟩ := lE_t k1 k2
  obtain ⟨g5, g6⟩ := aE_t k1 k2 k3
  obtain ⟨⟨p1, p2⟩, ⟨p3, p4⟩⟩ := okC_bd k1
  obtain ⟨⟨q1, q2⟩, ⟨q3, q4⟩⟩ := okC_bd k2
  simp only at p1 p2 p3 p4 q1 q2 q3 q4
  clear k1 k2 k3
  replace g1 := hide g1
  replace g2 := hide g2
  replace g3 := hide g3
  replace g4 := hide g4
  replace g5 := hide g5
  replace g6 := hide g6
  replace g7 := hide g7
  go_enter Tryd.func3, Tryd.ntmps3
  go_wp2_with fail
  refine (fault_any (a0, a1) _).mono ?_
  rintro e w2 ⟨rfl, hb⟩
  rw [g1.out]
  have hB : Below w.heap.size w w2 := (((Below.refl _ _).alloc (Nat.le_refl _) _).alloc (by simp) _).trans (hb.mono (by simp; omega))
  have hX := (Bx2.start w a0 a1 b0 b1 HG.out).below hb
  clear hb
  obtain ⟨⟨hv, hz⟩, ca0, ca1, cb0, cb1, hh⟩ := id hX
  go_wp2_with fail
  refine (fault_any (b0, b1) _).mono ?_
  rintro e w2 ⟨rfl, hb⟩
  rw [g2.out]
  replace hB := belowT hB (Nat.le_refl _) hb
  replace hX := hX.below hb
  clear hb hv hz ca0 ca1 cb0 cb1 hh
  obtain ⟨⟨hv, hz⟩, ca0, ca1, cb0, cb1, hh⟩ := id hX
  go_wp2_with fail
  refine (rless_any (a0, a1) (b0, b1) _).mono ?_
  rintro e w2 ⟨rfl, hb⟩
  replace hB := belowT hB (Nat.le_refl _) hb
  replace hX := hX.below hb
  clear hb hv hz ca0 ca1 cb0 cb1 hh
  obtain ⟨⟨hv, hz⟩, ca0, ca1, cb0, cb1, hh⟩ := id hX
  go_wp2_with fail
  refine (less_any (a0, a1) (b0, b1) _).mono ?_
  rintro e w2 ⟨rfl, hb⟩
  rw [g3.out, g4.out]
  replace hB := belowT hB (Nat.le_refl _) hb
  replace hX := hX.below hb
  clear hb hv hz ca0 ca1 cb0 cb1 hh
  obtain ⟨⟨hv, hz⟩, ca0, ca1, cb0, cb1, hh⟩ := id hX
  go_wp2_with fail
  refine (serr_any 0 0 _ hh).mono ?_
  rintro e w2 ⟨rfl, hb⟩
  replace hB := belowT hB (Nat.le_refl _) hb
  replace hX := hX.below hb
  clear hb hv hz ca0 ca1 cb0 cb1 hh
  obtain ⟨⟨hv, hz⟩, ca0, ca1, cb0, cb1, hh⟩ := id hX
  have hC := Bc.new w2 (a0 + b0) (a1 + b1)
  have hX0 := hX.alloc (.cells #[.int .i64 0, .int .i64 0] 23)
  replace hX := hX.alloc (.cells #[.int .i64 (a0 + b0), .int .i64 (a1 + b1)] 23)
  obtain ⟨q, hq⟩ : ∃ z, z = w2.heap.size := ⟨_, rfl⟩
  rw [← hq] at hC
  have hqn : w.heap.size + 1 < q := by rw [hq]; exact hz
  replace hq := hide hq
  clear hv hz ca0 ca1 cb0 cb1 hh
  obtain ⟨⟨hv, hz⟩, ca0, ca1, cb0, cb1, hh⟩ := hX0
  go_wp2_with fail
  refine (fault_any (sumC (a0, a1) (b0, b1)) _).mono ?_
  rintro e w2 ⟨rfl, hb⟩
  rw [g7.out]
  rw [← hq.out]
  replace hB := belowA hB (Nat.le_refl _) hb
  replace hX := hX.below hb
  replace hC := hC.below hb
  clear hb hv hz ca0 ca1 cb0 cb1 hh
  obtain ⟨⟨hv, hz⟩, ca0, ca1, cb0, cb1, hh⟩ := id hX
  obtain ⟨hc0, hc1, hc2, hc3, hc4⟩ := id hC
  go_wp2_with fail
  refine (add_any (a0, a1) (b0, b1) _).mono ?_
  rintro e w2 ⟨rfl, hb⟩
  rw [g5.out, g6.out]
  replace hB := belowT hB (Nat.le_refl _) hb
  replace hX := hX.below hb
  replace hC := hC.below hb
  clear hb hc0 hc1 hc2 hc3 hc4 hv hz ca0 ca1 cb0 cb1 hh
  obtain ⟨⟨hv, hz⟩, ca0, ca1, cb0, cb1, hh⟩ := id hX
  have hqr : q < w2.heap.size := hC.1
  replace hC := hC.alloc (.cells #[.int .i64 (a0 + b0), .int .i64 (a1 + b1)] 23)
  have hY := Bc.new w2 (a0 + b0) (a1 + b1)
  replace hX := hX.alloc (.cells #[.int .i64 (a0 + b0), .int .i64 (a1 + b1)] 23)
  obtain ⟨r, hr⟩ : ∃ z, z = w2.heap.size := ⟨_, rfl⟩
  rw [← hr] at hY
  have hrn : w.heap.size + 1 < r := by rw [hr]; exact hz
  replace hr := hide hr
  clear hv hz ca0 ca1 cb0 cb1 hh
  obtain ⟨⟨hv, hz⟩, ca0, ca1, cb0, cb1, hh⟩ := id hX
  have hqr' : q < r := by rw [hr.out]; exact hqr
  clear hqr
  go_wp2_with fail
  refine (serr_any 0 0 _ hh).mono ?_
  rintro e w2 ⟨rfl, hb⟩
  rw [← hr.out]
  replace hB := belowA hB (Nat.le_refl _) hb
  replace hX := hX.below hb
  replace hC := hC.below hb
  replace hY := hY.below hb
  clear hb hv hz ca0 ca1 cb0 cb1 hh
  obtain ⟨⟨hv, hz⟩, ca0, ca1, cb0, cb1, hh⟩ := id hX
  obtain ⟨hc0, hc1, hc2, hc3, hc4⟩ := id hC
  obtain ⟨hy0, hy1, hy2, hy3, hy4⟩ := id hY
  go_upto_region 19 with fail
  by_cases hs : 60000 < s.size
  · have e0 : ofE s wd = 3 := by simp [ofE, hs]
    have t1 := hide e0
    have t2 : Hid (ofO s wd = 0) := hide (by simp [ofO, e0])
    have t3 : Hid (ofL s wd = 0) := hide (by simp [ofL, e0])
    have hs' : (60000 : Int) < (s.size : Int) := by omega
    clear e0 hs
    go_wp2_with fail
    replace hX := hX.of hqn (putBelow (x := .int .i64 (0)) (y := .int .i64 (0)) (Nat.le_refl q))
    replace hC := hC.put (0) (0)
    replace hY := hY.other (r := q) (by omega) (.int .i64 (0)) (.int .i64 (0))
    replace hB := hB.trans (putBelow (n := w.heap.size) (x := .int .i64 (0)) (y := .int .i64 (0)) (show w.heap.size ≤ q by omega))
    refine (of_any s wd _).mono ?_
    rintro e w2 ⟨rfl, hb⟩
    rw [t1.out, t2.out, t3.out]
    replace hB := belowT hB (Nat.le_refl _) hb
    replace hX := hX.below hb
    replace hC := hC.below hb
    replace hY := hY.below hb
    clear hb
    clear hv hz ca0 ca1 cb0 cb1 hh hc0 hc1 hc2 hc3 hc4 hy0 hy1 hy2 hy3 hy4
    obtain ⟨⟨hv, hz⟩, ca0, ca1, cb0, cb1, hh⟩ := id hX
    obtain ⟨hc0, hc1, hc2, hc3, hc4⟩ := id hC
    obtain ⟨hy0, hy1, hy2, hy3, hy4⟩ := id hY
    go_wp2_with fail
    replace hX := hX.of hrn (putBelow (x := .int .i64 (0)) (y := .int .i64 (0)) (Nat.le_refl r))
    replace hY := hY.put (0) (0)
    replace hC := hC.other (r := r) (by omega) (.int .i64 (0)) (.int .i64 (0))
    replace hB := hB.trans (putBelow (n := w.heap.size) (x := .int .i64 (0)) (y := .int .i64 (0)) (show w.heap.size ≤ r by omega))
    refine (serr_any 3 3 _ hX.2.2.2.2.2).mono ?_
    rintro e w2 ⟨rfl, hb⟩
    replace hB := belowT hB (Nat.le_refl _) hb
    replace hX := hX.below hb
    replace hC := hC.below hb
    replace hY := hY.below hb
    clear hb
    clear hv hz ca0 ca1 cb0 cb1 hh hc0 hc1 hc2 hc3 hc4 hy0 hy1 hy2 hy3 hy4
    obtain ⟨⟨hv, hz⟩, ca0, ca1, cb0, cb1, hh⟩ := id hX
    obtain ⟨hc0, hc1, hc2, hc3, hc4⟩ := id hC
    obtain ⟨hy0, hy1, hy2, hy3, hy4⟩ := id hY
    go_wp2
    go_ret
    exact ⟨rfl, hB⟩
  · have hs' : ¬ (60000 : Int) < (s.size : Int) := by omega
    have hs2 : s.size ≤ 60000 := by omega
    by_cases hw1 : wd < 0
    · have e0 : ofE s wd = 1 := by simp [ofE, hs, hw1]
      have t1 := hide e0
      have t2 : Hid (ofO s wd = 0) := hide (by simp [ofO, e0])
      have t3 : Hid (ofL s wd = 0) := hide (by simp [ofL, e0])
      clear e0 hs
      go_wp2_with fail
      replace hX := hX.of hqn (putBelow (x := .int .i64 (0)) (y := .int .i64 (0)) (Nat.le_refl q))
      replace hC := hC.put (0) (0)
      replace hY := hY.other (r := q) (by omega) (.int .i64 (0)) (.int .i64 (0))
      replace hB := hB.trans (putBelow (n := w.heap.size) (x := .int .i64 (0)) (y := .int .i64 (0)) (show w.heap.size ≤ q by omega))
      refine (of_any s wd _).mono ?_
      rintro e w2 ⟨rfl, hb⟩
      rw [t1.out, t2.out, t3.out]
      replace hB := belowT hB (Nat.le_refl _) hb
      replace hX := hX.below hb
      replace hC := hC.below hb
      replace hY := hY.below hb
      clear hb
      clear hv hz ca0 ca1 cb0 cb1 hh hc0 hc1 hc2 hc3 hc4 hy0 hy1 hy2 hy3 hy4
      obtain ⟨⟨hv, hz⟩, ca0, ca1, cb0, cb1, hh⟩ := id hX
      obtain ⟨hc0, hc1, hc2, hc3, hc4⟩ := id hC
      obtain ⟨hy0, hy1, hy2, hy3, hy4⟩ := id hY
      go_wp2_with fail
      replace hX := hX.of hrn (putBelow (x := .int .i64 (0)) (y := .int .i64 (0)) (Nat.le_refl r))
      replace hY := hY.put (0) (0)
      replace hC := hC.other (r := r) (by omega) (.int .i64 (0)) (.int .i64 (0))
      replace hB := hB.trans (putBelow (n := w.heap.size) (x := .int .i64 (0)) (y := .int .i64 (0)) (show w.heap.size ≤ r by omega))
      refine (serr_any 1 1 _ hX.2.2.2.2.2).mono ?_
      rintro e w2 ⟨rfl, hb⟩
      replace hB := belowT hB (Nat.le_refl _) hb
      replace hX := hX.below hb
      replace hC := hC.below hb
      replace hY := hY.below hb
      clear hb
      clear hv hz ca0 ca1 cb0 cb1 hh hc0 hc1 hc2 hc3 hc4 hy0 hy1 hy2 hy3 hy4
      obtain ⟨⟨hv, hz⟩, ca0, ca1, cb0, cb1, hh⟩ := id hX
      obtain ⟨hc0, hc1, hc2, hc3, hc4⟩ := id hC
      obtain ⟨hy0, hy1, hy2, hy3, hy4⟩ := id hY
      go_wp2
      go_ret
      exact ⟨rfl, hB⟩
    · by_cases hw2 : 100 < wd
      · have e0 : ofE s wd = 1 := by simp [ofE, hs, hw2]
        have t1 := hide e0
        have t2 : Hid (ofO s wd = 0) := hide (by simp [ofO, e0])
        have t3 : Hid (ofL s wd = 0) := hide (by simp [ofL, e0])
        clear e0 hs
        go_wp2_with fail
        replace hX := hX.of hqn (putBelow (x := .int .i64 (0)) (y := .int .i64 (0)) (Nat.le_refl q))
        replace hC := hC.put (0) (0)
        replace hY := hY.other (r := q) (by omega) (.int .i64 (0)) (.int .i64 (0))
        replace hB := hB.trans (putBelow (n := w.heap.size) (x := .int .i64 (0)) (y := .int .i64 (0)) (show w.heap.size ≤ q by omega))
        refine (of_any s wd _).mono ?_
        rintro e w2 ⟨rfl, hb⟩
        rw [t1.out, t2.out, t3.out]
        replace hB := belowT hB (Nat.le_refl _) hb
        replace hX := hX.below hb
        replace hC := hC.below hb
        replace hY := hY.below hb
        clear hb
        clear hv hz ca0 ca1 cb0 cb1 hh hc0 hc1 hc2 hc3 hc4 hy0 hy1 hy2 hy3 hy4
        obtain ⟨⟨hv, hz⟩, ca0, ca1, cb0, cb1, hh⟩ := id hX
        obtain ⟨hc0, hc1, hc2, hc3, hc4⟩ := id hC
        obtain ⟨hy0, hy1, hy2, hy3, hy4⟩ := id hY
        go_wp2_with fail
        replace hX := hX.of hrn (putBelow (x := .int .i64 (0)) (y := .int .i64 (0)) (Nat.le_refl r))
        replace hY := hY.put (0) (0)
        replace hC := hC.other (r := r) (by omega) (.int .i64 (0)) (.int .i64 (0))
        replace hB := hB.trans (putBelow (n := w.heap.size) (x := .int .i64 (0)) (y := .int .i64 (0)) (show w.heap.size ≤ r by omega))
        refine (serr_any 1 1 _ hX.2.2.2.2.2).mono ?_
        rintro e w2 ⟨rfl, hb⟩
        replace hB := belowT hB (Nat.le_refl _) hb
        replace hX := hX.below hb
        replace hC := hC.below hb
        replace hY := hY.below hb
        clear hb
        clear hv hz ca0 ca1 cb0 cb1 hh hc0 hc1 hc2 hc3 hc4 hy0 hy1 hy2 hy3 hy4
        obtain ⟨⟨hv, hz⟩, ca0, ca1, cb0, cb1, hh⟩ := id hX
        obtain ⟨hc0, hc1, hc2, hc3, hc4⟩ := id hC
        obtain ⟨hy0, hy1, hy2, hy3, hy4⟩ := id hY
        go_wp2
        go_ret
        exact ⟨rfl, hB⟩
      · have e0 : ofE s wd = 0 := by simp [ofE, hs, hw1, hw2]
        have t1 := hide e0
        have t2 : Hid (ofO s wd = costOver s wd) := hide (by simp [ofO, e0])
        have t3 : Hid (ofL s wd = costLines s) := hide (by simp [ofL, e0])
        clear e0 hs
        have hw0 : 0 ≤ wd := by omega
        have hs := hs2
        go_wp2_with fail
        replace hX := hX.of hqn (putBelow (x := .int .i64 (0)) (y := .int .i64 (0)) (Nat.le_refl q))
        replace hC := hC.put (0) (0)
        replace hY := hY.other (r := q) (by omega) (.int .i64 (0)) (.int .i64 (0))
        replace hB := hB.trans (putBelow (n := w.heap.size) (x := .int .i64 (0)) (y := .int .i64 (0)) (show w.heap.size ≤ q by omega))
        refine (costOf_any s wd _ hs hw0).mono ?_
        rintro e w2 ⟨rfl, hb⟩
        replace hB := belowT hB (Nat.le_refl _) hb
        replace hX := hX.below hb
        replace hC := hC.below hb
        replace hY := hY.below hb
        clear hb
        clear hv hz ca0 ca1 cb0 cb1 hh hc0 hc1 hc2 hc3 hc4 hy0 hy1 hy2 hy3 hy4
        obtain ⟨⟨hv, hz⟩, ca0, ca1, cb0, cb1, hh⟩ := id hX
        obtain ⟨hc0, hc1, hc2, hc3, hc4⟩ := id hC
        obtain ⟨hy0, hy1, hy2, hy3, hy4⟩ := id hY
        go_wp2_with fail
        replace hX := hX.of hqn (putBelow (x := .int .i64 (costOver s wd)) (y := .int .i64 (costLines s)) (Nat.le_refl q))
        replace hC := hC.put (costOver s wd) (costLines s)
        replace hY := hY.other (r := q) (by omega) (.int .i64 (costOver s wd)) (.int .i64 (costLines s))
        replace hB := hB.trans (putBelow (n := w.heap.size) (x := .int .i64 (costOver s wd)) (y := .int .i64 (costLines s)) (show w.heap.size ≤ q by omega))
        refine (of_any s wd _).mono ?_
        rintro e w2 ⟨rfl, hb⟩
        rw [t1.out, t2.out, t3.out]
        replace hB := belowT hB (Nat.le_refl _) hb
        replace hX := hX.below hb
        replace hC := hC.below hb
        replace hY := hY.below hb
        clear hb
        clear hv hz ca0 ca1 cb0 cb1 hh hc0 hc1 hc2 hc3 hc4 hy0 hy1 hy2 hy3 hy4
        obtain ⟨⟨hv, hz⟩, ca0, ca1, cb0, cb1, hh⟩ := id hX
        obtain ⟨hc0, hc1, hc2, hc3, hc4⟩ := id hC
        obtain ⟨hy0, hy1, hy2, hy3, hy4⟩ := id hY
        go_wp2_with fail
        replace hX := hX.of hrn (putBelow (x := .int .i64 (costOver s wd)) (y := .int .i64 (costLines s)) (Nat.le_refl r))
        replace hY := hY.put (costOver s wd) (costLines s)
        replace hC := hC.other (r := r) (by omega) (.int .i64 (costOver s wd)) (.int .i64 (costLines s))
        replace hB := hB.trans (putBelow (n := w.heap.size) (x := .int .i64 (costOver s wd)) (y := .int .i64 (costLines s)) (show w.heap.size ≤ r by omega))
        refine (serr_any 0 0 _ hX.2.2.2.2.2).mono ?_
        rintro e w2 ⟨rfl, hb⟩
        replace hB := belowT hB (Nat.le_refl _) hb
        replace hX := hX.below hb
        replace hC := hC.below hb
        replace hY := hY.below hb
        clear hb
        clear hv hz ca0 ca1 cb0 cb1 hh hc0 hc1 hc2 hc3 hc4 hy0 hy1 hy2 hy3 hy4
        obtain ⟨⟨hv, hz⟩, ca0, ca1, cb0, cb1, hh⟩ := id hX
        obtain ⟨hc0, hc1, hc2, hc3, hc4⟩ := id hC
        obtain ⟨hy0, hy1, hy2, hy3, hy4⟩ := id hY
        go_wp2
        go_ret
        exact ⟨rfl, hB⟩

end Go.Proofs.YtppdaldobmlooaaDoor
