/- Some texts as one: LawBestWider5, LawBestWider6, LawBestWider7. -/
import Derived.Test.YtfabfclbnekleabLawBestWiders
import Derived.Test.YtfabfclbnekleabLawBestWiderg
namespace Go.Proofs.Ytfabfclbnekleab
open Go Go.RowKit

set_option maxRecDepth 100000 in
set_option maxHeartbeats 1200000 in
theorem bestWider_g (ds es : List Nd) (b1 o1 b2 o2 : Nat) (cap cap2 : Nat) (hc : ds.length ≤ cap) (hc2 : es.length ≤ cap2) (_hle : (es.length : Int) ≤ 140737488355328) (wd : Int) (w : World) (hN : Nods w (some ⟨b1, o1, none⟩) ds) (hM : Nods w (some ⟨b2, o2, none⟩) es) (h1 : bE ds wd = 0) (hl : ds.length + es.length < 400) (hw : ¬ wd < 100) (h2 : bE es wd = 0) (hls : decide (lessC (bA es wd).1 (bA ds wd).1) = true) :
    Calls Try.prog 3 #[.slice (some ⟨b1, o1, none⟩) ds.length cap, .slice (some ⟨b2, o2, none⟩) es.length cap2, .int .i64 wd] w fun e w' => e = .returned (.bool true) ∧ Below w.heap.size w w' := by
  have HN : Hid (Nods w (some ⟨b1, o1, none⟩) ds) := hN
  have HM : Hid (Nods w (some ⟨b2, o2, none⟩) es) := hM
  obtain ⟨hl1, hne1⟩ := bE_len h1
  have hwr1 : IntKind.i64.wrap ((ds.length : Int) + es.length) = (ds.length : Int) + es.length := by rw [IntKind.wrap_i64]; omega
  have hlI : ¬ (400 : Int) ≤ (ds.length : Int) + es.length := by omega
  have hlt4 : ds.length + es.length ≤ 399 := by omega
  obtain ⟨i0, hi, hz0, hz1, hz2⟩ := info_parts ndInfo
  obtain ⟨gs, hgs⟩ : ∃ gs, gs = (⟨8, ⟨#[]⟩, 0⟩ :: ds : List Nd) := ⟨_, rfl⟩
  obtain ⟨hE2, hA2⟩ := bA_group h1 (by omega)
  rw [← hgs] at hE2 hA2
  have hgl : gs.length = 1 + ds.length := by rw [hgs]; simp; omega
  have HGC : Hid (ndCells gs = ndCells [⟨8, ⟨#[]⟩, 0⟩] ++ ndCells ds) := (show ndCells gs = ndCells [⟨8, ⟨#[]⟩, 0⟩] ++ ndCells ds by rw [hgs, ← ndCells_app]; rfl)
  have HGL : Hid (gs.length = 1 + ds.length) := hgl
  have HB2 : Hid (∀ W a3 c3, gs.length ≤ c3 → Nods W a3 gs → Calls Try.prog 5 #[.slice a3 gs.length c3, .int .i64 wd] W fun e w' => BestX (bT gs wd) (bA gs wd) .nilIface W e w') := fun W a3 c3 k1 k2 => by
    have := best_x gs wd a3 c3 k1 W k2
    rw [hE2, errN_0] at this
    exact this
  have HL2 : Hid (∀ W, Calls Try.prog 6 #[.agg #[.int .i64 ((bA ds wd).1.1 : Int), .int .i64 ((bA ds wd).1.2 : Int)], .agg #[.int .i64 ((bA gs wd).1.1 : Int), .int .i64 ((bA gs wd).1.2 : Int)]] W fun e w' => e = .returned (.bool false) ∧ Below W.heap.size W w') := fun W => by
    have := rless_nat (bA ds wd).1 (bA gs wd).1 W
    rw [decide_eq_false hA2] at this
    exact this
  have hl2 := (bE_len h2).1
  have HB4 : Hid (∀ W, Nods W (some ⟨b2, o2, none⟩) es → Calls Try.prog 5 #[.slice (some ⟨b2, o2, none⟩) es.length cap2, .int .i64 wd] W fun e w' => BestX (bT es wd) (bA es wd) .nilIface W e w') := fun W hW => by
    have := best_x es wd (some ⟨b2, o2, none⟩) cap2 hc2 W hW
    rw [h2, errN_0] at this
    exact this
  obtain ⟨xs, hxs⟩ : ∃ xs, xs = (⟨9, ⟨#[]⟩, 0⟩ :: (ds ++ es) : List Nd) := ⟨_, rfl⟩
  obtain ⟨hE5, hA5⟩ := bA_two h1 h2 (by omega)
  rw [← hxs] at hE5 hA5
  have hxl : xs.length = 1 + ds.length + es.length := by rw [hxs]; simp; omega
  have HXC : Hid (ndCells xs = ndCells [⟨9, ⟨#[]⟩, 0⟩] ++ (ndCells ds ++ ndCells es)) := (show ndCells xs = ndCells [⟨9, ⟨#[]⟩, 0⟩] ++ (ndCells ds ++ ndCells es) by rw [hxs, ← ndCells_app, ← ndCells_app]; rfl)
  have HXL : Hid (xs.length = 1 + ds.length + es.length) := hxl
  have HL5 : Hid (∀ W, Calls Try.prog 6 #[.agg #[.int .i64 ((bA es wd).1.1 : Int), .int .i64 ((bA es wd).1.2 : Int)], .agg #[.int .i64 ((bA ds wd).1.1 : Int), .int .i64 ((bA ds wd).1.2 : Int)]] W fun e w' => e = .returned (.bool true) ∧ Below W.heap.size W w') := fun W => by
    have := rless_nat (bA es wd).1 (bA ds wd).1 W
    rw [hls] at this
    exact this
  have hA5' : (bA xs wd).1 = (bA es wd).1 := by
    rw [hA5]
    exact if_pos (of_decide_eq_true hls)
  have HB5 : Hid (∀ W a3 c3, xs.length ≤ c3 → Nods W a3 xs → Calls Try.prog 5 #[.slice a3 xs.length c3, .int .i64 wd] W fun e w' => (∃ (n : Nat) (wa : Option Addr) (wc : Nat), e = .returned (.tuple #[.string (bT xs wd), .slice wa n wc, .agg #[.int .i64 (bA es wd).1.1, .int .i64 (bA es wd).1.2], .nilIface])) ∧ Below W.heap.size W w') := fun W a3 c3 k1 k2 => by
    refine (best_x xs wd a3 c3 k1 W k2).mono ?_
    rintro e w' ⟨⟨wa, wc, rfl, _⟩, hb⟩
    rw [hE5, errN_0, hA5']
    exact ⟨⟨_, wa, wc, rfl⟩, hb⟩
  generalize bT xs wd = T5 at *
  generalize bT es wd = T4 at *
  generalize bA es wd = A4 at *
  clear hE5 hA5 hA5' hxs hxl hls
  generalize bA gs wd = A2 at *
  generalize bT gs wd = T2 at *
  clear hE2 hA2 hgs hne1 hgl
  have HB1 : Hid (∀ W, Nods W (some ⟨b1, o1, none⟩) ds → Calls Try.prog 5 #[.slice (some ⟨b1, o1, none⟩) ds.length cap, .int .i64 wd] W fun e w' => BestX (bT ds wd) (bA ds wd) (.nilIface) W e w') := fun W hW => by
    have := best_x ds wd (some ⟨b1, o1, none⟩) cap hc W hW
    rw [h1, errN_0] at this
    exact this
  generalize bT ds wd = T1 at *
  generalize bA ds wd = A1 at *
  clear hN hM
  go_enter Try.func3, Try.ntmps3
  go_wp2_with fail
  refine (best_two w).mono ?_
  rintro e w1 ⟨⟨n0, a0, c0, o0, l0, rfl⟩, B1⟩
  go_wp2_with fail
  refine (HB1.out _ (HN.out.below (belAl B1 _))).mono ?_
  rintro e w2 ⟨⟨a1, c1, rfl, _⟩, b2⟩
  have B2 : Below w.heap.size w w2 := belowA B1 (Nat.le_refl _) b2
  clear b2 B1
  go_upto_region 11 with fail
  generalize hW4 : w2.alloc (.cells #[.int .i64 A1.1.1, .int .i64 A1.1.2] 25) = w4
  have B4 : Below w.heap.size w w4 := by rw [← hW4]; exact belAl B2 _
  have HX4 : Hid (Bx w4 w2.heap.size A1.1.1 A1.1.2) := by rw [← hW4]; exact Bx.new _ _ _ _
  clear B2 hW4
  have hown0 : (w4.alloc (.cells #[.int .i64 8, .string ⟨#[]⟩, .int .i64 0] 31)).ownsRow w4.heap.size 31 3 (.slice (some ⟨w4.heap.size, 0, none⟩) 1 1) 1 (ndCells [⟨8, ⟨#[]⟩, 0⟩]) :=
    ⟨rfl, .inr ⟨w4.heap.size, 1, #[.int .i64 8, .string ⟨#[]⟩, .int .i64 0], rfl, Nat.le_refl _, heap_alloc_new w4 _, Nat.le_refl _, by unfold maxLen; decide, rfl, rfl⟩⟩
  have HO : Hid ((w4.alloc (.cells #[.int .i64 8, .string ⟨#[]⟩, .int .i64 0] 31)).ownsRow w4.heap.size 31 3 (.slice (some ⟨w4.heap.size, 0, none⟩) 1 1) 1 (ndCells [⟨8, ⟨#[]⟩, 0⟩])) := hown0
  clear hown0
  go_wp2_with (at_builtin; refine wpList_append_own _ rfl _ _ 22 rfl w4.heap.size 31 i0 _ 3 32 Try.underlying22 hi hz0 hz1 hz2 rfl (by decide) _ _ _ rfl HO.out ⟨b1, o1, none⟩ ds.length cap (ndCells ds) rfl (ndCells_len ds) ?c1 (ndCells_one ds) ?c3 ?c4 ?c5 ?_)
  case c1 => exact nods_news (HN.out.below (belAl B4 _))
  case c3 => unfold maxLen; omega
  case c4 => omega
  case c5 => simp
  intro v5 w5 hown5 hgrow5 _
  have h45 : Below w4.heap.size w4 w5 := ((Below.refl _ w4).alloc (Nat.le_refl _) _).grown hgrow5 (by simp) (fun k hk => by simp only [Value.ownBlock, Option.some.injEq] at hk; omega)
  have B5 := belowT B4 (Nat.le_refl _) h45
  have HX5 : Hid (Bx w5 w2.heap.size A1.1.1 A1.1.2) := HX4.out.below h45
  rw [← HGC.out, ← HGL.out] at hown5
  obtain ⟨a5, c5, rfl⟩ := row_form hown5
  obtain ⟨_, k5, n5⟩ := own_nods hown5
  have HN5 : Hid (Nods w5 a5 gs) := n5
  clear hown5 hgrow5 HO n5 h45 B4 HX4
  go_wp2_with fail
  refine (HB2.out _ _ _ k5 HN5.out).mono ?_
  rintro e w6 ⟨⟨a6, c6, rfl, _⟩, b6⟩
  have B6 := belowT B5 (Nat.le_refl _) b6
  have hX6 := HX5.out.below b6
  have x0 := fun O => ka hX6.1 O
  have x1 := fun O => ka hX6.2 O
  have HX6 : Hid (Bx w6 w2.heap.size A1.1.1 A1.1.2) := hX6
  have hy6 := Bx.new w6 A2.1.1 A2.1.2 25
  clear hX6 b6 B5 HX5 HN5
  go_wp2_with fail
  refine (HL2.out _).mono ?_
  rintro e w7 ⟨rfl, b7⟩
  have B7 : Below w.heap.size w w7 := belowA B6 (Nat.le_refl _) b7
  have HX7 : Hid (Bx w7 w2.heap.size A1.1.1 A1.1.2) := (HX6.out.alloc _).below b7
  have HL26 : Hid (w2.heap.size < w6.heap.size) := World.block_lt_of_cell? w6 ⟨w2.heap.size, 0, none⟩ HX6.out.1
  have HL6 : Hid (w.heap.size ≤ w6.heap.size) := B6.size
  have HY7 : Hid (Bx w7 w6.heap.size A2.1.1 A2.1.2 ∧ RowF w7 w6.heap.size) := ⟨hy6.below b7, RowF.kept ⟨_, _, heap_alloc_new w6 (.cells #[.int .i64 A2.1.1, .int .i64 A2.1.2] 25)⟩ (b7.block _ (by simp))⟩
  clear x0 x1 b7 B6 HX6 hy6
  go_wp2_with fail
  refine (HB4.out _ (HM.out.below B7)).mono ?_
  rintro e w8 ⟨⟨a8, c8, rfl, _⟩, b8⟩
  have B8 := belowT B7 (Nat.le_refl _) b8
  have hlt6 : w6.heap.size < w7.heap.size := HY7.out.2.lt
  have hlt2 : w2.heap.size < w6.heap.size := HL26.out
  have HNE : Hid (w2.heap.size ≠ w6.heap.size ∧ w8.heap.size ≠ w6.heap.size) := ⟨by omega, by have := b8.size; omega⟩
  have B6' : w.heap.size ≤ w6.heap.size := HL6.out
  have HX8 : Hid (Bx w8 w2.heap.size A1.1.1 A1.1.2) := HX7.out.below b8
  have HY8 : Hid (Bx w8 w6.heap.size A2.1.1 A2.1.2 ∧ RowF w8 w6.heap.size) := ⟨HY7.out.1.below b8, HY7.out.2.kept (b8.block _ HY7.out.2.lt)⟩
  clear b8 B7 HX7 HY7
  go_upto_region 19 with fail
  generalize hW9 : w8.alloc (.cells #[.int .i64 A4.1.1, .int .i64 A4.1.2] 25) = w9
  have B9 : Below w.heap.size w w9 := by rw [← hW9]; exact belAl B8 _
  have h89 : Below w8.heap.size w8 w9 := by rw [← hW9]; exact (Below.refl _ w8).alloc (Nat.le_refl _) _
  have HX9 : Hid (Bx w9 w2.heap.size A1.1.1 A1.1.2) := HX8.out.below h89
  have HY9 : Hid (Bx w9 w6.heap.size A2.1.1 A2.1.2 ∧ RowF w9 w6.heap.size) := ⟨HY8.out.1.below h89, HY8.out.2.kept (h89.block _ HY8.out.2.lt)⟩
  have HZ9 : Hid (Bx w9 w8.heap.size A4.1.1 A4.1.2) := by rw [← hW9]; exact Bx.new _ _ _ _
  have hlo6 : w.heap.size ≤ w6.heap.size := B6'
  clear hW9 h89 B8 HX8 HY8
  have hown9 : (w9.alloc (.cells #[.int .i64 9, .string ⟨#[]⟩, .int .i64 0] 31)).ownsRow w9.heap.size 31 3 (.slice (some ⟨w9.heap.size, 0, none⟩) 1 1) 1 (ndCells [⟨9, ⟨#[]⟩, 0⟩]) :=
    ⟨rfl, .inr ⟨w9.heap.size, 1, #[.int .i64 9, .string ⟨#[]⟩, .int .i64 0], rfl, Nat.le_refl _, heap_alloc_new w9 _, Nat.le_refl _, by unfold maxLen; decide, rfl, rfl⟩⟩
  have HO9 : Hid ((w9.alloc (.cells #[.int .i64 9, .string ⟨#[]⟩, .int .i64 0] 31)).ownsRow w9.heap.size 31 3 (.slice (some ⟨w9.heap.size, 0, none⟩) 1 1) 1 (ndCells [⟨9, ⟨#[]⟩, 0⟩])) := hown9
  clear hown9
  go_wp2_with (at_builtin; refine wpList_append_own _ rfl _ _ 22 rfl w9.heap.size 31 i0 _ 3 32 Try.underlying22 hi hz0 hz1 hz2 rfl (by decide) _ _ _ rfl HO9.out ⟨b1, o1, none⟩ ds.length cap (ndCells ds) rfl (ndCells_len ds) ?c1 (ndCells_one ds) ?c3 ?c4 ?c5 ?_)
  case c1 => exact nods_news (HN.out.below (belAl B9 _))
  case c3 => unfold maxLen; omega
  case c4 => omega
  case c5 => simp
  intro v10 w10 hown10 hgrow10 _
  have h90 : Below w9.heap.size w9 w10 := ((Below.refl _ w9).alloc (Nat.le_refl _) _).grown hgrow10 (by simp) (fun k hk => by simp only [Value.ownBlock, Option.some.injEq] at hk; omega)
  have B10 := belowT B9 (Nat.le_refl _) h90
  have HO10 : Hid (w10.ownsRow w9.heap.size 31 3 v10 (1 + ds.length) (ndCells [⟨9, ⟨#[]⟩, 0⟩] ++ ndCells ds)) := hown10
  have hs90 := h90.size
  have H90 : Hid (Below w9.heap.size w9 w10) := h90
  obtain ⟨a10, c10, rfl⟩ := row_form hown10
  clear hown10 hgrow10 HO9 h90
  go_wp2_with (at_builtin; refine wpList_append_own _ rfl _ _ 22 rfl w9.heap.size 31 i0 _ 3 32 Try.underlying22 hi hz0 hz1 hz2 rfl (by decide) _ _ _ rfl HO10.out ⟨b2, o2, none⟩ es.length cap2 (ndCells es) rfl (ndCells_len es) ?c1 (ndCells_one es) ?c3 ?c4 ?c5 ?_)
  case c1 => exact nods_news (HM.out.below B10)
  case c3 => unfold maxLen; omega
  case c4 => omega
  case c5 => exact hs90
  intro v11 w11 hown11 hgrow11 _
  have h91 : Below w9.heap.size w9 w11 := H90.out.grown hgrow11 hs90 (fun k hk => (HO10.out.lt k hk).1)
  have B11 := belowT B9 (Nat.le_refl _) h91
  rw [← HXL.out] at hown11
  rw [← HXC.out] at hown11
  obtain ⟨a11, c11, rfl⟩ := row_form hown11
  obtain ⟨_, k11, n11⟩ := own_nods hown11
  have HN11 : Hid (Nods w11 a11 xs) := n11
  have H91 : Hid (Below w9.heap.size w9 w11) := h91
  clear hown11 hgrow11 HO10 n11 h91 H90 hs90 B10
  go_wp2_with fail
  refine (HB5.out _ _ _ k11 HN11.out).mono ?_
  rintro e w12 ⟨⟨n12, a12, c12, rfl⟩, b12⟩
  have h92 := belowT H91.out (Nat.le_refl _) b12
  have B12 := belowT B9 (Nat.le_refl _) h92
  have hX12 := HX9.out.below h92
  have hZ12 := HZ9.out.below h92
  have hY12 : Bx w12 w6.heap.size A2.1.1 A2.1.2 := HY9.out.1.below h92
  have hR12 : RowF w12 w6.heap.size := HY9.out.2.kept (h92.block _ HY9.out.2.lt)
  obtain ⟨y0, y1⟩ := hY12
  have f0 : w12.frozen? ⟨w6.heap.size, 0, none⟩ = false := hR12.frozen
  have f1 : w12.frozen? ⟨w6.heap.size, 1, none⟩ = false := hR12.frozen
  obtain ⟨x0, x1⟩ := hX12
  obtain ⟨z0, z1⟩ := hZ12
  have hne62 : w6.heap.size ≠ w2.heap.size := fun e => HNE.out.1 e.symm
  have hne68 : w6.heap.size ≠ w8.heap.size := fun e => HNE.out.2 e.symm
  have HX13 : Hid (Bx ((w12.setCell ⟨w6.heap.size, 0, none⟩ (.int .i64 A4.1.1)).setCell ⟨w6.heap.size, 1, none⟩ (.int .i64 A4.1.2)) w2.heap.size A1.1.1 A1.1.2) := ⟨(cso (.inl hne62)).trans ((cso (.inl hne62)).trans x0), (cso (.inl hne62)).trans ((cso (.inl hne62)).trans x1)⟩
  have HZ13 : Hid (Bx ((w12.setCell ⟨w6.heap.size, 0, none⟩ (.int .i64 A4.1.1)).setCell ⟨w6.heap.size, 1, none⟩ (.int .i64 A4.1.2)) w8.heap.size A4.1.1 A4.1.2) := ⟨(cso (.inl hne68)).trans ((cso (.inl hne68)).trans z0), (cso (.inl hne68)).trans ((cso (.inl hne68)).trans z1)⟩
  have HY13 : Hid (Bx ((w12.setCell ⟨w6.heap.size, 0, none⟩ (.int .i64 A4.1.1)).setCell ⟨w6.heap.size, 1, none⟩ (.int .i64 A4.1.2)) w6.heap.size A4.1.1 A4.1.2) := ⟨(cso (.inr (by omega))).trans (css y0), css ((cso (.inr (by omega))).trans y1)⟩
  have HB13 : Hid (Below w.heap.size w ((w12.setCell ⟨w6.heap.size, 0, none⟩ (.int .i64 A4.1.1)).setCell ⟨w6.heap.size, 1, none⟩ (.int .i64 A4.1.2))) := (B12.setCell (p := ⟨w6.heap.size, 0, none⟩) hlo6 _).setCell (p := ⟨w6.heap.size, 1, none⟩) hlo6 _
  clear b12 h92 H91 B11 hR12 hne62 hne68 B12 x0 x1 z0 z1
  go_upto_region 23 with fail
  clear y0 y1 f0 f1
  generalize (w12.setCell ⟨w6.heap.size, 0, none⟩ (.int .i64 A4.1.1)).setCell ⟨w6.heap.size, 1, none⟩ (.int .i64 A4.1.2) = w13 at *
  obtain ⟨x0, x1⟩ := HX13.out
  have z0 := fun O => ka HZ13.out.1 O
  have z1 := fun O => ka HZ13.out.2 O
  have x0' := fun O => ka x0 O
  have x1' := fun O => ka x1 O
  go_wp2_with fail
  refine (HL5.out _).mono ?_
  rintro e w14 ⟨rfl, b14⟩
  have hl14 := Bx.new w13 A1.1.1 A1.1.2 25
  have hL14 := hl14.below b14
  have hR14 : RowF w14 w13.heap.size := RowF.kept ⟨_, _, heap_alloc_new w13 (.cells #[.int .i64 A1.1.1, .int .i64 A1.1.2] 25)⟩ (b14.block _ (by simp))
  have hY14 := (HY13.out.alloc (.cells #[.int .i64 A1.1.1, .int .i64 A1.1.2] 25)).below b14
  have hZ14 := (HZ13.out.alloc (.cells #[.int .i64 A1.1.1, .int .i64 A1.1.2] 25)).below b14
  have B14 : Below w.heap.size w w14 := belowA HB13.out (Nat.le_refl _) b14
  have hlt13 : w6.heap.size < w13.heap.size := World.block_lt_of_cell? w13 ⟨w6.heap.size, 0, none⟩ HY13.out.1
  have hle13 : w.heap.size ≤ w13.heap.size := HB13.out.size
  obtain ⟨l0', l1'⟩ := hL14
  obtain ⟨p0, p1⟩ := hY14
  obtain ⟨q0, q1⟩ := hZ14
  have g0 : w14.frozen? ⟨w13.heap.size, 0, none⟩ = false := hR14.frozen
  have g1 : w14.frozen? ⟨w13.heap.size, 1, none⟩ = false := hR14.frozen
  have hne1 : w13.heap.size ≠ w6.heap.size := by omega
  clear b14 hl14 hR14 z0 z1 x0 x1 x0' x1' HX13 HZ13 HY13 HB13 hlt13
  go_wp2
  go_ret
  exact ⟨rfl, (B14.setCell (p := ⟨w13.heap.size, 0, none⟩) hle13 _).setCell (p := ⟨w13.heap.size, 1, none⟩) hle13 _⟩
end Go.Proofs.Ytfabfclbnekleab
namespace Go.Proofs.Ytfabfclbnekleab
open Go Go.RowKit

set_option maxRecDepth 100000 in
set_option maxHeartbeats 1200000 in
theorem bestWider_h (ds es : List Nd) (b1 o1 b2 o2 : Nat) (cap cap2 : Nat) (hc : ds.length ≤ cap) (hc2 : es.length ≤ cap2) (_hle : (es.length : Int) ≤ 140737488355328) (wd : Int) (w : World) (hN : Nods w (some ⟨b1, o1, none⟩) ds) (hM : Nods w (some ⟨b2, o2, none⟩) es) (h1 : bE ds wd = 0) (hl : ds.length + es.length < 400) (hw : ¬ wd < 100) (h2 : bE es wd = 0) (hls : decide (lessC (bA es wd).1 (bA ds wd).1) = false) :
    Calls Try.prog 3 #[.slice (some ⟨b1, o1, none⟩) ds.length cap, .slice (some ⟨b2, o2, none⟩) es.length cap2, .int .i64 wd] w fun e w' => e = .returned (.bool true) ∧ Below w.heap.size w w' := by
  have HN : Hid (Nods w (some ⟨b1, o1, none⟩) ds) := hN
  have HM : Hid (Nods w (some ⟨b2, o2, none⟩) es) := hM
  obtain ⟨hl1, hne1⟩ := bE_len h1
  have hwr1 : IntKind.i64.wrap ((ds.length : Int) + es.length) = (ds.length : Int) + es.length := by rw [IntKind.wrap_i64]; omega
  have hlI : ¬ (400 : Int) ≤ (ds.length : Int) + es.length := by omega
  have hlt4 : ds.length + es.length ≤ 399 := by omega
  obtain ⟨i0, hi, hz0, hz1, hz2⟩ := info_parts ndInfo
  obtain ⟨gs, hgs⟩ : ∃ gs, gs = (⟨8, ⟨#[]⟩, 0⟩ :: ds : List Nd) := ⟨_, rfl⟩
  obtain ⟨hE2, hA2⟩ := bA_group h1 (by omega)
  rw [← hgs] at hE2 hA2
  have hgl : gs.length = 1 + ds.length := by rw [hgs]; simp; omega
  have HGC : Hid (ndCells gs = ndCells [⟨8, ⟨#[]⟩, 0⟩] ++ ndCells ds) := (show ndCells gs = ndCells [⟨8, ⟨#[]⟩, 0⟩] ++ ndCells ds by rw [hgs, ← ndCells_app]; rfl)
  have HGL : Hid (gs.length = 1 + ds.length) := hgl
  have HB2 : Hid (∀ W a3 c3, gs.length ≤ c3 → Nods W a3 gs → Calls Try.prog 5 #[.slice a3 gs.length c3, .int .i64 wd] W fun e w' => BestX (bT gs wd) (bA gs wd) .nilIface W e w') := fun W a3 c3 k1 k2 => by
    have := best_x gs wd a3 c3 k1 W k2
    rw [hE2, errN_0] at this
    exact this
  have HL2 : Hid (∀ W, Calls Try.prog 6 #[.agg #[.int .i64 ((bA ds wd).1.1 : Int), .int .i64 ((bA ds wd).1.2 : Int)], .agg #[.int .i64 ((bA gs wd).1.1 : Int), .int .i64 ((bA gs wd).1.2 : Int)]] W fun e w' => e = .returned (.bool false) ∧ Below W.heap.size W w') := fun W => by
    have := rless_nat (bA ds wd).1 (bA gs wd).1 W
    rw [decide_eq_false hA2] at this
    exact this
  have hl2 := (bE_len h2).1
  have HB4 : Hid (∀ W, Nods W (some ⟨b2, o2, none⟩) es → Calls Try.prog 5 #[.slice (some ⟨b2, o2, none⟩) es.length cap2, .int .i64 wd] W fun e w' => BestX (bT es wd) (bA es wd) .nilIface W e w') := fun W hW => by
    have := best_x es wd (some ⟨b2, o2, none⟩) cap2 hc2 W hW
    rw [h2, errN_0] at this
    exact this
  obtain ⟨xs, hxs⟩ : ∃ xs, xs = (⟨9, ⟨#[]⟩, 0⟩ :: (ds ++ es) : List Nd) := ⟨_, rfl⟩
  obtain ⟨hE5, hA5⟩ := bA_two h1 h2 (by omega)
  rw [← hxs] at hE5 hA5
  have hxl : xs.length = 1 + ds.length + es.length := by rw [hxs]; simp; omega
  have HXC : Hid (ndCells xs = ndCells [⟨9, ⟨#[]⟩, 0⟩] ++ (ndCells ds ++ ndCells es)) := (show ndCells xs = ndCells [⟨9, ⟨#[]⟩, 0⟩] ++ (ndCells ds ++ ndCells es) by rw [hxs, ← ndCells_app, ← ndCells_app]; rfl)
  have HXL : Hid (xs.length = 1 + ds.length + es.length) := hxl
  have HL5 : Hid (∀ W, Calls Try.prog 6 #[.agg #[.int .i64 ((bA es wd).1.1 : Int), .int .i64 ((bA es wd).1.2 : Int)], .agg #[.int .i64 ((bA ds wd).1.1 : Int), .int .i64 ((bA ds wd).1.2 : Int)]] W fun e w' => e = .returned (.bool false) ∧ Below W.heap.size W w') := fun W => by
    have := rless_nat (bA es wd).1 (bA ds wd).1 W
    rw [hls] at this
    exact this
  have hA5' : (bA xs wd).1 = (bA ds wd).1 := by
    rw [hA5]
    exact if_neg (of_decide_eq_false hls)
  have HB5 : Hid (∀ W a3 c3, xs.length ≤ c3 → Nods W a3 xs → Calls Try.prog 5 #[.slice a3 xs.length c3, .int .i64 wd] W fun e w' => (∃ (n : Nat) (wa : Option Addr) (wc : Nat), e = .returned (.tuple #[.string (bT xs wd), .slice wa n wc, .agg #[.int .i64 (bA ds wd).1.1, .int .i64 (bA ds wd).1.2], .nilIface])) ∧ Below W.heap.size W w') := fun W a3 c3 k1 k2 => by
    refine (best_x xs wd a3 c3 k1 W k2).mono ?_
    rintro e w' ⟨⟨wa, wc, rfl, _⟩, hb⟩
    rw [hE5, errN_0, hA5']
    exact ⟨⟨_, wa, wc, rfl⟩, hb⟩
  generalize bT xs wd = T5 at *
  generalize bT es wd = T4 at *
  generalize bA es wd = A4 at *
  clear hE5 hA5 hA5' hxs hxl hls
  generalize bA gs wd = A2 at *
  generalize bT gs wd = T2 at *
  clear hE2 hA2 hgs hne1 hgl
  have HB1 : Hid (∀ W, Nods W (some ⟨b1, o1, none⟩) ds → Calls Try.prog 5 #[.slice (some ⟨b1, o1, none⟩) ds.length cap, .int .i64 wd] W fun e w' => BestX (bT ds wd) (bA ds wd) (.nilIface) W e w') := fun W hW => by
    have := best_x ds wd (some ⟨b1, o1, none⟩) cap hc W hW
    rw [h1, errN_0] at this
    exact this
  generalize bT ds wd = T1 at *
  generalize bA ds wd = A1 at *
  clear hN hM
  go_enter Try.func3, Try.ntmps3
  go_wp2_with fail
  refine (best_two w).mono ?_
  rintro e w1 ⟨⟨n0, a0, c0, o0, l0, rfl⟩, B1⟩
  go_wp2_with fail
  refine (HB1.out _ (HN.out.below (belAl B1 _))).mono ?_
  rintro e w2 ⟨⟨a1, c1, rfl, _⟩, b2⟩
  have B2 : Below w.heap.size w w2 := belowA B1 (Nat.le_refl _) b2
  clear b2 B1
  go_upto_region 11 with fail
  generalize hW4 : w2.alloc (.cells #[.int .i64 A1.1.1, .int .i64 A1.1.2] 25) = w4
  have B4 : Below w.heap.size w w4 := by rw [← hW4]; exact belAl B2 _
  have HX4 : Hid (Bx w4 w2.heap.size A1.1.1 A1.1.2) := by rw [← hW4]; exact Bx.new _ _ _ _
  clear B2 hW4
  have hown0 : (w4.alloc (.cells #[.int .i64 8, .string ⟨#[]⟩, .int .i64 0] 31)).ownsRow w4.heap.size 31 3 (.slice (some ⟨w4.heap.size, 0, none⟩) 1 1) 1 (ndCells [⟨8, ⟨#[]⟩, 0⟩]) :=
    ⟨rfl, .inr ⟨w4.heap.size, 1, #[.int .i64 8, .string ⟨#[]⟩, .int .i64 0], rfl, Nat.le_refl _, heap_alloc_new w4 _, Nat.le_refl _, by unfold maxLen; decide, rfl, rfl⟩⟩
  have HO : Hid ((w4.alloc (.cells #[.int .i64 8, .string ⟨#[]⟩, .int .i64 0] 31)).ownsRow w4.heap.size 31 3 (.slice (some ⟨w4.heap.size, 0, none⟩) 1 1) 1 (ndCells [⟨8, ⟨#[]⟩, 0⟩])) := hown0
  clear hown0
  go_wp2_with (at_builtin; refine wpList_append_own _ rfl _ _ 22 rfl w4.heap.size 31 i0 _ 3 32 Try.underlying22 hi hz0 hz1 hz2 rfl (by decide) _ _ _ rfl HO.out ⟨b1, o1, none⟩ ds.length cap (ndCells ds) rfl (ndCells_len ds) ?c1 (ndCells_one ds) ?c3 ?c4 ?c5 ?_)
  case c1 => exact nods_news (HN.out.below (belAl B4 _))
  case c3 => unfold maxLen; omega
  case c4 => omega
  case c5 => simp
  intro v5 w5 hown5 hgrow5 _
  have h45 : Below w4.heap.size w4 w5 := ((Below.refl _ w4).alloc (Nat.le_refl _) _).grown hgrow5 (by simp) (fun k hk => by simp only [Value.ownBlock, Option.some.injEq] at hk; omega)
  have B5 := belowT B4 (Nat.le_refl _) h45
  have HX5 : Hid (Bx w5 w2.heap.size A1.1.1 A1.1.2) := HX4.out.below h45
  rw [← HGC.out, ← HGL.out] at hown5
  obtain ⟨a5, c5, rfl⟩ := row_form hown5
  obtain ⟨_, k5, n5⟩ := own_nods hown5
  have HN5 : Hid (Nods w5 a5 gs) := n5
  clear hown5 hgrow5 HO n5 h45 B4 HX4
  go_wp2_with fail
  refine (HB2.out _ _ _ k5 HN5.out).mono ?_
  rintro e w6 ⟨⟨a6, c6, rfl, _⟩, b6⟩
  have B6 := belowT B5 (Nat.le_refl _) b6
  have hX6 := HX5.out.below b6
  have x0 := fun O => ka hX6.1 O
  have x1 := fun O => ka hX6.2 O
  have HX6 : Hid (Bx w6 w2.heap.size A1.1.1 A1.1.2) := hX6
  have hy6 := Bx.new w6 A2.1.1 A2.1.2 25
  clear hX6 b6 B5 HX5 HN5
  go_wp2_with fail
  refine (HL2.out _).mono ?_
  rintro e w7 ⟨rfl, b7⟩
  have B7 : Below w.heap.size w w7 := belowA B6 (Nat.le_refl _) b7
  have HX7 : Hid (Bx w7 w2.heap.size A1.1.1 A1.1.2) := (HX6.out.alloc _).below b7
  have HL26 : Hid (w2.heap.size < w6.heap.size) := World.block_lt_of_cell? w6 ⟨w2.heap.size, 0, none⟩ HX6.out.1
  have HL6 : Hid (w.heap.size ≤ w6.heap.size) := B6.size
  have HY7 : Hid (Bx w7 w6.heap.size A2.1.1 A2.1.2 ∧ RowF w7 w6.heap.size) := ⟨hy6.below b7, RowF.kept ⟨_, _, heap_alloc_new w6 (.cells #[.int .i64 A2.1.1, .int .i64 A2.1.2] 25)⟩ (b7.block _ (by simp))⟩
  clear x0 x1 b7 B6 HX6 hy6
  go_wp2_with fail
  refine (HB4.out _ (HM.out.below B7)).mono ?_
  rintro e w8 ⟨⟨a8, c8, rfl, _⟩, b8⟩
  have B8 := belowT B7 (Nat.le_refl _) b8
  have hlt6 : w6.heap.size < w7.heap.size := HY7.out.2.lt
  have hlt2 : w2.heap.size < w6.heap.size := HL26.out
  have HNE : Hid (w2.heap.size ≠ w6.heap.size ∧ w8.heap.size ≠ w6.heap.size) := ⟨by omega, by have := b8.size; omega⟩
  have B6' : w.heap.size ≤ w6.heap.size := HL6.out
  have HX8 : Hid (Bx w8 w2.heap.size A1.1.1 A1.1.2) := HX7.out.below b8
  have HY8 : Hid (Bx w8 w6.heap.size A2.1.1 A2.1.2 ∧ RowF w8 w6.heap.size) := ⟨HY7.out.1.below b8, HY7.out.2.kept (b8.block _ HY7.out.2.lt)⟩
  clear b8 B7 HX7 HY7
  go_upto_region 19 with fail
  generalize hW9 : w8.alloc (.cells #[.int .i64 A4.1.1, .int .i64 A4.1.2] 25) = w9
  have B9 : Below w.heap.size w w9 := by rw [← hW9]; exact belAl B8 _
  have h89 : Below w8.heap.size w8 w9 := by rw [← hW9]; exact (Below.refl _ w8).alloc (Nat.le_refl _) _
  have HX9 : Hid (Bx w9 w2.heap.size A1.1.1 A1.1.2) := HX8.out.below h89
  have HY9 : Hid (Bx w9 w6.heap.size A2.1.1 A2.1.2 ∧ RowF w9 w6.heap.size) := ⟨HY8.out.1.below h89, HY8.out.2.kept (h89.block _ HY8.out.2.lt)⟩
  have HZ9 : Hid (Bx w9 w8.heap.size A4.1.1 A4.1.2) := by rw [← hW9]; exact Bx.new _ _ _ _
  have hlo6 : w.heap.size ≤ w6.heap.size := B6'
  clear hW9 h89 B8 HX8 HY8
  have hown9 : (w9.alloc (.cells #[.int .i64 9, .string ⟨#[]⟩, .int .i64 0] 31)).ownsRow w9.heap.size 31 3 (.slice (some ⟨w9.heap.size, 0, none⟩) 1 1) 1 (ndCells [⟨9, ⟨#[]⟩, 0⟩]) :=
    ⟨rfl, .inr ⟨w9.heap.size, 1, #[.int .i64 9, .string ⟨#[]⟩, .int .i64 0], rfl, Nat.le_refl _, heap_alloc_new w9 _, Nat.le_refl _, by unfold maxLen; decide, rfl, rfl⟩⟩
  have HO9 : Hid ((w9.alloc (.cells #[.int .i64 9, .string ⟨#[]⟩, .int .i64 0] 31)).ownsRow w9.heap.size 31 3 (.slice (some ⟨w9.heap.size, 0, none⟩) 1 1) 1 (ndCells [⟨9, ⟨#[]⟩, 0⟩])) := hown9
  clear hown9
  go_wp2_with (at_builtin; refine wpList_append_own _ rfl _ _ 22 rfl w9.heap.size 31 i0 _ 3 32 Try.underlying22 hi hz0 hz1 hz2 rfl (by decide) _ _ _ rfl HO9.out ⟨b1, o1, none⟩ ds.length cap (ndCells ds) rfl (ndCells_len ds) ?c1 (ndCells_one ds) ?c3 ?c4 ?c5 ?_)
  case c1 => exact nods_news (HN.out.below (belAl B9 _))
  case c3 => unfold maxLen; omega
  case c4 => omega
  case c5 => simp
  intro v10 w10 hown10 hgrow10 _
  have h90 : Below w9.heap.size w9 w10 := ((Below.refl _ w9).alloc (Nat.le_refl _) _).grown hgrow10 (by simp) (fun k hk => by simp only [Value.ownBlock, Option.some.injEq] at hk; omega)
  have B10 := belowT B9 (Nat.le_refl _) h90
  have HO10 : Hid (w10.ownsRow w9.heap.size 31 3 v10 (1 + ds.length) (ndCells [⟨9, ⟨#[]⟩, 0⟩] ++ ndCells ds)) := hown10
  have hs90 := h90.size
  have H90 : Hid (Below w9.heap.size w9 w10) := h90
  obtain ⟨a10, c10, rfl⟩ := row_form hown10
  clear hown10 hgrow10 HO9 h90
  go_wp2_with (at_builtin; refine wpList_append_own _ rfl _ _ 22 rfl w9.heap.size 31 i0 _ 3 32 Try.underlying22 hi hz0 hz1 hz2 rfl (by decide) _ _ _ rfl HO10.out ⟨b2, o2, none⟩ es.length cap2 (ndCells es) rfl (ndCells_len es) ?c1 (ndCells_one es) ?c3 ?c4 ?c5 ?_)
  case c1 => exact nods_news (HM.out.below B10)
  case c3 => unfold maxLen; omega
  case c4 => omega
  case c5 => exact hs90
  intro v11 w11 hown11 hgrow11 _
  have h91 : Below w9.heap.size w9 w11 := H90.out.grown hgrow11 hs90 (fun k hk => (HO10.out.lt k hk).1)
  have B11 := belowT B9 (Nat.le_refl _) h91
  rw [← HXL.out] at hown11
  rw [← HXC.out] at hown11
  obtain ⟨a11, c11, rfl⟩ := row_form hown11
  obtain ⟨_, k11, n11⟩ := own_nods hown11
  have HN11 : Hid (Nods w11 a11 xs) := n11
  have H91 : Hid (Below w9.heap.size w9 w11) := h91
  clear hown11 hgrow11 HO10 n11 h91 H90 hs90 B10
  go_wp2_with fail
  refine (HB5.out _ _ _ k11 HN11.out).mono ?_
  rintro e w12 ⟨⟨n12, a12, c12, rfl⟩, b12⟩
  have h92 := belowT H91.out (Nat.le_refl _) b12
  have B12 := belowT B9 (Nat.le_refl _) h92
  have hX12 := HX9.out.below h92
  have hZ12 := HZ9.out.below h92
  have hY12 : Bx w12 w6.heap.size A2.1.1 A2.1.2 := HY9.out.1.below h92
  have hR12 : RowF w12 w6.heap.size := HY9.out.2.kept (h92.block _ HY9.out.2.lt)
  obtain ⟨y0, y1⟩ := hY12
  have f0 : w12.frozen? ⟨w6.heap.size, 0, none⟩ = false := hR12.frozen
  have f1 : w12.frozen? ⟨w6.heap.size, 1, none⟩ = false := hR12.frozen
  obtain ⟨x0, x1⟩ := hX12
  obtain ⟨z0, z1⟩ := hZ12
  have hne62 : w6.heap.size ≠ w2.heap.size := fun e => HNE.out.1 e.symm
  have hne68 : w6.heap.size ≠ w8.heap.size := fun e => HNE.out.2 e.symm
  have HX13 : Hid (Bx ((w12.setCell ⟨w6.heap.size, 0, none⟩ (.int .i64 A1.1.1)).setCell ⟨w6.heap.size, 1, none⟩ (.int .i64 A1.1.2)) w2.heap.size A1.1.1 A1.1.2) := ⟨(cso (.inl hne62)).trans ((cso (.inl hne62)).trans x0), (cso (.inl hne62)).trans ((cso (.inl hne62)).trans x1)⟩
  have HZ13 : Hid (Bx ((w12.setCell ⟨w6.heap.size, 0, none⟩ (.int .i64 A1.1.1)).setCell ⟨w6.heap.size, 1, none⟩ (.int .i64 A1.1.2)) w8.heap.size A4.1.1 A4.1.2) := ⟨(cso (.inl hne68)).trans ((cso (.inl hne68)).trans z0), (cso (.inl hne68)).trans ((cso (.inl hne68)).trans z1)⟩
  have HY13 : Hid (Bx ((w12.setCell ⟨w6.heap.size, 0, none⟩ (.int .i64 A1.1.1)).setCell ⟨w6.heap.size, 1, none⟩ (.int .i64 A1.1.2)) w6.heap.size A1.1.1 A1.1.2) := ⟨(cso (.inr (by omega))).trans (css y0), css ((cso (.inr (by omega))).trans y1)⟩
  have HB13 : Hid (Below w.heap.size w ((w12.setCell ⟨w6.heap.size, 0, none⟩ (.int .i64 A1.1.1)).setCell ⟨w6.heap.size, 1, none⟩ (.int .i64 A1.1.2))) := (B12.setCell (p := ⟨w6.heap.size, 0, none⟩) hlo6 _).setCell (p := ⟨w6.heap.size, 1, none⟩) hlo6 _
  clear b12 h92 H91 B11 hR12 hne62 hne68 B12 x0 x1 z0 z1
  go_upto_region 23 with fail
  clear y0 y1 f0 f1
  generalize (w12.setCell ⟨w6.heap.size, 0, none⟩ (.int .i64 A1.1.1)).setCell ⟨w6.heap.size, 1, none⟩ (.int .i64 A1.1.2) = w13 at *
  obtain ⟨x0, x1⟩ := HX13.out
  have z0 := fun O => ka HZ13.out.1 O
  have z1 := fun O => ka HZ13.out.2 O
  have x0' := fun O => ka x0 O
  have x1' := fun O => ka x1 O
  go_wp2_with fail
  refine (HL5.out _).mono ?_
  rintro e w14 ⟨rfl, b14⟩
  have hl14 := Bx.new w13 A1.1.1 A1.1.2 25
  have hL14 := hl14.below b14
  have hR14 : RowF w14 w13.heap.size := RowF.kept ⟨_, _, heap_alloc_new w13 (.cells #[.int .i64 A1.1.1, .int .i64 A1.1.2] 25)⟩ (b14.block _ (by simp))
  have hY14 := (HY13.out.alloc (.cells #[.int .i64 A1.1.1, .int .i64 A1.1.2] 25)).below b14
  have hZ14 := (HZ13.out.alloc (.cells #[.int .i64 A1.1.1, .int .i64 A1.1.2] 25)).below b14
  have B14 : Below w.heap.size w w14 := belowA HB13.out (Nat.le_refl _) b14
  have hlt13 : w6.heap.size < w13.heap.size := World.block_lt_of_cell? w13 ⟨w6.heap.size, 0, none⟩ HY13.out.1
  have hle13 : w.heap.size ≤ w13.heap.size := HB13.out.size
  obtain ⟨l0', l1'⟩ := hL14
  obtain ⟨p0, p1⟩ := hY14
  obtain ⟨q0, q1⟩ := hZ14
  have g0 : w14.frozen? ⟨w13.heap.size, 0, none⟩ = false := hR14.frozen
  have g1 : w14.frozen? ⟨w13.heap.size, 1, none⟩ = false := hR14.frozen
  have hne1 : w13.heap.size ≠ w6.heap.size := by omega
  clear b14 hl14 hR14 z0 z1 x0 x1 x0' x1' HX13 HZ13 HY13 HB13 hlt13
  go_wp2
  go_ret
  exact ⟨rfl, B14⟩
end Go.Proofs.Ytfabfclbnekleab
namespace Go.Proofs.Ytfabfclbnekleab
open Go Go.RowKit

theorem nods_some {w : World} {a : Option Addr} {ds : List Nd} (h : Nods w a ds) (h0 : ds ≠ []) : ∃ b o, a = some ⟨b, o, none⟩ := by
  cases ds with
  | nil => exact absurd rfl h0
  | cons d r => obtain ⟨b, o, e, _⟩ := h 0 (by simp); exact ⟨b, o, e⟩
theorem bestWider_any (ds es : List Nd) (a o : Option Addr) (cap cap2 : Nat) (hc : ds.length ≤ cap) (hc2 : es.length ≤ cap2) (hle : (es.length : Int) ≤ 140737488355328) (wd : Int) (w : World) (hN : Nods w a ds) (hM : Nods w o es) :
    Calls Try.prog 3 #[.slice a ds.length cap, .slice o es.length cap2, .int .i64 wd] w fun e w' => e = .returned (.bool true) ∧ Below w.heap.size w w' := by
  by_cases h1 : bE ds wd = 0
  · by_cases hl : 400 ≤ ds.length + es.length
    · exact bestWider_b ds es a o cap cap2 hc hc2 hle wd w hN hM h1 hl
    · have hl' : ds.length + es.length < 400 := by omega
      obtain ⟨b1, o1, rfl⟩ := nods_some hN (bE_len h1).2
      by_cases h2 : bE es wd = 0
      · obtain ⟨b2, o2, rfl⟩ := nods_some hM (bE_len h2).2
        by_cases hw : wd < 100
        · cases hls : decide (lessC (bA es wd).1 (bA ds wd).1)
          · exact bestWider_f ds es b1 o1 b2 o2 cap cap2 hc hc2 hle wd w hN hM h1 hl' hw h2 hls
          · exact bestWider_e ds es b1 o1 b2 o2 cap cap2 hc hc2 hle wd w hN hM h1 hl' hw h2 hls
        · cases hls : decide (lessC (bA es wd).1 (bA ds wd).1)
          · exact bestWider_h ds es b1 o1 b2 o2 cap cap2 hc hc2 hle wd w hN hM h1 hl' hw h2 hls
          · exact bestWider_g ds es b1 o1 b2 o2 cap cap2 hc hc2 hle wd w hN hM h1 hl' hw h2 hls
      · by_cases hw : wd < 100
        · exact bestWider_c ds es b1 o1 o cap cap2 hc hc2 hle wd w hN hM h1 hl' hw h2
        · exact bestWider_d ds es b1 o1 o cap cap2 hc hc2 hle wd w hN hM h1 hl' hw h2
  · exact bestWider_a ds es a o cap cap2 hc hc2 hle wd w hN hM h1
end Go.Proofs.Ytfabfclbnekleab
