/- Some texts as one: LawBestWiderF, LawBestWider, LawBestWider2. -/
import Derived.Test.YtfabfclbnekleabBss
import Derived.Test.YtfabfclbnekleabNodApp
import Derived.Test.YtfabfclbnekleabNodTog
import Derived.Test.YtfabfclbnekleabRLs
namespace Go.Proofs.Ytfabfclbnekleab
open Go Go.RowKit

abbrev wFact : List Nd := [⟨9, ⟨#[]⟩, 0⟩, ⟨1, ⟨#[97, 98, 99]⟩, 0⟩, ⟨1, ⟨#[97]⟩, 0⟩]
theorem fact_two : bE wFact 2 = 0 ∧ bT wFact 2 = ⟨#[97]⟩ := by
  have hw : Tr.Wf (.two ⟨9, ⟨#[]⟩, 0⟩ (.leaf ⟨1, ⟨#[97, 98, 99]⟩, 0⟩) (.leaf ⟨1, ⟨#[97]⟩, 0⟩)) := ⟨by decide +kernel, by decide +kernel, ⟨by decide +kernel, by decide +kernel⟩, by decide +kernel, by decide +kernel⟩
  obtain ⟨h1, h2⟩ := bA_tree (ds := wFact) (wd := 2) hw rfl (by simp) (by omega)
  refine ⟨h1, ?_⟩
  have h3 : bA wFact ((2 : Nat) : Int) = ((0, 0), [1]) := by rw [h2]; decide +kernel
  rw [bT, if_pos (show bE wFact 2 = 0 from h1), show bA wFact 2 = ((0, 0), [1]) from h3, showD_tree (ds := wFact) hw rfl (by simp)]
  rfl
theorem nods_two (w : World) : Nods (w.alloc (.cells #[.int .i64 9, .string ⟨#[]⟩, .int .i64 0, .int .i64 1, .string ⟨#[97, 98, 99]⟩, .int .i64 0, .int .i64 1, .string ⟨#[97]⟩, .int .i64 0] 31)) (some ⟨w.heap.size, 0, none⟩) wFact := by
  intro i hi
  have h3 : i = 0 ∨ i = 1 ∨ i = 2 := by simp [wFact] at hi; omega
  rcases h3 with rfl | rfl | rfl
  all_goals exact ⟨w.heap.size, 0, rfl, by simp, by simp [go_sem, wFact], by simp [go_sem, wFact], by simp [go_sem, wFact]⟩
theorem best_two (w : World) : Calls Try.prog 5 #[.slice (some ⟨w.heap.size, 0, none⟩) 3 3, .int .i64 2] (w.alloc (.cells #[.int .i64 9, .string ⟨#[]⟩, .int .i64 0, .int .i64 1, .string ⟨#[97, 98, 99]⟩, .int .i64 0, .int .i64 1, .string ⟨#[97]⟩, .int .i64 0] 31))
    fun e w' => (∃ (n : Nat) (wa : Option Addr) (wc : Nat) (o l : Nat), e = .returned (.tuple #[.string ⟨#[97]⟩, .slice wa n wc, .agg #[.int .i64 o, .int .i64 l], .nilIface])) ∧ Below w.heap.size w w' := by
  refine (best_x wFact 2 (some ⟨w.heap.size, 0, none⟩) 3 (by simp) _ (nods_two w)).mono ?_
  rintro e w' ⟨⟨wa, wc, rfl, _⟩, hb⟩
  rw [fact_two.1, fact_two.2, errN_0]
  exact ⟨⟨_, wa, wc, _, _, rfl⟩, belowA (Below.refl _ _) (Nat.le_refl _) hb⟩
end Go.Proofs.Ytfabfclbnekleab
namespace Go.Proofs.Ytfabfclbnekleab
open Go Go.RowKit

set_option maxRecDepth 100000 in
set_option maxHeartbeats 1200000 in
theorem bestWider_a (ds es : List Nd) (a o : Option Addr) (cap cap2 : Nat) (hc : ds.length ≤ cap) (_hc2 : es.length ≤ cap2) (_hle : (es.length : Int) ≤ 140737488355328) (wd : Int) (w : World) (hN : Nods w (a) ds) (hM : Nods w (o) es) (h1 : bE ds wd ≠ 0) :
    Calls Try.prog 3 #[.slice (a) ds.length cap, .slice (o) es.length cap2, .int .i64 wd] w fun e w' => e = .returned (.bool true) ∧ Below w.heap.size w w' := by
  have HN : Hid (Nods w (a) ds) := hN
  have HM : Hid (Nods w (o) es) := hM
  have HB1 : Hid (∀ W, Nods W (a) ds → Calls Try.prog 5 #[.slice (a) ds.length cap, .int .i64 wd] W fun e w' => BestX (bT ds wd) (bA ds wd) (.iface 37 (.int .i64 (bE ds wd))) W e w') := fun W hW => by
    have := best_x ds wd (a) cap hc W hW
    rw [errN_ne h1] at this
    exact this
  generalize bT ds wd = T1 at *
  generalize bA ds wd = A1 at *
  clear hN hM
  go_enter Try.func3, Try.ntmps3
  go_wp2_with fail
  refine (best_two w).mono ?_
  rintro e w1 ⟨⟨n0, a0, c0, o0, l0, rfl⟩, B1⟩
  go_wp2_with fail
  refine (HB1.out _ (HN.out.below (belAl B1 _))).mono ?_
  rintro e w2 ⟨⟨a1, c1, rfl, _⟩, b2⟩
  have B2 : Below w.heap.size w w2 := belowA B1 (Nat.le_refl _) b2
  clear b2 B1
  go_wp2
  go_ret
  exact ⟨rfl, belAl B2 _⟩

set_option maxRecDepth 100000 in
set_option maxHeartbeats 1200000 in
theorem bestWider_b (ds es : List Nd) (a o : Option Addr) (cap cap2 : Nat) (hc : ds.length ≤ cap) (_hc2 : es.length ≤ cap2) (hle : (es.length : Int) ≤ 140737488355328) (wd : Int) (w : World) (hN : Nods w (a) ds) (hM : Nods w (o) es) (h1 : bE ds wd = 0) (hl : 400 ≤ ds.length + es.length) :
    Calls Try.prog 3 #[.slice (a) ds.length cap, .slice (o) es.length cap2, .int .i64 wd] w fun e w' => e = .returned (.bool true) ∧ Below w.heap.size w w' := by
  have HN : Hid (Nods w (a) ds) := hN
  have HM : Hid (Nods w (o) es) := hM
  have hl1 := (bE_len h1).1
  have hwr1 : IntKind.i64.wrap ((ds.length : Int) + es.length) = (ds.length : Int) + es.length := by rw [IntKind.wrap_i64]; omega
  have hlI : (400 : Int) ≤ (ds.length : Int) + es.length := by omega
  have HB1 : Hid (∀ W, Nods W (a) ds → Calls Try.prog 5 #[.slice (a) ds.length cap, .int .i64 wd] W fun e w' => BestX (bT ds wd) (bA ds wd) (.nilIface) W e w') := fun W hW => by
    have := best_x ds wd (a) cap hc W hW
    rw [h1, errN_0] at this
    exact this
  generalize bT ds wd = T1 at *
  generalize bA ds wd = A1 at *
  clear hN hM
  go_enter Try.func3, Try.ntmps3
  go_wp2_with fail
  refine (best_two w).mono ?_
  rintro e w1 ⟨⟨n0, a0, c0, o0, l0, rfl⟩, B1⟩
  go_wp2_with fail
  refine (HB1.out _ (HN.out.below (belAl B1 _))).mono ?_
  rintro e w2 ⟨⟨a1, c1, rfl, _⟩, b2⟩
  have B2 : Below w.heap.size w w2 := belowA B1 (Nat.le_refl _) b2
  clear b2 B1
  go_wp2
  go_ret
  exact ⟨rfl, belAl B2 _⟩
end Go.Proofs.Ytfabfclbnekleab
namespace Go.Proofs.Ytfabfclbnekleab
open Go Go.RowKit

set_option maxRecDepth 100000 in
set_option maxHeartbeats 1200000 in
theorem bestWider_c (ds es : List Nd) (b1 o1 : Nat) (o : Option Addr) (cap cap2 : Nat) (hc : ds.length ≤ cap) (hc2 : es.length ≤ cap2) (_hle : (es.length : Int) ≤ 140737488355328) (wd : Int) (w : World) (hN : Nods w (some ⟨b1, o1, none⟩) ds) (hM : Nods w (o) es) (h1 : bE ds wd = 0) (hl : ds.length + es.length < 400) (hw : wd < 100) (h2 : bE es wd ≠ 0) :
    Calls Try.prog 3 #[.slice (some ⟨b1, o1, none⟩) ds.length cap, .slice (o) es.length cap2, .int .i64 wd] w fun e w' => e = .returned (.bool true) ∧ Below w.heap.size w w' := by
  have HN : Hid (Nods w (some ⟨b1, o1, none⟩) ds) := hN
  have HM : Hid (Nods w (o) es) := hM
  obtain ⟨hl1, hne1⟩ := bE_len h1
  have hwr1 : IntKind.i64.wrap ((ds.length : Int) + es.length) = (ds.length : Int) + es.length := by rw [IntKind.wrap_i64]; omega
  have hlI : ¬ (400 : Int) ≤ (ds.length : Int) + es.length := by omega
  have hlt4 : ds.length + es.length ≤ 399 := by omega
  obtain ⟨i0, hi, hz0, hz1, hz2⟩ := info_parts ndInfo
  obtain ⟨gs, hgs⟩ : ∃ gs, gs = (⟨8, ⟨#[]⟩, 0⟩ :: ds : List Nd) := ⟨_, rfl⟩
  obtain ⟨hE2, hA2⟩ := bA_group h1 (by omega)
  rw [← hgs] at hE2 hA2
  have hgl : gs.length = 1 + ds.length := by rw [hgs]; simp; omega
  have HGC : Hid (ndCells gs = ndCells [⟨8, ⟨#[]⟩, 0⟩] ++ ndCells ds) := (show ndCells gs = ndCells [⟨8, ⟨#[]⟩, 0⟩] ++ ndCells ds by rw [hgs, ← ndCells_app]; rfl)
  have HGL : Hid (gs.length = 1 + ds.length) := hgl
  have HB2 : Hid (∀ W a3 c3, gs.length ≤ c3 → Nods W a3 gs → Calls Try.prog 5 #[.slice a3 gs.length c3, .int .i64 wd] W fun e w' => BestX (bT gs wd) (bA gs wd) .nilIface W e w') := fun W a3 c3 k1 k2 => by
    have := best_x gs wd a3 c3 k1 W k2
    rw [hE2, errN_0] at this
    exact this
  have HL2 : Hid (∀ W, Calls Try.prog 6 #[.agg #[.int .i64 ((bA ds wd).1.1 : Int), .int .i64 ((bA ds wd).1.2 : Int)], .agg #[.int .i64 ((bA gs wd).1.1 : Int), .int .i64 ((bA gs wd).1.2 : Int)]] W fun e w' => e = .returned (.bool false) ∧ Below W.heap.size W w') := fun W => by
    have := rless_nat (bA ds wd).1 (bA gs wd).1 W
    rw [decide_eq_false hA2] at this
    exact this
  have HB4 : Hid (∀ W, Nods W o es → Calls Try.prog 5 #[.slice o es.length cap2, .int .i64 wd] W fun e w' => BestX (bT es wd) (bA es wd) (.iface 37 (.int .i64 (bE es wd))) W e w') := fun W hW => by
    have := best_x es wd o cap2 hc2 W hW
    rw [errN_ne h2] at this
    exact this
  generalize bT es wd = T4 at *
  generalize bA es wd = A4 at *
  obtain ⟨hE1, hA1⟩ := bA_wider h1 hw
  have hww : IntKind.i64.wrap (wd + 1) = wd + 1 := by obtain ⟨_, n, rfl, hn⟩ := bE_zero h1; rw [IntKind.wrap_i64]; omega
  have HBW : Hid (∀ W, Nods W (some ⟨b1, o1, none⟩) ds → Calls Try.prog 5 #[.slice (some ⟨b1, o1, none⟩) ds.length cap, .int .i64 (wd + 1)] W fun e w' => BestX (bT ds (wd + 1)) (bA ds (wd + 1)) .nilIface W e w') := fun W hW => by
    have := best_x ds (wd + 1) (some ⟨b1, o1, none⟩) cap hc W hW
    rw [hE1, errN_0] at this
    exact this
  have HLW : Hid (∀ W, Calls Try.prog 6 #[.agg #[.int .i64 ((bA ds wd).1.1 : Int), .int .i64 ((bA ds wd).1.2 : Int)], .agg #[.int .i64 ((bA ds (wd + 1)).1.1 : Int), .int .i64 ((bA ds (wd + 1)).1.2 : Int)]] W fun e w' => e = .returned (.bool false) ∧ Below W.heap.size W w') := fun W => by
    have := rless_nat (bA ds wd).1 (bA ds (wd + 1)).1 W
    rw [decide_eq_false hA1] at this
    exact this
  generalize bA ds (wd + 1) = AW at *
  generalize bT ds (wd + 1) = TW at *
  clear hE1 hA1
  generalize bA gs wd = A2 at *
  generalize bT gs wd = T2 at *
  clear hE2 hA2 hgs hne1 hgl
  have HB1 : Hid (∀ W, Nods W (some ⟨b1, o1, none⟩) ds → Calls Try.prog 5 #[.slice (some ⟨b1, o1, none⟩) ds.length cap, .int .i64 wd] W fun e w' => BestX (bT ds wd) (bA ds wd) (.nilIface) W e w') := fun W hW => by
    have := best_x ds wd (some ⟨b1, o1, none⟩) cap hc W hW
    rw [h1, errN_0] at this
    exact this
  generalize bT ds wd = T1 at *
  generalize bA ds wd = A1 at *
  clear hN hM
  go_enter Try.func3, Try.ntmps3
  go_wp2_with fail
  refine (best_two w).mono ?_
  rintro e w1 ⟨⟨n0, a0, c0, o0, l0, rfl⟩, B1⟩
  go_wp2_with fail
  refine (HB1.out _ (HN.out.below (belAl B1 _))).mono ?_
  rintro e w2 ⟨⟨a1, c1, rfl, _⟩, b2⟩
  have B2 : Below w.heap.size w w2 := belowA B1 (Nat.le_refl _) b2
  clear b2 B1
  have hx1 := Bx.new w2 A1.1.1 A1.1.2 25
  go_wp2_with fail
  refine (HBW.out _ (HN.out.below (belAl B2 _))).mono ?_
  rintro e w3 ⟨⟨a3, c3, rfl, _⟩, b3⟩
  have B3 : Below w.heap.size w w3 := belowA B2 (Nat.le_refl _) b3
  have hX3 := hx1.below b3
  have x0 := fun O => ka hX3.1 O
  have x1 := fun O => ka hX3.2 O
  have HX3 : Hid (Bx w3 w2.heap.size A1.1.1 A1.1.2) := hX3
  clear hX3 hx1 b3 B2
  go_wp2_with fail
  refine (HLW.out _).mono ?_
  rintro e w4 ⟨rfl, b4⟩
  have B4 : Below w.heap.size w w4 := belowA B3 (Nat.le_refl _) b4
  have HX4 : Hid (Bx w4 w2.heap.size A1.1.1 A1.1.2) := (HX3.out.alloc _).below b4
  clear x0 x1 b4 B3 HX3
  have hown0 : (w4.alloc (.cells #[.int .i64 8, .string ⟨#[]⟩, .int .i64 0] 31)).ownsRow w4.heap.size 31 3 (.slice (some ⟨w4.heap.size, 0, none⟩) 1 1) 1 (ndCells [⟨8, ⟨#[]⟩, 0⟩]) :=
    ⟨rfl, .inr ⟨w4.heap.size, 1, #[.int .i64 8, .string ⟨#[]⟩, .int .i64 0], rfl, Nat.le_refl _, heap_alloc_new w4 _, Nat.le_refl _, by unfold maxLen; decide, rfl, rfl⟩⟩
  have HO : Hid ((w4.alloc (.cells #[.int .i64 8, .string ⟨#[]⟩, .int .i64 0] 31)).ownsRow w4.heap.size 31 3 (.slice (some ⟨w4.heap.size, 0, none⟩) 1 1) 1 (ndCells [⟨8, ⟨#[]⟩, 0⟩])) := hown0
  clear hown0
  go_wp2_with (at_builtin; refine wpList_append_own _ rfl _ _ 22 rfl w4.heap.size 31 i0 _ 3 32 Try.underlying22 hi hz0 hz1 hz2 rfl (by decide) _ _ _ rfl HO.out ⟨b1, o1, none⟩ ds.length cap (ndCells ds) rfl (ndCells_len ds) ?c1 (ndCells_one ds) ?c3 ?c4 ?c5 ?_)
  case c1 => exact nods_news (HN.out.below (belAl B4 _))
  case c3 => unfold maxLen; omega
  case c4 => omega
  case c5 => simp
  intro v5 w5 hown5 hgrow5 _
  have h45 : Below w4.heap.size w4 w5 := ((Below.refl _ w4).alloc (Nat.le_refl _) _).grown hgrow5 (by simp) (fun k hk => by simp only [Value.ownBlock, Option.some.injEq] at hk; omega)
  have B5 := belowT B4 (Nat.le_refl _) h45
  have HX5 : Hid (Bx w5 w2.heap.size A1.1.1 A1.1.2) := HX4.out.below h45
  rw [← HGC.out, ← HGL.out] at hown5
  obtain ⟨a5, c5, rfl⟩ := row_form hown5
  obtain ⟨_, k5, n5⟩ := own_nods hown5
  have HN5 : Hid (Nods w5 a5 gs) := n5
  clear hown5 hgrow5 HO n5 h45 B4 HX4
  go_wp2_with fail
  refine (HB2.out _ _ _ k5 HN5.out).mono ?_
  rintro e w6 ⟨⟨a6, c6, rfl, _⟩, b6⟩
  have B6 := belowT B5 (Nat.le_refl _) b6
  have hX6 := HX5.out.below b6
  have x0 := fun O => ka hX6.1 O
  have x1 := fun O => ka hX6.2 O
  have HX6 : Hid (Bx w6 w2.heap.size A1.1.1 A1.1.2) := hX6
  have hy6 := Bx.new w6 A2.1.1 A2.1.2 25
  clear hX6 b6 B5 HX5 HN5
  go_wp2_with fail
  refine (HL2.out _).mono ?_
  rintro e w7 ⟨rfl, b7⟩
  have B7 : Below w.heap.size w w7 := belowA B6 (Nat.le_refl _) b7
  have HX7 : Hid (Bx w7 w2.heap.size A1.1.1 A1.1.2) := (HX6.out.alloc _).below b7
  have HL26 : Hid (w2.heap.size < w6.heap.size) := World.block_lt_of_cell? w6 ⟨w2.heap.size, 0, none⟩ HX6.out.1
  have HL6 : Hid (w.heap.size ≤ w6.heap.size) := B6.size
  have HY7 : Hid (Bx w7 w6.heap.size A2.1.1 A2.1.2 ∧ RowF w7 w6.heap.size) := ⟨hy6.below b7, RowF.kept ⟨_, _, heap_alloc_new w6 (.cells #[.int .i64 A2.1.1, .int .i64 A2.1.2] 25)⟩ (b7.block _ (by simp))⟩
  clear x0 x1 b7 B6 HX6 hy6
  go_wp2_with fail
  refine (HB4.out _ (HM.out.below B7)).mono ?_
  rintro e w8 ⟨⟨a8, c8, rfl, _⟩, b8⟩
  have B8 := belowT B7 (Nat.le_refl _) b8
  go_wp2
  go_ret
  exact ⟨rfl, belAl B8 _⟩

set_option maxRecDepth 100000 in
set_option maxHeartbeats 1200000 in
theorem bestWider_d (ds es : List Nd) (b1 o1 : Nat) (o : Option Addr) (cap cap2 : Nat) (hc : ds.length ≤ cap) (hc2 : es.length ≤ cap2) (_hle : (es.length : Int) ≤ 140737488355328) (wd : Int) (w : World) (hN : Nods w (some ⟨b1, o1, none⟩) ds) (hM : Nods w (o) es) (h1 : bE ds wd = 0) (hl : ds.length + es.length < 400) (hw : ¬ wd < 100) (h2 : bE es wd ≠ 0) :
    Calls Try.prog 3 #[.slice (some ⟨b1, o1, none⟩) ds.length cap, .slice (o) es.length cap2, .int .i64 wd] w fun e w' => e = .returned (.bool true) ∧ Below w.heap.size w w' := by
  have HN : Hid (Nods w (some ⟨b1, o1, none⟩) ds) := hN
  have HM : Hid (Nods w (o) es) := hM
  obtain ⟨hl1, hne1⟩ := bE_len h1
  have hwr1 : IntKind.i64.wrap ((ds.length : Int) + es.length) = (ds.length : Int) + es.length := by rw [IntKind.wrap_i64]; omega
  have hlI : ¬ (400 : Int) ≤ (ds.length : Int) + es.length := by omega
  have hlt4 : ds.length + es.length ≤ 399 := by omega
  obtain ⟨i0, hi, hz0, hz1, hz2⟩ := info_parts ndInfo
  obtain ⟨gs, hgs⟩ : ∃ gs, gs = (⟨8, ⟨#[]⟩, 0⟩ :: ds : List Nd) := ⟨_, rfl⟩
  obtain ⟨hE2, hA2⟩ := bA_group h1 (by omega)
  rw [← hgs] at hE2 hA2
  have hgl : gs.length = 1 + ds.length := by rw [hgs]; simp; omega
  have HGC : Hid (ndCells gs = ndCells [⟨8, ⟨#[]⟩, 0⟩] ++ ndCells ds) := (show ndCells gs = ndCells [⟨8, ⟨#[]⟩, 0⟩] ++ ndCells ds by rw [hgs, ← ndCells_app]; rfl)
  have HGL : Hid (gs.length = 1 + ds.length) := hgl
  have HB2 : Hid (∀ W a3 c3, gs.length ≤ c3 → Nods W a3 gs → Calls Try.prog 5 #[.slice a3 gs.length c3, .int .i64 wd] W fun e w' => BestX (bT gs wd) (bA gs wd) .nilIface W e w') := fun W a3 c3 k1 k2 => by
    have := best_x gs wd a3 c3 k1 W k2
    rw [hE2, errN_0] at this
    exact this
  have HL2 : Hid (∀ W, Calls Try.prog 6 #[.agg #[.int .i64 ((bA ds wd).1.1 : Int), .int .i64 ((bA ds wd).1.2 : Int)], .agg #[.int .i64 ((bA gs wd).1.1 : Int), .int .i64 ((bA gs wd).1.2 : Int)]] W fun e w' => e = .returned (.bool false) ∧ Below W.heap.size W w') := fun W => by
    have := rless_nat (bA ds wd).1 (bA gs wd).1 W
    rw [decide_eq_false hA2] at this
    exact this
  have HB4 : Hid (∀ W, Nods W o es → Calls Try.prog 5 #[.slice o es.length cap2, .int .i64 wd] W fun e w' => BestX (bT es wd) (bA es wd) (.iface 37 (.int .i64 (bE es wd))) W e w') := fun W hW => by
    have := best_x es wd o cap2 hc2 W hW
    rw [errN_ne h2] at this
    exact this
  generalize bT es wd = T4 at *
  generalize bA es wd = A4 at *
  generalize bA gs wd = A2 at *
  generalize bT gs wd = T2 at *
  clear hE2 hA2 hgs hne1 hgl
  have HB1 : Hid (∀ W, Nods W (some ⟨b1, o1, none⟩) ds → Calls Try.prog 5 #[.slice (some ⟨b1, o1, none⟩) ds.length cap, .int .i64 wd] W fun e w' => BestX (bT ds wd) (bA ds wd) (.nilIface) W e w') := fun W hW => by
    have := best_x ds wd (some ⟨b1, o1, none⟩) cap hc W hW
    rw [h1, errN_0] at this
    exact this
  generalize bT ds wd = T1 at *
  generalize bA ds wd = A1 at *
  clear hN hM
  go_enter Try.func3, Try.ntmps3
  go_wp2_with fail
  refine (best_two w).mono ?_
  rintro e w1 ⟨⟨n0, a0, c0, o0, l0, rfl⟩, B1⟩
  go_wp2_with fail
  refine (HB1.out _ (HN.out.below (belAl B1 _))).mono ?_
  rintro e w2 ⟨⟨a1, c1, rfl, _⟩, b2⟩
  have B2 : Below w.heap.size w w2 := belowA B1 (Nat.le_refl _) b2
  clear b2 B1
  go_upto_region 11 with fail
  generalize hW4 : w2.alloc (.cells #[.int .i64 A1.1.1, .int .i64 A1.1.2] 25) = w4
  have B4 : Below w.heap.size w w4 := by rw [← hW4]; exact belAl B2 _
  have HX4 : Hid (Bx w4 w2.heap.size A1.1.1 A1.1.2) := by rw [← hW4]; exact Bx.new _ _ _ _
  clear B2 hW4
  have hown0 : (w4.alloc (.cells #[.int .i64 8, .string ⟨#[]⟩, .int .i64 0] 31)).ownsRow w4.heap.size 31 3 (.slice (some ⟨w4.heap.size, 0, none⟩) 1 1) 1 (ndCells [⟨8, ⟨#[]⟩, 0⟩]) :=
    ⟨rfl, .inr ⟨w4.heap.size, 1, #[.int .i64 8, .string ⟨#[]⟩, .int .i64 0], rfl, Nat.le_refl _, heap_alloc_new w4 _, Nat.le_refl _, by unfold maxLen; decide, rfl, rfl⟩⟩
  have HO : Hid ((w4.alloc (.cells #[.int .i64 8, .string ⟨#[]⟩, .int .i64 0] 31)).ownsRow w4.heap.size 31 3 (.slice (some ⟨w4.heap.size, 0, none⟩) 1 1) 1 (ndCells [⟨8, ⟨#[]⟩, 0⟩])) := hown0
  clear hown0
  go_wp2_with (at_builtin; refine wpList_append_own _ rfl _ _ 22 rfl w4.heap.size 31 i0 _ 3 32 Try.underlying22 hi hz0 hz1 hz2 rfl (by decide) _ _ _ rfl HO.out ⟨b1, o1, none⟩ ds.length cap (ndCells ds) rfl (ndCells_len ds) ?c1 (ndCells_one ds) ?c3 ?c4 ?c5 ?_)
  case c1 => exact nods_news (HN.out.below (belAl B4 _))
  case c3 => unfold maxLen; omega
  case c4 => omega
  case c5 => simp
  intro v5 w5 hown5 hgrow5 _
  have h45 : Below w4.heap.size w4 w5 := ((Below.refl _ w4).alloc (Nat.le_refl _) _).grown hgrow5 (by simp) (fun k hk => by simp only [Value.ownBlock, Option.some.injEq] at hk; omega)
  have B5 := belowT B4 (Nat.le_refl _) h45
  have HX5 : Hid (Bx w5 w2.heap.size A1.1.1 A1.1.2) := HX4.out.below h45
  rw [← HGC.out, ← HGL.out] at hown5
  obtain ⟨a5, c5, rfl⟩ := row_form hown5
  obtain ⟨_, k5, n5⟩ := own_nods hown5
  have HN5 : Hid (Nods w5 a5 gs) := n5
  clear hown5 hgrow5 HO n5 h45 B4 HX4
  go_wp2_with fail
  refine (HB2.out _ _ _ k5 HN5.out).mono ?_
  rintro e w6 ⟨⟨a6, c6, rfl, _⟩, b6⟩
  have B6 := belowT B5 (Nat.le_refl _) b6
  have hX6 := HX5.out.below b6
  have x0 := fun O => ka hX6.1 O
  have x1 := fun O => ka hX6.2 O
  have HX6 : Hid (Bx w6 w2.heap.size A1.1.1 A1.1.2) := hX6
  have hy6 := Bx.new w6 A2.1.1 A2.1.2 25
  clear hX6 b6 B5 HX5 HN5
  go_wp2_with fail
  refine (HL2.out _).mono ?_
  rintro e w7 ⟨rfl, b7⟩
  have B7 : Below w.heap.size w w7 := belowA B6 (Nat.le_refl _) b7
  have HX7 : Hid (Bx w7 w2.heap.size A1.1.1 A1.1.2) := (HX6.out.alloc _).below b7
  have HL26 : Hid (w2.heap.size < w6.heap.size) := World.block_lt_of_cell? w6 ⟨w2.heap.size, 0, none⟩ HX6.out.1
  have HL6 : Hid (w.heap.size ≤ w6.heap.size) := B6.size
  have HY7 : Hid (Bx w7 w6.heap.size A2.1.1 A2.1.2 ∧ RowF w7 w6.heap.size) := ⟨hy6.below b7, RowF.kept ⟨_, _, heap_alloc_new w6 (.cells #[.int .i64 A2.1.1, .int .i64 A2.1.2] 25)⟩ (b7.block _ (by simp))⟩
  clear x0 x1 b7 B6 HX6 hy6
  go_wp2_with fail
  refine (HB4.out _ (HM.out.below B7)).mono ?_
  rintro e w8 ⟨⟨a8, c8, rfl, _⟩, b8⟩
  have B8 := belowT B7 (Nat.le_refl _) b8
  go_wp2
  go_ret
  exact ⟨rfl, belAl B8 _⟩
end Go.Proofs.Ytfabfclbnekleab
