/- Some texts as one: LstP, AhdN, LawBestLeast. -/
import Derived.Test.YtfabfclbnekleaaBss
import Derived.Test.YtfabfclbnekleaaBstC
import Derived.Test.YtfabfclbnekleaaRCst
import Derived.Test.YtfabfclbnekleaaDocD
namespace Go.Proofs.Ytfabfclbnekleaa

theorem bT_cost {ds : List Nd} {wd : Int} (h : bE ds wd = 0) : shE (showD ds (bA ds wd).2) = 0 ∧ shS (showD ds (bA ds wd).2) = bT ds wd ∧ (bT ds wd).size ≤ 1600000
    ∧ (stL wd (bT ds wd).data.toList).1 = ((bA ds wd).1.1 : Int) ∧ (stL wd (bT ds wd).data.toList).2.1 = ((bA ds wd).1.2 : Int) := by
  have e1 : bT ds wd = shS (showD ds (bA ds wd).2) := by rw [bT, if_pos h]
  obtain ⟨t, n, ht, hd, hl, rfl, hn, e, hb⟩ := bA_of h
  obtain ⟨hin, hsh, hc, _⟩ := best_least hb
  have e2 : showD ds (bA ds n).2 = .ok (t.txt (bA ds n).2) := by rw [showD_tree ht hd hl, hsh]
  have e3 := (showD_len e2).1
  rw [e1, e2]
  have e4 : (shS (.ok (t.txt (bA ds n).2))).data.toList = t.txt (bA ds n).2 := by simp [shS]
  refine ⟨rfl, rfl, ?_, ?_, ?_⟩
  · rw [Lib.size_eq, e4]; exact e3
  · rw [e4, col_stL]; conv => rhs; rw [hc]
    rfl
  · rw [e4, col_stL]; conv => rhs; rw [hc]
    rfl
theorem bT_least {ds : List Nd} {wd : Int} (h : bE ds wd = 0) (ws : List Int) (u : List UInt8) (hu : showD ds ws = .ok u) :
    ∃ K : Nat × Nat, (stL wd u).1 = (K.1 : Int) ∧ (stL wd u).2.1 = (K.2 : Int) ∧ ¬ lessC K (bA ds wd).1 ∧ (K = (bA ds wd).1 → ¬ aheadL ws (bA ds wd).2) := by
  obtain ⟨t, n, ht, hd, hl, rfl, hn, e, hb⟩ := bA_of h
  obtain ⟨_, _, _, hle⟩ := best_least hb
  rw [showD_tree ht hd hl] at hu
  have hin : ws ∈ t.ways := (show_ways t ws).1 ⟨u, hu⟩
  have ht' : t.txt ws = u := by rw [Tr.txt, hu]
  obtain ⟨k1, k2⟩ := hle ws hin
  refine ⟨t.cst n ws, ?_, ?_, k1, k2⟩
  · rw [col_stL, Tr.cst, ht']
  · rw [col_stL, Tr.cst, ht']
end Go.Proofs.Ytfabfclbnekleaa
namespace Go.Proofs.Ytfabfclbnekleaa
open Go Go.RowKit

theorem aheadL_of : ∀ {xs ys : List Int} (j : Nat) (h1 : j < xs.length) (h2 : j < ys.length), (∀ i (h1 : i < xs.length) (h2 : i < ys.length), i < j → xs[i] = ys[i]) → xs[j] < ys[j] → aheadL xs ys
  | x :: xs, y :: ys, j, h1, h2, hp, hl => by
    simp only [aheadL]
    cases j with
    | zero =>
      have hl' : x < y := hl
      rw [if_neg (by omega)]
      exact hl'
    | succ j =>
      have e : x = y := hp 0 (by simp) (by simp) (by omega)
      rw [if_pos e]
      refine aheadL_of j (by simpa using h1) (by simpa using h2) (fun i g1 g2 hi => ?_) (by simpa using hl)
      have := hp (i + 1) (by simpa using g1) (by simpa using g2) (by omega)
      simpa using this

set_option maxRecDepth 100000 in
set_option maxHeartbeats 1000000 in
theorem lahead_no (xs ys : List Int) (a b : Option Addr) (ca cb : Nat) (w : World) (hx : Ints w a xs) (hy : Ints w b ys) (hl : xs.length ≤ 1000000) (h : ¬ aheadL xs ys) :
    Calls Try.prog 16 #[.slice a xs.length ca, .slice b ys.length cb] w fun e w' => e = .returned (.bool false) ∧ ∃ q, w' = w.drewN q := by
  have HX : Hid (Ints w a xs) := hx
  have HY : Hid (Ints w b ys) := hy
  have HP : Hid (¬ aheadL xs ys) := h
  clear hx hy h
  go_enter Try.func16, Try.ntmps16
  go_wp2
  go_loopw [5] (fun i wr => (∃ q : Nat, wr = w.drewN q) ∧ ∃ j : Nat, j ≤ xs.length ∧ i = .int .i64 j ∧ (∀ i (h1 : i < xs.length) (h2 : i < ys.length), i < j → xs[i] = ys[i])) (fun i _ => xs.length - (intOf i).toNat)
  case atStart => exact ⟨⟨0, rfl⟩, 0, Nat.zero_le _, rfl, fun i _ _ h => by omega⟩
  case round =>
    obtain ⟨⟨q, rfl⟩, j, hj, rfl, hpre⟩ := hrel
    have HQ : Hid (∀ i (h1 : i < xs.length) (h2 : i < ys.length), i < j → xs[i] = ys[i]) := hpre
    clear hpre
    by_cases hj1 : j < xs.length
    · by_cases hj2 : j < ys.length
      · have hi1 : (j : Int) < (xs.length : Int) := by omega
        have hi2 : (j : Int) < (ys.length : Int) := by omega
        obtain ⟨b1, o1, ea, _, c1⟩ := HX.out j hj1
        obtain ⟨b2, o2, eb, _, c2⟩ := HY.out j hj2
        subst ea eb
        by_cases he : xs[j] = ys[j]
        · have HE : Hid (xs[j] = ys[j]) := he
          rw [he] at c1
          clear he
          generalize ys[j] = z at c1 c2
          go_wp2_with fail
          go_quiet (fail)
          go_wp2
          go_roundw
          case rel =>
            refine ⟨⟨_, rfl⟩, j + 1, by omega, by go_num, fun i g1 g2 hi => ?_⟩
            by_cases hij : i = j
            · subst hij; exact HE.out
            · exact HQ.out i g1 g2 (by omega)
          case measure => simp [intOf]; omega
        · have hnl : ¬ xs[j] < ys[j] := fun hlt => HP.out (aheadL_of j hj1 hj2 HQ.out hlt)
          generalize xs[j] = z1 at c1 hnl he
          generalize ys[j] = z2 at c2 hnl he
          have hne : (z1 != z2) = true := by simp [he]
          have hdl : decide (z1 < z2) = false := decide_eq_false hnl
          clear he hnl
          go_wp2_with fail
          go_quiet (fail)
          go_wp2_with fail
          go_quiet (fail)
          go_wp2
          go_ret
          exact ⟨rfl, _, by rw [World.drewN_drewN, World.drewN_drewN]⟩
      · have hi1 : (j : Int) < (xs.length : Int) := by omega
        have hi2 : ¬ (j : Int) < (ys.length : Int) := by omega
        go_wp2
        go_ret
        exact ⟨rfl, _, rfl⟩
    · have hi1 : ¬ (j : Int) < (xs.length : Int) := by omega
      go_wp2
      go_ret
      exact ⟨rfl, _, rfl⟩
end Go.Proofs.Ytfabfclbnekleaa
namespace Go.Proofs.Ytfabfclbnekleaa
open Go Go.RowKit

abbrev lFact : List Nd := [⟨8, ⟨#[]⟩, 0⟩, ⟨6, ⟨#[]⟩, 0⟩, ⟨1, ⟨#[97, 98]⟩, 0⟩, ⟨6, ⟨#[]⟩, 0⟩, ⟨2, ⟨#[]⟩, 0⟩, ⟨1, ⟨#[99]⟩, 0⟩]
theorem fact_six : bE lFact 3 = 0 ∧ bA lFact 3 = ((0, 1), [1]) ∧ bT lFact 3 = ⟨#[97, 98, 10, 99]⟩ := by
  have hw : Tr.Wf (.one ⟨8, ⟨#[]⟩, 0⟩ (.two ⟨6, ⟨#[]⟩, 0⟩ (.leaf ⟨1, ⟨#[97, 98]⟩, 0⟩) (.two ⟨6, ⟨#[]⟩, 0⟩ (.leaf ⟨2, ⟨#[]⟩, 0⟩) (.leaf ⟨1, ⟨#[99]⟩, 0⟩)))) :=
    ⟨by decide +kernel, by decide +kernel, by decide +kernel, by decide +kernel, ⟨by decide +kernel, by decide +kernel⟩, by decide +kernel, by decide +kernel, ⟨by decide +kernel, by decide +kernel⟩, by decide +kernel, by decide +kernel⟩
  obtain ⟨h1, h2⟩ := bA_tree (ds := lFact) (wd := 3) hw rfl (by simp) (by omega)
  have h3 : bA lFact ((3 : Nat) : Int) = ((0, 1), [1]) := by rw [h2]; decide +kernel
  refine ⟨h1, h3, ?_⟩
  rw [bT, if_pos (show bE lFact 3 = 0 from h1), show bA lFact 3 = ((0, 1), [1]) from h3, showD_tree (ds := lFact) hw rfl (by simp)]
  rfl
theorem nods_six (w : World) : Nods (w.alloc (.cells #[.int .i64 8, .string ⟨#[]⟩, .int .i64 0, .int .i64 6, .string ⟨#[]⟩, .int .i64 0, .int .i64 1, .string ⟨#[97, 98]⟩, .int .i64 0, .int .i64 6, .string ⟨#[]⟩, .int .i64 0, .int .i64 2, .string ⟨#[]⟩, .int .i64 0, .int .i64 1, .string ⟨#[99]⟩, .int .i64 0] 37)) (some ⟨w.heap.size, 0, none⟩) lFact := by
  intro i hi
  have h3 : i = 0 ∨ i = 1 ∨ i = 2 ∨ i = 3 ∨ i = 4 ∨ i = 5 := by simp [lFact] at hi; omega
  rcases h3 with rfl | rfl | rfl | rfl | rfl | rfl
  all_goals exact ⟨w.heap.size, 0, rfl, by simp, by simp [go_sem, lFact], by simp [go_sem, lFact], by simp [go_sem, lFact]⟩
theorem best_six (w : World) : Calls Try.prog 18 #[.slice (some ⟨w.heap.size, 0, none⟩) 6 6, .int .i64 3] (w.alloc (.cells #[.int .i64 8, .string ⟨#[]⟩, .int .i64 0, .int .i64 6, .string ⟨#[]⟩, .int .i64 0, .int .i64 1, .string ⟨#[97, 98]⟩, .int .i64 0, .int .i64 6, .string ⟨#[]⟩, .int .i64 0, .int .i64 2, .string ⟨#[]⟩, .int .i64 0, .int .i64 1, .string ⟨#[99]⟩, .int .i64 0] 37))
    fun e w' => (∃ (wa : Option Addr) (wc : Nat), e = .returned (.tuple #[.string ⟨#[97, 98, 10, 99]⟩, .slice wa 1 wc, .agg #[.int .i64 0, .int .i64 1], .nilIface])) ∧ Below w.heap.size w w' := by
  refine (best_x lFact 3 (some ⟨w.heap.size, 0, none⟩) 6 (by simp) _ (nods_six w)).mono ?_
  rintro e w' ⟨⟨wa, wc, rfl, _⟩, hb⟩
  rw [fact_six.1, fact_six.2.1, fact_six.2.2, errN_0]
  exact ⟨⟨wa, wc, rfl⟩, belowA (Below.refl _ _) (Nat.le_refl _) hb⟩

set_option maxRecDepth 100000 in
set_option maxHeartbeats 1200000 in
theorem bestLeast_a (ds : List Nd) (ws : List Int) (a o : Option Addr) (cap wc : Nat) (hc : ds.length ≤ cap) (_hwc : ws.length ≤ wc) (_hwl : ws.length ≤ 9223372036854775807) (wd : Int) (w : World) (hN : Nods w a ds) (_hI : Ints w o ws) (h1 : bE ds wd ≠ 0) (h0 : docF ds ≠ 0) :
    Calls Try.prog 7 #[.slice a ds.length cap, .int .i64 wd, .slice o ws.length wc] w fun e w' => e = .returned (.bool true) ∧ Below w.heap.size w w' := by
  have HN : Hid (Nods w a ds) := hN
  have HF : Hid (∀ W, Nods W a ds → Calls Try.prog 19 #[.slice a ds.length cap] W fun e w' => e = .returned (.int .i64 (docF ds)) ∧ Below W.heap.size W w') := fun W hW => by
    have := rfault_any ds a cap W hW
    exact this
  have hd : (docF ds != 0) = true := by simp [h0]
  generalize docF ds = df at *
  have HB1 : Hid (∀ W, Nods W a ds → Calls Try.prog 18 #[.slice a ds.length cap, .int .i64 wd] W fun e w' => BestX (bT ds wd) (bA ds wd) (.iface 51 (.int .i64 (bE ds wd))) W e w') := fun W hW => by
    have := best_x ds wd a cap hc W hW
    rw [errN_ne h1] at this
    exact this
  generalize bT ds wd = T1 at *
  generalize bA ds wd = A1 at *
  clear hN
  go_enter Try.func7, Try.ntmps7
  go_wp2_with fail
  refine (best_six w).mono ?_
  rintro e w1 ⟨⟨a0, c0, rfl⟩, B1⟩
  have hx1 := Bx.new w1 0 1 23
  have hr1 : RowF (w1.alloc (.cells #[.int .i64 0, .int .i64 1] 23)) w1.heap.size := ⟨_, _, heap_alloc_new w1 _⟩
  go_wp2_with fail
  refine (HB1.out _ (HN.out.below (belAl B1 _))).mono ?_
  rintro e w2 ⟨⟨a1, c1, rfl, ow1⟩, b2⟩
  have B2 : Below w.heap.size w w2 := belowA B1 (Nat.le_refl _) b2
  have hlo : w.heap.size ≤ w1.heap.size := B1.size
  have hlt2 : w1.heap.size < w2.heap.size := by have := b2.size; simp at this; omega
  obtain ⟨y0, y1⟩ := hx1.below b2
  have hR2 : RowF w2 w1.heap.size := hr1.kept (b2.block _ (by simp))
  have f0 : w2.frozen? ⟨w1.heap.size, 0, none⟩ = false := hR2.frozen
  have f1 : w2.frozen? ⟨w1.heap.size, 1, none⟩ = false := hR2.frozen
  have HB3 : Hid (Below w.heap.size w ((w2.setCell ⟨w1.heap.size, 0, none⟩ (.int .i64 A1.1.1)).setCell ⟨w1.heap.size, 1, none⟩ (.int .i64 A1.1.2))) := (B2.setCell (p := ⟨w1.heap.size, 0, none⟩) hlo _).setCell (p := ⟨w1.heap.size, 1, none⟩) hlo _
  have HX3 : Hid (Bx ((w2.setCell ⟨w1.heap.size, 0, none⟩ (.int .i64 A1.1.1)).setCell ⟨w1.heap.size, 1, none⟩ (.int .i64 A1.1.2)) w1.heap.size A1.1.1 A1.1.2) := ⟨(cso (.inr (by omega))).trans (css y0), css ((cso (.inr (by omega))).trans y1)⟩
  have HO3 : Hid (((w2.setCell ⟨w1.heap.size, 0, none⟩ (.int .i64 A1.1.1)).setCell ⟨w1.heap.size, 1, none⟩ (.int .i64 A1.1.2)).ownsRow w.heap.size 3 1 (.slice a1 A1.2.length c1) A1.2.length (intCells A1.2)) := by
    refine row_base (row_kept ow1 fun k hk => ?_) (by simp; omega)
    have hk1 := row_lo ow1 hk
    simp at hk1
    exact (Below.heap_setCell _ _ _ _ (by simp; omega)).trans (Below.heap_setCell _ _ _ _ (by simp; omega))
  clear hR2 hx1 hr1 b2 B1 ow1
  go_wp2_with fail
  generalize (w2.setCell ⟨w1.heap.size, 0, none⟩ (.int .i64 A1.1.1)).setCell ⟨w1.heap.size, 1, none⟩ (.int .i64 A1.1.2) = w3 at *
  clear y0 y1 f0 f1 B2
  refine (HF.out _ (HN.out.below HB3.out)).mono ?_
  rintro e w4 ⟨rfl, b4⟩
  have B4 := belowT HB3.out (Nat.le_refl _) b4
  go_wp2
  go_ret
  exact ⟨rfl, B4⟩

set_option maxRecDepth 100000 in
set_option maxHeartbeats 1200000 in
theorem bestLeast_b (ds : List Nd) (ws : List Int) (a o : Option Addr) (cap wc : Nat) (hc : ds.length ≤ cap) (_hwc : ws.length ≤ wc) (_hwl : ws.length ≤ 9223372036854775807) (wd : Int) (w : World) (hN : Nods w a ds) (_hI : Ints w o ws) (h1 : bE ds wd ≠ 0) (h0 : docF ds = 0) (hw : wd < 0) :
    Calls Try.prog 7 #[.slice a ds.length cap, .int .i64 wd, .slice o ws.length wc] w fun e w' => e = .returned (.bool true) ∧ Below w.heap.size w w' := by
  have HN : Hid (Nods w a ds) := hN
  have HF : Hid (∀ W, Nods W a ds → Calls Try.prog 19 #[.slice a ds.length cap] W fun e w' => e = .returned (.int .i64 0) ∧ Below W.heap.size W w') := fun W hW => by
    have := rfault_any ds a cap W hW
    rw [h0] at this
    exact this
  have HB1 : Hid (∀ W, Nods W a ds → Calls Try.prog 18 #[.slice a ds.length cap, .int .i64 wd] W fun e w' => BestX (bT ds wd) (bA ds wd) (.iface 51 (.int .i64 (bE ds wd))) W e w') := fun W hW => by
    have := best_x ds wd a cap hc W hW
    rw [errN_ne h1] at this
    exact this
  generalize bT ds wd = T1 at *
  generalize bA ds wd = A1 at *
  clear hN
  go_enter Try.func7, Try.ntmps7
  go_wp2_with fail
  refine (best_six w).mono ?_
  rintro e w1 ⟨⟨a0, c0, rfl⟩, B1⟩
  have hx1 := Bx.new w1 0 1 23
  have hr1 : RowF (w1.alloc (.cells #[.int .i64 0, .int .i64 1] 23)) w1.heap.size := ⟨_, _, heap_alloc_new w1 _⟩
  go_wp2_with fail
  refine (HB1.out _ (HN.out.below (belAl B1 _))).mono ?_
  rintro e w2 ⟨⟨a1, c1, rfl, ow1⟩, b2⟩
  have B2 : Below w.heap.size w w2 := belowA B1 (Nat.le_refl _) b2
  have hlo : w.heap.size ≤ w1.heap.size := B1.size
  have hlt2 : w1.heap.size < w2.heap.size := by have := b2.size; simp at this; omega
  obtain ⟨y0, y1⟩ := hx1.below b2
  have hR2 : RowF w2 w1.heap.size := hr1.kept (b2.block _ (by simp))
  have f0 : w2.frozen? ⟨w1.heap.size, 0, none⟩ = false := hR2.frozen
  have f1 : w2.frozen? ⟨w1.heap.size, 1, none⟩ = false := hR2.frozen
  have HB3 : Hid (Below w.heap.size w ((w2.setCell ⟨w1.heap.size, 0, none⟩ (.int .i64 A1.1.1)).setCell ⟨w1.heap.size, 1, none⟩ (.int .i64 A1.1.2))) := (B2.setCell (p := ⟨w1.heap.size, 0, none⟩) hlo _).setCell (p := ⟨w1.heap.size, 1, none⟩) hlo _
  have HX3 : Hid (Bx ((w2.setCell ⟨w1.heap.size, 0, none⟩ (.int .i64 A1.1.1)).setCell ⟨w1.heap.size, 1, none⟩ (.int .i64 A1.1.2)) w1.heap.size A1.1.1 A1.1.2) := ⟨(cso (.inr (by omega))).trans (css y0), css ((cso (.inr (by omega))).trans y1)⟩
  have HO3 : Hid (((w2.setCell ⟨w1.heap.size, 0, none⟩ (.int .i64 A1.1.1)).setCell ⟨w1.heap.size, 1, none⟩ (.int .i64 A1.1.2)).ownsRow w.heap.size 3 1 (.slice a1 A1.2.length c1) A1.2.length (intCells A1.2)) := by
    refine row_base (row_kept ow1 fun k hk => ?_) (by simp; omega)
    have hk1 := row_lo ow1 hk
    simp at hk1
    exact (Below.heap_setCell _ _ _ _ (by simp; omega)).trans (Below.heap_setCell _ _ _ _ (by simp; omega))
  clear hR2 hx1 hr1 b2 B1 ow1
  go_wp2_with fail
  generalize (w2.setCell ⟨w1.heap.size, 0, none⟩ (.int .i64 A1.1.1)).setCell ⟨w1.heap.size, 1, none⟩ (.int .i64 A1.1.2) = w3 at *
  clear y0 y1 f0 f1 B2
  refine (HF.out _ (HN.out.below HB3.out)).mono ?_
  rintro e w4 ⟨rfl, b4⟩
  have B4 := belowT HB3.out (Nat.le_refl _) b4
  go_wp2
  go_ret
  exact ⟨rfl, B4⟩

set_option maxRecDepth 100000 in
set_option maxHeartbeats 1200000 in
theorem bestLeast_c (ds : List Nd) (ws : List Int) (a o : Option Addr) (cap wc : Nat) (hc : ds.length ≤ cap) (_hwc : ws.length ≤ wc) (_hwl : ws.length ≤ 9223372036854775807) (wd : Int) (w : World) (hN : Nods w a ds) (_hI : Ints w o ws) (h1 : bE ds wd ≠ 0) (h0 : docF ds = 0) (hw0 : ¬ wd < 0) (hw : 100 < wd) :
    Calls Try.prog 7 #[.slice a ds.length cap, .int .i64 wd, .slice o ws.length wc] w fun e w' => e = .returned (.bool true) ∧ Below w.heap.size w w' := by
  have HN : Hid (Nods w a ds) := hN
  have HF : Hid (∀ W, Nods W a ds → Calls Try.prog 19 #[.slice a ds.length cap] W fun e w' => e = .returned (.int .i64 0) ∧ Below W.heap.size W w') := fun W hW => by
    have := rfault_any ds a cap W hW
    rw [h0] at this
    exact this
  have HB1 : Hid (∀ W, Nods W a ds → Calls Try.prog 18 #[.slice a ds.length cap, .int .i64 wd] W fun e w' => BestX (bT ds wd) (bA ds wd) (.iface 51 (.int .i64 (bE ds wd))) W e w') := fun W hW => by
    have := best_x ds wd a cap hc W hW
    rw [errN_ne h1] at this
    exact this
  generalize bT ds wd = T1 at *
  generalize bA ds wd = A1 at *
  clear hN
  go_enter Try.func7, Try.ntmps7
  go_wp2_with fail
  refine (best_six w).mono ?_
  rintro e w1 ⟨⟨a0, c0, rfl⟩, B1⟩
  have hx1 := Bx.new w1 0 1 23
  have hr1 : RowF (w1.alloc (.cells #[.int .i64 0, .int .i64 1] 23)) w1.heap.size := ⟨_, _, heap_alloc_new w1 _⟩
  go_wp2_with fail
  refine (HB1.out _ (HN.out.below (belAl B1 _))).mono ?_
  rintro e w2 ⟨⟨a1, c1, rfl, ow1⟩, b2⟩
  have B2 : Below w.heap.size w w2 := belowA B1 (Nat.le_refl _) b2
  have hlo : w.heap.size ≤ w1.heap.size := B1.size
  have hlt2 : w1.heap.size < w2.heap.size := by have := b2.size; simp at this; omega
  obtain ⟨y0, y1⟩ := hx1.below b2
  have hR2 : RowF w2 w1.heap.size := hr1.kept (b2.block _ (by simp))
  have f0 : w2.frozen? ⟨w1.heap.size, 0, none⟩ = false := hR2.frozen
  have f1 : w2.frozen? ⟨w1.heap.size, 1, none⟩ = false := hR2.frozen
  have HB3 : Hid (Below w.heap.size w ((w2.setCell ⟨w1.heap.size, 0, none⟩ (.int .i64 A1.1.1)).setCell ⟨w1.heap.size, 1, none⟩ (.int .i64 A1.1.2))) := (B2.setCell (p := ⟨w1.heap.size, 0, none⟩) hlo _).setCell (p := ⟨w1.heap.size, 1, none⟩) hlo _
  have HX3 : Hid (Bx ((w2.setCell ⟨w1.heap.size, 0, none⟩ (.int .i64 A1.1.1)).setCell ⟨w1.heap.size, 1, none⟩ (.int .i64 A1.1.2)) w1.heap.size A1.1.1 A1.1.2) := ⟨(cso (.inr (by omega))).trans (css y0), css ((cso (.inr (by omega))).trans y1)⟩
  have HO3 : Hid (((w2.setCell ⟨w1.heap.size, 0, none⟩ (.int .i64 A1.1.1)).setCell ⟨w1.heap.size, 1, none⟩ (.int .i64 A1.1.2)).ownsRow w.heap.size 3 1 (.slice a1 A1.2.length c1) A1.2.length (intCells A1.2)) := by
    refine row_base (row_kept ow1 fun k hk => ?_) (by simp; omega)
    have hk1 := row_lo ow1 hk
    simp at hk1
    exact (Below.heap_setCell _ _ _ _ (by simp; omega)).trans (Below.heap_setCell _ _ _ _ (by simp; omega))
  clear hR2 hx1 hr1 b2 B1 ow1
  go_wp2_with fail
  generalize (w2.setCell ⟨w1.heap.size, 0, none⟩ (.int .i64 A1.1.1)).setCell ⟨w1.heap.size, 1, none⟩ (.int .i64 A1.1.2) = w3 at *
  clear y0 y1 f0 f1 B2
  refine (HF.out _ (HN.out.below HB3.out)).mono ?_
  rintro e w4 ⟨rfl, b4⟩
  have B4 := belowT HB3.out (Nat.le_refl _) b4
  go_wp2
  go_ret
  exact ⟨rfl, B4⟩

set_option maxRecDepth 100000 in
set_option maxHeartbeats 1200000 in
theorem bestLeast_d (ds : List Nd) (ws : List Int) (a o : Option Addr) (cap wc : Nat) (hc : ds.length ≤ cap) (hwc : ws.length ≤ wc) (hwl : ws.length ≤ 9223372036854775807) (wd : Int) (w : World) (hN : Nods w a ds) (hI : Ints w o ws) (h1 : bE ds wd = 0) (e0 : Int) (he : e0 ≠ 0) (h2 : showD ds ws = .error e0) :
    Calls Try.prog 7 #[.slice a ds.length cap, .int .i64 wd, .slice o ws.length wc] w fun e w' => e = .returned (.bool true) ∧ Below w.heap.size w w' := by
  have HN : Hid (Nods w a ds) := hN
  have HI : Hid (Ints w o ws) := hI
  obtain ⟨t1, t2, t3, t4, t5⟩ := bT_cost h1
  have hA1 := bA_le (ds := ds) (wd := wd)
  have HS1 : Hid (∀ W wa c, (bA ds wd).2.length ≤ c → Nods W a ds → Ints W wa (bA ds wd).2 → Calls Try.prog 15 #[.slice a ds.length cap, .slice wa (bA ds wd).2.length c] W fun e w' => e = .returned (.tuple #[.string (bT ds wd), .nilIface]) ∧ Below W.heap.size W w') := fun W wa c k1 k2 k3 => by
    have := wshow_any ds (bA ds wd).2 a wa cap c hc k1 (by omega) W k2 k3
    rw [t1, t2, errN_0] at this
    exact this
  have HC1 : Hid (∀ W, Calls Try.prog 20 #[.string (bT ds wd), .int .i64 wd] W fun e w' => e = .returned (.agg #[.int .i64 (bA ds wd).1.1, .int .i64 (bA ds wd).1.2]) ∧ Below W.heap.size W w') := fun W => by
    have := rcost_any (bT ds wd) wd W (by omega)
    rw [t4, t5] at this
    exact this
  have HS2 : Hid (∀ W, Nods W a ds → Ints W o ws → Calls Try.prog 15 #[.slice a ds.length cap, .slice o ws.length wc] W fun e w' => e = .returned (.tuple #[.string (⟨#[]⟩), .iface 51 (.int .i64 e0)]) ∧ Below W.heap.size W w') := fun W k2 k3 => by
    have := wshow_any ds ws a o cap wc hc hwc hwl W k2 k3
    rw [h2, shS, shE, errN_ne he] at this
    exact this
  have hO1 : (((bA ds wd).1.1 : Int) == ((bA ds wd).1.1 : Int)) = true := by simp
  have hO2 : (((bA ds wd).1.2 : Int) == ((bA ds wd).1.2 : Int)) = true := by simp
  clear t1 t2 t3 t4 t5 hI
  have HB1 : Hid (∀ W, Nods W a ds → Calls Try.prog 18 #[.slice a ds.length cap, .int .i64 wd] W fun e w' => BestX (bT ds wd) (bA ds wd) (.nilIface) W e w') := fun W hW => by
    have := best_x ds wd a cap hc W hW
    rw [h1, errN_0] at this
    exact this
  generalize bT ds wd = T1 at *
  generalize bA ds wd = A1 at *
  clear hN
  go_enter Try.func7, Try.ntmps7
  go_wp2_with fail
  refine (best_six w).mono ?_
  rintro e w1 ⟨⟨a0, c0, rfl⟩, B1⟩
  have hx1 := Bx.new w1 0 1 23
  have hr1 : RowF (w1.alloc (.cells #[.int .i64 0, .int .i64 1] 23)) w1.heap.size := ⟨_, _, heap_alloc_new w1 _⟩
  go_wp2_with fail
  refine (HB1.out _ (HN.out.below (belAl B1 _))).mono ?_
  rintro e w2 ⟨⟨a1, c1, rfl, ow1⟩, b2⟩
  have B2 : Below w.heap.size w w2 := belowA B1 (Nat.le_refl _) b2
  have hlo : w.heap.size ≤ w1.heap.size := B1.size
  have hlt2 : w1.heap.size < w2.heap.size := by have := b2.size; simp at this; omega
  obtain ⟨y0, y1⟩ := hx1.below b2
  have hR2 : RowF w2 w1.heap.size := hr1.kept (b2.block _ (by simp))
  have f0 : w2.frozen? ⟨w1.heap.size, 0, none⟩ = false := hR2.frozen
  have f1 : w2.frozen? ⟨w1.heap.size, 1, none⟩ = false := hR2.frozen
  have HB3 : Hid (Below w.heap.size w ((w2.setCell ⟨w1.heap.size, 0, none⟩ (.int .i64 A1.1.1)).setCell ⟨w1.heap.size, 1, none⟩ (.int .i64 A1.1.2))) := (B2.setCell (p := ⟨w1.heap.size, 0, none⟩) hlo _).setCell (p := ⟨w1.heap.size, 1, none⟩) hlo _
  have HX3 : Hid (Bx ((w2.setCell ⟨w1.heap.size, 0, none⟩ (.int .i64 A1.1.1)).setCell ⟨w1.heap.size, 1, none⟩ (.int .i64 A1.1.2)) w1.heap.size A1.1.1 A1.1.2) := ⟨(cso (.inr (by omega))).trans (css y0), css ((cso (.inr (by omega))).trans y1)⟩
  have HO3 : Hid (((w2.setCell ⟨w1.heap.size, 0, none⟩ (.int .i64 A1.1.1)).setCell ⟨w1.heap.size, 1, none⟩ (.int .i64 A1.1.2)).ownsRow w.heap.size 3 1 (.slice a1 A1.2.length c1) A1.2.length (intCells A1.2)) := by
    refine row_base (row_kept ow1 fun k hk => ?_) (by simp; omega)
    have hk1 := row_lo ow1 hk
    simp at hk1
    exact (Below.heap_setCell _ _ _ _ (by simp; omega)).trans (Below.heap_setCell _ _ _ _ (by simp; omega))
  clear hR2 hx1 hr1 b2 B1 ow1
  go_wp2_with fail
  generalize (w2.setCell ⟨w1.heap.size, 0, none⟩ (.int .i64 A1.1.1)).setCell ⟨w1.heap.size, 1, none⟩ (.int .i64 A1.1.2) = w3 at *
  clear y0 y1 f0 f1 B2
  obtain ⟨_, _, q1, i1, _⟩ := own_ints HO3.out
  have HI3 : Hid (Ints w3 a1 A1.2) := i1
  clear i1
  refine (HS1.out _ _ _ q1 (HN.out.below HB3.out) HI3.out).mono ?_
  rintro e w4 ⟨rfl, b4⟩
  have B4 := belowT HB3.out (Nat.le_refl _) b4
  have HX4 : Hid (Bx w4 w1.heap.size A1.1.1 A1.1.2) := HX3.out.below b4
  have HI4 : Hid (Ints w4 a1 A1.2) := HI3.out.below b4
  clear b4 HX3 HO3 HI3
  have hlt4 : w1.heap.size < w4.heap.size := World.block_lt_of_cell? w4 ⟨w1.heap.size, 0, none⟩ HX4.out.1
  have x0 : w4.drew.cell? ⟨w1.heap.size, 0, none⟩ = some (.int .i64 A1.1.1) := HX4.out.1
  have x1 : w4.drew.cell? ⟨w1.heap.size, 1, none⟩ = some (.int .i64 A1.1.2) := HX4.out.2
  go_wp2_with fail
  go_region_held3 (fun w' => w'.cell? ⟨w1.heap.size, 0, none⟩ = some (.int .i64 A1.1.1) ∧ w'.cell? ⟨w1.heap.size, 1, none⟩ = some (.int .i64 A1.1.2))
    (first | with_reducible exact ⟨x0, x1⟩ | with_reducible exact ⟨y0, y1⟩)
    ((go_at_call 20; refine (HC1.out w4.drew).mono ?_; rintro e w5 ⟨rfl, b5⟩; have y0 := (b5.cell (p := ⟨w1.heap.size, 0, none⟩) hlt4).trans x0; have y1 := (b5.cell (p := ⟨w1.heap.size, 1, none⟩) hlt4).trans x1))
  all_goals
    have B5 : Below w.heap.size w w5 := belowT B4.drew (Nat.le_refl _) b5
    have HX5 : Hid (Bx w5 w1.heap.size A1.1.1 A1.1.2) := ⟨y0, y1⟩
    have HI5 : Hid (Ints w5 a1 A1.2) := (HI4.out.below (Below.refl _ w4).drew).below b5
    clear b5 y0 y1 x0 x1 B4
    go_wp2_with fail
    refine (HS2.out _ (HN.out.below B5) (HI.out.below B5)).mono ?_
    rintro e w6 ⟨rfl, b6⟩
    have B6 := belowT B5 (Nat.le_refl _) b6
    go_wp2
    go_ret
    exact ⟨rfl, B6⟩

set_option maxRecDepth 100000 in
set_option maxHeartbeats 1200000 in
theorem bestLeast_e (ds : List Nd) (ws : List Int) (a o : Option Addr) (cap wc : Nat) (hc : ds.length ≤ cap) (hwc : ws.length ≤ wc) (hwl : ws.length ≤ 9223372036854775807) (wd : Int) (w : World) (hN : Nods w a ds) (hI : Ints w o ws) (h1 : bE ds wd = 0) (u : List UInt8) (h2 : showD ds ws = .ok u) :
    Calls Try.prog 7 #[.slice a ds.length cap, .int .i64 wd, .slice o ws.length wc] w fun e w' => e = .returned (.bool true) ∧ Below w.heap.size w w' := by
  have HN : Hid (Nods w a ds) := hN
  have HI : Hid (Ints w o ws) := hI
  obtain ⟨t1, t2, t3, t4, t5⟩ := bT_cost h1
  have hA1 := bA_le (ds := ds) (wd := wd)
  have HS1 : Hid (∀ W wa c, (bA ds wd).2.length ≤ c → Nods W a ds → Ints W wa (bA ds wd).2 → Calls Try.prog 15 #[.slice a ds.length cap, .slice wa (bA ds wd).2.length c] W fun e w' => e = .returned (.tuple #[.string (bT ds wd), .nilIface]) ∧ Below W.heap.size W w') := fun W wa c k1 k2 k3 => by
    have := wshow_any ds (bA ds wd).2 a wa cap c hc k1 (by omega) W k2 k3
    rw [t1, t2, errN_0] at this
    exact this
  have HC1 : Hid (∀ W, Calls Try.prog 20 #[.string (bT ds wd), .int .i64 wd] W fun e w' => e = .returned (.agg #[.int .i64 (bA ds wd).1.1, .int .i64 (bA ds wd).1.2]) ∧ Below W.heap.size W w') := fun W => by
    have := rcost_any (bT ds wd) wd W (by omega)
    rw [t4, t5] at this
    exact this
  have HS2 : Hid (∀ W, Nods W a ds → Ints W o ws → Calls Try.prog 15 #[.slice a ds.length cap, .slice o ws.length wc] W fun e w' => e = .returned (.tuple #[.string (⟨u.toArray⟩), .nilIface]) ∧ Below W.heap.size W w') := fun W k2 k3 => by
    have := wshow_any ds ws a o cap wc hc hwc hwl W k2 k3
    rw [h2, shS, shE, errN_0] at this
    exact this
  have hO1 : (((bA ds wd).1.1 : Int) == ((bA ds wd).1.1 : Int)) = true := by simp
  have hO2 : (((bA ds wd).1.2 : Int) == ((bA ds wd).1.2 : Int)) = true := by simp
  clear t1 t2 t3 t4 t5 hI
  obtain ⟨K, k1, k2, k3, k4⟩ := bT_least h1 ws u h2
  have HC2 : Hid (∀ W, Calls Try.prog 20 #[.string ⟨u.toArray⟩, .int .i64 wd] W fun e w' => e = .returned (.agg #[.int .i64 K.1, .int .i64 K.2]) ∧ Below W.heap.size W w') := fun W => by
    have := rcost_any ⟨u.toArray⟩ wd W (by rw [Lib.size_eq]; have := (showD_len h2).1; simp; omega)
    rw [show (⟨u.toArray⟩ : ByteArray).data.toList = u by simp, k1, k2] at this
    exact this
  have HL2 : Hid (∀ W, Calls Try.prog 21 #[.agg #[.int .i64 (K.1 : Int), .int .i64 (K.2 : Int)], .agg #[.int .i64 ((bA ds wd).1.1 : Int), .int .i64 ((bA ds wd).1.2 : Int)]] W fun e w' => e = .returned (.bool false) ∧ Below W.heap.size W w') := fun W => by
    have := rless_nat K (bA ds wd).1 W
    rw [decide_eq_false k3] at this
    exact this
  have HAH : Hid (K = (bA ds wd).1 → ¬ aheadL ws (bA ds wd).2) := k4
  have hwl4 := (showD_len h2).2
  clear k1 k2 k3 k4
  have HB1 : Hid (∀ W, Nods W a ds → Calls Try.prog 18 #[.slice a ds.length cap, .int .i64 wd] W fun e w' => BestX (bT ds wd) (bA ds wd) (.nilIface) W e w') := fun W hW => by
    have := best_x ds wd a cap hc W hW
    rw [h1, errN_0] at this
    exact this
  generalize bT ds wd = T1 at *
  generalize bA ds wd = A1 at *
  clear hN
  go_enter Try.func7, Try.ntmps7
  go_wp2_with fail
  refine (best_six w).mono ?_
  rintro e w1 ⟨⟨a0, c0, rfl⟩, B1⟩
  have hx1 := Bx.new w1 0 1 23
  have hr1 : RowF (w1.alloc (.cells #[.int .i64 0, .int .i64 1] 23)) w1.heap.size := ⟨_, _, heap_alloc_new w1 _⟩
  go_wp2_with fail
  refine (HB1.out _ (HN.out.below (belAl B1 _))).mono ?_
  rintro e w2 ⟨⟨a1, c1, rfl, ow1⟩, b2⟩
  have B2 : Below w.heap.size w w2 := belowA B1 (Nat.le_refl _) b2
  have hlo : w.heap.size ≤ w1.heap.size := B1.size
  have hlt2 : w1.heap.size < w2.heap.size := by have := b2.size; simp at this; omega
  obtain ⟨y0, y1⟩ := hx1.below b2
  have hR2 : RowF w2 w1.heap.size := hr1.kept (b2.block _ (by simp))
  have f0 : w2.frozen? ⟨w1.heap.size, 0, none⟩ = false := hR2.frozen
  have f1 : w2.frozen? ⟨w1.heap.size, 1, none⟩ = false := hR2.frozen
  have HB3 : Hid (Below w.heap.size w ((w2.setCell ⟨w1.heap.size, 0, none⟩ (.int .i64 A1.1.1)).setCell ⟨w1.heap.size, 1, none⟩ (.int .i64 A1.1.2))) := (B2.setCell (p := ⟨w1.heap.size, 0, none⟩) hlo _).setCell (p := ⟨w1.heap.size, 1, none⟩) hlo _
  have HX3 : Hid (Bx ((w2.setCell ⟨w1.heap.size, 0, none⟩ (.int .i64 A1.1.1)).setCell ⟨w1.heap.size, 1, none⟩ (.int .i64 A1.1.2)) w1.heap.size A1.1.1 A1.1.2) := ⟨(cso (.inr (by omega))).trans (css y0), css ((cso (.inr (by omega))).trans y1)⟩
  have HO3 : Hid (((w2.setCell ⟨w1.heap.size, 0, none⟩ (.int .i64 A1.1.1)).setCell ⟨w1.heap.size, 1, none⟩ (.int .i64 A1.1.2)).ownsRow w.heap.size 3 1 (.slice a1 A1.2.length c1) A1.2.length (intCells A1.2)) := by
    refine row_base (row_kept ow1 fun k hk => ?_) (by simp; omega)
    have hk1 := row_lo ow1 hk
    simp at hk1
    exact (Below.heap_setCell _ _ _ _ (by simp; omega)).trans (Below.heap_setCell _ _ _ _ (by simp; omega))
  clear hR2 hx1 hr1 b2 B1 ow1
  go_wp2_with fail
  generalize (w2.setCell ⟨w1.heap.size, 0, none⟩ (.int .i64 A1.1.1)).setCell ⟨w1.heap.size, 1, none⟩ (.int .i64 A1.1.2) = w3 at *
  clear y0 y1 f0 f1 B2
  obtain ⟨_, _, q1, i1, _⟩ := own_ints HO3.out
  have HI3 : Hid (Ints w3 a1 A1.2) := i1
  clear i1
  refine (HS1.out _ _ _ q1 (HN.out.below HB3.out) HI3.out).mono ?_
  rintro e w4 ⟨rfl, b4⟩
  have B4 := belowT HB3.out (Nat.le_refl _) b4
  have HX4 : Hid (Bx w4 w1.heap.size A1.1.1 A1.1.2) := HX3.out.below b4
  have HI4 : Hid (Ints w4 a1 A1.2) := HI3.out.below b4
  clear b4 HX3 HO3 HI3
  have hlt4 : w1.heap.size < w4.heap.size := World.block_lt_of_cell? w4 ⟨w1.heap.size, 0, none⟩ HX4.out.1
  have x0 : w4.drew.cell? ⟨w1.heap.size, 0, none⟩ = some (.int .i64 A1.1.1) := HX4.out.1
  have x1 : w4.drew.cell? ⟨w1.heap.size, 1, none⟩ = some (.int .i64 A1.1.2) := HX4.out.2
  go_wp2_with fail
  go_region_held3 (fun w' => w'.cell? ⟨w1.heap.size, 0, none⟩ = some (.int .i64 A1.1.1) ∧ w'.cell? ⟨w1.heap.size, 1, none⟩ = some (.int .i64 A1.1.2))
    (first | with_reducible exact ⟨x0, x1⟩ | with_reducible exact ⟨y0, y1⟩)
    ((go_at_call 20; refine (HC1.out w4.drew).mono ?_; rintro e w5 ⟨rfl, b5⟩; have y0 := (b5.cell (p := ⟨w1.heap.size, 0, none⟩) hlt4).trans x0; have y1 := (b5.cell (p := ⟨w1.heap.size, 1, none⟩) hlt4).trans x1))
  all_goals
    have B5 : Below w.heap.size w w5 := belowT B4.drew (Nat.le_refl _) b5
    have HX5 : Hid (Bx w5 w1.heap.size A1.1.1 A1.1.2) := ⟨y0, y1⟩
    have HI5 : Hid (Ints w5 a1 A1.2) := (HI4.out.below (Below.refl _ w4).drew).below b5
    clear b5 y0 y1 x0 x1 B4
    go_wp2_with fail
    refine (HS2.out _ (HN.out.below B5) (HI.out.below B5)).mono ?_
    rintro e w6 ⟨rfl, b6⟩
    have B6 := belowT B5 (Nat.le_refl _) b6
    have HX6 : Hid (Bx w6 w1.heap.size A1.1.1 A1.1.2) := HX5.out.below b6
    have HI6 : Hid (Ints w6 a1 A1.2) := HI5.out.below b6
    clear b6 B5 HX5 HI5 HX4 HI4
    go_wp2_with fail
    refine (HC2.out _).mono ?_
    rintro e w7 ⟨rfl, b7⟩
    have B7 := belowT B6 (Nat.le_refl _) b7
    have HX7 : Hid (Bx w7 w1.heap.size A1.1.1 A1.1.2) := HX6.out.below b7
    have HI7 : Hid (Ints w7 a1 A1.2) := HI6.out.below b7
    have z0 := fun O => ka HX7.out.1 O
    have z1 := fun O => ka HX7.out.2 O
    clear b7 B6 HX6 HI6
    go_wp2_with fail
    refine (HL2.out _).mono ?_
    rintro e w8 ⟨rfl, b8⟩
    have B8 := belowA B7 (Nat.le_refl _) b8
    obtain ⟨p0, p1⟩ := (HX7.out.alloc _).below b8
    obtain ⟨q0, q1'⟩ := (Bx.new w7 K.1 K.2 23).below b8
    have HI8 : Hid (Ints w8 a1 A1.2) := (HI7.out.below ((Below.refl _ w7).alloc (Nat.le_refl _) _)).below b8
    clear z0 z1 HX7 HI7 B7 b8
    go_wp2_with fail
    any_goals (go_ret; exact ⟨rfl, B8⟩)
    have hKA : K = A1.1 := Prod.ext (by omega) (by omega)
    refine (lahead_no ws A1.2 o a1 wc c1 _ (HI.out.below B8) HI8.out (by omega) (HAH.out hKA)).mono ?_
    rintro e w9 ⟨rfl, q, rfl⟩
    clear hKA
    go_wp2
    go_ret
    exact ⟨rfl, belowQ B8 q⟩

theorem bestLeast_any (ds : List Nd) (ws : List Int) (a o : Option Addr) (cap wc : Nat) (hc : ds.length ≤ cap) (hwc : ws.length ≤ wc) (hwl : ws.length ≤ 9223372036854775807) (wd : Int) (w : World) (hN : Nods w a ds) (hI : Ints w o ws) :
    Calls Try.prog 7 #[.slice a ds.length cap, .int .i64 wd, .slice o ws.length wc] w fun e w' => e = .returned (.bool true) ∧ Below w.heap.size w w' := by
  by_cases h1 : bE ds wd = 0
  · cases h2 : showD ds ws with
    | error e0 => exact bestLeast_d ds ws a o cap wc hc hwc hwl wd w hN hI h1 e0 (showD_err h2) h2
    | ok u => exact bestLeast_e ds ws a o cap wc hc hwc hwl wd w hN hI h1 u h2
  · by_cases h0 : docF ds = 0
    · by_cases hw0 : wd < 0
      · exact bestLeast_b ds ws a o cap wc hc hwc hwl wd w hN hI h1 h0 hw0
      · refine bestLeast_c ds ws a o cap wc hc hwc hwl wd w hN hI h1 h0 hw0 ?_
        unfold bE at h1
        rw [if_pos h0] at h1
        by_cases hw : wd < 0 ∨ 100 < wd
        · omega
        · rw [if_neg hw] at h1
          exact absurd rfl h1
    · exact bestLeast_a ds ws a o cap wc hc hwc hwl wd w hN hI h1 h0
end Go.Proofs.Ytfabfclbnekleaa
