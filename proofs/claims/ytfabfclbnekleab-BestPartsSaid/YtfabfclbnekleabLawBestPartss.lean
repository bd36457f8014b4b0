/- Some texts as one: LawBestParts, LawBestParts1, LawBestParts2, LawBestParts3, LawBestParts4, LawBestParts5, LawBestParts6. -/
import Derived.Test.YtfabfclbnekleabBss
import Derived.Test.YtfabfclbnekleabNodTog
import Derived.Test.YtfabfclbnekleabSamI
namespace Go.Proofs.Ytfabfclbnekleab
open Go Go.RowKit

/-- The law's fact. -/
theorem fact_line : bE [⟨4, ⟨#[]⟩, 0⟩] 3 = 0 ∧ bA [⟨4, ⟨#[]⟩, 0⟩] 3 = ((0, 1), []) := by
  have hL : Tr.Wf (.leaf ⟨4, ⟨#[]⟩, 0⟩) := ⟨by decide +kernel, by decide +kernel⟩
  obtain ⟨h1, h2⟩ := bA_tree (ds := [⟨4, ⟨#[]⟩, 0⟩]) (wd := 3) hL rfl (by simp) (by omega)
  refine ⟨h1, h2.trans ?_⟩
  rw [bs_line ⟨by decide, by decide⟩, bs_nil]
  rfl
theorem nods_line (w : World) : Nods (w.alloc (.cells #[.int .i64 4, .string ⟨#[]⟩, .int .i64 0] 31)) (some ⟨w.heap.size, 0, none⟩) [⟨4, ⟨#[]⟩, 0⟩] := by
  intro i hi
  obtain rfl : i = 0 := by simp at hi; omega
  exact ⟨w.heap.size, 0, rfl, by simp, by simp [go_sem], by simp [go_sem], by simp [go_sem]⟩
theorem best_line (w : World) : Calls Try.prog 5 #[.slice (some ⟨w.heap.size, 0, none⟩) 1 1, .int .i64 3] (w.alloc (.cells #[.int .i64 4, .string ⟨#[]⟩, .int .i64 0] 31))
    fun e w' => (∃ T wa wc, e = .returned (.tuple #[.string T, .slice wa 0 wc, .agg #[.int .i64 0, .int .i64 1], .nilIface])) ∧ Below (w.alloc (.cells #[.int .i64 4, .string ⟨#[]⟩, .int .i64 0] 31)).heap.size (w.alloc (.cells #[.int .i64 4, .string ⟨#[]⟩, .int .i64 0] 31)) w' := by
  refine (best_x [⟨4, ⟨#[]⟩, 0⟩] 3 (some ⟨w.heap.size, 0, none⟩) 1 (by simp) _ (nods_line w)).mono ?_
  rintro e w' ⟨⟨wa, wc, rfl, _⟩, hb⟩
  rw [fact_line.1, fact_line.2, errN_0]
  exact ⟨⟨_, wa, wc, rfl⟩, hb⟩
end Go.Proofs.Ytfabfclbnekleab
namespace Go.Proofs.Ytfabfclbnekleab
open Go Go.RowKit

set_option maxRecDepth 100000 in
set_option maxHeartbeats 1200000 in
theorem bestParts_a (ds es : List Nd) (a o : Option Addr) (cap cap2 : Nat) (hc : ds.length ≤ cap) (hc2 : es.length ≤ cap2) (wd : Int) (w : World) (hN : Nods w a ds) (hM : Nods w o es) (h1 : bE ds wd ≠ 0) (h2 : bE es wd = 0) :
    Calls Try.prog 4 #[.slice a ds.length cap, .slice o es.length cap2, .int .i64 wd] w fun e w' => e = .returned (.bool true) ∧ Below w.heap.size w w' := by
  have HN : Hid (Nods w a ds) := hN
  have HM : Hid (Nods w o es) := hM
  have HB1 : Hid (∀ W, Nods W a ds → Calls Try.prog 5 #[.slice a ds.length cap, .int .i64 wd] W fun e w' => BestX (bT ds wd) (bA ds wd) (.iface 37 (.int .i64 (bE ds wd))) W e w') := fun W hW => by
    have := best_x ds wd a cap hc W hW
    rw [errN_ne h1] at this
    exact this
  have HB2 : Hid (∀ W, Nods W o es → Calls Try.prog 5 #[.slice o es.length cap2, .int .i64 wd] W fun e w' => BestX (bT es wd) (bA es wd) (.nilIface) W e w') := fun W hW => by
    have := best_x es wd o cap2 hc2 W hW
    rw [h2, errN_0] at this
    exact this
  have hA1 := bA_le (ds := ds) (wd := wd)
  have hA2 := bA_le (ds := es) (wd := wd)
  generalize bT ds wd = T1 at *
  generalize bT es wd = T2 at *
  generalize bA ds wd = A1 at *
  generalize bA es wd = A2 at *
  clear hN hM
  go_enter Try.func4, Try.ntmps4
  go_wp2_with fail
  refine (best_line w).mono ?_
  rintro e w1 ⟨⟨T0, a0, c0, rfl⟩, b1⟩
  have hNL : Nods w1 (some ⟨w.heap.size, 0, none⟩) [⟨4, ⟨#[]⟩, 0⟩] := (nods_line w).below b1
  have B1 : Below w.heap.size w w1 := belowA (Below.refl _ _) (Nat.le_refl _) b1
  have HNL : Hid (Nods w1 (some ⟨w.heap.size, 0, none⟩) [⟨4, ⟨#[]⟩, 0⟩]) := hNL
  clear b1 hNL
  go_wp2_with fail
  refine (HB1.out _ (HN.out.below (belAl B1 _))).mono ?_
  rintro e w2 ⟨⟨a1, c1, rfl, ow1⟩, b2⟩
  have B2 : Below w.heap.size w w2 := belowA B1 (Nat.le_refl _) b2
  have HNL2 : Hid (Nods w2 (some ⟨w.heap.size, 0, none⟩) [⟨4, ⟨#[]⟩, 0⟩]) := (HNL.out.below ((Below.refl _ w1).alloc (Nat.le_refl _) _)).below b2
  have HO1 : Hid (w2.ownsRow w.heap.size 3 1 (.slice a1 A1.2.length c1) A1.2.length (intCells A1.2)) := row_base ow1 (by have := B1.size; simp; omega)
  clear ow1 b2 B1 HNL
  go_wp2_with fail
  have hx1 := Bx.new w2 A1.1.1 A1.1.2 25
  refine (HB2.out _ (HM.out.below (belAl B2 _))).mono ?_
  rintro e w3 ⟨⟨a2, c2, rfl, ow2⟩, b3⟩
  have B3 : Below w.heap.size w w3 := belowA B2 (Nat.le_refl _) b3
  have h23 : Below w2.heap.size w2 w3 := belowA (Below.refl _ _) (Nat.le_refl _) b3
  have HNL3 : Hid (Nods w3 (some ⟨w.heap.size, 0, none⟩) [⟨4, ⟨#[]⟩, 0⟩]) := HNL2.out.below h23
  have HX1 : Hid (Bx w3 w2.heap.size A1.1.1 A1.1.2) := hx1.below b3
  have HO13 : Hid (w3.ownsRow w.heap.size 3 1 (.slice a1 A1.2.length c1) A1.2.length (intCells A1.2)) := row_kept HO1.out fun k hk => h23.block k (row_type HO1.out hk).1
  have HO2 : Hid (w3.ownsRow w.heap.size 3 1 (.slice a2 A2.2.length c2) A2.2.length (intCells A2.2)) := row_base ow2 (by have := B2.size; simp; omega)
  clear ow2 b3 B2 HNL2 hx1 h23 HO1
  go_wp2
  go_ret
  exact ⟨rfl, belAl B3 _⟩
end Go.Proofs.Ytfabfclbnekleab
namespace Go.Proofs.Ytfabfclbnekleab
open Go Go.RowKit

set_option maxRecDepth 100000 in
set_option maxHeartbeats 1200000 in
theorem bestParts_a2 (ds es : List Nd) (a o : Option Addr) (cap cap2 : Nat) (hc : ds.length ≤ cap) (hc2 : es.length ≤ cap2) (wd : Int) (w : World) (hN : Nods w a ds) (hM : Nods w o es) (h1 : bE ds wd ≠ 0) (h2 : bE es wd ≠ 0) :
    Calls Try.prog 4 #[.slice a ds.length cap, .slice o es.length cap2, .int .i64 wd] w fun e w' => e = .returned (.bool true) ∧ Below w.heap.size w w' := by
  have HN : Hid (Nods w a ds) := hN
  have HM : Hid (Nods w o es) := hM
  have HB1 : Hid (∀ W, Nods W a ds → Calls Try.prog 5 #[.slice a ds.length cap, .int .i64 wd] W fun e w' => BestX (bT ds wd) (bA ds wd) (.iface 37 (.int .i64 (bE ds wd))) W e w') := fun W hW => by
    have := best_x ds wd a cap hc W hW
    rw [errN_ne h1] at this
    exact this
  have HB2 : Hid (∀ W, Nods W o es → Calls Try.prog 5 #[.slice o es.length cap2, .int .i64 wd] W fun e w' => BestX (bT es wd) (bA es wd) (.iface 37 (.int .i64 (bE es wd))) W e w') := fun W hW => by
    have := best_x es wd o cap2 hc2 W hW
    rw [errN_ne h2] at this
    exact this
  have hA1 := bA_le (ds := ds) (wd := wd)
  have hA2 := bA_le (ds := es) (wd := wd)
  generalize bT ds wd = T1 at *
  generalize bT es wd = T2 at *
  generalize bA ds wd = A1 at *
  generalize bA es wd = A2 at *
  clear hN hM
  go_enter Try.func4, Try.ntmps4
  go_wp2_with fail
  refine (best_line w).mono ?_
  rintro e w1 ⟨⟨T0, a0, c0, rfl⟩, b1⟩
  have hNL : Nods w1 (some ⟨w.heap.size, 0, none⟩) [⟨4, ⟨#[]⟩, 0⟩] := (nods_line w).below b1
  have B1 : Below w.heap.size w w1 := belowA (Below.refl _ _) (Nat.le_refl _) b1
  have HNL : Hid (Nods w1 (some ⟨w.heap.size, 0, none⟩) [⟨4, ⟨#[]⟩, 0⟩]) := hNL
  clear b1 hNL
  go_wp2_with fail
  refine (HB1.out _ (HN.out.below (belAl B1 _))).mono ?_
  rintro e w2 ⟨⟨a1, c1, rfl, ow1⟩, b2⟩
  have B2 : Below w.heap.size w w2 := belowA B1 (Nat.le_refl _) b2
  have HNL2 : Hid (Nods w2 (some ⟨w.heap.size, 0, none⟩) [⟨4, ⟨#[]⟩, 0⟩]) := (HNL.out.below ((Below.refl _ w1).alloc (Nat.le_refl _) _)).below b2
  have HO1 : Hid (w2.ownsRow w.heap.size 3 1 (.slice a1 A1.2.length c1) A1.2.length (intCells A1.2)) := row_base ow1 (by have := B1.size; simp; omega)
  clear ow1 b2 B1 HNL
  go_wp2_with fail
  have hx1 := Bx.new w2 A1.1.1 A1.1.2 25
  refine (HB2.out _ (HM.out.below (belAl B2 _))).mono ?_
  rintro e w3 ⟨⟨a2, c2, rfl, ow2⟩, b3⟩
  have B3 : Below w.heap.size w w3 := belowA B2 (Nat.le_refl _) b3
  have h23 : Below w2.heap.size w2 w3 := belowA (Below.refl _ _) (Nat.le_refl _) b3
  have HNL3 : Hid (Nods w3 (some ⟨w.heap.size, 0, none⟩) [⟨4, ⟨#[]⟩, 0⟩]) := HNL2.out.below h23
  have HX1 : Hid (Bx w3 w2.heap.size A1.1.1 A1.1.2) := hx1.below b3
  have HO13 : Hid (w3.ownsRow w.heap.size 3 1 (.slice a1 A1.2.length c1) A1.2.length (intCells A1.2)) := row_kept HO1.out fun k hk => h23.block k (row_type HO1.out hk).1
  have HO2 : Hid (w3.ownsRow w.heap.size 3 1 (.slice a2 A2.2.length c2) A2.2.length (intCells A2.2)) := row_base ow2 (by have := B2.size; simp; omega)
  clear ow2 b3 B2 HNL2 hx1 h23 HO1
  go_wp2
  go_ret
  exact ⟨rfl, belAl B3 _⟩
end Go.Proofs.Ytfabfclbnekleab
namespace Go.Proofs.Ytfabfclbnekleab
open Go Go.RowKit

set_option maxRecDepth 100000 in
set_option maxHeartbeats 1200000 in
theorem bestParts_b (ds es : List Nd) (a o : Option Addr) (cap cap2 : Nat) (hc : ds.length ≤ cap) (hc2 : es.length ≤ cap2) (wd : Int) (w : World) (hN : Nods w a ds) (hM : Nods w o es) (h1 : bE ds wd = 0) (h2 : bE es wd ≠ 0) :
    Calls Try.prog 4 #[.slice a ds.length cap, .slice o es.length cap2, .int .i64 wd] w fun e w' => e = .returned (.bool true) ∧ Below w.heap.size w w' := by
  have HN : Hid (Nods w a ds) := hN
  have HM : Hid (Nods w o es) := hM
  have HB1 : Hid (∀ W, Nods W a ds → Calls Try.prog 5 #[.slice a ds.length cap, .int .i64 wd] W fun e w' => BestX (bT ds wd) (bA ds wd) (.nilIface) W e w') := fun W hW => by
    have := best_x ds wd a cap hc W hW
    rw [h1, errN_0] at this
    exact this
  have HB2 : Hid (∀ W, Nods W o es → Calls Try.prog 5 #[.slice o es.length cap2, .int .i64 wd] W fun e w' => BestX (bT es wd) (bA es wd) (.iface 37 (.int .i64 (bE es wd))) W e w') := fun W hW => by
    have := best_x es wd o cap2 hc2 W hW
    rw [errN_ne h2] at this
    exact this
  have hA1 := bA_le (ds := ds) (wd := wd)
  have hA2 := bA_le (ds := es) (wd := wd)
  generalize bT ds wd = T1 at *
  generalize bT es wd = T2 at *
  generalize bA ds wd = A1 at *
  generalize bA es wd = A2 at *
  clear hN hM
  go_enter Try.func4, Try.ntmps4
  go_wp2_with fail
  refine (best_line w).mono ?_
  rintro e w1 ⟨⟨T0, a0, c0, rfl⟩, b1⟩
  have hNL : Nods w1 (some ⟨w.heap.size, 0, none⟩) [⟨4, ⟨#[]⟩, 0⟩] := (nods_line w).below b1
  have B1 : Below w.heap.size w w1 := belowA (Below.refl _ _) (Nat.le_refl _) b1
  have HNL : Hid (Nods w1 (some ⟨w.heap.size, 0, none⟩) [⟨4, ⟨#[]⟩, 0⟩]) := hNL
  clear b1 hNL
  go_wp2_with fail
  refine (HB1.out _ (HN.out.below (belAl B1 _))).mono ?_
  rintro e w2 ⟨⟨a1, c1, rfl, ow1⟩, b2⟩
  have B2 : Below w.heap.size w w2 := belowA B1 (Nat.le_refl _) b2
  have HNL2 : Hid (Nods w2 (some ⟨w.heap.size, 0, none⟩) [⟨4, ⟨#[]⟩, 0⟩]) := (HNL.out.below ((Below.refl _ w1).alloc (Nat.le_refl _) _)).below b2
  have HO1 : Hid (w2.ownsRow w.heap.size 3 1 (.slice a1 A1.2.length c1) A1.2.length (intCells A1.2)) := row_base ow1 (by have := B1.size; simp; omega)
  clear ow1 b2 B1 HNL
  go_wp2_with fail
  have hx1 := Bx.new w2 A1.1.1 A1.1.2 25
  refine (HB2.out _ (HM.out.below (belAl B2 _))).mono ?_
  rintro e w3 ⟨⟨a2, c2, rfl, ow2⟩, b3⟩
  have B3 : Below w.heap.size w w3 := belowA B2 (Nat.le_refl _) b3
  have h23 : Below w2.heap.size w2 w3 := belowA (Below.refl _ _) (Nat.le_refl _) b3
  have HNL3 : Hid (Nods w3 (some ⟨w.heap.size, 0, none⟩) [⟨4, ⟨#[]⟩, 0⟩]) := HNL2.out.below h23
  have HX1 : Hid (Bx w3 w2.heap.size A1.1.1 A1.1.2) := hx1.below b3
  have HO13 : Hid (w3.ownsRow w.heap.size 3 1 (.slice a1 A1.2.length c1) A1.2.length (intCells A1.2)) := row_kept HO1.out fun k hk => h23.block k (row_type HO1.out hk).1
  have HO2 : Hid (w3.ownsRow w.heap.size 3 1 (.slice a2 A2.2.length c2) A2.2.length (intCells A2.2)) := row_base ow2 (by have := B2.size; simp; omega)
  clear ow2 b3 B2 HNL2 hx1 h23 HO1
  go_wp2
  go_ret
  exact ⟨rfl, belAl B3 _⟩
end Go.Proofs.Ytfabfclbnekleab
namespace Go.Proofs.Ytfabfclbnekleab
open Go Go.RowKit

set_option maxRecDepth 100000 in
set_option maxHeartbeats 1200000 in
theorem bestParts_c (ds es : List Nd) (a o : Option Addr) (cap cap2 : Nat) (hc : ds.length ≤ cap) (hc2 : es.length ≤ cap2) (wd : Int) (w : World) (hN : Nods w a ds) (hM : Nods w o es) (h1 : bE ds wd = 0) (h2 : bE es wd = 0) (hl : 400 < ds.length + es.length + 3) :
    Calls Try.prog 4 #[.slice a ds.length cap, .slice o es.length cap2, .int .i64 wd] w fun e w' => e = .returned (.bool true) ∧ Below w.heap.size w w' := by
  have HN : Hid (Nods w a ds) := hN
  have HM : Hid (Nods w o es) := hM
  have hl1 := (bE_len h1).1
  have hl2 := (bE_len h2).1
  have hwr1 : IntKind.i64.wrap ((ds.length : Int) + es.length) = (ds.length : Int) + es.length := by rw [IntKind.wrap_i64]; omega
  have hwr2 : IntKind.i64.wrap ((ds.length : Int) + es.length + 3) = (ds.length : Int) + es.length + 3 := by rw [IntKind.wrap_i64]; omega
  have hlI : (400 : Int) < (ds.length : Int) + es.length + 3 := by omega
  have HB1 : Hid (∀ W, Nods W a ds → Calls Try.prog 5 #[.slice a ds.length cap, .int .i64 wd] W fun e w' => BestX (bT ds wd) (bA ds wd) (.nilIface) W e w') := fun W hW => by
    have := best_x ds wd a cap hc W hW
    rw [h1, errN_0] at this
    exact this
  have HB2 : Hid (∀ W, Nods W o es → Calls Try.prog 5 #[.slice o es.length cap2, .int .i64 wd] W fun e w' => BestX (bT es wd) (bA es wd) (.nilIface) W e w') := fun W hW => by
    have := best_x es wd o cap2 hc2 W hW
    rw [h2, errN_0] at this
    exact this
  have hA1 := bA_le (ds := ds) (wd := wd)
  have hA2 := bA_le (ds := es) (wd := wd)
  generalize bT ds wd = T1 at *
  generalize bT es wd = T2 at *
  generalize bA ds wd = A1 at *
  generalize bA es wd = A2 at *
  clear hN hM
  go_enter Try.func4, Try.ntmps4
  go_wp2_with fail
  refine (best_line w).mono ?_
  rintro e w1 ⟨⟨T0, a0, c0, rfl⟩, b1⟩
  have hNL : Nods w1 (some ⟨w.heap.size, 0, none⟩) [⟨4, ⟨#[]⟩, 0⟩] := (nods_line w).below b1
  have B1 : Below w.heap.size w w1 := belowA (Below.refl _ _) (Nat.le_refl _) b1
  have HNL : Hid (Nods w1 (some ⟨w.heap.size, 0, none⟩) [⟨4, ⟨#[]⟩, 0⟩]) := hNL
  clear b1 hNL
  go_wp2_with fail
  refine (HB1.out _ (HN.out.below (belAl B1 _))).mono ?_
  rintro e w2 ⟨⟨a1, c1, rfl, ow1⟩, b2⟩
  have B2 : Below w.heap.size w w2 := belowA B1 (Nat.le_refl _) b2
  have HNL2 : Hid (Nods w2 (some ⟨w.heap.size, 0, none⟩) [⟨4, ⟨#[]⟩, 0⟩]) := (HNL.out.below ((Below.refl _ w1).alloc (Nat.le_refl _) _)).below b2
  have HO1 : Hid (w2.ownsRow w.heap.size 3 1 (.slice a1 A1.2.length c1) A1.2.length (intCells A1.2)) := row_base ow1 (by have := B1.size; simp; omega)
  clear ow1 b2 B1 HNL
  go_wp2_with fail
  have hx1 := Bx.new w2 A1.1.1 A1.1.2 25
  refine (HB2.out _ (HM.out.below (belAl B2 _))).mono ?_
  rintro e w3 ⟨⟨a2, c2, rfl, ow2⟩, b3⟩
  have B3 : Below w.heap.size w w3 := belowA B2 (Nat.le_refl _) b3
  have h23 : Below w2.heap.size w2 w3 := belowA (Below.refl _ _) (Nat.le_refl _) b3
  have HNL3 : Hid (Nods w3 (some ⟨w.heap.size, 0, none⟩) [⟨4, ⟨#[]⟩, 0⟩]) := HNL2.out.below h23
  have HX1 : Hid (Bx w3 w2.heap.size A1.1.1 A1.1.2) := hx1.below b3
  have HO13 : Hid (w3.ownsRow w.heap.size 3 1 (.slice a1 A1.2.length c1) A1.2.length (intCells A1.2)) := row_kept HO1.out fun k hk => h23.block k (row_type HO1.out hk).1
  have HO2 : Hid (w3.ownsRow w.heap.size 3 1 (.slice a2 A2.2.length c2) A2.2.length (intCells A2.2)) := row_base ow2 (by have := B2.size; simp; omega)
  clear ow2 b3 B2 HNL2 hx1 h23 HO1
  go_wp2
  go_ret
  exact ⟨rfl, belAl B3 _⟩
end Go.Proofs.Ytfabfclbnekleab
namespace Go.Proofs.Ytfabfclbnekleab
open Go Go.RowKit

set_option maxRecDepth 100000 in
set_option maxHeartbeats 1200000 in
theorem bestParts_d (ds es : List Nd) (a o : Option Addr) (cap cap2 : Nat) (hc : ds.length ≤ cap) (hc2 : es.length ≤ cap2) (wd : Int) (w : World) (hN : Nods w a ds) (hM : Nods w o es) (h1 : bE ds wd = 0) (h2 : bE es wd = 0) (hl : ds.length + es.length + 3 ≤ 400) :
    Calls Try.prog 4 #[.slice a ds.length cap, .slice o es.length cap2, .int .i64 wd] w fun e w' => e = .returned (.bool true) ∧ Below w.heap.size w w' := by
  have HN : Hid (Nods w a ds) := hN
  have HM : Hid (Nods w o es) := hM
  obtain ⟨hl1, hne1⟩ := bE_len h1
  obtain ⟨hl2, hne2⟩ := bE_len h2
  have hwr1 : IntKind.i64.wrap ((ds.length : Int) + es.length) = (ds.length : Int) + es.length := by rw [IntKind.wrap_i64]; omega
  have hwr2 : IntKind.i64.wrap ((ds.length : Int) + es.length + 3) = (ds.length : Int) + es.length + 3 := by rw [IntKind.wrap_i64]; omega
  have hlI : ¬ (400 : Int) < (ds.length : Int) + es.length + 3 := by omega
  obtain ⟨hE3, hA3⟩ := bA_line h1 h2 hl
  obtain ⟨es2, he2⟩ : ∃ es2, es2 = (⟨6, ⟨#[]⟩, 0⟩ :: ([⟨4, ⟨#[]⟩, 0⟩] ++ es) : List Nd) := ⟨_, rfl⟩
  obtain ⟨es3, he3⟩ : ∃ es3, es3 = (⟨6, ⟨#[]⟩, 0⟩ :: (ds ++ es2) : List Nd) := ⟨_, rfl⟩
  have hl2' : es2.length = es.length + 2 := by rw [he2]; simp
  have HT1 : Hid (∀ W a1, Nods W a1 [⟨4, ⟨#[]⟩, 0⟩] → Nods W o es → Calls Try.prog 7 #[.slice a1 1 1, .slice o es.length cap2] W fun e w' => (∃ a' cap', e = .returned (.slice a' es2.length cap') ∧ es2.length ≤ cap' ∧ Nods w' a' es2) ∧ Below W.heap.size W w') := fun W a1 k1 k2 => by
    refine (together_any [⟨4, ⟨#[]⟩, 0⟩] es a1 o 1 cap2 W k1 k2 (by simp) hne2 (by simp; omega)).mono ?_
    rintro e w' ⟨⟨a', c', rfl, k3, k4⟩, kb⟩
    rw [← he2] at k4
    have e5 : [(⟨4, ⟨#[]⟩, 0⟩ : Nd)].length + es.length + 1 = es2.length := by rw [hl2']; simp; omega
    rw [e5] at k3 ⊢
    exact ⟨⟨a', c', rfl, k3, k4⟩, kb⟩
  have HT2 : Hid (∀ W a2 c2, Nods W a ds → Nods W a2 es2 → Calls Try.prog 7 #[.slice a ds.length cap, .slice a2 es2.length c2] W fun e w' => (∃ a' cap', e = .returned (.slice a' es3.length cap') ∧ es3.length ≤ cap' ∧ Nods w' a' es3) ∧ Below W.heap.size W w') := fun W a2 c2 k1 k2 => by
    refine (together_any ds es2 a a2 cap c2 W k1 k2 hne1 (by rw [he2]; simp) (by omega)).mono ?_
    rintro e w' ⟨⟨a', c', rfl, k3, k4⟩, kb⟩
    rw [← he3] at k4
    have e5 : ds.length + es2.length + 1 = es3.length := by rw [he3]; simp
    rw [e5] at k3 ⊢
    exact ⟨⟨a', c', rfl, k3, k4⟩, kb⟩
  rw [← he2, ← he3] at hE3 hA3
  have HB3 : Hid (∀ W a3 c3, es3.length ≤ c3 → Nods W a3 es3 → Calls Try.prog 5 #[.slice a3 es3.length c3, .int .i64 wd] W fun e w' => BestX (bT es3 wd) (bA es3 wd) .nilIface W e w') := fun W a3 c3 k1 k2 => by
    have := best_x es3 wd a3 c3 k1 W k2
    rw [hE3, errN_0] at this
    exact this
  have HA3 : Hid (bA es3 wd = (((bA ds wd).1.1 + (bA es wd).1.1, (bA ds wd).1.2 + (bA es wd).1.2 + 1), (bA ds wd).2 ++ (bA es wd).2)) := hA3
  generalize bA es3 wd = A3 at *
  generalize bT es3 wd = T3 at *
  have HL3 : Hid (A3.2 = (bA ds wd).2 ++ (bA es wd).2) := (show A3.2 = (bA ds wd).2 ++ (bA es wd).2 by rw [HA3.out])
  have ho3 : ((A3.1.1 : Nat) : Int) = ((bA ds wd).1.1 : Int) + (bA es wd).1.1 := by rw [HA3.out]; simp
  have hl3 : ((A3.1.2 : Nat) : Int) = ((bA ds wd).1.2 : Int) + (bA es wd).1.2 + 1 := by rw [HA3.out]; simp
  have HOL : Hid (((A3.1.1 : Nat) : Int) = ((bA ds wd).1.1 : Int) + (bA es wd).1.1 ∧ ((A3.1.2 : Nat) : Int) = ((bA ds wd).1.2 : Int) + (bA es wd).1.2 + 1) := ⟨ho3, hl3⟩
  clear hE3 hA3 he2 he3 hl2' hne1 hne2 HA3 ho3 hl3
  have HB1 : Hid (∀ W, Nods W a ds → Calls Try.prog 5 #[.slice a ds.length cap, .int .i64 wd] W fun e w' => BestX (bT ds wd) (bA ds wd) (.nilIface) W e w') := fun W hW => by
    have := best_x ds wd a cap hc W hW
    rw [h1, errN_0] at this
    exact this
  have HB2 : Hid (∀ W, Nods W o es → Calls Try.prog 5 #[.slice o es.length cap2, .int .i64 wd] W fun e w' => BestX (bT es wd) (bA es wd) (.nilIface) W e w') := fun W hW => by
    have := best_x es wd o cap2 hc2 W hW
    rw [h2, errN_0] at this
    exact this
  have hA1 := bA_le (ds := ds) (wd := wd)
  have hA2 := bA_le (ds := es) (wd := wd)
  generalize bT ds wd = T1 at *
  generalize bT es wd = T2 at *
  generalize bA ds wd = A1 at *
  generalize bA es wd = A2 at *
  clear hN hM
  go_enter Try.func4, Try.ntmps4
  go_wp2_with fail
  refine (best_line w).mono ?_
  rintro e w1 ⟨⟨T0, a0, c0, rfl⟩, b1⟩
  have hNL : Nods w1 (some ⟨w.heap.size, 0, none⟩) [⟨4, ⟨#[]⟩, 0⟩] := (nods_line w).below b1
  have B1 : Below w.heap.size w w1 := belowA (Below.refl _ _) (Nat.le_refl _) b1
  have HNL : Hid (Nods w1 (some ⟨w.heap.size, 0, none⟩) [⟨4, ⟨#[]⟩, 0⟩]) := hNL
  clear b1 hNL
  go_wp2_with fail
  refine (HB1.out _ (HN.out.below (belAl B1 _))).mono ?_
  rintro e w2 ⟨⟨a1, c1, rfl, ow1⟩, b2⟩
  have B2 : Below w.heap.size w w2 := belowA B1 (Nat.le_refl _) b2
  have HNL2 : Hid (Nods w2 (some ⟨w.heap.size, 0, none⟩) [⟨4, ⟨#[]⟩, 0⟩]) := (HNL.out.below ((Below.refl _ w1).alloc (Nat.le_refl _) _)).below b2
  have HO1 : Hid (w2.ownsRow w.heap.size 3 1 (.slice a1 A1.2.length c1) A1.2.length (intCells A1.2)) := row_base ow1 (by have := B1.size; simp; omega)
  clear ow1 b2 B1 HNL
  go_wp2_with fail
  have hx1 := Bx.new w2 A1.1.1 A1.1.2 25
  refine (HB2.out _ (HM.out.below (belAl B2 _))).mono ?_
  rintro e w3 ⟨⟨a2, c2, rfl, ow2⟩, b3⟩
  have B3 : Below w.heap.size w w3 := belowA B2 (Nat.le_refl _) b3
  have h23 : Below w2.heap.size w2 w3 := belowA (Below.refl _ _) (Nat.le_refl _) b3
  have HNL3 : Hid (Nods w3 (some ⟨w.heap.size, 0, none⟩) [⟨4, ⟨#[]⟩, 0⟩]) := HNL2.out.below h23
  have HX1 : Hid (Bx w3 w2.heap.size A1.1.1 A1.1.2) := hx1.below b3
  have HO13 : Hid (w3.ownsRow w.heap.size 3 1 (.slice a1 A1.2.length c1) A1.2.length (intCells A1.2)) := row_kept HO1.out fun k hk => h23.block k (row_type HO1.out hk).1
  have HO2 : Hid (w3.ownsRow w.heap.size 3 1 (.slice a2 A2.2.length c2) A2.2.length (intCells A2.2)) := row_base ow2 (by have := B2.size; simp; omega)
  clear ow2 b3 B2 HNL2 hx1 h23 HO1
  have hx2 := Bx.new w3 A2.1.1 A2.1.2 25
  go_wp2_with fail
  refine (HT1.out _ _ (HNL3.out.below ((Below.refl _ w3).alloc (Nat.le_refl _) _)) (HM.out.below (belAl B3 _))).mono ?_
  rintro e w4 ⟨⟨a4, c4, rfl, k4, n4⟩, b4⟩
  have h34 : Below w3.heap.size w3 w4 := belowA (Below.refl _ _) (Nat.le_refl _) b4
  have B4 := belowT B3 (Nat.le_refl _) h34
  have HX24 : Hid (Bx w4 w3.heap.size A2.1.1 A2.1.2) := hx2.below b4
  have HN4 : Hid (Nods w4 a4 es2) := n4
  clear n4 b4 hx2
  go_wp2_with fail
  refine (HT2.out _ _ _ (HN.out.below B4) HN4.out).mono ?_
  rintro e w5 ⟨⟨a5, c5, rfl, k5, n5⟩, b5⟩
  have h35 := belowT h34 (Nat.le_refl _) b5
  have B5 := belowT B3 (Nat.le_refl _) h35
  have HX25 : Hid (Bx w5 w3.heap.size A2.1.1 A2.1.2) := HX24.out.below b5
  have HN5 : Hid (Nods w5 a5 es3) := n5
  clear n5 b5 h34 B4
  go_wp2_with fail
  refine (HB3.out _ _ _ k5 HN5.out).mono ?_
  rintro e w6 ⟨⟨a6, c6, rfl, ow6⟩, b6⟩
  have h36 := belowT h35 (Nat.le_refl _) b6
  have B6 := belowT B3 (Nat.le_refl _) h36
  have HX26 : Hid (Bx w6 w3.heap.size A2.1.1 A2.1.2) := HX25.out.below b6
  have HX16 : Hid (Bx w6 w2.heap.size A1.1.1 A1.1.2) := HX1.out.below h36
  obtain ⟨_, _, _, i6, _⟩ := own_ints ow6
  have HI6 : Hid (Ints w6 a6 A3.2) := i6
  have hO1 := row_kept (w' := w6) HO13.out fun k hk => h36.block k (row_type HO13.out hk).1
  have hO2 := row_kept (w' := w6) HO2.out fun k hk => h36.block k (row_type HO2.out hk).1
  obtain ⟨_, _, q1, i1, n1⟩ := own_ints hO1
  obtain ⟨_, _, q2, i2, n2⟩ := own_ints hO2
  have HI1 : Hid (Ints w6 a1 A1.2) := i1
  have HI2 : Hid (Ints w6 a2 A2.2) := i2
  clear ow6 b6 h35 B5 hO1 hO2 i1 i2 i6 h36
  have hla1 : 0 + A1.2.length ≤ 1000000 := by omega
  have hla2 : A1.2.length + A2.2.length ≤ 1000000 := by omega
  have HLA : Hid (0 + A1.2.length ≤ 1000000 ∧ A1.2.length + A2.2.length ≤ 1000000) := ⟨hla1, hla2⟩
  have HNN : Hid ((a1 = none → A1.2 = [] ∧ c1 = 0) ∧ (a2 = none → A2.2 = [] ∧ c2 = 0)) := ⟨n1, n2⟩
  clear hla1 hla2 n1 n2
  go_upto_region 11 with fail
  generalize hw7 : w6.alloc (.cells #[.int .i64 A3.1.1, .int .i64 A3.1.2] 25) = w7
  have hx3 : Bx w7 w6.heap.size A3.1.1 A3.1.2 := by rw [← hw7]; exact Bx.new _ _ _ _
  have h67 : Below w6.heap.size w6 w7 := by rw [← hw7]; exact (Below.refl _ w6).alloc (Nat.le_refl _) _
  have B7 := belowT B6 (Nat.le_refl _) h67
  have HX7 : Hid (Bx w7 w2.heap.size A1.1.1 A1.1.2 ∧ Bx w7 w3.heap.size A2.1.1 A2.1.2 ∧ Bx w7 w6.heap.size A3.1.1 A3.1.2) := ⟨HX16.out.below h67, HX26.out.below h67, hx3⟩
  have HI7 : Hid (Ints w7 a1 A1.2 ∧ Ints w7 a2 A2.2 ∧ Ints w7 a6 A3.2) := ⟨HI1.out.below h67, HI2.out.below h67, HI6.out.below h67⟩
  have HO7 : Hid (w7.ownsRow w7.heap.size 3 1 (.slice none 0 0) 0 (intCells [])) := World.ownsRow_nil _ _ _ _
  clear hw7 hx3 h67 B6 HX16 HX26 HI1 HI2 HI6
  go_wp2_with (at_builtin; refine wpList_append_ints rfl _ _ rfl w7.heap.size _ _ [] rfl HO7.out a1 A1.2 c1 rfl HI7.out.1 HNN.out.1 HLA.out.1 (Nat.le_refl _) ?_)
  intro v8 w8 hown8 hgrow8
  have h78 : Below w7.heap.size w7 w8 := (Below.refl _ w7).grown hgrow8 (Nat.le_refl _) (fun k hk => by simp [Value.ownBlock] at hk)
  have HO8 : Hid (w8.ownsRow w7.heap.size 3 1 v8 A1.2.length (intCells A1.2)) := hown8
  have hs78 := h78.size
  have H78 : Hid (Below w7.heap.size w7 w8) := h78
  obtain ⟨av8, cv8, rfl⟩ := row_form hown8
  clear hown8 hgrow8 HO7 h78
  go_wp2_with (at_builtin; refine wpList_append_ints rfl _ _ rfl w7.heap.size _ _ A1.2 rfl HO8.out a2 A2.2 c2 rfl (HI7.out.2.1.below H78.out) HNN.out.2 HLA.out.2 hs78 ?_)
  intro v9 w9 hown9 hgrow9
  have h79 : Below w7.heap.size w7 w9 := H78.out.grown hgrow9 hs78 (fun k hk => (HO8.out.lt k hk).1)
  obtain ⟨bs9, hbs9⟩ : ∃ b, b = A1.2 ++ A2.2 := ⟨_, rfl⟩
  have hbl : A1.2.length + A2.2.length = bs9.length := by rw [hbs9]; simp
  rw [hbl, ← hbs9] at hown9
  obtain ⟨a9, c9, rfl⟩ := row_form hown9
  obtain ⟨_, _, _, i9, _⟩ := own_ints hown9
  have HI9 : Hid (Ints w9 a9 bs9) := i9
  have HBS : Hid (A3.2 = bs9) := (show A3.2 = bs9 by rw [hbs9]; exact HL3.out)
  have B9 := belowT B7 (Nat.le_refl _) h79
  have HX9 : Hid (Bx w9 w2.heap.size A1.1.1 A1.1.2 ∧ Bx w9 w3.heap.size A2.1.1 A2.1.2 ∧ Bx w9 w6.heap.size A3.1.1 A3.1.2) := ⟨HX7.out.1.below h79, HX7.out.2.1.below h79, HX7.out.2.2.below h79⟩
  have HSI : Hid (Calls Try.prog 8 #[.slice a6 A3.2.length c6, .slice a9 bs9.length c9] w9 fun e w' => e = .returned (.bool true) ∧ ∃ q, w' = w9.drewN q) := by
    have := sints_any A3.2 bs9 a6 a9 c6 c9 w9 (HI7.out.2.2.below h79) HI9.out (by rw [HBS.out, hbs9]; simp; omega)
    rw [decide_eq_true HBS.out] at this
    exact this
  clear hown9 hgrow9 i9 h79 hbs9 hbl HO8 H78 hs78 HI7 HX7 B7
  go_wp2_with fail
  refine HSI.out.mono ?_
  rintro e w10 ⟨rfl, q, rfl⟩
  obtain ⟨⟨x0, x1⟩, ⟨y0, y1⟩, z0, z1⟩ := HX9.out
  rw [HOL.out.1] at z0
  rw [HOL.out.2] at z1
  have hwa : IntKind.i64.wrap ((A1.1.1 : Int) + A2.1.1) = (A1.1.1 : Int) + A2.1.1 := by rw [IntKind.wrap_i64]; omega
  have hwb : IntKind.i64.wrap ((A1.1.2 : Int) + A2.1.2) = (A1.1.2 : Int) + A2.1.2 := by rw [IntKind.wrap_i64]; omega
  have hwc : IntKind.i64.wrap ((A1.1.2 : Int) + A2.1.2 + 1) = (A1.1.2 : Int) + A2.1.2 + 1 := by rw [IntKind.wrap_i64]; omega
  go_wp2
  go_ret
  exact ⟨rfl, belowQ B9 q⟩
end Go.Proofs.Ytfabfclbnekleab
namespace Go.Proofs.Ytfabfclbnekleab
open Go Go.RowKit

theorem bestParts_any (ds es : List Nd) (a o : Option Addr) (cap cap2 : Nat) (hc : ds.length ≤ cap) (hc2 : es.length ≤ cap2) (wd : Int) (w : World) (hN : Nods w a ds) (hM : Nods w o es) :
    Calls Try.prog 4 #[.slice a ds.length cap, .slice o es.length cap2, .int .i64 wd] w fun e w' => e = .returned (.bool true) ∧ Below w.heap.size w w' := by
  by_cases h1 : bE ds wd = 0
  · by_cases h2 : bE es wd = 0
    · by_cases hl : ds.length + es.length + 3 ≤ 400
      · exact bestParts_d ds es a o cap cap2 hc hc2 wd w hN hM h1 h2 hl
      · exact bestParts_c ds es a o cap cap2 hc hc2 wd w hN hM h1 h2 (by omega)
    · exact bestParts_b ds es a o cap cap2 hc hc2 wd w hN hM h1 h2
  · by_cases h2 : bE es wd = 0
    · exact bestParts_a ds es a o cap cap2 hc hc2 wd w hN hM h1 h2
    · exact bestParts_a2 ds es a o cap cap2 hc hc2 wd w hN hM h1 h2
end Go.Proofs.Ytfabfclbnekleab
