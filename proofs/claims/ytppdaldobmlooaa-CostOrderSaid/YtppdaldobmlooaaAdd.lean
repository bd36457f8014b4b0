/- Add: what it hands back. -/
import Derived.Test.YtppdaldobmlooaaChk
namespace Go.Proofs.Ytppdaldobmlooaa
open Go Go.RowKit

theorem below4 {w w1 : World} {A B C D : Obj} (hb : Below ((((w.alloc A).alloc B).alloc C).alloc D).heap.size ((((w.alloc A).alloc B).alloc C).alloc D) w1) : Below w.heap.size w w1 :=
  (((((Below.refl _ _).alloc (Nat.le_refl _) _).alloc (by simp) _).alloc (by simp; omega) _).alloc (by simp; omega) _).trans (hb.mono (by simp; omega))

theorem below2 {n : Nat} {w w1 w2 : World} {A B : Obj} (h1 : Below n w w1) (hn : n ≤ w.heap.size) (hb : Below ((w1.alloc A).alloc B).heap.size ((w1.alloc A).alloc B) w2) : Below n w w2 :=
  have h2 := h1.size
  ((h1.alloc (by omega) _).alloc (by simp; omega) _).trans (hb.mono (by simp; omega))

set_option maxRecDepth 100000 in
set_option maxHeartbeats 1000000 in
theorem add_no (a b : Int × Int) (w : World) (hn : (okC a && okC b) = false) :
    Calls Try.prog 6 #[costV a, costV b] w fun e w' => e = .returned (.tuple #[.agg #[.int .i64 0, .int .i64 0], .iface 32 (.int .i64 1)]) ∧ Below w.heap.size w w' := by
  have HN : Hid ((okC a && okC b) = false) := hn
  clear hn
  go_enter Try.func6, Try.ntmps6
  go_wp2_with fail
  refine (check2_no a b (w.heap.size + 1 + 1 + 1) _ (by simp) HN.out (by simp [go_sem]) (by simp [go_sem]) (by simp [go_sem]) (by simp [go_sem])).mono ?_
  rintro e w1 ⟨rfl, hb1⟩
  have hbw := below4 hb1
  obtain ⟨hc, hf⟩ := bcell hb1
  have hz : w.heap.size + 1 + 1 + 1 < w1.heap.size := by have := hb1.size; simp at this; omega
  clear hb1
  go_wp2
  exact bodyPost_ret (v := .tuple #[.agg #[.int .i64 0, .int .i64 0], .iface 32 (.int .i64 1)]) (by simp [results, Try.results6, go_sem, hc]) rfl ⟨rfl, (hbw.setCell (p := ⟨w.heap.size + 1 + 1, 0, none⟩) (by simp; omega) _).setCell (p := ⟨w.heap.size + 1 + 1, 1, none⟩) (by simp; omega) _⟩

theorem okC_bd {a : Int × Int} (h : okC a = true) : (0 ≤ a.1 ∧ a.1 ≤ 1000000) ∧ (0 ≤ a.2 ∧ a.2 ≤ 1000000) := by
  simp only [okC, Bool.and_eq_true] at h
  exact ⟨fitB_true h.1, fitB_true h.2⟩

abbrev sumC (a b : Int × Int) : Int × Int := (a.1 + b.1, a.2 + b.2)

set_option maxRecDepth 100000 in
set_option maxHeartbeats 1000000 in
theorem add_full (a b : Int × Int) (w : World) (ha : okC a = true) (hb : okC b = true) (hn : okC (sumC a b) = false) :
    Calls Try.prog 6 #[costV a, costV b] w fun e w' => e = .returned (.tuple #[.agg #[.int .i64 0, .int .i64 0], .iface 32 (.int .i64 1)]) ∧ Below w.heap.size w w' := by
  obtain ⟨⟨p1, p2⟩, ⟨p3, p4⟩⟩ := okC_bd ha
  obtain ⟨⟨q1, q2⟩, ⟨q3, q4⟩⟩ := okC_bd hb
  have HA : Hid (okC a = true) := ha
  have HB : Hid (okC b = true) := hb
  have HN : Hid (okC (sumC a b) = false) := hn
  clear hn ha hb
  go_enter Try.func6, Try.ntmps6
  go_wp2_with fail
  refine (check2_ok a b (w.heap.size + 1 + 1 + 1) _ (by simp) HA.out HB.out (by simp [go_sem]) (by simp [go_sem]) (by simp [go_sem]) (by simp [go_sem])).mono ?_
  rintro e w1 ⟨rfl, hb1⟩
  have hbw := below4 hb1
  obtain ⟨hc, hf⟩ := bcell hb1
  have hz : w.heap.size + 1 + 1 + 1 < w1.heap.size := by have := hb1.size; simp at this; omega
  clear hb1
  have r0 : w1.cell? ⟨w.heap.size + 1 + 1, 0, none⟩ = some (.int .i64 0) := (hc _ _ (by simp only [World.size_alloc]; omega)).trans (by simp [go_sem])
  have r1 : w1.cell? ⟨w.heap.size + 1 + 1, 1, none⟩ = some (.int .i64 0) := (hc _ _ (by simp only [World.size_alloc]; omega)).trans (by simp [go_sem])
  have f0 : w1.frozen? ⟨w.heap.size + 1 + 1, 0, none⟩ = false := (hf _ _ (by simp only [World.size_alloc]; omega)).trans (by simp [go_sem])
  have f1 : w1.frozen? ⟨w.heap.size + 1 + 1, 1, none⟩ = false := (hf _ _ (by simp only [World.size_alloc]; omega)).trans (by simp [go_sem])
  have u0 : w1.cell? ⟨w.heap.size, 0, none⟩ = some (.int .i64 a.1) := (hc _ _ (by simp only [World.size_alloc]; omega)).trans (by simp [go_sem])
  have u1 : w1.cell? ⟨w.heap.size, 1, none⟩ = some (.int .i64 a.2) := (hc _ _ (by simp only [World.size_alloc]; omega)).trans (by simp [go_sem])
  have v0 : w1.cell? ⟨w.heap.size + 1, 0, none⟩ = some (.int .i64 b.1) := (hc _ _ (by simp only [World.size_alloc]; omega)).trans (by simp [go_sem])
  have v1 : w1.cell? ⟨w.heap.size + 1, 1, none⟩ = some (.int .i64 b.2) := (hc _ _ (by simp only [World.size_alloc]; omega)).trans (by simp [go_sem])
  clear hc hf
  go_wp2_with fail
  refine (check1_no (sumC a b) (w1.heap.size + 1) _ (by simp) HN.out (by simp [go_sem]) (by simp [go_sem])).mono ?_
  rintro e w2 ⟨rfl, hb2⟩
  have hbw2 := below2 hbw (Nat.le_refl _) hb2
  have hbx := below2 (Below.refl w1.heap.size w1) (Nat.le_refl _) hb2
  obtain ⟨hc2, _⟩ := bcell hb2
  clear hb2
  have r0' : w2.cell? ⟨w.heap.size + 1 + 1, 0, none⟩ = some (.int .i64 0) := (hbx.cell (p := ⟨w.heap.size + 1 + 1, 0, none⟩) (show w.heap.size + 1 + 1 < w1.heap.size by omega)).trans r0
  have r1' : w2.cell? ⟨w.heap.size + 1 + 1, 1, none⟩ = some (.int .i64 0) := (hbx.cell (p := ⟨w.heap.size + 1 + 1, 1, none⟩) (show w.heap.size + 1 + 1 < w1.heap.size by omega)).trans r1
  have f0' : w2.frozen? ⟨w.heap.size + 1 + 1, 0, none⟩ = false := (hbx.frozen (p := ⟨w.heap.size + 1 + 1, 0, none⟩) (show w.heap.size + 1 + 1 < w1.heap.size by omega)).trans f0
  have f1' : w2.frozen? ⟨w.heap.size + 1 + 1, 1, none⟩ = false := (hbx.frozen (p := ⟨w.heap.size + 1 + 1, 1, none⟩) (show w.heap.size + 1 + 1 < w1.heap.size by omega)).trans f1
  have s0 : w2.cell? ⟨w1.heap.size, 0, none⟩ = some (.int .i64 (a.1 + b.1)) := (hc2 _ _ (by simp only [World.size_alloc]; omega)).trans (by simp [go_sem])
  have s1 : w2.cell? ⟨w1.heap.size, 1, none⟩ = some (.int .i64 (a.2 + b.2)) := (hc2 _ _ (by simp only [World.size_alloc]; omega)).trans (by simp [go_sem])
  clear hc2 hbw hbx r0 r1 f0 f1 u0 u1 v0 v1
  go_wp2
  exact bodyPost_ret (v := .tuple #[.agg #[.int .i64 0, .int .i64 0], .iface 32 (.int .i64 1)]) (by simp [results, Try.results6, go_sem, r0', r1']) rfl ⟨rfl, (hbw2.setCell (p := ⟨w.heap.size + 1 + 1, 0, none⟩) (by simp; omega) _).setCell (p := ⟨w.heap.size + 1 + 1, 1, none⟩) (by simp; omega) _⟩

set_option maxRecDepth 100000 in
set_option maxHeartbeats 1000000 in
theorem add_ok (a b : Int × Int) (w : World) (ha : okC a = true) (hb : okC b = true) (hn : okC (sumC a b) = true) :
    Calls Try.prog 6 #[costV a, costV b] w fun e w' => e = .returned (.tuple #[.agg #[.int .i64 (a.1 + b.1), .int .i64 (a.2 + b.2)], .nilIface]) ∧ Below w.heap.size w w' := by
  obtain ⟨⟨p1, p2⟩, ⟨p3, p4⟩⟩ := okC_bd ha
  obtain ⟨⟨q1, q2⟩, ⟨q3, q4⟩⟩ := okC_bd hb
  have HA : Hid (okC a = true) := ha
  have HB : Hid (okC b = true) := hb
  have HN : Hid (okC (sumC a b) = true) := hn
  clear hn ha hb
  go_enter Try.func6, Try.ntmps6
  go_wp2_with fail
  refine (check2_ok a b (w.heap.size + 1 + 1 + 1) _ (by simp) HA.out HB.out (by simp [go_sem]) (by simp [go_sem]) (by simp [go_sem]) (by simp [go_sem])).mono ?_
  rintro e w1 ⟨rfl, hb1⟩
  have hbw := below4 hb1
  obtain ⟨hc, hf⟩ := bcell hb1
  have hz : w.heap.size + 1 + 1 + 1 < w1.heap.size := by have := hb1.size; simp at this; omega
  clear hb1
  have r0 : w1.cell? ⟨w.heap.size + 1 + 1, 0, none⟩ = some (.int .i64 0) := (hc _ _ (by simp only [World.size_alloc]; omega)).trans (by simp [go_sem])
  have r1 : w1.cell? ⟨w.heap.size + 1 + 1, 1, none⟩ = some (.int .i64 0) := (hc _ _ (by simp only [World.size_alloc]; omega)).trans (by simp [go_sem])
  have f0 : w1.frozen? ⟨w.heap.size + 1 + 1, 0, none⟩ = false := (hf _ _ (by simp only [World.size_alloc]; omega)).trans (by simp [go_sem])
  have f1 : w1.frozen? ⟨w.heap.size + 1 + 1, 1, none⟩ = false := (hf _ _ (by simp only [World.size_alloc]; omega)).trans (by simp [go_sem])
  have u0 : w1.cell? ⟨w.heap.size, 0, none⟩ = some (.int .i64 a.1) := (hc _ _ (by simp only [World.size_alloc]; omega)).trans (by simp [go_sem])
  have u1 : w1.cell? ⟨w.heap.size, 1, none⟩ = some (.int .i64 a.2) := (hc _ _ (by simp only [World.size_alloc]; omega)).trans (by simp [go_sem])
  have v0 : w1.cell? ⟨w.heap.size + 1, 0, none⟩ = some (.int .i64 b.1) := (hc _ _ (by simp only [World.size_alloc]; omega)).trans (by simp [go_sem])
  have v1 : w1.cell? ⟨w.heap.size + 1, 1, none⟩ = some (.int .i64 b.2) := (hc _ _ (by simp only [World.size_alloc]; omega)).trans (by simp [go_sem])
  clear hc hf
  go_wp2_with fail
  refine (check1_ok (sumC a b) (w1.heap.size + 1) _ (by simp) HN.out (by simp [go_sem]) (by simp [go_sem])).mono ?_
  rintro e w2 ⟨rfl, hb2⟩
  have hbw2 := below2 hbw (Nat.le_refl _) hb2
  have hbx := below2 (Below.refl w1.heap.size w1) (Nat.le_refl _) hb2
  obtain ⟨hc2, _⟩ := bcell hb2
  clear hb2
  have r0' : w2.cell? ⟨w.heap.size + 1 + 1, 0, none⟩ = some (.int .i64 0) := (hbx.cell (p := ⟨w.heap.size + 1 + 1, 0, none⟩) (show w.heap.size + 1 + 1 < w1.heap.size by omega)).trans r0
  have r1' : w2.cell? ⟨w.heap.size + 1 + 1, 1, none⟩ = some (.int .i64 0) := (hbx.cell (p := ⟨w.heap.size + 1 + 1, 1, none⟩) (show w.heap.size + 1 + 1 < w1.heap.size by omega)).trans r1
  have f0' : w2.frozen? ⟨w.heap.size + 1 + 1, 0, none⟩ = false := (hbx.frozen (p := ⟨w.heap.size + 1 + 1, 0, none⟩) (show w.heap.size + 1 + 1 < w1.heap.size by omega)).trans f0
  have f1' : w2.frozen? ⟨w.heap.size + 1 + 1, 1, none⟩ = false := (hbx.frozen (p := ⟨w.heap.size + 1 + 1, 1, none⟩) (show w.heap.size + 1 + 1 < w1.heap.size by omega)).trans f1
  have s0 : w2.cell? ⟨w1.heap.size, 0, none⟩ = some (.int .i64 (a.1 + b.1)) := (hc2 _ _ (by simp only [World.size_alloc]; omega)).trans (by simp [go_sem])
  have s1 : w2.cell? ⟨w1.heap.size, 1, none⟩ = some (.int .i64 (a.2 + b.2)) := (hc2 _ _ (by simp only [World.size_alloc]; omega)).trans (by simp [go_sem])
  clear hc2 hbw hbx r0 r1 f0 f1 u0 u1 v0 v1
  go_wp2
  exact bodyPost_ret (v := .tuple #[.agg #[.int .i64 (a.1 + b.1), .int .i64 (a.2 + b.2)], .nilIface]) (by simp [results, Try.results6, go_sem, r0', r1']) rfl ⟨rfl, (hbw2.setCell (p := ⟨w.heap.size + 1 + 1, 0, none⟩) (by simp; omega) _).setCell (p := ⟨w.heap.size + 1 + 1, 1, none⟩) (by simp; omega) _⟩
end Go.Proofs.Ytppdaldobmlooaa
