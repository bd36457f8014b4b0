/- learn of package way, some ways. (Made by tools/gen_plan.py.) -/
import Derived.Test.YtnfhiiefdmjdbaaDoorPlanW
import Derived.BigRegion
namespace Go.Proofs.YtnfhiiefdmjdbaaDoor
open Go Go.RowKit

set_option maxRecDepth 100000 in
set_option maxHeartbeats 4000000 in
theorem learn_6t (bp be bf s o n cap i j : Nat) (x2 : Int) (f2 : Bool) (w : World) (hn : n ≤ 400) (hi : (i : Int) < n) (hi1 : (i : Int) + 1 < n) (hj : (j : Int) < n) (hij : i + 1 < j) (h1 : bp ≠ be) (h2 : bp ≠ bf) (h3 : be ≠ bf) (h4 : s ≠ be) (h5 : s ≠ bf)
    (c0 : w.cell? ⟨bp, 0, none⟩ = some (.slice (some ⟨s, o, none⟩) n cap)) (c1 : w.cell? ⟨bp, 1, none⟩ = some (.slice (some ⟨be, 0, none⟩) n n)) (c2 : w.cell? ⟨bp, 2, none⟩ = some (.slice (some ⟨bf, 0, none⟩) n n))
    (d1 : w.cell? ⟨s, o + i * 3, none⟩ = some (.int .i64 6))
    (e1 : w.cell? ⟨be, i + 1, none⟩ = some (.int .i64 (j : Int)))
    (e2 : w.cell? ⟨be, j, none⟩ = some (.int .i64 x2))
    (e3 : w.cell? ⟨bf, i + 1, none⟩ = some (.bool true))
    (e4 : w.cell? ⟨bf, j, none⟩ = some (.bool f2))
    (y1 y2 : Value) (e5 : w.cell? ⟨be, i, none⟩ = some y1) (e6 : w.cell? ⟨bf, i, none⟩ = some y2) (z1 : w.frozen? ⟨be, i, none⟩ = false) (z2 : w.frozen? ⟨bf, i, none⟩ = false) :
    Calls Tryd.prog 61 #[.pointer (some ⟨bp, 0, none⟩), .int .i64 i] w fun e w' => e = .returned (.tuple #[]) ∧ Put2 be bf i (.int .i64 x2) (.bool f2) w w' := by
  have hw1 := wrapS hn hi
  have hp1 : (0 : Int) ≤ (i : Int) + 1 := by omega
  have hp0 : (0 : Int) ≤ (i : Int) := by omega
  have htn : ((i : Int) + 1).toNat = i + 1 := by omega
  have hpj : (0 : Int) ≤ (j : Int) := by omega
  go_enter Tryd.func61, Tryd.ntmps61
  go_wp2_with fail
  go_region_held3 (fun w' => w'.cell? ⟨bp, 0, none⟩ = some (.slice (some ⟨s, o, none⟩) n cap) ∧ w'.cell? ⟨bp, 1, none⟩ = some (.slice (some ⟨be, 0, none⟩) n n) ∧ w'.cell? ⟨bp, 2, none⟩ = some (.slice (some ⟨bf, 0, none⟩) n n) ∧ w'.cell? ⟨s, o + i * 3, none⟩ = some (.int .i64 6) ∧ w'.cell? ⟨be, i + 1, none⟩ = some (.int .i64 (j : Int)) ∧ w'.cell? ⟨be, j, none⟩ = some (.int .i64 x2) ∧ w'.cell? ⟨bf, i + 1, none⟩ = some (.bool true) ∧ w'.cell? ⟨bf, j, none⟩ = some (.bool f2))
    (first | exact ⟨c0, c1, c2, d1, e1, e2, e3, e4⟩ | exact ⟨(cso (by omega)).trans c0, (cso (by omega)).trans c1, (cso (by omega)).trans c2, (cso (by omega)).trans d1, (cso (by omega)).trans e1, (cso (by omega)).trans e2, (cso (by omega)).trans e3, (cso (by omega)).trans e4⟩ | exact ⟨(cso (by omega)).trans ((cso (by omega)).trans c0), (cso (by omega)).trans ((cso (by omega)).trans c1), (cso (by omega)).trans ((cso (by omega)).trans c2), (cso (by omega)).trans ((cso (by omega)).trans d1), (cso (by omega)).trans ((cso (by omega)).trans e1), (cso (by omega)).trans ((cso (by omega)).trans e2), (cso (by omega)).trans ((cso (by omega)).trans e3), (cso (by omega)).trans ((cso (by omega)).trans e4)⟩) (fail)
  all_goals
    go_wp2
    go_end0
    exact ⟨rfl, rfl, rfl, rfl, rfl⟩

set_option maxRecDepth 100000 in
set_option maxHeartbeats 4000000 in
theorem learn_6f (bp be bf s o n cap i j : Nat) (x2 : Int) (f2 : Bool) (w : World) (hn : n ≤ 400) (hi : (i : Int) < n) (hi1 : (i : Int) + 1 < n) (hj : (j : Int) < n) (_hij : i + 1 < j) (h1 : bp ≠ be) (h2 : bp ≠ bf) (h3 : be ≠ bf) (h4 : s ≠ be) (h5 : s ≠ bf)
    (c0 : w.cell? ⟨bp, 0, none⟩ = some (.slice (some ⟨s, o, none⟩) n cap)) (c1 : w.cell? ⟨bp, 1, none⟩ = some (.slice (some ⟨be, 0, none⟩) n n)) (c2 : w.cell? ⟨bp, 2, none⟩ = some (.slice (some ⟨bf, 0, none⟩) n n))
    (d1 : w.cell? ⟨s, o + i * 3, none⟩ = some (.int .i64 6))
    (e1 : w.cell? ⟨be, i + 1, none⟩ = some (.int .i64 (j : Int)))
    (e2 : w.cell? ⟨be, j, none⟩ = some (.int .i64 x2))
    (e3 : w.cell? ⟨bf, i + 1, none⟩ = some (.bool false))
    (_e4 : w.cell? ⟨bf, j, none⟩ = some (.bool f2))
    (y1 y2 : Value) (e5 : w.cell? ⟨be, i, none⟩ = some y1) (e6 : w.cell? ⟨bf, i, none⟩ = some y2) (z1 : w.frozen? ⟨be, i, none⟩ = false) (z2 : w.frozen? ⟨bf, i, none⟩ = false) :
    Calls Tryd.prog 61 #[.pointer (some ⟨bp, 0, none⟩), .int .i64 i] w fun e w' => e = .returned (.tuple #[]) ∧ Put2 be bf i (.int .i64 x2) (.bool false) w w' := by
  have hw1 := wrapS hn hi
  have hp1 : (0 : Int) ≤ (i : Int) + 1 := by omega
  have hp0 : (0 : Int) ≤ (i : Int) := by omega
  have htn : ((i : Int) + 1).toNat = i + 1 := by omega
  have hpj : (0 : Int) ≤ (j : Int) := by omega
  have q0 := (cso (W := w) (v := .int .i64 x2) (b := be) (o := i) (by omega)).trans c0
  have q1 := (cso (W := w) (v := .int .i64 x2) (b := be) (o := i) (by omega)).trans c1
  have q2 := (cso (W := w) (v := .int .i64 x2) (b := be) (o := i) (by omega)).trans c2
  have q3 := (cso (W := w) (v := .int .i64 x2) (b := be) (o := i) (by omega)).trans e3
  have q6 := (cso (W := w) (v := .int .i64 x2) (b := be) (o := i) (by omega)).trans e6
  have qf := (csf (W := w) (v := .int .i64 x2) (a := ⟨be, i, none⟩)).trans z2
  go_enter Tryd.func61, Tryd.ntmps61
  go_wp2_with fail
  go_region
  all_goals
    go_wp2
    go_end0
    exact ⟨rfl, rfl, rfl, rfl, rfl⟩
end Go.Proofs.YtnfhiiefdmjdbaaDoor
