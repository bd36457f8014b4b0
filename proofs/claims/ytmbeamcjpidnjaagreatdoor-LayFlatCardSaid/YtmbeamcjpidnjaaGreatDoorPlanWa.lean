/- Some texts as one: PlanW, PlanW1, PlanW2. -/
import Derived.Test.YtmbeamcjpidnjaaGreatDoorNodS
import Derived.Test.YtmbeamcjpidnjaaGreatDoorDocFs
import Derived.Test.YtmbeamcjpidnjaaGreatDoorFlatS
import Derived.Deep.RegionHeld3
import Derived.Deep.OwnRows
import Derived.Deep.DeepCutAuto
namespace Go.Proofs.YtmbeamcjpidnjaaGreatDoor
open Go Go.RowKit

/-- What learn does to the memory. -/
def Put2 (be bf i : Nat) (e f : Value) (w w' : World) : Prop :=
  w'.os = w.os ∧ w'.tape = w.tape ∧ w'.output = w.output ∧ w'.heap = ((w.setCell ⟨be, i, none⟩ e).setCell ⟨bf, i, none⟩ f).heap

theorem wrapS {i n : Nat} (hn : n ≤ 400) (hi : (i : Int) < n) : IntKind.i64.wrap ((i : Int) + 1) = (i : Int) + 1 := by
  rw [IntKind.wrap_i64]; omega
end Go.Proofs.YtmbeamcjpidnjaaGreatDoor
namespace Go.Proofs.YtmbeamcjpidnjaaGreatDoor
open Go Go.RowKit

set_option maxRecDepth 100000 in
set_option maxHeartbeats 4000000 in
theorem learn_1 (bp be bf s o n cap i : Nat) (w : World) (hn : n ≤ 400) (hi : (i : Int) < n) (h1 : bp ≠ be) (h2 : bp ≠ bf) (h3 : be ≠ bf) (h4 : s ≠ be) (h5 : s ≠ bf)
    (c0 : w.cell? ⟨bp, 0, none⟩ = some (.slice (some ⟨s, o, none⟩) n cap)) (c1 : w.cell? ⟨bp, 1, none⟩ = some (.slice (some ⟨be, 0, none⟩) n n)) (c2 : w.cell? ⟨bp, 2, none⟩ = some (.slice (some ⟨bf, 0, none⟩) n n))
    (d1 : w.cell? ⟨s, o + i * 3, none⟩ = some (.int .i64 1))
    (y1 y2 : Value) (e5 : w.cell? ⟨be, i, none⟩ = some y1) (e6 : w.cell? ⟨bf, i, none⟩ = some y2) (z1 : w.frozen? ⟨be, i, none⟩ = false) (z2 : w.frozen? ⟨bf, i, none⟩ = false) :
    Calls Tryz.prog 90 #[.pointer (some ⟨bp, 0, none⟩), .int .i64 i] w fun e w' => e = .returned (.tuple #[]) ∧ Put2 be bf i (.int .i64 ((i : Int) + 1)) (.bool true) w w' := by
  have hw1 := wrapS hn hi
  have hp1 : (0 : Int) ≤ (i : Int) + 1 := by omega
  have hp0 : (0 : Int) ≤ (i : Int) := by omega
  have htn : ((i : Int) + 1).toNat = i + 1 := by omega
  go_enter Tryz.func90, Tryz.ntmps90
  go_wp2_with fail
  go_region_held3 (fun w' => w'.cell? ⟨bp, 0, none⟩ = some (.slice (some ⟨s, o, none⟩) n cap) ∧ w'.cell? ⟨bp, 1, none⟩ = some (.slice (some ⟨be, 0, none⟩) n n) ∧ w'.cell? ⟨bp, 2, none⟩ = some (.slice (some ⟨bf, 0, none⟩) n n) ∧ w'.cell? ⟨s, o + i * 3, none⟩ = some (.int .i64 1))
    (first | exact ⟨c0, c1, c2, d1⟩ | exact ⟨(cso (by omega)).trans c0, (cso (by omega)).trans c1, (cso (by omega)).trans c2, (cso (by omega)).trans d1⟩ | exact ⟨(cso (by omega)).trans ((cso (by omega)).trans c0), (cso (by omega)).trans ((cso (by omega)).trans c1), (cso (by omega)).trans ((cso (by omega)).trans c2), (cso (by omega)).trans ((cso (by omega)).trans d1)⟩) (fail)
  all_goals
    go_wp2
    go_end0
    exact ⟨rfl, rfl, rfl, rfl, rfl⟩

set_option maxRecDepth 100000 in
set_option maxHeartbeats 4000000 in
theorem learn_2 (bp be bf s o n cap i : Nat) (w : World) (hn : n ≤ 400) (hi : (i : Int) < n) (h1 : bp ≠ be) (h2 : bp ≠ bf) (h3 : be ≠ bf) (h4 : s ≠ be) (h5 : s ≠ bf)
    (c0 : w.cell? ⟨bp, 0, none⟩ = some (.slice (some ⟨s, o, none⟩) n cap)) (c1 : w.cell? ⟨bp, 1, none⟩ = some (.slice (some ⟨be, 0, none⟩) n n)) (c2 : w.cell? ⟨bp, 2, none⟩ = some (.slice (some ⟨bf, 0, none⟩) n n))
    (d1 : w.cell? ⟨s, o + i * 3, none⟩ = some (.int .i64 2))
    (y1 y2 : Value) (e5 : w.cell? ⟨be, i, none⟩ = some y1) (e6 : w.cell? ⟨bf, i, none⟩ = some y2) (z1 : w.frozen? ⟨be, i, none⟩ = false) (z2 : w.frozen? ⟨bf, i, none⟩ = false) :
    Calls Tryz.prog 90 #[.pointer (some ⟨bp, 0, none⟩), .int .i64 i] w fun e w' => e = .returned (.tuple #[]) ∧ Put2 be bf i (.int .i64 ((i : Int) + 1)) (.bool true) w w' := by
  have hw1 := wrapS hn hi
  have hp1 : (0 : Int) ≤ (i : Int) + 1 := by omega
  have hp0 : (0 : Int) ≤ (i : Int) := by omega
  have htn : ((i : Int) + 1).toNat = i + 1 := by omega
  go_enter Tryz.func90, Tryz.ntmps90
  go_wp2_with fail
  go_region_held3 (fun w' => w'.cell? ⟨bp, 0, none⟩ = some (.slice (some ⟨s, o, none⟩) n cap) ∧ w'.cell? ⟨bp, 1, none⟩ = some (.slice (some ⟨be, 0, none⟩) n n) ∧ w'.cell? ⟨bp, 2, none⟩ = some (.slice (some ⟨bf, 0, none⟩) n n) ∧ w'.cell? ⟨s, o + i * 3, none⟩ = some (.int .i64 2))
    (first | exact ⟨c0, c1, c2, d1⟩ | exact ⟨(cso (by omega)).trans c0, (cso (by omega)).trans c1, (cso (by omega)).trans c2, (cso (by omega)).trans d1⟩ | exact ⟨(cso (by omega)).trans ((cso (by omega)).trans c0), (cso (by omega)).trans ((cso (by omega)).trans c1), (cso (by omega)).trans ((cso (by omega)).trans c2), (cso (by omega)).trans ((cso (by omega)).trans d1)⟩) (fail)
  all_goals
    go_wp2
    go_end0
    exact ⟨rfl, rfl, rfl, rfl, rfl⟩

set_option maxRecDepth 100000 in
set_option maxHeartbeats 4000000 in
theorem learn_3 (bp be bf s o n cap i : Nat) (w : World) (hn : n ≤ 400) (hi : (i : Int) < n) (h1 : bp ≠ be) (h2 : bp ≠ bf) (h3 : be ≠ bf) (h4 : s ≠ be) (h5 : s ≠ bf)
    (c0 : w.cell? ⟨bp, 0, none⟩ = some (.slice (some ⟨s, o, none⟩) n cap)) (c1 : w.cell? ⟨bp, 1, none⟩ = some (.slice (some ⟨be, 0, none⟩) n n)) (c2 : w.cell? ⟨bp, 2, none⟩ = some (.slice (some ⟨bf, 0, none⟩) n n))
    (d1 : w.cell? ⟨s, o + i * 3, none⟩ = some (.int .i64 3))
    (y1 y2 : Value) (e5 : w.cell? ⟨be, i, none⟩ = some y1) (e6 : w.cell? ⟨bf, i, none⟩ = some y2) (z1 : w.frozen? ⟨be, i, none⟩ = false) (z2 : w.frozen? ⟨bf, i, none⟩ = false) :
    Calls Tryz.prog 90 #[.pointer (some ⟨bp, 0, none⟩), .int .i64 i] w fun e w' => e = .returned (.tuple #[]) ∧ Put2 be bf i (.int .i64 ((i : Int) + 1)) (.bool true) w w' := by
  have hw1 := wrapS hn hi
  have hp1 : (0 : Int) ≤ (i : Int) + 1 := by omega
  have hp0 : (0 : Int) ≤ (i : Int) := by omega
  have htn : ((i : Int) + 1).toNat = i + 1 := by omega
  go_enter Tryz.func90, Tryz.ntmps90
  go_wp2_with fail
  go_region_held3 (fun w' => w'.cell? ⟨bp, 0, none⟩ = some (.slice (some ⟨s, o, none⟩) n cap) ∧ w'.cell? ⟨bp, 1, none⟩ = some (.slice (some ⟨be, 0, none⟩) n n) ∧ w'.cell? ⟨bp, 2, none⟩ = some (.slice (some ⟨bf, 0, none⟩) n n) ∧ w'.cell? ⟨s, o + i * 3, none⟩ = some (.int .i64 3))
    (first | exact ⟨c0, c1, c2, d1⟩ | exact ⟨(cso (by omega)).trans c0, (cso (by omega)).trans c1, (cso (by omega)).trans c2, (cso (by omega)).trans d1⟩ | exact ⟨(cso (by omega)).trans ((cso (by omega)).trans c0), (cso (by omega)).trans ((cso (by omega)).trans c1), (cso (by omega)).trans ((cso (by omega)).trans c2), (cso (by omega)).trans ((cso (by omega)).trans d1)⟩) (fail)
  all_goals
    go_wp2
    go_end0
    exact ⟨rfl, rfl, rfl, rfl, rfl⟩

set_option maxRecDepth 100000 in
set_option maxHeartbeats 4000000 in
theorem learn_5 (bp be bf s o n cap i : Nat) (w : World) (hn : n ≤ 400) (hi : (i : Int) < n) (h1 : bp ≠ be) (h2 : bp ≠ bf) (h3 : be ≠ bf) (h4 : s ≠ be) (h5 : s ≠ bf)
    (c0 : w.cell? ⟨bp, 0, none⟩ = some (.slice (some ⟨s, o, none⟩) n cap)) (c1 : w.cell? ⟨bp, 1, none⟩ = some (.slice (some ⟨be, 0, none⟩) n n)) (c2 : w.cell? ⟨bp, 2, none⟩ = some (.slice (some ⟨bf, 0, none⟩) n n))
    (d1 : w.cell? ⟨s, o + i * 3, none⟩ = some (.int .i64 5))
    (y1 y2 : Value) (e5 : w.cell? ⟨be, i, none⟩ = some y1) (e6 : w.cell? ⟨bf, i, none⟩ = some y2) (z1 : w.frozen? ⟨be, i, none⟩ = false) (z2 : w.frozen? ⟨bf, i, none⟩ = false) :
    Calls Tryz.prog 90 #[.pointer (some ⟨bp, 0, none⟩), .int .i64 i] w fun e w' => e = .returned (.tuple #[]) ∧ Put2 be bf i (.int .i64 ((i : Int) + 1)) (.bool true) w w' := by
  have hw1 := wrapS hn hi
  have hp1 : (0 : Int) ≤ (i : Int) + 1 := by omega
  have hp0 : (0 : Int) ≤ (i : Int) := by omega
  have htn : ((i : Int) + 1).toNat = i + 1 := by omega
  go_enter Tryz.func90, Tryz.ntmps90
  go_wp2_with fail
  go_region_held3 (fun w' => w'.cell? ⟨bp, 0, none⟩ = some (.slice (some ⟨s, o, none⟩) n cap) ∧ w'.cell? ⟨bp, 1, none⟩ = some (.slice (some ⟨be, 0, none⟩) n n) ∧ w'.cell? ⟨bp, 2, none⟩ = some (.slice (some ⟨bf, 0, none⟩) n n) ∧ w'.cell? ⟨s, o + i * 3, none⟩ = some (.int .i64 5))
    (first | exact ⟨c0, c1, c2, d1⟩ | exact ⟨(cso (by omega)).trans c0, (cso (by omega)).trans c1, (cso (by omega)).trans c2, (cso (by omega)).trans d1⟩ | exact ⟨(cso (by omega)).trans ((cso (by omega)).trans c0), (cso (by omega)).trans ((cso (by omega)).trans c1), (cso (by omega)).trans ((cso (by omega)).trans c2), (cso (by omega)).trans ((cso (by omega)).trans d1)⟩) (fail)
  all_goals
    go_wp2
    go_end0
    exact ⟨rfl, rfl, rfl, rfl, rfl⟩

set_option maxRecDepth 100000 in
set_option maxHeartbeats 4000000 in
theorem learn_4 (bp be bf s o n cap i : Nat) (w : World) (hn : n ≤ 400) (hi : (i : Int) < n) (h1 : bp ≠ be) (h2 : bp ≠ bf) (h3 : be ≠ bf) (h4 : s ≠ be) (h5 : s ≠ bf)
    (c0 : w.cell? ⟨bp, 0, none⟩ = some (.slice (some ⟨s, o, none⟩) n cap)) (c1 : w.cell? ⟨bp, 1, none⟩ = some (.slice (some ⟨be, 0, none⟩) n n)) (c2 : w.cell? ⟨bp, 2, none⟩ = some (.slice (some ⟨bf, 0, none⟩) n n))
    (d1 : w.cell? ⟨s, o + i * 3, none⟩ = some (.int .i64 4))
    (y1 y2 : Value) (e5 : w.cell? ⟨be, i, none⟩ = some y1) (e6 : w.cell? ⟨bf, i, none⟩ = some y2) (z1 : w.frozen? ⟨be, i, none⟩ = false) (z2 : w.frozen? ⟨bf, i, none⟩ = false) :
    Calls Tryz.prog 90 #[.pointer (some ⟨bp, 0, none⟩), .int .i64 i] w fun e w' => e = .returned (.tuple #[]) ∧ Put2 be bf i (.int .i64 ((i : Int) + 1)) (.bool false) w w' := by
  have hw1 := wrapS hn hi
  have hp1 : (0 : Int) ≤ (i : Int) + 1 := by omega
  have hp0 : (0 : Int) ≤ (i : Int) := by omega
  have htn : ((i : Int) + 1).toNat = i + 1 := by omega
  go_enter Tryz.func90, Tryz.ntmps90
  go_wp2_with fail
  go_region_held3 (fun w' => w'.cell? ⟨bp, 0, none⟩ = some (.slice (some ⟨s, o, none⟩) n cap) ∧ w'.cell? ⟨bp, 1, none⟩ = some (.slice (some ⟨be, 0, none⟩) n n) ∧ w'.cell? ⟨bp, 2, none⟩ = some (.slice (some ⟨bf, 0, none⟩) n n) ∧ w'.cell? ⟨s, o + i * 3, none⟩ = some (.int .i64 4))
    (first | exact ⟨c0, c1, c2, d1⟩ | exact ⟨(cso (by omega)).trans c0, (cso (by omega)).trans c1, (cso (by omega)).trans c2, (cso (by omega)).trans d1⟩ | exact ⟨(cso (by omega)).trans ((cso (by omega)).trans c0), (cso (by omega)).trans ((cso (by omega)).trans c1), (cso (by omega)).trans ((cso (by omega)).trans c2), (cso (by omega)).trans ((cso (by omega)).trans d1)⟩) (fail)
  all_goals
    go_wp2
    go_end0
    exact ⟨rfl, rfl, rfl, rfl, rfl⟩
end Go.Proofs.YtmbeamcjpidnjaaGreatDoor
namespace Go.Proofs.YtmbeamcjpidnjaaGreatDoor
open Go Go.RowKit

set_option maxRecDepth 100000 in
set_option maxHeartbeats 4000000 in
theorem learn_7 (bp be bf s o n cap i : Nat) (x1 : Int) (f1 : Bool) (w : World) (hn : n ≤ 400) (hi : (i : Int) < n) (hi1 : (i : Int) + 1 < n) (h1 : bp ≠ be) (h2 : bp ≠ bf) (h3 : be ≠ bf) (h4 : s ≠ be) (h5 : s ≠ bf)
    (c0 : w.cell? ⟨bp, 0, none⟩ = some (.slice (some ⟨s, o, none⟩) n cap)) (c1 : w.cell? ⟨bp, 1, none⟩ = some (.slice (some ⟨be, 0, none⟩) n n)) (c2 : w.cell? ⟨bp, 2, none⟩ = some (.slice (some ⟨bf, 0, none⟩) n n))
    (d1 : w.cell? ⟨s, o + i * 3, none⟩ = some (.int .i64 7))
    (e1 : w.cell? ⟨be, i + 1, none⟩ = some (.int .i64 x1))
    (e3 : w.cell? ⟨bf, i + 1, none⟩ = some (.bool f1))
    (y1 y2 : Value) (e5 : w.cell? ⟨be, i, none⟩ = some y1) (e6 : w.cell? ⟨bf, i, none⟩ = some y2) (z1 : w.frozen? ⟨be, i, none⟩ = false) (z2 : w.frozen? ⟨bf, i, none⟩ = false) :
    Calls Tryz.prog 90 #[.pointer (some ⟨bp, 0, none⟩), .int .i64 i] w fun e w' => e = .returned (.tuple #[]) ∧ Put2 be bf i (.int .i64 x1) (.bool f1) w w' := by
  have hw1 := wrapS hn hi
  have hp1 : (0 : Int) ≤ (i : Int) + 1 := by omega
  have hp0 : (0 : Int) ≤ (i : Int) := by omega
  have htn : ((i : Int) + 1).toNat = i + 1 := by omega
  go_enter Tryz.func90, Tryz.ntmps90
  go_wp2_with fail
  go_region_held3 (fun w' => w'.cell? ⟨bp, 0, none⟩ = some (.slice (some ⟨s, o, none⟩) n cap) ∧ w'.cell? ⟨bp, 1, none⟩ = some (.slice (some ⟨be, 0, none⟩) n n) ∧ w'.cell? ⟨bp, 2, none⟩ = some (.slice (some ⟨bf, 0, none⟩) n n) ∧ w'.cell? ⟨s, o + i * 3, none⟩ = some (.int .i64 7) ∧ w'.cell? ⟨be, i + 1, none⟩ = some (.int .i64 x1) ∧ w'.cell? ⟨bf, i + 1, none⟩ = some (.bool f1))
    (first | exact ⟨c0, c1, c2, d1, e1, e3⟩ | exact ⟨(cso (by omega)).trans c0, (cso (by omega)).trans c1, (cso (by omega)).trans c2, (cso (by omega)).trans d1, (cso (by omega)).trans e1, (cso (by omega)).trans e3⟩ | exact ⟨(cso (by omega)).trans ((cso (by omega)).trans c0), (cso (by omega)).trans ((cso (by omega)).trans c1), (cso (by omega)).trans ((cso (by omega)).trans c2), (cso (by omega)).trans ((cso (by omega)).trans d1), (cso (by omega)).trans ((cso (by omega)).trans e1), (cso (by omega)).trans ((cso (by omega)).trans e3)⟩) (fail)
  all_goals
    go_wp2
    go_end0
    exact ⟨rfl, rfl, rfl, rfl, rfl⟩

set_option maxRecDepth 100000 in
set_option maxHeartbeats 4000000 in
theorem learn_8 (bp be bf s o n cap i : Nat) (x1 : Int) (f1 : Bool) (w : World) (hn : n ≤ 400) (hi : (i : Int) < n) (hi1 : (i : Int) + 1 < n) (h1 : bp ≠ be) (h2 : bp ≠ bf) (h3 : be ≠ bf) (h4 : s ≠ be) (h5 : s ≠ bf)
    (c0 : w.cell? ⟨bp, 0, none⟩ = some (.slice (some ⟨s, o, none⟩) n cap)) (c1 : w.cell? ⟨bp, 1, none⟩ = some (.slice (some ⟨be, 0, none⟩) n n)) (c2 : w.cell? ⟨bp, 2, none⟩ = some (.slice (some ⟨bf, 0, none⟩) n n))
    (d1 : w.cell? ⟨s, o + i * 3, none⟩ = some (.int .i64 8))
    (e1 : w.cell? ⟨be, i + 1, none⟩ = some (.int .i64 x1))
    (e3 : w.cell? ⟨bf, i + 1, none⟩ = some (.bool f1))
    (y1 y2 : Value) (e5 : w.cell? ⟨be, i, none⟩ = some y1) (e6 : w.cell? ⟨bf, i, none⟩ = some y2) (z1 : w.frozen? ⟨be, i, none⟩ = false) (z2 : w.frozen? ⟨bf, i, none⟩ = false) :
    Calls Tryz.prog 90 #[.pointer (some ⟨bp, 0, none⟩), .int .i64 i] w fun e w' => e = .returned (.tuple #[]) ∧ Put2 be bf i (.int .i64 x1) (.bool f1) w w' := by
  have hw1 := wrapS hn hi
  have hp1 : (0 : Int) ≤ (i : Int) + 1 := by omega
  have hp0 : (0 : Int) ≤ (i : Int) := by omega
  have htn : ((i : Int) + 1).toNat = i + 1 := by omega
  go_enter Tryz.func90, Tryz.ntmps90
  go_wp2_with fail
  go_region_held3 (fun w' => w'.cell? ⟨bp, 0, none⟩ = some (.slice (some ⟨s, o, none⟩) n cap) ∧ w'.cell? ⟨bp, 1, none⟩ = some (.slice (some ⟨be, 0, none⟩) n n) ∧ w'.cell? ⟨bp, 2, none⟩ = some (.slice (some ⟨bf, 0, none⟩) n n) ∧ w'.cell? ⟨s, o + i * 3, none⟩ = some (.int .i64 8) ∧ w'.cell? ⟨be, i + 1, none⟩ = some (.int .i64 x1) ∧ w'.cell? ⟨bf, i + 1, none⟩ = some (.bool f1))
    (first | exact ⟨c0, c1, c2, d1, e1, e3⟩ | exact ⟨(cso (by omega)).trans c0, (cso (by omega)).trans c1, (cso (by omega)).trans c2, (cso (by omega)).trans d1, (cso (by omega)).trans e1, (cso (by omega)).trans e3⟩ | exact ⟨(cso (by omega)).trans ((cso (by omega)).trans c0), (cso (by omega)).trans ((cso (by omega)).trans c1), (cso (by omega)).trans ((cso (by omega)).trans c2), (cso (by omega)).trans ((cso (by omega)).trans d1), (cso (by omega)).trans ((cso (by omega)).trans e1), (cso (by omega)).trans ((cso (by omega)).trans e3)⟩) (fail)
  all_goals
    go_wp2
    go_end0
    exact ⟨rfl, rfl, rfl, rfl, rfl⟩
end Go.Proofs.YtmbeamcjpidnjaaGreatDoor
