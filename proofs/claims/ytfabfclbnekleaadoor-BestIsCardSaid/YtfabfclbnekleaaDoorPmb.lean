/- Some texts as one: Pm4, Pm5. -/
import Derived.Test.YtfabfclbnekleaaDoorPma
namespace Go.Proofs.YtfabfclbnekleaaDoor
open Go Go.RowKit

set_option maxRecDepth 100000 in
set_option maxHeartbeats 4000000 in
theorem bmove_zero (bp g n i c : Nat) (tx : ByteArray) (nn en : Int) (nx dp : Nat) (lg : Int) (ch : Nat) (w : World) (hi : (i : Int) < n)
    (c0 : w.cell? ⟨bp, 0, none⟩ = some (.slice (some ⟨g, 0, none⟩) n n))
    (d0 : w.cell? ⟨g, i * 7, none⟩ = some (.int .i64 5)) (d1 : w.cell? ⟨g, i * 7 + 1, none⟩ = some (.string tx)) (d2 : w.cell? ⟨g, i * 7 + 2, none⟩ = some (.int .i64 nn)) (d3 : w.cell? ⟨g, i * 7 + 3, none⟩ = some (.int .i64 en)) (d4 : w.cell? ⟨g, i * 7 + 4, none⟩ = some (.int .i64 nx)) (d5 : w.cell? ⟨g, i * 7 + 5, none⟩ = some (.int .i64 dp)) (d6 : w.cell? ⟨g, i * 7 + 6, none⟩ = some (.int .i64 lg)) :
    Calls Tryd.prog 105 #[.pointer (some ⟨bp, 0, none⟩), .agg #[.int .i64 i, .int .i64 c], .int .i64 ch] w fun e w' => e = .returned (.tuple #[.agg #[.int .i64 nx, .int .i64 c], .agg #[.int .i64 0, .int .i64 0]]) ∧ Below w.heap.size w w' := by
  have hp0 : (0 : Int) ≤ (i : Int) := by omega
  have hlt := World.block_lt_of_cell? w ⟨bp, 0, none⟩ c0
  have hltg := World.block_lt_of_cell? w ⟨g, i * 7, none⟩ d0
  have hx0 : ∀ O2 O3, (((w.alloc (.cells #[.int .i64 i, .int .i64 c] 120)).alloc O2).alloc O3).cell? ⟨w.heap.size, 0, none⟩ = some (.int .i64 i) := fun O2 O3 => by simp [go_sem]
  have hx4 : ∀ O2 O3 O4, ((((w.alloc (.cells #[.int .i64 i, .int .i64 c] 120)).alloc O2).alloc O3).alloc O4).cell? ⟨w.heap.size, 0, none⟩ = some (.int .i64 i) := fun O2 O3 O4 => ka (hx0 O2 O3) O4
  go_enter Tryd.func105, Tryd.ntmps105
  go_wp2_with fail
  go_region_held3 (fun w' => w'.cell? ⟨bp, 0, none⟩ = some (.slice (some ⟨g, 0, none⟩) n n) ∧ w'.cell? ⟨w.heap.size, 0, none⟩ = some (.int .i64 i) ∧ w'.cell? ⟨g, i * 7, none⟩ = some (.int .i64 5) ∧ w'.cell? ⟨g, i * 7 + 1, none⟩ = some (.string tx) ∧ w'.cell? ⟨g, i * 7 + 2, none⟩ = some (.int .i64 nn) ∧ w'.cell? ⟨g, i * 7 + 3, none⟩ = some (.int .i64 en) ∧ w'.cell? ⟨g, i * 7 + 4, none⟩ = some (.int .i64 nx) ∧ w'.cell? ⟨g, i * 7 + 5, none⟩ = some (.int .i64 dp) ∧ w'.cell? ⟨g, i * 7 + 6, none⟩ = some (.int .i64 lg))
    (first | exact ⟨k3 c0 _ _ _, hx0 _ _, k3 d0 _ _ _, k3 d1 _ _ _, k3 d2 _ _ _, k3 d3 _ _ _, k3 d4 _ _ _, k3 d5 _ _ _, k3 d6 _ _ _⟩ | exact ⟨k4 c0 _ _ _ _, hx4 _ _ _, k4 d0 _ _ _ _, k4 d1 _ _ _ _, k4 d2 _ _ _ _, k4 d3 _ _ _ _, k4 d4 _ _ _ _, k4 d5 _ _ _ _, k4 d6 _ _ _ _⟩) (fail)
  all_goals
    go_wp2
    exact bodyPost_ret (v := .tuple #[.agg #[.int .i64 nx, .int .i64 c], .agg #[.int .i64 0, .int .i64 0]]) (by simp [results, Tryd.results105, go_sem]) rfl ⟨rfl, (blw4 w _ _ _ _).drew⟩

set_option maxRecDepth 100000 in
set_option maxHeartbeats 4000000 in
theorem bmove_six (bp g n i c : Nat) (tx : ByteArray) (nn en : Int) (nx dp : Nat) (lg : Int) (ch : Nat) (w : World) (hn : n ≤ 400) (hi : (i : Int) < n)
    (c0 : w.cell? ⟨bp, 0, none⟩ = some (.slice (some ⟨g, 0, none⟩) n n))
    (d0 : w.cell? ⟨g, i * 7, none⟩ = some (.int .i64 6)) (d1 : w.cell? ⟨g, i * 7 + 1, none⟩ = some (.string tx)) (d2 : w.cell? ⟨g, i * 7 + 2, none⟩ = some (.int .i64 nn)) (d3 : w.cell? ⟨g, i * 7 + 3, none⟩ = some (.int .i64 en)) (d4 : w.cell? ⟨g, i * 7 + 4, none⟩ = some (.int .i64 nx)) (d5 : w.cell? ⟨g, i * 7 + 5, none⟩ = some (.int .i64 dp)) (d6 : w.cell? ⟨g, i * 7 + 6, none⟩ = some (.int .i64 lg)) :
    Calls Tryd.prog 105 #[.pointer (some ⟨bp, 0, none⟩), .agg #[.int .i64 i, .int .i64 c], .int .i64 ch] w fun e w' => e = .returned (.tuple #[.agg #[.int .i64 ((i : Int) + 1), .int .i64 c], .agg #[.int .i64 0, .int .i64 0]]) ∧ Below w.heap.size w w' := by
  have hp0 : (0 : Int) ≤ (i : Int) := by omega
  have hw1 := wrapT hn hi
  have hlt := World.block_lt_of_cell? w ⟨bp, 0, none⟩ c0
  have hltg := World.block_lt_of_cell? w ⟨g, i * 7, none⟩ d0
  have hx0 : ∀ O2 O3, (((w.alloc (.cells #[.int .i64 i, .int .i64 c] 120)).alloc O2).alloc O3).cell? ⟨w.heap.size, 0, none⟩ = some (.int .i64 i) := fun O2 O3 => by simp [go_sem]
  have hx4 : ∀ O2 O3 O4, ((((w.alloc (.cells #[.int .i64 i, .int .i64 c] 120)).alloc O2).alloc O3).alloc O4).cell? ⟨w.heap.size, 0, none⟩ = some (.int .i64 i) := fun O2 O3 O4 => ka (hx0 O2 O3) O4
  go_enter Tryd.func105, Tryd.ntmps105
  go_wp2_with fail
  go_region_held3 (fun w' => w'.cell? ⟨bp, 0, none⟩ = some (.slice (some ⟨g, 0, none⟩) n n) ∧ w'.cell? ⟨w.heap.size, 0, none⟩ = some (.int .i64 i) ∧ w'.cell? ⟨g, i * 7, none⟩ = some (.int .i64 6) ∧ w'.cell? ⟨g, i * 7 + 1, none⟩ = some (.string tx) ∧ w'.cell? ⟨g, i * 7 + 2, none⟩ = some (.int .i64 nn) ∧ w'.cell? ⟨g, i * 7 + 3, none⟩ = some (.int .i64 en) ∧ w'.cell? ⟨g, i * 7 + 4, none⟩ = some (.int .i64 nx) ∧ w'.cell? ⟨g, i * 7 + 5, none⟩ = some (.int .i64 dp) ∧ w'.cell? ⟨g, i * 7 + 6, none⟩ = some (.int .i64 lg))
    (first | exact ⟨k3 c0 _ _ _, hx0 _ _, k3 d0 _ _ _, k3 d1 _ _ _, k3 d2 _ _ _, k3 d3 _ _ _, k3 d4 _ _ _, k3 d5 _ _ _, k3 d6 _ _ _⟩ | exact ⟨k4 c0 _ _ _ _, hx4 _ _ _, k4 d0 _ _ _ _, k4 d1 _ _ _ _, k4 d2 _ _ _ _, k4 d3 _ _ _ _, k4 d4 _ _ _ _, k4 d5 _ _ _ _, k4 d6 _ _ _ _⟩) (fail)
  all_goals
    go_wp2
    exact bodyPost_ret (v := .tuple #[.agg #[.int .i64 ((i : Int) + 1), .int .i64 c], .agg #[.int .i64 0, .int .i64 0]]) (by simp [results, Tryd.results105, go_sem]) rfl ⟨rfl, (blw4 w _ _ _ _).drew⟩

set_option maxRecDepth 100000 in
set_option maxHeartbeats 4000000 in
theorem bmove_seven (bp g n i c : Nat) (tx : ByteArray) (nn en : Int) (nx dp : Nat) (lg : Int) (ch : Nat) (w : World) (hn : n ≤ 400) (hi : (i : Int) < n)
    (c0 : w.cell? ⟨bp, 0, none⟩ = some (.slice (some ⟨g, 0, none⟩) n n))
    (d0 : w.cell? ⟨g, i * 7, none⟩ = some (.int .i64 7)) (d1 : w.cell? ⟨g, i * 7 + 1, none⟩ = some (.string tx)) (d2 : w.cell? ⟨g, i * 7 + 2, none⟩ = some (.int .i64 nn)) (d3 : w.cell? ⟨g, i * 7 + 3, none⟩ = some (.int .i64 en)) (d4 : w.cell? ⟨g, i * 7 + 4, none⟩ = some (.int .i64 nx)) (d5 : w.cell? ⟨g, i * 7 + 5, none⟩ = some (.int .i64 dp)) (d6 : w.cell? ⟨g, i * 7 + 6, none⟩ = some (.int .i64 lg)) :
    Calls Tryd.prog 105 #[.pointer (some ⟨bp, 0, none⟩), .agg #[.int .i64 i, .int .i64 c], .int .i64 ch] w fun e w' => e = .returned (.tuple #[.agg #[.int .i64 ((i : Int) + 1), .int .i64 c], .agg #[.int .i64 0, .int .i64 0]]) ∧ Below w.heap.size w w' := by
  have hp0 : (0 : Int) ≤ (i : Int) := by omega
  have hw1 := wrapT hn hi
  have hlt := World.block_lt_of_cell? w ⟨bp, 0, none⟩ c0
  have hltg := World.block_lt_of_cell? w ⟨g, i * 7, none⟩ d0
  have hx0 : ∀ O2 O3, (((w.alloc (.cells #[.int .i64 i, .int .i64 c] 120)).alloc O2).alloc O3).cell? ⟨w.heap.size, 0, none⟩ = some (.int .i64 i) := fun O2 O3 => by simp [go_sem]
  have hx4 : ∀ O2 O3 O4, ((((w.alloc (.cells #[.int .i64 i, .int .i64 c] 120)).alloc O2).alloc O3).alloc O4).cell? ⟨w.heap.size, 0, none⟩ = some (.int .i64 i) := fun O2 O3 O4 => ka (hx0 O2 O3) O4
  go_enter Tryd.func105, Tryd.ntmps105
  go_wp2_with fail
  go_region_held3 (fun w' => w'.cell? ⟨bp, 0, none⟩ = some (.slice (some ⟨g, 0, none⟩) n n) ∧ w'.cell? ⟨w.heap.size, 0, none⟩ = some (.int .i64 i) ∧ w'.cell? ⟨g, i * 7, none⟩ = some (.int .i64 7) ∧ w'.cell? ⟨g, i * 7 + 1, none⟩ = some (.string tx) ∧ w'.cell? ⟨g, i * 7 + 2, none⟩ = some (.int .i64 nn) ∧ w'.cell? ⟨g, i * 7 + 3, none⟩ = some (.int .i64 en) ∧ w'.cell? ⟨g, i * 7 + 4, none⟩ = some (.int .i64 nx) ∧ w'.cell? ⟨g, i * 7 + 5, none⟩ = some (.int .i64 dp) ∧ w'.cell? ⟨g, i * 7 + 6, none⟩ = some (.int .i64 lg))
    (first | exact ⟨k3 c0 _ _ _, hx0 _ _, k3 d0 _ _ _, k3 d1 _ _ _, k3 d2 _ _ _, k3 d3 _ _ _, k3 d4 _ _ _, k3 d5 _ _ _, k3 d6 _ _ _⟩ | exact ⟨k4 c0 _ _ _ _, hx4 _ _ _, k4 d0 _ _ _ _, k4 d1 _ _ _ _, k4 d2 _ _ _ _, k4 d3 _ _ _ _, k4 d4 _ _ _ _, k4 d5 _ _ _ _, k4 d6 _ _ _ _⟩) (fail)
  all_goals
    go_wp2
    exact bodyPost_ret (v := .tuple #[.agg #[.int .i64 ((i : Int) + 1), .int .i64 c], .agg #[.int .i64 0, .int .i64 0]]) (by simp [results, Tryd.results105, go_sem]) rfl ⟨rfl, (blw4 w _ _ _ _).drew⟩

set_option maxRecDepth 100000 in
set_option maxHeartbeats 4000000 in
theorem bmove_eight (bp g n i c : Nat) (tx : ByteArray) (nn en : Int) (nx dp : Nat) (lg : Int) (w : World) (hn : n ≤ 400) (hi : (i : Int) < n)
    (c0 : w.cell? ⟨bp, 0, none⟩ = some (.slice (some ⟨g, 0, none⟩) n n))
    (d0 : w.cell? ⟨g, i * 7, none⟩ = some (.int .i64 8)) (d1 : w.cell? ⟨g, i * 7 + 1, none⟩ = some (.string tx)) (d2 : w.cell? ⟨g, i * 7 + 2, none⟩ = some (.int .i64 nn)) (d3 : w.cell? ⟨g, i * 7 + 3, none⟩ = some (.int .i64 en)) (d4 : w.cell? ⟨g, i * 7 + 4, none⟩ = some (.int .i64 nx)) (d5 : w.cell? ⟨g, i * 7 + 5, none⟩ = some (.int .i64 dp)) (d6 : w.cell? ⟨g, i * 7 + 6, none⟩ = some (.int .i64 lg)) :
    Calls Tryd.prog 105 #[.pointer (some ⟨bp, 0, none⟩), .agg #[.int .i64 i, .int .i64 c], .int .i64 1] w fun e w' => e = .returned (.tuple #[.agg #[.int .i64 ((i : Int) + 1), .int .i64 c], .agg #[.int .i64 0, .int .i64 0]]) ∧ Below w.heap.size w w' := by
  have hp0 : (0 : Int) ≤ (i : Int) := by omega
  have hw1 := wrapT hn hi
  have hlt := World.block_lt_of_cell? w ⟨bp, 0, none⟩ c0
  have hltg := World.block_lt_of_cell? w ⟨g, i * 7, none⟩ d0
  have hx0 : ∀ O2 O3, (((w.alloc (.cells #[.int .i64 i, .int .i64 c] 120)).alloc O2).alloc O3).cell? ⟨w.heap.size, 0, none⟩ = some (.int .i64 i) := fun O2 O3 => by simp [go_sem]
  have hx4 : ∀ O2 O3 O4, ((((w.alloc (.cells #[.int .i64 i, .int .i64 c] 120)).alloc O2).alloc O3).alloc O4).cell? ⟨w.heap.size, 0, none⟩ = some (.int .i64 i) := fun O2 O3 O4 => ka (hx0 O2 O3) O4
  go_enter Tryd.func105, Tryd.ntmps105
  go_wp2_with fail
  go_region_held3 (fun w' => w'.cell? ⟨bp, 0, none⟩ = some (.slice (some ⟨g, 0, none⟩) n n) ∧ w'.cell? ⟨w.heap.size, 0, none⟩ = some (.int .i64 i) ∧ w'.cell? ⟨g, i * 7, none⟩ = some (.int .i64 8) ∧ w'.cell? ⟨g, i * 7 + 1, none⟩ = some (.string tx) ∧ w'.cell? ⟨g, i * 7 + 2, none⟩ = some (.int .i64 nn) ∧ w'.cell? ⟨g, i * 7 + 3, none⟩ = some (.int .i64 en) ∧ w'.cell? ⟨g, i * 7 + 4, none⟩ = some (.int .i64 nx) ∧ w'.cell? ⟨g, i * 7 + 5, none⟩ = some (.int .i64 dp) ∧ w'.cell? ⟨g, i * 7 + 6, none⟩ = some (.int .i64 lg))
    (first | exact ⟨k3 c0 _ _ _, hx0 _ _, k3 d0 _ _ _, k3 d1 _ _ _, k3 d2 _ _ _, k3 d3 _ _ _, k3 d4 _ _ _, k3 d5 _ _ _, k3 d6 _ _ _⟩ | exact ⟨k4 c0 _ _ _ _, hx4 _ _ _, k4 d0 _ _ _ _, k4 d1 _ _ _ _, k4 d2 _ _ _ _, k4 d3 _ _ _ _, k4 d4 _ _ _ _, k4 d5 _ _ _ _, k4 d6 _ _ _ _⟩) (fail)
  all_goals
    go_wp2
    exact bodyPost_ret (v := .tuple #[.agg #[.int .i64 ((i : Int) + 1), .int .i64 c], .agg #[.int .i64 0, .int .i64 0]]) (by simp [results, Tryd.results105, go_sem]) rfl ⟨rfl, (blw4 w _ _ _ _).drew⟩

set_option maxRecDepth 100000 in
set_option maxHeartbeats 4000000 in
theorem bmove_nine (bp g n i c : Nat) (tx : ByteArray) (nn en : Int) (nx dp : Nat) (lg : Int) (w : World) (hn : n ≤ 400) (hi : (i : Int) < n)
    (c0 : w.cell? ⟨bp, 0, none⟩ = some (.slice (some ⟨g, 0, none⟩) n n))
    (d0 : w.cell? ⟨g, i * 7, none⟩ = some (.int .i64 9)) (d1 : w.cell? ⟨g, i * 7 + 1, none⟩ = some (.string tx)) (d2 : w.cell? ⟨g, i * 7 + 2, none⟩ = some (.int .i64 nn)) (d3 : w.cell? ⟨g, i * 7 + 3, none⟩ = some (.int .i64 en)) (d4 : w.cell? ⟨g, i * 7 + 4, none⟩ = some (.int .i64 nx)) (d5 : w.cell? ⟨g, i * 7 + 5, none⟩ = some (.int .i64 dp)) (d6 : w.cell? ⟨g, i * 7 + 6, none⟩ = some (.int .i64 lg)) :
    Calls Tryd.prog 105 #[.pointer (some ⟨bp, 0, none⟩), .agg #[.int .i64 i, .int .i64 c], .int .i64 0] w fun e w' => e = .returned (.tuple #[.agg #[.int .i64 ((i : Int) + 1), .int .i64 c], .agg #[.int .i64 0, .int .i64 0]]) ∧ Below w.heap.size w w' := by
  have hp0 : (0 : Int) ≤ (i : Int) := by omega
  have hw1 := wrapT hn hi
  have hlt := World.block_lt_of_cell? w ⟨bp, 0, none⟩ c0
  have hltg := World.block_lt_of_cell? w ⟨g, i * 7, none⟩ d0
  have hx0 : ∀ O2 O3, (((w.alloc (.cells #[.int .i64 i, .int .i64 c] 120)).alloc O2).alloc O3).cell? ⟨w.heap.size, 0, none⟩ = some (.int .i64 i) := fun O2 O3 => by simp [go_sem]
  have hx4 : ∀ O2 O3 O4, ((((w.alloc (.cells #[.int .i64 i, .int .i64 c] 120)).alloc O2).alloc O3).alloc O4).cell? ⟨w.heap.size, 0, none⟩ = some (.int .i64 i) := fun O2 O3 O4 => ka (hx0 O2 O3) O4
  go_enter Tryd.func105, Tryd.ntmps105
  go_wp2_with fail
  go_region_held3 (fun w' => w'.cell? ⟨bp, 0, none⟩ = some (.slice (some ⟨g, 0, none⟩) n n) ∧ w'.cell? ⟨w.heap.size, 0, none⟩ = some (.int .i64 i) ∧ w'.cell? ⟨g, i * 7, none⟩ = some (.int .i64 9) ∧ w'.cell? ⟨g, i * 7 + 1, none⟩ = some (.string tx) ∧ w'.cell? ⟨g, i * 7 + 2, none⟩ = some (.int .i64 nn) ∧ w'.cell? ⟨g, i * 7 + 3, none⟩ = some (.int .i64 en) ∧ w'.cell? ⟨g, i * 7 + 4, none⟩ = some (.int .i64 nx) ∧ w'.cell? ⟨g, i * 7 + 5, none⟩ = some (.int .i64 dp) ∧ w'.cell? ⟨g, i * 7 + 6, none⟩ = some (.int .i64 lg))
    (first | exact ⟨k3 c0 _ _ _, hx0 _ _, k3 d0 _ _ _, k3 d1 _ _ _, k3 d2 _ _ _, k3 d3 _ _ _, k3 d4 _ _ _, k3 d5 _ _ _, k3 d6 _ _ _⟩ | exact ⟨k4 c0 _ _ _ _, hx4 _ _ _, k4 d0 _ _ _ _, k4 d1 _ _ _ _, k4 d2 _ _ _ _, k4 d3 _ _ _ _, k4 d4 _ _ _ _, k4 d5 _ _ _ _, k4 d6 _ _ _ _⟩) (fail)
  all_goals
    go_wp2
    exact bodyPost_ret (v := .tuple #[.agg #[.int .i64 ((i : Int) + 1), .int .i64 c], .agg #[.int .i64 0, .int .i64 0]]) (by simp [results, Tryd.results105, go_sem]) rfl ⟨rfl, (blw4 w _ _ _ _).drew⟩
end Go.Proofs.YtfabfclbnekleaaDoor
namespace Go.Proofs.YtfabfclbnekleaaDoor
open Go Go.RowKit

set_option maxRecDepth 100000 in
set_option maxHeartbeats 4000000 in
theorem bmove_second (bp g n i c : Nat) (tx : ByteArray) (nn en : Int) (nx dp : Nat) (lg : Int) (x : Int) (w : World) (hn : n ≤ 400) (hi : (i : Int) < n) (hi1 : (i : Int) + 1 < n) (dx : w.cell? ⟨g, (i + 1) * 7 + 3, none⟩ = some (.int .i64 x))
    (c0 : w.cell? ⟨bp, 0, none⟩ = some (.slice (some ⟨g, 0, none⟩) n n))
    (d0 : w.cell? ⟨g, i * 7, none⟩ = some (.int .i64 9)) (d1 : w.cell? ⟨g, i * 7 + 1, none⟩ = some (.string tx)) (d2 : w.cell? ⟨g, i * 7 + 2, none⟩ = some (.int .i64 nn)) (d3 : w.cell? ⟨g, i * 7 + 3, none⟩ = some (.int .i64 en)) (d4 : w.cell? ⟨g, i * 7 + 4, none⟩ = some (.int .i64 nx)) (d5 : w.cell? ⟨g, i * 7 + 5, none⟩ = some (.int .i64 dp)) (d6 : w.cell? ⟨g, i * 7 + 6, none⟩ = some (.int .i64 lg)) :
    Calls Tryd.prog 105 #[.pointer (some ⟨bp, 0, none⟩), .agg #[.int .i64 i, .int .i64 c], .int .i64 1] w fun e w' => e = .returned (.tuple #[.agg #[.int .i64 x, .int .i64 c], .agg #[.int .i64 0, .int .i64 0]]) ∧ Below w.heap.size w w' := by
  have hp0 : (0 : Int) ≤ (i : Int) := by omega
  have hw1 := wrapT hn hi
  have hlt := World.block_lt_of_cell? w ⟨bp, 0, none⟩ c0
  have hltg := World.block_lt_of_cell? w ⟨g, i * 7, none⟩ d0
  have hx0 : ∀ O2 O3, (((w.alloc (.cells #[.int .i64 i, .int .i64 c] 120)).alloc O2).alloc O3).cell? ⟨w.heap.size, 0, none⟩ = some (.int .i64 i) := fun O2 O3 => by simp [go_sem]
  have hx4 : ∀ O2 O3 O4, ((((w.alloc (.cells #[.int .i64 i, .int .i64 c] 120)).alloc O2).alloc O3).alloc O4).cell? ⟨w.heap.size, 0, none⟩ = some (.int .i64 i) := fun O2 O3 O4 => ka (hx0 O2 O3) O4
  have hy4 : ∀ O2 O3 O4, ((((w.alloc (.cells #[.int .i64 i, .int .i64 c] 120)).alloc O2).alloc O3).alloc O4).cell? ⟨w.heap.size, 1, none⟩ = some (.int .i64 c) := fun O2 O3 O4 => by simp [go_sem]
  have hp1 : (0 : Int) ≤ (i : Int) + 1 := by omega
  have htn : ((i : Int) + 1).toNat = i + 1 := by omega
  go_enter Tryd.func105, Tryd.ntmps105
  go_wp2_with fail
  go_region_held3 (fun w' => w'.cell? ⟨bp, 0, none⟩ = some (.slice (some ⟨g, 0, none⟩) n n) ∧ w'.cell? ⟨w.heap.size, 0, none⟩ = some (.int .i64 i) ∧ w'.cell? ⟨g, i * 7, none⟩ = some (.int .i64 9) ∧ w'.cell? ⟨g, i * 7 + 1, none⟩ = some (.string tx) ∧ w'.cell? ⟨g, i * 7 + 2, none⟩ = some (.int .i64 nn) ∧ w'.cell? ⟨g, i * 7 + 3, none⟩ = some (.int .i64 en) ∧ w'.cell? ⟨g, i * 7 + 4, none⟩ = some (.int .i64 nx) ∧ w'.cell? ⟨g, i * 7 + 5, none⟩ = some (.int .i64 dp) ∧ w'.cell? ⟨g, i * 7 + 6, none⟩ = some (.int .i64 lg))
    (first | exact ⟨k3 c0 _ _ _, hx0 _ _, k3 d0 _ _ _, k3 d1 _ _ _, k3 d2 _ _ _, k3 d3 _ _ _, k3 d4 _ _ _, k3 d5 _ _ _, k3 d6 _ _ _⟩ | exact ⟨k4 c0 _ _ _ _, hx4 _ _ _, k4 d0 _ _ _ _, k4 d1 _ _ _ _, k4 d2 _ _ _ _, k4 d3 _ _ _ _, k4 d4 _ _ _ _, k4 d5 _ _ _ _, k4 d6 _ _ _ _⟩) (fail)
  all_goals
    go_wp2_with fail
    go_region_held3 (fun w' => w'.cell? ⟨bp, 0, none⟩ = some (.slice (some ⟨g, 0, none⟩) n n) ∧ w'.cell? ⟨w.heap.size, 0, none⟩ = some (.int .i64 i) ∧ w'.cell? ⟨w.heap.size, 1, none⟩ = some (.int .i64 c) ∧ w'.cell? ⟨g, (i + 1) * 7 + 3, none⟩ = some (.int .i64 x))
      (exact ⟨k4 c0 _ _ _ _, hx4 _ _ _, hy4 _ _ _, k4 dx _ _ _ _⟩) (fail)
    all_goals
      go_wp2
      exact bodyPost_ret (v := .tuple #[.agg #[.int .i64 x, .int .i64 c], .agg #[.int .i64 0, .int .i64 0]]) (by simp [results, Tryd.results105, go_sem]) rfl ⟨rfl, (blw4 w _ _ _ _).drew.drew⟩
end Go.Proofs.YtfabfclbnekleaaDoor
