/- plain.Told and pargetrysame.Error: the number of an error. -/
import Derived.Test.YtppdaldobmlooaaDoorAs
import Derived.Test.YtppdaldobmlooaaDoorBase
namespace Go.Proofs.YtppdaldobmlooaaDoor
open Go Go.RowKit

/-- The variable errors.errorType reads as the program's text lays it. -/
def Hnd (w : World) : Prop := w.cell? ⟨0, 0, none⟩ = some (.iface 63 (.agg #[.pointer (some ⟨2, 28, none⟩)]))

theorem Hnd.lt {w : World} (h : Hnd w) : 0 < w.heap.size := by
  unfold Hnd at h
  rcases Nat.lt_or_ge 0 w.heap.size with h' | h'
  · exact h'
  · simp [World.cell?, Array.getElem?_eq_none h'] at h
theorem Hnd.below {w w' : World} (h : Hnd w) (hb : Below w.heap.size w w') : Hnd w' := ((bcell hb).1 _ _ h.lt).trans h
theorem Hnd.alloc {w : World} (h : Hnd w) (o : Obj) : Hnd (w.alloc o) := h.below ((Below.refl _ _).alloc (Nat.le_refl _) _)

set_option maxRecDepth 100000 in
theorem told_nil (w : World) : Calls Tryd.prog 12 #[.nilIface] w fun e w' => e = .returned (.int .i64 0) ∧ Below w.heap.size w w' := by
  go_enter Tryd.func12, Tryd.ntmps12
  go_wp2
  go_ret
  exact ⟨rfl, Below.refl _ _⟩

set_option maxRecDepth 100000 in
set_option maxHeartbeats 1000000 in
theorem told_err (n : Int) (w : World) (hg : Hnd w) : Calls Tryd.prog 12 #[.iface 24 (.int .i64 n)] w fun e w' => e = .returned (.int .i64 n) ∧ Below w.heap.size w w' := by
  have HG : Hid (Hnd w) := hg
  have hl := hg.lt
  clear hg
  go_enter Tryd.func12, Tryd.ntmps12
  go_wp2_with fail
  refine (as_hit n ⟨w.heap.size, 0, none⟩ (.int .i64 0) _ (HG.out.alloc _) (by simp [go_sem]) (by simp [go_sem])).mono ?_
  rintro e w1 ⟨rfl, rfl⟩
  go_wp2
  go_ret
  refine ⟨rfl, ?_⟩
  repeat (first | exact Below.refl _ _ | refine Below.setCell ?_ (by simp) _ | refine Below.alloc ?_ (by simp; try omega) _)

theorem told_any (n : Int) (w : World) (hg : Hnd w) : Calls Tryd.prog 12 #[errN n] w fun e w' => e = .returned (.int .i64 n) ∧ Below w.heap.size w w' := by
  by_cases h : n = 0
  · subst h
    exact told_nil w
  · have e : errN n = .iface 24 (.int .i64 n) := by simp [errN, h]
    rw [e]
    exact told_err n w hg

set_option maxRecDepth 100000 in
theorem serr_any (n m : Int) (w : World) (hg : Hnd w) : Calls Tryd.prog 7 #[errN n, .int .i64 m] w fun e w' => e = .returned (.bool (n == m)) ∧ Below w.heap.size w w' := by
  have HG : Hid (Hnd w) := hg
  clear hg
  go_enter Tryd.func7, Tryd.ntmps7
  go_wp2_with fail
  refine (told_any n _ HG.out).mono ?_
  rintro e w1 ⟨rfl, hb⟩
  go_wp2
  go_ret
  exact ⟨rfl, hb⟩
end Go.Proofs.YtppdaldobmlooaaDoor
