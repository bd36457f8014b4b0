/- The document's Less. -/
import Derived.Test.YtfabfclbnekleaaBase
import Derived.Test.YtfabfclbnekleaaBstPs
namespace Go.Proofs.Ytfabfclbnekleaa
open Go Go.RowKit

/-- Less, of two costs. -/
def lessZ (a b : Int × Int) : Bool := if a.1 != b.1 then decide (a.1 < b.1) else decide (a.2 < b.2)
set_option maxRecDepth 100000 in
set_option maxHeartbeats 1000000 in
theorem rlessZ_any (a b : Int × Int) (w : World) :
    Calls Try.prog 21 #[.agg #[.int .i64 a.1, .int .i64 a.2], .agg #[.int .i64 b.1, .int .i64 b.2]] w fun e w' => e = .returned (.bool (lessZ a b)) ∧ Below w.heap.size w w' := by
  by_cases h : a.1 = b.1
  · have hl : lessZ a b = decide (a.2 < b.2) := by simp [lessZ, h]
    rw [hl]
    have h' : (a.1 != b.1) = false := by simp [h]
    clear h hl
    go_enter Try.func21, Try.ntmps21
    go_wp2
    go_ret
    exact ⟨rfl, ((Below.refl _ _).alloc (Nat.le_refl _) _).alloc (by simp) _⟩
  · have hl : lessZ a b = decide (a.1 < b.1) := by simp [lessZ, h]
    rw [hl]
    have h' : (a.1 != b.1) = true := by simp [h]
    clear h hl
    go_enter Try.func21, Try.ntmps21
    go_wp2
    go_ret
    exact ⟨rfl, ((Below.refl _ _).alloc (Nat.le_refl _) _).alloc (by simp) _⟩
/-- .. is what is cheaper. -/
theorem lessZ_C (a b : Nat × Nat) : lessZ ((a.1 : Int), (a.2 : Int)) ((b.1 : Int), (b.2 : Int)) = decide (lessC a b) := by
  rw [Bool.eq_iff_iff, decide_eq_true_eq]
  unfold lessZ lessC
  dsimp only
  split
  · rename_i h
    have h' : (a.1 : Int) ≠ b.1 := bne_iff_ne.1 h
    rw [decide_eq_true_eq]
    omega
  · rename_i h
    have h' : (a.1 : Int) = b.1 := by simpa using h
    rw [decide_eq_true_eq]
    omega
theorem rless_nat (a b : Nat × Nat) (w : World) :
    Calls Try.prog 21 #[.agg #[.int .i64 (a.1 : Int), .int .i64 (a.2 : Int)], .agg #[.int .i64 (b.1 : Int), .int .i64 (b.2 : Int)]] w fun e w' => e = .returned (.bool (decide (lessC a b))) ∧ Below w.heap.size w w' := by
  have := rlessZ_any ((a.1 : Int), (a.2 : Int)) ((b.1 : Int), (b.2 : Int)) w
  rw [lessZ_C] at this
  exact this
end Go.Proofs.Ytfabfclbnekleaa
