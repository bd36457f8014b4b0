/- What a text costs, from a column on: against the document's reckoning, byte by byte. -/
import Derived.Test.YtfabfclbnekleaaBstPs
import Derived.Test.YtfabfclbnekleaaPlainR
namespace Go.Proofs.Ytfabfclbnekleaa

theorem col_st (wd : Nat) : ∀ (l : List UInt8) (o n : Int) (c : Nat), l.foldl (stp wd) (o, n, (c : Int)) = (o + (colS wd c l).1, n + (colS wd c l).2.1, ((colS wd c l).2.2 : Int))
  | [], o, n, c => by simp [colS]
  | b :: r, o, n, c => by
    have e3 : (b :: r).foldl (stp wd) (o, n, (c : Int)) = r.foldl (stp wd) (stp wd (o, n, (c : Int)) b) := rfl
    rw [e3]
    simp only [colS]
    by_cases hb : b = 10
    · have e4 : stp wd (o, n, (c : Int)) b = (o, n + 1, ((0 : Nat) : Int)) := by simp [stp, hb]
      rw [e4, col_st wd r, if_pos hb]
      simp only [Prod.mk.injEq, and_true, true_and]
      omega
    · have e4 : stp wd (o, n, (c : Int)) b = (o + (if wd ≤ c then 1 else 0 : Nat), n, ((c + 1 : Nat) : Int)) := by
        by_cases h : wd ≤ c
        · have h' : (wd : Int) < (c : Int) + 1 := by omega
          simp [stp, hb, h, h']
        · have h' : ¬ (wd : Int) < (c : Int) + 1 := by omega
          simp [stp, hb, h, h']
      rw [e4, col_st wd r, if_neg hb]
      simp only [Prod.mk.injEq, and_true]
      omega
theorem col_stL (wd : Nat) (l : List UInt8) : stL wd l = (((colS wd 0 l).1 : Int), ((colS wd 0 l).2.1 : Int), ((colS wd 0 l).2.2 : Int)) := by
  have := col_st wd l 0 0 0
  simpa [stL] using this
end Go.Proofs.Ytfabfclbnekleaa
