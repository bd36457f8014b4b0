/- ahead of the statements' package: one way ahead of another. -/
import Derived.Test.YtnfhiiefdmjdbaaSam
namespace Go.Proofs.Ytnfhiiefdmjdbaa
open Go Go.RowKit

theorem aheadL_at : ∀ {xs ys : List Int}, aheadL xs ys → ∃ k, ∃ h1 : k < xs.length, ∃ h2 : k < ys.length, (∀ j (h1 : j < xs.length) (h2 : j < ys.length), j < k → xs[j] = ys[j]) ∧ xs[k] < ys[k]
  | x :: xs, y :: ys, h => by
    simp only [aheadL] at h
    split at h
    · rename_i e
      obtain ⟨k, h1, h2, h3, h4⟩ := aheadL_at h
      refine ⟨k + 1, by simp; omega, by simp; omega, fun j g1 g2 hj => ?_, h4⟩
      cases j with
      | zero => exact e
      | succ j => exact h3 j (by simpa using g1) (by simpa using g2) (by omega)
    · exact ⟨0, by simp, by simp, fun j _ _ hj => by omega, h⟩

set_option maxRecDepth 100000 in
set_option maxHeartbeats 1000000 in
theorem lahead_yes (xs ys : List Int) (a b : Option Addr) (ca cb : Nat) (w : World) (hx : Ints w a xs) (hy : Ints w b ys) (hl : xs.length ≤ 1000000) (h : aheadL xs ys) :
    Calls Try.prog 15 #[.slice a xs.length ca, .slice b ys.length cb] w fun e w' => e = .returned (.bool true) ∧ ∃ q, w' = w.drewN q := by
  have HX : Hid (Ints w a xs) := hx
  have HY : Hid (Ints w b ys) := hy
  obtain ⟨k, hk1, hk2, hpre, hlt⟩ := aheadL_at h
  have HP : Hid (∀ j (h1 : j < xs.length) (h2 : j < ys.length), j < k → xs[j] = ys[j]) := hpre
  have HL : Hid (xs[k] < ys[k]) := hlt
  clear hx hy h hpre hlt
  go_enter Try.func15, Try.ntmps15
  go_wp2
  go_loopw [5] (fun i wr => (∃ q : Nat, wr = w.drewN q) ∧ ∃ j : Nat, j ≤ k ∧ i = .int .i64 j) (fun i _ => k + 1 - (intOf i).toNat)
  case atStart => exact ⟨⟨0, rfl⟩, 0, Nat.zero_le _, rfl⟩
  case round =>
    obtain ⟨⟨q, rfl⟩, j, hj, rfl⟩ := hrel
    have hj1 : j < xs.length := by omega
    have hj2 : j < ys.length := by omega
    have hi1 : (j : Int) < (xs.length : Int) := by omega
    have hi2 : (j : Int) < (ys.length : Int) := by omega
    obtain ⟨b1, o1, ea, _, c1⟩ := HX.out j hj1
    obtain ⟨b2, o2, eb, _, c2⟩ := HY.out j hj2
    subst ea eb
    by_cases hjk : j < k
    · rw [HP.out j hj1 hj2 hjk] at c1
      generalize ys[j] = z at c1 c2
      go_wp2_with fail
      go_quiet (fail)
      go_wp2
      go_roundw
      case rel => exact ⟨⟨_, rfl⟩, j + 1, by omega, by go_num⟩
      case measure => simp [intOf]; omega
    · obtain rfl : j = k := by omega
      have hlt := HL.out
      generalize xs[j] = z1 at c1 hlt
      generalize ys[j] = z2 at c2 hlt
      have hne : (z1 != z2) = true := by simp; omega
      go_wp2_with fail
      go_quiet (fail)
      go_wp2_with fail
      go_quiet (fail)
      go_wp2
      go_ret
      exact ⟨rfl, _, by rw [World.drewN_drewN, World.drewN_drewN]⟩
end Go.Proofs.Ytnfhiiefdmjdbaa
