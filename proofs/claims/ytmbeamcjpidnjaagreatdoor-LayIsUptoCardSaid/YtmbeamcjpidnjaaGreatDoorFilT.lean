/- pargetrysame.Texts of two lists that are the same. -/
import Derived.Test.YtmbeamcjpidnjaaGreatDoorMems
import Derived.BigQuiet
import Derived.Deep.QuietTactic
import Derived.Outline
namespace Go.Proofs.YtmbeamcjpidnjaaGreatDoor
open Go Go.RowKit

set_option maxRecDepth 100000 in
set_option maxHeartbeats 1000000 in
theorem stexts_same (xs : List ByteArray) (a b : Option Addr) (ca cb : Nat) (w : World) (hx : Wds w a xs) (hy : Wds w b xs) (hl : xs.length ≤ 9223372036854775807) :
    Calls Tryz.prog 21 #[.slice a xs.length ca, .slice b xs.length cb] w fun e w' => e = .returned (.bool true) ∧ ∃ q, w' = w.drewN q := by
  have HX : Hid (Wds w a xs) := hx
  have HY : Hid (Wds w b xs) := hy
  have hle' : ((xs.length : Int) != (xs.length : Int)) = false := by simp
  clear hx hy
  go_enter Tryz.func21, Tryz.ntmps21
  go_wp2
  go_loopw [5] (fun i wr => (∃ q : Nat, wr = w.drewN q) ∧ ∃ k : Nat, k ≤ xs.length ∧ i = .int .i64 k) (fun i _ => xs.length - (intOf i).toNat)
  case atStart => exact ⟨⟨0, rfl⟩, 0, Nat.zero_le _, rfl⟩
  case round =>
    obtain ⟨⟨q, rfl⟩, k, hk, rfl⟩ := hrel
    by_cases hlt : k < xs.length
    · have hi1 : (k : Int) < (xs.length : Int) := by omega
      obtain ⟨b1, o1, ea, _, c1⟩ := HX.out k hlt
      obtain ⟨b2, o2, eb, _, c2⟩ := HY.out k hlt
      subst ea eb
      generalize xs[k] = x at c1 c2
      go_wp2_with fail
      go_quiet (fail)
      go_wp2
      go_roundw
      case rel => exact ⟨⟨_, rfl⟩, k + 1, by omega, by go_num⟩
      case measure => simp [intOf]; omega
    · go_wp2
      go_ret
      exact ⟨rfl, q, rfl⟩
theorem stexts_at (n : Nat) (xs : List ByteArray) (hn : xs.length = n) (a b : Option Addr) (ca cb : Nat) (w : World) (hx : Wds w a xs) (hy : Wds w b xs) (hl : xs.length ≤ 9223372036854775807) :
    Calls Tryz.prog 21 #[.slice a n ca, .slice b n cb] w fun e w' => e = .returned (.bool true) ∧ ∃ q, w' = w.drewN q := by
  subst hn; exact stexts_same xs a b ca cb w hx hy hl
end Go.Proofs.YtmbeamcjpidnjaaGreatDoor
