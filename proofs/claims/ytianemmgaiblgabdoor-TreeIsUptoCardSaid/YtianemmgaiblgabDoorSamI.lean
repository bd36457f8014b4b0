/- pargetrysame.Ints: are two lists the same? -/
import Derived.Test.YtianemmgaiblgabDoorIntB
import Derived.BigQuiet
import Derived.Deep.QuietTactic
import Derived.Outline
namespace Go.Proofs.YtianemmgaiblgabDoor
open Go Go.RowKit

theorem ext_iff {xs ys : List Int} (hl : xs.length = ys.length) (h : ∀ i (h1 : i < xs.length) (h2 : i < ys.length), xs[i] = ys[i]) : xs = ys := List.ext_getElem hl fun i h1 h2 => h i h1 h2

set_option maxRecDepth 100000 in
set_option maxHeartbeats 1000000 in
theorem sints_any (xs ys : List Int) (a b : Option Addr) (ca cb : Nat) (w : World) (hx : Ints w a xs) (hy : Ints w b ys) (hl : xs.length ≤ 9223372036854775807) :
    Calls Tryd.prog 19 #[.slice a xs.length ca, .slice b ys.length cb] w fun e w' => e = .returned (.bool (decide (xs = ys))) ∧ ∃ q, w' = w.drewN q := by
  have HX : Hid (Ints w a xs) := hx
  have HY : Hid (Ints w b ys) := hy
  clear hx hy
  by_cases hle : xs.length = ys.length
  · have hle' : ((xs.length : Int) != (ys.length : Int)) = false := by simp; omega
    have HLE : Hid (xs.length = ys.length) := hle
    have hle1 : (xs.length : Int) ≤ (ys.length : Int) := by omega
    clear hle
    go_enter Tryd.func19, Tryd.ntmps19
    go_wp2
    go_loopw [5] (fun i wr => (∃ q : Nat, wr = w.drewN q) ∧ ∃ k : Nat, k ≤ xs.length ∧ i = .int .i64 k ∧ ∀ j (h1 : j < xs.length) (h2 : j < ys.length), j < k → xs[j] = ys[j]) (fun i _ => xs.length - (intOf i).toNat)
    case atStart => exact ⟨⟨0, rfl⟩, 0, Nat.zero_le _, rfl, fun j _ _ hj => by omega⟩
    case round =>
      obtain ⟨⟨q, rfl⟩, k, hk, rfl, hall⟩ := hrel
      have HA : Hid (∀ j (h1 : j < xs.length) (h2 : j < ys.length), j < k → xs[j] = ys[j]) := hall
      clear hall
      by_cases hlt : k < xs.length
      · have hlt2 : k < ys.length := by have := HLE.out; omega
        have hi1 : (k : Int) < (xs.length : Int) := by omega
        have hi2 : (k : Int) < (ys.length : Int) := by omega
        obtain ⟨b1, o1, ea, _, c1⟩ := HX.out k hlt
        obtain ⟨b2, o2, eb, _, c2⟩ := HY.out k hlt2
        subst ea eb
        by_cases heq : xs[k] = ys[k]
        · have HA' : Hid (∀ j (h1 : j < xs.length) (h2 : j < ys.length), j < k + 1 → xs[j] = ys[j]) := fun j h1 h2 hj => by
            by_cases e : j = k
            · subst e; exact heq
            · exact HA.out j h1 h2 (by omega)
          rw [heq] at c1
          generalize ys[k] = z at c1 c2
          clear heq
          go_wp2_with fail
          go_quiet (fail)
          go_wp2
          go_roundw
          case rel => exact ⟨⟨_, rfl⟩, k + 1, by omega, by go_num, HA'.out⟩
          case measure => simp [intOf]; omega
        · have HN : Hid (xs ≠ ys) := fun e => heq (by subst e; rfl)
          have hne : (xs[k] != ys[k]) = true := by simp [heq]
          generalize xs[k] = z1 at c1 hne
          generalize ys[k] = z2 at c2 hne
          clear heq
          go_wp2_with fail
          go_quiet (fail)
          go_wp2
          go_ret
          exact ⟨by rw [decide_eq_false HN.out]; rfl, _, World.drewN_drewN _ _ _⟩
      · have HE : Hid (xs = ys) := ext_iff HLE.out fun j h1 h2 => HA.out j h1 h2 (by omega)
        go_wp2
        go_ret
        exact ⟨by rw [decide_eq_true HE.out]; rfl, q, rfl⟩
  · have hle' : ((xs.length : Int) != (ys.length : Int)) = true := by simp; omega
    have HN : Hid (xs ≠ ys) := fun e => hle (by rw [e])
    clear hle
    go_enter Tryd.func19, Tryd.ntmps19
    go_wp2
    go_ret
    exact ⟨by rw [decide_eq_false HN.out]; rfl, 0, rfl⟩

theorem sints_at (n : Nat) (xs : List Int) (hn : xs.length = n) (a b : Option Addr) (ca cb : Nat) (w : World) (hx : Ints w a xs) (hy : Ints w b xs) (hl : xs.length ≤ 9223372036854775807) :
    Calls Tryd.prog 19 #[.slice a n ca, .slice b n cb] w fun e w' => e = .returned (.bool true) ∧ ∃ q, w' = w.drewN q := by
  subst hn
  refine (sints_any xs xs a b ca cb w hx hy hl).mono fun e w' h => ⟨by rw [h.1]; simp, h.2⟩
end Go.Proofs.YtianemmgaiblgabDoor
