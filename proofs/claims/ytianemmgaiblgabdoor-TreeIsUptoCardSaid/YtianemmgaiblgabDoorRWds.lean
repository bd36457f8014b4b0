/- The document's WordsFault. -/
import Derived.Test.YtianemmgaiblgabDoorFilM
import Derived.Test.YtianemmgaiblgabDoorFilQ
namespace Go.Proofs.YtianemmgaiblgabDoor
open Go Go.RowKit

set_option maxRecDepth 100000 in
set_option maxHeartbeats 2000000 in
theorem rWords_any (ws : List ByteArray) (a : Option Addr) (cap : Nat) (w : World) (hW : Wds w a ws) :
    Calls Tryd.prog 9 #[.slice a ws.length cap] w fun e w' => e = .returned (.int .i64 (wordsF ws)) ∧ w = w' := by
  have HW : Hid (Wds w a ws) := hW
  clear hW
  by_cases h1 : 60 < (ws.length : Int)
  · have HE : Hid (wordsF ws = 3) := wordsF_full (by omega)
    go_enter Tryd.func9, Tryd.ntmps9
    go_wp2
    go_ret
    exact ⟨by rw [HE.out]; rfl, rfl⟩
  go_enter Tryd.func9, Tryd.ntmps9
  go_wp2
  go_loopw [3] (fun i wr => wr = w ∧ ∃ k : Nat, k ≤ ws.length ∧ i = .int .i64 k ∧ ∀ j (h : j < ws.length), j < k → okW ws[j] = true) (fun i _ => ws.length - (intOf i).toNat)
  case atStart => exact ⟨rfl, 0, Nat.zero_le _, rfl, fun j _ hj => by omega⟩
  case round =>
    obtain ⟨rfl, k, hk, rfl, hall⟩ := hrel
    have HA : Hid (∀ j (h : j < ws.length), j < k → okW ws[j] = true) := hall
    clear hall
    by_cases hlt : k < ws.length
    · obtain ⟨b0, o0, ea, hb0, c0⟩ := HW.out k hlt
      subst ea
      have hki : (k : Int) < (ws.length : Int) := by omega
      have HOK : Hid (okW ws[k] = true → ∀ j (h : j < ws.length), j < k + 1 → okW ws[j] = true) := fun hb j h hj => by
        by_cases hjk : j = k
        · subst hjk; exact hb
        · exact HA.out j h (by omega)
      have HNO : Hid (okW ws[k] = false → wordsF ws = 5) := fun hb => wordsF_not (by omega) hlt hb
      generalize ws[k] = s at c0 HOK HNO
      by_cases g1 : (s.size : Int) < 1
      · have HE : Hid (wordsF ws = 5) := HNO.out (by simp [okW]; omega)
        go_wp2
        go_ret
        exact ⟨by rw [HE.out]; rfl, rfl⟩
      by_cases g2 : 20 < (s.size : Int)
      · have HE : Hid (wordsF ws = 5) := HNO.out (by simp [okW]; omega)
        go_wp2
        go_ret
        exact ⟨by rw [HE.out]; rfl, rfl⟩
      go_wp2
      go_loopw [4] (fun i wx => wx = wr ∧ ∃ m : Nat, m ≤ s.size ∧ i = .int .i64 m ∧ ∀ j (h : j < s.size), j < m → wByte s[j] = true) (fun i _ => s.size - (intOf i).toNat)
      case atStart => exact ⟨rfl, 0, Nat.zero_le _, rfl, fun j _ hj => by omega⟩
      case round =>
        obtain ⟨rfl, m, hm, rfl, hall2⟩ := hrel
        have HA2 : Hid (∀ j (h : j < s.size), j < m → wByte s[j] = true) := hall2
        clear hall2
        by_cases hlt2 : m < s.size
        · have hmi : (m : Int) < (s.size : Int) := by omega
          cases hb : wByte s[m] with
          | false =>
            have HE : Hid (wordsF ws = 5) := HNO.out (okW_not hlt2 hb)
            have hc := wByte_false hb
            clear hb
            rcases hc with hc | ⟨hc, hd⟩
            · go_wp2
              go_ret
              exact ⟨by rw [HE.out]; rfl, rfl⟩
            · go_wp2
              go_ret
              exact ⟨by rw [HE.out]; rfl, rfl⟩
          | true =>
            have HB : Hid (wByte s[m] = true) := hb
            obtain ⟨hc, hd⟩ := wByte_true hb
            clear hb
            go_wp2
            go_roundw
            case rel =>
              refine ⟨by trivial, m + 1, by omega, by go_num, ?_⟩
              intro j h hj
              by_cases hjk : j = m
              · subst hjk; exact HB.out
              · exact HA2.out j h (by omega)
            case measure => simp [intOf]; omega
        · have HE : Hid (∀ j (h : j < ws.length), j < k + 1 → okW ws[j] = true) := HOK.out (okW_take (by omega) (by omega) fun j h => HA2.out j h (by omega))
          go_wp2
          go_roundw
          case rel => exact ⟨by trivial, k + 1, by omega, by go_num, HE.out⟩
          case measure => simp [intOf]; omega
    · have HE : Hid (wordsF ws = 0) := wordsF_all (by omega) fun j h => HA.out j h (by omega)
      go_wp2
      go_ret
      exact ⟨by rw [HE.out]; rfl, rfl⟩
end Go.Proofs.YtianemmgaiblgabDoor
