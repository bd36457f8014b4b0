/- Package fill, the small ones: isWord, Check. -/
import Derived.Test.YtianemmgaiblgabDoorFilM
import Derived.Test.YtianemmgaiblgabDoorFilQ
import Derived.Test.YtianemmgaiblgabDoorIntB
namespace Go.Proofs.YtianemmgaiblgabDoor
open Go Go.RowKit

set_option maxRecDepth 100000 in
set_option maxHeartbeats 1000000 in
theorem xIsWord_any (s : ByteArray) (w : World) : Calls Tryd.prog 28 #[.string s] w fun e w' => e = .returned (.bool (okW s)) ∧ w = w' := by
  by_cases h1 : (s.size : Int) < 1
  · have e : okW s = false := by simp [okW]; omega
    rw [e]
    clear e
    go_enter Tryd.func28, Tryd.ntmps28
    go_wp2
    go_ret
    exact ⟨rfl, rfl⟩
  by_cases h2 : 20 < (s.size : Int)
  · have e : okW s = false := by simp [okW]; omega
    rw [e]
    clear e
    go_enter Tryd.func28, Tryd.ntmps28
    go_wp2
    go_ret
    exact ⟨rfl, rfl⟩
  go_enter Tryd.func28, Tryd.ntmps28
  go_wp2
  go_loopw [14] (fun i wr => wr = w ∧ ∃ k : Nat, k ≤ s.size ∧ i = .int .i64 k ∧ ∀ j (h : j < s.size), j < k → wByte s[j] = true) (fun i _ => s.size - (intOf i).toNat)
  case atStart => exact ⟨rfl, 0, Nat.zero_le _, rfl, fun j _ hj => by omega⟩
  case round =>
    obtain ⟨rfl, k, hk, rfl, hall⟩ := hrel
    have HA : Hid (∀ j (h : j < s.size), j < k → wByte s[j] = true) := hall
    clear hall
    by_cases hlt : k < s.size
    · cases hb : wByte s[k] with
      | false =>
        have HE : Hid (okW s = false) := okW_not hlt hb
        have hc := wByte_false hb
        clear hb
        rcases hc with hc | ⟨hc, hd⟩
        · go_wp2
          go_ret
          exact ⟨by rw [HE.out]; rfl, rfl⟩
        · go_wp2
          go_ret
          exact ⟨by rw [HE.out]; rfl, rfl⟩
      | true =>
        have HB : Hid (wByte s[k] = true) := hb
        obtain ⟨hc, hd⟩ := wByte_true hb
        clear hb
        go_wp2
        go_roundw
        case rel =>
          refine ⟨by trivial, k + 1, by omega, by go_num, ?_⟩
          intro j h hj
          by_cases hjk : j = k
          · subst hjk; exact HB.out
          · exact HA.out j h (by omega)
        case measure => simp [intOf]; omega
    · have HE : Hid (okW s = true) := okW_take (by omega) (by omega) fun j h => HA.out j h (by omega)
      go_wp2
      go_ret
      exact ⟨by rw [HE.out]; rfl, rfl⟩

set_option maxRecDepth 100000 in
set_option maxHeartbeats 1000000 in
theorem xCheck_any (ws : List ByteArray) (a : Option Addr) (cap : Nat) (w : World) (hW : Wds w a ws) :
    Calls Tryd.prog 11 #[.slice a ws.length cap] w fun e w' => e = .returned (errN (wordsF ws)) ∧ w = w' := by
  have HW : Hid (Wds w a ws) := hW
  clear hW
  by_cases h1 : 60 < (ws.length : Int)
  · have HE : Hid (wordsF ws = 3) := wordsF_full (by omega)
    go_enter Tryd.func11, Tryd.ntmps11
    go_wp2
    go_ret
    exact ⟨by rw [HE.out]; rfl, rfl⟩
  go_enter Tryd.func11, Tryd.ntmps11
  go_wp2
  go_loopw [11] (fun i wr => wr = w ∧ ∃ k : Nat, k ≤ ws.length ∧ i = .int .i64 k ∧ ∀ j (h : j < ws.length), j < k → okW ws[j] = true) (fun i _ => ws.length - (intOf i).toNat)
  case atStart => exact ⟨rfl, 0, Nat.zero_le _, rfl, fun j _ hj => by omega⟩
  case round =>
    obtain ⟨rfl, k, hk, rfl, hall⟩ := hrel
    have HA : Hid (∀ j (h : j < ws.length), j < k → okW ws[j] = true) := hall
    clear hall
    by_cases hlt : k < ws.length
    · obtain ⟨b0, o0, ea, hb0, c0⟩ := HW.out k hlt
      subst ea
      cases hb : okW ws[k] with
      | false =>
        have HE : Hid (wordsF ws = 5) := wordsF_not (by omega) hlt hb
        have HB : Hid (okW ws[k] = false) := hb
        generalize ws[k] = x at c0 HB
        clear hb
        go_wp2_with fail
        refine (xIsWord_any _ _).mono ?_
        rintro e w2 ⟨rfl, rfl⟩
        rw [HB.out]
        go_wp2
        go_ret
        exact ⟨by rw [HE.out]; rfl, rfl⟩
      | true =>
        have HB : Hid (okW ws[k] = true) := hb
        have HA' : Hid (∀ j (h : j < ws.length), j < k + 1 → okW ws[j] = true) := fun j h hj => by
          by_cases hjk : j = k
          · subst hjk; exact hb
          · exact HA.out j h (by omega)
        generalize ws[k] = x at c0 HB
        clear hb
        go_wp2_with fail
        refine (xIsWord_any _ _).mono ?_
        rintro e w2 ⟨rfl, rfl⟩
        rw [HB.out]
        go_wp2
        go_roundw
        case rel => exact ⟨by trivial, k + 1, by omega, by go_num, HA'.out⟩
        case measure => simp [intOf]; omega
    · have HE : Hid (wordsF ws = 0) := wordsF_all (by omega) fun j h => HA.out j h (by omega)
      go_wp2
      go_ret
      exact ⟨by rw [HE.out]; rfl, rfl⟩
end Go.Proofs.YtianemmgaiblgabDoor
