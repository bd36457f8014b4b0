/- Words by the document: WordsFault, Joined, badness. -/
import Derived.Test.YtmpfffpkjnjhdabDoorFilA
namespace Go.Proofs.YtmpfffpkjnjhdabDoor
open Go Go.RowKit

set_option maxRecDepth 100000 in
set_option maxHeartbeats 2000000 in
theorem rWords_any (ws : List ByteArray) (a : Option Addr) (cap : Nat) (w : World) (hW : Wds w a ws) :
    Calls Tryd.prog 4 #[.slice a ws.length cap] w fun e w' => e = .returned (.int .i64 (wordsF ws)) ∧ w = w' := by
  have HW : Hid (Wds w a ws) := hW
  clear hW
  by_cases h1 : 60 < (ws.length : Int)
  · have HE : Hid (wordsF ws = 3) := wordsF_full (by omega)
    go_enter Tryd.func4, Tryd.ntmps4
    go_wp2
    go_ret
    exact ⟨by rw [HE.out]; rfl, rfl⟩
  go_enter Tryd.func4, Tryd.ntmps4
  go_wp2
  go_loopw [3] (fun i wr => wr = w ∧ ∃ k : Nat, k ≤ ws.length ∧ i = .int .i64 k ∧ ∀ j (h : j < ws.length), j < k → okW ws[j] = true) (fun i _ => ws.length - (intOf i).toNat)
  case atStart => exact ⟨rfl, 0, Nat.zero_le _, rfl, fun j _ hj => by omega⟩
  case round =>
    obtain ⟨rfl, k, hk, rfl, hall⟩ := hrel
    have HA : Hid (∀ j (h : j < ws.length), j < k → okW ws[j] = true) := hall
    clear hall
    by_cases hlt : k < ws.length
    · obtain ⟨b0, o0, ea, hb0, c0⟩ := HW.out k hlt
      subst ea
      have hki : (k : Int) < (ws.length : Int) := by omega
      have HOK : Hid (okW ws[k] = true → ∀ j (h : j < ws.length), j < k + 1 → okW ws[j] = true) := fun hb j h hj => by
        by_cases hjk : j = k
        · subst hjk; exact hb
        · exact HA.out j h (by omega)
      have HNO : Hid (okW ws[k] = false → wordsF ws = 5) := fun hb => wordsF_not (by omega) hlt hb
      generalize ws[k] = s at c0 HOK HNO
      by_cases g1 : (s.size : Int) < 1
      · have HE : Hid (wordsF ws = 5) := HNO.out (by simp [okW]; omega)
        go_wp2
        go_ret
        exact ⟨by rw [HE.out]; rfl, rfl⟩
      by_cases g2 : 20 < (s.size : Int)
      · have HE : Hid (wordsF ws = 5) := HNO.out (by simp [okW]; omega)
        go_wp2
        go_ret
        exact ⟨by rw [HE.out]; rfl, rfl⟩
      go_wp2
      go_loopw [4] (fun i wx => wx = wr ∧ ∃ m : Nat, m ≤ s.size ∧ i = .int .i64 m ∧ ∀ j (h : j < s.size), j < m → wByte s[j] = true) (fun i _ => s.size - (intOf i).toNat)
      case atStart => exact ⟨rfl, 0, Nat.zero_le _, rfl, fun j _ hj => by omega⟩
      case round =>
        obtain ⟨rfl, m, hm, rfl, hall2⟩ := hrel
        have HA2 : Hid (∀ j (h : j < s.size), j < m → wByte s[j] = true) := hall2
        clear hall2
        by_cases hlt2 : m < s.size
        · have hmi : (m : Int) < (s.size : Int) := by omega
          cases hb : wByte s[m] with
          | false =>
            have HE : Hid (wordsF ws = 5) := HNO.out (okW_not hlt2 hb)
            have hc := wByte_false hb
            clear hb
            rcases hc with hc | ⟨hc, hd⟩
            · go_wp2
              go_ret
              exact ⟨by rw [HE.out]; rfl, rfl⟩
            · go_wp2
              go_ret
              exact ⟨by rw [HE.out]; rfl, rfl⟩
          | true =>
            have HB : Hid (wByte s[m] = true) := hb
            obtain ⟨hc, hd⟩ := wByte_true hb
            clear hb
            go_wp2
            go_roundw
            case rel =>
              refine ⟨by trivial, m + 1, by omega, by go_num, ?_⟩
              intro j h hj
              by_cases hjk : j = m
              · subst hjk; exact HB.out
              · exact HA2.out j h (by omega)
            case measure => simp [intOf]; omega
        · have HE : Hid (∀ j (h : j < ws.length), j < k + 1 → okW ws[j] = true) := HOK.out (okW_take (by omega) (by omega) fun j h => HA2.out j h (by omega))
          go_wp2
          go_roundw
          case rel => exact ⟨by trivial, k + 1, by omega, by go_num, HE.out⟩
          case measure => simp [intOf]; omega
    · have HE : Hid (wordsF ws = 0) := wordsF_all (by omega) fun j h => HA.out j h (by omega)
      go_wp2
      go_ret
      exact ⟨by rw [HE.out]; rfl, rfl⟩

set_option maxRecDepth 100000 in
set_option maxHeartbeats 2000000 in
theorem rJoined_any (ws : List ByteArray) (a : Option Addr) (cap : Nat) (w : World) (hF : Few ws) (hW : Wds w a ws) :
    Calls Tryd.prog 15 #[.slice a ws.length cap] w fun e w' => e = .returned (.string (jnS ws)) ∧ w = w' := by
  have HW : Hid (Wds w a ws) := hW
  have HF : Hid (Few ws) := hF
  have hl := hF.1
  clear hW hF
  go_enter Tryd.func15, Tryd.ntmps15
  go_wp2
  go_loopw [3, 4] (fun s i wr => wr = w ∧ ∃ k : Nat, k ≤ ws.length ∧ i = .int .i64 k ∧ s = .string (jnS (ws.take k))) (fun _ i _ => ws.length - (intOf i).toNat)
  case atStart => exact ⟨rfl, 0, Nat.zero_le _, rfl, rfl⟩
  case round =>
    obtain ⟨rfl, k, hk, rfl, rfl⟩ := hrel
    by_cases hlt : k < ws.length
    · obtain ⟨b0, o0, ea, hb0, c0⟩ := HW.out k hlt
      subst ea
      have hki : (k : Int) < (ws.length : Int) := by omega
      have hx := HF.out.2 _ (List.getElem_mem hlt)
      have hz : (jnS (ws.take k)).size ≤ 1260 := by rw [jnS_size]; exact (HF.out.take k).ln
      by_cases h0 : k = 0
      · have HS : Hid (jnS (ws.take (k + 1)) = jnS (ws.take k) ++ ws[k]) := by
          show _ = _
          subst h0
          rw [List.take_zero, jnS_nil, jnS_take0 hlt]
          exact (ByteArray.empty_append).symm
        have h0' : ¬ (0 : Int) < (k : Int) := by omega
        generalize ws[k] = x at c0 HS hx
        generalize jnS (ws.take k) = z at HS hz
        clear h0
        go_wp2
        go_roundw
        case rel => exact ⟨by trivial, k + 1, by omega, by go_num, by rw [HS.out]⟩
        case measure => simp [intOf]; omega
      · have HS : Hid (jnS (ws.take (k + 1)) = jnS (ws.take k) ++ ⟨#[32]⟩ ++ ws[k]) := jnS_take (by omega) hlt
        have h0' : (0 : Int) < (k : Int) := by omega
        generalize ws[k] = x at c0 HS hx
        generalize jnS (ws.take k) = z at HS hz
        clear h0
        go_wp2
        go_roundw
        case rel => exact ⟨by trivial, k + 1, by omega, by go_num, by rw [HS.out]⟩
        case measure => simp [intOf]; omega
    · have hke : k = ws.length := by omega
      subst hke
      have HT : Hid (jnS (ws.take ws.length) = jnS ws) := by show _ = _; rw [List.take_length]
      go_wp2
      go_ret
      exact ⟨by rw [← HT.out]; rfl, rfl⟩

set_option maxRecDepth 100000 in
set_option maxHeartbeats 2000000 in
theorem rBad_any (ws : List ByteArray) (a : Option Addr) (cap wd : Nat) (last : Bool) (w : World) (hF : Few ws) (hw : wd ≤ 100) (hW : Wds w a ws) :
    Calls Tryd.prog 14 #[.slice a ws.length cap, .int .i64 wd, .bool last] w fun e w' => e = .returned (.int .i64 (bd (ln ws) wd last)) ∧ w = w' := by
  have HW : Hid (Wds w a ws) := hW
  have HF : Hid (Few ws) := hF
  have hn := hF.ln
  have HZ : Hid ((jnS ws).size = ln ws) := jnS_size ws
  clear hW hF
  generalize ln ws = n at hn HZ
  by_cases h : wd < n
  · have HE : Hid ((bd n wd last : Int) = 1000 * ((n : Int) - wd)) := bd_over h
    have h' : (wd : Int) < n := by omega
    clear h
    go_enter Tryd.func14, Tryd.ntmps14
    go_wp2_with fail
    refine (rJoined_any ws a cap _ HF.out HW.out).mono ?_
    rintro e w2 ⟨rfl, rfl⟩
    have hz := HZ.out
    go_wp2
    go_ret
    exact ⟨by rw [HE.out]; go_num, rfl⟩
  · cases last with
    | true =>
      have HE : Hid (bd n wd true = 0) := bd_last h
      have h' : ¬ (wd : Int) < n := by omega
      clear h
      go_enter Tryd.func14, Tryd.ntmps14
      go_wp2_with fail
      refine (rJoined_any ws a cap _ HF.out HW.out).mono ?_
      rintro e w2 ⟨rfl, rfl⟩
      have hz := HZ.out
      go_wp2
      go_ret
      exact ⟨by rw [HE.out]; rfl, rfl⟩
    | false =>
      have HE : Hid ((bd n wd false : Int) = ((wd : Int) - n) * ((wd : Int) - n)) := bd_short h
      have h' : ¬ (wd : Int) < n := by omega
      have h1 : IntKind.i64.wrap ((wd : Int) - n) = (wd : Int) - n := by rw [IntKind.wrap_i64]; omega
      have h2 : IntKind.i64.wrap (((wd : Int) - n) * ((wd : Int) - n)) = ((wd : Int) - n) * ((wd : Int) - n) := by
        have a1 : 0 ≤ ((wd : Int) - n) * ((wd : Int) - n) := Int.mul_nonneg (by omega) (by omega)
        have a2 : ((wd : Int) - n) * ((wd : Int) - n) ≤ 100 * 100 := Int.mul_le_mul (by omega) (by omega) (by omega) (by omega)
        rw [IntKind.wrap_i64]; omega
      clear h
      go_enter Tryd.func14, Tryd.ntmps14
      go_wp2_with fail
      refine (rJoined_any ws a cap _ HF.out HW.out).mono ?_
      rintro e w2 ⟨rfl, rfl⟩
      have hz := HZ.out
      go_wp2
      go_ret
      exact ⟨by rw [HE.out]; rfl, rfl⟩
end Go.Proofs.YtmpfffpkjnjhdabDoor
