/- Package fill, the small ones: isWord, Check, checkRoom, isShare, bad, long. -/
import Derived.Test.YtmpfffpkjnjhdabDoorFilM
import Derived.Test.YtmpfffpkjnjhdabDoorFilP
import Derived.Test.YtmpfffpkjnjhdabDoorIntB
namespace Go.Proofs.YtmpfffpkjnjhdabDoor
open Go Go.RowKit

theorem byteAt {s : ByteArray} {k : Nat} (h : k < s.size) : s[k] ∈ s.data.toList := by
  have hl : k < s.data.toList.length := by rw [← Lib.size_eq]; exact h
  exact List.getElem_mem hl
theorem okW_take {s : ByteArray} (h1 : 1 ≤ s.size) (h2 : s.size ≤ 20) (h : ∀ k (h : k < s.size), wByte s[k] = true) : okW s = true := by
  simp only [okW, h1, h2, decide_true, Bool.true_and, List.all_eq_true]
  intro b hb
  obtain ⟨i, hi, rfl⟩ := List.getElem_of_mem hb
  exact h i (by rw [Lib.size_eq]; exact hi)
theorem okW_not {s : ByteArray} {k : Nat} (h : k < s.size) (hb : wByte s[k] = false) : okW s = false := by
  cases e : okW s with
  | false => rfl
  | true =>
    simp only [okW, Bool.and_eq_true, List.all_eq_true] at e
    have := e.2 s[k] (byteAt h)
    rw [hb] at this
    cases this
theorem wByte_false {b : UInt8} (h : wByte b = false) : (b.toNat : Int) < 33 ∨ (¬ (b.toNat : Int) < 33 ∧ 126 < (b.toNat : Int)) := by
  simp [wByte] at h
  omega
theorem wByte_true {b : UInt8} (h : wByte b = true) : ¬ (b.toNat : Int) < 33 ∧ ¬ 126 < (b.toNat : Int) := by
  simp [wByte] at h
  omega

set_option maxRecDepth 100000 in
set_option maxHeartbeats 1000000 in
theorem xIsWord_any (s : ByteArray) (w : World) : Calls Tryd.prog 13 #[.string s] w fun e w' => e = .returned (.bool (okW s)) ∧ w = w' := by
  by_cases h1 : (s.size : Int) < 1
  · have e : okW s = false := by simp [okW]; omega
    rw [e]
    clear e
    go_enter Tryd.func13, Tryd.ntmps13
    go_wp2
    go_ret
    exact ⟨rfl, rfl⟩
  by_cases h2 : 20 < (s.size : Int)
  · have e : okW s = false := by simp [okW]; omega
    rw [e]
    clear e
    go_enter Tryd.func13, Tryd.ntmps13
    go_wp2
    go_ret
    exact ⟨rfl, rfl⟩
  go_enter Tryd.func13, Tryd.ntmps13
  go_wp2
  go_loopw [14] (fun i wr => wr = w ∧ ∃ k : Nat, k ≤ s.size ∧ i = .int .i64 k ∧ ∀ j (h : j < s.size), j < k → wByte s[j] = true) (fun i _ => s.size - (intOf i).toNat)
  case atStart => exact ⟨rfl, 0, Nat.zero_le _, rfl, fun j _ hj => by omega⟩
  case round =>
    obtain ⟨rfl, k, hk, rfl, hall⟩ := hrel
    have HA : Hid (∀ j (h : j < s.size), j < k → wByte s[j] = true) := hall
    clear hall
    by_cases hlt : k < s.size
    · cases hb : wByte s[k] with
      | false =>
        have HE : Hid (okW s = false) := okW_not hlt hb
        have hc := wByte_false hb
        clear hb
        rcases hc with hc | ⟨hc, hd⟩
        · go_wp2
          go_ret
          exact ⟨by rw [HE.out]; rfl, rfl⟩
        · go_wp2
          go_ret
          exact ⟨by rw [HE.out]; rfl, rfl⟩
      | true =>
        have HB : Hid (wByte s[k] = true) := hb
        obtain ⟨hc, hd⟩ := wByte_true hb
        clear hb
        go_wp2
        go_roundw
        case rel =>
          refine ⟨by trivial, k + 1, by omega, by go_num, ?_⟩
          intro j h hj
          by_cases hjk : j = k
          · subst hjk; exact HB.out
          · exact HA.out j h (by omega)
        case measure => simp [intOf]; omega
    · have HE : Hid (okW s = true) := okW_take (by omega) (by omega) fun j h => HA.out j h (by omega)
      go_wp2
      go_ret
      exact ⟨by rw [HE.out]; rfl, rfl⟩

theorem wordsF_full {ws : List ByteArray} (h : 60 < ws.length) : wordsF ws = 3 := by rw [wordsF, if_pos h]
theorem wordsF_not {ws : List ByteArray} {k : Nat} (hl : ws.length ≤ 60) (hk : k < ws.length) (h : okW ws[k] = false) : wordsF ws = 5 := by
  rw [wordsF, if_neg (by omega), if_neg]
  intro e
  have := List.all_eq_true.1 e ws[k] (List.getElem_mem hk)
  rw [h] at this
  cases this
theorem wordsF_all {ws : List ByteArray} (hl : ws.length ≤ 60) (h : ∀ j (h : j < ws.length), okW ws[j] = true) : wordsF ws = 0 := by
  rw [wordsF, if_neg (by omega), if_pos]
  rw [List.all_eq_true]
  intro x hx
  obtain ⟨j, hj, rfl⟩ := List.getElem_of_mem hx
  exact h j hj

set_option maxRecDepth 100000 in
set_option maxHeartbeats 1000000 in
theorem xCheck_any (ws : List ByteArray) (a : Option Addr) (cap : Nat) (w : World) (hW : Wds w a ws) :
    Calls Tryd.prog 6 #[.slice a ws.length cap] w fun e w' => e = .returned (errN (wordsF ws)) ∧ w = w' := by
  have HW : Hid (Wds w a ws) := hW
  clear hW
  by_cases h1 : 60 < (ws.length : Int)
  · have HE : Hid (wordsF ws = 3) := wordsF_full (by omega)
    go_enter Tryd.func6, Tryd.ntmps6
    go_wp2
    go_ret
    exact ⟨by rw [HE.out]; rfl, rfl⟩
  go_enter Tryd.func6, Tryd.ntmps6
  go_wp2
  go_loopw [11] (fun i wr => wr = w ∧ ∃ k : Nat, k ≤ ws.length ∧ i = .int .i64 k ∧ ∀ j (h : j < ws.length), j < k → okW ws[j] = true) (fun i _ => ws.length - (intOf i).toNat)
  case atStart => exact ⟨rfl, 0, Nat.zero_le _, rfl, fun j _ hj => by omega⟩
  case round =>
    obtain ⟨rfl, k, hk, rfl, hall⟩ := hrel
    have HA : Hid (∀ j (h : j < ws.length), j < k → okW ws[j] = true) := hall
    clear hall
    by_cases hlt : k < ws.length
    · obtain ⟨b0, o0, ea, hb0, c0⟩ := HW.out k hlt
      subst ea
      cases hb : okW ws[k] with
      | false =>
        have HE : Hid (wordsF ws = 5) := wordsF_not (by omega) hlt hb
        have HB : Hid (okW ws[k] = false) := hb
        generalize ws[k] = x at c0 HB
        clear hb
        go_wp2_with fail
        refine (xIsWord_any _ _).mono ?_
        rintro e w2 ⟨rfl, rfl⟩
        rw [HB.out]
        go_wp2
        go_ret
        exact ⟨by rw [HE.out]; rfl, rfl⟩
      | true =>
        have HB : Hid (okW ws[k] = true) := hb
        have HA' : Hid (∀ j (h : j < ws.length), j < k + 1 → okW ws[j] = true) := fun j h hj => by
          by_cases hjk : j = k
          · subst hjk; exact hb
          · exact HA.out j h (by omega)
        generalize ws[k] = x at c0 HB
        clear hb
        go_wp2_with fail
        refine (xIsWord_any _ _).mono ?_
        rintro e w2 ⟨rfl, rfl⟩
        rw [HB.out]
        go_wp2
        go_roundw
        case rel => exact ⟨by trivial, k + 1, by omega, by go_num, HA'.out⟩
        case measure => simp [intOf]; omega
    · have HE : Hid (wordsF ws = 0) := wordsF_all (by omega) fun j h => HA.out j h (by omega)
      go_wp2
      go_ret
      exact ⟨by rw [HE.out]; rfl, rfl⟩

set_option maxRecDepth 100000 in
set_option maxHeartbeats 1000000 in
theorem xRoom_any (ws : List ByteArray) (a : Option Addr) (cap : Nat) (wd : Int) (w : World) (hW : Wds w a ws) :
    Calls Tryd.prog 16 #[.slice a ws.length cap, .int .i64 wd] w fun e w' => e = .returned (errN (fillE ws wd)) ∧ w = w' := by
  have HW : Hid (Wds w a ws) := hW
  clear hW
  by_cases h0 : wordsF ws = 0
  · have H0 : Hid (wordsF ws = 0) := h0
    clear h0
    by_cases h1 : wd < 1
    · have HE : Hid (fillE ws wd = 1) := by
        show fillE ws wd = 1
        rw [fillE, if_neg (by rw [H0.out]; simp), if_pos (.inl h1)]
      go_enter Tryd.func16, Tryd.ntmps16
      go_wp2_with fail
      refine (xCheck_any ws a cap _ HW.out).mono ?_
      rintro e w2 ⟨rfl, rfl⟩
      rw [H0.out, errN_0]
      go_wp2
      go_ret
      exact ⟨by rw [HE.out]; rfl, rfl⟩
    by_cases h2 : 100 < wd
    · have HE : Hid (fillE ws wd = 1) := by
        show fillE ws wd = 1
        rw [fillE, if_neg (by rw [H0.out]; simp), if_pos (.inr h2)]
      go_enter Tryd.func16, Tryd.ntmps16
      go_wp2_with fail
      refine (xCheck_any ws a cap _ HW.out).mono ?_
      rintro e w2 ⟨rfl, rfl⟩
      rw [H0.out, errN_0]
      go_wp2
      go_ret
      exact ⟨by rw [HE.out]; rfl, rfl⟩
    · have HE : Hid (fillE ws wd = 0) := by
        show fillE ws wd = 0
        rw [fillE, if_neg (by rw [H0.out]; simp), if_neg (by omega)]
      go_enter Tryd.func16, Tryd.ntmps16
      go_wp2_with fail
      refine (xCheck_any ws a cap _ HW.out).mono ?_
      rintro e w2 ⟨rfl, rfl⟩
      rw [H0.out, errN_0]
      go_wp2
      go_ret
      exact ⟨by rw [HE.out]; rfl, rfl⟩
  · have HE : Hid (fillE ws wd = wordsF ws) := by
      show fillE ws wd = wordsF ws
      rw [fillE, if_pos h0]
    have HN : Hid (errN (wordsF ws) = .iface 24 (.int .i64 (wordsF ws))) := errN_ne h0
    clear h0
    go_enter Tryd.func16, Tryd.ntmps16
    go_wp2_with fail
    refine (xCheck_any ws a cap _ HW.out).mono ?_
    rintro e w2 ⟨rfl, rfl⟩
    rw [HN.out]
    go_wp2
    go_ret
    exact ⟨by rw [HE.out, HN.out]; rfl, rfl⟩

set_option maxRecDepth 100000 in
set_option maxHeartbeats 1000000 in
theorem xLong_any (ws : List ByteArray) (a : Option Addr) (cap : Nat) (w : World) (h0 : ws ≠ []) (hF : Few ws) (hW : Wds w a ws) :
    Calls Tryd.prog 21 #[.slice a ws.length cap] w fun e w' => e = .returned (.int .i64 (ln ws)) ∧ w = w' := by
  have HW : Hid (Wds w a ws) := hW
  have hp : 0 < ws.length := List.length_pos_iff.2 h0
  have hl := hF.1
  have HE : Hid ((ln ws : Int) = (ws.length : Int) - 1 + tot ws) := by
    show (ln ws : Int) = _
    simp only [ln]; omega
  have HF : Hid (Few ws) := hF
  clear hW hF h0
  go_enter Tryd.func21, Tryd.ntmps21
  go_wp2
  go_loopw [3, 11] (fun s i wr => wr = w ∧ ∃ k : Nat, k ≤ ws.length ∧ i = .int .i64 k ∧ s = .int .i64 ((ws.length : Int) - 1 + tot (ws.take k))) (fun _ i _ => ws.length - (intOf i).toNat)
  case atStart => exact ⟨rfl, 0, Nat.zero_le _, rfl, by simp [tot]⟩
  case round =>
    obtain ⟨rfl, k, hk, rfl, rfl⟩ := hrel
    by_cases hlt : k < ws.length
    · obtain ⟨b0, o0, ea, hb0, c0⟩ := HW.out k hlt
      subst ea
      have HS : Hid (tot (ws.take (k + 1)) = tot (ws.take k) + ws[k].size) := tot_take hlt
      have ht := (HF.out.take k).tot
      have hx := HF.out.2 _ (List.getElem_mem hlt)
      generalize ws[k] = x at c0 HS hx
      generalize tot (ws.take k) = t0 at HS ht
      go_wp2
      go_roundw
      case rel => exact ⟨by trivial, k + 1, by omega, by go_num, by rw [HS.out]; go_num⟩
      case measure => simp [intOf]; omega
    · have hke : k = ws.length := by omega
      subst hke
      have HT : Hid (tot (ws.take ws.length) = tot ws) := by show _ = _; rw [List.take_length]
      go_wp2
      go_ret
      exact ⟨by rw [HE.out, ← HT.out]; rfl, rfl⟩

theorem bd_over {n wd : Nat} {last : Bool} (h : wd < n) : (bd n wd last : Int) = 1000 * ((n : Int) - wd) := by
  rw [bd, if_pos h]; omega
theorem bd_last {n wd : Nat} (h : ¬ wd < n) : bd n wd true = 0 := by rw [bd, if_neg h]; rfl
theorem bd_short {n wd : Nat} (h : ¬ wd < n) : (bd n wd false : Int) = ((wd : Int) - n) * ((wd : Int) - n) := by
  rw [bd, if_neg h]
  simp only [Bool.false_eq_true, if_false]
  rw [Int.natCast_mul]
  congr 1 <;> omega

set_option maxRecDepth 100000 in
set_option maxHeartbeats 1000000 in
theorem xBad_any (n wd : Nat) (last : Bool) (w : World) (hn : n ≤ 1260) (hw : wd ≤ 100) :
    Calls Tryd.prog 20 #[.int .i64 n, .int .i64 wd, .bool last] w fun e w' => e = .returned (.int .i64 (bd n wd last)) ∧ w = w' := by
  by_cases h : wd < n
  · have HE : Hid ((bd n wd last : Int) = 1000 * ((n : Int) - wd)) := bd_over h
    have h' : (wd : Int) - n < 0 := by omega
    clear h
    go_enter Tryd.func20, Tryd.ntmps20
    go_wp2
    go_ret
    exact ⟨by rw [HE.out]; go_num, rfl⟩
  · cases last with
    | true =>
      have HE : Hid (bd n wd true = 0) := bd_last h
      have h' : ¬ (wd : Int) - n < 0 := by omega
      clear h
      go_enter Tryd.func20, Tryd.ntmps20
      go_wp2
      go_ret
      exact ⟨by rw [HE.out]; rfl, rfl⟩
    | false =>
      have HE : Hid ((bd n wd false : Int) = ((wd : Int) - n) * ((wd : Int) - n)) := bd_short h
      have h' : ¬ (wd : Int) - n < 0 := by omega
      obtain ⟨m, hm⟩ : ∃ m : Int, m = (wd : Int) - n := ⟨_, rfl⟩
      have h1 : IntKind.i64.wrap ((wd : Int) - n) = (wd : Int) - n := by rw [IntKind.wrap_i64]; omega
      have h2 : IntKind.i64.wrap (((wd : Int) - n) * ((wd : Int) - n)) = ((wd : Int) - n) * ((wd : Int) - n) := by
        have a1 : 0 ≤ ((wd : Int) - n) * ((wd : Int) - n) := Int.mul_nonneg (by omega) (by omega)
        have a2 : ((wd : Int) - n) * ((wd : Int) - n) ≤ 100 * 100 := Int.mul_le_mul (by omega) (by omega) (by omega) (by omega)
        rw [IntKind.wrap_i64]; omega
      clear h hm
      go_enter Tryd.func20, Tryd.ntmps20
      go_wp2
      go_ret
      exact ⟨by rw [HE.out]; rfl, rfl⟩

theorem zbeq (q : Nat) : ((q : Int) == 0) = (q == 0) := by
  by_cases h : q = 0
  · subst h; rfl
  · rw [beq_false_of_ne h, beq_false_of_ne (by omega)]
theorem share_drop {ms : List Int} {k n : Nat} (h : k < ms.length) : share (ms.drop k) n = (decide (1 ≤ ms[k]) && decide (ms[k] ≤ (n : Int)) && share (ms.drop (k + 1)) (n - ms[k].toNat)) := by
  rw [List.drop_eq_getElem_cons h]; rfl

set_option maxRecDepth 100000 in
set_option maxHeartbeats 1000000 in
theorem xShare_any (ms : List Int) (a : Option Addr) (cap n : Nat) (w : World) (hM : Ints w a ms) (hl : ms.length ≤ 9223372036854775807) (hn : n ≤ 60) :
    Calls Tryd.prog 19 #[.slice a ms.length cap, .int .i64 n] w fun e w' => e = .returned (.bool (share ms n)) ∧ w = w' := by
  have HM : Hid (Ints w a ms) := hM
  clear hM
  go_enter Tryd.func19, Tryd.ntmps19
  go_wp2
  go_loopw [1, 9] (fun m i wr => wr = w ∧ ∃ k q : Nat, k ≤ ms.length ∧ i = .int .i64 k ∧ q ≤ 60 ∧ m = .int .i64 q ∧ share ms n = share (ms.drop k) q) (fun _ i _ => ms.length - (intOf i).toNat)
  case atStart => exact ⟨rfl, 0, n, Nat.zero_le _, rfl, hn, rfl, rfl⟩
  case round =>
    obtain ⟨rfl, k, q, hk, rfl, hq, rfl, hs⟩ := hrel
    have HS : Hid (share ms n = share (ms.drop k) q) := hs
    clear hs
    by_cases hlt : k < ms.length
    · obtain ⟨b0, o0, ea, hb0, c0⟩ := HM.out k hlt
      subst ea
      have HD : Hid (share (ms.drop k) q = (decide (1 ≤ ms[k]) && decide (ms[k] ≤ (q : Int)) && share (ms.drop (k + 1)) (q - ms[k].toNat))) := share_drop hlt
      generalize ms[k] = m at c0 HD
      by_cases h1 : m < 1
      · have HE : Hid (share ms n = false) := by
          show share ms n = false
          rw [HS.out, HD.out, decide_eq_false (by omega)]; rfl
        go_wp2
        go_ret
        exact ⟨by rw [HE.out]; rfl, rfl⟩
      by_cases h2 : (q : Int) < m
      · have HE : Hid (share ms n = false) := by
          show share ms n = false
          rw [HS.out, HD.out, decide_eq_false (show ¬ m ≤ (q : Int) by omega)]; simp
        go_wp2
        go_ret
        exact ⟨by rw [HE.out]; rfl, rfl⟩
      · have HE : Hid (share ms n = share (ms.drop (k + 1)) (q - m.toNat)) := by
          show share ms n = _
          rw [HS.out, HD.out, decide_eq_true (show (1 : Int) ≤ m by omega), decide_eq_true (show m ≤ (q : Int) by omega)]; simp
        go_wp2
        go_roundw
        case rel => exact ⟨by trivial, k + 1, q - m.toNat, by omega, by go_num, by omega, by congr 1; omega, HE.out⟩
        case measure => simp [intOf]; omega
    · have HE : Hid (share ms n = ((q : Int) == 0)) := by
        show share ms n = _
        rw [HS.out, List.drop_eq_nil_of_le (by omega), zbeq]; rfl
      go_wp2
      go_ret
      exact ⟨by rw [HE.out]; rfl, rfl⟩
end Go.Proofs.YtmpfffpkjnjhdabDoor
