/- (*way.writer).layChosen, way by way. (Made by tools/gen_wlay.py.) -/
import Derived.Test.YtfabfclbnekleaaWLayF
namespace Go.Proofs.Ytfabfclbnekleaa
open Go Go.RowKit

set_option maxRecDepth 100000 in
set_option maxHeartbeats 400000 in
theorem wch_none {b : Nat} {wa : Option Addr} {wc : Nat} (i deep : Int) (w : World) (c5 : w.cell? ⟨b, 5, none⟩ = some (.slice wa 0 wc)) :
    Calls Try.prog 50 #[.pointer (some ⟨b, 0, none⟩), .int .i64 i, .int .i64 deep] w fun e w' => e = .returned (errN 2) ∧ w = w' := by
  rw [errN_2]
  go_enter Try.func50, Try.ntmps50
  go_wp2
  go_ret
  exact ⟨rfl, rfl⟩

set_option maxRecDepth 100000 in
set_option maxHeartbeats 1000000 in
theorem wch_80 {b s be b0 o0 o1 n cap wc : Nat} (i deep m : Nat) (w : World) (_hbb : b0 ≠ b) (hsb : s ≠ b) (hbe : be ≠ b) (_hn : n ≤ 400) (hiI : (i : Int) < (n : Int))
    (c0 : w.cell? ⟨b, 0, none⟩ = some (.slice (some ⟨s, o0, none⟩) n cap)) (d1 : w.cell? ⟨s, o0 + i * 3, none⟩ = some (.int .i64 8)) (_c1 : w.cell? ⟨b, 1, none⟩ = some (.slice (some ⟨be, 0, none⟩) n n))
    (c5 : w.cell? ⟨b, 5, none⟩ = some (.slice (some ⟨b0, o1, none⟩) (m + 1) wc)) (f5 : w.frozen? ⟨b, 5, none⟩ = false) (hwc : m + 1 ≤ wc) (x1 : w.cell? ⟨b0, o1, none⟩ = some (.int .i64 0)) (Q : Value → World → Prop)
    (H : Calls Try.prog 65 #[.pointer (some ⟨b, 0, none⟩), .int .i64 i] (w.setCell ⟨b, 5, none⟩ (.slice (if wc = 1 then some ⟨b0, o1, none⟩ else some ⟨b0, o1 + 1, none⟩) m (wc - 1))) fun e w' => ∃ v, e = .returned v ∧ Q v w') :
    Calls Try.prog 50 #[.pointer (some ⟨b, 0, none⟩), .int .i64 i, .int .i64 deep] w fun e w' => ∃ v, e = .returned v ∧ Q v w' := by
  have hr1 : (1 : Int) ≤ (m : Int) + 1 := by omega
  have hr0 : ((m : Int) + 1 == 0) = false := beq_eq_false_iff_ne.2 (by omega)
  by_cases hw : wc = 1
  · rw [if_pos hw] at H
    obtain rfl : m = 0 := by omega
    subst hw
    have HH : Hid (Calls Try.prog 65 #[.pointer (some ⟨b, 0, none⟩), .int .i64 i] (w.setCell ⟨b, 5, none⟩ (.slice (some ⟨b0, o1, none⟩) 0 0)) fun e w' => ∃ v, e = .returned v ∧ Q v w') := H
    clear H
    go_enter Try.func50, Try.ntmps50
    go_wp2_with fail
    refine HH.out.mono ?_
    rintro e w2 ⟨v, rfl, hq⟩
    go_wp2
    go_ret
    exact ⟨_, rfl, hq⟩
  · rw [if_neg hw] at H
    have HH : Hid (Calls Try.prog 65 #[.pointer (some ⟨b, 0, none⟩), .int .i64 i] (w.setCell ⟨b, 5, none⟩ (.slice (some ⟨b0, o1 + 1, none⟩) m (wc - 1))) fun e w' => ∃ v, e = .returned v ∧ Q v w') := H
    clear H
    go_enter Try.func50, Try.ntmps50
    go_wp2_with fail
    refine HH.out.mono ?_
    rintro e w2 ⟨v, rfl, hq⟩
    go_wp2
    go_ret
    exact ⟨_, rfl, hq⟩

set_option maxRecDepth 100000 in
set_option maxHeartbeats 1000000 in
theorem wch_81 {b s be b0 o0 o1 n cap wc : Nat} (i deep m : Nat) (w : World) (_hbb : b0 ≠ b) (hsb : s ≠ b) (hbe : be ≠ b) (hn : n ≤ 400) (hiI : (i : Int) < (n : Int))
    (c0 : w.cell? ⟨b, 0, none⟩ = some (.slice (some ⟨s, o0, none⟩) n cap)) (d1 : w.cell? ⟨s, o0 + i * 3, none⟩ = some (.int .i64 8)) (_c1 : w.cell? ⟨b, 1, none⟩ = some (.slice (some ⟨be, 0, none⟩) n n))
    (c5 : w.cell? ⟨b, 5, none⟩ = some (.slice (some ⟨b0, o1, none⟩) (m + 1) wc)) (f5 : w.frozen? ⟨b, 5, none⟩ = false) (hwc : m + 1 ≤ wc) (x1 : w.cell? ⟨b0, o1, none⟩ = some (.int .i64 1)) (Q : Value → World → Prop)
    (H : Calls Try.prog 33 #[.pointer (some ⟨b, 0, none⟩), .int .i64 ((i : Int) + 1), .int .i64 deep] (w.setCell ⟨b, 5, none⟩ (.slice (if wc = 1 then some ⟨b0, o1, none⟩ else some ⟨b0, o1 + 1, none⟩) m (wc - 1))) fun e w' => ∃ v, e = .returned v ∧ Q v w') :
    Calls Try.prog 50 #[.pointer (some ⟨b, 0, none⟩), .int .i64 i, .int .i64 deep] w fun e w' => ∃ v, e = .returned v ∧ Q v w' := by
  have hr1 : (1 : Int) ≤ (m : Int) + 1 := by omega
  have hr0 : ((m : Int) + 1 == 0) = false := beq_eq_false_iff_ne.2 (by omega)
  by_cases hw : wc = 1
  · rw [if_pos hw] at H
    obtain rfl : m = 0 := by omega
    subst hw
    have HH : Hid (Calls Try.prog 33 #[.pointer (some ⟨b, 0, none⟩), .int .i64 ((i : Int) + 1), .int .i64 deep] (w.setCell ⟨b, 5, none⟩ (.slice (some ⟨b0, o1, none⟩) 0 0)) fun e w' => ∃ v, e = .returned v ∧ Q v w') := H
    clear H
    go_enter Try.func50, Try.ntmps50
    go_wp2_with fail
    refine HH.out.mono ?_
    rintro e w2 ⟨v, rfl, hq⟩
    go_wp2
    go_ret
    exact ⟨_, rfl, hq⟩
  · rw [if_neg hw] at H
    have HH : Hid (Calls Try.prog 33 #[.pointer (some ⟨b, 0, none⟩), .int .i64 ((i : Int) + 1), .int .i64 deep] (w.setCell ⟨b, 5, none⟩ (.slice (some ⟨b0, o1 + 1, none⟩) m (wc - 1))) fun e w' => ∃ v, e = .returned v ∧ Q v w') := H
    clear H
    go_enter Try.func50, Try.ntmps50
    go_wp2_with fail
    refine HH.out.mono ?_
    rintro e w2 ⟨v, rfl, hq⟩
    go_wp2
    go_ret
    exact ⟨_, rfl, hq⟩

set_option maxRecDepth 100000 in
set_option maxHeartbeats 1000000 in
theorem wch_90 {b s be b0 o0 o1 n cap wc : Nat} (i deep m : Nat) (w : World) (_hbb : b0 ≠ b) (hsb : s ≠ b) (hbe : be ≠ b) (hn : n ≤ 400) (hiI : (i : Int) < (n : Int))
    (c0 : w.cell? ⟨b, 0, none⟩ = some (.slice (some ⟨s, o0, none⟩) n cap)) (d1 : w.cell? ⟨s, o0 + i * 3, none⟩ = some (.int .i64 9)) (_c1 : w.cell? ⟨b, 1, none⟩ = some (.slice (some ⟨be, 0, none⟩) n n))
    (c5 : w.cell? ⟨b, 5, none⟩ = some (.slice (some ⟨b0, o1, none⟩) (m + 1) wc)) (f5 : w.frozen? ⟨b, 5, none⟩ = false) (hwc : m + 1 ≤ wc) (x1 : w.cell? ⟨b0, o1, none⟩ = some (.int .i64 0)) (Q : Value → World → Prop)
    (H : Calls Try.prog 33 #[.pointer (some ⟨b, 0, none⟩), .int .i64 ((i : Int) + 1), .int .i64 deep] (w.setCell ⟨b, 5, none⟩ (.slice (if wc = 1 then some ⟨b0, o1, none⟩ else some ⟨b0, o1 + 1, none⟩) m (wc - 1))) fun e w' => ∃ v, e = .returned v ∧ Q v w') :
    Calls Try.prog 50 #[.pointer (some ⟨b, 0, none⟩), .int .i64 i, .int .i64 deep] w fun e w' => ∃ v, e = .returned v ∧ Q v w' := by
  have hr1 : (1 : Int) ≤ (m : Int) + 1 := by omega
  have hr0 : ((m : Int) + 1 == 0) = false := beq_eq_false_iff_ne.2 (by omega)
  by_cases hw : wc = 1
  · rw [if_pos hw] at H
    obtain rfl : m = 0 := by omega
    subst hw
    have HH : Hid (Calls Try.prog 33 #[.pointer (some ⟨b, 0, none⟩), .int .i64 ((i : Int) + 1), .int .i64 deep] (w.setCell ⟨b, 5, none⟩ (.slice (some ⟨b0, o1, none⟩) 0 0)) fun e w' => ∃ v, e = .returned v ∧ Q v w') := H
    clear H
    go_enter Try.func50, Try.ntmps50
    go_wp2_with fail
    refine HH.out.mono ?_
    rintro e w2 ⟨v, rfl, hq⟩
    go_wp2
    go_ret
    exact ⟨_, rfl, hq⟩
  · rw [if_neg hw] at H
    have HH : Hid (Calls Try.prog 33 #[.pointer (some ⟨b, 0, none⟩), .int .i64 ((i : Int) + 1), .int .i64 deep] (w.setCell ⟨b, 5, none⟩ (.slice (some ⟨b0, o1 + 1, none⟩) m (wc - 1))) fun e w' => ∃ v, e = .returned v ∧ Q v w') := H
    clear H
    go_enter Try.func50, Try.ntmps50
    go_wp2_with fail
    refine HH.out.mono ?_
    rintro e w2 ⟨v, rfl, hq⟩
    go_wp2
    go_ret
    exact ⟨_, rfl, hq⟩

set_option maxRecDepth 100000 in
set_option maxHeartbeats 1000000 in
theorem wch_91 {b s be b0 o0 o1 n cap wc : Nat} (i deep m : Nat) (w : World) (_hbb : b0 ≠ b) (hsb : s ≠ b) (hbe : be ≠ b) (hn : n ≤ 400) (hiI : (i : Int) < (n : Int)) (hi1 : (i : Int) + 1 < (n : Int)) (j : Nat) (e1 : w.cell? ⟨be, i + 1, none⟩ = some (.int .i64 (j : Int)))
    (c0 : w.cell? ⟨b, 0, none⟩ = some (.slice (some ⟨s, o0, none⟩) n cap)) (d1 : w.cell? ⟨s, o0 + i * 3, none⟩ = some (.int .i64 9)) (c1 : w.cell? ⟨b, 1, none⟩ = some (.slice (some ⟨be, 0, none⟩) n n))
    (c5 : w.cell? ⟨b, 5, none⟩ = some (.slice (some ⟨b0, o1, none⟩) (m + 1) wc)) (f5 : w.frozen? ⟨b, 5, none⟩ = false) (hwc : m + 1 ≤ wc) (x1 : w.cell? ⟨b0, o1, none⟩ = some (.int .i64 1)) (Q : Value → World → Prop)
    (H : Calls Try.prog 33 #[.pointer (some ⟨b, 0, none⟩), .int .i64 (j : Int), .int .i64 deep] (w.setCell ⟨b, 5, none⟩ (.slice (if wc = 1 then some ⟨b0, o1, none⟩ else some ⟨b0, o1 + 1, none⟩) m (wc - 1))) fun e w' => ∃ v, e = .returned v ∧ Q v w') :
    Calls Try.prog 50 #[.pointer (some ⟨b, 0, none⟩), .int .i64 i, .int .i64 deep] w fun e w' => ∃ v, e = .returned v ∧ Q v w' := by
  have hr1 : (1 : Int) ≤ (m : Int) + 1 := by omega
  have hr0 : ((m : Int) + 1 == 0) = false := beq_eq_false_iff_ne.2 (by omega)
  by_cases hw : wc = 1
  · rw [if_pos hw] at H
    obtain rfl : m = 0 := by omega
    subst hw
    have HH : Hid (Calls Try.prog 33 #[.pointer (some ⟨b, 0, none⟩), .int .i64 (j : Int), .int .i64 deep] (w.setCell ⟨b, 5, none⟩ (.slice (some ⟨b0, o1, none⟩) 0 0)) fun e w' => ∃ v, e = .returned v ∧ Q v w') := H
    clear H
    go_enter Try.func50, Try.ntmps50
    go_wp2_with fail
    refine HH.out.mono ?_
    rintro e w2 ⟨v, rfl, hq⟩
    go_wp2
    go_ret
    exact ⟨_, rfl, hq⟩
  · rw [if_neg hw] at H
    have HH : Hid (Calls Try.prog 33 #[.pointer (some ⟨b, 0, none⟩), .int .i64 (j : Int), .int .i64 deep] (w.setCell ⟨b, 5, none⟩ (.slice (some ⟨b0, o1 + 1, none⟩) m (wc - 1))) fun e w' => ∃ v, e = .returned v ∧ Q v w') := H
    clear H
    go_enter Try.func50, Try.ntmps50
    go_wp2_with fail
    refine HH.out.mono ?_
    rintro e w2 ⟨v, rfl, hq⟩
    go_wp2
    go_ret
    exact ⟨_, rfl, hq⟩
end Go.Proofs.Ytfabfclbnekleaa
