/- Where a doc ends, and what is wrong with it: by package doc, and by the document. -/
import Derived.Test.YtfabfclbnekleaaDocA
namespace Go.Proofs.Ytfabfclbnekleaa
open Go Go.RowKit

set_option maxRecDepth 100000 in
set_option maxHeartbeats 1000000 in
theorem dendOf_any (ds : List Nd) (a : Option Addr) (cap i0 : Nat) (w : World) (hN : Nods w a ds) (hl : ds.length ≤ 400) (hi : i0 ≤ ds.length) :
    Calls Try.prog 43 #[.slice a ds.length cap, .int .i64 i0] w fun e w' => ((∃ j : Nat, endAt ds i0 1 = some j ∧ e = .returned (.tuple #[.int .i64 j, .bool true])) ∨ (endAt ds i0 1 = none ∧ e = .returned (.tuple #[.int .i64 ds.length, .bool false]))) ∧ w = w' := by
  have HN : Hid (Nods w a ds) := hN
  clear hN
  go_enter Try.func43, Try.ntmps43
  go_wp2
  go_loopw [1, 6] (fun i m wr => wr = w ∧ ∃ k q : Nat, k ≤ ds.length ∧ q ≤ k + 1 ∧ i = .int .i64 k ∧ m = .int .i64 q ∧ endAt ds i0 1 = endAt ds k q) (fun i _ _ => ds.length - (intOf i).toNat)
  case atStart => exact ⟨rfl, i0, 1, hi, by omega, rfl, rfl, rfl⟩
  case round =>
    obtain ⟨rfl, k, q, hk, hq, rfl, rfl, he⟩ := hrel
    have HE : Hid (endAt ds i0 1 = endAt ds k q) := he
    clear he
    by_cases h0 : q = 0
    · subst h0
      have HE' : Hid (endAt ds i0 1 = some k) := HE.out.trans (endAt_zero _ _)
      go_wp2
      go_ret2
      exact ⟨.inl ⟨k, HE'.out, rfl⟩, rfl⟩
    · obtain ⟨q', rfl⟩ : ∃ q', q = q' + 1 := ⟨q - 1, by omega⟩
      by_cases hlt : k < ds.length
      · obtain ⟨b, o, ea, hb, c1, c2, c3⟩ := HN.out k hlt
        have HS : Hid (endAt ds i0 1 = endAt ds (k + 1) (pts ds[k].op + q')) := HE.out.trans (endAt_step _ _ _ hlt)
        have hp := pts_le ds[k].op
        subst ea
        clear c2 c3 h0
        go_wp2_with (go_at_call 59; refine (dparts_any _ _).mono ?_; rintro e w' ⟨rfl, rfl⟩)
        go_roundw
        case rel =>
          exact ⟨by trivial, k + 1, pts ds[k].op + q', by omega, by omega, by go_num, by go_num, HS.out⟩
        case measure => simp [intOf]; omega
      · have hkk : k = ds.length := by omega
        subst hkk
        have HE' : Hid (endAt ds i0 1 = none) := HE.out.trans (endAt_out _ _ _ (by omega))
        go_wp2
        go_ret2
        exact ⟨.inr ⟨HE'.out, rfl⟩, rfl⟩

theorem dendOf_some {ds : List Nd} {i0 j : Nat} (a : Option Addr) (cap : Nat) (w : World) (hN : Nods w a ds) (hl : ds.length ≤ 400) (hi : i0 ≤ ds.length) (h : endAt ds i0 1 = some j) :
    Calls Try.prog 43 #[.slice a ds.length cap, .int .i64 i0] w fun e w' => e = .returned (.tuple #[.int .i64 j, .bool true]) ∧ w = w' :=
  (dendOf_any ds a cap i0 w hN hl hi).mono fun e w' ⟨h1, h2⟩ => ⟨by
    rcases h1 with ⟨j', e1, e2⟩ | ⟨e1, _⟩
    · rw [h] at e1; cases e1; exact e2
    · rw [h] at e1; (cases e1), h2⟩
theorem dendOf_none {ds : List Nd} {i0 : Nat} (a : Option Addr) (cap : Nat) (w : World) (hN : Nods w a ds) (hl : ds.length ≤ 400) (hi : i0 ≤ ds.length) (h : endAt ds i0 1 = none) :
    Calls Try.prog 43 #[.slice a ds.length cap, .int .i64 i0] w fun e w' => e = .returned (.tuple #[.int .i64 ds.length, .bool false]) ∧ w = w' :=
  (dendOf_any ds a cap i0 w hN hl hi).mono fun e w' ⟨h1, h2⟩ => ⟨by
    rcases h1 with ⟨j', e1, e2⟩ | ⟨_, e2⟩
    · rw [h] at e1; cases e1
    · exact e2, h2⟩
end Go.Proofs.Ytfabfclbnekleaa
