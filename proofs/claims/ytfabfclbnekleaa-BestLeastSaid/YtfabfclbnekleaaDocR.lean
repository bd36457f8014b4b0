/- Where a doc ends, by the document. -/
import Derived.Test.YtfabfclbnekleaaDocA1
import Derived.Test.YtfabfclbnekleaaDocL
namespace Go.Proofs.Ytfabfclbnekleaa
open Go Go.RowKit

set_option maxRecDepth 100000 in
set_option maxHeartbeats 1000000 in
theorem rendOf_any (ds : List Nd) (a : Option Addr) (cap : Nat) (hl : ds.length ≤ 400) : ∀ (f i : Nat) (w : World), Nods w a ds → ds.length - i < f →  i ≤ 1000 →
    Calls Try.prog 38 #[.slice a ds.length cap, .int .i64 i] w fun e w' => e = .returned (.int .i64 (endZ (endAt ds i 1))) ∧ w = w' := by
  intro f
  induction f with
  | zero => intro i w _ h; omega
  | succ f ih =>
    intro i w hN hf hi
    have HN : Hid (Nods w a ds) := hN
    have IH : Hid (∀ (i : Nat) (w : World), Nods w a ds → ds.length - i < f → i ≤ 1000 →
      Calls Try.prog 38 #[.slice a ds.length cap, .int .i64 i] w fun e w' => e = .returned (.int .i64 (endZ (endAt ds i 1))) ∧ w = w') := ih
    clear hN ih
    by_cases hlt : i < ds.length
    · obtain ⟨b, o, ea, hb, c1, c2, c3⟩ := HN.out i hlt
      have HS : Hid (endAt ds i 1 = endAt ds (i + 1) (pts ds[i].op)) := endAt_step _ _ 0 hlt
      have hp := pts_le ds[i].op
      generalize hpp : pts ds[i].op = p at HS hp
      have HP : Hid (pts ds[i].op = p) := hpp
      subst ea
      clear c2 c3 hpp
      go_enter Try.func38, Try.ntmps38
      go_wp2_with (go_at_call 56; refine (rparts_any _ _).mono ?_; rintro e w' ⟨rfl, rfl⟩; rw [HP.out])
      go_loopw [1, 5] (fun z m wr => wr = w ∧ ∃ q : Nat, q ≤ 2 ∧ m = .int .i64 q ∧ ((∃ k : Nat, i < k ∧ k ≤ ds.length ∧ z = .int .i64 k ∧ endAt ds i 1 = endAt ds k q) ∨ (z = .int .i64 (-1) ∧ endAt ds i 1 = none))) (fun _ m _ => (intOf m).toNat)
      case atStart => exact ⟨rfl, p, hp, rfl, .inl ⟨i + 1, by omega, by omega, by go_num, HS.out⟩⟩
      case round =>
        obtain ⟨rfl, q, hq, rfl, ⟨k, hk1, hk2, rfl, he⟩ | ⟨rfl, he⟩⟩ := hrel
        · have HE : Hid (endAt ds i 1 = endAt ds k q) := he
          clear he
          by_cases h0 : q = 0
          · subst h0
            have HE' : Hid (endAt ds i 1 = some k) := HE.out.trans (endAt_zero _ _)
            go_wp2
            go_ret
            exact ⟨by rw [HE'.out]; rfl, rfl⟩
          · obtain ⟨q', rfl⟩ : ∃ q', q = q' + 1 := ⟨q - 1, by omega⟩
            have HA : Hid (endAt ds i 1 = (endAt ds k 1).bind fun j => endAt ds j q') := HE.out.trans (by rw [Nat.add_comm q' 1, endAt_add])
            clear h0
            go_wp2_with (go_at_call 38; refine (IH.out k _ HN.out (by omega) (by omega)).mono ?_; rintro e w' ⟨rfl, rfl⟩)
            go_roundw
            case rel =>
              refine ⟨by trivial, q', by omega, by go_num, ?_⟩
              cases hj : endAt ds k 1 with
              | none => exact .inr ⟨rfl, by rw [HA.out, hj]; rfl⟩
              | some j =>
                have hjb := endAt_bd hj
                exact .inl ⟨j, by omega, by omega, rfl, by rw [HA.out, hj]; rfl⟩
            case measure => simp [intOf]
        · have HE : Hid (endAt ds i 1 = none) := he
          clear he
          by_cases h0 : q = 0
          · subst h0
            go_wp2
            go_ret
            exact ⟨by rw [HE.out]; rfl, rfl⟩
          · go_wp2
            go_ret
            exact ⟨by rw [HE.out]; rfl, rfl⟩
    · have HE : Hid (endAt ds i 1 = none) := endAt_out _ _ _ (by omega)
      go_enter Try.func38, Try.ntmps38
      go_wp2
      go_ret
      exact ⟨by rw [HE.out]; rfl, rfl⟩
end Go.Proofs.Ytfabfclbnekleaa
