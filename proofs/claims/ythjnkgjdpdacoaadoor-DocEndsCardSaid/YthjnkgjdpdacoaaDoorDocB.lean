/- Where a doc ends, and what is wrong with it: by package doc, and by the document. -/
import Derived.Test.YthjnkgjdpdacoaaDoorDocA
namespace Go.Proofs.YthjnkgjdpdacoaaDoor
open Go Go.RowKit

set_option maxRecDepth 100000 in
set_option maxHeartbeats 1000000 in
theorem dendOf_any (ds : List Nd) (a : Option Addr) (cap i0 : Nat) (w : World) (hN : Nods w a ds) (hl : ds.length ≤ 400) (hi : i0 ≤ ds.length) :
    Calls Tryd.prog 26 #[.slice a ds.length cap, .int .i64 i0] w fun e w' => ((∃ j : Nat, endAt ds i0 1 = some j ∧ e = .returned (.tuple #[.int .i64 j, .bool true])) ∨ (endAt ds i0 1 = none ∧ e = .returned (.tuple #[.int .i64 ds.length, .bool false]))) ∧ w = w' := by
  have HN : Hid (Nods w a ds) := hN
  clear hN
  go_enter Tryd.func26, Tryd.ntmps26
  go_wp2
  go_loopw [1, 6] (fun i m wr => wr = w ∧ ∃ k q : Nat, k ≤ ds.length ∧ q ≤ k + 1 ∧ i = .int .i64 k ∧ m = .int .i64 q ∧ endAt ds i0 1 = endAt ds k q) (fun i _ _ => ds.length - (intOf i).toNat)
  case atStart => exact ⟨rfl, i0, 1, hi, by omega, rfl, rfl, rfl⟩
  case round =>
    obtain ⟨rfl, k, q, hk, hq, rfl, rfl, he⟩ := hrel
    have HE : Hid (endAt ds i0 1 = endAt ds k q) := he
    clear he
    by_cases h0 : q = 0
    · subst h0
      have HE' : Hid (endAt ds i0 1 = some k) := HE.out.trans (endAt_zero _ _)
      go_wp2
      go_ret2
      exact ⟨.inl ⟨k, HE'.out, rfl⟩, rfl⟩
    · obtain ⟨q', rfl⟩ : ∃ q', q = q' + 1 := ⟨q - 1, by omega⟩
      by_cases hlt : k < ds.length
      · obtain ⟨b, o, ea, hb, c1, c2, c3⟩ := HN.out k hlt
        have HS : Hid (endAt ds i0 1 = endAt ds (k + 1) (pts ds[k].op + q')) := HE.out.trans (endAt_step _ _ _ hlt)
        have hp := pts_le ds[k].op
        subst ea
        clear c2 c3 h0
        go_wp2_with (go_at_call 34; refine (dparts_any _ _).mono ?_; rintro e w' ⟨rfl, rfl⟩)
        go_roundw
        case rel =>
          exact ⟨by trivial, k + 1, pts ds[k].op + q', by omega, by omega, by go_num, by go_num, HS.out⟩
        case measure => simp [intOf]; omega
      · have hkk : k = ds.length := by omega
        subst hkk
        have HE' : Hid (endAt ds i0 1 = none) := HE.out.trans (endAt_out _ _ _ (by omega))
        go_wp2
        go_ret2
        exact ⟨.inr ⟨HE'.out, rfl⟩, rfl⟩

theorem dendOf_some {ds : List Nd} {i0 j : Nat} (a : Option Addr) (cap : Nat) (w : World) (hN : Nods w a ds) (hl : ds.length ≤ 400) (hi : i0 ≤ ds.length) (h : endAt ds i0 1 = some j) :
    Calls Tryd.prog 26 #[.slice a ds.length cap, .int .i64 i0] w fun e w' => e = .returned (.tuple #[.int .i64 j, .bool true]) ∧ w = w' :=
  (dendOf_any ds a cap i0 w hN hl hi).mono fun e w' ⟨h1, h2⟩ => ⟨by
    rcases h1 with ⟨j', e1, e2⟩ | ⟨e1, _⟩
    · rw [h] at e1; cases e1; exact e2
    · rw [h] at e1; (cases e1), h2⟩
theorem dendOf_none {ds : List Nd} {i0 : Nat} (a : Option Addr) (cap : Nat) (w : World) (hN : Nods w a ds) (hl : ds.length ≤ 400) (hi : i0 ≤ ds.length) (h : endAt ds i0 1 = none) :
    Calls Tryd.prog 26 #[.slice a ds.length cap, .int .i64 i0] w fun e w' => e = .returned (.tuple #[.int .i64 ds.length, .bool false]) ∧ w = w' :=
  (dendOf_any ds a cap i0 w hN hl hi).mono fun e w' ⟨h1, h2⟩ => ⟨by
    rcases h1 with ⟨j', e1, e2⟩ | ⟨_, e2⟩
    · rw [h] at e1; cases e1
    · exact e2, h2⟩

/-- The document's place: -1 where there is none. -/
def endZ (o : Option Nat) : Int := match o with | some j => j | none => -1

set_option maxRecDepth 100000 in
set_option maxHeartbeats 1000000 in
theorem rendOf_any (ds : List Nd) (a : Option Addr) (cap : Nat) (hl : ds.length ≤ 400) : ∀ (f i : Nat) (w : World), Nods w a ds → ds.length - i < f →  i ≤ 1000 →
    Calls Tryd.prog 17 #[.slice a ds.length cap, .int .i64 i] w fun e w' => e = .returned (.int .i64 (endZ (endAt ds i 1))) ∧ w = w' := by
  intro f
  induction f with
  | zero => intro i w _ h; omega
  | succ f ih =>
    intro i w hN hf hi
    have HN : Hid (Nods w a ds) := hN
    have IH : Hid (∀ (i : Nat) (w : World), Nods w a ds → ds.length - i < f → i ≤ 1000 →
      Calls Tryd.prog 17 #[.slice a ds.length cap, .int .i64 i] w fun e w' => e = .returned (.int .i64 (endZ (endAt ds i 1))) ∧ w = w') := ih
    clear hN ih
    by_cases hlt : i < ds.length
    · obtain ⟨b, o, ea, hb, c1, c2, c3⟩ := HN.out i hlt
      have HS : Hid (endAt ds i 1 = endAt ds (i + 1) (pts ds[i].op)) := endAt_step _ _ 0 hlt
      have hp := pts_le ds[i].op
      generalize hpp : pts ds[i].op = p at HS hp
      have HP : Hid (pts ds[i].op = p) := hpp
      subst ea
      clear c2 c3 hpp
      go_enter Tryd.func17, Tryd.ntmps17
      go_wp2_with (go_at_call 21; refine (rparts_any _ _).mono ?_; rintro e w' ⟨rfl, rfl⟩; rw [HP.out])
      go_loopw [1, 5] (fun z m wr => wr = w ∧ ∃ q : Nat, q ≤ 2 ∧ m = .int .i64 q ∧ ((∃ k : Nat, i < k ∧ k ≤ ds.length ∧ z = .int .i64 k ∧ endAt ds i 1 = endAt ds k q) ∨ (z = .int .i64 (-1) ∧ endAt ds i 1 = none))) (fun _ m _ => (intOf m).toNat)
      case atStart => exact ⟨rfl, p, hp, rfl, .inl ⟨i + 1, by omega, by omega, by go_num, HS.out⟩⟩
      case round =>
        obtain ⟨rfl, q, hq, rfl, ⟨k, hk1, hk2, rfl, he⟩ | ⟨rfl, he⟩⟩ := hrel
        · have HE : Hid (endAt ds i 1 = endAt ds k q) := he
          clear he
          by_cases h0 : q = 0
          · subst h0
            have HE' : Hid (endAt ds i 1 = some k) := HE.out.trans (endAt_zero _ _)
            go_wp2
            go_ret
            exact ⟨by rw [HE'.out]; rfl, rfl⟩
          · obtain ⟨q', rfl⟩ : ∃ q', q = q' + 1 := ⟨q - 1, by omega⟩
            have HA : Hid (endAt ds i 1 = (endAt ds k 1).bind fun j => endAt ds j q') := HE.out.trans (by rw [Nat.add_comm q' 1, endAt_add])
            clear h0
            go_wp2_with (go_at_call 17; refine (IH.out k _ HN.out (by omega) (by omega)).mono ?_; rintro e w' ⟨rfl, rfl⟩)
            go_roundw
            case rel =>
              refine ⟨by trivial, q', by omega, by go_num, ?_⟩
              cases hj : endAt ds k 1 with
              | none => exact .inr ⟨rfl, by rw [HA.out, hj]; rfl⟩
              | some j =>
                have hjb := endAt_bd hj
                exact .inl ⟨j, by omega, by omega, rfl, by rw [HA.out, hj]; rfl⟩
            case measure => simp [intOf]
        · have HE : Hid (endAt ds i 1 = none) := he
          clear he
          by_cases h0 : q = 0
          · subst h0
            go_wp2
            go_ret
            exact ⟨by rw [HE.out]; rfl, rfl⟩
          · go_wp2
            go_ret
            exact ⟨by rw [HE.out]; rfl, rfl⟩
    · have HE : Hid (endAt ds i 1 = none) := endAt_out _ _ _ (by omega)
      go_enter Tryd.func17, Tryd.ntmps17
      go_wp2
      go_ret
      exact ⟨by rw [HE.out]; rfl, rfl⟩
end Go.Proofs.YthjnkgjdpdacoaaDoor
