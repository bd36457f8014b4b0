/- Some texts as one: DocA, DocB, DocC. -/
import Derived.Test.YtmbeamcjpidnjaaGreatDoorDocL
namespace Go.Proofs.YtmbeamcjpidnjaaGreatDoor
open Go Go.RowKit

set_option maxRecDepth 100000 in
theorem dparts_any (op : Int) (w : World) : Calls Tryz.prog 131 #[.int .i64 op] w fun e w' => e = .returned (.int .i64 (pts op)) ∧ w = w' := by
  by_cases h6 : op = 6
  · subst h6
    go_enter Tryz.func131, Tryz.ntmps131
    go_wp2
    go_ret
    exact ⟨rfl, rfl⟩
  by_cases h9 : op = 9
  · subst h9
    go_enter Tryz.func131, Tryz.ntmps131
    go_wp2
    go_ret
    exact ⟨rfl, rfl⟩
  by_cases h7 : op = 7
  · subst h7
    go_enter Tryz.func131, Tryz.ntmps131
    go_wp2
    go_ret
    exact ⟨rfl, rfl⟩
  by_cases h8 : op = 8
  · subst h8
    go_enter Tryz.func131, Tryz.ntmps131
    go_wp2
    go_ret
    exact ⟨rfl, rfl⟩
  have e : pts op = 0 := by simp [pts, h6, h7, h8, h9]
  rw [e]
  have g6 : (op == 6) = false := by simp [h6]
  have g7 : (op == 7) = false := by simp [h7]
  have g8 : (op == 8) = false := by simp [h8]
  have g9 : (op == 9) = false := by simp [h9]
  clear e h6 h7 h8 h9
  go_enter Tryz.func131, Tryz.ntmps131
  go_wp2
  go_ret
  exact ⟨rfl, rfl⟩

set_option maxRecDepth 100000 in
set_option maxHeartbeats 1000000 in
theorem isWord_any (s : ByteArray) (w : World) : Calls Tryz.prog 130 #[.string s] w fun e w' => e = .returned (.bool (isW s)) ∧ w = w' := by
  by_cases h1 : (s.size : Int) < 1
  · have e : isW s = false := by simp [isW]; omega
    rw [e]
    clear e
    go_enter Tryz.func130, Tryz.ntmps130
    go_wp2
    go_ret
    exact ⟨rfl, rfl⟩
  by_cases h2 : 20 < (s.size : Int)
  · have e : isW s = false := by simp [isW]; omega
    rw [e]
    clear e
    go_enter Tryz.func130, Tryz.ntmps130
    go_wp2
    go_ret
    exact ⟨rfl, rfl⟩
  go_enter Tryz.func130, Tryz.ntmps130
  go_wp2
  go_loopw [14] (fun i wr => wr = w ∧ ∃ k : Nat, k ≤ s.size ∧ i = .int .i64 k ∧ ∀ j (h : j < s.size), j < k → wordB s[j] = true) (fun i _ => s.size - (intOf i).toNat)
  case atStart => exact ⟨rfl, 0, Nat.zero_le _, rfl, fun j _ hj => by omega⟩
  case round =>
    obtain ⟨rfl, k, hk, rfl, hall⟩ := hrel
    have HA : Hid (∀ j (h : j < s.size), j < k → wordB s[j] = true) := hall
    clear hall
    by_cases hlt : k < s.size
    · cases hb : wordB s[k] with
      | false =>
        have HE : Hid (isW s = false) := isW_not hlt hb
        have hc := wordB_false hb
        clear hb
        rcases hc with hc | ⟨hc, hd⟩
        · go_wp2
          go_ret
          exact ⟨by rw [HE.out]; rfl, rfl⟩
        · go_wp2
          go_ret
          exact ⟨by rw [HE.out]; rfl, rfl⟩
      | true =>
        have HB : Hid (wordB s[k] = true) := hb
        obtain ⟨hc, hd⟩ := wordB_true hb
        clear hb
        go_wp2
        go_roundw
        case rel =>
          refine ⟨by trivial, k + 1, by omega, by go_num, ?_⟩
          intro j h hj
          by_cases hjk : j = k
          · subst hjk; exact HB.out
          · exact HA.out j h (by omega)
        case measure => simp [intOf]; omega
    · have HE : Hid (isW s = true) := isW_take (by omega) (by omega) fun j h => HA.out j h (by omega)
      go_wp2
      go_ret
      exact ⟨by rw [HE.out]; rfl, rfl⟩

set_option maxRecDepth 100000 in
set_option maxHeartbeats 4000000 in
theorem checkNode_any (x : Nd) (w : World) : Calls Tryz.prog 87 #[nodV x] w fun e w' => e = .returned (errN (nodeF x)) ∧ Below w.heap.size w w' := by
  obtain ⟨op, tx, n⟩ := x
  by_cases h1 : op < 1
  · have e : nodeF ⟨op, tx, n⟩ = 1 := by simp [nodeF, h1]
    rw [e, errN_1]
    clear e
    go_enter Tryz.func87, Tryz.ntmps87
    go_wp2
    go_ret
    exact ⟨rfl, (Below.refl _ _).alloc (Nat.le_refl _) _⟩
  by_cases h2 : 9 < op
  · have e : nodeF ⟨op, tx, n⟩ = 1 := by simp [nodeF, h2]
    rw [e, errN_1]
    clear e
    go_enter Tryz.func87, Tryz.ntmps87
    go_wp2
    go_ret
    exact ⟨rfl, (Below.refl _ _).alloc (Nat.le_refl _) _⟩
  rcases ops9 h1 h2 with rfl | rfl | rfl | rfl | rfl | rfl | rfl | rfl | rfl
  case inl =>
    clear h1 h2
    by_cases hn : n = 0
    · subst hn
      cases hw : isW tx with
      | false =>
        have e : nodeF ⟨1, tx, 0⟩ = 5 := by simp [nodeF, hw]
        rw [e, errN_5]
        clear e
        go_enter Tryz.func87, Tryz.ntmps87
        go_wp2_with (go_at_call 130; refine (isWord_any _ _).mono ?_; rintro e w' ⟨rfl, rfl⟩)
        go_ret
        exact ⟨rfl, (Below.refl _ _).alloc (Nat.le_refl _) _⟩
      | true =>
        have e : nodeF ⟨1, tx, 0⟩ = 0 := by simp [nodeF, hw]
        rw [e, errN_0]
        clear e
        go_enter Tryz.func87, Tryz.ntmps87
        go_wp2_with (go_at_call 130; refine (isWord_any _ _).mono ?_; rintro e w' ⟨rfl, rfl⟩)
        go_ret
        exact ⟨rfl, (Below.refl _ _).alloc (Nat.le_refl _) _⟩
    · have e : nodeF ⟨1, tx, n⟩ = 2 := by simp [nodeF, hn]
      rw [e, errN_2]
      have hn' : (n != 0) = true := by simp [hn]
      clear e hn
      go_enter Tryz.func87, Tryz.ntmps87
      go_wp2
      go_ret
      exact ⟨rfl, (Below.refl _ _).alloc (Nat.le_refl _) _⟩
  case inr.inr.inr.inr.inr.inr.inl =>
    clear h1 h2
    by_cases hs : tx.size = 0
    · obtain rfl := size_zero hs
      by_cases hn : n < 0
      · have e : nodeF ⟨7, ⟨#[]⟩, n⟩ = 1 := by simp [nodeF, hn, hs]
        rw [e, errN_1]
        clear e hs
        go_enter Tryz.func87, Tryz.ntmps87
        go_wp2
        go_ret
        exact ⟨rfl, (Below.refl _ _).alloc (Nat.le_refl _) _⟩
      by_cases hm : 8 < n
      · have e : nodeF ⟨7, ⟨#[]⟩, n⟩ = 1 := by simp [nodeF, hm, hs]
        rw [e, errN_1]
        clear e hs
        go_enter Tryz.func87, Tryz.ntmps87
        go_wp2
        go_ret
        exact ⟨rfl, (Below.refl _ _).alloc (Nat.le_refl _) _⟩
      have e : nodeF ⟨7, ⟨#[]⟩, n⟩ = 0 := by simp [nodeF, hn, hm, hs]
      rw [e, errN_0]
      clear e hs
      go_enter Tryz.func87, Tryz.ntmps87
      go_wp2
      go_ret
      exact ⟨rfl, (Below.refl _ _).alloc (Nat.le_refl _) _⟩
    · have e : nodeF ⟨7, tx, n⟩ = 2 := by simp [nodeF, hs]
      rw [e, errN_2]
      have hs' := size_ne hs
      clear e hs
      go_enter Tryz.func87, Tryz.ntmps87
      go_wp2
      go_ret
      exact ⟨rfl, (Below.refl _ _).alloc (Nat.le_refl _) _⟩
  all_goals
    clear h1 h2
    by_cases hs : tx.size = 0
    · obtain rfl := size_zero hs
      by_cases hn : n = 0
      · subst hn
        rw [show ∀ k : Int, k = 0 → errN k = .nilIface from fun k hk => by rw [hk]; rfl]
        · clear hs
          go_enter Tryz.func87, Tryz.ntmps87
          go_wp2
          go_ret
          exact ⟨rfl, (Below.refl _ _).alloc (Nat.le_refl _) _⟩
        · simp [nodeF, hs]
      · have hn' : (n != 0) = true := by simp [hn]
        rw [show ∀ k : Int, k = 2 → errN k = .iface 23 (.int .i64 2) from fun k hk => by rw [hk]; rfl]
        · clear hs hn
          go_enter Tryz.func87, Tryz.ntmps87
          go_wp2
          go_ret
          exact ⟨rfl, (Below.refl _ _).alloc (Nat.le_refl _) _⟩
        · simp [nodeF, hn]
    · have hs' := size_ne hs
      rw [show ∀ k : Int, k = 2 → errN k = .iface 23 (.int .i64 2) from fun k hk => by rw [hk]; rfl]
      · clear hs
        go_enter Tryz.func87, Tryz.ntmps87
        go_wp2
        go_ret
        exact ⟨rfl, (Below.refl _ _).alloc (Nat.le_refl _) _⟩
      · simp [nodeF, hs]
end Go.Proofs.YtmbeamcjpidnjaaGreatDoor
namespace Go.Proofs.YtmbeamcjpidnjaaGreatDoor
open Go Go.RowKit

set_option maxRecDepth 100000 in
set_option maxHeartbeats 1000000 in
theorem dendOf_any (ds : List Nd) (a : Option Addr) (cap i0 : Nat) (w : World) (hN : Nods w a ds) (hl : ds.length ≤ 400) (hi : i0 ≤ ds.length) :
    Calls Tryz.prog 88 #[.slice a ds.length cap, .int .i64 i0] w fun e w' => ((∃ j : Nat, endAt ds i0 1 = some j ∧ e = .returned (.tuple #[.int .i64 j, .bool true])) ∨ (endAt ds i0 1 = none ∧ e = .returned (.tuple #[.int .i64 ds.length, .bool false]))) ∧ w = w' := by
  have HN : Hid (Nods w a ds) := hN
  clear hN
  go_enter Tryz.func88, Tryz.ntmps88
  go_wp2
  go_loopw [1, 6] (fun i m wr => wr = w ∧ ∃ k q : Nat, k ≤ ds.length ∧ q ≤ k + 1 ∧ i = .int .i64 k ∧ m = .int .i64 q ∧ endAt ds i0 1 = endAt ds k q) (fun i _ _ => ds.length - (intOf i).toNat)
  case atStart => exact ⟨rfl, i0, 1, hi, by omega, rfl, rfl, rfl⟩
  case round =>
    obtain ⟨rfl, k, q, hk, hq, rfl, rfl, he⟩ := hrel
    have HE : Hid (endAt ds i0 1 = endAt ds k q) := he
    clear he
    by_cases h0 : q = 0
    · subst h0
      have HE' : Hid (endAt ds i0 1 = some k) := HE.out.trans (endAt_zero _ _)
      go_wp2
      go_ret2
      exact ⟨.inl ⟨k, HE'.out, rfl⟩, rfl⟩
    · obtain ⟨q', rfl⟩ : ∃ q', q = q' + 1 := ⟨q - 1, by omega⟩
      by_cases hlt : k < ds.length
      · obtain ⟨b, o, ea, hb, c1, c2, c3⟩ := HN.out k hlt
        have HS : Hid (endAt ds i0 1 = endAt ds (k + 1) (pts ds[k].op + q')) := HE.out.trans (endAt_step _ _ _ hlt)
        have hp := pts_le ds[k].op
        subst ea
        clear c2 c3 h0
        go_wp2_with (go_at_call 131; refine (dparts_any _ _).mono ?_; rintro e w' ⟨rfl, rfl⟩)
        go_roundw
        case rel =>
          exact ⟨by trivial, k + 1, pts ds[k].op + q', by omega, by omega, by go_num, by go_num, HS.out⟩
        case measure => simp [intOf]; omega
      · have hkk : k = ds.length := by omega
        subst hkk
        have HE' : Hid (endAt ds i0 1 = none) := HE.out.trans (endAt_out _ _ _ (by omega))
        go_wp2
        go_ret2
        exact ⟨.inr ⟨HE'.out, rfl⟩, rfl⟩

theorem dendOf_some {ds : List Nd} {i0 j : Nat} (a : Option Addr) (cap : Nat) (w : World) (hN : Nods w a ds) (hl : ds.length ≤ 400) (hi : i0 ≤ ds.length) (h : endAt ds i0 1 = some j) :
    Calls Tryz.prog 88 #[.slice a ds.length cap, .int .i64 i0] w fun e w' => e = .returned (.tuple #[.int .i64 j, .bool true]) ∧ w = w' :=
  (dendOf_any ds a cap i0 w hN hl hi).mono fun e w' ⟨h1, h2⟩ => ⟨by
    rcases h1 with ⟨j', e1, e2⟩ | ⟨e1, _⟩
    · rw [h] at e1; cases e1; exact e2
    · rw [h] at e1; (cases e1), h2⟩
theorem dendOf_none {ds : List Nd} {i0 : Nat} (a : Option Addr) (cap : Nat) (w : World) (hN : Nods w a ds) (hl : ds.length ≤ 400) (hi : i0 ≤ ds.length) (h : endAt ds i0 1 = none) :
    Calls Tryz.prog 88 #[.slice a ds.length cap, .int .i64 i0] w fun e w' => e = .returned (.tuple #[.int .i64 ds.length, .bool false]) ∧ w = w' :=
  (dendOf_any ds a cap i0 w hN hl hi).mono fun e w' ⟨h1, h2⟩ => ⟨by
    rcases h1 with ⟨j', e1, e2⟩ | ⟨_, e2⟩
    · rw [h] at e1; cases e1
    · exact e2, h2⟩
end Go.Proofs.YtmbeamcjpidnjaaGreatDoor
namespace Go.Proofs.YtmbeamcjpidnjaaGreatDoor
open Go Go.RowKit

set_option maxRecDepth 100000 in
set_option maxHeartbeats 2000000 in
theorem dcheck_any (ds : List Nd) (a : Option Addr) (cap : Nat) (w : World) (hN : Nods w a ds) :
    Calls Tryz.prog 53 #[.slice a ds.length cap] w fun e w' => e = .returned (errN (docF ds)) ∧ Below w.heap.size w w' := by
  have HN : Hid (Nods w a ds) := hN
  clear hN
  by_cases h4 : 400 < (ds.length : Int)
  · rw [docF_full (by omega), errN_3]
    go_enter Tryz.func53, Tryz.ntmps53
    go_wp2
    go_ret
    exact ⟨rfl, Below.refl _ _⟩
  · have hl : ds.length ≤ 400 := by omega
    go_enter Tryz.func53, Tryz.ntmps53
    go_wp2
    go_loopw [14] (fun i wr => Below w.heap.size w wr ∧ ∃ k : Nat, k ≤ ds.length ∧ i = .int .i64 k ∧ ∀ x ∈ ds.take k, nodeF x = 0) (fun i _ => ds.length - (intOf i).toNat)
    case atStart => exact ⟨Below.refl _ _, 0, Nat.zero_le _, rfl, by simp⟩
    case round =>
      obtain ⟨hB, k, hk, rfl, hall⟩ := hrel
      have HA : Hid (∀ x ∈ ds.take k, nodeF x = 0) := hall
      have HM : Hid (Nods wr a ds) := HN.out.below hB
      clear hall
      by_cases hlt : k < ds.length
      · obtain ⟨b, o, ea, hb, c1, c2, c3⟩ := HM.out k hlt
        subst ea
        by_cases h0 : nodeF ds[k] = 0
        · have H0 : Hid (nodeF ds[k] = 0) := h0
          clear h0
          go_wp2_with fail
          refine (checkNode_any ds[k] _).mono ?_
          rintro e w2 ⟨rfl, hb2⟩
          rw [H0.out, errN_0]
          have hB2 := belowA hB (Nat.le_refl _) hb2
          clear hb2
          go_wp2
          go_roundw
          case rel => exact ⟨hB2, k + 1, by omega, by go_num, take_more hlt HA.out H0.out⟩
          case measure => simp [intOf]; omega
        · have H0 : Hid (nodeF ds[k] ≠ 0) := h0
          clear h0
          go_wp2_with fail
          refine (checkNode_any ds[k] _).mono ?_
          rintro e w2 ⟨rfl, hb2⟩
          rw [errN_ne H0.out]
          have hB2 := belowA hB (Nat.le_refl _) hb2
          clear hb2
          go_wp2
          go_ret
          refine ⟨?_, hB2⟩
          rw [docF_node hl hlt HA.out H0.out, errN_ne H0.out]
          rfl
      · have HF : Hid (docF ds = if endAt ds 0 1 = some ds.length then 0 else 2) := docF_end hl (take_all hlt HA.out)
        cases he : endAt ds 0 1 with
        | none =>
          have HE : Hid (endAt ds 0 1 = none) := he
          clear he
          go_wp2_with fail
          refine (dendOf_none a cap _ HM.out hl (Nat.zero_le _) HE.out).mono ?_
          rintro e w2 ⟨rfl, rfl⟩
          go_wp2
          go_ret
          refine ⟨?_, hB⟩
          rw [HF.out, HE.out, if_neg (by simp), errN_2]
          rfl
        | some j =>
          have HE : Hid (endAt ds 0 1 = some j) := he
          clear he
          by_cases hj : j = ds.length
          · subst hj
            go_wp2_with fail
            refine (dendOf_some a cap _ HM.out hl (Nat.zero_le _) HE.out).mono ?_
            rintro e w2 ⟨rfl, rfl⟩
            go_wp2
            go_ret
            refine ⟨?_, hB⟩
            rw [HF.out, HE.out, if_pos rfl, errN_0]
            rfl
          · have hj' : ((j : Int) != (ds.length : Int)) = true := by simp; omega
            go_wp2_with fail
            refine (dendOf_some a cap _ HM.out hl (Nat.zero_le _) HE.out).mono ?_
            rintro e w2 ⟨rfl, rfl⟩
            go_wp2
            go_ret
            refine ⟨?_, hB⟩
            rw [HF.out, HE.out, if_neg (by simp [hj]), errN_2]
            rfl
end Go.Proofs.YtmbeamcjpidnjaaGreatDoor
