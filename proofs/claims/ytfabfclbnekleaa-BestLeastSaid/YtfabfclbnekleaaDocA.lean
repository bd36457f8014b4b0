/- Nodes, by package doc. -/
import Derived.Test.YtfabfclbnekleaaDocL
namespace Go.Proofs.Ytfabfclbnekleaa
open Go Go.RowKit

set_option maxRecDepth 100000 in
theorem dparts_any (op : Int) (w : World) : Calls Try.prog 59 #[.int .i64 op] w fun e w' => e = .returned (.int .i64 (pts op)) ∧ w = w' := by
  by_cases h6 : op = 6
  · subst h6
    go_enter Try.func59, Try.ntmps59
    go_wp2
    go_ret
    exact ⟨rfl, rfl⟩
  by_cases h9 : op = 9
  · subst h9
    go_enter Try.func59, Try.ntmps59
    go_wp2
    go_ret
    exact ⟨rfl, rfl⟩
  by_cases h7 : op = 7
  · subst h7
    go_enter Try.func59, Try.ntmps59
    go_wp2
    go_ret
    exact ⟨rfl, rfl⟩
  by_cases h8 : op = 8
  · subst h8
    go_enter Try.func59, Try.ntmps59
    go_wp2
    go_ret
    exact ⟨rfl, rfl⟩
  have e : pts op = 0 := by simp [pts, h6, h7, h8, h9]
  rw [e]
  have g6 : (op == 6) = false := by simp [h6]
  have g7 : (op == 7) = false := by simp [h7]
  have g8 : (op == 8) = false := by simp [h8]
  have g9 : (op == 9) = false := by simp [h9]
  clear e h6 h7 h8 h9
  go_enter Try.func59, Try.ntmps59
  go_wp2
  go_ret
  exact ⟨rfl, rfl⟩

set_option maxRecDepth 100000 in
set_option maxHeartbeats 1000000 in
theorem isWord_any (s : ByteArray) (w : World) : Calls Try.prog 58 #[.string s] w fun e w' => e = .returned (.bool (isW s)) ∧ w = w' := by
  by_cases h1 : (s.size : Int) < 1
  · have e : isW s = false := by simp [isW]; omega
    rw [e]
    clear e
    go_enter Try.func58, Try.ntmps58
    go_wp2
    go_ret
    exact ⟨rfl, rfl⟩
  by_cases h2 : 20 < (s.size : Int)
  · have e : isW s = false := by simp [isW]; omega
    rw [e]
    clear e
    go_enter Try.func58, Try.ntmps58
    go_wp2
    go_ret
    exact ⟨rfl, rfl⟩
  go_enter Try.func58, Try.ntmps58
  go_wp2
  go_loopw [14] (fun i wr => wr = w ∧ ∃ k : Nat, k ≤ s.size ∧ i = .int .i64 k ∧ ∀ j (h : j < s.size), j < k → wordB s[j] = true) (fun i _ => s.size - (intOf i).toNat)
  case atStart => exact ⟨rfl, 0, Nat.zero_le _, rfl, fun j _ hj => by omega⟩
  case round =>
    obtain ⟨rfl, k, hk, rfl, hall⟩ := hrel
    have HA : Hid (∀ j (h : j < s.size), j < k → wordB s[j] = true) := hall
    clear hall
    by_cases hlt : k < s.size
    · cases hb : wordB s[k] with
      | false =>
        have HE : Hid (isW s = false) := isW_not hlt hb
        have hc := wordB_false hb
        clear hb
        rcases hc with hc | ⟨hc, hd⟩
        · go_wp2
          go_ret
          exact ⟨by rw [HE.out]; rfl, rfl⟩
        · go_wp2
          go_ret
          exact ⟨by rw [HE.out]; rfl, rfl⟩
      | true =>
        have HB : Hid (wordB s[k] = true) := hb
        obtain ⟨hc, hd⟩ := wordB_true hb
        clear hb
        go_wp2
        go_roundw
        case rel =>
          refine ⟨by trivial, k + 1, by omega, by go_num, ?_⟩
          intro j h hj
          by_cases hjk : j = k
          · subst hjk; exact HB.out
          · exact HA.out j h (by omega)
        case measure => simp [intOf]; omega
    · have HE : Hid (isW s = true) := isW_take (by omega) (by omega) fun j h => HA.out j h (by omega)
      go_wp2
      go_ret
      exact ⟨by rw [HE.out]; rfl, rfl⟩

set_option maxRecDepth 100000 in
set_option maxHeartbeats 4000000 in
theorem checkNode_any (x : Nd) (w : World) : Calls Try.prog 42 #[nodV x] w fun e w' => e = .returned (errN (nodeF x)) ∧ Below w.heap.size w w' := by
  obtain ⟨op, tx, n⟩ := x
  by_cases h1 : op < 1
  · have e : nodeF ⟨op, tx, n⟩ = 1 := by simp [nodeF, h1]
    rw [e, errN_1]
    clear e
    go_enter Try.func42, Try.ntmps42
    go_wp2
    go_ret
    exact ⟨rfl, (Below.refl _ _).alloc (Nat.le_refl _) _⟩
  by_cases h2 : 9 < op
  · have e : nodeF ⟨op, tx, n⟩ = 1 := by simp [nodeF, h2]
    rw [e, errN_1]
    clear e
    go_enter Try.func42, Try.ntmps42
    go_wp2
    go_ret
    exact ⟨rfl, (Below.refl _ _).alloc (Nat.le_refl _) _⟩
  rcases ops9 h1 h2 with rfl | rfl | rfl | rfl | rfl | rfl | rfl | rfl | rfl
  case inl =>
    clear h1 h2
    by_cases hn : n = 0
    · subst hn
      cases hw : isW tx with
      | false =>
        have e : nodeF ⟨1, tx, 0⟩ = 5 := by simp [nodeF, hw]
        rw [e, errN_5]
        clear e
        go_enter Try.func42, Try.ntmps42
        go_wp2_with (go_at_call 58; refine (isWord_any _ _).mono ?_; rintro e w' ⟨rfl, rfl⟩)
        go_ret
        exact ⟨rfl, (Below.refl _ _).alloc (Nat.le_refl _) _⟩
      | true =>
        have e : nodeF ⟨1, tx, 0⟩ = 0 := by simp [nodeF, hw]
        rw [e, errN_0]
        clear e
        go_enter Try.func42, Try.ntmps42
        go_wp2_with (go_at_call 58; refine (isWord_any _ _).mono ?_; rintro e w' ⟨rfl, rfl⟩)
        go_ret
        exact ⟨rfl, (Below.refl _ _).alloc (Nat.le_refl _) _⟩
    · have e : nodeF ⟨1, tx, n⟩ = 2 := by simp [nodeF, hn]
      rw [e, errN_2]
      have hn' : (n != 0) = true := by simp [hn]
      clear e hn
      go_enter Try.func42, Try.ntmps42
      go_wp2
      go_ret
      exact ⟨rfl, (Below.refl _ _).alloc (Nat.le_refl _) _⟩
  case inr.inr.inr.inr.inr.inr.inl =>
    clear h1 h2
    by_cases hs : tx.size = 0
    · obtain rfl := size_zero hs
      by_cases hn : n < 0
      · have e : nodeF ⟨7, ⟨#[]⟩, n⟩ = 1 := by simp [nodeF, hn, hs]
        rw [e, errN_1]
        clear e hs
        go_enter Try.func42, Try.ntmps42
        go_wp2
        go_ret
        exact ⟨rfl, (Below.refl _ _).alloc (Nat.le_refl _) _⟩
      by_cases hm : 8 < n
      · have e : nodeF ⟨7, ⟨#[]⟩, n⟩ = 1 := by simp [nodeF, hm, hs]
        rw [e, errN_1]
        clear e hs
        go_enter Try.func42, Try.ntmps42
        go_wp2
        go_ret
        exact ⟨rfl, (Below.refl _ _).alloc (Nat.le_refl _) _⟩
      have e : nodeF ⟨7, ⟨#[]⟩, n⟩ = 0 := by simp [nodeF, hn, hm, hs]
      rw [e, errN_0]
      clear e hs
      go_enter Try.func42, Try.ntmps42
      go_wp2
      go_ret
      exact ⟨rfl, (Below.refl _ _).alloc (Nat.le_refl _) _⟩
    · have e : nodeF ⟨7, tx, n⟩ = 2 := by simp [nodeF, hs]
      rw [e, errN_2]
      have hs' := size_ne hs
      clear e hs
      go_enter Try.func42, Try.ntmps42
      go_wp2
      go_ret
      exact ⟨rfl, (Below.refl _ _).alloc (Nat.le_refl _) _⟩
  all_goals
    clear h1 h2
    by_cases hs : tx.size = 0
    · obtain rfl := size_zero hs
      by_cases hn : n = 0
      · subst hn
        rw [show ∀ k : Int, k = 0 → errN k = .nilIface from fun k hk => by rw [hk]; rfl]
        · clear hs
          go_enter Try.func42, Try.ntmps42
          go_wp2
          go_ret
          exact ⟨rfl, (Below.refl _ _).alloc (Nat.le_refl _) _⟩
        · simp [nodeF, hs]
      · have hn' : (n != 0) = true := by simp [hn]
        rw [show ∀ k : Int, k = 2 → errN k = .iface 51 (.int .i64 2) from fun k hk => by rw [hk]; rfl]
        · clear hs hn
          go_enter Try.func42, Try.ntmps42
          go_wp2
          go_ret
          exact ⟨rfl, (Below.refl _ _).alloc (Nat.le_refl _) _⟩
        · simp [nodeF, hn]
    · have hs' := size_ne hs
      rw [show ∀ k : Int, k = 2 → errN k = .iface 51 (.int .i64 2) from fun k hk => by rw [hk]; rfl]
      · clear hs
        go_enter Try.func42, Try.ntmps42
        go_wp2
        go_ret
        exact ⟨rfl, (Below.refl _ _).alloc (Nat.le_refl _) _⟩
      · simp [nodeF, hs]
end Go.Proofs.Ytfabfclbnekleaa
