/- A doc in memory; nodes, by package doc and by the document. -/
import Derived.Test.YthjnkgjdpdacoaaDoorBase
import Derived.Test.YthjnkgjdpdacoaaDoorDocP
namespace Go.Proofs.YthjnkgjdpdacoaaDoor
open Go Go.RowKit

/-- A doc's nodes lie behind an address. -/
def Nods (w : World) (a : Option Addr) (ds : List Nd) : Prop :=
  ∀ i (h : i < ds.length), ∃ b o, a = some ⟨b, o, none⟩ ∧ b < w.heap.size ∧ w.cell? ⟨b, o + i * 3, none⟩ = some (.int .i64 ds[i].op) ∧ w.cell? ⟨b, o + i * 3 + 1, none⟩ = some (.string ds[i].tx) ∧ w.cell? ⟨b, o + i * 3 + 2, none⟩ = some (.int .i64 ds[i].n)
theorem Nods.below {w w' : World} {a : Option Addr} {ds : List Nd} (h : Nods w a ds) (hb : Below w.heap.size w w') : Nods w' a ds := by
  intro i hi
  obtain ⟨b, o, e, hlt, c1, c2, c3⟩ := h i hi
  obtain ⟨hc, _⟩ := bcell hb
  have := hb.size
  exact ⟨b, o, e, by omega, (hc _ _ hlt).trans c1, (hc _ _ hlt).trans c2, (hc _ _ hlt).trans c3⟩
theorem Nods.alloc {w : World} {a : Option Addr} {ds : List Nd} (h : Nods w a ds) (o : Obj) : Nods (w.alloc o) a ds := h.below ((Below.refl _ _).alloc (Nat.le_refl _) _)
theorem Nods.nil (w : World) (a : Option Addr) : Nods w a [] := fun i hi => by simp at hi

abbrev nodV (x : Nd) : Value := .agg #[.int .i64 x.op, .string x.tx, .int .i64 x.n]

set_option maxRecDepth 100000 in
theorem dparts_any (op : Int) (w : World) : Calls Tryd.prog 34 #[.int .i64 op] w fun e w' => e = .returned (.int .i64 (pts op)) ∧ w = w' := by
  by_cases h6 : op = 6
  · subst h6
    go_enter Tryd.func34, Tryd.ntmps34
    go_wp2
    go_ret
    exact ⟨rfl, rfl⟩
  by_cases h9 : op = 9
  · subst h9
    go_enter Tryd.func34, Tryd.ntmps34
    go_wp2
    go_ret
    exact ⟨rfl, rfl⟩
  by_cases h7 : op = 7
  · subst h7
    go_enter Tryd.func34, Tryd.ntmps34
    go_wp2
    go_ret
    exact ⟨rfl, rfl⟩
  by_cases h8 : op = 8
  · subst h8
    go_enter Tryd.func34, Tryd.ntmps34
    go_wp2
    go_ret
    exact ⟨rfl, rfl⟩
  have e : pts op = 0 := by simp [pts, h6, h7, h8, h9]
  rw [e]
  have g6 : (op == 6) = false := by simp [h6]
  have g7 : (op == 7) = false := by simp [h7]
  have g8 : (op == 8) = false := by simp [h8]
  have g9 : (op == 9) = false := by simp [h9]
  clear e h6 h7 h8 h9
  go_enter Tryd.func34, Tryd.ntmps34
  go_wp2
  go_ret
  exact ⟨rfl, rfl⟩

set_option maxRecDepth 100000 in
theorem rparts_any (op : Int) (w : World) : Calls Tryd.prog 21 #[.int .i64 op] w fun e w' => e = .returned (.int .i64 (pts op)) ∧ w = w' := by
  by_cases h6 : op = 6
  · subst h6
    go_enter Tryd.func21, Tryd.ntmps21
    go_wp2
    go_ret
    exact ⟨rfl, rfl⟩
  by_cases h9 : op = 9
  · subst h9
    go_enter Tryd.func21, Tryd.ntmps21
    go_wp2
    go_ret
    exact ⟨rfl, rfl⟩
  by_cases h7 : op = 7
  · subst h7
    go_enter Tryd.func21, Tryd.ntmps21
    go_wp2
    go_ret
    exact ⟨rfl, rfl⟩
  by_cases h8 : op = 8
  · subst h8
    go_enter Tryd.func21, Tryd.ntmps21
    go_wp2
    go_ret
    exact ⟨rfl, rfl⟩
  have e : pts op = 0 := by simp [pts, h6, h7, h8, h9]
  rw [e]
  have g6 : (op == 6) = false := by simp [h6]
  have g7 : (op == 7) = false := by simp [h7]
  have g8 : (op == 8) = false := by simp [h8]
  have g9 : (op == 9) = false := by simp [h9]
  clear e h6 h7 h8 h9
  go_enter Tryd.func21, Tryd.ntmps21
  go_wp2
  go_ret
  exact ⟨rfl, rfl⟩

theorem isW_take {s : ByteArray} (h1 : 1 ≤ s.size) (h2 : s.size ≤ 20) (h : ∀ k (h : k < s.size), wordB s[k] = true) : isW s = true := by
  simp only [isW, h1, h2, decide_true, Bool.true_and, List.all_eq_true]
  intro b hb
  obtain ⟨i, hi, rfl⟩ := List.getElem_of_mem hb
  exact h i (by rw [← size_list]; exact hi)
theorem isW_not {s : ByteArray} {k : Nat} (h : k < s.size) (hb : wordB s[k] = false) : isW s = false := by
  cases e : isW s with
  | false => rfl
  | true =>
    simp only [isW, Bool.and_eq_true, List.all_eq_true] at e
    have := e.2 s[k] (by
      have : k < s.data.toList.length := by rw [size_list]; exact h
      exact List.getElem_mem this)
    rw [hb] at this
    cases this
theorem wordB_false {b : UInt8} (h : wordB b = false) : (b.toNat : Int) < 32 ∨ (¬ (b.toNat : Int) < 32 ∧ 126 < (b.toNat : Int)) := by
  simp [wordB] at h
  omega
theorem wordB_true {b : UInt8} (h : wordB b = true) : ¬ (b.toNat : Int) < 32 ∧ ¬ 126 < (b.toNat : Int) := by
  simp [wordB] at h
  omega

set_option maxRecDepth 100000 in
set_option maxHeartbeats 1000000 in
theorem isWord_any (s : ByteArray) (w : World) : Calls Tryd.prog 33 #[.string s] w fun e w' => e = .returned (.bool (isW s)) ∧ w = w' := by
  by_cases h1 : (s.size : Int) < 1
  · have e : isW s = false := by simp [isW]; omega
    rw [e]
    clear e
    go_enter Tryd.func33, Tryd.ntmps33
    go_wp2
    go_ret
    exact ⟨rfl, rfl⟩
  by_cases h2 : 20 < (s.size : Int)
  · have e : isW s = false := by simp [isW]; omega
    rw [e]
    clear e
    go_enter Tryd.func33, Tryd.ntmps33
    go_wp2
    go_ret
    exact ⟨rfl, rfl⟩
  go_enter Tryd.func33, Tryd.ntmps33
  go_wp2
  go_loopw [14] (fun i wr => wr = w ∧ ∃ k : Nat, k ≤ s.size ∧ i = .int .i64 k ∧ ∀ j (h : j < s.size), j < k → wordB s[j] = true) (fun i _ => s.size - (intOf i).toNat)
  case atStart => exact ⟨rfl, 0, Nat.zero_le _, rfl, fun j _ hj => by omega⟩
  case round =>
    obtain ⟨rfl, k, hk, rfl, hall⟩ := hrel
    have HA : Hid (∀ j (h : j < s.size), j < k → wordB s[j] = true) := hall
    clear hall
    by_cases hlt : k < s.size
    · cases hb : wordB s[k] with
      | false =>
        have HE : Hid (isW s = false) := isW_not hlt hb
        have hc := wordB_false hb
        clear hb
        rcases hc with hc | ⟨hc, hd⟩
        · go_wp2
          go_ret
          exact ⟨by rw [HE.out]; rfl, rfl⟩
        · go_wp2
          go_ret
          exact ⟨by rw [HE.out]; rfl, rfl⟩
      | true =>
        have HB : Hid (wordB s[k] = true) := hb
        obtain ⟨hc, hd⟩ := wordB_true hb
        clear hb
        go_wp2
        go_roundw
        case rel =>
          refine ⟨by trivial, k + 1, by omega, by go_num, ?_⟩
          intro j h hj
          by_cases hjk : j = k
          · subst hjk; exact HB.out
          · exact HA.out j h (by omega)
        case measure => simp [intOf]; omega
    · have HE : Hid (isW s = true) := isW_take (by omega) (by omega) fun j h => HA.out j h (by omega)
      go_wp2
      go_ret
      exact ⟨by rw [HE.out]; rfl, rfl⟩

theorem size_ne {s : ByteArray} (h : s.size ≠ 0) : ¬ s.toList = [] := by
  rw [ByteArray.toList_eq]
  intro e
  have := size_list s
  rw [e] at this
  exact h this.symm

/-- The nine ops. -/
theorem ops9 {op : Int} (h1 : ¬ op < 1) (h2 : ¬ 9 < op) : op = 1 ∨ op = 2 ∨ op = 3 ∨ op = 4 ∨ op = 5 ∨ op = 6 ∨ op = 7 ∨ op = 8 ∨ op = 9 := by omega

set_option maxRecDepth 100000 in
set_option maxHeartbeats 4000000 in
theorem checkNode_any (x : Nd) (w : World) : Calls Tryd.prog 25 #[nodV x] w fun e w' => e = .returned (errN (nodeF x)) ∧ Below w.heap.size w w' := by
  obtain ⟨op, tx, n⟩ := x
  by_cases h1 : op < 1
  · have e : nodeF ⟨op, tx, n⟩ = 1 := by simp [nodeF, h1]
    rw [e, errN_1]
    clear e
    go_enter Tryd.func25, Tryd.ntmps25
    go_wp2
    go_ret
    exact ⟨rfl, (Below.refl _ _).alloc (Nat.le_refl _) _⟩
  by_cases h2 : 9 < op
  · have e : nodeF ⟨op, tx, n⟩ = 1 := by simp [nodeF, h2]
    rw [e, errN_1]
    clear e
    go_enter Tryd.func25, Tryd.ntmps25
    go_wp2
    go_ret
    exact ⟨rfl, (Below.refl _ _).alloc (Nat.le_refl _) _⟩
  rcases ops9 h1 h2 with rfl | rfl | rfl | rfl | rfl | rfl | rfl | rfl | rfl
  case inl =>
    clear h1 h2
    by_cases hn : n = 0
    · subst hn
      cases hw : isW tx with
      | false =>
        have e : nodeF ⟨1, tx, 0⟩ = 5 := by simp [nodeF, hw]
        rw [e, errN_5]
        clear e
        go_enter Tryd.func25, Tryd.ntmps25
        go_wp2_with (go_at_call 33; refine (isWord_any _ _).mono ?_; rintro e w' ⟨rfl, rfl⟩)
        go_ret
        exact ⟨rfl, (Below.refl _ _).alloc (Nat.le_refl _) _⟩
      | true =>
        have e : nodeF ⟨1, tx, 0⟩ = 0 := by simp [nodeF, hw]
        rw [e, errN_0]
        clear e
        go_enter Tryd.func25, Tryd.ntmps25
        go_wp2_with (go_at_call 33; refine (isWord_any _ _).mono ?_; rintro e w' ⟨rfl, rfl⟩)
        go_ret
        exact ⟨rfl, (Below.refl _ _).alloc (Nat.le_refl _) _⟩
    · have e : nodeF ⟨1, tx, n⟩ = 2 := by simp [nodeF, hn]
      rw [e, errN_2]
      have hn' : (n != 0) = true := by simp [hn]
      clear e hn
      go_enter Tryd.func25, Tryd.ntmps25
      go_wp2
      go_ret
      exact ⟨rfl, (Below.refl _ _).alloc (Nat.le_refl _) _⟩
  case inr.inr.inr.inr.inr.inr.inl =>
    clear h1 h2
    by_cases hs : tx.size = 0
    · obtain rfl := size_zero hs
      by_cases hn : n < 0
      · have e : nodeF ⟨7, ⟨#[]⟩, n⟩ = 1 := by simp [nodeF, hn, hs]
        rw [e, errN_1]
        clear e hs
        go_enter Tryd.func25, Tryd.ntmps25
        go_wp2
        go_ret
        exact ⟨rfl, (Below.refl _ _).alloc (Nat.le_refl _) _⟩
      by_cases hm : 8 < n
      · have e : nodeF ⟨7, ⟨#[]⟩, n⟩ = 1 := by simp [nodeF, hm, hs]
        rw [e, errN_1]
        clear e hs
        go_enter Tryd.func25, Tryd.ntmps25
        go_wp2
        go_ret
        exact ⟨rfl, (Below.refl _ _).alloc (Nat.le_refl _) _⟩
      have e : nodeF ⟨7, ⟨#[]⟩, n⟩ = 0 := by simp [nodeF, hn, hm, hs]
      rw [e, errN_0]
      clear e hs
      go_enter Tryd.func25, Tryd.ntmps25
      go_wp2
      go_ret
      exact ⟨rfl, (Below.refl _ _).alloc (Nat.le_refl _) _⟩
    · have e : nodeF ⟨7, tx, n⟩ = 2 := by simp [nodeF, hs]
      rw [e, errN_2]
      have hs' := size_ne hs
      clear e hs
      go_enter Tryd.func25, Tryd.ntmps25
      go_wp2
      go_ret
      exact ⟨rfl, (Below.refl _ _).alloc (Nat.le_refl _) _⟩
  all_goals
    clear h1 h2
    by_cases hs : tx.size = 0
    · obtain rfl := size_zero hs
      by_cases hn : n = 0
      · subst hn
        rw [show ∀ k : Int, k = 0 → errN k = .nilIface from fun k hk => by rw [hk]; rfl]
        · clear hs
          go_enter Tryd.func25, Tryd.ntmps25
          go_wp2
          go_ret
          exact ⟨rfl, (Below.refl _ _).alloc (Nat.le_refl _) _⟩
        · simp [nodeF, hs]
      · have hn' : (n != 0) = true := by simp [hn]
        rw [show ∀ k : Int, k = 2 → errN k = .iface 24 (.int .i64 2) from fun k hk => by rw [hk]; rfl]
        · clear hs hn
          go_enter Tryd.func25, Tryd.ntmps25
          go_wp2
          go_ret
          exact ⟨rfl, (Below.refl _ _).alloc (Nat.le_refl _) _⟩
        · simp [nodeF, hn]
    · have hs' := size_ne hs
      rw [show ∀ k : Int, k = 2 → errN k = .iface 24 (.int .i64 2) from fun k hk => by rw [hk]; rfl]
      · clear hs
        go_enter Tryd.func25, Tryd.ntmps25
        go_wp2
        go_ret
        exact ⟨rfl, (Below.refl _ _).alloc (Nat.le_refl _) _⟩
      · simp [nodeF, hs]
end Go.Proofs.YthjnkgjdpdacoaaDoor
