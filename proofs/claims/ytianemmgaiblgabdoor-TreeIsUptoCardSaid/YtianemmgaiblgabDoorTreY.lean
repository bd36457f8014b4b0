/- Package tree, the small ones: names, what is wrong with a node. (Made by tools/gen_trey.py.) -/
import Derived.Test.YtianemmgaiblgabDoorTreV
import Derived.Test.YtianemmgaiblgabDoorTreM
import Derived.Test.YtianemmgaiblgabDoorTreU
namespace Go.Proofs.YtianemmgaiblgabDoor
open Go Go.RowKit

set_option maxRecDepth 100000 in
set_option maxHeartbeats 1000000 in
theorem tIsName_any (s : ByteArray) (w : World) : Calls Tryd.prog 61 #[.string s] w fun e w' => e = .returned (.bool (nameT s)) ∧ w = w' := by
  by_cases h1 : (s.size : Int) < 1
  · have HE : Hid (nameT s = false) := nameT_short (by omega)
    go_enter Tryd.func61, Tryd.ntmps61
    go_wp2
    go_ret
    exact ⟨by rw [HE.out]; rfl, rfl⟩
  by_cases h2 : 8 < (s.size : Int)
  · have HE : Hid (nameT s = false) := nameT_long (by omega)
    go_enter Tryd.func61, Tryd.ntmps61
    go_wp2
    go_ret
    exact ⟨by rw [HE.out]; rfl, rfl⟩
  by_cases h3 : s = ⟨#[108, 101, 116]⟩
  · subst h3
    go_enter Tryd.func61, Tryd.ntmps61
    go_wp2
    go_ret
    exact ⟨by rfl, rfl⟩
  have HL : Hid (¬ s = ⟨#[108, 101, 116]⟩) := h3
  have hnb : ¬ s.toList = [108, 101, 116] := by
    rw [ByteArray.toList_eq]
    intro e
    exact h3 (let_eq.1 e)
  have hnc : (s.toList == [108, 101, 116]) = false := beq_false_of_ne hnb
  clear h3
  go_enter Tryd.func61, Tryd.ntmps61
  go_wp2_with fail
  go_loopw [18] (fun i wr => wr = w ∧ ∃ k : Nat, k ≤ s.size ∧ i = .int .i64 k ∧ ∀ j (h : j < s.size), j < k → lowB s[j] = true) (fun i _ => s.size - (intOf i).toNat)
  case atStart => exact ⟨rfl, 0, Nat.zero_le _, rfl, fun j _ hj => by omega⟩
  case round =>
    obtain ⟨rfl, k, hk, rfl, hall⟩ := hrel
    have HA : Hid (∀ j (h : j < s.size), j < k → lowB s[j] = true) := hall
    clear hall
    by_cases hlt : k < s.size
    · cases hb : lowB s[k] with
      | false =>
        have HE : Hid (nameT s = false) := nameT_not hlt hb
        by_cases hc : (s[k].toNat : Int) < 97
        · clear hb
          go_wp2
          go_ret
          exact ⟨by rw [HE.out]; rfl, rfl⟩
        · have hd : (122 : Int) < (s[k].toNat : Int) := by
            simp [lowB] at hb
            omega
          clear hb
          go_wp2
          go_ret
          exact ⟨by rw [HE.out]; rfl, rfl⟩
      | true =>
        have HA' : Hid (∀ j (h : j < s.size), j < k + 1 → lowB s[j] = true) := fun j h hj => by
          by_cases hjk : j = k
          · subst hjk; exact hb
          · exact HA.out j h (by omega)
        have hc : ¬ (s[k].toNat : Int) < 97 ∧ ¬ (122 : Int) < (s[k].toNat : Int) := by
          simp [lowB] at hb
          omega
        obtain ⟨hc, hd⟩ := hc
        clear hb
        go_wp2
        go_roundw
        case rel => exact ⟨by trivial, k + 1, by omega, by go_num, HA'.out⟩
        case measure => simp [intOf]; omega
    · have HE : Hid (nameT s = true) := nameT_all (by omega) (by omega) HL.out fun j h => HA.out j h (by omega)
      go_wp2
      go_ret
      exact ⟨by rw [HE.out]; rfl, rfl⟩

/-- The greatest number that a node may have, and whether it has one. -/
def grM (op : Int) : Int := if op = 1 then 999999 else if op = 3 ∨ op = 4 then 6 else 0
def grH (op : Int) : Bool := decide (op = 1 ∨ op = 3 ∨ op = 4)
set_option maxRecDepth 100000 in
theorem tGreat_any (op M : Int) (H : Bool) (hM : grM op = M) (hH : grH op = H) (w : World) : Calls Tryd.prog 58 #[.int .i64 op] w fun e w' => e = .returned (.tuple #[.int .i64 M, .bool H]) ∧ w = w' := by
  subst hM hH
  by_cases h1 : op = 1
  · subst h1
    go_enter Tryd.func58, Tryd.ntmps58
    go_wp2
    go_ret2
    exact ⟨rfl, rfl⟩
  by_cases h3 : op = 3
  · subst h3
    go_enter Tryd.func58, Tryd.ntmps58
    go_wp2
    go_ret2
    exact ⟨rfl, rfl⟩
  by_cases h4 : op = 4
  · subst h4
    go_enter Tryd.func58, Tryd.ntmps58
    go_wp2
    go_ret2
    exact ⟨rfl, rfl⟩
  have HM : Hid (grM op = 0) := by show grM op = 0; simp [grM, h1, h3, h4]
  have HH : Hid (grH op = false) := by show grH op = false; simp [grH, h1, h3, h4]
  have g1 : (op == 1) = false := by simp [h1]
  have g3 : (op == 3) = false := by simp [h3]
  have g4 : (op == 4) = false := by simp [h4]
  clear h1 h3 h4
  go_enter Tryd.func58, Tryd.ntmps58
  go_wp2
  go_ret2
  exact ⟨by rw [HM.out, HH.out]; rfl, rfl⟩
def namB (op : Int) : Bool := op == 2 || op == 3 || op == 7
set_option maxRecDepth 100000 in
theorem tNamed_any (op : Int) (H : Bool) (hH : namB op = H) (w : World) : Calls Tryd.prog 60 #[.int .i64 op] w fun e w' => e = .returned (.bool H) ∧ w = w' := by
  subst hH
  by_cases h2 : op = 2
  · subst h2
    go_enter Tryd.func60, Tryd.ntmps60
    go_wp2
    go_ret
    exact ⟨rfl, rfl⟩
  by_cases h3 : op = 3
  · subst h3
    go_enter Tryd.func60, Tryd.ntmps60
    go_wp2
    go_ret
    exact ⟨rfl, rfl⟩
  by_cases h7 : op = 7
  · subst h7
    go_enter Tryd.func60, Tryd.ntmps60
    go_wp2
    go_ret
    exact ⟨rfl, rfl⟩
  have HH : Hid (namB op = false) := by show namB op = false; simp [namB, h2, h3, h7]
  have g1 : (op == 2) = false := by simp [h2]
  have g3 : (op == 3) = false := by simp [h3]
  have g4 : (op == 7) = false := by simp [h7]
  clear h2 h3 h7
  go_enter Tryd.func60, Tryd.ntmps60
  go_wp2
  go_ret
  exact ⟨by rw [HH.out]; rfl, rfl⟩
def exB (op : Int) : Bool := decide (1 ≤ op) && decide (op ≤ 6)
set_option maxRecDepth 100000 in
theorem tExpr_any (op : Int) (w : World) : Calls Tryd.prog 62 #[.int .i64 op] w fun e w' => e = .returned (.bool (exB op)) ∧ w = w' := by
  by_cases h1 : 1 ≤ op
  · by_cases h6 : op ≤ 6
    · have HH : Hid (exB op = true) := by show exB op = true; simp [exB, h1, h6]
      go_enter Tryd.func62, Tryd.ntmps62
      go_wp2
      go_ret
      exact ⟨by rw [HH.out]; rfl, rfl⟩
    · have HH : Hid (exB op = false) := by show exB op = false; simp [exB, h6]
      go_enter Tryd.func62, Tryd.ntmps62
      go_wp2
      go_ret
      exact ⟨by rw [HH.out]; rfl, rfl⟩
  · have HH : Hid (exB op = false) := by show exB op = false; simp [exB, h1]
    go_enter Tryd.func62, Tryd.ntmps62
    go_wp2
    go_ret
    exact ⟨by rw [HH.out]; rfl, rfl⟩

set_option maxRecDepth 100000 in
set_option maxHeartbeats 8000000 in
theorem tNode_any (x : Td) (w : World) (hs : x.tx.size ≤ 140737488351232) : Calls Tryd.prog 44 #[tdV x] w fun e w' => e = .returned (errN (nodT x)) ∧ Below w.heap.size w w' := by
  obtain ⟨op, tx, n⟩ := x
  have hs : tx.size ≤ 140737488351232 := hs
  have hb : ∀ O : Obj, Below w.heap.size w (w.alloc O) := fun O => (Below.refl _ w).alloc (Nat.le_refl _) O
  by_cases h0 : op < 1
  · have HE : Hid (nodT ⟨op, tx, n⟩ = 1) := nodT_0 h0
    have hg1 : grM op = 0 := by unfold grM; rw [if_neg (by omega), if_neg (by omega)]
    have hg2 : grH op = false := decide_eq_false (by omega)
    go_enter Tryd.func44, Tryd.ntmps44
    go_wp2_with fail
    refine (tGreat_any op 0 false hg1 hg2 _).mono ?_
    rintro e w2 ⟨rfl, rfl⟩
    go_wp2
    go_ret
    exact ⟨by rw [HE.out]; rfl, hb _⟩
  by_cases h1 : 9 < op
  · have HE : Hid (nodT ⟨op, tx, n⟩ = 1) := nodT_1 h0 h1
    have hg1 : grM op = 0 := by unfold grM; rw [if_neg (by omega), if_neg (by omega)]
    have hg2 : grH op = false := decide_eq_false (by omega)
    go_enter Tryd.func44, Tryd.ntmps44
    go_wp2_with fail
    refine (tGreat_any op 0 false hg1 hg2 _).mono ?_
    rintro e w2 ⟨rfl, rfl⟩
    go_wp2
    go_ret
    exact ⟨by rw [HE.out]; rfl, hb _⟩
  have hop : op = 1 ∨ op = 2 ∨ op = 3 ∨ op = 4 ∨ op = 5 ∨ op = 6 ∨ op = 7 ∨ op = 8 ∨ op = 9 := by omega
  clear h0 h1
  rcases hop with rfl | rfl | rfl | rfl | rfl | rfl | rfl | rfl | rfl
  · by_cases h0 : n < 0
    · have HE : Hid (nodT ⟨1, tx, n⟩ = 1) := nodT_2 h0
      go_enter Tryd.func44, Tryd.ntmps44
      go_wp2_with fail
      refine (tGreat_any 1 999999 true rfl rfl _).mono ?_
      rintro e w2 ⟨rfl, rfl⟩
      go_wp2
      go_ret
      exact ⟨by rw [HE.out]; rfl, hb _⟩
    · by_cases h1 : 999999 < n
      · have HE : Hid (nodT ⟨1, tx, n⟩ = 1) := nodT_3 h0 h1
        go_enter Tryd.func44, Tryd.ntmps44
        go_wp2_with fail
        refine (tGreat_any 1 999999 true rfl rfl _).mono ?_
        rintro e w2 ⟨rfl, rfl⟩
        go_wp2
        go_ret
        exact ⟨by rw [HE.out]; rfl, hb _⟩
      · by_cases h2 : 0 < (tx.size : Int)
        · have HE : Hid (nodT ⟨1, tx, n⟩ = 2) := nodT_4 h0 h1 h2
          have q1 := size_ne h2
          have q2 : (tx.toList != []) = true := by simp [bne, q1]
          go_enter Tryd.func44, Tryd.ntmps44
          go_wp2_with fail
          refine (tGreat_any 1 999999 true rfl rfl _).mono ?_
          rintro e w2 ⟨rfl, rfl⟩
          go_wp2_with fail
          refine (tNamed_any 1 false rfl _).mono ?_
          rintro e w2 ⟨rfl, rfl⟩
          go_wp2
          go_ret
          exact ⟨by rw [HE.out]; rfl, hb _⟩
        · have HE : Hid (nodT ⟨1, tx, n⟩ = 0) := nodT_5 h0 h1 h2
          have e0 := size_eq0 h2
          subst e0
          go_enter Tryd.func44, Tryd.ntmps44
          go_wp2_with fail
          refine (tGreat_any 1 999999 true rfl rfl _).mono ?_
          rintro e w2 ⟨rfl, rfl⟩
          go_wp2_with fail
          refine (tNamed_any 1 false rfl _).mono ?_
          rintro e w2 ⟨rfl, rfl⟩
          go_wp2_with fail
          refine (tNamed_any 1 false rfl _).mono ?_
          rintro e w2 ⟨rfl, rfl⟩
          go_wp2
          go_ret
          exact ⟨by rw [HE.out]; rfl, hb _⟩
  · by_cases h0 : n = 0
    · cases h1 : nameT tx with
      | true =>
        have HE : Hid (nodT ⟨2, tx, n⟩ = 0) := nodT_7 h0 h1
        subst h0
        have HM : Hid (nameT tx = true) := h1
        clear h1
        go_enter Tryd.func44, Tryd.ntmps44
        go_wp2_with fail
        refine (tGreat_any 2 0 false rfl rfl _).mono ?_
        rintro e w2 ⟨rfl, rfl⟩
        go_wp2_with fail
        refine (tNamed_any 2 true rfl _).mono ?_
        rintro e w2 ⟨rfl, rfl⟩
        go_wp2_with fail
        refine (tNamed_any 2 true rfl _).mono ?_
        rintro e w2 ⟨rfl, rfl⟩
        go_wp2_with fail
        refine (tIsName_any tx _).mono ?_
        rintro e w2 ⟨rfl, rfl⟩
        rw [HM.out]
        go_wp2
        go_ret
        exact ⟨by rw [HE.out]; rfl, hb _⟩
      | false =>
        have HE : Hid (nodT ⟨2, tx, n⟩ = 5) := nodT_8 h0 h1
        subst h0
        have HM : Hid (nameT tx = false) := h1
        clear h1
        go_enter Tryd.func44, Tryd.ntmps44
        go_wp2_with fail
        refine (tGreat_any 2 0 false rfl rfl _).mono ?_
        rintro e w2 ⟨rfl, rfl⟩
        go_wp2_with fail
        refine (tNamed_any 2 true rfl _).mono ?_
        rintro e w2 ⟨rfl, rfl⟩
        go_wp2_with fail
        refine (tNamed_any 2 true rfl _).mono ?_
        rintro e w2 ⟨rfl, rfl⟩
        go_wp2_with fail
        refine (tIsName_any tx _).mono ?_
        rintro e w2 ⟨rfl, rfl⟩
        rw [HM.out]
        go_wp2
        go_ret
        exact ⟨by rw [HE.out]; rfl, hb _⟩
    · have HE : Hid (nodT ⟨2, tx, n⟩ = 2) := nodT_6 h0
      have q3 : (n == 0) = false := by simp [h0]
      have q4 : (n != 0) = true := by simp [h0]
      go_enter Tryd.func44, Tryd.ntmps44
      go_wp2_with fail
      refine (tGreat_any 2 0 false rfl rfl _).mono ?_
      rintro e w2 ⟨rfl, rfl⟩
      go_wp2
      go_ret
      exact ⟨by rw [HE.out]; rfl, hb _⟩
  · by_cases h0 : n < 0
    · have HE : Hid (nodT ⟨3, tx, n⟩ = 1) := nodT_9 h0
      go_enter Tryd.func44, Tryd.ntmps44
      go_wp2_with fail
      refine (tGreat_any 3 6 true rfl rfl _).mono ?_
      rintro e w2 ⟨rfl, rfl⟩
      go_wp2
      go_ret
      exact ⟨by rw [HE.out]; rfl, hb _⟩
    · by_cases h1 : 6 < n
      · have HE : Hid (nodT ⟨3, tx, n⟩ = 1) := nodT_10 h0 h1
        go_enter Tryd.func44, Tryd.ntmps44
        go_wp2_with fail
        refine (tGreat_any 3 6 true rfl rfl _).mono ?_
        rintro e w2 ⟨rfl, rfl⟩
        go_wp2
        go_ret
        exact ⟨by rw [HE.out]; rfl, hb _⟩
      · cases h2 : nameT tx with
        | true =>
          have HE : Hid (nodT ⟨3, tx, n⟩ = 0) := nodT_11 h0 h1 h2
          have HM : Hid (nameT tx = true) := h2
          clear h2
          go_enter Tryd.func44, Tryd.ntmps44
          go_wp2_with fail
          refine (tGreat_any 3 6 true rfl rfl _).mono ?_
          rintro e w2 ⟨rfl, rfl⟩
          go_wp2_with fail
          refine (tNamed_any 3 true rfl _).mono ?_
          rintro e w2 ⟨rfl, rfl⟩
          go_wp2_with fail
          refine (tNamed_any 3 true rfl _).mono ?_
          rintro e w2 ⟨rfl, rfl⟩
          go_wp2_with fail
          refine (tIsName_any tx _).mono ?_
          rintro e w2 ⟨rfl, rfl⟩
          rw [HM.out]
          go_wp2
          go_ret
          exact ⟨by rw [HE.out]; rfl, hb _⟩
        | false =>
          have HE : Hid (nodT ⟨3, tx, n⟩ = 5) := nodT_12 h0 h1 h2
          have HM : Hid (nameT tx = false) := h2
          clear h2
          go_enter Tryd.func44, Tryd.ntmps44
          go_wp2_with fail
          refine (tGreat_any 3 6 true rfl rfl _).mono ?_
          rintro e w2 ⟨rfl, rfl⟩
          go_wp2_with fail
          refine (tNamed_any 3 true rfl _).mono ?_
          rintro e w2 ⟨rfl, rfl⟩
          go_wp2_with fail
          refine (tNamed_any 3 true rfl _).mono ?_
          rintro e w2 ⟨rfl, rfl⟩
          go_wp2_with fail
          refine (tIsName_any tx _).mono ?_
          rintro e w2 ⟨rfl, rfl⟩
          rw [HM.out]
          go_wp2
          go_ret
          exact ⟨by rw [HE.out]; rfl, hb _⟩
  · by_cases h0 : n < 0
    · have HE : Hid (nodT ⟨4, tx, n⟩ = 1) := nodT_13 h0
      go_enter Tryd.func44, Tryd.ntmps44
      go_wp2_with fail
      refine (tGreat_any 4 6 true rfl rfl _).mono ?_
      rintro e w2 ⟨rfl, rfl⟩
      go_wp2
      go_ret
      exact ⟨by rw [HE.out]; rfl, hb _⟩
    · by_cases h1 : 6 < n
      · have HE : Hid (nodT ⟨4, tx, n⟩ = 1) := nodT_14 h0 h1
        go_enter Tryd.func44, Tryd.ntmps44
        go_wp2_with fail
        refine (tGreat_any 4 6 true rfl rfl _).mono ?_
        rintro e w2 ⟨rfl, rfl⟩
        go_wp2
        go_ret
        exact ⟨by rw [HE.out]; rfl, hb _⟩
      · by_cases h2 : 0 < (tx.size : Int)
        · have HE : Hid (nodT ⟨4, tx, n⟩ = 2) := nodT_15 h0 h1 h2
          have q1 := size_ne h2
          have q2 : (tx.toList != []) = true := by simp [bne, q1]
          go_enter Tryd.func44, Tryd.ntmps44
          go_wp2_with fail
          refine (tGreat_any 4 6 true rfl rfl _).mono ?_
          rintro e w2 ⟨rfl, rfl⟩
          go_wp2_with fail
          refine (tNamed_any 4 false rfl _).mono ?_
          rintro e w2 ⟨rfl, rfl⟩
          go_wp2
          go_ret
          exact ⟨by rw [HE.out]; rfl, hb _⟩
        · have HE : Hid (nodT ⟨4, tx, n⟩ = 0) := nodT_16 h0 h1 h2
          have e0 := size_eq0 h2
          subst e0
          go_enter Tryd.func44, Tryd.ntmps44
          go_wp2_with fail
          refine (tGreat_any 4 6 true rfl rfl _).mono ?_
          rintro e w2 ⟨rfl, rfl⟩
          go_wp2_with fail
          refine (tNamed_any 4 false rfl _).mono ?_
          rintro e w2 ⟨rfl, rfl⟩
          go_wp2_with fail
          refine (tNamed_any 4 false rfl _).mono ?_
          rintro e w2 ⟨rfl, rfl⟩
          go_wp2
          go_ret
          exact ⟨by rw [HE.out]; rfl, hb _⟩
  · by_cases h0 : n = 0
    · by_cases h1 : 0 < (tx.size : Int)
      · have HE : Hid (nodT ⟨5, tx, n⟩ = 2) := nodT_18 h0 h1
        subst h0
        have q1 := size_ne h1
        have q2 : (tx.toList != []) = true := by simp [bne, q1]
        go_enter Tryd.func44, Tryd.ntmps44
        go_wp2_with fail
        refine (tGreat_any 5 0 false rfl rfl _).mono ?_
        rintro e w2 ⟨rfl, rfl⟩
        go_wp2_with fail
        refine (tNamed_any 5 false rfl _).mono ?_
        rintro e w2 ⟨rfl, rfl⟩
        go_wp2
        go_ret
        exact ⟨by rw [HE.out]; rfl, hb _⟩
      · have HE : Hid (nodT ⟨5, tx, n⟩ = 0) := nodT_19 h0 h1
        subst h0
        have e0 := size_eq0 h1
        subst e0
        go_enter Tryd.func44, Tryd.ntmps44
        go_wp2_with fail
        refine (tGreat_any 5 0 false rfl rfl _).mono ?_
        rintro e w2 ⟨rfl, rfl⟩
        go_wp2_with fail
        refine (tNamed_any 5 false rfl _).mono ?_
        rintro e w2 ⟨rfl, rfl⟩
        go_wp2_with fail
        refine (tNamed_any 5 false rfl _).mono ?_
        rintro e w2 ⟨rfl, rfl⟩
        go_wp2
        go_ret
        exact ⟨by rw [HE.out]; rfl, hb _⟩
    · have HE : Hid (nodT ⟨5, tx, n⟩ = 2) := nodT_17 h0
      have q3 : (n == 0) = false := by simp [h0]
      have q4 : (n != 0) = true := by simp [h0]
      go_enter Tryd.func44, Tryd.ntmps44
      go_wp2_with fail
      refine (tGreat_any 5 0 false rfl rfl _).mono ?_
      rintro e w2 ⟨rfl, rfl⟩
      go_wp2
      go_ret
      exact ⟨by rw [HE.out]; rfl, hb _⟩
  · by_cases h0 : n = 0
    · by_cases h1 : 0 < (tx.size : Int)
      · have HE : Hid (nodT ⟨6, tx, n⟩ = 2) := nodT_21 h0 h1
        subst h0
        have q1 := size_ne h1
        have q2 : (tx.toList != []) = true := by simp [bne, q1]
        go_enter Tryd.func44, Tryd.ntmps44
        go_wp2_with fail
        refine (tGreat_any 6 0 false rfl rfl _).mono ?_
        rintro e w2 ⟨rfl, rfl⟩
        go_wp2_with fail
        refine (tNamed_any 6 false rfl _).mono ?_
        rintro e w2 ⟨rfl, rfl⟩
        go_wp2
        go_ret
        exact ⟨by rw [HE.out]; rfl, hb _⟩
      · have HE : Hid (nodT ⟨6, tx, n⟩ = 0) := nodT_22 h0 h1
        subst h0
        have e0 := size_eq0 h1
        subst e0
        go_enter Tryd.func44, Tryd.ntmps44
        go_wp2_with fail
        refine (tGreat_any 6 0 false rfl rfl _).mono ?_
        rintro e w2 ⟨rfl, rfl⟩
        go_wp2_with fail
        refine (tNamed_any 6 false rfl _).mono ?_
        rintro e w2 ⟨rfl, rfl⟩
        go_wp2_with fail
        refine (tNamed_any 6 false rfl _).mono ?_
        rintro e w2 ⟨rfl, rfl⟩
        go_wp2
        go_ret
        exact ⟨by rw [HE.out]; rfl, hb _⟩
    · have HE : Hid (nodT ⟨6, tx, n⟩ = 2) := nodT_20 h0
      have q3 : (n == 0) = false := by simp [h0]
      have q4 : (n != 0) = true := by simp [h0]
      go_enter Tryd.func44, Tryd.ntmps44
      go_wp2_with fail
      refine (tGreat_any 6 0 false rfl rfl _).mono ?_
      rintro e w2 ⟨rfl, rfl⟩
      go_wp2
      go_ret
      exact ⟨by rw [HE.out]; rfl, hb _⟩
  · by_cases h0 : n = 0
    · cases h1 : nameT tx with
      | true =>
        have HE : Hid (nodT ⟨7, tx, n⟩ = 0) := nodT_24 h0 h1
        subst h0
        have HM : Hid (nameT tx = true) := h1
        clear h1
        go_enter Tryd.func44, Tryd.ntmps44
        go_wp2_with fail
        refine (tGreat_any 7 0 false rfl rfl _).mono ?_
        rintro e w2 ⟨rfl, rfl⟩
        go_wp2_with fail
        refine (tNamed_any 7 true rfl _).mono ?_
        rintro e w2 ⟨rfl, rfl⟩
        go_wp2_with fail
        refine (tNamed_any 7 true rfl _).mono ?_
        rintro e w2 ⟨rfl, rfl⟩
        go_wp2_with fail
        refine (tIsName_any tx _).mono ?_
        rintro e w2 ⟨rfl, rfl⟩
        rw [HM.out]
        go_wp2
        go_ret
        exact ⟨by rw [HE.out]; rfl, hb _⟩
      | false =>
        have HE : Hid (nodT ⟨7, tx, n⟩ = 5) := nodT_25 h0 h1
        subst h0
        have HM : Hid (nameT tx = false) := h1
        clear h1
        go_enter Tryd.func44, Tryd.ntmps44
        go_wp2_with fail
        refine (tGreat_any 7 0 false rfl rfl _).mono ?_
        rintro e w2 ⟨rfl, rfl⟩
        go_wp2_with fail
        refine (tNamed_any 7 true rfl _).mono ?_
        rintro e w2 ⟨rfl, rfl⟩
        go_wp2_with fail
        refine (tNamed_any 7 true rfl _).mono ?_
        rintro e w2 ⟨rfl, rfl⟩
        go_wp2_with fail
        refine (tIsName_any tx _).mono ?_
        rintro e w2 ⟨rfl, rfl⟩
        rw [HM.out]
        go_wp2
        go_ret
        exact ⟨by rw [HE.out]; rfl, hb _⟩
    · have HE : Hid (nodT ⟨7, tx, n⟩ = 2) := nodT_23 h0
      have q3 : (n == 0) = false := by simp [h0]
      have q4 : (n != 0) = true := by simp [h0]
      go_enter Tryd.func44, Tryd.ntmps44
      go_wp2_with fail
      refine (tGreat_any 7 0 false rfl rfl _).mono ?_
      rintro e w2 ⟨rfl, rfl⟩
      go_wp2
      go_ret
      exact ⟨by rw [HE.out]; rfl, hb _⟩
  · by_cases h0 : n = 0
    · by_cases h1 : 0 < (tx.size : Int)
      · have HE : Hid (nodT ⟨8, tx, n⟩ = 2) := nodT_27 h0 h1
        subst h0
        have q1 := size_ne h1
        have q2 : (tx.toList != []) = true := by simp [bne, q1]
        go_enter Tryd.func44, Tryd.ntmps44
        go_wp2_with fail
        refine (tGreat_any 8 0 false rfl rfl _).mono ?_
        rintro e w2 ⟨rfl, rfl⟩
        go_wp2_with fail
        refine (tNamed_any 8 false rfl _).mono ?_
        rintro e w2 ⟨rfl, rfl⟩
        go_wp2
        go_ret
        exact ⟨by rw [HE.out]; rfl, hb _⟩
      · have HE : Hid (nodT ⟨8, tx, n⟩ = 0) := nodT_28 h0 h1
        subst h0
        have e0 := size_eq0 h1
        subst e0
        go_enter Tryd.func44, Tryd.ntmps44
        go_wp2_with fail
        refine (tGreat_any 8 0 false rfl rfl _).mono ?_
        rintro e w2 ⟨rfl, rfl⟩
        go_wp2_with fail
        refine (tNamed_any 8 false rfl _).mono ?_
        rintro e w2 ⟨rfl, rfl⟩
        go_wp2_with fail
        refine (tNamed_any 8 false rfl _).mono ?_
        rintro e w2 ⟨rfl, rfl⟩
        go_wp2
        go_ret
        exact ⟨by rw [HE.out]; rfl, hb _⟩
    · have HE : Hid (nodT ⟨8, tx, n⟩ = 2) := nodT_26 h0
      have q3 : (n == 0) = false := by simp [h0]
      have q4 : (n != 0) = true := by simp [h0]
      go_enter Tryd.func44, Tryd.ntmps44
      go_wp2_with fail
      refine (tGreat_any 8 0 false rfl rfl _).mono ?_
      rintro e w2 ⟨rfl, rfl⟩
      go_wp2
      go_ret
      exact ⟨by rw [HE.out]; rfl, hb _⟩
  · by_cases h0 : n = 0
    · have HE : Hid (nodT ⟨9, tx, n⟩ = noteF tx) := by
        show _ = _
        by_cases h : noteF tx = 0
        · rw [nodT_30 h0 h, h]
        · exact nodT_31 h0 h
      subst h0
      go_enter Tryd.func44, Tryd.ntmps44
      go_wp2_with fail
      refine (tGreat_any 9 0 false rfl rfl _).mono ?_
      rintro e w2 ⟨rfl, rfl⟩
      go_wp2_with fail
      refine (tWords_any tx _ hs).mono ?_
      rintro e w2 ⟨A, ws, c, rfl, hW, hE, b2⟩
      have B2 : Below w.heap.size w w2 := belowA (Below.refl _ _) (Nat.le_refl _) b2
      clear b2
      go_wp2_with fail
      refine (xCheck_any ws A c _ hW).mono ?_
      rintro e w3 ⟨rfl, rfl⟩
      rw [hE, ← HE.out]
      go_wp2
      go_ret
      exact ⟨rfl, B2⟩
    · have HE : Hid (nodT ⟨9, tx, n⟩ = 2) := nodT_29 h0
      have q3 : (n == 0) = false := by simp [h0]
      have q4 : (n != 0) = true := by simp [h0]
      go_enter Tryd.func44, Tryd.ntmps44
      go_wp2_with fail
      refine (tGreat_any 9 0 false rfl rfl _).mono ?_
      rintro e w2 ⟨rfl, rfl⟩
      go_wp2
      go_ret
      exact ⟨by rw [HE.out]; rfl, hb _⟩
end Go.Proofs.YtianemmgaiblgabDoor
