/- Statements by the document: Kids, EndOf, IsName, NoteWords. -/
import Derived.Test.YtianemmgaiblgabDoorTreM
import Derived.Test.YtianemmgaiblgabDoorRLow
import Derived.Test.YtianemmgaiblgabDoorRowO
namespace Go.Proofs.YtianemmgaiblgabDoor
open Go Go.RowKit

set_option maxRecDepth 100000 in
set_option maxHeartbeats 1000000 in
theorem r2Kids_any (x : Td) (w : World) : Calls Tryd.prog 22 #[tdV x] w fun e w' => e = .returned (.int .i64 (kdZ x)) ∧ Below w.heap.size w w' := by
  obtain ⟨op, tx, n⟩ := x
  have hb : ∀ O : Obj, Below w.heap.size w (w.alloc O) := fun O => (Below.refl _ w).alloc (Nat.le_refl _) O
  by_cases h3 : op = 3
  · subst h3
    go_enter Tryd.func22, Tryd.ntmps22
    go_wp2
    go_ret
    exact ⟨by simp [kdZ], hb _⟩
  by_cases h4 : op = 4
  · subst h4
    go_enter Tryd.func22, Tryd.ntmps22
    go_wp2
    go_ret
    exact ⟨by simp [kdZ], hb _⟩
  by_cases h5 : op = 5
  · subst h5
    go_enter Tryd.func22, Tryd.ntmps22
    go_wp2
    go_ret
    exact ⟨by simp [kdZ, kdT], hb _⟩
  by_cases h6 : op = 6
  · subst h6
    go_enter Tryd.func22, Tryd.ntmps22
    go_wp2
    go_ret
    exact ⟨by simp [kdZ, kdT], hb _⟩
  by_cases h7 : op = 7
  · subst h7
    go_enter Tryd.func22, Tryd.ntmps22
    go_wp2
    go_ret
    exact ⟨by simp [kdZ, kdT], hb _⟩
  by_cases h8 : op = 8
  · subst h8
    go_enter Tryd.func22, Tryd.ntmps22
    go_wp2
    go_ret
    exact ⟨by simp [kdZ, kdT], hb _⟩
  have HE : Hid (kdZ ⟨op, tx, n⟩ = 0) := by show kdZ ⟨op, tx, n⟩ = 0; simp [kdZ, kdT, h3, h4, h5, h6, h7, h8]
  have g3 : (op == 3) = false := by simp [h3]
  have g4 : (op == 4) = false := by simp [h4]
  have g5 : (op == 5) = false := by simp [h5]
  have g6 : (op == 6) = false := by simp [h6]
  have g7 : (op == 7) = false := by simp [h7]
  have g8 : (op == 8) = false := by simp [h8]
  clear h3 h4 h5 h6 h7 h8
  go_enter Tryd.func22, Tryd.ntmps22
  go_wp2
  go_ret
  exact ⟨by rw [HE.out]; rfl, hb _⟩

set_option maxRecDepth 100000 in
set_option maxHeartbeats 2000000 in
theorem r2EndOf_any (ds : List Td) (a : Option Addr) (cap : Nat) (hl : ds.length ≤ 400) (hk : ∀ x ∈ ds, nodT x = 0) : ∀ (f i : Nat) (w : World), Tds w a ds → ds.length - i < f → i ≤ 1000 →
    Calls Tryd.prog 23 #[.slice a ds.length cap, .int .i64 i] w fun e w' => e = .returned (.int .i64 (endTZ (endT ds i 1))) ∧ Below w.heap.size w w' := by
  have HK : Hid (∀ x ∈ ds, nodT x = 0) := hk
  clear hk
  intro f
  induction f with
  | zero => intro i w _ h; omega
  | succ f ih =>
    intro i w hN hf hi
    have HN : Hid (Tds w a ds) := hN
    have IH : Hid (∀ (i : Nat) (w : World), Tds w a ds → ds.length - i < f → i ≤ 1000 →
      Calls Tryd.prog 23 #[.slice a ds.length cap, .int .i64 i] w fun e w' => e = .returned (.int .i64 (endTZ (endT ds i 1))) ∧ Below w.heap.size w w') := ih
    clear hN ih
    by_cases hlt : i < ds.length
    · obtain ⟨b, o, ea, hb, c1, c2, c3⟩ := HN.out i hlt
      have HS : Hid (endT ds i 1 = endT ds (i + 1) (kdT ds[i])) := endT_step _ _ 0 hlt
      have hp := kdT_le (HK.out _ (List.getElem_mem hlt))
      have HP : Hid (kdZ ds[i] = (kdT ds[i] : Int)) := kdZ_ok (HK.out _ (List.getElem_mem hlt))
      have hii : (i : Int) < (ds.length : Int) := by omega
      have hge : ¬ (ds.length : Int) ≤ (i : Int) := by omega
      subst ea
      generalize ds[i] = x at c1 c2 c3 HS hp HP
      generalize hpp : kdT x = p at HS hp HP
      clear hpp
      obtain ⟨xo, xt, xn⟩ := x
      have HKD : Hid (∀ W : World, Calls Tryd.prog 22 #[.agg #[.int .i64 xo, .string xt, .int .i64 xn]] W fun e w' => e = .returned (.int .i64 (p : Int)) ∧ Below W.heap.size W w') := fun W => by
        have := r2Kids_any ⟨xo, xt, xn⟩ W
        rw [HP.out] at this
        exact this
      clear HP
      go_enter Tryd.func23, Tryd.ntmps23
      go_wp2_with fail
      refine (HKD.out _).mono ?_
      rintro e w1 ⟨rfl, b1⟩
      go_wp2_with fail
      go_loopw [1, 5] (fun z m wr => Below w.heap.size w wr ∧ ∃ q : Nat, q ≤ 6 ∧ m = .int .i64 q ∧ ((∃ k : Nat, i < k ∧ k ≤ ds.length ∧ z = .int .i64 k ∧ endT ds i 1 = endT ds k q) ∨ (z = .int .i64 (-1) ∧ endT ds i 1 = none))) (fun _ m _ => (intOf m).toNat)
      case atStart => exact ⟨b1, p, hp, rfl, .inl ⟨i + 1, by omega, by omega, by go_num, HS.out⟩⟩
      case round =>
        obtain ⟨hbr, q, hq, rfl, ⟨k, hk1, hk2, rfl, he⟩ | ⟨rfl, he⟩⟩ := hrel
        · have HE : Hid (endT ds i 1 = endT ds k q) := he
          have HBR : Hid (Below w.heap.size w wr) := hbr
          clear he hbr
          by_cases h0 : q = 0
          · subst h0
            have HE' : Hid (endT ds i 1 = some k) := HE.out.trans (endT_zero _ _)
            go_wp2
            go_ret
            exact ⟨by rw [HE'.out]; rfl, HBR.out⟩
          · obtain ⟨q', rfl⟩ : ∃ q', q = q' + 1 := ⟨q - 1, by omega⟩
            have HA : Hid (endT ds i 1 = (endT ds k 1).bind fun j => endT ds j q') := HE.out.trans (by rw [Nat.add_comm q' 1, endT_add])
            clear h0
            go_wp2_with fail
            refine (IH.out k _ (HN.out.below HBR.out) (by omega) (by omega)).mono ?_
            rintro e w2 ⟨rfl, b2⟩
            have HB2 : Hid (Below w.heap.size w w2) := belowT HBR.out (Nat.le_refl _) b2
            clear b2
            go_wp2
            go_roundw
            case rel =>
              refine ⟨HB2.out, q', by omega, by go_num, ?_⟩
              cases hj : endT ds k 1 with
              | none => exact .inr ⟨rfl, by rw [HA.out, hj]; rfl⟩
              | some j =>
                have hjb := endT_bd hj
                exact .inl ⟨j, by omega, by omega, rfl, by rw [HA.out, hj]; rfl⟩
            case measure => simp [intOf]
        · have HE : Hid (endT ds i 1 = none) := he
          have HBR : Hid (Below w.heap.size w wr) := hbr
          clear he hbr
          by_cases h0 : q = 0
          · subst h0
            go_wp2
            go_ret
            exact ⟨by rw [HE.out]; rfl, HBR.out⟩
          · go_wp2
            go_ret
            exact ⟨by rw [HE.out]; rfl, HBR.out⟩
    · have HE : Hid (endT ds i 1 = none) := endT_out _ _ _ (by omega)
      have hge : (ds.length : Int) ≤ (i : Int) := by omega
      go_enter Tryd.func23, Tryd.ntmps23
      go_wp2
      go_ret
      exact ⟨by rw [HE.out]; rfl, Below.refl _ _⟩
end Go.Proofs.YtianemmgaiblgabDoor
