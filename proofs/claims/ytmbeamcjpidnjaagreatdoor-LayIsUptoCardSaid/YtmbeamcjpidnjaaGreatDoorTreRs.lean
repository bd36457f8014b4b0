/- Some texts as one: RLow, TreR, TreS. -/
import Derived.Test.YtmbeamcjpidnjaaGreatDoorLexPs
import Derived.Test.YtmbeamcjpidnjaaGreatDoorBase
import Derived.Test.YtmbeamcjpidnjaaGreatDoorMems
import Derived.Test.YtmbeamcjpidnjaaGreatDoorTrePs
namespace Go.Proofs.YtmbeamcjpidnjaaGreatDoor
open Go Go.RowKit

set_option maxRecDepth 100000 in
theorem rlower_any (c : UInt8) (w : World) : Calls Tryz.prog 67 #[.int .u8 (c.toNat : Int)] w fun e w' => e = .returned (.bool (lowB c)) ∧ w = w' := by
  by_cases h1 : (97 : Int) ≤ (c.toNat : Int)
  · by_cases h2 : (c.toNat : Int) ≤ 122
    · have HE : Hid (lowB c = true) := by show lowB c = true; simp [lowB]; omega
      go_enter Tryz.func67, Tryz.ntmps67
      go_wp2
      go_ret
      exact ⟨by rw [HE.out]; rfl, rfl⟩
    · have HE : Hid (lowB c = false) := by show lowB c = false; simp [lowB]; omega
      go_enter Tryz.func67, Tryz.ntmps67
      go_wp2
      go_ret
      exact ⟨by rw [HE.out]; rfl, rfl⟩
  · have HE : Hid (lowB c = false) := by show lowB c = false; simp [lowB]; omega
    go_enter Tryz.func67, Tryz.ntmps67
    go_wp2
    go_ret
    exact ⟨by rw [HE.out]; rfl, rfl⟩
end Go.Proofs.YtmbeamcjpidnjaaGreatDoor
namespace Go.Proofs.YtmbeamcjpidnjaaGreatDoor
open Go Go.RowKit

set_option maxRecDepth 100000 in
set_option maxHeartbeats 1000000 in
theorem r2Kids_any (x : Td) (w : World) : Calls Tryz.prog 80 #[tdV x] w fun e w' => e = .returned (.int .i64 (kdZ x)) ∧ Below w.heap.size w w' := by
  obtain ⟨op, tx, n⟩ := x
  have hb : ∀ O : Obj, Below w.heap.size w (w.alloc O) := fun O => (Below.refl _ w).alloc (Nat.le_refl _) O
  by_cases h3 : op = 3
  · subst h3
    go_enter Tryz.func80, Tryz.ntmps80
    go_wp2
    go_ret
    exact ⟨by simp [kdZ], hb _⟩
  by_cases h4 : op = 4
  · subst h4
    go_enter Tryz.func80, Tryz.ntmps80
    go_wp2
    go_ret
    exact ⟨by simp [kdZ], hb _⟩
  by_cases h5 : op = 5
  · subst h5
    go_enter Tryz.func80, Tryz.ntmps80
    go_wp2
    go_ret
    exact ⟨by simp [kdZ, kdT], hb _⟩
  by_cases h6 : op = 6
  · subst h6
    go_enter Tryz.func80, Tryz.ntmps80
    go_wp2
    go_ret
    exact ⟨by simp [kdZ, kdT], hb _⟩
  by_cases h7 : op = 7
  · subst h7
    go_enter Tryz.func80, Tryz.ntmps80
    go_wp2
    go_ret
    exact ⟨by simp [kdZ, kdT], hb _⟩
  by_cases h8 : op = 8
  · subst h8
    go_enter Tryz.func80, Tryz.ntmps80
    go_wp2
    go_ret
    exact ⟨by simp [kdZ, kdT], hb _⟩
  have HE : Hid (kdZ ⟨op, tx, n⟩ = 0) := by show kdZ ⟨op, tx, n⟩ = 0; simp [kdZ, kdT, h3, h4, h5, h6, h7, h8]
  have g3 : (op == 3) = false := by simp [h3]
  have g4 : (op == 4) = false := by simp [h4]
  have g5 : (op == 5) = false := by simp [h5]
  have g6 : (op == 6) = false := by simp [h6]
  have g7 : (op == 7) = false := by simp [h7]
  have g8 : (op == 8) = false := by simp [h8]
  clear h3 h4 h5 h6 h7 h8
  go_enter Tryz.func80, Tryz.ntmps80
  go_wp2
  go_ret
  exact ⟨by rw [HE.out]; rfl, hb _⟩

set_option maxRecDepth 100000 in
set_option maxHeartbeats 2000000 in
theorem r2EndOf_any (ds : List Td) (a : Option Addr) (cap : Nat) (hl : ds.length ≤ 400) (hk : ∀ x ∈ ds, nodT x = 0) : ∀ (f i : Nat) (w : World), Tds w a ds → ds.length - i < f → i ≤ 1000 →
    Calls Tryz.prog 42 #[.slice a ds.length cap, .int .i64 i] w fun e w' => e = .returned (.int .i64 (endTZ (endT ds i 1))) ∧ Below w.heap.size w w' := by
  have HK : Hid (∀ x ∈ ds, nodT x = 0) := hk
  clear hk
  intro f
  induction f with
  | zero => intro i w _ h; omega
  | succ f ih =>
    intro i w hN hf hi
    have HN : Hid (Tds w a ds) := hN
    have IH : Hid (∀ (i : Nat) (w : World), Tds w a ds → ds.length - i < f → i ≤ 1000 →
      Calls Tryz.prog 42 #[.slice a ds.length cap, .int .i64 i] w fun e w' => e = .returned (.int .i64 (endTZ (endT ds i 1))) ∧ Below w.heap.size w w') := ih
    clear hN ih
    by_cases hlt : i < ds.length
    · obtain ⟨b, o, ea, hb, c1, c2, c3⟩ := HN.out i hlt
      have HS : Hid (endT ds i 1 = endT ds (i + 1) (kdT ds[i])) := endT_step _ _ 0 hlt
      have hp := kdT_le (HK.out _ (List.getElem_mem hlt))
      have HP : Hid (kdZ ds[i] = (kdT ds[i] : Int)) := kdZ_ok (HK.out _ (List.getElem_mem hlt))
      have hii : (i : Int) < (ds.length : Int) := by omega
      have hge : ¬ (ds.length : Int) ≤ (i : Int) := by omega
      subst ea
      generalize ds[i] = x at c1 c2 c3 HS hp HP
      generalize hpp : kdT x = p at HS hp HP
      clear hpp
      obtain ⟨xo, xt, xn⟩ := x
      have HKD : Hid (∀ W : World, Calls Tryz.prog 80 #[.agg #[.int .i64 xo, .string xt, .int .i64 xn]] W fun e w' => e = .returned (.int .i64 (p : Int)) ∧ Below W.heap.size W w') := fun W => by
        have := r2Kids_any ⟨xo, xt, xn⟩ W
        rw [HP.out] at this
        exact this
      clear HP
      go_enter Tryz.func42, Tryz.ntmps42
      go_wp2_with fail
      refine (HKD.out _).mono ?_
      rintro e w1 ⟨rfl, b1⟩
      go_wp2_with fail
      go_loopw [1, 5] (fun z m wr => Below w.heap.size w wr ∧ ∃ q : Nat, q ≤ 6 ∧ m = .int .i64 q ∧ ((∃ k : Nat, i < k ∧ k ≤ ds.length ∧ z = .int .i64 k ∧ endT ds i 1 = endT ds k q) ∨ (z = .int .i64 (-1) ∧ endT ds i 1 = none))) (fun _ m _ => (intOf m).toNat)
      case atStart => exact ⟨b1, p, hp, rfl, .inl ⟨i + 1, by omega, by omega, by go_num, HS.out⟩⟩
      case round =>
        obtain ⟨hbr, q, hq, rfl, ⟨k, hk1, hk2, rfl, he⟩ | ⟨rfl, he⟩⟩ := hrel
        · have HE : Hid (endT ds i 1 = endT ds k q) := he
          have HBR : Hid (Below w.heap.size w wr) := hbr
          clear he hbr
          by_cases h0 : q = 0
          · subst h0
            have HE' : Hid (endT ds i 1 = some k) := HE.out.trans (endT_zero _ _)
            go_wp2
            go_ret
            exact ⟨by rw [HE'.out]; rfl, HBR.out⟩
          · obtain ⟨q', rfl⟩ : ∃ q', q = q' + 1 := ⟨q - 1, by omega⟩
            have HA : Hid (endT ds i 1 = (endT ds k 1).bind fun j => endT ds j q') := HE.out.trans (by rw [Nat.add_comm q' 1, endT_add])
            clear h0
            go_wp2_with fail
            refine (IH.out k _ (HN.out.below HBR.out) (by omega) (by omega)).mono ?_
            rintro e w2 ⟨rfl, b2⟩
            have HB2 : Hid (Below w.heap.size w w2) := belowT HBR.out (Nat.le_refl _) b2
            clear b2
            go_wp2
            go_roundw
            case rel =>
              refine ⟨HB2.out, q', by omega, by go_num, ?_⟩
              cases hj : endT ds k 1 with
              | none => exact .inr ⟨rfl, by rw [HA.out, hj]; rfl⟩
              | some j =>
                have hjb := endT_bd hj
                exact .inl ⟨j, by omega, by omega, rfl, by rw [HA.out, hj]; rfl⟩
            case measure => simp [intOf]
        · have HE : Hid (endT ds i 1 = none) := he
          have HBR : Hid (Below w.heap.size w wr) := hbr
          clear he hbr
          by_cases h0 : q = 0
          · subst h0
            go_wp2
            go_ret
            exact ⟨by rw [HE.out]; rfl, HBR.out⟩
          · go_wp2
            go_ret
            exact ⟨by rw [HE.out]; rfl, HBR.out⟩
    · have HE : Hid (endT ds i 1 = none) := endT_out _ _ _ (by omega)
      have hge : (ds.length : Int) ≤ (i : Int) := by omega
      go_enter Tryz.func42, Tryz.ntmps42
      go_wp2
      go_ret
      exact ⟨by rw [HE.out]; rfl, Below.refl _ _⟩
end Go.Proofs.YtmbeamcjpidnjaaGreatDoor
namespace Go.Proofs.YtmbeamcjpidnjaaGreatDoor
open Go Go.RowKit

set_option maxRecDepth 100000 in
set_option maxHeartbeats 1000000 in
theorem rIsName_any (s : ByteArray) (w : World) : Calls Tryz.prog 33 #[.string s] w fun e w' => e = .returned (.bool (nameT s)) ∧ w = w' := by
  by_cases h1 : (s.size : Int) < 1
  · have HE : Hid (nameT s = false) := nameT_short (by omega)
    go_enter Tryz.func33, Tryz.ntmps33
    go_wp2
    go_ret
    exact ⟨by rw [HE.out]; rfl, rfl⟩
  by_cases h2 : 8 < (s.size : Int)
  · have HE : Hid (nameT s = false) := nameT_long (by omega)
    go_enter Tryz.func33, Tryz.ntmps33
    go_wp2
    go_ret
    exact ⟨by rw [HE.out]; rfl, rfl⟩
  by_cases h3 : s = ⟨#[108, 101, 116]⟩
  · subst h3
    go_enter Tryz.func33, Tryz.ntmps33
    go_wp2
    go_ret
    exact ⟨by rfl, rfl⟩
  have HL : Hid (¬ s = ⟨#[108, 101, 116]⟩) := h3
  have hnb : ¬ s.toList = [108, 101, 116] := by
    rw [ByteArray.toList_eq]
    intro e
    exact h3 (let_eq.1 e)
  have hnb2 : (s.toList == [108, 101, 116]) = false := beq_false_of_ne hnb
  have hnb3 : (⟨#[108, 101, 116]⟩ : ByteArray).toList = [108, 101, 116] := by rw [ByteArray.toList_eq]
  clear h3
  go_enter Tryz.func33, Tryz.ntmps33
  go_wp2
  go_loopw [3] (fun i wr => wr = w ∧ ∃ k : Nat, k ≤ s.size ∧ i = .int .i64 k ∧ ∀ j (h : j < s.size), j < k → lowB s[j] = true) (fun i _ => s.size - (intOf i).toNat)
  case atStart => exact ⟨rfl, 0, Nat.zero_le _, rfl, fun j _ hj => by omega⟩
  case round =>
    obtain ⟨rfl, k, hk, rfl, hall⟩ := hrel
    have HA : Hid (∀ j (h : j < s.size), j < k → lowB s[j] = true) := hall
    clear hall
    by_cases hlt : k < s.size
    · cases hb : lowB s[k] with
      | false =>
        have HE : Hid (nameT s = false) := nameT_not hlt hb
        have HB : Hid (lowB s[k] = false) := hb
        clear hb
        go_wp2_with (go_at_call 67; refine (rlower_any _ _).mono ?_; rintro e w2 ⟨rfl, rfl⟩; rw [HB.out])
        go_ret
        exact ⟨by rw [HE.out]; rfl, rfl⟩
      | true =>
        have HB : Hid (lowB s[k] = true) := hb
        have HA' : Hid (∀ j (h : j < s.size), j < k + 1 → lowB s[j] = true) := fun j h hj => by
          by_cases hjk : j = k
          · subst hjk; exact hb
          · exact HA.out j h (by omega)
        clear hb
        go_wp2_with (go_at_call 67; refine (rlower_any _ _).mono ?_; rintro e w2 ⟨rfl, rfl⟩; rw [HB.out])
        go_roundw
        case rel => exact ⟨by trivial, k + 1, by omega, by go_num, HA'.out⟩
        case measure => simp [intOf]; omega
    · have HE : Hid (nameT s = true) := nameT_all (by omega) (by omega) HL.out fun j h => HA.out j h (by omega)
      go_wp2
      go_ret
      exact ⟨by rw [HE.out]; rfl, rfl⟩

theorem tslice_wb (s : ByteArray) (i e : Nat) (h1 : i ≤ e) (h2 : e ≤ s.size) (W : World) : (Instr.slice 9 (.string s) (some (.int .i64 (i : Int))) (some (.int .i64 ((e : Nat) : Int))) none).run Tryz.prog W = .ok (.string (wbS (((btL s).drop i).take (e - i)))) W := by
  have h := run_slice_string (P := Tryz.prog) (w := W) 9 s .i64 .i64 (i : Int) (e : Int) Tryz.underlying9 (by omega) (by omega) (by omega)
  rw [Int.toNat_natCast, Int.toNat_natCast, wbS_ext] at h
  exact h
/-- What NoteWords has found. -/
structure NwAt (s : ByteArray) (w : World) (fr i : Nat) (dn : List (List UInt8)) (A : Option Addr) (c : Nat) (wr : World) : Prop where
  b : Below w.heap.size w wr
  le : fr ≤ i
  li : i ≤ s.size
  ln : dn.length ≤ fr
  no : ∀ j (h : j < s.size), fr ≤ j → j < i → s[j] ≠ 32
  eq : splB (btL s) = dn ++ splB ((btL s).drop fr)
  ro : wr.ownsRow w.heap.size 9 1 (.slice A dn.length c) dn.length (strCells (dn.map wbS))
theorem nw_piece {s : ByteArray} {fr i : Nat} (h : fr ≤ i) (hi : i ≤ s.size) (no : ∀ j (h : j < s.size), fr ≤ j → j < i → s[j] ≠ 32) : ∀ b ∈ ((btL s).drop fr).take (i - fr), b ≠ 32 := by
  intro b hb
  obtain ⟨j, hj, rfl⟩ := List.getElem_of_mem hb
  rw [List.length_take, List.length_drop, btL_len] at hj
  rw [List.getElem_take, List.getElem_drop]
  exact no (fr + j) (by omega) (by omega) (by omega)
theorem nw_split {s : ByteArray} {fr i : Nat} (h : fr ≤ i) (hi : i < s.size) : (btL s).drop fr = ((btL s).drop fr).take (i - fr) ++ s[i] :: (btL s).drop (i + 1) := by
  have h1 := (List.take_append_drop (i - fr) ((btL s).drop fr)).symm
  rw [List.drop_drop, show fr + (i - fr) = i by omega, btL_drop hi] at h1
  exact h1
theorem nw_rest {s : ByteArray} {fr : Nat} : ((btL s).drop fr).take (s.size - fr) = (btL s).drop fr := by
  rw [List.take_of_length_le (by rw [List.length_drop, btL_len]; exact Nat.le_refl _)]

set_option maxRecDepth 100000 in
set_option maxHeartbeats 4000000 in
theorem rNoteWords_any (s : ByteArray) (w : World) (hsz : s.size ≤ 1000000000000) : Calls Tryz.prog 16 #[.string s] w fun e w' => (∃ A c, e = .returned (.slice A (noteW (btL s)).length c) ∧ StrsO w.heap.size (.slice A (noteW (btL s)).length c) ((noteW (btL s)).map wbS) w') ∧ Below w.heap.size w w' := by
  by_cases h0 : s.size = 0
  · have HE : Hid (noteW (btL s) = []) := by
      show noteW (btL s) = []
      rw [noteW, if_pos (List.eq_nil_of_length_eq_zero (by rw [btL_len]; exact h0))]
    have h0i : ((s.size : Int) == 0) = true := beq_iff_eq.2 (by omega)
    clear h0
    go_enter Tryz.func16, Tryz.ntmps16
    go_wp2
    go_ret
    rw [HE.out]
    exact ⟨⟨none, 0, rfl, World.ownsRow_nil _ _ _ _⟩, Below.refl _ _⟩
  · have HE : Hid (noteW (btL s) = splB (btL s)) := by
      show noteW (btL s) = _
      rw [noteW, if_neg]
      intro e
      have := congrArg List.length e
      rw [btL_len, List.length_nil] at this
      exact h0 this
    have h0i : ((s.size : Int) == 0) = false := beq_false_of_ne (by omega)
    clear h0
    obtain ⟨i0, hi0, hz0, hz1, hz2⟩ := info_parts strInf
    go_enter Tryz.func16, Tryz.ntmps16
    go_wp2
    go_loopw [3, 4, 5] (fun x f i wr => ∃ (fr k : Nat) (dn : List (List UInt8)) (A : Option Addr) (c : Nat), x = .slice A dn.length c ∧ f = .int .i64 (fr : Int) ∧ i = .int .i64 (k : Int) ∧ NwAt s w fr k dn A c wr) (fun _ _ i _ => s.size - (intOf i).toNat)
    case atStart => exact ⟨0, 0, [], none, 0, rfl, rfl, rfl, { b := Below.refl _ _, le := Nat.le_refl _, li := Nat.zero_le _, ln := Nat.le_refl _, no := fun j _ _ h => by omega, eq := rfl, ro := World.ownsRow_nil _ _ _ _ }⟩
    case round =>
      obtain ⟨fr, k, dn, A, c, rfl, rfl, rfl, hR⟩ := hrel
      have HR : Hid (NwAt s w fr k dn A c wr) := hR
      have hle := hR.le
      have hli := hR.li
      have hln := hR.ln
      have hsr := hR.b.size
      clear hR
      by_cases hlt : k < s.size
      · have hki : (k : Int) < (s.size : Int) := by omega
        cases hb : (s[k] == 32) with
        | true =>
          have hbi : ((s[k].toNat : Int) == 32) = true := by rw [show (32 : Int) = ((32 : Nat) : Int) from rfl, u8_eq _ 32 (by decide)]; exact hb
          have hsl := tslice_wb s fr k hle hli
          have HEQ : Hid (splB (btL s) = (dn ++ [((btL s).drop fr).take (k - fr)]) ++ splB ((btL s).drop (k + 1))) := by
            show _ = _
            have h1 := nw_split hle hlt
            rw [beq_iff_eq.1 hb] at h1
            rw [HR.out.eq, List.append_assoc]
            congr 1
            conv => lhs; rw [h1]
            rw [splB_app _ _ (nw_piece hle hli HR.out.no)]
            rfl
          generalize ((btL s).drop fr).take (k - fr) = W at hsl HEQ
          clear hb
          go_wp2_with (at_builtin; refine wpList_append_lies _ rfl _ _ 41 rfl w.heap.size 9 i0 _ 1 16 Tryz.underlying41 hi0 hz0 hz1 hz2 rfl (by decide) _ _ _ rfl (World.ownsRow.alloc HR.out.ro _) ⟨wr.heap.size, 0, none⟩ 1 1 [.string (wbS W)] rfl rfl (cell_one_new wr _ _) (by intro u hu; simp at hu; subst hu; rfl) (by decide) (by unfold maxLen; omega) (by omega) (by simp; omega) (wr.heap.size + 1) (by simp) ?_)
          intro g2 cap2 w2 hown2 hgrow2 hat2 hlt2
          have HN : Hid (NwAt s w (k + 1) (k + 1) (dn ++ [W]) (some ⟨g2, 0, none⟩) cap2 w2) := by
            refine { b := (HR.out.b.alloc hsr (.cells #[.string (wbS W)] 9)).grown hgrow2 (by simp; omega) (fun j hj => (World.ownsRow.lt HR.out.ro j hj).1), le := Nat.le_refl _, li := hlt, ln := by simp; omega, no := fun j _ _ h => by omega, eq := HEQ.out, ro := ?_ }
            rw [List.length_append, List.map_append, strCells_app]
            exact hown2
          clear hown2 hgrow2 hat2 hlt2
          go_wp2
          go_roundw
          case rel => exact ⟨k + 1, k + 1, dn ++ [W], some ⟨g2, 0, none⟩, cap2, by rw [List.length_append]; rfl, by go_num, by go_num, HN.out⟩
          case measure => simp [intOf]; omega
        | false =>
          have hbi : ((s[k].toNat : Int) == 32) = false := by rw [show (32 : Int) = ((32 : Nat) : Int) from rfl, u8_eq _ 32 (by decide)]; exact hb
          have HN : Hid (NwAt s w fr (k + 1) dn A c wr) := by
            refine { b := HR.out.b, le := by omega, li := hlt, ln := hln, no := fun j h h1 h2 => ?_, eq := HR.out.eq, ro := HR.out.ro }
            by_cases hjk : j = k
            · subst hjk; simpa using hb
            · exact HR.out.no j h h1 (by omega)
          clear hb
          go_wp2
          go_roundw
          case rel => exact ⟨fr, k + 1, dn, A, c, rfl, rfl, by go_num, HN.out⟩
          case measure => simp [intOf]; omega
      · obtain rfl : k = s.size := by omega
        have hki : ¬ (s.size : Int) < (s.size : Int) := by omega
        have hsl : ∀ W : World, (Instr.slice 9 (.string s) (some (.int .i64 (fr : Int))) none none).run Tryz.prog W = .ok (.string (wbS ((btL s).drop fr))) W := fun W => by
          have h := run_slice_string_l (P := Tryz.prog) W 9 s Tryz.underlying9 .i64 (fr : Int) (by omega) (by omega)
          rw [Int.toNat_natCast, wbS_ext, nw_rest] at h
          exact h
        have HEQ : Hid (noteW (btL s) = dn ++ [(btL s).drop fr]) := by
          show _ = _
          rw [HE.out, HR.out.eq, splB_one]
          have h1 := nw_piece hle hli HR.out.no
          rw [nw_rest] at h1
          exact h1
        generalize (btL s).drop fr = W at hsl HEQ
        go_wp2_with (at_builtin; refine wpList_append_lies _ rfl _ _ 41 rfl w.heap.size 9 i0 _ 1 16 Tryz.underlying41 hi0 hz0 hz1 hz2 rfl (by decide) _ _ _ rfl (World.ownsRow.alloc HR.out.ro _) ⟨wr.heap.size, 0, none⟩ 1 1 [.string (wbS W)] rfl rfl (cell_one_new wr _ _) (by intro u hu; simp at hu; subst hu; rfl) (by decide) (by unfold maxLen; omega) (by omega) (by simp; omega) (wr.heap.size + 1) (by simp) ?_)
        intro g2 cap2 w2 hown2 hgrow2 hat2 hlt2
        have hb2 := (HR.out.b.alloc hsr (.cells #[.string (wbS W)] 9)).grown hgrow2 (by simp; omega) (fun j hj => (World.ownsRow.lt HR.out.ro j hj).1)
        have hO : StrsO w.heap.size (.slice (some ⟨g2, 0, none⟩) (dn.length + 1) cap2) ((dn ++ [W]).map wbS) w2 := by
          show w2.ownsRow _ _ _ _ _ _
          rw [List.length_map, List.length_append, List.map_append, strCells_app]
          exact hown2
        have HO := (show Hid (_) from hO)
        have HB2 := (show Hid (_) from hb2)
        clear hown2 hgrow2 hat2 hlt2 hO hb2
        go_wp2
        go_ret
        rw [HEQ.out, List.length_append]
        exact ⟨⟨some ⟨g2, 0, none⟩, cap2, rfl, HO.out⟩, HB2.out⟩
end Go.Proofs.YtmbeamcjpidnjaaGreatDoor
