/- Package lex: what a text begins with. -/
import Derived.Test.YtlogepdifapciabDoorLexX
import Derived.Deep.RegionHeld3
namespace Go.Proofs.YtlogepdifapciabDoor
open Go Go.RowKit

theorem wbS_btL (s : ByteArray) : wbS (btL s) = s := rfl
theorem wbS_size (l : List UInt8) : (wbS l).size = l.length := by
  rw [← btL_len]; rfl
theorem btL_wbS (l : List UInt8) : btL (wbS l) = l := rfl
theorem btL_cons {t : ByteArray} (h : 0 < t.size) : btL t = t[0] :: (btL t).drop 1 := by
  have hd := btL_drop h
  rw [List.drop_zero, Nat.zero_add] at hd
  exact hd
theorem dec_int (n m : Nat) : decide (n ≤ m) = decide ((n : Int) ≤ (m : Int)) := by
  by_cases h : n ≤ m
  · rw [decide_eq_true h, decide_eq_true (by omega)]
  · rw [decide_eq_false h, decide_eq_false (by omega)]

theorem one_drew {w : World} {a : Nat} {bs : ByteArray} (h : OneAt w a bs) : OneAt w.drew a bs := h
/-- What 'first' hands back. -/
abbrev FirstOk (t : ByteArray) (w : World) (e : Ending) (w' : World) : Prop := e = .returned (.tuple #[.string (wbS (tkW (btL t))), .bool (tkOk (btL t))]) ∧ Below w.heap.size w w'
set_option maxRecDepth 100000 in
set_option maxHeartbeats 2000000 in
theorem first_low (t : ByteArray) (w : World) (h0 : 0 < t.size) (hs : t.size ≤ 60000) (hl : lowB t[0] = true) : Calls Tryd.prog 31 #[.string t] w fun e w' => FirstOk t w e w' := by
  obtain ⟨e1, e2⟩ := f_low (c := t[0]) (r := (btL t).drop 1) hl
  rw [← btL_cons h0] at e1 e2
  have HL : Hid (rngB 97 122 t[0] = true) := hl
  have HN : Hid (wbS ((btL t).takeWhile (rngB 97 122)) = wbS (tkW (btL t))) := by
    show _ = _
    rw [e1]; rfl
  have HS : Hid (tkOk (btL t) = decide (((wbS (tkW (btL t))).size : Int) ≤ 8)) := by
    show _ = _
    rw [e2, wbS_size, e1, dec_int]; rfl
  have hz : (wbS (tkW (btL t))).size ≤ 60000 := by
    rw [wbS_size]
    exact Nat.le_trans (tkW_len _) (by rw [btL_len]; exact hs)
  generalize hW : wbS (tkW (btL t)) = W at HN HS hz
  generalize hO : tkOk (btL t) = O at HS
  have HW := (show Hid (_ = _) from hW)
  have HO := (show Hid (_ = _) from hO)
  clear e1 e2 hl hW hO
  go_enter Tryd.func31, Tryd.ntmps31
  go_wp2_with fail
  refine (from_any 97 122 _).mono ?_
  rintro e w1 ⟨⟨a1, b1, rfl, hF1⟩, hb1⟩
  go_wp2_with fail
  refine (from_any 48 57 _).mono ?_
  rintro e w2 ⟨⟨a2, b2, rfl, hF2⟩, hb2⟩
  have HF : Hid (FromAt w2 a1 b1 97 122) := hF1.below hb2
  have HG : Hid (FromAt w2 a2 b2 48 57) := hF2
  have HB : Hid (Below w.heap.size w w2) := belowT hb1 (Nat.le_refl _) hb2
  clear hF1 hF2 hb1 hb2
  go_wp2_with fail
  refine (from1_any t[0] HF.out).mono ?_
  rintro e w3 ⟨rfl, rfl⟩
  rw [HL.out]
  go_wp2_with fail
  refine (run_any t HF.out hs).mono ?_
  rintro e w3 ⟨rfl, rfl⟩
  rw [HN.out]
  go_wp2
  refine bodyPost_ret (v := .tuple #[.string W, .bool O]) (by rw [HS.out]; simp [results, Tryd.results31, go_sem]) rfl ?_
  exact ⟨by rw [HW.out, HO.out], HB.out⟩
set_option maxRecDepth 100000 in
set_option maxHeartbeats 2000000 in
theorem first_fig (t : ByteArray) (w : World) (h0 : 0 < t.size) (hs : t.size ≤ 60000) (hl : lowB t[0] = false) (hf : figB t[0] = true) : Calls Tryd.prog 31 #[.string t] w fun e w' => FirstOk t w e w' := by
  obtain ⟨e1, e2⟩ := f_fig (c := t[0]) (r := (btL t).drop 1) hl hf
  rw [← btL_cons h0] at e1 e2
  have HL : Hid (rngB 97 122 t[0] = false) := hl
  have HD : Hid (rngB 48 57 t[0] = true) := hf
  have HN : Hid (wbS ((btL t).takeWhile (rngB 48 57)) = wbS (tkW (btL t))) := by
    show _ = _
    rw [e1]; rfl
  have HS : Hid (tkOk (btL t) = (decide (((wbS (tkW (btL t))).size : Int) ≤ 6) && ((t[0].toNat : Int) != 48 || (wbS (tkW (btL t))).toList == [48]))) := by
    show _ = _
    have e48 : ((t[0].toNat : Int) != 48) = (t[0] != 48) := by
      show (!((t[0].toNat : Int) == 48)) = (!(t[0] == 48))
      rw [show (48 : Int) = ((48 : Nat) : Int) from rfl, u8_eq _ 48 (by decide)]; rfl
    have el : (wbS (tkW (btL t))).toList = tkW (btL t) := by rw [Lib.toList_data]; rfl
    rw [e48, el, e2, wbS_size, e1, dec_int]; rfl
  have hz : (wbS (tkW (btL t))).size ≤ 60000 := by
    rw [wbS_size]
    exact Nat.le_trans (tkW_len _) (by rw [btL_len]; exact hs)
  generalize hW : wbS (tkW (btL t)) = W at HN HS hz
  generalize hO : tkOk (btL t) = O at HS
  have HW := (show Hid (_ = _) from hW)
  have HO := (show Hid (_ = _) from hO)
  have hcs : (¬ (W.size : Int) ≤ 6 ∧ Hid (O = false)) ∨ ((W.size : Int) ≤ 6 ∧ ((t[0].toNat : Int) != 48) = true ∧ Hid (O = true)) ∨ ((W.size : Int) ≤ 6 ∧ ((t[0].toNat : Int) != 48) = false ∧ Hid (O = (W.toList == [48]))) := by
    have hS := HS.out
    by_cases g1 : (W.size : Int) ≤ 6
    · rw [decide_eq_true g1, Bool.true_and] at hS
      cases g2 : ((t[0].toNat : Int) != 48) with
      | true => rw [g2, Bool.true_or] at hS; exact .inr (.inl ⟨g1, rfl, hS⟩)
      | false => rw [g2, Bool.false_or] at hS; exact .inr (.inr ⟨g1, rfl, hS⟩)
    · rw [decide_eq_false g1, Bool.false_and] at hS
      exact .inl ⟨g1, hS⟩
  clear e1 e2 hl hf hW hO HS
  go_enter Tryd.func31, Tryd.ntmps31
  go_wp2_with fail
  refine (from_any 97 122 _).mono ?_
  rintro e w1 ⟨⟨a1, b1, rfl, hF1⟩, hb1⟩
  go_wp2_with fail
  refine (from_any 48 57 _).mono ?_
  rintro e w2 ⟨⟨a2, b2, rfl, hF2⟩, hb2⟩
  have HF : Hid (FromAt w2 a1 b1 97 122) := hF1.below hb2
  have HG : Hid (FromAt w2 a2 b2 48 57) := hF2
  have HB : Hid (Below w.heap.size w w2) := belowT hb1 (Nat.le_refl _) hb2
  clear hF1 hF2 hb1 hb2
  go_wp2_with fail
  refine (from1_any t[0] HF.out).mono ?_
  rintro e w3 ⟨rfl, rfl⟩
  rw [HL.out]
  go_wp2_with fail
  refine (from1_any t[0] HG.out).mono ?_
  rintro e w3 ⟨rfl, rfl⟩
  rw [HD.out]
  go_wp2_with fail
  refine (run_any t HG.out hs).mono ?_
  rintro e w3 ⟨rfl, rfl⟩
  rw [HN.out]
  rcases hcs with ⟨c1, HC⟩ | ⟨c1, c2, HC⟩ | ⟨c1, c2, HC⟩
  all_goals
    go_wp2
    refine bodyPost_ret (v := .tuple #[.string W, .bool O]) (by rw [HC.out]; simp [results, Tryd.results31, go_sem]) rfl ?_
    exact ⟨by rw [HW.out, HO.out], HB.out⟩
set_option maxRecDepth 100000 in
set_option maxHeartbeats 2000000 in
theorem first_note (t : ByteArray) (w : World) (h0 : 0 < t.size) (hs : t.size ≤ 60000) (hl : lowB t[0] = false) (hf : figB t[0] = false) (hn : t[0] = 35) : Calls Tryd.prog 31 #[.string t] w fun e w' => FirstOk t w e w' := by
  obtain ⟨e1, e2⟩ := f_note (c := t[0]) (r := (btL t).drop 1) hl hf hn
  rw [← btL_cons h0] at e1 e2
  have HL : Hid (rngB 97 122 t[0] = false) := hl
  have HD : Hid (rngB 48 57 t[0] = false) := hf
  have hni : ((t[0].toNat : Int) == 35) = true := by rw [hn]; rfl
  have HN : Hid (wbS (trimE (btL (lineL t))) = wbS (tkW (btL t))) := by
    show _ = _
    rw [e1]; rfl
  have hll : (lineL t).size ≤ 60000 ∧ 0 < (lineL t).size := by
    have h1 := tw_len nlB (btL t)
    rw [btL_len] at h1
    rw [lineL, wbS_size]
    refine ⟨by omega, ?_⟩
    rw [btL_cons h0, List.takeWhile_cons, if_pos (by rw [hn]; rfl)]
    simp
  have HS : Hid (tkOk (btL t) = ((wbS ((btL (wbS (tkW (btL t)))).takeWhile (rngB 32 126))).toList == (wbS (tkW (btL t))).toList)) := by
    show _ = _
    rw [Lib.toList_data, Lib.toList_data, e2, e1]; rfl
  have hz : (wbS (tkW (btL t))).size ≤ 60000 := by
    rw [wbS_size]
    exact Nat.le_trans (tkW_len _) (by rw [btL_len]; exact hs)
  generalize hW : wbS (tkW (btL t)) = W at HN HS hz
  generalize hO : tkOk (btL t) = O at HS
  have HW := (show Hid (_ = _) from hW)
  have HO := (show Hid (_ = _) from hO)
  generalize hM : wbS ((btL W).takeWhile (rngB 32 126)) = M at HS
  have HM := (show Hid (_ = _) from hM)
  obtain ⟨hl1, hl2⟩ := hll
  clear e1 e2 hl hf hn hW hO hM
  go_enter Tryd.func31, Tryd.ntmps31
  go_wp2_with fail
  refine (from_any 97 122 _).mono ?_
  rintro e w1 ⟨⟨a1, b1, rfl, hF1⟩, hb1⟩
  go_wp2_with fail
  refine (from_any 48 57 _).mono ?_
  rintro e w2 ⟨⟨a2, b2, rfl, hF2⟩, hb2⟩
  have HF : Hid (FromAt w2 a1 b1 97 122) := hF1.below hb2
  have HG : Hid (FromAt w2 a2 b2 48 57) := hF2
  have HB : Hid (Below w.heap.size w w2) := belowT hb1 (Nat.le_refl _) hb2
  clear hF1 hF2 hb1 hb2
  go_wp2_with fail
  refine (from1_any t[0] HF.out).mono ?_
  rintro e w3 ⟨rfl, rfl⟩
  rw [HL.out]
  go_wp2_with fail
  refine (from1_any t[0] HG.out).mono ?_
  rintro e w3 ⟨rfl, rfl⟩
  rw [HD.out]
  go_wp2_with fail
  refine (scut_any t _ hs).mono ?_
  rintro e w3 ⟨⟨r, b, rfl⟩, hb3⟩
  go_wp2_with fail
  refine (trimR_any (lineL t) _ hl2 hl1).mono ?_
  rintro e w4 ⟨rfl, rfl⟩
  rw [HN.out]
  go_wp2_with fail
  refine (from_any 32 126 _).mono ?_
  rintro e w4 ⟨⟨a4, b4, rfl, hF4⟩, hb4⟩
  have HK : Hid (FromAt w4 a4 b4 32 126) := hF4
  have HB4 : Hid (Below w.heap.size w w4) := belowT (belowT HB.out (Nat.le_refl _) hb3) (Nat.le_refl _) hb4
  clear hF4 hb3 hb4
  go_wp2_with fail
  refine (run_any W HK.out hz).mono ?_
  rintro e w5 ⟨rfl, rfl⟩
  rw [HM.out]
  go_wp2
  refine bodyPost_ret (v := .tuple #[.string W, .bool O]) (by rw [HS.out]; simp [results, Tryd.results31, go_sem]) rfl ?_
  exact ⟨by rw [HW.out, HO.out], HB4.out⟩
set_option maxRecDepth 100000 in
set_option maxHeartbeats 2000000 in
theorem first_mark (t : ByteArray) (w : World) (h0 : 0 < t.size) (hs : t.size ≤ 60000) (hsp : spB t[0] = false) (hl : lowB t[0] = false) (hf : figB t[0] = false) (hn : (t[0] == 35) = false) : Calls Tryd.prog 31 #[.string t] w fun e w' => FirstOk t w e w' := by
  obtain ⟨e1, e2⟩ := f_mark (c := t[0]) (r := (btL t).drop 1) hsp hl hf hn
  rw [← btL_cons h0] at e1 e2
  have HL : Hid (rngB 97 122 t[0] = false) := hl
  have HD : Hid (rngB 48 57 t[0] = false) := hf
  have h1i : (1 : Int) ≤ (t.size : Int) := by omega
  have h2i : (0 : Int) < (t.size : Int) := by omega
  have hni : ((t[0].toNat : Int) == 35) = false := by rw [show (35 : Int) = ((35 : Nat) : Int) from rfl, u8_eq _ 35 (by decide)]; exact hn
  have HN : Hid (t.extract 0 1 = wbS (tkW (btL t))) := by
    show _ = _
    have e3 : (btL t).take 1 = [t[0]] := by
      have h3 := congrArg (List.take 1) (btL_cons h0)
      rw [List.take_succ_cons, List.take_zero] at h3
      exact h3
    rw [e1, ext_to, e3]
  have HS : Hid (tkOk (btL t) = (btL (⟨#[40, 41, 91, 93, 44, 43, 42, 61, 59]⟩ : ByteArray)).any (· == t[0])) := by
    show _ = _
    rw [e2]; rfl
  have hz : (wbS (tkW (btL t))).size ≤ 60000 := by
    rw [wbS_size]
    exact Nat.le_trans (tkW_len _) (by rw [btL_len]; exact hs)
  generalize hW : wbS (tkW (btL t)) = W at HN HS hz
  generalize hO : tkOk (btL t) = O at HS
  have HW := (show Hid (_ = _) from hW)
  have HO := (show Hid (_ = _) from hO)
  clear e1 e2 hl hf hn hsp hW hO
  go_enter Tryd.func31, Tryd.ntmps31
  go_wp2_with fail
  refine (from_any 97 122 _).mono ?_
  rintro e w1 ⟨⟨a1, b1, rfl, hF1⟩, hb1⟩
  go_wp2_with fail
  refine (from_any 48 57 _).mono ?_
  rintro e w2 ⟨⟨a2, b2, rfl, hF2⟩, hb2⟩
  have HF : Hid (FromAt w2 a1 b1 97 122) := hF1.below hb2
  have HG : Hid (FromAt w2 a2 b2 48 57) := hF2
  have HB : Hid (Below w.heap.size w w2) := belowT hb1 (Nat.le_refl _) hb2
  clear hF1 hF2 hb1 hb2
  go_wp2_with fail
  refine (from1_any t[0] HF.out).mono ?_
  rintro e w3 ⟨rfl, rfl⟩
  rw [HL.out]
  go_wp2_with fail
  refine (from1_any t[0] HG.out).mono ?_
  rintro e w3 ⟨rfl, rfl⟩
  rw [HD.out]
  go_wp2_with fail
  go_region_held3 (fun _ => True) (trivial) (first | (go_at_call 30; refine (oneOf_any _ _).mono ?_; rintro e w3 ⟨rfl, rfl⟩) | (go_at_call 35; refine (oneOf1_any t[0] (OneAt.new _ _)).mono ?_; rintro e w4 ⟨rfl, rfl⟩; rw [← HS.out]) | (go_at_call 35; refine (oneOf1_any t[0] (one_drew (OneAt.new _ _))).mono ?_; rintro e w4 ⟨rfl, rfl⟩; rw [← HS.out]))
  all_goals
    go_wp2
    refine bodyPost_ret (v := .tuple #[.string (t.extract 0 1), .bool O]) (by simp [results, Tryd.results31, go_sem]) rfl ?_
    exact ⟨by rw [HN.out, HW.out, HO.out], (HB.out.alloc HB.out.size _).trans ⟨rfl, rfl, rfl, Nat.le_refl _, fun _ _ => rfl⟩⟩
theorem first_any (t : ByteArray) (w : World) (h0 : 0 < t.size) (hs : t.size ≤ 60000) (hsp : spB t[0] = false) : Calls Tryd.prog 31 #[.string t] w fun e w' => FirstOk t w e w' := by
  cases hl : lowB t[0] with
  | true => exact first_low t w h0 hs hl
  | false =>
    cases hf : figB t[0] with
    | true => exact first_fig t w h0 hs hl hf
    | false =>
      cases hn : (t[0] == 35) with
      | true => exact first_note t w h0 hs hl hf (beq_iff_eq.1 hn)
      | false => exact first_mark t w h0 hs hsp hl hf hn
end Go.Proofs.YtlogepdifapciabDoor
