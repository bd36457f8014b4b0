/- How bad words in lines are: the document's RaggedOf, and Ragged of package fill. -/
import Derived.Test.YtmpfffpkjnjhdabDoorFilB
namespace Go.Proofs.YtmpfffpkjnjhdabDoor
open Go Go.RowKit

/-- Words, the first so many. -/
theorem sl_head (a : Option Addr) (n c k : Nat) (hk : k ≤ c) (W : World) :
    (Instr.slice 22 (.slice a n c) none (some (.int .i64 (k : Int))) none).run Tryd.prog W = .ok (.slice a k c) W := by
  rw [run_slice_h W 22 a n c Tryd.underlying22 .i64 (k : Int) (by omega) (by omega)]
  have hz : (sizeOf (Tryd.prog.elem 22)).run Tryd.prog W = .ok 1 W := by kernel_rfl
  rw [hz]
  simp [Result.andThen, sliced, Addr.add]
/-- Words, those from a place on. -/
theorem sl_tail {B : Nat} {w : World} {b o c k : Nat} {ws : List ByteArray} (h : WdsB B w (some ⟨b, o, none⟩) ws) (hk : k ≤ ws.length) (hc : ws.length ≤ c) :
    ∃ A, (∀ W : World, (Instr.slice 22 (.slice (some ⟨b, o, none⟩) ws.length c) (some (.int .i64 (k : Int))) none none).run Tryd.prog W = .ok (.slice A (ws.drop k).length (c - k)) W) ∧ WdsB B w A (ws.drop k) := by
  refine ⟨if c = k then some ⟨b, o, none⟩ else some ⟨b, o + k, none⟩, fun W => ?_, ?_⟩
  · rw [run_slice_l W 22 _ ws.length c Tryd.underlying22 .i64 (k : Int) (by omega) (by omega)]
    have hz : (sizeOf (Tryd.prog.elem 22)).run Tryd.prog W = .ok 1 W := by kernel_rfl
    rw [hz]
    have ha : (⟨b, o, none⟩ : Addr).add k = ⟨b, o + k, none⟩ := by
      unfold Addr.add
      split
      · rename_i h; subst h; rfl
      · rfl
    simp [Result.andThen, sliced, ha]
  · by_cases e : c = k
    · have : ws.drop k = [] := List.drop_eq_nil_of_le (by omega)
      rw [this]
      exact WdsB.nil _ _ _
    · rw [if_neg e]
      exact h.drop k
/-- Words, some of them. -/
theorem sl_mid (b o n c i k : Nat) (hi : i < c) (hk : i + k ≤ c) (W : World) :
    (Instr.slice 22 (.slice (some ⟨b, o, none⟩) n c) (some (.int .i64 (i : Int))) (some (.int .i64 ((i : Int) + (k : Int)))) none).run Tryd.prog W = .ok (.slice (some ⟨b, o + i, none⟩) k (c - i)) W := by
  rw [run_slice_lh W 22 _ n c Tryd.underlying22 .i64 .i64 (i : Int) ((i : Int) + (k : Int)) (by omega) (by omega) (by omega)]
  have hz : (sizeOf (Tryd.prog.elem 22)).run Tryd.prog W = .ok 1 W := by kernel_rfl
  rw [hz]
  have ha : (⟨b, o, none⟩ : Addr).add i = ⟨b, o + i, none⟩ := by
    unfold Addr.add
    split
    · rename_i h; subst h; rfl
    · rfl
  have e1 : ((i : Int) + (k : Int)).toNat = i + k := by omega
  have e2 : ¬ c = i := by omega
  have e3 : i + k - i = k := by omega
  simp [Result.andThen, sliced, ha, e1, e2, e3]

theorem rBad_at (n : Nat) (ws : List ByteArray) (hn : ws.length = n) (a : Option Addr) (cap wd : Nat) (last : Bool) (w : World) (hF : Few ws) (hw : wd ≤ 100) (hW : Wds w a ws) :
    Calls Tryd.prog 14 #[.slice a n cap, .int .i64 wd, .bool last] w fun e w' => e = .returned (.int .i64 (bd (ln ws) wd last)) ∧ w = w' := by
  subst hn; exact rBad_any ws a cap wd last w hF hw hW
theorem xLong_at (n : Nat) (ws : List ByteArray) (hn : ws.length = n) (a : Option Addr) (cap : Nat) (w : World) (h0 : ws ≠ []) (hF : Few ws) (hW : Wds w a ws) :
    Calls Tryd.prog 21 #[.slice a n cap] w fun e w' => e = .returned (.int .i64 (ln ws)) ∧ w = w' := by
  subst hn; exact xLong_any ws a cap w h0 hF hW

theorem ragOf_drop (wd : Nat) (ws : List ByteArray) {ms : List Int} {k : Nat} (h : k < ms.length) : ragOf wd ws (ms.drop k) = bd (ln (ws.take ms[k].toNat)) wd (ms[k].toNat == ws.length) + ragOf wd (ws.drop ms[k].toNat) (ms.drop (k + 1)) := by
  rw [List.drop_eq_getElem_cons h]; rfl
theorem ibeq (m n : Nat) : ((m : Int) == (n : Int)) = (m == n) := by
  by_cases h : m = n
  · subst h; simp
  · rw [beq_false_of_ne h, beq_false_of_ne (by omega)]

/-- What is still to be put into lines. -/
def RagAt (wd : Nat) (ws : List ByteArray) (ms : List Int) (w : World) (k s : Nat) (vs : List ByteArray) (A : Option Addr) (c : Nat) : Prop :=
  vs.length ≤ c ∧ Wds w A vs ∧ Few vs ∧ share ms ws.length = share (ms.drop k) vs.length ∧ ragOf wd ws ms = s + ragOf wd vs (ms.drop k) ∧ s + 1300000 * vs.length ≤ 78000000

theorem rag_step {wd : Nat} {ws : List ByteArray} {ms : List Int} {w : World} {k s : Nat} {vs : List ByteArray} {b o c m : Nat} (h : RagAt wd ws ms w k s vs (some ⟨b, o, none⟩) c) (hw : wd ≤ 100) (hk : k < ms.length) (hm : ms[k] = (m : Int)) (h1 : 1 ≤ m) (h2 : m ≤ vs.length) :
    ∃ A, (∀ W : World, (Instr.slice 22 (.slice (some ⟨b, o, none⟩) vs.length c) (some (.int .i64 (m : Int))) none none).run Tryd.prog W = .ok (.slice A (vs.drop m).length (c - m)) W) ∧ RagAt wd ws ms w (k + 1) (s + bd (ln (vs.take m)) wd (m == vs.length)) (vs.drop m) A (c - m) := by
  obtain ⟨g1, g2, g3, g4, g5, g6⟩ := h
  obtain ⟨A, e1, e2⟩ := sl_tail g2 h2 g1
  refine ⟨A, e1, by simp; omega, e2, g3.drop m, ?_, ?_, ?_⟩
  · rw [g4, share_drop hk, hm, decide_eq_true (by omega), decide_eq_true (by omega)]
    simp
  · rw [g5, ragOf_drop wd vs hk, hm]
    simp only [Int.toNat_natCast]
    omega
  · have := bd_le (last := (m == vs.length)) (g3.take m).ln hw
    simp only [List.length_drop]
    omega

set_option maxRecDepth 100000 in
set_option maxHeartbeats 2000000 in
theorem rRagged_any (ws : List ByteArray) (a : Option Addr) (cap : Nat) (ms : List Int) (ma : Option Addr) (mc wd : Nat) (w : World) (hc : ws.length ≤ cap) (hF : Few ws) (hw : wd ≤ 100) (hW : Wds w a ws) (hM : Ints w ma ms) (hl : ms.length ≤ 9223372036854775807) :
    Calls Tryd.prog 8 #[.slice a ws.length cap, .slice ma ms.length mc, .int .i64 wd] w fun e w' => (∃ r : Nat, e = .returned (.tuple #[.int .i64 r, .bool (share ms ws.length)]) ∧ (share ms ws.length = true → r = ragOf wd ws ms)) ∧ w = w' := by
  have HW : Hid (Wds w a ws) := hW
  have HM : Hid (Ints w ma ms) := hM
  have HF : Hid (Few ws) := hF
  have hl0 := hF.1
  clear hW hM hF
  go_enter Tryd.func8, Tryd.ntmps8
  go_wp2
  go_loopw [0, 8, 9] (fun l s i wr => wr = w ∧ ∃ (k r : Nat) (vs : List ByteArray) (A : Option Addr) (c : Nat), k ≤ ms.length ∧ l = .slice A vs.length c ∧ s = .int .i64 r ∧ i = .int .i64 k ∧ RagAt wd ws ms w k r vs A c) (fun _ _ i _ => ms.length - (intOf i).toNat)
  case atStart => exact ⟨rfl, 0, 0, ws, a, cap, Nat.zero_le _, rfl, rfl, rfl, hc, HW.out, HF.out, rfl, by simp, by omega⟩
  case round =>
    obtain ⟨rfl, k, r, vs, A, c, hk, rfl, rfl, rfl, hR⟩ := hrel
    have hvl := hR.2.2.1.1
    have hvc := hR.1
    have hrb := hR.2.2.2.2.2
    have HR : Hid (RagAt wd ws ms wr k r vs A c) := hR
    clear hR
    by_cases hlt : k < ms.length
    · obtain ⟨b0, o0, ea, hb0, c0⟩ := HM.out k hlt
      subst ea
      have hki : (k : Int) < (ms.length : Int) := by omega
      have HD : Hid (share ms ws.length = (decide (1 ≤ ms[k]) && decide (ms[k] ≤ (vs.length : Int)) && share (ms.drop (k + 1)) (vs.length - ms[k].toNat))) := HR.out.2.2.2.1.trans (share_drop hlt)
      obtain ⟨m, hm⟩ : ∃ m : Int, ms[k] = m := ⟨_, rfl⟩
      rw [hm] at c0
      have HMK : Hid (ms[k] = m) := hm
      clear hm
      by_cases h1 : m < 1
      · have HE : Hid (share ms ws.length = false) := by
          show share ms ws.length = false
          rw [HD.out, HMK.out, decide_eq_false (by omega)]; rfl
        clear HD
        go_wp2
        go_ret2
        exact ⟨⟨0, by rw [HE.out]; rfl, fun h => by rw [HE.out] at h; cases h⟩, rfl⟩
      by_cases h2 : (vs.length : Int) < m
      · have HE : Hid (share ms ws.length = false) := by
          show share ms ws.length = false
          rw [HD.out, HMK.out, decide_eq_false (show ¬ m ≤ (vs.length : Int) by omega)]; simp
        clear HD
        go_wp2
        go_ret2
        exact ⟨⟨0, by rw [HE.out]; rfl, fun h => by rw [HE.out] at h; cases h⟩, rfl⟩
      · obtain ⟨q, rfl⟩ : ∃ q : Nat, m = (q : Int) := ⟨m.toNat, by omega⟩
        have hq1 : 1 ≤ q := by omega
        have hq2 : q ≤ vs.length := by omega
        obtain ⟨b1, o1, ea, hb1⟩ := HR.out.2.1.some (show 0 < vs.length by omega)
        subst ea
        obtain ⟨A', hs, hR'⟩ := rag_step HR.out hw hlt HMK.out hq1 hq2
        have hhead := sl_head (some ⟨b1, o1, none⟩) vs.length c q (by omega)
        have HR' : Hid (RagAt wd ws ms wr (k + 1) (r + bd (ln (vs.take q)) wd (q == vs.length)) (vs.drop q) A' (c - q)) := hR'
        have hbd : bd (ln (vs.take q)) wd (q == vs.length) ≤ 1300000 := bd_le (HR.out.2.2.1.take q).ln hw
        have HB : Hid (∀ W : World, Below wr.heap.size wr W → Calls Tryd.prog 14 #[.slice (some ⟨b1, o1, none⟩) q c, .int .i64 wd, .bool ((q : Int) == (vs.length : Int))] W fun e w' => e = .returned (.int .i64 (bd (ln (vs.take q)) wd (q == vs.length))) ∧ W = w') := fun W hb => by
          rw [ibeq]
          exact rBad_at q (vs.take q) (by simp; omega) _ c wd _ W (HR.out.2.2.1.take q) hw (Wds.below (HR.out.2.1.take q) hb)
        generalize hbb : bd (ln (vs.take q)) wd (q == vs.length) = bv at HR' hbd HB
        generalize hdl : (vs.drop q).length = dl at hs
        have HDL : Hid ((vs.drop q).length = dl) := hdl
        clear hR' hbb HD hdl
        go_wp2_with fail
        refine (HB.out _ (Below.refl _ _)).mono ?_
        rintro e w2 ⟨rfl, rfl⟩
        go_wp2
        go_roundw
        case rel => exact ⟨by trivial, k + 1, r + bv, vs.drop q, A', c - q, by omega, by rw [HDL.out], by go_num, by go_num, HR'.out⟩
        case measure => simp [intOf]; omega
    · have HE : Hid (share ms ws.length = ((vs.length : Int) == 0)) := by
        show share ms ws.length = _
        rw [HR.out.2.2.2.1, List.drop_eq_nil_of_le (by omega), zbeq]; rfl
      have HG : Hid (ragOf wd ws ms = r) := by
        show ragOf wd ws ms = r
        rw [HR.out.2.2.2.2.1, List.drop_eq_nil_of_le (by omega)]; rfl
      go_wp2
      go_ret2
      exact ⟨⟨r, by rw [HE.out]; rfl, fun _ => HG.out.symm⟩, rfl⟩

/-- What is wrong with words, numbers of them in each line, and a width; how bad they are. -/
def rgE (ws : List ByteArray) (ms : List Int) (wd : Int) : Int := if fillE ws wd ≠ 0 then fillE ws wd else if share ms ws.length then 0 else 2
def rgK (ws : List ByteArray) (ms : List Int) (wd : Int) : Nat := if rgE ws ms wd = 0 then ragOf wd.toNat ws ms else 0
theorem rgE_bad {ws : List ByteArray} {ms : List Int} {wd : Int} (h : fillE ws wd ≠ 0) : rgE ws ms wd = fillE ws wd ∧ rgK ws ms wd = 0 := by
  have e : rgE ws ms wd = fillE ws wd := by rw [rgE, if_pos h]
  exact ⟨e, by rw [rgK, e, if_neg h]⟩
theorem rgE_no {ws : List ByteArray} {ms : List Int} {wd : Int} (h : fillE ws wd = 0) (hs : share ms ws.length = false) : rgE ws ms wd = 2 ∧ rgK ws ms wd = 0 := by
  have e : rgE ws ms wd = 2 := by rw [rgE, if_neg (by simp [h]), hs]; rfl
  exact ⟨e, by rw [rgK, e]; rfl⟩
theorem rgE_yes {ws : List ByteArray} {ms : List Int} {wd : Int} (h : fillE ws wd = 0) (hs : share ms ws.length = true) : rgE ws ms wd = 0 ∧ rgK ws ms wd = ragOf wd.toNat ws ms := by
  have e : rgE ws ms wd = 0 := by rw [rgE, if_neg (by simp [h]), hs]; rfl
  exact ⟨e, by rw [rgK, e]; rfl⟩

set_option maxRecDepth 100000 in
set_option maxHeartbeats 2000000 in
theorem xRagged_any (ws : List ByteArray) (a : Option Addr) (cap : Nat) (ms : List Int) (ma : Option Addr) (mc : Nat) (wd : Int) (w : World) (hc : ws.length ≤ cap) (hW : Wds w a ws) (hM : Ints w ma ms) (hl : ms.length ≤ 9223372036854775807) :
    Calls Tryd.prog 11 #[.slice a ws.length cap, .slice ma ms.length mc, .int .i64 wd] w fun e w' => e = .returned (.tuple #[.int .i64 (rgK ws ms wd), errN (rgE ws ms wd)]) ∧ w = w' := by
  have HW : Hid (Wds w a ws) := hW
  have HM : Hid (Ints w ma ms) := hM
  clear hW hM
  by_cases h0 : fillE ws wd = 0
  · have H0 : Hid (fillE ws wd = 0) := h0
    obtain ⟨hf0, n, rfl, hn1, hn2⟩ := fillE_zero h0
    have HF : Hid (Few ws) := few_of hf0
    have hl0 := HF.out.1
    clear h0 hf0
    cases hsh : share ms ws.length with
    | false =>
      obtain ⟨e1, e2⟩ := rgE_no H0.out hsh
      have HSH : Hid (share ms ws.length = false) := hsh
      have HE : Hid (rgE ws ms n = 2 ∧ rgK ws ms n = 0) := ⟨e1, e2⟩
      clear hsh e1 e2
      go_enter Tryd.func11, Tryd.ntmps11
      go_wp2_with fail
      refine (xRoom_any ws a cap n _ HW.out).mono ?_
      rintro e w2 ⟨rfl, rfl⟩
      rw [H0.out, errN_0]
      go_wp2_with fail
      refine (xShare_any ms ma mc ws.length _ HM.out hl hl0).mono ?_
      rintro e w3 ⟨rfl, rfl⟩
      rw [HSH.out]
      go_wp2
      go_ret2
      exact ⟨by rw [HE.out.1, HE.out.2]; rfl, rfl⟩
    | true =>
      obtain ⟨e1, e2⟩ := rgE_yes H0.out hsh
      have HSH : Hid (share ms ws.length = true) := hsh
      have HE : Hid (rgE ws ms n = 0 ∧ rgK ws ms n = ragOf n ws ms) := ⟨e1, e2⟩
      clear hsh e1 e2
      go_enter Tryd.func11, Tryd.ntmps11
      go_wp2_with fail
      refine (xRoom_any ws a cap n _ HW.out).mono ?_
      rintro e w2 ⟨rfl, rfl⟩
      rw [H0.out, errN_0]
      go_wp2_with fail
      refine (xShare_any ms ma mc ws.length _ HM.out hl hl0).mono ?_
      rintro e w3 ⟨rfl, rfl⟩
      rw [HSH.out]
      go_wp2
      go_loopw [0, 9, 26] (fun l s i wr => wr = w ∧ ∃ (k r : Nat) (vs : List ByteArray) (A : Option Addr) (c : Nat), k ≤ ms.length ∧ l = .slice A vs.length c ∧ s = .int .i64 r ∧ i = .int .i64 k ∧ RagAt n ws ms w k r vs A c) (fun _ _ i _ => ms.length - (intOf i).toNat)
      case atStart => exact ⟨rfl, 0, 0, ws, a, cap, Nat.zero_le _, rfl, rfl, rfl, hc, HW.out, HF.out, rfl, by simp, by omega⟩
      case round =>
        obtain ⟨rfl, k, r, vs, A, c, hk, rfl, rfl, rfl, hR⟩ := hrel
        have hvl := hR.2.2.1.1
        have hvc := hR.1
        have hrb := hR.2.2.2.2.2
        have HR : Hid (RagAt n ws ms wr k r vs A c) := hR
        clear hR
        by_cases hlt : k < ms.length
        · obtain ⟨b0, o0, ea, hb0, c0⟩ := HM.out k hlt
          subst ea
          have hki : (k : Int) < (ms.length : Int) := by omega
          have hD : true = (decide (1 ≤ ms[k]) && decide (ms[k] ≤ (vs.length : Int)) && share (ms.drop (k + 1)) (vs.length - ms[k].toNat)) := HSH.out.symm.trans (HR.out.2.2.2.1.trans (share_drop hlt))
          have hD2 := hD.symm
          simp only [Bool.and_eq_true, decide_eq_true_eq] at hD2
          obtain ⟨q, hq⟩ : ∃ q : Nat, ms[k] = (q : Int) := ⟨ms[k].toNat, by omega⟩
          have hq1 : 1 ≤ q := by omega
          have hq2 : q ≤ vs.length := by omega
          rw [hq] at c0
          have HMK : Hid (ms[k] = (q : Int)) := hq
          clear hD hD2 hq
          obtain ⟨b1, o1, ea, hb1⟩ := HR.out.2.1.some (show 0 < vs.length by omega)
          subst ea
          obtain ⟨A', hs, hR'⟩ := rag_step HR.out hn2 hlt HMK.out hq1 hq2
          have hhead := sl_head (some ⟨b1, o1, none⟩) vs.length c q (by omega)
          have HR' : Hid (RagAt n ws ms wr (k + 1) (r + bd (ln (vs.take q)) n (q == vs.length)) (vs.drop q) A' (c - q)) := hR'
          have hbd : bd (ln (vs.take q)) n (q == vs.length) ≤ 1300000 := bd_le (HR.out.2.2.1.take q).ln hn2
          have hne : vs.take q ≠ [] := fun e => by
            have := congrArg List.length e
            rw [List.length_take, List.length_nil] at this
            omega
          have HL : Hid (Calls Tryd.prog 21 #[.slice (some ⟨b1, o1, none⟩) q c] wr fun e w' => e = .returned (.int .i64 (ln (vs.take q))) ∧ wr = w') :=
            xLong_at q (vs.take q) (by simp; omega) _ c wr hne (HR.out.2.2.1.take q) (HR.out.2.1.take q)
          have HB : Hid (Calls Tryd.prog 20 #[.int .i64 (ln (vs.take q)), .int .i64 n, .bool ((q : Int) == (vs.length : Int))] wr fun e w' => e = .returned (.int .i64 (bd (ln (vs.take q)) n (q == vs.length))) ∧ wr = w') := by
            rw [ibeq]
            exact xBad_any _ n _ wr (HR.out.2.2.1.take q).ln hn2
          generalize hbb : bd (ln (vs.take q)) n (q == vs.length) = bv at HR' hbd HB
          generalize hln : ln (vs.take q) = lv at HL HB
          generalize hdl : (vs.drop q).length = dl at hs
          have HDL : Hid ((vs.drop q).length = dl) := hdl
          clear hR' hbb hdl hln hne
          go_wp2_with fail
          refine HL.out.mono ?_
          rintro e w2 ⟨rfl, rfl⟩
          go_wp2_with fail
          refine HB.out.mono ?_
          rintro e w3 ⟨rfl, rfl⟩
          go_wp2
          go_roundw
          case rel => exact ⟨by trivial, k + 1, r + bv, vs.drop q, A', c - q, by omega, by rw [HDL.out], by go_num, by go_num, HR'.out⟩
          case measure => simp [intOf]; omega
        · have HG : Hid (ragOf n ws ms = r) := by
            show ragOf n ws ms = r
            rw [HR.out.2.2.2.2.1, List.drop_eq_nil_of_le (by omega)]; rfl
          go_wp2
          go_ret2
          exact ⟨by rw [HE.out.1, HE.out.2, HG.out]; rfl, rfl⟩
  · obtain ⟨e1, e2⟩ := rgE_bad (ms := ms) h0
    have HE : Hid (rgE ws ms wd = fillE ws wd ∧ rgK ws ms wd = 0) := ⟨e1, e2⟩
    have HN : Hid (errN (fillE ws wd) = .iface 24 (.int .i64 (fillE ws wd))) := errN_ne h0
    clear h0 e1 e2
    go_enter Tryd.func11, Tryd.ntmps11
    go_wp2_with fail
    refine (xRoom_any ws a cap wd _ HW.out).mono ?_
    rintro e w2 ⟨rfl, rfl⟩
    rw [HN.out]
    go_wp2
    go_ret2
    exact ⟨by rw [HE.out.1, HE.out.2, HN.out]; rfl, rfl⟩
end Go.Proofs.YtmpfffpkjnjhdabDoor
