/- leastBad of package fill, the call. -/
import Derived.Test.YtmpfffpkjnjhdabDoorFilD
import Derived.BigQuiet
import Derived.Deep.QuietTactic
import Derived.Deep.AppendLies
import Derived.OwnWalk
import Derived.Lib.SmallJoins
namespace Go.Proofs.YtmpfffpkjnjhdabDoor
open Go Go.RowKit

def numCells (ks : List Nat) : List Value := ks.map fun (k : Nat) => .int .i64 (k : Int)
theorem numCells_app (a b : List Nat) : numCells (a ++ b) = numCells a ++ numCells b := by simp [numCells]
/-- Numbers that a call has gathered in a row of its own. -/
def NumsO (B : Nat) (v : Value) (ks : List Nat) (w : World) : Prop := w.ownsRow B 3 1 v ks.length (numCells ks)

theorem ibeq2 {i q n : Nat} (h : i + q ≤ n) : ((i : Int) + (q : Int) == (n : Int)) = (q == n - i) := by
  by_cases e : q = n - i
  · rw [beq_iff_eq.2 e, beq_iff_eq.2 (by omega)]
  · rw [beq_false_of_ne e, beq_false_of_ne (by omega)]
theorem belDraw {B : Nat} {w w' : World} (h : Below B w w') (n : Nat) : Below B w (w'.drewN n) := h.trans ⟨rfl, rfl, rfl, Nat.le_refl _, fun _ _ => rfl⟩
theorem mid_ne {ws : List ByteArray} {i q : Nat} (h1 : 1 ≤ q) (h2 : i + q ≤ ws.length) : ((ws.drop i).take q).length = q ∧ (ws.drop i).take q ≠ [] := by
  have e : ((ws.drop i).take q).length = q := by rw [List.length_take, List.length_drop]; omega
  exact ⟨e, fun h => by rw [h] at e; simp at e; omega⟩
theorem lb_long {ws : List ByteArray} {b0 o0 : Nat} {w wr : World} (hW : Wds w (some ⟨b0, o0, none⟩) ws) (hF : Few ws) (hb : Below w.heap.size w wr) (i q c n : Nat) (h1 : 1 ≤ q) (h2 : i + q ≤ ws.length) :
    Calls Tryd.prog 21 #[.slice (some ⟨b0, o0 + i, none⟩) q c] (wr.drewN n) fun e w' => e = .returned (.int .i64 (ln ((ws.drop i).take q))) ∧ wr.drewN n = w' :=
  xLong_at q _ (mid_ne h1 h2).1 _ c _ (mid_ne h1 h2).2 ((hF.drop i).take q) (Wds.below ((WdsB.drop hW i).take q) (belDraw hb n))

theorem belSet2 {B : Nat} {w w' : World} {b1 o1 b2 o2 : Nat} {v1 v2 : Value} (h : Below B w w') (h1 : B ≤ b1) (h2 : B ≤ b2) : Below B w ((w'.setCell ⟨b1, o1, none⟩ v1).setCell ⟨b2, o2, none⟩ v2) :=
  (h.setCell (p := ⟨b1, o1, none⟩) h1 _).setCell (p := ⟨b2, o2, none⟩) h2 _
theorem mid_put {wd : Nat} {ws : List ByteArray} {bL bF i q bv sv nq : Nat} {w : World} (h : Mid wd ws bL bF i (q - 1) w) (hi : i < ws.length) (hq : 1 ≤ q) (ho : fOf wd (ws.drop i) q = bv + sv) (h1 : q = 1 ∨ bv + sv ≤ mnTo (fOf wd (ws.drop i)) (q - 1)) :
    Mid wd ws bL bF i (q + 1 - 1) (((w.drewN nq).setCell ⟨bL, i, none⟩ (.int .i64 ((bv : Int) + (sv : Int)))).setCell ⟨bF, i, none⟩ (.int .i64 (q : Int))) := by
  obtain ⟨m, rfl⟩ : ∃ m, q = m + 1 := ⟨q - 1, by omega⟩
  simp only [Nat.add_sub_cancel] at h h1 ⊢
  have hk : Mid wd ws bL bF i m (w.drewN nq) := h.kept rfl rfl
  have := hk.put hi (by rw [ho]; omega)
  rw [ho] at this
  have e1 : ((bv + sv : Nat) : Int) = (bv : Int) + (sv : Int) := by omega
  have e2 : ((m + 1 : Nat) : Int) = (m : Int) + 1 := by omega
  rw [e1] at this
  rw [e2]
  exact this
theorem mid_skip {wd : Nat} {ws : List ByteArray} {bL bF i q nq : Nat} {w : World} (h : Mid wd ws bL bF i (q - 1) w) (hq : 1 ≤ q) (h1 : ¬ fOf wd (ws.drop i) q ≤ mnTo (fOf wd (ws.drop i)) (q - 1)) (h2 : ¬ q = 1) : Mid wd ws bL bF i (q + 1 - 1) (w.drewN nq) := by
  obtain ⟨m, rfl⟩ : ∃ m, q = m + 1 := ⟨q - 1, by omega⟩
  simp only [Nat.add_sub_cancel] at h h1 ⊢
  have hk : Mid wd ws bL bF i m (w.drewN nq) := h.kept rfl rfl
  exact hk.skip (by omega)

set_option maxRecDepth 100000 in
set_option maxHeartbeats 4000000 in
theorem leastBad_any (ws : List ByteArray) (a : Option Addr) (cap wd : Nat) (w : World) (hc : ws.length ≤ cap) (hF : Few ws) (hw : wd ≤ 100) (hW : Wds w a ws) :
    Calls Tryd.prog 17 #[.slice a ws.length cap, .int .i64 wd] w fun e w' => (∃ A c, e = .returned (.slice A (cuts wd ws).length c) ∧ NumsO w.heap.size (.slice A (cuts wd ws).length c) (cuts wd ws) w') ∧ Below w.heap.size w w' := by
  have hl := hF.1
  have HW : Hid (Wds w a ws) := hW
  have HF : Hid (Few ws) := hF
  have hm1 : ∀ W : World, (Instr.makeSlice 23 (.int .i64 ((ws.length : Int) + 1)) (.int .i64 ((ws.length : Int) + 1))).run Tryd.prog W = .ok (.slice (some ⟨W.heap.size, 0, none⟩) (ws.length + 1) (ws.length + 1)) (W.alloc (.cells (madeCells #[.int .i64 0] (ws.length + 1)) 3)) := fun W => by
    have := run_make_row' 23 3 _ 8 Tryd.underlying23 intInf rfl .i64 .i64 (ws.length + 1) (by omega) (by omega) W
    have e : ((ws.length + 1 : Nat) : Int) = (ws.length : Int) + 1 := by omega
    rw [e] at this
    exact this
  have hm2 : ∀ W : World, (Instr.makeSlice 23 (.int .i64 (ws.length : Int)) (.int .i64 (ws.length : Int))).run Tryd.prog W = .ok (.slice (some ⟨W.heap.size, 0, none⟩) ws.length ws.length) (W.alloc (.cells (madeCells #[.int .i64 0] ws.length) 3)) := fun W =>
    run_make_row' 23 3 _ 8 Tryd.underlying23 intInf rfl .i64 .i64 ws.length (by omega) (by omega) W
  have HM : Hid (Lst wd ws w.heap.size (w.heap.size + 1) ws.length ((w.alloc (.cells (madeCells #[.int .i64 0] (ws.length + 1)) 3)).alloc (.cells (madeCells #[.int .i64 0] ws.length) 3))) := Lst.made wd ws w
  clear hW hF
  go_enter Tryd.func17, Tryd.ntmps17
  go_wp2
  go_loopw [7] (fun i wr => Below w.heap.size w wr ∧ ∃ k : Nat, k ≤ ws.length ∧ i = .int .i64 ((k : Int) - 1) ∧ Lst wd ws w.heap.size (w.heap.size + 1) k wr) (fun i _ => (intOf i + 1).toNat)
  case atStart => exact ⟨((Below.refl _ w).alloc (Nat.le_refl _) _).alloc (by simp) _, ws.length, Nat.le_refl _, by go_num, HM.out⟩
  case round =>
    obtain ⟨hb, k, hk, rfl, hL⟩ := hrel
    have HB : Hid (Below w.heap.size w wr) := hb
    have HL : Hid (Lst wd ws w.heap.size (w.heap.size + 1) k wr) := hL
    clear hb hL
    by_cases hk0 : k = 0
    · subst hk0
      have hneg : ¬ ((0 : Int) ≤ ((0 : Nat) : Int) - 1) := by omega
      have hwr : w.heap.size + 2 ≤ wr.heap.size := HL.out.rf.lt
      go_wp2
      go_loopw [10, 11] (fun l i wx => Below (w.heap.size + 2) wr wx ∧ ∃ (k : Nat) (ks : List Nat) (A : Option Addr) (c : Nat), k ≤ ws.length ∧ ks.length ≤ k ∧ i = .int .i64 (k : Int) ∧ l = .slice A ks.length c ∧ NumsO (w.heap.size + 2) (.slice A ks.length c) ks wx ∧ cuts wd ws = ks ++ cuts wd (ws.drop k)) (fun _ i _ => ws.length - (intOf i).toNat)
      case atStart => exact ⟨Below.refl _ _, 0, [], none, 0, Nat.zero_le _, Nat.le_refl _, rfl, rfl, World.ownsRow_nil _ _ _ _, rfl⟩
      case round =>
        rename_i wo0 wo1 wo2
        obtain ⟨hbx, k, ks, A, c, hk1, hk2, rfl, rfl, hO, hcut⟩ := hrel
        have HBx : Hid (Below (w.heap.size + 2) _ wr) := hbx
        have HO : Hid (NumsO (w.heap.size + 2) (.slice A ks.length c) ks wr) := hO
        have HC : Hid (cuts wd ws = ks ++ cuts wd (ws.drop k)) := hcut
        have HLx : Hid (Lst wd ws w.heap.size (w.heap.size + 1) 0 wr) := HL.out.kept (hbx.block _ (by omega)) (hbx.block _ (by omega))
        have hsx := hbx.size
        clear hbx hO hcut
        by_cases hlt : k < ws.length
        · have hki : (k : Int) < (ws.length : Int) := by omega
          have hdn : ws.drop k ≠ [] := fun e => by
            have := congrArg List.length e
            rw [List.length_drop, List.length_nil] at this
            omega
          have c1 := HLx.out.cf k (Nat.zero_le _) hlt
          have HC2 : Hid (cuts wd ws = (ks ++ [agF wd (ws.drop k)]) ++ cuts wd (ws.drop (k + agF wd (ws.drop k)))) := by
            show cuts wd ws = _
            rw [HC.out, cuts_cons wd hdn, List.drop_drop, List.append_assoc]
            rfl
          obtain ⟨hg1, hg2⟩ := agF_pos wd hdn
          rw [List.length_drop] at hg2
          have HCF : Hid (∀ W : World, Lst wd ws w.heap.size (w.heap.size + 1) 0 W → W.cell? ⟨w.heap.size + 1, k, none⟩ = some (.int .i64 ((agF wd (ws.drop k) : Nat) : Int))) := fun W h => h.cf k (Nat.zero_le _) hlt
          generalize agF wd (ws.drop k) = av at c1 HC2 hg1 hg2 HCF
          clear hdn
          obtain ⟨i0, hi0, hz0, hz1, hz2⟩ := info_parts intInf
          go_wp2_with (at_builtin; refine wpList_append_lies _ rfl _ _ 23 rfl (w.heap.size + 2) 3 i0 _ 1 8 Tryd.underlying23 hi0 hz0 hz1 hz2 rfl (by decide) _ _ _ rfl (World.ownsRow.alloc HO.out _) ⟨wr.heap.size, 0, none⟩ 1 1 [.int .i64 (av : Int)] rfl rfl (cell_one_new wr _ _) (by intro u hu; simp at hu; subst hu; rfl) (by decide) (by unfold maxLen; omega) (by omega) (by simp; omega) (wr.heap.size + 1) (by simp) ?_)
          intro g2 cap2 w2 hown2 hgrow2 hat2 hlt2
          have hb2 := (HBx.out.alloc (by omega) (.cells #[.int .i64 (av : Int)] 3)).grown hgrow2 (by simp; omega) (fun j hj => (World.ownsRow.lt HO.out j hj).1)
          have HB2 := (show Hid (Below _ _ _) from hb2)
          have c2 := HCF.out w2 (HL.out.kept (hb2.block _ (by omega)) (hb2.block _ (by omega)))
          have HO2 : Hid (NumsO (w.heap.size + 2) (.slice (some ⟨g2, 0, none⟩) (ks.length + 1) cap2) (ks ++ [av]) w2) := by
            show w2.ownsRow _ _ _ _ _ _
            rw [numCells_app, List.length_append]
            exact hown2
          clear hown2 hgrow2 hb2 hat2 hlt2
          go_wp2
          go_roundw
          case rel => exact ⟨HB2.out, k + av, ks ++ [av], some ⟨g2, 0, none⟩, cap2, by omega, by simp; omega, by go_num, by rw [List.length_append]; rfl, by rw [List.length_append]; exact HO2.out, HC2.out⟩
          case measure => simp [intOf]; omega
        · have hke : ¬ (k : Int) < (ws.length : Int) := by omega
          have HE : Hid (cuts wd ws = ks) := by
            show cuts wd ws = ks
            rw [HC.out, List.drop_eq_nil_of_le (by omega), cuts_nil, List.append_nil]
          go_wp2
          go_ret
          rw [HE.out]
          exact ⟨⟨A, c, rfl, Joins.ownsRow_le HO.out (by omega)⟩, HB.out.trans (HBx.out.mono (by omega))⟩
    · obtain ⟨i, rfl⟩ : ∃ i, k = i + 1 := ⟨k - 1, by omega⟩
      have hki : (((i + 1 : Nat) : Int) - 1) = (i : Int) := by omega
      rw [hki]
      have hi : i < ws.length := by omega
      clear hki hk0
      go_wp2
      go_loopw [8] (fun n wx => Below w.heap.size w wx ∧ ∃ q : Nat, 1 ≤ q ∧ i + q ≤ ws.length + 1 ∧ n = .int .i64 (q : Int) ∧ Mid wd ws w.heap.size (w.heap.size + 1) i (q - 1) wx) (fun n _ => (ws.length + 1 - (intOf n).toNat))
      case atStart => exact ⟨HB.out, 1, by omega, by omega, by go_num, Mid.start HL.out⟩
      case round =>
        rename_i wy
        obtain ⟨hb, q, hq1, hq2, rfl, hM⟩ := hrel
        have HBy : Hid (Below w.heap.size w wr) := hb
        have HMy : Hid (Mid wd ws w.heap.size (w.heap.size + 1) i (q - 1) wr) := hM
        clear hb hM
        by_cases hlt : i + q ≤ ws.length
        · obtain ⟨b0, o0, ea, hb0⟩ := HW.out.some (show 0 < ws.length by omega)
          subst ea
          have hlti : (i : Int) + (q : Int) ≤ (ws.length : Int) := by omega
          have hsl := sl_mid b0 o0 ws.length cap i q (by omega) (by omega)
          have hcell : wr.cell? ⟨w.heap.size, i + q, none⟩ = some (.int .i64 ((best wd (ws.drop (i + q)) : Nat) : Int)) := HMy.out.l.cl (i + q) (by omega) hlt
          have HLc : Hid (∀ n, Calls Tryd.prog 21 #[.slice (some ⟨b0, o0 + i, none⟩) q (cap - i)] (wr.drewN n) fun e w' => e = .returned (.int .i64 (ln ((ws.drop i).take q))) ∧ w' = wr.drewN n) := fun n =>
            (lb_long HW.out HF.out HBy.out i q (cap - i) n hq1 hlt).mono fun _ _ h => ⟨h.1, h.2.symm⟩
          have HBc : Hid (∀ n, Calls Tryd.prog 20 #[.int .i64 (ln ((ws.drop i).take q)), .int .i64 wd, .bool ((i : Int) + (q : Int) == (ws.length : Int))] (wr.drewN n) fun e w' => e = .returned (.int .i64 (bd (ln ((ws.drop i).take q)) wd (q == ws.length - i))) ∧ w' = wr.drewN n) := fun n => by
            rw [ibeq2 hlt]
            exact (xBad_any _ wd _ _ ((HF.out.drop i).take q).ln hw).mono fun _ _ h => ⟨h.1, h.2.symm⟩
          have HO : Hid (fOf wd (ws.drop i) q = bd (ln ((ws.drop i).take q)) wd (q == ws.length - i) + best wd (ws.drop (i + q))) := fOf_at wd ws i q
          have hfb := fOf_le hw (HF.out.drop i) q
          rw [HO.out] at hfb
          generalize ln ((ws.drop i).take q) = lv at HLc HBc HO hfb
          generalize bd lv wd (q == ws.length - i) = bv at HBc HO hfb
          generalize best wd (ws.drop (i + q)) = sv at hcell HO hfb
          go_wp2_with fail
          go_quiet (first | (go_at_call 21; exact Calls.quiet_of_same (HLc.out _)) | (go_at_call 20; exact Calls.quiet_of_same (HBc.out _)))
          obtain ⟨y1, e1⟩ := HMy.out.l.rl.cell (show i < ws.length + 1 by omega)
          obtain ⟨y2, e2⟩ := HMy.out.l.rf.cell hi
          have f1 : wr.frozen? ⟨w.heap.size, i, none⟩ = false := HMy.out.l.rl.frozen
          have f2 : wr.frozen? ⟨w.heap.size + 1, i, none⟩ = false := HMy.out.l.rf.frozen
          have hwr : w.heap.size + 1 < wr.heap.size := HMy.out.l.rf.lt
          by_cases hq : q = 1
          · have hqb : ((q : Int) == 1) = true := by simp [hq]
            have HP := (show Hid (_) from mid_put (nq := nq) HMy.out hi hq1 HO.out (.inl hq))
            clear hq
            go_wp2
            go_roundw
            case rel => exact ⟨belSet2 (belDraw HBy.out nq) (Nat.le_refl _) (by omega), q + 1, by omega, by omega, by go_num, HP.out⟩
            case measure => simp [intOf]; omega
          · have hqb : ((q : Int) == 1) = false := by simp; omega
            have e1' := (HMy.out.c (by omega)).1
            generalize hmv : mnTo (fOf wd (ws.drop i)) (q - 1) = mv at e1'
            have HMV : Hid (mnTo (fOf wd (ws.drop i)) (q - 1) = mv) := hmv
            clear hmv e1
            by_cases hle : bv + sv ≤ mv
            · have HP := (show Hid (_) from mid_put (nq := nq) HMy.out hi hq1 HO.out (.inr (by rw [HMV.out]; exact hle)))
              have hlei : (bv : Int) + (sv : Int) ≤ (mv : Int) := by omega
              clear hq hle
              go_wp2
              go_roundw
              case rel => exact ⟨belSet2 (belDraw HBy.out nq) (Nat.le_refl _) (by omega), q + 1, by omega, by omega, by go_num, HP.out⟩
              case measure => simp [intOf]; omega
            · have HP := (show Hid (_) from mid_skip (nq := nq) HMy.out hq1 (by rw [HO.out, HMV.out]; omega) hq)
              have hlei : ¬ (bv : Int) + (sv : Int) ≤ (mv : Int) := by omega
              clear hq hle
              go_wp2
              go_roundw
              case rel => exact ⟨belDraw HBy.out nq, q + 1, by omega, by omega, by go_num, HP.out⟩
              case measure => simp [intOf]; omega
        · have hgt : ¬ (i : Int) + (q : Int) ≤ (ws.length : Int) := by omega
          have HD : Hid (Lst wd ws w.heap.size (w.heap.size + 1) i wr) := HMy.out.done hi (by omega)
          go_wp2
          go_roundw
          case rel => exact ⟨HBy.out, i, by omega, by go_num, HD.out⟩
          case measure => simp [intOf]
end Go.Proofs.YtmpfffpkjnjhdabDoor
