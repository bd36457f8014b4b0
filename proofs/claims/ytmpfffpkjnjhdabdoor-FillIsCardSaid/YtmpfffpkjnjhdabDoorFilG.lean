/- The document's FillOf: how bad words are at least, from each one on. -/
import Derived.Test.YtmpfffpkjnjhdabDoorFilF
namespace Go.Proofs.YtmpfffpkjnjhdabDoor
open Go Go.RowKit

structure LstR (wd : Nat) (ws : List ByteArray) (bL k : Nat) (w : World) : Prop where
  rl : RowN w bL (ws.length + 1)
  cl : ∀ j, k ≤ j → j ≤ ws.length → w.cell? ⟨bL, j, none⟩ = some (.int .i64 ((best wd (ws.drop j) : Nat) : Int))
theorem LstR.kept {wd : Nat} {ws : List ByteArray} {bL k : Nat} {w w' : World} (h : LstR wd ws bL k w) (h1 : w'.heap[bL]? = w.heap[bL]?) : LstR wd ws bL k w' where
  rl := h.rl.kept h1
  cl := fun j a b => (World.cell?_of_block (w := w) (a := ⟨bL, j, none⟩) h1).trans (h.cl j a b)
theorem LstR.made (wd : Nat) (ws : List ByteArray) (w : World) : LstR wd ws w.heap.size ws.length (w.alloc (.cells (madeCells #[.int .i64 0] (ws.length + 1)) 3)) := by
  have h1 : (w.alloc (.cells (madeCells #[.int .i64 0] (ws.length + 1)) 3)).heap[w.heap.size]? = some (.cells (madeCells #[.int .i64 0] (ws.length + 1)) 3 (0, 0)) := heap_alloc_new w _
  refine ⟨⟨_, _, h1, size_madeCells _ _⟩, fun j a b => ?_⟩
  obtain rfl : j = ws.length := by omega
  have : best wd (ws.drop ws.length) = 0 := by rw [List.drop_length]; rfl
  rw [this]
  simp only [World.cell?, h1]
  exact made_zero _ (by omega)
/-- What stands at a word when so many words in the first line were looked at. -/
def midZ (g : Nat → Nat) (m : Nat) : Int := if m = 0 then -1 else (mnTo g m : Int)
structure MidR (wd : Nat) (ws : List ByteArray) (bL i m : Nat) (w : World) : Prop where
  l : LstR wd ws bL (i + 1) w
  c : w.cell? ⟨bL, i, none⟩ = some (.int .i64 (midZ (fOf wd (ws.drop i)) m))
theorem MidR.set {wd : Nat} {ws : List ByteArray} {bL i m : Nat} {w : World} {z : Int} (h : LstR wd ws bL (i + 1) w) (hi : i < ws.length) (hz : z = midZ (fOf wd (ws.drop i)) m) : MidR wd ws bL i m (w.setCell ⟨bL, i, none⟩ (.int .i64 z)) := by
  obtain ⟨y1, e1⟩ := h.rl.cell (i := i) (by omega)
  refine ⟨⟨h.rl.set, fun j a b => (cso (.inr (by omega))).trans (h.cl j a b)⟩, ?_⟩
  rw [hz]
  exact css e1
theorem MidR.kept {wd : Nat} {ws : List ByteArray} {bL i m : Nat} {w w' : World} (h : MidR wd ws bL i m w) (h1 : w'.heap[bL]? = w.heap[bL]?) : MidR wd ws bL i m w' where
  l := h.l.kept h1
  c := (World.cell?_of_block (w := w) (a := ⟨bL, i, none⟩) h1).trans h.c
theorem MidR.done {wd : Nat} {ws : List ByteArray} {bL i m : Nat} {w : World} (h : MidR wd ws bL i m w) (hi : i < ws.length) (hm : m = ws.length - i) : LstR wd ws bL i w := by
  have hne : ws.drop i ≠ [] := fun e => by
    have := congrArg List.length e
    rw [List.length_drop, List.length_nil] at this
    omega
  have c1 := h.c
  refine ⟨h.l.rl, fun j a b => ?_⟩
  by_cases e : j = i
  · subst e
    rw [best_eq wd hne, List.length_drop, ← hm]
    rw [midZ, if_neg (by omega)] at c1
    exact c1
  · exact h.l.cl j (by omega) b
theorem midZ_put {g : Nat → Nat} {q : Nat} (hq : 1 ≤ q) (h : q = 1 ∨ g q < mnTo g (q - 1)) : ((g q : Nat) : Int) = midZ g (q + 1 - 1) := by
  obtain ⟨m, rfl⟩ : ∃ m, q = m + 1 := ⟨q - 1, by omega⟩
  simp only [Nat.add_sub_cancel] at h ⊢
  rw [midZ, if_neg (by omega), mnTo_lt, if_pos (by omega)]
theorem midZ_skip {g : Nat → Nat} {q : Nat} (hq : 1 ≤ q) (h1 : ¬ q = 1) (h : ¬ g q < mnTo g (q - 1)) : midZ g (q - 1) = midZ g (q + 1 - 1) := by
  obtain ⟨m, rfl⟩ : ∃ m, q = m + 1 := ⟨q - 1, by omega⟩
  simp only [Nat.add_sub_cancel] at h h1 ⊢
  rw [midZ, if_neg (by omega), midZ, if_neg (by omega), mnTo_lt, if_neg (by omega)]
theorem r_bad {ws : List ByteArray} {b0 o0 wd : Nat} {w wr : World} (hW : Wds w (some ⟨b0, o0, none⟩) ws) (hF : Few ws) (hw : wd ≤ 100) (hb : Below w.heap.size w wr) (i q c n : Nat) (h1 : 1 ≤ q) (h2 : i + q ≤ ws.length) :
    Calls Tryd.prog 14 #[.slice (some ⟨b0, o0 + i, none⟩) q c, .int .i64 wd, .bool ((i : Int) + (q : Int) == (ws.length : Int))] (wr.drewN n) fun e w' => e = .returned (.int .i64 (bd (ln ((ws.drop i).take q)) wd (q == ws.length - i))) ∧ w' = wr.drewN n := by
  rw [ibeq2 h2]
  exact (rBad_at q _ (mid_ne h1 h2).1 _ c wd _ _ ((hF.drop i).take q) hw (Wds.below ((WdsB.drop hW i).take q) (belDraw hb n))).mono fun _ _ h => ⟨h.1, h.2.symm⟩
theorem r_join {ws : List ByteArray} {b0 o0 : Nat} {w wr : World} (hW : Wds w (some ⟨b0, o0, none⟩) ws) (hF : Few ws) (hb : Below w.heap.size w wr) (i q c : Nat) (h1 : 1 ≤ q) (h2 : i + q ≤ ws.length) :
    Calls Tryd.prog 15 #[.slice (some ⟨b0, o0 + i, none⟩) q c] wr fun e w' => e = .returned (.string (jnS ((ws.drop i).take q))) ∧ wr = w' := by
  have := rJoined_any ((ws.drop i).take q) (some ⟨b0, o0 + i, none⟩) c wr ((hF.drop i).take q) (Wds.below ((WdsB.drop hW i).take q) hb)
  rw [(mid_ne h1 h2).1] at this
  exact this

/-- What the second loop of FillOf keeps. -/
structure FOut (wd : Nat) (ws : List ByteArray) (w w1 : World) (k : Nat) (done : List ByteArray) (L : Option Addr) (lc : Nat) (wx : World) : Prop where
  b : Below (w.heap.size + 1) w1 wx
  le : k ≤ ws.length
  dl : done.length ≤ k
  ro : StrsO (w.heap.size + 1) (.slice L done.length lc) done wx
  li : fillL wd ws = done ++ fillL wd (ws.drop k)

set_option maxRecDepth 100000 in
set_option maxHeartbeats 4000000 in
theorem fillOf_any (ws : List ByteArray) (a : Option Addr) (cap wd : Nat) (w : World) (hc : ws.length ≤ cap) (hF : Few ws) (hw : wd ≤ 100) (hW : Wds w a ws) :
    Calls Tryd.prog 7 #[.slice a ws.length cap, .int .i64 wd] w fun e w' => (∃ L c, e = .returned (.slice L (fillL wd ws).length c) ∧ StrsO w.heap.size (.slice L (fillL wd ws).length c) (fillL wd ws) w') ∧ Below w.heap.size w w' := by
  have hl := hF.1
  have HW : Hid (Wds w a ws) := hW
  have HF : Hid (Few ws) := hF
  have hm1 : ∀ W : World, (Instr.makeSlice 23 (.int .i64 ((ws.length : Int) + 1)) (.int .i64 ((ws.length : Int) + 1))).run Tryd.prog W = .ok (.slice (some ⟨W.heap.size, 0, none⟩) (ws.length + 1) (ws.length + 1)) (W.alloc (.cells (madeCells #[.int .i64 0] (ws.length + 1)) 3)) := fun W => by
    have := run_make_row' 23 3 _ 8 Tryd.underlying23 intInf rfl .i64 .i64 (ws.length + 1) (by omega) (by omega) W
    have e : ((ws.length + 1 : Nat) : Int) = (ws.length : Int) + 1 := by omega
    rw [e] at this
    exact this
  have HM : Hid (LstR wd ws w.heap.size ws.length (w.alloc (.cells (madeCells #[.int .i64 0] (ws.length + 1)) 3))) := LstR.made wd ws w
  clear hW hF
  go_enter Tryd.func7, Tryd.ntmps7
  go_wp2
  go_loopw [7] (fun i wr => Below w.heap.size w wr ∧ ∃ k : Nat, k ≤ ws.length ∧ i = .int .i64 ((k : Int) - 1) ∧ LstR wd ws w.heap.size k wr) (fun i _ => (intOf i + 1).toNat)
  case atStart => exact ⟨(Below.refl _ w).alloc (Nat.le_refl _) _, ws.length, Nat.le_refl _, by go_num, HM.out⟩
  case round =>
    obtain ⟨hb, k, hk, rfl, hL⟩ := hrel
    have HB : Hid (Below w.heap.size w wr) := hb
    have HL : Hid (LstR wd ws w.heap.size k wr) := hL
    clear hb hL
    by_cases hk0 : k = 0
    · subst hk0
      have hneg : ¬ ((0 : Int) ≤ ((0 : Nat) : Int) - 1) := by omega
      have hwr : w.heap.size + 1 ≤ wr.heap.size := HL.out.rl.lt
      generalize wr = w1 at HB HL hwr
      go_wp2
      go_loopw [10, 11] (fun l i wx => ∃ (k : Nat) (done : List ByteArray) (L : Option Addr) (lc : Nat), i = .int .i64 (k : Int) ∧ l = .slice L done.length lc ∧ FOut wd ws w w1 k done L lc wx) (fun _ i _ => ws.length - (intOf i).toNat)
      case atStart => exact ⟨0, [], none, 0, rfl, rfl, { b := Below.refl _ _, le := Nat.zero_le _, dl := Nat.le_refl _, ro := World.ownsRow_nil _ _ _ _, li := rfl }⟩
      case round =>
        obtain ⟨k, done, L, lc, rfl, rfl, hO⟩ := hrel
        have HO : Hid (FOut wd ws w w1 k done L lc wr) := hO
        have hk1 := hO.le
        have hk2 := hO.dl
        have hbx := hO.b
        have HLx : Hid (LstR wd ws w.heap.size 0 wr) := HL.out.kept (hbx.block _ (by omega))
        have HBx : Hid (Below w.heap.size w wr) := HB.out.trans (hbx.mono (by omega))
        have hsx := hbx.size
        clear hbx hO
        by_cases hlt : k < ws.length
        · have hki : (k : Int) < (ws.length : Int) := by omega
          obtain ⟨b0, o0, ea, hb0⟩ := HW.out.some (show 0 < ws.length by omega)
          subst ea
          have hdn : ws.drop k ≠ [] := fun e => by
            have := congrArg List.length e
            rw [List.length_drop, List.length_nil] at this
            omega
          obtain ⟨hg1, hg2⟩ := agF_pos wd hdn
          rw [List.length_drop] at hg2
          have hag := agTo_eq (fOf wd (ws.drop k)) (ws.drop k).length (by rw [List.length_drop]; omega)
          rw [← best_eq wd hdn] at hag
          have HAG : Hid (fOf wd (ws.drop k) (agF wd (ws.drop k)) = best wd (ws.drop k)) := hag
          have HLAST : Hid (∀ q, agF wd (ws.drop k) < q → q ≤ ws.length - k → fOf wd (ws.drop k) q ≠ best wd (ws.drop k)) := fun q h1 h2 => by
            rw [best_eq wd hdn]
            exact agTo_last _ _ q h1 (by rw [List.length_drop]; exact h2) (by omega)
          have HC2 : Hid (fillL wd ws = (done ++ [jnS ((ws.drop k).take (agF wd (ws.drop k)))]) ++ fillL wd (ws.drop (k + agF wd (ws.drop k)))) := by
            show fillL wd ws = _
            rw [HO.out.li, fillL_cons wd hdn, List.drop_drop, List.append_assoc]
            rfl
          have htv : best wd (ws.drop k) ≤ 1300000 := best_le hw _ _ (Nat.le_refl _) (HF.out.drop k)
          have HTV : Hid (∀ W : World, LstR wd ws w.heap.size 0 W → W.cell? ⟨w.heap.size, k, none⟩ = some (.int .i64 ((best wd (ws.drop k) : Nat) : Int))) := fun W h => h.cl k (Nat.zero_le _) (by omega)
          generalize hav : agF wd (ws.drop k) = av at HAG HLAST HC2 hg1 hg2
          generalize best wd (ws.drop k) = tv at HAG HLAST HTV htv
          clear hdn hag hav
          go_wp2
          go_loopw [12] (fun v wy => ∃ m q : Nat, wy = wr.drewN m ∧ av ≤ q ∧ q ≤ ws.length - k ∧ v = .int .i64 (q : Int)) (fun v _ => (intOf v).toNat)
          case atStart => exact ⟨0, ws.length - k, rfl, hg2, Nat.le_refl _, by congr 1; omega⟩
          case round =>
            rename_i wo _
            obtain ⟨m, q, hwy, hq1, hq2, rfl⟩ := hrel
            have HWY := (show Hid (wr = _) from hwy)
            have HLy : Hid (LstR wd ws w.heap.size 0 wr) := by
              show LstR _ _ _ _ _
              rw [hwy]
              exact HLx.out.kept rfl
            have HBy : Hid (Below w.heap.size w wr) := by
              show Below _ _ _
              rw [hwy]
              exact belDraw HBx.out m
            have hsy : w.heap.size + 1 ≤ wr.heap.size := HLy.out.rl.lt
            have HOy : Hid (FOut wd ws w w1 k done L lc wr) := by
              show FOut _ _ _ _ _ _ _ _ _
              rw [hwy]
              exact ⟨belDraw HO.out.b m, HO.out.le, HO.out.dl, HO.out.ro, HO.out.li⟩
            clear hwy
            have c1 := HTV.out wr HLy.out
            have hkq : k + q ≤ ws.length := by omega
            have hkqi : (k : Int) + (q : Int) ≤ (ws.length : Int) := by omega
            have hsl := sl_mid b0 o0 ws.length cap k q (by omega) (by omega)
            have hcell : wr.cell? ⟨w.heap.size, k + q, none⟩ = some (.int .i64 ((best wd (ws.drop (k + q)) : Nat) : Int)) := HLy.out.cl (k + q) (by omega) hkq
            have HBc : Hid (∀ n, Calls Tryd.prog 14 #[.slice (some ⟨b0, o0 + k, none⟩) q (cap - k), .int .i64 wd, .bool ((k : Int) + (q : Int) == (ws.length : Int))] (wr.drewN n) fun e w' => e = .returned (.int .i64 (bd (ln ((ws.drop k).take q)) wd (q == ws.length - k))) ∧ w' = wr.drewN n) := fun n =>
              r_bad HW.out HF.out hw HBy.out k q (cap - k) n (by omega) hkq
            have HJ : Hid (∀ n, Calls Tryd.prog 15 #[.slice (some ⟨b0, o0 + k, none⟩) q (cap - k)] (wr.drewN n) fun e w' => e = .returned (.string (jnS ((ws.drop k).take q))) ∧ wr.drewN n = w') := fun n =>
              r_join HW.out HF.out (belDraw HBy.out n) k q (cap - k) (by omega) hkq
            have HFO : Hid (fOf wd (ws.drop k) q = bd (ln ((ws.drop k).take q)) wd (q == ws.length - k) + best wd (ws.drop (k + q))) := fOf_at wd ws k q
            have hfb := fOf_le hw (HF.out.drop k) q
            rw [HFO.out] at hfb
            generalize bd (ln ((ws.drop k).take q)) wd (q == ws.length - k) = bv at HBc HFO hfb
            generalize best wd (ws.drop (k + q)) = sv at hcell HFO hfb
            by_cases heq : bv + sv = tv
            · have hqe : q = av := by
                rcases Nat.lt_or_ge av q with h | h
                · exact absurd (HFO.out.trans heq) (HLAST.out q h hq2)
                · omega
              subst hqe
              have hne : ((bv : Int) + (sv : Int) != (tv : Int)) = false := by simp; omega
              generalize jnS ((ws.drop k).take q) = s at HJ HC2
              clear heq
              go_wp2_with fail
              go_quiet ((go_at_call 14; exact Calls.quiet_of_same (HBc.out _)))
              go_wp2_with fail
              refine (HJ.out nq).mono ?_
              rintro e w2 ⟨rfl, rfl⟩
              have HO2 : Hid (StrsO (w.heap.size + 1) (.slice L done.length lc) done (wr.drewN nq)) := HOy.out.ro
              have HBW : Hid (Below (w.heap.size + 1) w1 (wr.drewN nq)) := belDraw HOy.out.b nq
              obtain ⟨i0, hi0, hz0, hz1, hz2⟩ := info_parts strInf
              go_wp2_with (at_builtin; refine wpList_append_lies _ rfl _ _ 22 rfl (w.heap.size + 1) 9 i0 _ 1 16 Tryd.underlying22 hi0 hz0 hz1 hz2 rfl (by decide) _ _ _ rfl (World.ownsRow.alloc (w := wr.drewN nq) HO2.out _) ⟨wr.heap.size, 0, none⟩ 1 1 [.string s] rfl rfl (cell_one_new (wr.drewN nq) _ _) (by intro u hu; simp at hu; subst hu; rfl) (by decide) (by unfold maxLen; omega) (by omega) (by simp; omega) (wr.heap.size + 1) (by simp) ?_)
              intro g2 cap2 w3 hown3 hgrow3 hat3 hlt3
              have hb3 := (HBW.out.alloc (show w.heap.size + 1 ≤ (wr.drewN nq).heap.size from hsy) (.cells #[.string s] 9)).grown hgrow3 (by simp; omega) (fun j hj => (World.ownsRow.lt HO2.out j hj).1)
              have hO3 : StrsO (w.heap.size + 1) (.slice (some ⟨g2, 0, none⟩) (done ++ [s]).length cap2) (done ++ [s]) w3 := by
                show w3.ownsRow _ _ _ _ _ _
                rw [strCells_app, List.length_append]
                exact hown3
              have HN3 : Hid (FOut wd ws w w1 (k + q) (done ++ [s]) (some ⟨g2, 0, none⟩) cap2 w3) := ⟨hb3, hkq, by simp; omega, hO3, HC2.out⟩
              clear hown3 hgrow3 hb3 hO3 hat3 hlt3
              go_wp2
              go_roundw
              case rel => exact ⟨k + q, done ++ [s], some ⟨g2, 0, none⟩, cap2, by go_num, by rw [List.length_append]; rfl, HN3.out⟩
              case measure => simp [intOf]; omega
            · have hqe : av < q := by
                rcases Nat.lt_or_ge av q with h | h
                · exact h
                · obtain rfl : q = av := by omega
                  exact absurd (HFO.out.symm.trans HAG.out) heq
              have hne : ((bv : Int) + (sv : Int) != (tv : Int)) = true := by simp; omega
              clear heq
              go_wp2_with fail
              go_quiet ((go_at_call 14; exact Calls.quiet_of_same (HBc.out _)))
              go_wp2
              go_roundw
              case rel => exact ⟨m + nq, q - 1, by rw [HWY.out, World.drewN_drewN], by omega, by omega, by congr 1; omega⟩
              case measure => simp [intOf]; omega
        · have hki : ¬ (k : Int) < (ws.length : Int) := by omega
          have HE : Hid (fillL wd ws = done) := by
            show fillL wd ws = done
            rw [HO.out.li, List.drop_eq_nil_of_le (by omega), fillL_nil, List.append_nil]
          go_wp2
          go_ret
          rw [HE.out]
          exact ⟨⟨L, lc, rfl, Joins.ownsRow_le HO.out.ro (by omega)⟩, HBx.out⟩
    · obtain ⟨i, rfl⟩ : ∃ i, k = i + 1 := ⟨k - 1, by omega⟩
      have hki : (((i + 1 : Nat) : Int) - 1) = (i : Int) := by omega
      rw [hki]
      have hi : i < ws.length := by omega
      obtain ⟨y1, e1⟩ := HL.out.rl.cell (show i < ws.length + 1 by omega)
      have f1 : wr.frozen? ⟨w.heap.size, i, none⟩ = false := HL.out.rl.frozen
      have hwl : w.heap.size < wr.heap.size := HL.out.rl.lt
      have HM0 : Hid (MidR wd ws w.heap.size i 0 (wr.setCell ⟨w.heap.size, i, none⟩ (.int .i64 (-1)))) := MidR.set HL.out hi rfl
      clear hki hk0
      go_wp2
      go_loopw [8] (fun n wx => Below w.heap.size w wx ∧ ∃ q : Nat, 1 ≤ q ∧ i + q ≤ ws.length + 1 ∧ n = .int .i64 (q : Int) ∧ MidR wd ws w.heap.size i (q - 1) wx) (fun n _ => (ws.length + 1 - (intOf n).toNat))
      case atStart => exact ⟨HB.out.setCell (p := ⟨w.heap.size, i, none⟩) (Nat.le_refl _) _, 1, by omega, by omega, by go_num, HM0.out⟩
      case round =>
        obtain ⟨hb, q, hq1, hq2, rfl, hM⟩ := hrel
        have HBy : Hid (Below w.heap.size w wr) := hb
        have HMy : Hid (MidR wd ws w.heap.size i (q - 1) wr) := hM
        clear hb hM
        by_cases hlt : i + q ≤ ws.length
        · obtain ⟨b0, o0, ea, hb0⟩ := HW.out.some (show 0 < ws.length by omega)
          subst ea
          have hlti : (i : Int) + (q : Int) ≤ (ws.length : Int) := by omega
          have hltj : (q : Int) ≤ (ws.length : Int) - (i : Int) := by omega
          have hsl := sl_mid b0 o0 ws.length cap i q (by omega) (by omega)
          have hcell : wr.cell? ⟨w.heap.size, i + q, none⟩ = some (.int .i64 ((best wd (ws.drop (i + q)) : Nat) : Int)) := HMy.out.l.cl (i + q) (by omega) hlt
          have HBc : Hid (∀ n, Calls Tryd.prog 14 #[.slice (some ⟨b0, o0 + i, none⟩) q (cap - i), .int .i64 wd, .bool ((i : Int) + (q : Int) == (ws.length : Int))] (wr.drewN n) fun e w' => e = .returned (.int .i64 (bd (ln ((ws.drop i).take q)) wd (q == ws.length - i))) ∧ w' = wr.drewN n) := fun n =>
            r_bad HW.out HF.out hw HBy.out i q (cap - i) n hq1 hlt
          have HO : Hid (fOf wd (ws.drop i) q = bd (ln ((ws.drop i).take q)) wd (q == ws.length - i) + best wd (ws.drop (i + q))) := fOf_at wd ws i q
          have hfb := fOf_le hw (HF.out.drop i) q
          rw [HO.out] at hfb
          generalize bd (ln ((ws.drop i).take q)) wd (q == ws.length - i) = bv at HBc HO hfb
          generalize best wd (ws.drop (i + q)) = sv at hcell HO hfb
          have f2 : wr.frozen? ⟨w.heap.size, i, none⟩ = false := HMy.out.l.rl.frozen
          have hwr : w.heap.size < wr.heap.size := HMy.out.l.rl.lt
          have e2 := HMy.out.c
          have HL2 : Hid (LstR wd ws w.heap.size (i + 1) wr) := HMy.out.l
          by_cases hq : q = 1
          · have HP : Hid (∀ nq, MidR wd ws w.heap.size i (q + 1 - 1) ((wr.drewN nq).setCell ⟨w.heap.size, i, none⟩ (.int .i64 ((bv : Int) + (sv : Int))))) := fun nq =>
              MidR.set (w := wr.drewN nq) (HL2.out.kept rfl) hi (by rw [← midZ_put hq1 (.inl hq), HO.out]; omega)
            have e3 : wr.cell? ⟨w.heap.size, i, none⟩ = some (.int .i64 (-1)) := by rw [e2, hq]; rfl
            clear hq e2
            go_wp2_with fail
            go_quiet ((go_at_call 14; exact Calls.quiet_of_same (HBc.out _)))
            go_wp2
            go_roundw
            case rel => exact ⟨(belDraw HBy.out nq).setCell (p := ⟨w.heap.size, i, none⟩) (Nat.le_refl _) _, q + 1, by omega, by omega, by go_num, HP.out nq⟩
            case measure => simp [intOf]; omega
          · generalize hmv : mnTo (fOf wd (ws.drop i)) (q - 1) = mv
            have HMV : Hid (mnTo (fOf wd (ws.drop i)) (q - 1) = mv) := hmv
            have e3 : wr.cell? ⟨w.heap.size, i, none⟩ = some (.int .i64 (mv : Int)) := by rw [e2, midZ, if_neg (by omega), hmv]
            clear hmv e2
            by_cases hle : bv + sv < mv
            · have HP : Hid (∀ nq, MidR wd ws w.heap.size i (q + 1 - 1) ((wr.drewN nq).setCell ⟨w.heap.size, i, none⟩ (.int .i64 ((bv : Int) + (sv : Int))))) := fun nq =>
                MidR.set (w := wr.drewN nq) (HL2.out.kept rfl) hi (by rw [← midZ_put hq1 (.inr (by rw [HMV.out, HO.out]; exact hle)), HO.out]; omega)
              have hlei : (bv : Int) + (sv : Int) < (mv : Int) := by omega
              have hm0 : ¬ (mv : Int) < 0 := by omega
              clear hq hle
              go_wp2_with fail
              go_quiet ((go_at_call 14; exact Calls.quiet_of_same (HBc.out _)))
              go_wp2
              go_roundw
              case rel => exact ⟨(belDraw HBy.out nq).setCell (p := ⟨w.heap.size, i, none⟩) (Nat.le_refl _) _, q + 1, by omega, by omega, by go_num, HP.out nq⟩
              case measure => simp [intOf]; omega
            · have HP : Hid (∀ nq, MidR wd ws w.heap.size i (q + 1 - 1) (wr.drewN nq)) := fun nq => by
                have h1 := HMy.out.kept (w' := wr.drewN nq) rfl
                exact ⟨h1.l, by rw [← midZ_skip hq1 hq (by rw [HMV.out, HO.out]; exact hle)]; exact h1.c⟩
              have hlei : ¬ (bv : Int) + (sv : Int) < (mv : Int) := by omega
              have hm0 : ¬ (mv : Int) < 0 := by omega
              clear hq hle
              go_wp2_with fail
              go_quiet ((go_at_call 14; exact Calls.quiet_of_same (HBc.out _)))
              go_wp2
              go_roundw
              case rel => exact ⟨belDraw HBy.out nq, q + 1, by omega, by omega, by go_num, HP.out nq⟩
              case measure => simp [intOf]; omega
        · have hgt : ¬ (q : Int) ≤ (ws.length : Int) - (i : Int) := by omega
          have HD : Hid (LstR wd ws w.heap.size i wr) := HMy.out.done hi (by omega)
          go_wp2
          go_roundw
          case rel => exact ⟨HBy.out, i, by omega, by go_num, HD.out⟩
          case measure => simp [intOf]
end Go.Proofs.YtmpfffpkjnjhdabDoor
