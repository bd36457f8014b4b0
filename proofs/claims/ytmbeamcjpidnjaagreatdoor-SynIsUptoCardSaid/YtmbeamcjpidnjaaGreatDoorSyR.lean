/- Package syn's reader of words: the next word; whether it is this one; a word that cannot stand. -/
import Derived.Test.YtmbeamcjpidnjaaGreatDoorSyQ
import Derived.Test.YtmbeamcjpidnjaaGreatDoorSyA
import Derived.Test.YtmbeamcjpidnjaaGreatDoorMems
import Derived.Test.YtmbeamcjpidnjaaGreatDoorShg
import Derived.BigRegion
import Derived.Laws.Strings2
namespace Go.Proofs.YtmbeamcjpidnjaaGreatDoor
open Go Go.RowKit

/-- Where a reader's words and their places lie. -/
structure LwK where
  gw : Nat
  cw : Nat
  ga : Nat
  ca : Nat
/-- A reader in memory: its words (and an empty one behind them), the places, where it is. -/
structure Ry (K : LwK) (ws : List Wd) (pl : Nat → Nat) (b q : Nat) (w : World) : Prop where
  le : q ≤ ws.length
  c0 : w.cell? ⟨b, 0, none⟩ = some (.slice (some ⟨K.gw, q, none⟩) (ws.length + 1 - q) (K.cw - q))
  c1 : w.cell? ⟨b, 1, none⟩ = some (.slice (some ⟨K.ga, q, none⟩) (ws.length + 1 - q) (K.ca - q))
  row : RowN w b 2
  wd : ∀ i, i ≤ ws.length → w.cell? ⟨K.gw, i, none⟩ = some (.string (wbS (ws.getD i [])))
  pt : ∀ i, i ≤ ws.length → w.cell? ⟨K.ga, i, none⟩ = some (.int .i64 (pl i : Int))
  nw : K.gw ≠ b
  na : K.ga ≠ b
  lw : ws.length < K.cw
  la : ws.length < K.ca
  few : ws.length ≤ 60000
section
variable {K : LwK} {ws : List Wd} {pl : Nat → Nat} {b q : Nat} {w w' : World}
theorem Ry.gwlt (h : Ry K ws pl b q w) : K.gw < w.heap.size := World.block_lt_of_cell? _ _ (h.wd 0 (Nat.zero_le _))
theorem Ry.galt (h : Ry K ws pl b q w) : K.ga < w.heap.size := World.block_lt_of_cell? _ _ (h.pt 0 (Nat.zero_le _))
theorem Ry.keepB {B : Nat} (h : Ry K ws pl b q w) (hb : Below B w w') (h1 : b < B) (h2 : K.gw < B) (h3 : K.ga < B) : Ry K ws pl b q w' :=
  ⟨h.le, (hb.cell (p := ⟨b, 0, none⟩) h1).trans h.c0, (hb.cell (p := ⟨b, 1, none⟩) h1).trans h.c1, h.row.kept (hb.block b h1), fun i hi => (hb.cell (p := ⟨K.gw, i, none⟩) h2).trans (h.wd i hi), fun i hi => (hb.cell (p := ⟨K.ga, i, none⟩) h3).trans (h.pt i hi), h.nw, h.na, h.lw, h.la, h.few⟩
theorem Ry.keep (h : Ry K ws pl b q w) (hb : Below w.heap.size w w') : Ry K ws pl b q w' := h.keepB hb h.row.lt h.gwlt h.galt
/-- One word further. -/
theorem Ry.step (h : Ry K ws pl b q w) (hq : q < ws.length) {w' : World} (hw' : w' = (w.setCell ⟨b, 0, none⟩ (.slice (some ⟨K.gw, q + 1, none⟩) (ws.length - q) (K.cw - q - 1))).setCell ⟨b, 1, none⟩ (.slice (some ⟨K.ga, q + 1, none⟩) (ws.length - q) (K.ca - q - 1))) : Ry K ws pl b (q + 1) w' := by
  subst hw'
  have e1 : ws.length + 1 - (q + 1) = ws.length - q := by omega
  refine ⟨hq, ?_, ?_, h.row.set.set, fun i hi => ?_, fun i hi => ?_, h.nw, h.na, h.lw, h.la, h.few⟩
  · rw [e1, Nat.sub_add_eq]
    exact (cso (.inr (by omega))).trans (css h.c0)
  · rw [e1, Nat.sub_add_eq]
    exact css ((cso (.inr (by omega))).trans h.c1)
  · exact (cso (.inl h.nw.symm)).trans ((cso (.inl h.nw.symm)).trans (h.wd i hi))
  · exact (cso (.inl h.na.symm)).trans ((cso (.inl h.na.symm)).trans (h.pt i hi))
end
theorem getD_at {ws : List Wd} {q : Nat} (h : q < ws.length) : ws.getD q [] = ws[q] := by simp [h]
theorem getD_end {ws : List Wd} {q : Nat} (h : ws.length ≤ q) : ws.getD q [] = [] := by simp [h]
set_option maxRecDepth 100000 in
theorem yword_any {K : LwK} {ws : List Wd} {pl : Nat → Nat} {b q : Nat} {w : World} (h : Ry K ws pl b q w) :
    Calls Tryz.prog 71 #[.pointer (some ⟨b, 0, none⟩)] w fun e w' => e = .returned (.string (wbS (ws.getD q []))) ∧ w' = w := by
  have c0 := h.c0
  have d0 := h.wd q h.le
  generalize wbS (ws.getD q []) = S at d0 ⊢
  have hn : 0 < ws.length + 1 - q := by have := h.le; omega
  generalize ws.length + 1 - q = n at c0 hn
  generalize K.cw - q = c at c0
  clear h
  go_enter Tryz.func71, Tryz.ntmps71
  go_wp2
  go_ret
  exact ⟨rfl, rfl⟩
set_option maxRecDepth 100000 in
theorem st_tail1 (b o n c : Nat) (hn : 1 ≤ n) (hc : 1 < c) (W : World) :
    (Instr.slice 41 (.slice (some ⟨b, o, none⟩) n c) (some (.int .i64 1)) none none).run Tryz.prog W = .ok (.slice (some ⟨b, o + 1, none⟩) (n - 1) (c - 1)) W := by
  rw [run_slice_l W 41 _ n c Tryz.underlying41 .i64 1 (by omega) (by omega)]
  have hz : (sizeOf (Tryz.prog.elem 41)).run Tryz.prog W = .ok 1 W := by kernel_rfl
  rw [hz]
  have ha : (⟨b, o, none⟩ : Addr).add 1 = ⟨b, o + 1, none⟩ := rfl
  have e2 : ¬ c = 1 := by omega
  simp [Result.andThen, sliced, ha, e2]
set_option maxRecDepth 100000 in
theorem in_tail1 (b o n c : Nat) (hn : 1 ≤ n) (hc : 1 < c) (W : World) :
    (Instr.slice 42 (.slice (some ⟨b, o, none⟩) n c) (some (.int .i64 1)) none none).run Tryz.prog W = .ok (.slice (some ⟨b, o + 1, none⟩) (n - 1) (c - 1)) W := by
  rw [run_slice_l W 42 _ n c Tryz.underlying42 .i64 1 (by omega) (by omega)]
  have hz : (sizeOf (Tryz.prog.elem 42)).run Tryz.prog W = .ok 1 W := by kernel_rfl
  rw [hz]
  have ha : (⟨b, o, none⟩ : Addr).add 1 = ⟨b, o + 1, none⟩ := rfl
  have e2 : ¬ c = 1 := by omega
  simp [Result.andThen, sliced, ha, e2]
set_option maxRecDepth 100000 in
set_option maxHeartbeats 2000000 in
theorem ynext_any {K : LwK} {ws : List Wd} {pl : Nat → Nat} {b q : Nat} {w : World} (h : Ry K ws pl b q w) (hq : q < ws.length) :
    Calls Tryz.prog 142 #[.pointer (some ⟨b, 0, none⟩)] w fun e w' => e = .returned (.string (wbS ws[q])) ∧ Ry K ws pl b (q + 1) w' ∧ But w.heap.size b w w' := by
  have c0 := h.c0
  have c1 := h.c1
  have d0 := h.wd q h.le
  rw [getD_at hq] at d0
  have f0 : w.frozen? ⟨b, 0, none⟩ = false := h.row.frozen
  have f1 : w.frozen? ⟨b, 1, none⟩ = false := h.row.frozen
  have H := (show Hid (_) from h)
  have lw := h.lw
  have la := h.la
  generalize wbS ws[q] = S at d0 ⊢
  have HN1 : Hid (ws.length + 1 - q - 1 = ws.length - q) := (show _ = _ by omega)
  have hn : 1 ≤ ws.length + 1 - q := by omega
  have s0 := st_tail1 K.gw q (ws.length + 1 - q) (K.cw - q) hn (by omega)
  have s1 := in_tail1 K.ga q (ws.length + 1 - q) (K.ca - q) hn (by omega)
  rw [HN1.out] at s0 s1
  generalize ws.length + 1 - q = n at c0 c1 s0 s1 hn
  have HX : Hid (∀ w', w' = (w.setCell ⟨b, 0, none⟩ (.slice (some ⟨K.gw, q + 1, none⟩) (ws.length - q) (K.cw - q - 1))).setCell ⟨b, 1, none⟩ (.slice (some ⟨K.ga, q + 1, none⟩) (ws.length - q) (K.ca - q - 1)) → Ry K ws pl b (q + 1) w' ∧ But w.heap.size b w w') := fun w' hw => ⟨H.out.step hq hw, by
    subst hw
    exact ((But.refl _ _ _).setCell (p := ⟨b, 0, none⟩) (.inl rfl) _).setCell (p := ⟨b, 1, none⟩) (.inl rfl) _⟩
  generalize ws.length - q = m at s0 s1 HX
  generalize K.cw - q = cw at c0 s0 HX
  generalize K.ca - q = ca at c1 s1 HX
  clear h lw la hq
  go_enter Tryz.func142, Tryz.ntmps142
  go_wp2_with fail
  go_region
  go_wp2
  go_ret
  obtain ⟨h1, h2⟩ := HX.out _ rfl
  exact ⟨rfl, h1.keep (Below.drew (Below.refl _ _)), h2.drew⟩
/-- A word that cannot stand, told by a panic. -/
abbrev misf (k : Nat) : PanicEntry := { v := .iface 120 (.agg #[.int .i64 (k : Int)]), recovered := false }
set_option maxRecDepth 100000 in
theorem yfail_any {K : LwK} {ws : List Wd} {pl : Nat → Nat} {b q : Nat} {w : World} (h : Ry K ws pl b q w) :
    Calls Tryz.prog 145 #[.pointer (some ⟨b, 0, none⟩)] w fun e w' => e = .panicked [misf (pl q)] ∧ w' = w := by
  have c1 := h.c1
  have d0 := h.pt q h.le
  have hn : 0 < ws.length + 1 - q := by have := h.le; omega
  generalize ws.length + 1 - q = n at c1 hn
  generalize K.ca - q = c at c1
  clear h
  go_enter Tryz.func145, Tryz.ntmps145
  go_wp2
  exact ⟨rfl, rfl, rfl⟩
set_option maxRecDepth 100000 in
theorem ybegins_any (s : Wd) (lo hi : Nat) (w : World) (h1 : 1 ≤ lo) :
    Calls Tryz.prog 167 #[.string (wbS s), .int .u8 (lo : Int), .int .u8 (hi : Int)] w fun e w' => e = .returned (.bool (decide (lo ≤ (s.headD 0).toNat) && decide ((s.headD 0).toNat ≤ hi))) ∧ w' = w := by
  cases s with
  | nil =>
    have h2 : (decide (lo ≤ (([] : Wd).headD 0).toNat) && decide ((([] : Wd).headD 0).toNat ≤ hi)) = false := by
      have : ¬ lo ≤ (([] : Wd).headD 0).toNat := by show ¬ lo ≤ 0; omega
      simp only [decide_eq_false this, Bool.false_and]
    rw [h2]
    have e0 : wbS [] = ⟨#[]⟩ := rfl
    rw [e0]
    clear h2
    go_enter Tryz.func167, Tryz.ntmps167
    go_wp2
    go_ret
    exact ⟨rfl, rfl⟩
  | cons c r =>
    have hsz : 0 < (wbS (c :: r)).size := by rw [← btL_len]; show 0 < (c :: r).length; simp
    have hat : ∀ h : 0 < (wbS (c :: r)).size, (wbS (c :: r))[0] = c := fun _ => rfl
    have hne : ¬ (wbS (c :: r)).toList = [] := by rw [Lib.toList_data]; show ¬ (c :: r) = []; simp
    have hne2 : ((wbS (c :: r)).toList == []) = false := by rw [Lib.toList_data]; rfl
    have hnl : (⟨#[]⟩ : ByteArray).toList = [] := by rw [Lib.toList_data]
    show Calls _ _ _ _ fun e w' => e = .returned (.bool (decide (lo ≤ c.toNat) && decide (c.toNat ≤ hi))) ∧ w' = w
    have HR : Hid (∀ (a b : Bool), a = decide ((lo : Int) ≤ (c.toNat : Int)) → b = decide ((c.toNat : Int) ≤ (hi : Int)) → (decide (lo ≤ c.toNat) && decide (c.toNat ≤ hi)) = (a && b)) := fun a b ha hb => by
      subst ha hb
      have e1 : decide ((lo : Int) ≤ (c.toNat : Int)) = decide (lo ≤ c.toNat) := by congr 1; simp
      have e2 : decide ((c.toNat : Int) ≤ (hi : Int)) = decide (c.toNat ≤ hi) := by congr 1; simp
      rw [e1, e2]
    generalize (decide (lo ≤ c.toNat) && decide (c.toNat ≤ hi)) = R at HR ⊢
    generalize wbS (c :: r) = S at hsz hat hne hne2 ⊢
    have hat0 := hat hsz
    clear hat
    by_cases g1 : (lo : Int) ≤ (c.toNat : Int)
    · by_cases g2 : (c.toNat : Int) ≤ (hi : Int)
      · have hr := HR.out true true (decide_eq_true g1).symm (decide_eq_true g2).symm
        simp only [Bool.and_self] at hr
        subst hr
        go_enter Tryz.func167, Tryz.ntmps167
        go_wp2
        go_ret
        exact ⟨rfl, rfl⟩
      · have hr := HR.out true false (decide_eq_true g1).symm (decide_eq_false g2).symm
        simp only [Bool.and_false] at hr
        subst hr
        go_enter Tryz.func167, Tryz.ntmps167
        go_wp2
        go_ret
        exact ⟨rfl, rfl⟩
    · have hr := HR.out false (decide ((c.toNat : Int) ≤ (hi : Int))) (decide_eq_false g1).symm rfl
      simp only [Bool.false_and] at hr
      subst hr
      go_enter Tryz.func167, Tryz.ntmps167
      go_wp2
      go_ret
      exact ⟨rfl, rfl⟩
set_option maxRecDepth 100000 in
theorem yisNum_any (s : Wd) (w : World) : Calls Tryz.prog 187 #[.string (wbS s)] w fun e w' => e = .returned (.bool (numW s)) ∧ w' = w := by
  have HB : Hid (∀ W, Calls Tryz.prog 167 #[.string (wbS s), .int .u8 48, .int .u8 57] W fun e w' => e = .returned (.bool (numW s)) ∧ w' = W) := fun W => ybegins_any s 48 57 W (by omega)
  generalize numW s = R at HB ⊢
  go_enter Tryz.func187, Tryz.ntmps187
  go_wp2_with fail
  refine (HB.out _).mono ?_
  rintro e w1 ⟨rfl, rfl⟩
  go_wp2
  go_ret
  exact ⟨rfl, rfl⟩
theorem nm_let : nmW letW = false := by decide
set_option maxRecDepth 100000 in
theorem yisName_any (s : Wd) (hs : s = [] ∨ isTok s) (w : World) : Calls Tryz.prog 144 #[.string (wbS s)] w fun e w' => e = .returned (.bool (nmW s)) ∧ w' = w := by
  by_cases hl : s = letW
  · subst hl
    rw [nm_let]
    have e0 : wbS letW = ⟨#[108, 101, 116]⟩ := rfl
    rw [e0]
    clear hs
    go_enter Tryz.func144, Tryz.ntmps144
    go_wp2
    go_ret
    exact ⟨rfl, rfl⟩
  · have hn : nmW s = lowB (s.headD 0) := by
      rcases hs with rfl | hs
      · decide
      · rw [tok_name hs]; simp [hl]
    rw [hn]
    have HB : Hid (∀ W, Calls Tryz.prog 167 #[.string (wbS s), .int .u8 97, .int .u8 122] W fun e w' => e = .returned (.bool (lowB (s.headD 0))) ∧ w' = W) := fun W => ybegins_any s 97 122 W (by omega)
    have hne2 : ((wbS s).toList == [108, 101, 116]) = false := by
      rw [Lib.toList_data]
      show (s == [108, 101, 116]) = false
      simpa using hl
    have hne : ¬ (wbS s).toList = [108, 101, 116] := by
      intro e; rw [e] at hne2; cases hne2
    have hlt : (⟨#[108, 101, 116]⟩ : ByteArray).toList = [108, 101, 116] := by rw [Lib.toList_data]
    generalize lowB (s.headD 0) = R at HB ⊢
    generalize wbS s = S at HB hne hne2 ⊢
    clear hs hn hl
    go_enter Tryz.func144, Tryz.ntmps144
    go_wp2_with fail
    refine (HB.out _).mono ?_
    rintro e w1 ⟨rfl, rfl⟩
    go_wp2
    go_ret
    exact ⟨rfl, rfl⟩
set_option maxRecDepth 100000 in
theorem yisNote_any (s : Wd) (w : World) : Calls Tryz.prog 102 #[.string (wbS s)] w fun e w' => e = .returned (.bool (decide (s.headD 0 = 35))) ∧ w' = w := by
  have HB : Hid (∀ W, Calls Tryz.prog 133 #[.string (wbS s), .string ⟨#[35]⟩] W fun e w' => e = .returned (.bool (decide (s.headD 0 = 35))) ∧ w' = W) := fun W => by
    have h := hasPrefix_sh (wbS s) ⟨#[35]⟩ W
    have e1 : Lib.hasPrefix (wbS s).data.toList (⟨#[35]⟩ : ByteArray).data.toList = decide (s.headD 0 = 35) := by
      show Lib.hasPrefix s [35] = _
      cases s with
      | nil => decide
      | cons c r =>
        show ([35] : Wd).isPrefixOf (c :: r) = decide (c = 35)
        simp only [List.isPrefixOf, Bool.and_true]
        rw [Bool.eq_iff_iff, beq_iff_eq, decide_eq_true_eq]
        exact ⟨Eq.symm, Eq.symm⟩
    rw [e1] at h
    exact h
  generalize decide (s.headD 0 = 35) = R at HB ⊢
  go_enter Tryz.func102, Tryz.ntmps102
  go_wp2_with fail
  refine (HB.out _).mono ?_
  rintro e w1 ⟨rfl, rfl⟩
  go_wp2
  go_ret
  exact ⟨rfl, rfl⟩
section
variable {K : LwK} {ws : List Wd} {pl : Nat → Nat} {b q : Nat} {w : World}
theorem wb_beq (a c : Wd) : ((wbS a).toList == (wbS c).toList) = (a == c) := by
  rw [Lib.toList_data, Lib.toList_data]; rfl
set_option maxRecDepth 100000 in
theorem yhas_yes (h : Ry K ws pl b q w) (s : Wd) (hs : ws[q]? = some s) :
    Calls Tryz.prog 104 #[.pointer (some ⟨b, 0, none⟩), .string (wbS s)] w fun e w' => e = .returned (.bool true) ∧ Ry K ws pl b (q + 1) w' ∧ But w.heap.size b w w' := by
  obtain ⟨hq, he⟩ := List.getElem?_eq_some_iff.1 hs
  have HW : Hid (Calls Tryz.prog 71 #[.pointer (some ⟨b, 0, none⟩)] w fun e w' => e = .returned (.string (wbS s)) ∧ w' = w) := by
    have h1 := yword_any h
    rw [getD_at hq, he] at h1
    exact h1
  have HN : Hid (Calls Tryz.prog 142 #[.pointer (some ⟨b, 0, none⟩)] w fun e w' => e = .returned (.string (wbS s)) ∧ Ry K ws pl b (q + 1) w' ∧ But w.heap.size b w w') := by
    have h1 := ynext_any h hq
    rw [he] at h1
    exact h1
  have hb : ((wbS s).toList == (wbS s).toList) = true := by simp
  generalize wbS s = S at HW HN hb ⊢
  clear h hs hq he
  go_enter Tryz.func104, Tryz.ntmps104
  go_wp2_with fail
  refine HW.out.mono ?_
  rintro e w1 ⟨rfl, rfl⟩
  go_wp2_with fail
  refine HN.out.mono ?_
  rintro e w2 ⟨rfl, h2, b2⟩
  have K2 := (show Hid (_) from And.intro h2 b2)
  clear h2 b2
  go_wp2
  go_ret
  exact ⟨rfl, K2.out⟩
set_option maxRecDepth 100000 in
theorem yhas_no (h : Ry K ws pl b q w) (s : Wd) (h0 : s ≠ []) (hs : ws[q]? ≠ some s) :
    Calls Tryz.prog 104 #[.pointer (some ⟨b, 0, none⟩), .string (wbS s)] w fun e w' => e = .returned (.bool false) ∧ w' = w := by
  have HW : Hid (Calls Tryz.prog 71 #[.pointer (some ⟨b, 0, none⟩)] w fun e w' => e = .returned (.string (wbS (ws.getD q []))) ∧ w' = w) := yword_any h
  have hb : ((wbS (ws.getD q [])).toList == (wbS s).toList) = false := by
    rw [wb_beq]
    by_cases hq : q < ws.length
    · rw [getD_at hq]
      rw [List.getElem?_eq_getElem hq] at hs
      simpa using hs
    · rw [getD_end (by omega)]
      cases s with
      | nil => exact absurd rfl h0
      | cons => rfl
  have hb2 : ¬ (wbS (ws.getD q [])).toList = (wbS s).toList := by
    intro e; rw [e] at hb; simp at hb
  generalize wbS (ws.getD q []) = X at HW hb hb2
  generalize wbS s = S at hb hb2 ⊢
  clear h hs h0
  go_enter Tryz.func104, Tryz.ntmps104
  go_wp2_with fail
  refine HW.out.mono ?_
  rintro e w1 ⟨rfl, rfl⟩
  go_wp2
  go_ret
  exact ⟨rfl, rfl⟩
set_option maxRecDepth 100000 in
theorem ymust_yes (h : Ry K ws pl b q w) (s : Wd) (hs : ws[q]? = some s) :
    Calls Tryz.prog 106 #[.pointer (some ⟨b, 0, none⟩), .string (wbS s)] w fun e w' => e = .returned (.tuple #[]) ∧ Ry K ws pl b (q + 1) w' ∧ But w.heap.size b w w' := by
  have HH : Hid (Calls Tryz.prog 104 #[.pointer (some ⟨b, 0, none⟩), .string (wbS s)] w fun e w' => e = .returned (.bool true) ∧ Ry K ws pl b (q + 1) w' ∧ But w.heap.size b w w') := yhas_yes h s hs
  generalize wbS s = S at HH ⊢
  clear h hs
  go_enter Tryz.func106, Tryz.ntmps106
  go_wp2_with fail
  refine HH.out.mono ?_
  rintro e w2 ⟨rfl, h2, b2⟩
  have K2 := (show Hid (_) from And.intro h2 b2)
  clear h2 b2
  go_wp2
  go_end0
  exact ⟨rfl, K2.out⟩
set_option maxRecDepth 100000 in
theorem ymust_no (h : Ry K ws pl b q w) (s : Wd) (h0 : s ≠ []) (hs : ws[q]? ≠ some s) :
    Calls Tryz.prog 106 #[.pointer (some ⟨b, 0, none⟩), .string (wbS s)] w fun e w' => e = .panicked [misf (pl q)] ∧ w' = w := by
  have HH : Hid (Calls Tryz.prog 104 #[.pointer (some ⟨b, 0, none⟩), .string (wbS s)] w fun e w' => e = .returned (.bool false) ∧ w' = w) := yhas_no h s h0 hs
  have HF : Hid (Calls Tryz.prog 145 #[.pointer (some ⟨b, 0, none⟩)] w fun e w' => e = .panicked [misf (pl q)] ∧ w' = w) := yfail_any h
  generalize wbS s = S at HH ⊢
  clear h hs h0
  go_enter Tryz.func106, Tryz.ntmps106
  go_wp2_with fail
  refine HH.out.mono ?_
  rintro e w2 ⟨rfl, rfl⟩
  go_wp2_with fail
  refine HF.out.mono ?_
  rintro e w2 ⟨rfl, rfl⟩
  go_wp2
  exact ⟨rfl, rfl, rfl⟩
end
end Go.Proofs.YtmbeamcjpidnjaaGreatDoor
