/- Some texts as one: RdS, RdN, RdR. -/
import Derived.Test.YtmbeamcjpidnjaaGreatDoorRdAs
import Derived.Test.YtmbeamcjpidnjaaGreatDoorLexTs
import Derived.Test.YtmbeamcjpidnjaaGreatDoorTreRs
namespace Go.Proofs.YtmbeamcjpidnjaaGreatDoor
open Go Go.RowKit

theorem tok_num {w : Wd} (h : isTok w) (hn : numW w = true) : (∀ b ∈ w, figB b = true) ∧ w.length ≤ 6 := by
  obtain ⟨c, r, rfl, _, ho, hl, _⟩ := h
  have hf : figB c = true := hn
  have hlow : lowB c = false := fig_low hf
  simp only [tkOk, hlow, hf, if_true, Bool.false_eq_true, if_false, Bool.and_eq_true, decide_eq_true_eq] at ho
  simp only [tkLen, hlow, hf, if_true, Bool.false_eq_true, if_false, List.length_cons] at hl
  have hall : r.takeWhile figB = r := by
    have h1 := tw_is (p := figB) r
    rw [show (r.takeWhile figB).length = r.length by omega, List.take_length] at h1
    exact h1.symm
  refine ⟨fun b hb => ?_, by simp only [List.length_cons]; omega⟩
  rcases List.mem_cons.1 hb with rfl | hb
  · exact hf
  · rw [← hall] at hb
    have hta : ∀ (l : List UInt8) x, x ∈ l.takeWhile figB → figB x = true := by
      intro l
      induction l with
      | nil => intro x hx; cases hx
      | cons a l ih =>
        intro x hx
        rw [List.takeWhile_cons] at hx
        by_cases ha : figB a = true
        · rw [if_pos ha] at hx
          rcases List.mem_cons.1 hx with rfl | hx
          · exact ha
          · exact ih x hx
        · rw [if_neg ha] at hx; cases hx
    exact hta r b hb
theorem wb_at {w : Wd} {S : ByteArray} (h : wbS w = S) (h0 : w ≠ []) : 0 < S.size ∧ ∀ h1 : 0 < S.size, figB S[0] = numW w := by
  subst h
  cases w with
  | nil => exact absurd rfl h0
  | cons c r => exact ⟨by rw [← btL_len]; show 0 < (c :: r).length; simp, fun _ => rfl⟩
set_option maxRecDepth 100000 in
set_option maxHeartbeats 2000000 in
theorem single_end {b : Nat} {A : Option Addr} {c : Nat} {ws : List Wd} {p : Nat} (hp : p ≤ ws.length) (he : ws.length ≤ p) : SinC b A c ws p := by
  intro w h
  have HD := (show Hid (_) from h)
  obtain ⟨c0, c1, c2, hrow, _, _⟩ := h
  have f2 : w.frozen? ⟨b, 2, none⟩ = false := hrow.frozen
  have hpi : (ws.length : Int) ≤ (p : Int) := by omega
  have HPE : Hid (p = ws.length) := (show p = ws.length by omega)
  clear hrow he
  show Calls _ _ _ _ _
  go_enter Tryz.func69, Tryz.ntmps69
  go_wp2_with fail
  go_quiet (fail)
  go_wp2
  go_ret
  have hn : ws.drop p = [] := List.drop_eq_nil_of_le (by rw [HPE.out]; exact Nat.le_refl _)
  refine ⟨.bad [], [], none, 0, rfl, by rw [hn]; exact .sinN, TdsO.nil _ _, by simp [Rs.rest], (fun _ _ _ e => by cases e), ?_, ?_⟩
  · have e1 : ws.length - (Rs.bad []).rest.length = p := by rw [HPE.out]; rfl
    rw [e1]
    exact (HD.out.keep (belDraw (Below.refl _ w) _)).setBad true
  · exact (But.of (belDraw (Below.refl _ w) _)).setCell (p := ⟨b, 2, none⟩) (.inl rfl) _
/-- Behind a bracket that was opened. -/
theorem paren_got {b : Nat} {A : Option Addr} {c : Nat} {ws : List Wd} {p : Nat} {w w1 w4 w5 : World} {r : Rs} {ns : List Td} {v : Value} (hd : ws.drop p = [40] :: ws.drop (p + 1)) (hlt : p < ws.length) (hbw : b < w.heap.size) (b1 : But w.heap.size b w w1) (hG : Got b A c ws (.level 0) (p + 1) w1 r ns v w4)
    (hR : Rd w5 b A c ws (wantAt ws (ws.length - r.rest.length) r.isBad [41]) (wantBad ws (ws.length - r.rest.length) r.isBad [41])) (b5 : But w4.heap.size b w4 w5) : ∃ r', Got b A c ws .single p w r' ns v w5 := by
  have hsf := pr_suf hG.pr
  have h1 := rest_at hsf.1
  have hn := hG.n
  rw [drop_len (by omega)] at hn
  have hs1 := b1.size
  have hs4 := hG.bt.size
  have ho : TdsO w.heap.size v ns w5 := (hG.o.down hs1).but b5 hbw
  have hbt : But w.heap.size b w w5 := (b1.trans (hG.bt.mono hs1)).trans (b5.mono (by omega))
  have hdl : (ws.drop p).length = ws.length - p := drop_len (by omega)
  cases r with
  | bad u =>
    simp only [Rs.rest, Rs.isBad, wantAt, wantBad, Bool.not_true, Bool.false_and, Bool.false_eq_true, if_false, Bool.not_false] at *
    exact ⟨.bad u, by rw [hd]; exact .sPB hG.pr, ho, by rw [hdl]; simp only [Rs.rest]; omega, (fun _ _ _ e => by cases e), hR, hbt⟩
  | ok m ms u =>
    have he := hG.e m ms u rfl
    subst he
    simp only [Rs.rest, Rs.isBad] at *
    have hh : ws[ws.length - u.length]? = u.head? := by rw [← head_drop, h1]
    unfold wantAt wantBad at hR
    rw [hh] at hR
    cases hc : (!false && (u.head? == some ([41] : Wd))) with
    | true =>
      rw [hc] at hR
      simp only [if_true, Bool.not_true] at hR
      obtain ⟨u', rfl⟩ : ∃ u', u = [41] :: u' := by
        cases u with
        | nil => simp at hc
        | cons a u' =>
          have : a = [41] := by simpa using hc
          exact ⟨u', by rw [this]⟩
      simp only [List.length_cons] at hn hR
      have e1 : ws.length - (u'.length + 1) + 1 = ws.length - u'.length := by omega
      rw [e1] at hR
      exact ⟨.ok 0 ms u', by rw [hd]; exact .sPC hG.pr, ho, by rw [hdl]; simp only [Rs.rest]; omega, (fun _ _ _ e => by cases e; rfl), hR, hbt⟩
    | false =>
      rw [hc] at hR
      simp only [Bool.false_eq_true, if_false, Bool.not_false] at hR
      have hne : u.head? ≠ some [41] := fun e => by
        rw [e] at hc
        exact absurd hc (by decide)
      exact ⟨.bad u, by rw [hd]; exact .sPX hG.pr hne, ho, by rw [hdl]; simp only [Rs.rest]; omega, (fun _ _ _ e => by cases e), hR, hbt⟩
/-- Behind what was read up to a bracket: a node ahead of it. -/
theorem list_got {b : Nat} {A : Option Addr} {c : Nat} {ws : List Wd} {p q : Nat} {e : Wd} {w w1 w4 w5 : World} {r : Rs} {n : Nat} {ns : List Td} {v v5 : Value} {x : Td} (hpq : p < q) (hq : q ≤ ws.length) (hbw : b < w.heap.size) (b1 : But w.heap.size b w w1) (hG : GotL b A c ws e q w1 r n ns v w4)
    (hB : ∀ u, PR (.args e 0 []) (ws.drop q) (.bad u) → PR .single (ws.drop p) (.bad u)) (hO : ∀ u, PR (.args e 0 []) (ws.drop q) (.ok n ns u) → PR .single (ws.drop p) (.ok 0 (x :: ns) u))
    (b5 : Below w.heap.size w4 w5) (ho : TdsO w.heap.size v5 ([x] ++ ns) w5) : ∃ r', Got b A c ws .single p w r' (x :: ns) v5 w5 := by
  have hsf := pr_suf hG.pr
  have hn := hG.nl
  rw [drop_len hq] at hn
  have hs1 := b1.size
  have hrd := hG.rd.keepB b5 hbw
  have hbt : But w.heap.size b w w5 := (b1.trans (hG.bt.mono hs1)).trans (But.of b5)
  have hdl : (ws.drop p).length = ws.length - p := drop_len (by omega)
  cases r with
  | bad u =>
    simp only [Rs.rest, Rs.isBad] at *
    exact ⟨.bad u, hB u hG.pr, ho, by rw [hdl]; simp only [Rs.rest, List.length_cons]; omega, (fun _ _ _ e => by cases e), hrd, hbt⟩
  | ok m ms u =>
    obtain ⟨he, hm⟩ := hG.ev m ms u rfl
    subst he hm
    simp only [Rs.rest, Rs.isBad] at *
    exact ⟨.ok 0 (x :: ms) u, hO u hG.pr, ho, by rw [hdl]; simp only [Rs.rest, List.length_cons]; omega, (fun _ _ _ e => by cases e; rfl), hrd, hbt⟩
set_option maxRecDepth 100000 in
set_option maxHeartbeats 8000000 in
theorem single_bd {b : Nat} {A : Option Addr} {c : Nat} {ws : List Wd} {p : Nat} (hl : ws.length ≤ 60000) (hlt : p < ws.length) (hne : ws[p] ≠ []) (h1 : ws[p] ≠ [40]) (h2 : ws[p] ≠ [91]) (h3 : numW ws[p] = false) (h4 : nmW ws[p] = false) : SinC b A c ws p := by
  intro w h
  have HD := (show Hid (_) from h)
  have hbw : b < w.heap.size := h.row.lt
  have f1 : w.frozen? ⟨b, 1, none⟩ = false := h.row.frozen
  have f2 : w.frozen? ⟨b, 2, none⟩ = false := h.row.frozen
  obtain ⟨c0, c1, c2, _, hw, _⟩ := h
  have hpi : ¬ (ws.length : Int) ≤ (p : Int) := by omega
  have hpi2 : (p : Int) < (ws.length : Int) := by omega
  have HDR : Hid (ws.drop p = ws[p] :: ws.drop (p + 1)) := List.drop_eq_getElem_cons hlt
  obtain ⟨ba, oa, rfl, hba, d0⟩ := hw p (by rw [List.length_map]; exact hlt)
  rw [List.getElem_map] at d0
  have HNW : Hid (nameT (wbS ws[p]) = nmW ws[p]) := (show nameT (wbS ws[p]) = nmW ws[p] from rfl)
  have hq40 : ((wbS ws[p]).toList == [40]) = (ws[p] == [40]) := by rw [Lib.toList_data]; rfl
  have hq91 : ((wbS ws[p]).toList == [91]) = (ws[p] == [91]) := by rw [Lib.toList_data]; rfl
  generalize hX : wbS ws[p] = X at d0 HNW hq40 hq91
  obtain ⟨hx0, hx1⟩ := wb_at hX hne
  have HX : Hid (wbS ws[p] = X) := hX
  have hx0i : (0 : Int) < (X.size : Int) := by omega
  have HFI : Hid (∀ W : World, Calls Tryz.prog 68 #[.int .u8 (X[0].toNat : Int)] W fun e w' => e = .returned (.bool (numW ws[p])) ∧ W = w') := fun W => by
    have := rfigure_any X[0] W
    rw [hx1 hx0] at this
    exact this
  have HNM : Hid (∀ W : World, Calls Tryz.prog 33 #[.string X] W fun e w' => e = .returned (.bool (nmW ws[p])) ∧ W = w') := fun W => by
    have := rIsName_any X W
    rw [HNW.out] at this
    exact this
  have HBN : Hid (∀ q', Below w.heap.size w (w.drewN q')) := fun q' => belDraw (Below.refl _ w) q'
  have k1 : (ws[p] == [40]) = false := by simpa using h1
  have k2 : (ws[p] == [91]) = false := by simpa using h2
  rw [k1] at hq40
  rw [k2] at hq91
  rw [h3] at HFI
  rw [h4] at HNM
  have HPR : Hid (PR .single (ws.drop p) (.bad (ws.drop p))) := by
    show PR _ _ _
    rw [HDR.out]
    exact .sBad h1 h2 h3 h4
  clear h1 h2 h3 h4 k1 k2
  clear hX hx1 hne hw HNW
  show Calls _ _ _ _ _
  go_enter Tryz.func69, Tryz.ntmps69
  go_wp2_with fail
  go_quiet (fail)
  go_wp2_with fail
  go_quiet (fail)
  go_wp2_with fail
  refine (HNM.out _).mono ?_
  rintro e w1 ⟨rfl, rfl⟩
  go_wp2_with fail
  refine (HFI.out _).mono ?_
  rintro e w1 ⟨rfl, rfl⟩
  go_wp2
  go_ret
  have hdl : (ws.drop p).length = ws.length - p := drop_len (by omega)
  have e1 : ws.length - (Rs.bad (ws.drop p)).rest.length = p := by simp only [Rs.rest, hdl]; omega
  refine ⟨.bad (ws.drop p), [], none, 0, rfl, HPR.out, TdsO.nil _ _, by simp [Rs.rest], (fun _ _ _ e => by cases e), ?_, ?_⟩
  · rw [e1]
    exact (HD.out.keep (belDraw (Below.refl _ w) _)).setBad true
  · exact (But.of (belDraw (Below.refl _ w) _)).setCell (p := ⟨b, 2, none⟩) (.inl rfl) _
set_option maxRecDepth 100000 in
set_option maxHeartbeats 8000000 in
theorem single_par {b : Nat} {A : Option Addr} {c : Nat} {ws : List Wd} {p : Nat} (hl : ws.length ≤ 60000) (hlt : p < ws.length) (hne : ws[p] ≠ []) (h1 : ws[p] = [40]) (hL : LevC b A c ws 0 (p + 1)) : SinC b A c ws p := by
  intro w h
  have HD := (show Hid (_) from h)
  have hbw : b < w.heap.size := h.row.lt
  have f1 : w.frozen? ⟨b, 1, none⟩ = false := h.row.frozen
  have f2 : w.frozen? ⟨b, 2, none⟩ = false := h.row.frozen
  obtain ⟨c0, c1, c2, _, hw, _⟩ := h
  have hpi : ¬ (ws.length : Int) ≤ (p : Int) := by omega
  have hpi2 : (p : Int) < (ws.length : Int) := by omega
  have HDR : Hid (ws.drop p = ws[p] :: ws.drop (p + 1)) := List.drop_eq_getElem_cons hlt
  obtain ⟨ba, oa, rfl, hba, d0⟩ := hw p (by rw [List.length_map]; exact hlt)
  rw [List.getElem_map] at d0
  have HNW : Hid (nameT (wbS ws[p]) = nmW ws[p]) := (show nameT (wbS ws[p]) = nmW ws[p] from rfl)
  have hq40 : ((wbS ws[p]).toList == [40]) = (ws[p] == [40]) := by rw [Lib.toList_data]; rfl
  have hq91 : ((wbS ws[p]).toList == [91]) = (ws[p] == [91]) := by rw [Lib.toList_data]; rfl
  generalize hX : wbS ws[p] = X at d0 HNW hq40 hq91
  obtain ⟨hx0, hx1⟩ := wb_at hX hne
  have HX : Hid (wbS ws[p] = X) := hX
  have hx0i : (0 : Int) < (X.size : Int) := by omega
  have HFI : Hid (∀ W : World, Calls Tryz.prog 68 #[.int .u8 (X[0].toNat : Int)] W fun e w' => e = .returned (.bool (numW ws[p])) ∧ W = w') := fun W => by
    have := rfigure_any X[0] W
    rw [hx1 hx0] at this
    exact this
  have HNM : Hid (∀ W : World, Calls Tryz.prog 33 #[.string X] W fun e w' => e = .returned (.bool (nmW ws[p])) ∧ W = w') := fun W => by
    have := rIsName_any X W
    rw [HNW.out] at this
    exact this
  have HBN : Hid (∀ q', Below w.heap.size w (w.drewN q')) := fun q' => belDraw (Below.refl _ w) q'
  have k1 : (ws[p] == [40]) = true := by rw [h1]; rfl
  rw [k1] at hq40
  have h3 : numW ws[p] = false := by rw [h1]; rfl
  have h4 : nmW ws[p] = false := by rw [h1]; exact name_40
  rw [h3] at HFI
  rw [h4] at HNM
  rw [h1] at HDR
  have HL := (show Hid (LevC b (some ⟨ba, oa, none⟩) c ws 0 (p + 1)) from hL)
  have HR1 : Hid (∀ q', Rd ((w.drewN q').setCell ⟨b, 1, none⟩ (.int .i64 ((p : Int) + 1))) b (some ⟨ba, oa, none⟩) c ws (p + 1) false) := fun q' => by
    have h2 := (HD.out.keep (belDraw (Below.refl _ w) q')).setAt (p + 1)
    rw [show ((p + 1 : Nat) : Int) = (p : Int) + 1 by omega] at h2
    exact h2
  have HB1 : Hid (∀ q', But w.heap.size b w ((w.drewN q').setCell ⟨b, 1, none⟩ (.int .i64 ((p : Int) + 1)))) := fun q' => (But.of (belDraw (Below.refl _ w) q')).setCell (p := ⟨b, 1, none⟩) (.inl rfl) _
  clear h1 h3 h4 k1 hL
  clear hX hx1 hne hw HNW
  show Calls _ _ _ _ _
  go_enter Tryz.func69, Tryz.ntmps69
  go_wp2_with fail
  go_quiet (fail)
  go_wp2_with fail
  go_quiet (fail)
  go_wp2_with fail
  refine (HNM.out _).mono ?_
  rintro e w1 ⟨rfl, rfl⟩
  go_wp2_with fail
  refine (HFI.out _).mono ?_
  rintro e w1 ⟨rfl, rfl⟩
  go_wp2_with fail
  refine (HL.out _ (HR1.out _)).mono ?_
  rintro e w4 ⟨r4, ns4, A4, c4, rfl, hG4⟩
  have HG4 := (show Hid (_) from hG4)
  have hb4 : b < w4.heap.size := hG4.rd.row.lt
  have HWN : Hid (Calls Tryz.prog 34 #[.pointer (some ⟨b, 0, none⟩), .string ⟨#[41]⟩] w4 fun e w' => (∃ v, e = .returned v) ∧ Rd w' b (some ⟨ba, oa, none⟩) c ws (wantAt ws (ws.length - r4.rest.length) r4.isBad [41]) (wantBad ws (ws.length - r4.rest.length) r4.isBad [41]) ∧ But w4.heap.size b w4 w') := rwant_any hG4.rd hl (by omega) [41]
  generalize hnl : ns4.length = n4
  have HNL : Hid (ns4.length = n4) := hnl
  clear hG4 hnl
  go_wp2_with fail
  refine HWN.out.mono ?_
  rintro e w5 ⟨⟨vv, rfl⟩, hR5, hb5⟩
  obtain ⟨r', hG⟩ := paren_got HDR.out hlt hbw (HB1.out _) HG4.out hR5 hb5
  have HG := (show Hid (_) from hG)
  clear hR5 hb5 hG HG4
  go_wp2
  go_ret
  exact ⟨r', ns4, A4, c4, by rw [HNL.out]; rfl, HG.out⟩
set_option maxRecDepth 100000 in
set_option maxHeartbeats 8000000 in
theorem single_lst {b : Nat} {A : Option Addr} {c : Nat} {ws : List Wd} {p : Nat} (hl : ws.length ≤ 60000) (hlt : p < ws.length) (hne : ws[p] ≠ []) (h1 : ws[p] = [91]) (hL : LisC b A c ws [93] (p + 1)) : SinC b A c ws p := by
  intro w h
  have HD := (show Hid (_) from h)
  have hbw : b < w.heap.size := h.row.lt
  have f1 : w.frozen? ⟨b, 1, none⟩ = false := h.row.frozen
  have f2 : w.frozen? ⟨b, 2, none⟩ = false := h.row.frozen
  obtain ⟨c0, c1, c2, _, hw, _⟩ := h
  have hpi : ¬ (ws.length : Int) ≤ (p : Int) := by omega
  have hpi2 : (p : Int) < (ws.length : Int) := by omega
  have HDR : Hid (ws.drop p = ws[p] :: ws.drop (p + 1)) := List.drop_eq_getElem_cons hlt
  obtain ⟨ba, oa, rfl, hba, d0⟩ := hw p (by rw [List.length_map]; exact hlt)
  rw [List.getElem_map] at d0
  have HNW : Hid (nameT (wbS ws[p]) = nmW ws[p]) := (show nameT (wbS ws[p]) = nmW ws[p] from rfl)
  have hq40 : ((wbS ws[p]).toList == [40]) = (ws[p] == [40]) := by rw [Lib.toList_data]; rfl
  have hq91 : ((wbS ws[p]).toList == [91]) = (ws[p] == [91]) := by rw [Lib.toList_data]; rfl
  generalize hX : wbS ws[p] = X at d0 HNW hq40 hq91
  obtain ⟨hx0, hx1⟩ := wb_at hX hne
  have HX : Hid (wbS ws[p] = X) := hX
  have hx0i : (0 : Int) < (X.size : Int) := by omega
  have HFI : Hid (∀ W : World, Calls Tryz.prog 68 #[.int .u8 (X[0].toNat : Int)] W fun e w' => e = .returned (.bool (numW ws[p])) ∧ W = w') := fun W => by
    have := rfigure_any X[0] W
    rw [hx1 hx0] at this
    exact this
  have HNM : Hid (∀ W : World, Calls Tryz.prog 33 #[.string X] W fun e w' => e = .returned (.bool (nmW ws[p])) ∧ W = w') := fun W => by
    have := rIsName_any X W
    rw [HNW.out] at this
    exact this
  have HBN : Hid (∀ q', Below w.heap.size w (w.drewN q')) := fun q' => belDraw (Below.refl _ w) q'
  have k1 : (ws[p] == [40]) = false := by rw [h1]; rfl
  have k2 : (ws[p] == [91]) = true := by rw [h1]; rfl
  rw [k1] at hq40
  rw [k2] at hq91
  have h3 : numW ws[p] = false := by rw [h1]; rfl
  have h4 : nmW ws[p] = false := by rw [h1]; exact name_91
  rw [h3] at HFI
  rw [h4] at HNM
  rw [h1] at HDR
  have HR1 : Hid (∀ q', Rd ((w.drewN q').setCell ⟨b, 1, none⟩ (.int .i64 ((p : Int) + 1))) b (some ⟨ba, oa, none⟩) c ws (p + 1) false) := fun q' => by
    have h2 := (HD.out.keep (belDraw (Below.refl _ w) q')).setAt (p + 1)
    rw [show ((p + 1 : Nat) : Int) = (p : Int) + 1 by omega] at h2
    exact h2
  have HB1 : Hid (∀ q', But w.heap.size b w ((w.drewN q').setCell ⟨b, 1, none⟩ (.int .i64 ((p : Int) + 1)))) := fun q' => (But.of (belDraw (Below.refl _ w) q')).setCell (p := ⟨b, 1, none⟩) (.inl rfl) _
  have HL : Hid (∀ q', Calls Tryz.prog 101 #[.pointer (some ⟨b, 0, none⟩), .string ⟨#[93]⟩] ((w.drewN q').setCell ⟨b, 1, none⟩ (.int .i64 ((p : Int) + 1))) fun ev w' => ∃ w1 r n ns A' c', ev = .returned (.tuple #[.int .i64 ((n : Nat) : Int), .slice A' ns.length c']) ∧ But w.heap.size b w w1 ∧ GotL b (some ⟨ba, oa, none⟩) c ws [93] (p + 1) w1 r n ns (.slice A' ns.length c') w') := fun q' => by
    refine (hL _ (HR1.out q')).mono ?_
    rintro e w' ⟨r, n, ns, A', c', h1, h2⟩
    exact ⟨_, r, n, ns, A', c', h1, HB1.out q', h2⟩
  clear h1 h3 h4 k1 k2 hL HR1 HB1
  clear hX hx1 hne hw HNW
  show Calls _ _ _ _ _
  go_enter Tryz.func69, Tryz.ntmps69
  go_wp2_with fail
  go_quiet (fail)
  go_wp2_with fail
  go_quiet (fail)
  go_wp2_with fail
  refine (HNM.out _).mono ?_
  rintro e w1 ⟨rfl, rfl⟩
  go_wp2_with fail
  refine (HFI.out _).mono ?_
  rintro e w1 ⟨rfl, rfl⟩
  go_wp2_with fail
  refine (HL.out _).mono ?_
  rintro e w4 ⟨w1, r4, n, ns4, A4, c4, rfl, hB1, hG4⟩
  have HG4 := (show Hid (_) from hG4)
  have hn4 := hG4.nl
  rw [drop_len (by omega)] at hn4
  have hn6 := hG4.le
  have hs1 := hB1.size
  have hs4 := hG4.bt.size
  have HT4 : Hid (Tds w4 A4 ns4) := hG4.o.tds
  generalize hnl : ns4.length = n4 at hn4
  have HNL : Hid (ns4.length = n4) := hnl
  have HN4 : Hid (A4 = none → n4 = 0 ∧ c4 = 0) := by
    have h3 := hG4.o.none
    rw [hnl] at h3
    exact h3.2
  have hws4 : w.heap.size ≤ w4.heap.size := by omega
  have HX1 : Hid (TdsO w.heap.size (.slice (some ⟨w4.heap.size, 0, none⟩) 1 1) [lsT n] (w4.alloc (.cells #[.int .i64 4, .string ⟨#[]⟩, .int .i64 (n : Int)] 39))) := (TdsO.one w4 (lsT n)).down hws4
  have HBB := (show Hid (_) from hB1)
  clear hG4 hnl hs1 hs4
  go_wp2_with (at_builtin; refine app_tds rfl _ _ rfl w.heap.size _ [lsT n] rfl HX1.out A4 n4 ns4 HNL.out c4 rfl (HT4.out.alloc _) HN4.out (1 + n4) rfl (by omega) (by rw [World.size_alloc]; omega) ?_)
  intro A5 c5 w5 hown5 hgrow5
  have hb5 : Below w.heap.size w4 w5 := ((Below.refl _ _).alloc hws4 _).grown hgrow5 (by rw [World.size_alloc]; omega) (fun k' hk => (World.ownsRow.lt HX1.out k' hk).1)
  obtain ⟨r', hG⟩ := list_got (ws := ws) (p := p) (q := p + 1) (x := lsT n) (by omega) (by omega) hbw HBB.out HG4.out (fun u hu => by rw [HDR.out]; exact .sLB hu) (fun u hu => by rw [HDR.out]; exact .sLO hu) hb5 hown5
  have HG := (show Hid (_) from hG)
  have HE5 : Hid ((lsT n :: ns4).length = 1 + n4) := by
    show _ = _
    rw [List.length_cons, HNL.out]; omega
  clear hown5 hgrow5 hb5 hG
  go_wp2
  go_ret
  exact ⟨r', lsT n :: ns4, A5, c5, by rw [HE5.out]; rfl, by rw [HE5.out]; exact HG.out⟩
end Go.Proofs.YtmbeamcjpidnjaaGreatDoor
namespace Go.Proofs.YtmbeamcjpidnjaaGreatDoor
open Go Go.RowKit

theorem num_steps {w : Wd} {S : ByteArray} (h : wbS w = S) (hf : ∀ b ∈ w, figB b = true) (hl : w.length ≤ 6) : ∃ N : Nat → Nat, N 0 = 0 ∧ N S.size = numV w ∧ ∀ k (h : k < S.size), N (k + 1) = N k * 10 + (S[k].toNat - 48) ∧ 48 ≤ S[k].toNat ∧ S[k].toNat ≤ 57 ∧ N k ≤ 1000000 := by
  subst h
  have hsz : (wbS w).size = w.length := rfl
  have hstep : ∀ k (h : k < w.length), numV (w.take (k + 1)) = numV (w.take k) * 10 + (w[k].toNat - 48) := by
    intro k h
    rw [List.take_succ_eq_append_getElem h]
    unfold numV
    rw [List.foldl_append]
    rfl
  have hfig : ∀ k (h : k < w.length), 48 ≤ w[k].toNat ∧ w[k].toNat ≤ 57 := by
    intro k h
    have h1 := hf w[k] (List.getElem_mem h)
    unfold figB at h1
    simpa using h1
  have hb : ∀ k, k ≤ w.length → numV (w.take k) + 1 ≤ 10 ^ k := by
    intro k
    induction k with
    | zero => intro _; simp [numV]
    | succ k ih =>
      intro hk
      have h1 := ih (by omega)
      have h2 := hfig k (by omega)
      rw [hstep k (by omega), Nat.pow_succ]
      omega
  refine ⟨fun k => numV (w.take k), by simp [numV], by show numV (w.take w.length) = _; rw [List.take_length], fun k hk => ?_⟩
  have hk' : k < w.length := hk
  have h3 := hb k (by omega)
  have h4 : 10 ^ k ≤ 10 ^ 6 := Nat.pow_le_pow_right (by omega) (by omega)
  exact ⟨hstep k hk', (hfig k hk').1, (hfig k hk').2, by show numV (w.take k) ≤ 1000000; omega⟩
theorem name_ne {w : Wd} (h : nmW w = true) : w ≠ [40] ∧ w ≠ [91] ∧ numW w = false := by
  refine ⟨fun e => ?_, fun e => ?_, ?_⟩
  · rw [e, name_40] at h; cases h
  · rw [e, name_91] at h; cases h
  · cases hn : numW w with
    | false => rfl
    | true => rw [num_not_name hn] at h; cases h
theorem num_ne {w : Wd} (h : numW w = true) : w ≠ [40] ∧ w ≠ [91] ∧ nmW w = false := by
  refine ⟨fun e => ?_, fun e => ?_, num_not_name h⟩
  · rw [e, num_40] at h; cases h
  · rw [e, num_91] at h; cases h
/-- One node of the call's own. -/
theorem one_got {b : Nat} {A : Option Addr} {c : Nat} {ws : List Wd} {p : Nat} {w w1 : World} {x : Td} (hlt : p < ws.length) (hbw : b < w.heap.size) (hR : Rd w1 b A c ws (p + 1) false) (hB : But w.heap.size b w w1) (hp : PR .single (ws.drop p) (.ok 0 [x] (ws.drop (p + 1)))) :
    Got b A c ws .single p w (.ok 0 [x] (ws.drop (p + 1))) [x] (.slice (some ⟨w1.heap.size, 0, none⟩) 1 1) (w1.alloc (.cells #[.int .i64 x.op, .string x.tx, .int .i64 x.n] 39)) := by
  have hs := hB.size
  have hdl : (ws.drop p).length = ws.length - p := drop_len (by omega)
  have hdl1 : (ws.drop (p + 1)).length = ws.length - (p + 1) := drop_len (by omega)
  have e1 : ws.length - (Rs.ok 0 [x] (ws.drop (p + 1))).rest.length = p + 1 := by simp only [Rs.rest, hdl1]; omega
  refine ⟨hp, (TdsO.one w1 x).down hs, by rw [hdl]; simp only [Rs.rest, hdl1, List.length_cons, List.length_nil]; omega, (fun _ _ _ e => by cases e; rfl), ?_, ?_⟩
  · rw [e1]
    exact hR.keepB ((Below.refl _ _).alloc hs _) hbw
  · exact hB.alloc hs _
set_option maxRecDepth 100000 in
set_option maxHeartbeats 8000000 in
theorem single_num {b : Nat} {A : Option Addr} {c : Nat} {ws : List Wd} {p : Nat} (hl : ws.length ≤ 60000) (hlt : p < ws.length) (hne : ws[p] ≠ []) (hn : numW ws[p] = true) (ht : isTok ws[p]) : SinC b A c ws p := by
  intro w h
  have HD := (show Hid (_) from h)
  have hbw : b < w.heap.size := h.row.lt
  have f1 : w.frozen? ⟨b, 1, none⟩ = false := h.row.frozen
  have f2 : w.frozen? ⟨b, 2, none⟩ = false := h.row.frozen
  obtain ⟨c0, c1, c2, _, hw, _⟩ := h
  have hpi : ¬ (ws.length : Int) ≤ (p : Int) := by omega
  have hpi2 : (p : Int) < (ws.length : Int) := by omega
  have HDR : Hid (ws.drop p = ws[p] :: ws.drop (p + 1)) := List.drop_eq_getElem_cons hlt
  obtain ⟨ba, oa, rfl, hba, d0⟩ := hw p (by rw [List.length_map]; exact hlt)
  rw [List.getElem_map] at d0
  have HNW : Hid (nameT (wbS ws[p]) = nmW ws[p]) := (show nameT (wbS ws[p]) = nmW ws[p] from rfl)
  have hq40 : ((wbS ws[p]).toList == [40]) = (ws[p] == [40]) := by rw [Lib.toList_data]; rfl
  have hq91 : ((wbS ws[p]).toList == [91]) = (ws[p] == [91]) := by rw [Lib.toList_data]; rfl
  generalize hX : wbS ws[p] = X at d0 HNW hq40 hq91
  obtain ⟨hx0, hx1⟩ := wb_at hX hne
  have HX : Hid (wbS ws[p] = X) := hX
  have hx0i : (0 : Int) < (X.size : Int) := by omega
  have HFI : Hid (∀ W : World, Calls Tryz.prog 68 #[.int .u8 (X[0].toNat : Int)] W fun e w' => e = .returned (.bool (numW ws[p])) ∧ W = w') := fun W => by
    have := rfigure_any X[0] W
    rw [hx1 hx0] at this
    exact this
  have HNM : Hid (∀ W : World, Calls Tryz.prog 33 #[.string X] W fun e w' => e = .returned (.bool (nmW ws[p])) ∧ W = w') := fun W => by
    have := rIsName_any X W
    rw [HNW.out] at this
    exact this
  have HBN : Hid (∀ q', Below w.heap.size w (w.drewN q')) := fun q' => belDraw (Below.refl _ w) q'
  obtain ⟨h1, h2, h4⟩ := num_ne hn
  have k1 : (ws[p] == [40]) = false := by simpa using h1
  have k2 : (ws[p] == [91]) = false := by simpa using h2
  rw [k1] at hq40
  rw [k2] at hq91
  rw [hn] at HFI
  rw [h4] at HNM
  have hfg := tok_num ht hn
  obtain ⟨N, hN0, hNv, hNS⟩ := num_steps hX hfg.1 hfg.2
  have HNV : Hid (N X.size = numV ws[p]) := hNv
  have HNS : Hid (∀ k (h : k < X.size), N (k + 1) = N k * 10 + (X[k].toNat - 48) ∧ 48 ≤ X[k].toNat ∧ X[k].toNat ≤ 57 ∧ N k ≤ 1000000) := hNS
  have HPR : Hid (PR .single (ws.drop p) (.ok 0 [litT ws[p]] (ws.drop (p + 1)))) := by
    show PR _ _ _
    rw [HDR.out]
    exact .sNum hn
  have hX6 : X.size ≤ 6 := by rw [← hX]; exact hfg.2
  have HR1 : Hid (∀ q', Rd ((w.drewN q').setCell ⟨b, 1, none⟩ (.int .i64 ((p : Int) + 1))) b (some ⟨ba, oa, none⟩) c ws (p + 1) false) := fun q' => by
    have h2 := (HD.out.keep (belDraw (Below.refl _ w) q')).setAt (p + 1)
    rw [show ((p + 1 : Nat) : Int) = (p : Int) + 1 by omega] at h2
    exact h2
  have HB1 : Hid (∀ q', But w.heap.size b w ((w.drewN q').setCell ⟨b, 1, none⟩ (.int .i64 ((p : Int) + 1)))) := fun q' => (But.of (belDraw (Below.refl _ w) q')).setCell (p := ⟨b, 1, none⟩) (.inl rfl) _
  clear h1 h2 h4 k1 k2 hn ht hfg hNv hNS
  clear hX hx1 hne hw HNW
  show Calls _ _ _ _ _
  go_enter Tryz.func69, Tryz.ntmps69
  go_wp2_with fail
  go_quiet (fail)
  go_wp2_with fail
  go_quiet (fail)
  go_wp2_with fail
  refine (HNM.out _).mono ?_
  rintro e w1 ⟨rfl, rfl⟩
  go_wp2_with fail
  refine (HFI.out _).mono ?_
  rintro e w1 ⟨rfl, rfl⟩
  go_wp2_with fail
  go_loopw [10, 11] (fun n i wr => ∃ k : Nat, k ≤ X.size ∧ i = .int .i64 (k : Int) ∧ n = .int .i64 (N k : Int) ∧ ∃ q', wr = (w.drewN q').setCell ⟨b, 1, none⟩ (.int .i64 ((p : Int) + 1))) (fun _ i _ => X.size - (intOf i).toNat)
  case atStart => exact ⟨0, Nat.zero_le _, rfl, by rw [hN0]; rfl, _, rfl⟩
  case round =>
    obtain ⟨k, hk, rfl, rfl, q', rfl⟩ := hrel
    by_cases hkx : k < X.size
    · have hki : (k : Int) < (X.size : Int) := by omega
      obtain ⟨e1, e2, e3, e4⟩ := HNS.out k hkx
      have HE1 : Hid (N (k + 1) = N k * 10 + (X[k].toNat - 48)) := e1
      generalize hxk : X[k].toNat = xk at e2 e3 HE1
      clear e1
      go_wp2
      go_roundw
      case rel =>
        refine ⟨k + 1, by omega, by go_num, ?_, q', rfl⟩
        rw [HE1.out]
        congr 1
        omega
      case measure => simp [intOf]; omega
    · have hki : ¬ (k : Int) < (X.size : Int) := by omega
      have hke : k = X.size := by omega
      subst hke
      rw [HNV.out]
      have hG := one_got hlt hbw (HR1.out q') (HB1.out q') HPR.out
      rw [World.size_setCell] at hG
      have HG := (show Hid (_) from hG)
      clear hG
      go_wp2
      go_ret
      exact ⟨_, [litT ws[p]], _, _, rfl, HG.out⟩
set_option maxRecDepth 100000 in
set_option maxHeartbeats 8000000 in
theorem single_name {b : Nat} {A : Option Addr} {c : Nat} {ws : List Wd} {p : Nat} (hl : ws.length ≤ 60000) (hlt : p < ws.length) (hne : ws[p] ≠ []) (hn : nmW ws[p] = true) (h5 : (ws[p + 1]? == some [40]) = false) : SinC b A c ws p := by
  intro w h
  have HD := (show Hid (_) from h)
  have hbw : b < w.heap.size := h.row.lt
  have f1 : w.frozen? ⟨b, 1, none⟩ = false := h.row.frozen
  have f2 : w.frozen? ⟨b, 2, none⟩ = false := h.row.frozen
  obtain ⟨c0, c1, c2, _, hw, _⟩ := h
  have hpi : ¬ (ws.length : Int) ≤ (p : Int) := by omega
  have hpi2 : (p : Int) < (ws.length : Int) := by omega
  have HDR : Hid (ws.drop p = ws[p] :: ws.drop (p + 1)) := List.drop_eq_getElem_cons hlt
  obtain ⟨ba, oa, rfl, hba, d0⟩ := hw p (by rw [List.length_map]; exact hlt)
  rw [List.getElem_map] at d0
  have HNW : Hid (nameT (wbS ws[p]) = nmW ws[p]) := (show nameT (wbS ws[p]) = nmW ws[p] from rfl)
  have hq40 : ((wbS ws[p]).toList == [40]) = (ws[p] == [40]) := by rw [Lib.toList_data]; rfl
  have hq91 : ((wbS ws[p]).toList == [91]) = (ws[p] == [91]) := by rw [Lib.toList_data]; rfl
  generalize hX : wbS ws[p] = X at d0 HNW hq40 hq91
  obtain ⟨hx0, hx1⟩ := wb_at hX hne
  have HX : Hid (wbS ws[p] = X) := hX
  have hx0i : (0 : Int) < (X.size : Int) := by omega
  have HFI : Hid (∀ W : World, Calls Tryz.prog 68 #[.int .u8 (X[0].toNat : Int)] W fun e w' => e = .returned (.bool (numW ws[p])) ∧ W = w') := fun W => by
    have := rfigure_any X[0] W
    rw [hx1 hx0] at this
    exact this
  have HNM : Hid (∀ W : World, Calls Tryz.prog 33 #[.string X] W fun e w' => e = .returned (.bool (nmW ws[p])) ∧ W = w') := fun W => by
    have := rIsName_any X W
    rw [HNW.out] at this
    exact this
  have HBN : Hid (∀ q', Below w.heap.size w (w.drewN q')) := fun q' => belDraw (Below.refl _ w) q'
  obtain ⟨h1, h2, h3⟩ := name_ne hn
  have k1 : (ws[p] == [40]) = false := by simpa using h1
  have k2 : (ws[p] == [91]) = false := by simpa using h2
  rw [k1] at hq40
  rw [k2] at hq91
  rw [h3] at HFI
  rw [hn] at HNM
  have HPR : Hid (PR .single (ws.drop p) (.ok 0 [nmT ws[p]] (ws.drop (p + 1)))) := by
    show PR _ _ _
    rw [HDR.out]
    refine .sName hn ?_
    rw [head_drop]
    intro e
    rw [e] at h5
    exact absurd h5 (by decide)
  have HR1 : Hid (∀ q', Rd ((w.drewN q').setCell ⟨b, 1, none⟩ (.int .i64 ((p : Int) + 1))) b (some ⟨ba, oa, none⟩) c ws (p + 1) false) := fun q' => by
    have h2 := (HD.out.keep (belDraw (Below.refl _ w) q')).setAt (p + 1)
    rw [show ((p + 1 : Nat) : Int) = (p : Int) + 1 by omega] at h2
    exact h2
  have HB1 : Hid (∀ q', But w.heap.size b w ((w.drewN q').setCell ⟨b, 1, none⟩ (.int .i64 ((p : Int) + 1)))) := fun q' => (But.of (belDraw (Below.refl _ w) q')).setCell (p := ⟨b, 1, none⟩) (.inl rfl) _
  have HIS : Hid (∀ q', Calls Tryz.prog 32 #[.pointer (some ⟨b, 0, none⟩), .string ⟨#[40]⟩] ((w.drewN q').setCell ⟨b, 1, none⟩ (.int .i64 ((p : Int) + 1))) fun e w' => e = .returned (.bool false) ∧ Rd w' b (some ⟨ba, oa, none⟩) c ws (p + 1) false ∧ But w.heap.size b w w') := fun q' => by
    have h9 := ris_any (HR1.out q') [40]
    rw [show (!false && (ws[p + 1]? == some [40])) = false from h5] at h9
    refine h9.mono ?_
    rintro e w' ⟨rfl, q2, rfl⟩
    exact ⟨rfl, (HR1.out q').keep (belDraw (Below.refl _ _) q2), (HB1.out q').trans (But.of (belDraw (Below.refl _ _) q2))⟩
  clear h1 h2 h3 k1 k2 hn h5 HR1 HB1
  clear hX hx1 hne hw HNW
  show Calls _ _ _ _ _
  go_enter Tryz.func69, Tryz.ntmps69
  go_wp2_with fail
  go_quiet (fail)
  go_wp2_with fail
  go_quiet (fail)
  go_wp2_with fail
  refine (HNM.out _).mono ?_
  rintro e w1 ⟨rfl, rfl⟩
  go_wp2_with fail
  refine (HFI.out _).mono ?_
  rintro e w1 ⟨rfl, rfl⟩
  go_wp2_with fail
  refine (HIS.out _).mono ?_
  rintro e w2 ⟨rfl, hR2, hB2⟩
  have hG := one_got hlt hbw hR2 hB2 HPR.out
  have HG := (show Hid (_) from hG)
  clear hG hR2 hB2
  go_wp2
  go_ret
  refine ⟨.ok 0 [nmT ws[p]] (ws.drop (p + 1)), [nmT ws[p]], some ⟨w2.heap.size, 0, none⟩, 1, rfl, ?_⟩
  have h9 := HG.out
  unfold nmT at h9 ⊢
  simp only [HX.out] at h9 ⊢
  exact h9
set_option maxRecDepth 100000 in
set_option maxHeartbeats 8000000 in
theorem single_call {b : Nat} {A : Option Addr} {c : Nat} {ws : List Wd} {p : Nat} (hl : ws.length ≤ 60000) (hlt : p < ws.length) (hne : ws[p] ≠ []) (hn : nmW ws[p] = true) (h5 : (ws[p + 1]? == some [40]) = true) (hL : LisC b A c ws [41] (p + 2)) : SinC b A c ws p := by
  intro w h
  have HD := (show Hid (_) from h)
  have hbw : b < w.heap.size := h.row.lt
  have f1 : w.frozen? ⟨b, 1, none⟩ = false := h.row.frozen
  have f2 : w.frozen? ⟨b, 2, none⟩ = false := h.row.frozen
  obtain ⟨c0, c1, c2, _, hw, _⟩ := h
  have hpi : ¬ (ws.length : Int) ≤ (p : Int) := by omega
  have hpi2 : (p : Int) < (ws.length : Int) := by omega
  have HDR : Hid (ws.drop p = ws[p] :: ws.drop (p + 1)) := List.drop_eq_getElem_cons hlt
  obtain ⟨ba, oa, rfl, hba, d0⟩ := hw p (by rw [List.length_map]; exact hlt)
  rw [List.getElem_map] at d0
  have HNW : Hid (nameT (wbS ws[p]) = nmW ws[p]) := (show nameT (wbS ws[p]) = nmW ws[p] from rfl)
  have hq40 : ((wbS ws[p]).toList == [40]) = (ws[p] == [40]) := by rw [Lib.toList_data]; rfl
  have hq91 : ((wbS ws[p]).toList == [91]) = (ws[p] == [91]) := by rw [Lib.toList_data]; rfl
  generalize hX : wbS ws[p] = X at d0 HNW hq40 hq91
  obtain ⟨hx0, hx1⟩ := wb_at hX hne
  have HX : Hid (wbS ws[p] = X) := hX
  have hx0i : (0 : Int) < (X.size : Int) := by omega
  have HFI : Hid (∀ W : World, Calls Tryz.prog 68 #[.int .u8 (X[0].toNat : Int)] W fun e w' => e = .returned (.bool (numW ws[p])) ∧ W = w') := fun W => by
    have := rfigure_any X[0] W
    rw [hx1 hx0] at this
    exact this
  have HNM : Hid (∀ W : World, Calls Tryz.prog 33 #[.string X] W fun e w' => e = .returned (.bool (nmW ws[p])) ∧ W = w') := fun W => by
    have := rIsName_any X W
    rw [HNW.out] at this
    exact this
  have HBN : Hid (∀ q', Below w.heap.size w (w.drewN q')) := fun q' => belDraw (Below.refl _ w) q'
  obtain ⟨h1, h2, h3⟩ := name_ne hn
  have k1 : (ws[p] == [40]) = false := by simpa using h1
  have k2 : (ws[p] == [91]) = false := by simpa using h2
  rw [k1] at hq40
  rw [k2] at hq91
  rw [h3] at HFI
  rw [hn] at HNM
  have h6 : ws[p + 1]? = some [40] := by simpa using h5
  obtain ⟨hp1, h7⟩ := List.getElem?_eq_some_iff.1 h6
  have HDR2 : Hid (ws.drop p = ws[p] :: [40] :: ws.drop (p + 2)) := by
    show _ = _
    rw [HDR.out, List.drop_eq_getElem_cons hp1, h7]
  have HNMW : Hid (nmW ws[p] = true) := hn
  have HR1 : Hid (∀ q', Rd ((w.drewN q').setCell ⟨b, 1, none⟩ (.int .i64 ((p : Int) + 1))) b (some ⟨ba, oa, none⟩) c ws (p + 1) false) := fun q' => by
    have h2 := (HD.out.keep (belDraw (Below.refl _ w) q')).setAt (p + 1)
    rw [show ((p + 1 : Nat) : Int) = (p : Int) + 1 by omega] at h2
    exact h2
  have HB1 : Hid (∀ q', But w.heap.size b w ((w.drewN q').setCell ⟨b, 1, none⟩ (.int .i64 ((p : Int) + 1)))) := fun q' => (But.of (belDraw (Below.refl _ w) q')).setCell (p := ⟨b, 1, none⟩) (.inl rfl) _
  have HIS : Hid (∀ q', Calls Tryz.prog 32 #[.pointer (some ⟨b, 0, none⟩), .string ⟨#[40]⟩] ((w.drewN q').setCell ⟨b, 1, none⟩ (.int .i64 ((p : Int) + 1))) fun e w' => e = .returned (.bool true) ∧ Rd w' b (some ⟨ba, oa, none⟩) c ws (p + 1) false ∧ But w.heap.size b w w') := fun q' => by
    have h9 := ris_any (HR1.out q') [40]
    rw [show (!false && (ws[p + 1]? == some [40])) = true from h5] at h9
    refine h9.mono ?_
    rintro e w' ⟨rfl, q2, rfl⟩
    exact ⟨rfl, (HR1.out q').keep (belDraw (Below.refl _ _) q2), (HB1.out q').trans (But.of (belDraw (Below.refl _ _) q2))⟩
  have HLL := (show Hid (LisC b (some ⟨ba, oa, none⟩) c ws [41] (p + 2)) from hL)
  clear h1 h2 h3 k1 k2 hn h5 h6 h7 HR1 HB1 hL
  clear hX hx1 hne hw HNW
  show Calls _ _ _ _ _
  go_enter Tryz.func69, Tryz.ntmps69
  go_wp2_with fail
  go_quiet (fail)
  go_wp2_with fail
  go_quiet (fail)
  go_wp2_with fail
  refine (HNM.out _).mono ?_
  rintro e w1 ⟨rfl, rfl⟩
  go_wp2_with fail
  refine (HFI.out _).mono ?_
  rintro e w1 ⟨rfl, rfl⟩
  go_wp2_with fail
  refine (HIS.out _).mono ?_
  rintro e w2 ⟨rfl, hR2, hB2⟩
  have c12 := hR2.c1
  have f12 : w2.frozen? ⟨b, 1, none⟩ = false := hR2.row.frozen
  have HL : Hid (Calls Tryz.prog 101 #[.pointer (some ⟨b, 0, none⟩), .string ⟨#[41]⟩] (w2.setCell ⟨b, 1, none⟩ (.int .i64 (((p + 1 : Nat) : Int) + 1))) fun ev w' => ∃ w1 r n ns A' c', ev = .returned (.tuple #[.int .i64 ((n : Nat) : Int), .slice A' ns.length c']) ∧ But w.heap.size b w w1 ∧ GotL b (some ⟨ba, oa, none⟩) c ws [41] (p + 2) w1 r n ns (.slice A' ns.length c') w') := by
    have h8 := hR2.setAt (p + 2)
    rw [show ((p + 2 : Nat) : Int) = ((p + 1 : Nat) : Int) + 1 by omega] at h8
    refine (HLL.out _ h8).mono ?_
    rintro e w' ⟨r, n, ns, A', c', h1, h2⟩
    exact ⟨_, r, n, ns, A', c', h1, hB2.setCell (p := ⟨b, 1, none⟩) (.inl rfl) _, h2⟩
  clear hR2 hB2 HLL
  go_wp2_with fail
  refine HL.out.mono ?_
  rintro e w4 ⟨w1, r4, n, ns4, A4, c4, rfl, hB1, hG4⟩
  have HG4 := (show Hid (_) from hG4)
  have hn4 := hG4.nl
  rw [drop_len (by omega)] at hn4
  have hn6 := hG4.le
  have hs1 := hB1.size
  have hs4 := hG4.bt.size
  have HT4 : Hid (Tds w4 A4 ns4) := hG4.o.tds
  generalize hnl : ns4.length = n4 at hn4
  have HNL : Hid (ns4.length = n4) := hnl
  have HN4 : Hid (A4 = none → n4 = 0 ∧ c4 = 0) := by
    have h3 := hG4.o.none
    rw [hnl] at h3
    exact h3.2
  have hws4 : w.heap.size ≤ w4.heap.size := by omega
  have HX1 : Hid (TdsO w.heap.size (.slice (some ⟨w4.heap.size, 0, none⟩) 1 1) [(⟨3, X, (n : Nat)⟩ : Td)] (w4.alloc (.cells #[.int .i64 3, .string X, .int .i64 (n : Int)] 39))) := (TdsO.one w4 ((⟨3, X, (n : Nat)⟩ : Td))).down hws4
  have HBB := (show Hid (_) from hB1)
  clear hG4 hnl hs1 hs4
  go_wp2_with (at_builtin; refine app_tds rfl _ _ rfl w.heap.size _ [(⟨3, X, (n : Nat)⟩ : Td)] rfl HX1.out A4 n4 ns4 HNL.out c4 rfl (HT4.out.alloc _) HN4.out (1 + n4) rfl (by omega) (by rw [World.size_alloc]; omega) ?_)
  intro A5 c5 w5 hown5 hgrow5
  have hb5 : Below w.heap.size w4 w5 := ((Below.refl _ _).alloc hws4 _).grown hgrow5 (by rw [World.size_alloc]; omega) (fun k' hk => (World.ownsRow.lt HX1.out k' hk).1)
  obtain ⟨r', hG⟩ := list_got (ws := ws) (p := p) (q := p + 2) (x := (⟨3, X, (n : Nat)⟩ : Td)) (by omega) (by omega) hbw HBB.out HG4.out (fun u hu => by rw [HDR2.out]; exact .sCB HNMW.out hu) (fun u hu => by rw [HDR2.out, ← HX.out]; exact .sCO HNMW.out hu) hb5 hown5
  have HG := (show Hid (_) from hG)
  have HE5 : Hid (((⟨3, X, (n : Nat)⟩ : Td) :: ns4).length = 1 + n4) := by
    show _ = _
    rw [List.length_cons, HNL.out]; omega
  clear hown5 hgrow5 hb5 hG
  go_wp2
  go_ret
  exact ⟨r', (⟨3, X, (n : Nat)⟩ : Td) :: ns4, A5, c5, by rw [HE5.out]; rfl, by rw [HE5.out]; exact HG.out⟩
end Go.Proofs.YtmbeamcjpidnjaaGreatDoor
namespace Go.Proofs.YtmbeamcjpidnjaaGreatDoor
open Go Go.RowKit

theorem single_all {b : Nat} {A : Option Addr} {c : Nat} {ws : List Wd} {p : Nat} (hl : ws.length ≤ 60000) (ht : ∀ x ∈ ws, isTok x) (hp : p ≤ ws.length) (hL : ∀ q, p < q → q ≤ ws.length → LevC b A c ws 0 q) : SinC b A c ws p := by
  by_cases hlt : p < ws.length
  · have htk := ht ws[p] (List.getElem_mem hlt)
    have hne : ws[p] ≠ [] := by
      obtain ⟨x, r, e, _⟩ := htk
      rw [e]; simp
    by_cases h1 : ws[p] = [40]
    · exact single_par hl hlt hne h1 (hL _ (by omega) (by omega))
    · by_cases h2 : ws[p] = [91]
      · exact single_lst hl hlt hne h2 (list_step (by decide) hl (by omega) fun q h3 h4 => hL q (by omega) h4)
      · cases h3 : numW ws[p] with
        | true => exact single_num hl hlt hne h3 htk
        | false =>
          cases h4 : nmW ws[p] with
          | false => exact single_bd hl hlt hne h1 h2 h3 h4
          | true =>
            cases h5 : (ws[p + 1]? == some ([40] : Wd)) with
            | false => exact single_name hl hlt hne h4 h5
            | true =>
              have h6 : ws[p + 1]? = some [40] := by simpa using h5
              obtain ⟨hp1, _⟩ := List.getElem?_eq_some_iff.1 h6
              exact single_call hl hlt hne h4 h5 (list_step (by decide) hl (by omega) fun q h3 h4 => hL q (by omega) h4)
  · exact single_end hp (by omega)
theorem read_all {b : Nat} {A : Option Addr} {c : Nat} {ws : List Wd} (hl : ws.length ≤ 60000) (ht : ∀ x ∈ ws, isTok x) : ∀ n p, p ≤ ws.length → ws.length - p ≤ n → LevC b A c ws 2 p ∧ LevC b A c ws 1 p ∧ LevC b A c ws 0 p := by
  intro n
  induction n with
  | zero =>
    intro p hp hn
    have hpe : p = ws.length := by omega
    subst hpe
    have h2 : LevC b A c ws 2 ws.length := level_two (single_all hl ht hp fun q h1 h2 => by omega)
    have h1 : LevC b A c ws 1 ws.length := level_one hl hp fun q h3 h4 => by
      have : q = ws.length := by omega
      subst this; exact h2
    refine ⟨h2, h1, level_zero hl hp fun q h3 h4 => ?_⟩
    have : q = ws.length := by omega
    subst this; exact h1
  | succ n ih =>
    intro p hp hn
    have h2 : LevC b A c ws 2 p := level_two (single_all hl ht hp fun q h1 h2 => (ih q h2 (by omega)).2.2)
    have h1 : LevC b A c ws 1 p := level_one hl hp fun q h3 h4 => by
      by_cases e : q = p
      · subst e; exact h2
      · exact (ih q h4 (by omega)).1
    refine ⟨h2, h1, level_zero hl hp fun q h3 h4 => ?_⟩
    by_cases e : q = p
    · subst e; exact h1
    · exact (ih q h4 (by omega)).2.1
/-- An expression, from a place on. -/
theorem level_any {b : Nat} {A : Option Addr} {c : Nat} {ws : List Wd} {p : Nat} (hl : ws.length ≤ 60000) (ht : ∀ x ∈ ws, isTok x) (hp : p ≤ ws.length) : LevC b A c ws 0 p := (read_all hl ht _ p hp (Nat.le_refl _)).2.2
end Go.Proofs.YtmbeamcjpidnjaaGreatDoor
