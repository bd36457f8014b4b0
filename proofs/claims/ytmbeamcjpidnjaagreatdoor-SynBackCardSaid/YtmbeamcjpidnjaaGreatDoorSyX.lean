/- Package syn's reader: single expressions; every expression. -/
import Derived.Test.YtmbeamcjpidnjaaGreatDoorSyV
namespace Go.Proofs.YtmbeamcjpidnjaaGreatDoor
open Go Go.RowKit

section
variable {K : LwK} {ws : List Wd} {pl : Nat → Nat} {b p : Nat} {w : World}
/-- How a single expression is begun: the word is looked at. -/
theorem ylook {X : Wd} (h : Ry K ws pl b p w) (hX : ws.getD p [] = X) (ht : X = [] ∨ isTok X) :
    (Calls Tryz.prog 71 #[.pointer (some ⟨b, 0, none⟩)] w fun e w' => e = .returned (.string (wbS X)) ∧ w = w') ∧ (Calls Tryz.prog 187 #[.string (wbS X)] w fun e w' => e = .returned (.bool (numW X)) ∧ w = w') ∧ (Calls Tryz.prog 144 #[.string (wbS X)] w fun e w' => e = .returned (.bool (nmW X)) ∧ w = w') := by
  subst hX
  exact ⟨(yword_any h).mono fun _ _ h => ⟨h.1, h.2.symm⟩, (yisNum_any _ w).mono fun _ _ h => ⟨h.1, h.2.symm⟩, (yisName_any _ ht w).mono fun _ _ h => ⟨h.1, h.2.symm⟩⟩
set_option maxRecDepth 100000 in
set_option maxHeartbeats 4000000 in
theorem ysingle_of (ht : ∀ x ∈ ws, isTok x) (hS : ∀ q, p < q → q ≤ ws.length → SumY K ws pl b q) : SinY K ws pl b p := by
  intro w h
  have hple := h.le
  have hbw : b < w.heap.size := h.row.lt
  show Calls Tryz.prog 169 #[.pointer (some ⟨b, 0, none⟩)] w fun e w' => GotY K ws pl b (.level 2) p w e w'
  by_cases hp : p < ws.length
  · have htk := ht _ (List.getElem_mem hp)
    have hX := getD_at hp
    obtain ⟨L1, L2, L3⟩ := ylook h hX (.inr htk)
    have HD : Hid (ws.drop p = ws[p] :: ws.drop (p + 1)) := drop_at2 hp
    by_cases hnum : numW ws[p] = true
    · rw [hnum] at L2
      have HL1 := (show Hid (Calls _ _ _ _ _) from L1)
      have HL2 := (show Hid (Calls _ _ _ _ _) from L2)
      obtain ⟨hfig, h6⟩ := tok_fig htk hnum
      have HN : Hid (Calls Tryz.prog 142 #[.pointer (some ⟨b, 0, none⟩)] w fun e w' => e = .returned (.string (wbS ws[p])) ∧ Ry K ws pl b (p + 1) w' ∧ But w.heap.size b w w') := ynext_any h hp
      have HA : Hid (∀ W, Calls Tryz.prog 188 #[.string (wbS ws[p])] W fun e w' => e = .returned (.tuple #[.int .i64 ((numV ws[p] : Nat) : Int), .nilIface]) ∧ Below W.heap.size W w') := fun W => atoi_any ws[p] hfig (tok_ne htk) h6 W
      have HX : Hid (∀ W, Ry K ws pl b (p + 1) W → But w.heap.size b w W → GotY K ws pl b (.level 2) p w (.returned (.slice (some ⟨W.heap.size, 0, none⟩) 1 1)) (W.alloc (.cells #[.int .i64 1, .string ⟨#[]⟩, .int .i64 ((numV ws[p] : Nat) : Int)] 39))) := fun W hW hB => by
        refine GotY.ok (m := 0) (ns := [litT ws[p]]) (u := ws.drop (p + 1)) ⟨by rw [HD.out]; exact .lev2 (.sNum hnum), (TdsO.one W (litT ws[p])).down hB.size, ?_, ?_, hB.alloc hB.size _⟩
        · rw [drop_len2, drop_len2]; simp only [List.length_cons, List.length_nil]; omega
        · rw [drop_len2, show ws.length - (ws.length - (p + 1)) = p + 1 by omega]
          exact hW.keep (belA W _)
      generalize wbS ws[p] = S at HL1 HL2 HN HA
      generalize ((numV ws[p] : Nat) : Int) = V at HA HX
      clear L1 L2 L3 h hS ht htk hX hnum hfig h6
      go_enter Tryz.func169, Tryz.ntmps169
      go_wp2_with fail
      refine HL1.out.mono ?_
      rintro e w1 ⟨rfl, rfl⟩
      go_wp2_with fail
      refine HL2.out.mono ?_
      rintro e w2 ⟨rfl, rfl⟩
      go_wp2_with fail
      refine HN.out.mono ?_
      rintro e w3 ⟨rfl, h3, b3⟩
      have K3 := (show Hid (_) from And.intro h3 b3)
      have hs3 := b3.size
      clear h3 b3
      go_wp2_with fail
      refine (HA.out _).mono ?_
      rintro e w4 ⟨rfl, b4⟩
      have HX4 := (show Hid (_) from HX.out w4 (K3.out.1.keep b4) (K3.out.2.trans (But.of (b4.mono hs3))))
      clear b4
      go_wp2
      go_ret
      exact HX4.out
    · have hnum' : numW ws[p] = false := by simpa using hnum
      rw [hnum'] at L2
      have HL1 := (show Hid (Calls _ _ _ _ _) from L1)
      have HL2 := (show Hid (Calls _ _ _ _ _) from L2)
      by_cases hnm : nmW ws[p] = true
      · rw [hnm] at L3
        have HL3 := (show Hid (Calls _ _ _ _ _) from L3)
        have HN : Hid (Calls Tryz.prog 189 #[.pointer (some ⟨b, 0, none⟩)] w fun e w' => GotY K ws pl b (.level 2) p w e w') := (ynamed_any hS hp hnm h).mono fun _ _ hG => hG.lev2
        generalize wbS ws[p] = S at HL1 HL2 HL3
        clear L1 L2 L3 h hS ht htk hX hnum hnum' hnm
        go_enter Tryz.func169, Tryz.ntmps169
        go_wp2_with fail
        refine HL1.out.mono ?_
        rintro e w1 ⟨rfl, rfl⟩
        go_wp2_with fail
        refine HL2.out.mono ?_
        rintro e w2 ⟨rfl, rfl⟩
        go_wp2_with fail
        refine HL1.out.mono ?_
        rintro e w1 ⟨rfl, rfl⟩
        go_wp2_with fail
        refine HL3.out.mono ?_
        rintro e w2 ⟨rfl, rfl⟩
        go_wp2_with fail
        refine HN.out.mono ?_
        intro r w3 hG
        cases hG with
        | @bad u _ pr bt =>
          have HB : Hid (GotY K ws pl b (.level 2) p w (.panicked [misf (pl (ws.length - u.length))]) w3) := .bad pr bt
          clear pr bt
          go_wp2
          exact ⟨rfl, HB.out⟩
        | @ok m ns u A c _ hg =>
          have HB : Hid (GotY K ws pl b (.level 2) p w (.returned (.slice A ns.length c)) w3) := .ok hg
          clear hg
          generalize ns.length = nl at HB ⊢
          go_wp2
          go_ret
          exact HB.out
      · have hnm' : nmW ws[p] = false := by simpa using hnm
        rw [hnm'] at L3
        have HL3 := (show Hid (Calls _ _ _ _ _) from L3)
        by_cases h91 : ws[p] = [91]
        · have hm : ws[p]? = some [91] := by rw [List.getElem?_eq_getElem hp, h91]
          have HH : Hid (Calls Tryz.prog 104 #[.pointer (some ⟨b, 0, none⟩), .string ⟨#[91]⟩] w fun e w' => e = .returned (.bool true) ∧ Ry K ws pl b (p + 1) w' ∧ But w.heap.size b w w') := yhas_yes h [91] hm
          have HK : Hid (∀ W, Ry K ws pl b (p + 1) W → But w.heap.size b w W → Calls Tryz.prog 190 #[.pointer (some ⟨b, 0, none⟩), .agg #[.int .i64 4, .string ⟨#[]⟩, .int .i64 0], .string ⟨#[93]⟩] W fun r w' => GotY K ws pl b (.level 2) p w r w') := fun W hW hB => by
            refine (ykids_any (e := [93]) (op := 4) (tx := ⟨#[]⟩) (by simp) (by decide) (fun q h1 h2 => hS q (by omega) h2) hW).mono ?_
            intro r w' hG
            have hs := hB.size
            cases hG with
            | bad pr bt => exact .bad (by rw [HD.out, h91]; exact .lev2 (.sLB pr)) (hB.trans (bt.mono hs))
            | @ok n ns u A c _ hg =>
              have hl := hg.n
              rw [drop_len2] at hl
              refine GotY.ok (m := 0) (ns := lsT n :: ns) (u := u) ⟨by rw [HD.out, h91]; exact .lev2 (.sLO hg.pr), hg.o.down hs, ?_, hg.rd, hB.trans (hg.bt.mono hs)⟩
              rw [drop_len2, List.length_cons]; omega
          generalize wbS ws[p] = S at HL1 HL2 HL3
          clear L1 L2 L3 h hS ht htk hX hnum hnum' hnm hnm' hm h91
          go_enter Tryz.func169, Tryz.ntmps169
          go_wp2_with fail
          refine HL1.out.mono ?_
          rintro e w1 ⟨rfl, rfl⟩
          go_wp2_with fail
          refine HL2.out.mono ?_
          rintro e w2 ⟨rfl, rfl⟩
          go_wp2_with fail
          refine HL1.out.mono ?_
          rintro e w1 ⟨rfl, rfl⟩
          go_wp2_with fail
          refine HL3.out.mono ?_
          rintro e w2 ⟨rfl, rfl⟩
          go_wp2_with fail
          refine HH.out.mono ?_
          rintro e w2 ⟨rfl, h2, b2⟩
          have HK2 : Hid (Calls Tryz.prog 190 #[.pointer (some ⟨b, 0, none⟩), .agg #[.int .i64 4, .string ⟨#[]⟩, .int .i64 0], .string ⟨#[93]⟩] w2 fun r w' => GotY K ws pl b (.level 2) p w r w') := HK.out w2 h2 b2
          clear h2 b2 HH HK
          go_wp2_with fail
          refine HK2.out.mono ?_
          intro r w3 hG
          cases hG with
          | @bad u _ pr bt =>
            have HB : Hid (GotY K ws pl b (.level 2) p w (.panicked [misf (pl (ws.length - u.length))]) w3) := .bad pr bt
            clear pr bt
            go_wp2
            exact ⟨rfl, HB.out⟩
          | @ok m ns u A c _ hg =>
            have HB : Hid (GotY K ws pl b (.level 2) p w (.returned (.slice A ns.length c)) w3) := .ok hg
            clear hg
            generalize ns.length = nl at HB ⊢
            go_wp2
            go_ret
            exact HB.out
        · have hm : ws[p]? ≠ some [91] := by rw [List.getElem?_eq_getElem hp]; simpa using h91
          have HH : Hid (Calls Tryz.prog 104 #[.pointer (some ⟨b, 0, none⟩), .string ⟨#[91]⟩] w fun e w' => e = .returned (.bool false) ∧ w = w') := (yhas_no h [91] (by simp) hm).mono fun _ _ h => ⟨h.1, h.2.symm⟩
          by_cases h40 : ws[p] = [40]
          · have hm4 : ws[p]? = some [40] := by rw [List.getElem?_eq_getElem hp, h40]
            have HM : Hid (Calls Tryz.prog 106 #[.pointer (some ⟨b, 0, none⟩), .string ⟨#[40]⟩] w fun e w' => e = .returned (.tuple #[]) ∧ Ry K ws pl b (p + 1) w' ∧ But w.heap.size b w w') := ymust_yes h [40] hm4
            have HD4 : Hid (ws.drop p = [40] :: ws.drop (p + 1)) := by
              show _ = _
              rw [HD.out, h40]
            have HS : Hid (SumY K ws pl b (p + 1)) := hS (p + 1) (by omega) (by omega)
            generalize wbS ws[p] = S at HL1 HL2 HL3
            clear L1 L2 L3 h hS ht htk hX hnum hnum' hnm hnm' hm h91 h40 hm4 HD
            go_enter Tryz.func169, Tryz.ntmps169
            go_wp2_with fail
            refine HL1.out.mono ?_
            rintro e w1 ⟨rfl, rfl⟩
            go_wp2_with fail
            refine HL2.out.mono ?_
            rintro e w2 ⟨rfl, rfl⟩
            go_wp2_with fail
            refine HL1.out.mono ?_
            rintro e w1 ⟨rfl, rfl⟩
            go_wp2_with fail
            refine HL3.out.mono ?_
            rintro e w2 ⟨rfl, rfl⟩
            go_wp2_with fail
            refine HH.out.mono ?_
            rintro e w2 ⟨rfl, rfl⟩
            go_wp2_with fail
            refine HM.out.mono ?_
            rintro e w3 ⟨rfl, h3, b3⟩
            have HB3 : Hid (But w.heap.size b w w3) := b3
            have hs3 := b3.size
            have HSC : Hid (Calls Tryz.prog 107 #[.pointer (some ⟨b, 0, none⟩)] w3 fun e w' => GotY K ws pl b (.level 0) (p + 1) w3 e w') := HS.out w3 h3
            clear h3 b3 HM HH
            go_wp2_with fail
            refine HSC.out.mono ?_
            intro r w4 hG
            cases hG with
            | @bad u _ pr bt =>
              have HB : Hid (GotY K ws pl b (.level 2) p w (.panicked [misf (pl (ws.length - u.length))]) w4) := .bad (by rw [HD4.out]; exact .lev2 (.sPB pr)) (HB3.out.trans (bt.mono hs3))
              clear pr bt
              go_wp2
              exact ⟨rfl, HB.out⟩
            | @ok m ns u A c _ hg =>
              have hsf := pr_suf hg.pr
              have hu : ws.drop (ws.length - u.length) = u := rest_at2 hsf.1
              have hl := hg.n
              rw [drop_len2] at hl
              have hs4 := hg.bt.size
              have hb4 : But w.heap.size b w w4 := HB3.out.trans (hg.bt.mono hs3)
              by_cases hm5 : ws[ws.length - u.length]? = some [41]
              · obtain ⟨hlt5, he5⟩ := List.getElem?_eq_some_iff.1 hm5
                have hu2 : u = [41] :: ws.drop (ws.length - u.length + 1) := by
                  have h9 := drop_at2 hlt5
                  rw [hu, he5] at h9
                  exact h9
                have HM5 : Hid (Calls Tryz.prog 106 #[.pointer (some ⟨b, 0, none⟩), .string ⟨#[41]⟩] w4 fun e w' => e = .returned (.tuple #[]) ∧ GotY K ws pl b (.level 2) p w (.returned (.slice A ns.length c)) w') := by
                  refine (ymust_yes hg.rd [41] hm5).mono ?_
                  rintro e w5 ⟨rfl, h5, b5⟩
                  have hul : u.length = (ws.drop (ws.length - u.length + 1)).length + 1 := by
                    have h9 := congrArg List.length hu2
                    rw [List.length_cons] at h9
                    exact h9
                  have hpr := hg.pr
                  rw [hu2] at hpr
                  refine ⟨rfl, GotY.ok (m := 0) (ns := ns) (u := ws.drop (ws.length - u.length + 1)) ⟨by rw [HD4.out]; exact .lev2 (.sPC hpr), (hg.o.but2 b5 (by omega)).down hs3, ?_, ?_, hb4.trans (b5.mono (by omega))⟩⟩
                  · rw [drop_len2 (p := p)]; omega
                  · rw [show ws.length - (ws.drop (ws.length - u.length + 1)).length = ws.length - u.length + 1 by omega]
                    exact h5
                clear hg hu hu2 hm5 he5 hsf hl
                generalize ns.length = nl at HM5 ⊢
                go_wp2_with fail
                refine HM5.out.mono ?_
                rintro e w5 ⟨rfl, h5⟩
                have K5 := (show Hid (GotY _ _ _ _ _ _ _ _ _) from h5)
                clear h5
                go_wp2
                go_ret
                exact K5.out
              · have HM5 : Hid (Calls Tryz.prog 106 #[.pointer (some ⟨b, 0, none⟩), .string ⟨#[41]⟩] w4 fun e w' => e = .panicked [misf (pl (ws.length - u.length))] ∧ GotY K ws pl b (.level 2) p w (.panicked [misf (pl (ws.length - u.length))]) w') := by
                  refine (ymust_no hg.rd [41] (by simp) hm5).mono ?_
                  rintro e w5 ⟨rfl, rfl⟩
                  refine ⟨rfl, .bad ?_ hb4⟩
                  rw [HD4.out]
                  refine .lev2 (.sPX hg.pr ?_)
                  rw [← hu, head_drop2]
                  exact hm5
                clear hg hu hm5 hsf hl
                generalize ns.length = nl
                generalize pl (ws.length - u.length) = pp at HM5
                go_wp2_with fail
                refine HM5.out.mono ?_
                rintro e w5 ⟨rfl, h5⟩
                have K5 := (show Hid (GotY _ _ _ _ _ _ _ _ _) from h5)
                clear h5
                go_wp2
                exact ⟨rfl, K5.out⟩
          · have hm4 : ws[p]? ≠ some [40] := by rw [List.getElem?_eq_getElem hp]; simpa using h40
            have HM : Hid (Calls Tryz.prog 106 #[.pointer (some ⟨b, 0, none⟩), .string ⟨#[40]⟩] w fun e w' => e = .panicked [misf (pl p)] ∧ w = w') := (ymust_no h [40] (by simp) hm4).mono fun _ _ h => ⟨h.1, h.2.symm⟩
            have HX : Hid (GotY K ws pl b (.level 2) p w (.panicked [misf (pl p)]) w) := ybad_at hple (by rw [HD.out]; exact .lev2 (.sBad h40 h91 hnum' hnm')) (But.refl _ _ _)
            generalize wbS ws[p] = S at HL1 HL2 HL3
            clear L1 L2 L3 h hS ht htk hX hnum hnum' hnm hnm' hm h91 h40 hm4 HD
            go_enter Tryz.func169, Tryz.ntmps169
            go_wp2_with fail
            refine HL1.out.mono ?_
            rintro e w1 ⟨rfl, rfl⟩
            go_wp2_with fail
            refine HL2.out.mono ?_
            rintro e w2 ⟨rfl, rfl⟩
            go_wp2_with fail
            refine HL1.out.mono ?_
            rintro e w1 ⟨rfl, rfl⟩
            go_wp2_with fail
            refine HL3.out.mono ?_
            rintro e w2 ⟨rfl, rfl⟩
            go_wp2_with fail
            refine HH.out.mono ?_
            rintro e w2 ⟨rfl, rfl⟩
            go_wp2_with fail
            refine HM.out.mono ?_
            rintro e w3 ⟨rfl, rfl⟩
            go_wp2
            exact ⟨rfl, HX.out⟩
  · have hpe : p = ws.length := by omega
    have hX := getD_end (ws := ws) (q := p) (by omega)
    obtain ⟨L1, L2, L3⟩ := ylook h hX (.inl rfl)
    have hn1 : numW [] = false := rfl
    have hn2 : nmW [] = false := by decide
    rw [hn1] at L2
    rw [hn2] at L3
    have HL1 := (show Hid (Calls _ _ _ _ _) from L1)
    have HL2 := (show Hid (Calls _ _ _ _ _) from L2)
    have HL3 := (show Hid (Calls _ _ _ _ _) from L3)
    have hno : ∀ s, ws[p]? ≠ some s := fun s => by rw [List.getElem?_eq_none (by omega)]; simp
    have HH : Hid (Calls Tryz.prog 104 #[.pointer (some ⟨b, 0, none⟩), .string ⟨#[91]⟩] w fun e w' => e = .returned (.bool false) ∧ w = w') := (yhas_no h [91] (by simp) (hno _)).mono fun _ _ h => ⟨h.1, h.2.symm⟩
    have HM : Hid (Calls Tryz.prog 106 #[.pointer (some ⟨b, 0, none⟩), .string ⟨#[40]⟩] w fun e w' => e = .panicked [misf (pl p)] ∧ w = w') := (ymust_no h [40] (by simp) (hno _)).mono fun _ _ h => ⟨h.1, h.2.symm⟩
    have HX : Hid (GotY K ws pl b (.level 2) p w (.panicked [misf (pl p)]) w) := by
      refine ybad_at hple ?_ (But.refl _ _ _)
      rw [List.drop_eq_nil_of_le (by omega)]
      exact .lev2 .sinN
    generalize wbS [] = S at HL1 HL2 HL3
    clear L1 L2 L3 h hS ht hX hn1 hn2 hno hpe
    go_enter Tryz.func169, Tryz.ntmps169
    go_wp2_with fail
    refine HL1.out.mono ?_
    rintro e w1 ⟨rfl, rfl⟩
    go_wp2_with fail
    refine HL2.out.mono ?_
    rintro e w2 ⟨rfl, rfl⟩
    go_wp2_with fail
    refine HL1.out.mono ?_
    rintro e w1 ⟨rfl, rfl⟩
    go_wp2_with fail
    refine HL3.out.mono ?_
    rintro e w2 ⟨rfl, rfl⟩
    go_wp2_with fail
    refine HH.out.mono ?_
    rintro e w2 ⟨rfl, rfl⟩
    go_wp2_with fail
    refine HM.out.mono ?_
    rintro e w3 ⟨rfl, rfl⟩
    go_wp2
    exact ⟨rfl, HX.out⟩
/-- Every expression is read. -/
theorem yread_all (ht : ∀ x ∈ ws, isTok x) : ∀ n p, p ≤ ws.length → ws.length - p ≤ n → SinY K ws pl b p ∧ TimY K ws pl b p ∧ SumY K ws pl b p := by
  intro n
  induction n with
  | zero =>
    intro p hp hn
    have hs : SinY K ws pl b p := ysingle_of ht fun q h1 h2 => by omega
    have h1 : TimY K ws pl b p := ytimes_of fun q h1 h2 => by
      obtain rfl : q = p := by omega
      exact hs
    exact ⟨hs, h1, ysum_of fun q h3 h4 => by
      obtain rfl : q = p := by omega
      exact h1⟩
  | succ n ih =>
    intro p hp hn
    have hs : SinY K ws pl b p := ysingle_of ht fun q h1 h2 => (ih q h2 (by omega)).2.2
    have hs' : ∀ q, p ≤ q → q ≤ ws.length → SinY K ws pl b q := fun q h1 h2 => by
      rcases Nat.eq_or_lt_of_le h1 with rfl | h3
      · exact hs
      · exact (ih q h2 (by omega)).1
    have h1 : TimY K ws pl b p := ytimes_of hs'
    have h1' : ∀ q, p ≤ q → q ≤ ws.length → TimY K ws pl b q := fun q h1q h2 => by
      rcases Nat.eq_or_lt_of_le h1q with rfl | h3
      · exact h1
      · exact (ih q h2 (by omega)).2.1
    exact ⟨hs, h1, ysum_of h1'⟩
theorem ysum_any (ht : ∀ x ∈ ws, isTok x) (hp : p ≤ ws.length) : SumY K ws pl b p := (yread_all ht _ p hp (Nat.le_refl _)).2.2
end
end Go.Proofs.YtmbeamcjpidnjaaGreatDoor
