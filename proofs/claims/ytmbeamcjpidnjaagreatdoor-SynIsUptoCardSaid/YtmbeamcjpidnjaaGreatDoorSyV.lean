/- Package syn's reader: what is bound by nothing within it; every expression. -/
import Derived.Test.YtmbeamcjpidnjaaGreatDoorSyU
import Derived.Lib.Atoi
import Derived.Lib.AtoiErrMem
namespace Go.Proofs.YtmbeamcjpidnjaaGreatDoor
open Go Go.RowKit

theorem dec_from : ∀ (w : Wd) (a : Nat), (∀ b ∈ w, figB b = true) → Lib.decFrom a w = some (w.foldl (fun a c => a * 10 + (c.toNat - 48)) a)
  | [], a, _ => rfl
  | c :: r, a, h => by
    have hc := h c (by simp)
    simp only [figB, Bool.and_eq_true, decide_eq_true_eq] at hc
    have e : Lib.digitVal c = some (c.toNat - 48) := by rw [Lib.digitVal, if_pos hc]
    rw [Lib.decFrom, e]
    exact dec_from r _ fun b hb => h b (by simp [hb])
theorem atoi_num {w : Wd} (h : ∀ b ∈ w, figB b = true) (h0 : w ≠ []) : Lib.atoi w = some ((numV w : Nat) : Int) := by
  cases w with
  | nil => exact absurd rfl h0
  | cons c r =>
    have hc := h c (by simp)
    simp only [figB, Bool.and_eq_true, decide_eq_true_eq] at hc
    have e1 : (c == 45) = false := by
      rw [beq_eq_false_iff_ne]; rintro rfl; revert hc; decide
    have e2 : (c == 43) = false := by
      rw [beq_eq_false_iff_ne]; rintro rfl; revert hc; decide
    have e3 : Lib.decNat (c :: r) = some (numV (c :: r)) := by
      rw [Lib.decNat]
      exact dec_from (c :: r) 0 h
    simp only [Lib.atoi, e1, e2, e3]
    rfl
theorem atoi_any (w : Wd) (h : ∀ b ∈ w, figB b = true) (h0 : w ≠ []) (hl : w.length ≤ 6) (W : World) : Calls Tryz.prog 188 #[.string (wbS w)] W fun e w' => e = .returned (.tuple #[.int .i64 ((numV w : Nat) : Int), .nilIface]) ∧ Below W.heap.size W w' := by
  refine (atoi_sh (wbS w) ((numV w : Nat) : Int) (by rw [← btL_len]; show w.length ≤ 18; omega) (atoi_num h h0) W).mono ?_
  rintro e w' ⟨rfl, t, rfl⟩
  exact ⟨rfl, Lib.bytesWorld_below _ _ _⟩
section
variable {K : LwK} {ws : List Wd} {pl : Nat → Nat} {b p : Nat} {w : World}
/-- What was read, by another name. -/
theorem GotY.lev2 {e : Ending} {w' : World} (h : GotY K ws pl b .single p w e w') : GotY K ws pl b (.level 2) p w e w' := by
  cases h with
  | ok h => exact .ok ⟨.lev2 h.pr, h.o, h.n, h.rd, h.bt⟩
  | bad pr bt => exact .bad (.lev2 pr) bt
theorem ybad_at {j : Job} {q : Nat} {w' : World} (hq : q ≤ ws.length) (pr : PR j (ws.drop p) (.bad (ws.drop q))) (bt : But w.heap.size b w w') : GotY K ws pl b j p w (.panicked [misf (pl q)]) w' := by
  have h9 := GotY.bad (K := K) (pl := pl) pr bt
  rw [drop_len2, show ws.length - (ws.length - q) = q by omega] at h9
  exact h9
theorem drop_at2 (h : p < ws.length) : ws.drop p = ws[p] :: ws.drop (p + 1) := List.drop_eq_getElem_cons h
set_option maxRecDepth 100000 in
set_option maxHeartbeats 4000000 in
theorem ynamed_any (hS : ∀ q, p < q → q ≤ ws.length → SumY K ws pl b q) (hp : p < ws.length) (hn : nmW ws[p] = true) (h : Ry K ws pl b p w) :
    Calls Tryz.prog 189 #[.pointer (some ⟨b, 0, none⟩)] w fun e w' => GotY K ws pl b .single p w e w' := by
  have HN : Hid (Calls Tryz.prog 142 #[.pointer (some ⟨b, 0, none⟩)] w fun e w' => e = .returned (.string (wbS ws[p])) ∧ Ry K ws pl b (p + 1) w' ∧ But w.heap.size b w w') := ynext_any h hp
  have HD : Hid (ws.drop p = ws[p] :: ws.drop (p + 1)) := drop_at2 hp
  have hbw : b < w.heap.size := h.row.lt
  clear h
  by_cases hm : ws[p + 1]? = some [40]
  · obtain ⟨hplt, hpe⟩ := List.getElem?_eq_some_iff.1 hm
    have HD2 : Hid (ws.drop (p + 1) = [40] :: ws.drop (p + 2)) := by
      show _ = _
      rw [drop_at2 hplt, hpe]
    have HK : Hid (∀ W, Ry K ws pl b (p + 2) W → But w.heap.size b w W → Calls Tryz.prog 190 #[.pointer (some ⟨b, 0, none⟩), .agg #[.int .i64 3, .string (wbS ws[p]), .int .i64 0], .string ⟨#[41]⟩] W fun r w' => GotY K ws pl b .single p w r w') := fun W hW hB => by
      refine (ykids_any (e := [41]) (op := 3) (tx := wbS ws[p]) (by simp) (by decide) (fun q h1 h2 => hS q (by omega) h2) hW).mono ?_
      intro r w' hG
      have hs := hB.size
      cases hG with
      | bad pr bt => exact .bad (by rw [HD.out, HD2.out]; exact .sCB hn pr) (hB.trans (bt.mono hs))
      | @ok n ns u A c _ hg =>
        have hl := hg.n
        rw [drop_len2] at hl
        refine GotY.ok (m := 0) (ns := clT ws[p] n :: ns) (u := u) ⟨by rw [HD.out, HD2.out]; exact .sCO hn hg.pr, hg.o.down hs, ?_, hg.rd, hB.trans (hg.bt.mono hs)⟩
        rw [drop_len2, List.length_cons]; omega
    generalize wbS ws[p] = S at HN HK
    go_enter Tryz.func189, Tryz.ntmps189
    go_wp2_with fail
    refine HN.out.mono ?_
    rintro e w1 ⟨rfl, h1, b1⟩
    have HB1 : Hid (But w.heap.size b w w1) := b1
    have hs1 := b1.size
    have HH : Hid (Calls Tryz.prog 104 #[.pointer (some ⟨b, 0, none⟩), .string ⟨#[40]⟩] w1 fun e w' => e = .returned (.bool true) ∧ Ry K ws pl b (p + 2) w' ∧ But w1.heap.size b w1 w') := yhas_yes h1 [40] hm
    clear h1 b1 HN hm hpe
    go_wp2_with fail
    refine HH.out.mono ?_
    rintro e w2 ⟨rfl, h2, b2⟩
    have HK2 : Hid (Calls Tryz.prog 190 #[.pointer (some ⟨b, 0, none⟩), .agg #[.int .i64 3, .string S, .int .i64 0], .string ⟨#[41]⟩] w2 fun r w' => GotY K ws pl b .single p w r w') := HK.out w2 h2 (HB1.out.trans (b2.mono hs1))
    clear h2 b2 HH HK
    go_wp2_with fail
    refine HK2.out.mono ?_
    intro r w3 hG
    cases hG with
    | @bad u _ pr bt =>
      have HB : Hid (GotY K ws pl b .single p w (.panicked [misf (pl (ws.length - u.length))]) w3) := .bad pr bt
      clear pr bt
      go_wp2
      exact ⟨rfl, HB.out⟩
    | @ok m ns u A c _ hg =>
      have HB : Hid (GotY K ws pl b .single p w (.returned (.slice A ns.length c)) w3) := .ok hg
      clear hg
      generalize ns.length = nl at HB ⊢
      go_wp2
      go_ret
      exact HB.out
  · have HX : Hid (∀ W, Ry K ws pl b (p + 1) W → But w.heap.size b w W → GotY K ws pl b .single p w (.returned (.slice (some ⟨W.heap.size, 0, none⟩) 1 1)) (W.alloc (.cells #[.int .i64 2, .string (wbS ws[p]), .int .i64 0] 39))) := fun W hW hB => by
      refine GotY.ok (m := 0) (ns := [nmT ws[p]]) (u := ws.drop (p + 1)) ⟨by rw [HD.out]; exact .sName hn (by rw [head_drop2]; exact hm), (TdsO.one W (nmT ws[p])).down hB.size, ?_, ?_, hB.alloc hB.size _⟩
      · rw [drop_len2, drop_len2]; simp only [List.length_cons, List.length_nil]; omega
      · rw [drop_len2, show ws.length - (ws.length - (p + 1)) = p + 1 by omega]
        exact hW.keep (belA W _)
    generalize wbS ws[p] = S at HN HX
    go_enter Tryz.func189, Tryz.ntmps189
    go_wp2_with fail
    refine HN.out.mono ?_
    rintro e w1 ⟨rfl, h1, b1⟩
    have HX1 := (show Hid (_) from HX.out w1 h1 b1)
    have HH : Hid (Calls Tryz.prog 104 #[.pointer (some ⟨b, 0, none⟩), .string ⟨#[40]⟩] w1 fun e w' => e = .returned (.bool false) ∧ w' = w1) := yhas_no h1 [40] (by simp) hm
    clear h1 b1 HN hm HX
    go_wp2_with fail
    refine HH.out.mono ?_
    rintro e w2 ⟨rfl, rfl⟩
    go_wp2
    go_ret
    exact HX1.out
end
end Go.Proofs.YtmbeamcjpidnjaaGreatDoor
