/- The walk of the law LayFlat. -/
import Derived.Test.YtmbeamcjpidnjaaGreatDoorLayX
import Derived.Test.YtmbeamcjpidnjaaGreatDoorFlatFs
import Derived.Test.YtmbeamcjpidnjaaGreatDoorShowWs
import Derived.Test.YtmbeamcjpidnjaaGreatDoorSyBs
namespace Go.Proofs.YtmbeamcjpidnjaaGreatDoor
open Go Go.RowKit

def fxL : List Td := [⟨8, ⟨#[]⟩, 0⟩, ⟨4, ⟨#[]⟩, 1⟩, ⟨1, ⟨#[]⟩, 7⟩]
theorem fxL_e : layE fxL = 0 := by decide +kernel
theorem fxL_tx : stTx fxL = [91, 55, 93, 59] := by decide +kernel
abbrev fxLA : Array Value := #[.int .i64 8, .string ⟨#[]⟩, .int .i64 0, .int .i64 4, .string ⟨#[]⟩, .int .i64 1, .int .i64 1, .string ⟨#[]⟩, .int .i64 7]
abbrev fxLO : Obj := .cells fxLA 39
theorem fxLO_cell (w : World) {k : Nat} {v : Value} (h : fxLA[k]? = some v) : (w.alloc fxLO).cell? ⟨w.heap.size, k, none⟩ = some v := by
  have h1 : (w.alloc fxLO).heap[w.heap.size]? = some fxLO := by
    show (w.heap.push fxLO)[w.heap.size]? = _
    simp
  simp only [World.cell?, Option.isSome_none, Bool.false_eq_true, if_false, h1]
  exact h
theorem fxLO_tds (w : World) : Tds (w.alloc fxLO) (some ⟨w.heap.size, 0, none⟩) fxL := by
  intro i hi
  have hi' : i < 3 := hi
  refine ⟨w.heap.size, 0, rfl, by rw [World.size_alloc]; omega, ?_⟩
  rw [Nat.zero_add]
  match i, hi' with
  | 0, _ => exact ⟨fxLO_cell w rfl, fxLO_cell w rfl, fxLO_cell w rfl⟩
  | 1, _ => exact ⟨fxLO_cell w rfl, fxLO_cell w rfl, fxLO_cell w rfl⟩
  | 2, _ => exact ⟨fxLO_cell w rfl, fxLO_cell w rfl, fxLO_cell w rfl⟩
theorem fx_lay (w : World) (ht : TabP w) : Calls Tryz.prog 18 #[.slice (some ⟨w.heap.size, 0, none⟩) 3 3] (w.alloc fxLO) fun e w' => (∃ A c, e = .returned (.tuple #[.slice A (layD fxL).length c, .nilIface]) ∧ Nods w' A (layD fxL) ∧ (layD fxL).length ≤ c) ∧ Below w.heap.size w w' := by
  refine (layDoc_any fxL _ 3 (w.alloc fxLO) (ht.below ((Below.refl _ w).alloc (Nat.le_refl _) _)) (by decide) (fxLO_tds w) (fun x hx => by simp [fxL] at hx; rcases hx with rfl | rfl | rfl <;> decide)).mono ?_
  rintro e w' ⟨⟨A, c, rfl, hN, hc⟩, hb⟩
  refine ⟨⟨A, c, by rw [fxL_e]; rfl, hN, hc⟩, ?_⟩
  exact ((Below.refl _ w).alloc (Nat.le_refl _) _).trans (hb.mono (by rw [World.size_alloc]; omega))
theorem one_prg {t : List Td} {a : Option Addr} {cap : Nat} {w : World} (hc : t.length ≤ cap) (hN : Tds w a t) : Prg (w.alloc (.cells #[.slice a t.length cap] 40)) (some ⟨w.heap.size, 0, none⟩) [t] := by
  intro i hi
  have hi0 : i = 0 := by simp at hi; exact hi
  subst hi0
  refine ⟨w.heap.size, 0, a, cap, rfl, by rw [World.size_alloc]; omega, ?_, hc, hN.alloc _⟩
  have h1 : (w.alloc (.cells #[.slice a t.length cap] 40)).heap[w.heap.size]? = some (.cells #[.slice a t.length cap] 40) := by
    show (w.heap.push _)[w.heap.size]? = _
    simp
  simp only [World.cell?, Option.isSome_none, Bool.false_eq_true, if_false, h1, Nat.zero_add]
  rfl
theorem one_ok {t : List Td} (h : treeF t = 0) : progF [t] = (0, 0) := by
  rw [progF, if_neg (by simp), progG, if_neg (by simp [h]), if_neg (by simp)]; rfl
theorem one_tx (t : List Td) : wbS (prgTx [t]) = wbS (stTx t) ++ (⟨#[10]⟩ : ByteArray) := by
  have e : prgTx [t] = stTx t ++ [10] := by simp [prgTx]
  rw [e]
  exact (wbS_app2 _ _).symm

set_option maxRecDepth 100000 in
set_option maxHeartbeats 8000000 in
theorem layFlat_any (t : List Td) (a : Option Addr) (cap : Nat) (ws : List Int) (wa : Option Addr) (wc : Nat) (w : World) (hc : t.length ≤ cap) (hN : Tds w a t) (hsz : Few9 t) (hwc : ws.length ≤ wc) (hwl : ws.length ≤ 9223372036854775807) (hI : Ints w wa ws) (ht : TabP w) :
    Calls Tryz.prog 6 #[.slice a t.length cap, .slice wa ws.length wc] w fun e w' => e = .returned (.bool true) ∧ Below w.heap.size w w' := by
  have HLD : Hid (∀ W : World, Below w.heap.size w W → Calls Tryz.prog 18 #[.slice a t.length cap] W fun e w' => (∃ A c, e = .returned (.tuple #[.slice A (layD t).length c, errN (layE t)]) ∧ Nods w' A (layD t) ∧ (layD t).length ≤ c) ∧ Below W.heap.size W w') := fun W h => layDoc_any t a cap W (ht.below h) hc (hN.below h) hsz
  have HFX : Hid (Calls Tryz.prog 18 #[.slice (some ⟨w.heap.size, 0, none⟩) 3 3] (w.alloc fxLO) fun e w' => (∃ A c, e = .returned (.tuple #[.slice A (layD fxL).length c, .nilIface]) ∧ Nods w' A (layD fxL) ∧ (layD fxL).length ≤ c) ∧ Below w.heap.size w w') := fx_lay w ht
  have HFF : Hid (∀ (A : Option Addr) (c : Nat) (W : World), Nods W A (layD fxL) → (layD fxL).length ≤ c → Calls Tryz.prog 22 #[.slice A (layD fxL).length c] W fun e w' => e = .returned (.tuple #[.string ⟨#[91, 55, 93, 59]⟩, .bool true, .nilIface]) ∧ Below W.heap.size W w') := fun A c W h h2 => by
    have h3 := flat_any (layD fxL) A c h2 W h
    obtain ⟨e1, e2, e3⟩ := lay_line fxL_e
    rw [e1, e2, e3, fxL_tx, errN_0] at h3
    exact h3
  have HTP : Hid (TabP w) := ht
  have HTN : Hid (Tds w a t) := hN
  have HSZ : Hid (Few9 t) := hsz
  have HWI : Hid (Ints w wa ws) := hI
  generalize (layD fxL).length = nf at HFX HFF
  clear hN hsz hI ht
  go_enter Tryz.func6, Tryz.ntmps6
  go_wp2_with fail
  refine HFX.out.mono ?_
  rintro e w1 ⟨⟨A1, c1, rfl, hN1, hc1⟩, b1⟩
  have HB1 : Hid (Below w.heap.size w w1) := b1
  have HF1 : Hid (Calls Tryz.prog 22 #[.slice A1 nf c1] w1 fun e w' => e = .returned (.tuple #[.string ⟨#[91, 55, 93, 59]⟩, .bool true, .nilIface]) ∧ Below w1.heap.size w1 w') := HFF.out A1 c1 w1 hN1 hc1
  clear b1 hN1 hc1 HFX HFF
  go_wp2_with fail
  refine HF1.out.mono ?_
  rintro e w2 ⟨rfl, b2⟩
  have HB2 : Hid (Below w.heap.size w w2) := belowT HB1.out (Nat.le_refl _) b2
  clear b2 HB1 HF1
  go_wp2_with fail
  refine (HLD.out _ HB2.out).mono ?_
  rintro e w3 ⟨⟨A3, c3, rfl, hN3, hc3⟩, b3⟩
  have HB3 : Hid (Below w.heap.size w w3) := belowT HB2.out (Nat.le_refl _) b3
  have HN3 : Hid (Nods w3 A3 (layD t)) := hN3
  clear b3 hN3 HB2 HLD
  by_cases h0 : layE t = 0
  · obtain ⟨ht0, h9, _, _⟩ := lay_ok h0
    obtain ⟨l1, l2, l3⟩ := lay_line h0
    have HFT : Hid (∀ W : World, Below w3.heap.size w3 W → Calls Tryz.prog 22 #[.slice A3 (layD t).length c3] W fun e w' => e = .returned (.tuple #[.string (wbS (stTx t)), .bool true, .nilIface]) ∧ Below W.heap.size W w') := fun W h => by
      have h3 := flat_any (layD t) A3 c3 hc3 W (HN3.out.below h)
      rw [l1, l2, l3, errN_0] at h3
      exact h3
    have HPR : Hid (∀ W : World, Below w.heap.size w W → Calls Tryz.prog 9 #[.slice (some ⟨W.heap.size, 0, none⟩) 1 1] (W.alloc (.cells #[.slice a t.length cap] 40)) fun e w' => e = .returned (.tuple #[.string (wbS (stTx t) ++ (⟨#[10]⟩ : ByteArray)), .nilIface]) ∧ Below W.heap.size W w') := fun W h => by
      have h3 := synPrint_pow [t] (some ⟨W.heap.size, 0, none⟩) 1 (W.alloc (.cells #[.slice a t.length cap] 40)) (by simp) (one_prg hc (HTN.out.below h)) (fun u hu => by simp at hu; subst hu; exact HSZ.out) ((HTP.out.below h).below ((Below.refl _ W).alloc (Nat.le_refl _) _))
      rw [prnS_ok (by rw [one_ok ht0]), one_ok ht0, one_tx, errN_0] at h3
      exact h3.mono fun e w' hh => ⟨hh.1, ((Below.refl _ W).alloc (Nat.le_refl _) _).trans (hh.2.mono (by rw [World.size_alloc]; omega))⟩
    have HSH : Hid (∀ W : World, Below w3.heap.size w3 W → Calls Tryz.prog 23 #[.slice A3 (layD t).length c3, .slice wa ws.length wc] W fun e w' => e = .returned (.tuple #[.string (shS ((stDoc t).show ws)), errN (shE ((stDoc t).show ws))]) ∧ Below W.heap.size W w') := fun W h => by
      have h3 := wshow_any (layD t) ws A3 wa c3 wc hc3 hwc hwl W (HN3.out.below h) (Ints.below (HWI.out.below HB3.out) h)
      rw [lay_show h0] at h3
      exact h3
    have HDN : Hid (∀ r, (stDoc t).show ws = .ok r → dnS (wbS r) = dnS (wbS (stTx t)) ∧ r.length ≤ 2000000) := fun r h => lay_den h0 h
    have hTl : (wbS (stTx t)).size ≤ 10000 := by
      have h1 : (wbS (stTx t)).size = (stTx t).length := by rw [← btL_len]; rfl
      have h2 := st_len ht0
      omega
    have HER : Hid (∀ e, (stDoc t).show ws = .error e → e ≠ 0) := fun e h => showD_err (ds := layD t) (by rw [lay_show h0]; exact h)
    rw [h0, errN_0]
    clear h0 ht0 h9 l1 l2 l3
    generalize wbS (stTx t) = T at HFT HPR HDN hTl
    generalize (layD t).length = nd at HFT HSH hc3
    have ht1 : ((T ++ (⟨#[10]⟩ : ByteArray)).toList == (T ++ (⟨#[10]⟩ : ByteArray)).toList) = true := by simp
    have ht2 : ((T ++ (⟨#[10]⟩ : ByteArray)).toList != (T ++ (⟨#[10]⟩ : ByteArray)).toList) = false := by simp
    have g1 : ¬ 9223372036854775807 < T.size + 1 := by omega
    go_wp2_with fail
    refine (HFT.out _ (Below.refl _ _)).mono ?_
    rintro e w4 ⟨rfl, b4⟩
    have HB34 : Hid (Below w3.heap.size w3 w4) := b4
    have HB4 : Hid (Below w.heap.size w w4) := belowT HB3.out (Nat.le_refl _) b4
    clear b4 HFT
    go_wp2_with fail
    refine (HPR.out _ HB4.out).mono ?_
    rintro e w5 ⟨rfl, b5⟩
    have HB35 : Hid (Below w3.heap.size w3 w5) := belowT HB34.out (Nat.le_refl _) b5
    have HB5 : Hid (Below w.heap.size w w5) := belowT HB4.out (Nat.le_refl _) b5
    clear b5 HPR HB34 HB4
    go_wp2_with fail
    refine (HSH.out _ HB35.out).mono ?_
    rintro e w6 ⟨rfl, b6⟩
    have HB6 : Hid (Below w.heap.size w w6) := belowT HB5.out (Nat.le_refl _) b6
    clear b6 HB5 HB35 HSH
    cases hsh : (stDoc t).show ws with
    | error er =>
      have HE := (show Hid (_ = _) from errN_ne (HER.out er hsh))
      have e1 : shE (Except.error er : Except Int (List UInt8)) = er := rfl
      rw [e1, HE.out]
      clear hsh HDN HER
      go_wp2
      go_ret
      exact ⟨rfl, HB6.out⟩
    | ok r =>
      obtain ⟨hd1, hd2⟩ := HDN.out r hsh
      have e1 : shE (Except.ok r : Except Int (List UInt8)) = 0 := rfl
      have e2 : shS (Except.ok r : Except Int (List UInt8)) = wbS r := rfl
      rw [e1, e2, errN_0]
      have hrl : (wbS r).size ≤ 4000000 := by
        have h1 : (wbS r).size = r.length := by rw [← btL_len]; rfl
        omega
      have HD1 : Hid (dnS (wbS r) = dnS T) := hd1
      clear hsh HDN HER hd1 hd2
      generalize wbS r = U at hrl HD1
      have hq : ((dnS T).toList == (dnS T).toList) = true := by simp
      go_wp2_with fail
      refine (ldense_any U _ hrl).mono ?_
      rintro e w7 ⟨rfl, b7⟩
      have HB7 : Hid (Below w.heap.size w w7) := belowT HB6.out (Nat.le_refl _) b7
      rw [HD1.out]
      clear b7 HB6
      go_wp2_with fail
      refine (ldense_any T _ (by omega)).mono ?_
      rintro e w8 ⟨rfl, b8⟩
      have HB8 : Hid (Below w.heap.size w w8) := belowT HB7.out (Nat.le_refl _) b8
      clear b8 HB7
      generalize dnS T = V at hq ⊢
      go_wp2
      go_ret
      exact ⟨rfl, HB8.out⟩
  · have HE := (show Hid (_ = _) from errN_ne h0)
    rw [HE.out]
    clear h0
    go_wp2
    go_ret
    exact ⟨rfl, HB3.out⟩
end Go.Proofs.YtmbeamcjpidnjaaGreatDoor
