/- The walk of the law LexSpaces. -/
import Derived.Test.YtlogepdifapciabDoorLexW
import Derived.Test.YtlogepdifapciabDoorFilT
namespace Go.Proofs.YtlogepdifapciabDoor
open Go Go.RowKit

theorem lx_let : lx [108, 101, 116, 32, 97, 61, 49, 59] 0 = ([(0, [108, 101, 116]), (4, [97]), (5, [61]), (6, [49]), (7, [59])], none) := by
  have e1 : ([108, 101, 116, 32, 97, 61, 49, 59] : List UInt8).drop (tkLen [108, 101, 116, 32, 97, 61, 49, 59]) = [32, 97, 61, 49, 59] := rfl
  have e2 : ([97, 61, 49, 59] : List UInt8).drop (tkLen [97, 61, 49, 59]) = [61, 49, 59] := rfl
  have e3 : ([61, 49, 59] : List UInt8).drop (tkLen [61, 49, 59]) = [49, 59] := rfl
  have e4 : ([49, 59] : List UInt8).drop (tkLen [49, 59]) = [59] := rfl
  have e5 : ([59] : List UInt8).drop (tkLen [59]) = [] := rfl
  rw [lx_tok _ rfl rfl, e1, lxW, lxF, lx_sp _ _ rfl, lx_tok _ rfl rfl, e2, lxW, lxF, lx_tok _ rfl rfl, e3, lxW, lxF, lx_tok _ rfl rfl, e4, lxW, lxF, lx_tok _ rfl rfl, e5, lxW, lxF, lx_nil]
  rfl
theorem let_e : lexE [108, 101, 116, 32, 97, 61, 49, 59] = 0 ∧ wdsL [108, 101, 116, 32, 97, 61, 49, 59] = [[108, 101, 116], [97], [61], [49], [59]] := by
  have h1 : wdsL [108, 101, 116, 32, 97, 61, 49, 59] = [[108, 101, 116], [97], [61], [49], [59]] := by rw [wdsL, lxW, lx_let]; rfl
  refine ⟨?_, h1⟩
  rw [lexE, lxF, lx_let, h1]
  rfl
theorem spc_le {n : Nat} : ∀ (ws : List (List UInt8)), (∀ w ∈ ws, w.length ≤ n) → (spc ws).length ≤ ws.length * (n + 1)
  | [], _ => by simp [spc]
  | w :: r, h => by
    have h1 := h w (by simp)
    have h2 := spc_le r fun x hx => h x (by simp [hx])
    simp only [spc, List.length_append, List.length_cons, Nat.add_mul]
    omega
theorem wd_le {L : List UInt8} : ∀ w ∈ wdsL L, w.length ≤ L.length := by
  intro w hw
  obtain ⟨j, hj, rfl⟩ := List.getElem_of_mem hw
  have := (wp_at L j hj (by rw [← wp_len]; exact hj)).1
  omega
/-- The words again. -/
theorem spc_e {L : List UInt8} (h : lexE L = 0) (hl : (spc (wdsL L)).length ≤ 60000) : lexE (spc (wdsL L)) = 0 ∧ wdsL (spc (wdsL L)) = wdsL L := by
  obtain ⟨_, _, h3⟩ := lexE_zero h
  obtain ⟨g1, g2⟩ := lx_spc (wdsL L) 0 (wds_tok L)
  have g3 : wdsL (spc (wdsL L)) = wdsL L := g2
  exact ⟨(lexE_none hl g1 (by rw [g3]; omega)).1, g3⟩
theorem btL_wb (w : List UInt8) : btL (wbS w) = w := by simp [btL, wbS]
theorem wbS_app (a b : List UInt8) : wbS a ++ wbS b = wbS (a ++ b) := by
  apply ByteArray.ext
  simp [wbS]
theorem spc_take {ws : List (List UInt8)} {k : Nat} (h : k < ws.length) : wbS (spc (ws.take (k + 1))) = wbS (spc (ws.take k)) ++ wbS ws[k] ++ ⟨#[10]⟩ := by
  rw [List.take_succ_eq_append_getElem h, spc_app]
  have e : (⟨#[10]⟩ : ByteArray) = wbS [10] := rfl
  rw [e, wbS_app, wbS_app]
  simp [spc]

set_option maxRecDepth 100000 in
set_option maxHeartbeats 8000000 in
theorem lexSpaces_any (s : ByteArray) (w : World) : Calls Tryd.prog 5 #[.string s] w fun e w' => e = .returned (.bool true) ∧ Below w.heap.size w w' := by
  obtain ⟨f1, f2⟩ := let_e
  have HF0 : Hid (lexE (btL ⟨#[108, 101, 116, 32, 97, 61, 49, 59]⟩) = 0) := f1
  have HF1 : Hid (wdsL (btL ⟨#[108, 101, 116, 32, 97, 61, 49, 59]⟩) = [[108, 101, 116], [97], [61], [49], [59]]) := f2
  clear f1 f2
  go_enter Tryd.func5, Tryd.ntmps5
  go_wp2_with fail
  refine (words_any _ _).mono ?_
  rintro e w1 ⟨⟨h1, _⟩ | ⟨_, A, P, ac, pc, rfl, hT⟩, b1⟩
  · exact absurd HF0.out h1
  have hn1 : (wdsL (btL ⟨#[108, 101, 116, 32, 97, 61, 49, 59]⟩)).length = 5 := by rw [HF1.out]; rfl
  have HW : Hid (Wds w1 A [⟨#[108, 101, 116]⟩, ⟨#[97]⟩, ⟨#[61]⟩, ⟨#[49]⟩, ⟨#[59]⟩]) := by
    have h := hT.ws
    rw [wdsS, HF1.out] at h
    exact h
  rw [hn1]
  clear hT hn1 HF0 HF1
  have HW1 : Hid (∀ O : Obj, Wds (w1.alloc O) A [⟨#[108, 101, 116]⟩, ⟨#[97]⟩, ⟨#[61]⟩, ⟨#[49]⟩, ⟨#[59]⟩]) := fun O => Wds.below HW.out ((Below.refl _ _).alloc (Nat.le_refl _) _)
  have HW2 : Hid (Wds (w1.alloc (.cells #[.string ⟨#[108, 101, 116]⟩, .string ⟨#[97]⟩, .string ⟨#[61]⟩, .string ⟨#[49]⟩, .string ⟨#[59]⟩] 9)) (some ⟨w1.heap.size, 0, none⟩) [⟨#[108, 101, 116]⟩, ⟨#[97]⟩, ⟨#[61]⟩, ⟨#[49]⟩, ⟨#[59]⟩]) := by
    intro j hj
    refine ⟨w1.heap.size, 0, rfl, by simp, ?_⟩
    have h5 : j = 0 ∨ j = 1 ∨ j = 2 ∨ j = 3 ∨ j = 4 := by simp at hj; omega
    rcases h5 with rfl | rfl | rfl | rfl | rfl <;> simp [go_sem]
  clear HW
  go_wp2_with fail
  refine (stexts_at 5 [⟨#[108, 101, 116]⟩, ⟨#[97]⟩, ⟨#[61]⟩, ⟨#[49]⟩, ⟨#[59]⟩] rfl A (some ⟨w1.heap.size, 0, none⟩) ac 5 _ (HW1.out _) HW2.out (by decide)).mono ?_
  rintro e w2 ⟨rfl, q, hq⟩
  have b2 : Below w1.heap.size w1 w2 := by rw [hq]; exact belDraw ((Below.refl _ _).alloc (Nat.le_refl _) _) q
  have B2 := belowT b1 (Nat.le_refl _) b2
  clear hq HW1 HW2 b1 b2
  go_wp2_with fail
  refine (words_any s _).mono ?_
  rintro e w3 ⟨h3, b3⟩
  have B3 := belowT B2 (Nat.le_refl _) b3
  clear B2 b3
  rcases h3 with ⟨hE, rfl⟩ | ⟨hE, A1, P1, ac1, pc1, rfl, hT1⟩
  · rw [errN_ne hE]
    generalize lexE (btL s) = E1
    clear hE
    go_wp2
    go_ret
    exact ⟨by rfl, B3⟩
  · have HE1 : Hid (lexE (btL s) = 0) := hE
    have HT1 : Hid (TwoR (btL s) A1 P1 ac1 pc1 w3) := hT1
    have hss : s.size ≤ 60000 := by rw [← btL_len]; exact (lexE_zero hE).1
    have hn1 : (wdsL (btL s)).length ≤ 60000 := lex_few hE
    clear hE hT1
    generalize hN1 : (wdsL (btL s)).length = n1 at hn1
    have HN1 : Hid ((wdsL (btL s)).length = n1) := hN1
    clear hN1
    go_wp2
    go_loopw [12, 13] (fun t i wx => (∃ q : Nat, wx = w3.drewN q) ∧ ∃ k : Nat, k ≤ n1 ∧ i = .int .i64 (k : Int) ∧ t = .string (wbS (spc ((wdsL (btL s)).take k)))) (fun _ i _ => n1 - (intOf i).toNat)
    case atStart => exact ⟨⟨0, rfl⟩, 0, Nat.zero_le _, rfl, rfl⟩
    case round =>
      obtain ⟨⟨q, rfl⟩, k, hk, rfl, rfl⟩ := hrel
      by_cases hlt : k < n1
      · have hki : (k : Int) < (n1 : Int) := by omega
        have hkge : ¬ (n1 : Int) ≤ (k : Int) := by omega
        have hkw : k < (wdsL (btL s)).length := by rw [HN1.out]; exact hlt
        have hkp : k < (plcL (btL s)).length := by rw [← wp_len]; exact hkw
        obtain ⟨a1, a2, a3, a4⟩ := wp_at (btL s) k hkw hkp
        have hkz : k < (plcZ (btL s)).length := by rw [plcZ_len]; exact hkw
        have hks : k < (wdsS (btL s)).length := by rw [wdsS_len]; exact hkw
        obtain ⟨bp, op, ep, _, cp⟩ := HT1.out.ps k hkz
        obtain ⟨bw, ow, ew, _, cw⟩ := HT1.out.ws k hks
        subst ep ew
        have cp' : w3.cell? ⟨bp, op + k, none⟩ = some (.int .i64 (((plcL (btL s))[k] : Nat) : Int)) := by
          rw [cp]; simp [plcZ]
        have cw' : w3.cell? ⟨bw, ow + k, none⟩ = some (.string (wbS (wdsL (btL s))[k])) := by
          rw [cw]; simp [wdsS]
        clear cp cw
        rw [btL_len] at a1
        have hsl : ∀ W : World, (Instr.slice 9 (.string s) (some (.int .i64 (((plcL (btL s))[k] : Nat) : Int))) (some (.int .i64 ((((plcL (btL s))[k] : Nat) : Int) + ((wdsL (btL s))[k].length : Int)))) none).run Tryd.prog W = .ok (.string (wbS (wdsL (btL s))[k])) W := fun W => by
          have h9 := slice_wb s (plcL (btL s))[k] ((plcL (btL s))[k] + (wdsL (btL s))[k].length) (by omega) a1 W
          rw [show (plcL (btL s))[k] + (wdsL (btL s))[k].length - (plcL (btL s))[k] = (wdsL (btL s))[k].length by omega, a2, show (((plcL (btL s))[k] + (wdsL (btL s))[k].length : Nat) : Int) = (((plcL (btL s))[k] : Nat) : Int) + ((wdsL (btL s))[k].length : Int) by omega] at h9
          exact h9
        have HSP : Hid (wbS (spc ((wdsL (btL s)).take (k + 1))) = wbS (spc ((wdsL (btL s)).take k)) ++ wbS (wdsL (btL s))[k] ++ ⟨#[10]⟩) := spc_take hkw
        have hwz : (wbS (wdsL (btL s))[k]).size = (wdsL (btL s))[k].length := wbS_size _
        have htz : (wbS (spc ((wdsL (btL s)).take k))).size ≤ 3600060000 := by
          rw [wbS_size]
          have h1 := spc_le (n := 60000) ((wdsL (btL s)).take k) (fun x hx => by
            have h2 := wd_le x (List.mem_of_mem_take hx)
            rw [btL_len] at h2
            omega)
          have h2 : ((wdsL (btL s)).take k).length ≤ 60000 := by rw [List.length_take]; omega
          have h3 := Nat.mul_le_mul_right 60001 h2
          omega
        have HA4 : Hid (∀ j (h1 : j < (wdsL (btL s)).length) (h2 : j < (plcL (btL s)).length), j < k → (plcL (btL s))[j] + (wdsL (btL s))[j].length ≤ (plcL (btL s))[k]) := a4
        clear a2 a3 a4 hkz hks
        generalize (plcL (btL s))[k] = pv at *
        generalize (wdsL (btL s))[k] = wv at *
        generalize hT : wbS (spc ((wdsL (btL s)).take k)) = T at htz HSP
        clear hT
        rw [← hwz] at hsl a1
        generalize wbS wv = X at cw' hsl hwz HSP a1
        clear hwz
        have hpz : ¬ (pv : Int) < 0 := by omega
        have hps : ¬ (s.size : Int) < (pv : Int) + (X.size : Int) := by omega
        have hpi : (pv : Int) + (X.size : Int) ≤ (s.size : Int) := by omega
        have hwr : IntKind.i64.wrap ((pv : Int) + (X.size : Int)) = (pv : Int) + (X.size : Int) := by rw [IntKind.wrap_i64]; omega
        obtain ⟨z, hz⟩ : ∃ z : Int, (k : Int) = z := ⟨_, rfl⟩
        have HZ : Hid ((k : Int) = z) := hz
        have hzt : z.toNat = k := by omega
        rw [hz]
        rw [hz] at hki hkge
        rw [← hzt] at cp' cw'
        have hz0 : 0 ≤ z := by omega
        have hgd : decide ((n1 : Int) ≤ z) = false := decide_eq_false (by omega)
        have hpd : decide ((pv : Int) < 0) = false := decide_eq_false hpz
        have hsd : decide ((s.size : Int) < (pv : Int) + (X.size : Int)) = false := decide_eq_false hps
        clear hz hzt
        by_cases h0 : 0 < z
        · have hk0 : 0 < k := by have := HZ.out; omega
          obtain ⟨y, rfl⟩ : ∃ y : Int, z = y + 1 := ⟨z - 1, by omega⟩
          have hjw : k - 1 < (wdsL (btL s)).length := by omega
          have hjp : k - 1 < (plcL (btL s)).length := by rw [← wp_len]; exact hjw
          obtain ⟨bp2, op2, ep2, _, cp2⟩ := HT1.out.ps (k - 1) (by rw [plcZ_len]; exact hjw)
          obtain ⟨bw2, ow2, ew2, _, cw2⟩ := HT1.out.ws (k - 1) (by rw [wdsS_len]; exact hjw)
          simp only [Option.some.injEq, Addr.mk.injEq, and_true] at ep2 ew2
          obtain ⟨rfl, rfl⟩ := ep2
          obtain ⟨rfl, rfl⟩ := ew2
          have hzj : y.toNat = k - 1 := by have := HZ.out; omega
          have h4 := HA4.out (k - 1) hjw hjp (by omega)
          have cp3 : w3.cell? ⟨bp, op + y.toNat, none⟩ = some (.int .i64 (((plcL (btL s))[k - 1] : Nat) : Int)) := by
            rw [hzj, cp2]; simp [plcZ]
          have cw3 : w3.cell? ⟨bw, ow + y.toNat, none⟩ = some (.string (wbS (wdsL (btL s))[k - 1])) := by
            rw [hzj, cw2]; simp [wdsS]
          have hwz2 : (wbS (wdsL (btL s))[k - 1]).size = (wdsL (btL s))[k - 1].length := wbS_size _
          rw [← hwz2] at h4
          generalize (plcL (btL s))[k - 1] = pv2 at cp3 h4
          generalize wbS (wdsL (btL s))[k - 1] = X2 at cw3 h4
          clear hwz2 cp2 cw2 hzj
          have hz3 : 0 ≤ y := by omega
          have hz4 : y < (n1 : Int) := by omega
          have hyy : y + 1 - 1 = y := by omega
          have hwr0 : IntKind.i64.wrap (y + 1 - 1) = y := by rw [IntKind.wrap_i64]; omega
          have hwr2 : IntKind.i64.wrap ((pv2 : Int) + (X2.size : Int)) = (pv2 : Int) + (X2.size : Int) := by rw [IntKind.wrap_i64]; omega
          have hnl : ¬ (pv : Int) < (pv2 : Int) + (X2.size : Int) := by omega
          have hnd : decide ((pv : Int) < (pv2 : Int) + (X2.size : Int)) = false := decide_eq_false hnl
          have h0d : decide (0 < y + 1) = true := decide_eq_true h0
          go_wp2_with fail
          go_quiet (fail)
          go_wp2
          go_roundw
          case rel => exact ⟨⟨_, rfl⟩, k + 1, by omega, by rw [← HZ.out]; go_num, by rw [HSP.out]⟩
          case measure => simp [intOf]; omega
        · have h0d : decide (0 < z) = false := decide_eq_false h0
          go_wp2_with fail
          go_quiet (fail)
          go_wp2
          go_roundw
          case rel => exact ⟨⟨_, rfl⟩, k + 1, by omega, by rw [← HZ.out]; go_num, by rw [HSP.out]⟩
          case measure => simp [intOf]; omega
      · have hke : k = n1 := by omega
        subst hke
        have hki : ¬ (k : Int) < (k : Int) := by omega
        have HTK : Hid ((wdsL (btL s)).take k = wdsL (btL s)) := by show _ = _; rw [List.take_of_length_le (by rw [HN1.out]; exact Nat.le_refl _)]
        rw [HTK.out]
        have hlen : (wbS (spc (wdsL (btL s)))).size = (spc (wdsL (btL s))).length := wbS_size _
        have HBT : Hid (btL (wbS (spc (wdsL (btL s)))) = spc (wdsL (btL s))) := btL_wb _
        by_cases hbig : 60000 < (spc (wdsL (btL s))).length
        · have hbi : 60000 < ((wbS (spc (wdsL (btL s)))).size : Int) := by omega
          generalize wbS (spc (wdsL (btL s))) = T at hbi
          go_wp2
          go_ret
          exact ⟨by rfl, belDraw B3 _⟩
        · have hbi : ¬ 60000 < ((wbS (spc (wdsL (btL s)))).size : Int) := by omega
          obtain ⟨g1, g2⟩ := spc_e HE1.out (by omega)
          have HG : Hid (lexE (btL (wbS (spc (wdsL (btL s))))) = 0 ∧ wdsL (btL (wbS (spc (wdsL (btL s))))) = wdsL (btL s)) := by
            rw [HBT.out]; exact ⟨g1, g2⟩
          clear g1 g2 hlen HBT hbig
          generalize wbS (spc (wdsL (btL s))) = T at hbi HG
          go_wp2_with fail
          refine (words_any T _).mono ?_
          rintro e w4 ⟨⟨h4, _⟩ | ⟨_, A2, P2, ac2, pc2, rfl, hT2⟩, b4⟩
          · exact absurd HG.out.1 h4
          · have b4' : Below w3.heap.size w3 w4 := (belDraw (Below.refl _ w3) q).trans b4
            have B4 := belowT B3 (Nat.le_refl _) b4'
            have HW4 : Hid (Wds w4 A2 (wdsS (btL s)) ∧ Wds w4 A1 (wdsS (btL s))) := by
              have h := hT2.ws
              rw [wdsS, HG.out.2] at h
              exact ⟨h, (HT1.out.below b4').ws⟩
            have hn4 : (wdsL (btL T)).length = k := by rw [HG.out.2, HN1.out]
            rw [hn4]
            clear hT2 hn4 b4 b4'
            go_wp2_with fail
            refine (stexts_at k (wdsS (btL s)) (by rw [wdsS_len, HN1.out]) A2 A1 ac2 ac1 _ HW4.out.1 HW4.out.2 (by rw [wdsS_len, HN1.out]; omega)).mono ?_
            rintro e w5 ⟨rfl, q5, hq5⟩
            have B5 : Below w.heap.size w w5 := by rw [hq5]; exact belDraw B4 q5
            clear hq5
            go_wp2
            go_ret
            exact ⟨by rfl, B5⟩
end Go.Proofs.YtlogepdifapciabDoor
