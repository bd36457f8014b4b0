/- All of package tree. -/
import Derived.Test.YtmbeamcjpidnjaaGreatDoorTreZs
namespace Go.Proofs.YtmbeamcjpidnjaaGreatDoor
open Go Go.RowKit

set_option maxRecDepth 100000 in
theorem tNote_any (a : Addr) (n cap : Nat) (op : Int) (w : World) (hn : 0 < n) {b o : Nat} (ha : a = ⟨b, o, none⟩) (hc : w.cell? ⟨b, o, none⟩ = some (.int .i64 op)) : Calls Tryz.prog 60 #[.slice (some a) n cap] w fun e w' => e = .returned (.bool (op == 9)) ∧ w = w' := by
  subst ha
  have hni : (0 : Int) < (n : Int) := by omega
  go_enter Tryz.func60, Tryz.ntmps60
  go_wp2
  go_ret
  exact ⟨rfl, rfl⟩

set_option maxRecDepth 100000 in
set_option maxHeartbeats 4000000 in
theorem tAll_nine (ps : List (List Td)) (a : Option Addr) (cap : Nat) (w : World) (_hc : ps.length ≤ cap) (hP : Prg w a ps) (hsz : ∀ t ∈ ps, Few9 t) : Calls Tryz.prog 26 #[.slice a ps.length cap] w fun e w' => e = .returned (.tuple #[.int .i64 ((progF ps).1 : Int), errN (progF ps).2]) ∧ Below w.heap.size w w' := by
  have HP : Hid (Prg w a ps) := hP
  have HSZ : Hid (∀ t ∈ ps, Few9 t) := hsz
  clear hP hsz
  by_cases h20 : 20 < (ps.length : Int)
  · have HE : Hid (progF ps = (0, 3)) := by show progF ps = _; rw [progF, if_pos (by omega)]
    go_enter Tryz.func26, Tryz.ntmps26
    go_wp2
    go_ret2
    exact ⟨by rw [HE.out]; rfl, Below.refl _ _⟩
  have HF : Hid (progF ps = progG 0 0 ps) := by show progF ps = _; rw [progF, if_neg (by omega)]
  go_enter Tryz.func26, Tryz.ntmps26
  go_wp2
  go_loopw [13] (fun i wr => Below w.heap.size w wr ∧ ∃ k : Nat, k ≤ ps.length ∧ i = .int .i64 k ∧ progF ps = progG (prevT ps k) k (ps.drop k) ∧ ∀ j (h : j < ps.length), j < k → treeF ps[j] = 0) (fun i _ => ps.length - (intOf i).toNat)
  case atStart => exact ⟨Below.refl _ _, 0, Nat.zero_le _, rfl, HF.out, fun j _ h => by omega⟩
  case round =>
    obtain ⟨hbr, k, hk, rfl, hF, hall⟩ := hrel
    have HBR : Hid (Below w.heap.size w wr) := hbr
    have HG : Hid (progF ps = progG (prevT ps k) k (ps.drop k)) := hF
    have HA : Hid (∀ j (h : j < ps.length), j < k → treeF ps[j] = 0) := hall
    clear hbr hF hall
    by_cases hlt : k < ps.length
    · obtain ⟨b, o, a', c', ea, hb, c1, c2, hT⟩ := (HP.out.below HBR.out) k hlt
      subst ea
      have hki : (k : Int) < (ps.length : Int) := by omega
      have HTF0 : Calls Tryz.prog 49 #[.slice a' ps[k].length c'] wr fun e w' => e = .returned (errN (treeF ps[k])) ∧ Below wr.heap.size wr w' := tCheck_nine ps[k] a' c' wr c2 hT (HSZ.out _ (List.getElem_mem hlt))
      have HA3 : Hid (treeF ps[k] = 0 → ∀ j (h : j < ps.length), j < k + 1 → treeF ps[j] = 0) := fun h0 j h hj => by
        by_cases hjk : j = k
        · subst hjk; exact h0
        · exact HA.out j h (by omega)
      have HOP : Hid (treeF ps[k] = 0 → 0 < ps[k].length ∧ ∃ b1 o1, a' = some ⟨b1, o1, none⟩ ∧ b1 < wr.heap.size ∧ wr.cell? ⟨b1, o1, none⟩ = some (.int .i64 (opT ps[k]))) := fun h0 => by
        have hpos := treeF_ne h0
        obtain ⟨b1, o1, e1, hb1, d1, _, _⟩ := hT 0 hpos
        exact ⟨hpos, b1, o1, e1, hb1, by rw [opT_get hpos]; simpa using d1⟩
      have HBAD : Hid (treeF ps[k] ≠ 0 → progF ps = (k, treeF ps[k])) := fun h => HG.out.trans (progG_bad hlt h)
      have HTWO : Hid (treeF ps[k] = 0 → opT ps[k] = 9 ∧ prevT ps k = 9 → progF ps = (k, 2)) := fun h h2 => HG.out.trans (progG_two hlt h h2)
      have HNXT : Hid (treeF ps[k] = 0 → ¬ (opT ps[k] = 9 ∧ prevT ps k = 9) → progF ps = progG (prevT ps (k + 1)) (k + 1) (ps.drop (k + 1))) := fun h h2 => HG.out.trans (progG_next hlt h h2)
      have HPREV : Hid (∀ j, k = j + 1 → ∃ a1 n1 c1', wr.cell? ⟨b, o + j, none⟩ = some (.slice a1 n1 c1') ∧ 0 < n1 ∧ ∃ b2 o2, a1 = some ⟨b2, o2, none⟩ ∧ b2 < wr.heap.size ∧ wr.cell? ⟨b2, o2, none⟩ = some (.int .i64 (prevT ps k))) := fun j hj => by
        have hjl : j < ps.length := by omega
        obtain ⟨bj, oj, aj, cj, ej, _, q1, _, qT⟩ := (HP.out.below HBR.out) j hjl
        simp only [Option.some.injEq, Addr.mk.injEq, and_true] at ej
        obtain ⟨rfl, rfl⟩ := ej
        have hpos := treeF_ne (HA.out j hjl (by omega))
        obtain ⟨b2, o2, e2, hb2, d2, _, _⟩ := qT 0 hpos
        refine ⟨aj, ps[j].length, cj, q1, hpos, b2, o2, e2, hb2, ?_⟩
        rw [hj, prevT_next hjl, opT_get hpos]
        simpa using d2
      have HTF : Hid (Calls Tryz.prog 49 #[.slice a' ps[k].length c'] wr fun e w' => e = .returned (errN (treeF ps[k])) ∧ Below wr.heap.size wr w') := HTF0
      clear hT HTF0 c2
      generalize ps[k].length = nl at c1 HTF HOP
      generalize opT ps[k] = op0 at HOP HTWO HNXT
      generalize treeF ps[k] = E at HTF HA3 HOP HBAD HTWO HNXT
      by_cases he : E = 0
      · subst he
        obtain ⟨hnl, b1, o1, rfl, hb1, d1⟩ := HOP.out rfl
        have HA4 := (show Hid (_) from HA3.out rfl)
        have HT2 : Hid (op0 = 9 ∧ prevT ps k = 9 → progF ps = (k, 2)) := HTWO.out rfl
        have HN2 : Hid (¬ (op0 = 9 ∧ prevT ps k = 9) → progF ps = progG (prevT ps (k + 1)) (k + 1) (ps.drop (k + 1))) := HNXT.out rfl
        clear HTWO HNXT
        have hnli : (0 : Int) < (nl : Int) := by omega
        have HC1 := (show Hid (_) from c1)
        have HD1 := (show Hid (_) from d1)
        clear HOP HBAD HA3 c1 d1
        by_cases hk0 : k = 0
        · have HN : Hid (progF ps = progG (prevT ps (k + 1)) (k + 1) (ps.drop (k + 1))) := HN2.out (by simp [prevT, hk0])
          have hkb : ¬ (0 : Int) < (k : Int) := by omega
          have c1 := HC1.out
          clear HT2 HN2 hk0
          go_wp2_with fail
          refine HTF.out.mono ?_
          rintro e w2 ⟨rfl, b2⟩
          rw [errN_0]
          have HB2 : Hid (Below w.heap.size w w2) := belowT HBR.out (Nat.le_refl _) b2
          clear b2 c1
          go_wp2
          go_roundw
          case rel => exact ⟨HB2.out, k + 1, by omega, by go_num, HN.out, HA4.out⟩
          case measure => simp [intOf]; omega
        · obtain ⟨j, rfl⟩ : ∃ j, k = j + 1 := ⟨k - 1, by omega⟩
          obtain ⟨a1, n1, c1', q1, hn1, b2, o2, rfl, hb2, d2⟩ := HPREV.out j rfl
          have hcast : ((j + 1 : Nat) : Int) = (j : Int) + 1 := by omega
          have hkb : (0 : Int) < (j : Int) + 1 := by omega
          have hji : (j : Int) < (ps.length : Int) := by omega
          have hkj : (j : Int) + 1 < (ps.length : Int) := by omega
          have HCK : Hid (∀ W : World, Below wr.heap.size wr W → W.cell? ⟨b, o + (j + 1), none⟩ = some (.slice (some ⟨b1, o1, none⟩) nl c') ∧ W.cell? ⟨b1, o1, none⟩ = some (.int .i64 op0) ∧ W.cell? ⟨b, o + j, none⟩ = some (.slice (some ⟨b2, o2, none⟩) n1 c1') ∧ W.cell? ⟨b2, o2, none⟩ = some (.int .i64 (prevT ps (j + 1)))) := fun W hW =>
            ⟨((bcell hW).1 _ _ hb).trans HC1.out, ((bcell hW).1 _ _ hb1).trans HD1.out, ((bcell hW).1 _ _ hb).trans q1, ((bcell hW).1 _ _ hb2).trans d2⟩
          have c1 := HC1.out
          generalize prevT ps (j + 1) = pv at HT2 HN2 HCK
          rw [hcast] at hki ⊢
          clear q1 d2 HPREV hcast hk0
          go_wp2_with fail
          refine HTF.out.mono ?_
          rintro e w2 ⟨rfl, b2'⟩
          rw [errN_0]
          have HB2 : Hid (Below w.heap.size w w2) := belowT HBR.out (Nat.le_refl _) b2'
          obtain ⟨k1, k2, k3, k4⟩ := HCK.out w2 b2'
          clear b2' c1
          have HN1 : Hid (Calls Tryz.prog 60 #[.slice (some ⟨b1, o1, none⟩) nl c'] w2 fun e w' => e = .returned (.bool (op0 == 9)) ∧ w2 = w') := tNote_any ⟨b1, o1, none⟩ nl c' op0 w2 hnl rfl k2
          have HN2' : Hid (Calls Tryz.prog 60 #[.slice (some ⟨b2, o2, none⟩) n1 c1'] w2 fun e w' => e = .returned (.bool (pv == 9)) ∧ w2 = w') := tNote_any ⟨b2, o2, none⟩ n1 c1' pv w2 hn1 rfl k4
          clear k2 k4
          go_wp2_with fail
          refine HN1.out.mono ?_
          rintro e w3 ⟨rfl, rfl⟩
          by_cases h9 : op0 = 9
          · subst h9
            have hob : ((9 : Int) == 9) = true := rfl
            rw [hob]
            clear hob
            go_wp2_with fail
            refine HN2'.out.mono ?_
            rintro e w3 ⟨rfl, rfl⟩
            by_cases h9' : pv = 9
            · subst h9'
              have HE : Hid (progF ps = (j + 1, 2)) := HT2.out (by simp)
              have hob : ((9 : Int) == 9) = true := rfl
              rw [hob]
              clear HT2 HN2 hob
              go_wp2
              go_ret2
              exact ⟨by rw [HE.out]; rfl, HB2.out⟩
            · have HN : Hid (progF ps = progG (prevT ps (j + 1 + 1)) (j + 1 + 1) (ps.drop (j + 1 + 1))) := HN2.out (fun h => h9' h.2)
              have hpb : (pv == 9) = false := by simp [h9']
              rw [hpb]
              clear HT2 HN2 h9' hpb
              go_wp2
              go_roundw
              case rel => exact ⟨HB2.out, j + 1 + 1, by omega, by go_num, HN.out, HA4.out⟩
              case measure => simp [intOf]; omega
          · have HN : Hid (progF ps = progG (prevT ps (j + 1 + 1)) (j + 1 + 1) (ps.drop (j + 1 + 1))) := HN2.out (fun h => h9 h.1)
            have hob : (op0 == 9) = false := by simp [h9]
            rw [hob]
            clear HT2 HN2 h9 hob
            go_wp2
            go_roundw
            case rel => exact ⟨HB2.out, j + 1 + 1, by omega, by go_num, HN.out, HA4.out⟩
            case measure => simp [intOf]; omega
      · have HE : Hid (progF ps = (k, E)) := HBAD.out he
        have HER : Hid (errN E = .iface 23 (.int .i64 E)) := errN_ne he
        clear HOP HBAD HA3 HTWO HNXT he
        go_wp2_with fail
        refine HTF.out.mono ?_
        rintro e w2 ⟨rfl, b2⟩
        rw [HER.out]
        have HB2 : Hid (Below w.heap.size w w2) := belowT HBR.out (Nat.le_refl _) b2
        clear b2 c1
        go_wp2
        go_ret2
        exact ⟨by rw [HE.out, HER.out]; rfl, HB2.out⟩
    · have HE : Hid (progF ps = (0, 0)) := by
        show progF ps = _
        rw [HG.out, List.drop_eq_nil_of_le (by omega)]; rfl
      have hki : ¬ (k : Int) < (ps.length : Int) := by omega
      go_wp2
      go_ret2
      exact ⟨by rw [HE.out]; rfl, HBR.out⟩
theorem tAll_any (ps : List (List Td)) (a : Option Addr) (cap : Nat) (w : World) (hc : ps.length ≤ cap) (hP : Prg w a ps) (hsz : ∀ t ∈ ps, Few8 t) : Calls Tryz.prog 26 #[.slice a ps.length cap] w fun e w' => e = .returned (.tuple #[.int .i64 ((progF ps).1 : Int), errN (progF ps).2]) ∧ Below w.heap.size w w' := tAll_nine ps a cap w hc hP fun t ht => (hsz t ht).nine
end Go.Proofs.YtmbeamcjpidnjaaGreatDoor
