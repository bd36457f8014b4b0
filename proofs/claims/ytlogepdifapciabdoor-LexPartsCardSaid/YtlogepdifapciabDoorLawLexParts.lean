/- The walk of the law LexParts. -/
import Derived.Test.YtlogepdifapciabDoorLawLexIs
import Derived.Test.YtlogepdifapciabDoorAppO
namespace Go.Proofs.YtlogepdifapciabDoor
open Go Go.RowKit

/-- The law's first text. -/
theorem lx_fact : lx [32, 97] 0 = ([(1, [97])], none) := by
  rw [lx_sp _ _ rfl, lx_tok _ rfl rfl]
  have e : ([97] : List UInt8).drop (tkLen [97]) = [] := rfl
  rw [e, lxW, lxF, lx_nil]
  rfl
theorem fact_e : lexE [32, 97] = 0 ∧ wdsL [32, 97] = [[97]] ∧ plcL [32, 97] = [1] := by
  have h1 : wdsL [32, 97] = [[97]] := by rw [wdsL, lxW, lx_fact]; rfl
  refine ⟨?_, h1, by rw [plcL, lxW, lx_fact]; rfl⟩
  rw [lexE, lxF, lx_fact, h1]
  rfl
theorem btL_app (s t : ByteArray) : btL (s ++ t) = btL s ++ btL t := by
  simp [btL]
/-- Two texts, a new line between. -/
theorem btL_two (s t : ByteArray) : btL (s ++ ⟨#[10]⟩ ++ t) = btL s ++ 10 :: btL t := by
  rw [btL_app, btL_app, List.append_assoc]; rfl
theorem two_three {s t st : ByteArray} (e : btL st = btL s ++ 10 :: btL t) (hs : lexE (btL s) = 0) (ht : lexE (btL t) = 0) (h : lexE (btL st) ≠ 0) : lexE (btL st) = 3 := by
  obtain ⟨_, a2, _⟩ := lexE_zero hs
  obtain ⟨_, b2, _⟩ := lexE_zero ht
  obtain ⟨c1, _, _⟩ := lex_parts a2 b2
  rw [e] at h ⊢
  unfold lexE at h ⊢
  split
  · rfl
  · rename_i h1
    rw [if_neg h1, c1, if_neg (by simp)] at h
    rw [c1, if_neg (by simp)]
    split
    · rfl
    · rename_i h2; rw [if_neg h2] at h; exact absurd rfl h

theorem plc_bd (t : ByteArray) {k : Nat} (h : k < (plcZ (btL t)).length) : 0 ≤ (plcZ (btL t))[k] ∧ (plcZ (btL t))[k] ≤ t.size := by
  have h1 : k < (plcL (btL t)).length := by rw [plcZ, List.length_map] at h; exact h
  have h2 : k < (wdsL (btL t)).length := by rw [wp_len]; exact h1
  obtain ⟨a1, _⟩ := wp_at (btL t) k h2 h1
  rw [btL_len] at a1
  simp only [plcZ, List.getElem_map]
  exact ⟨by omega, by omega⟩
theorem plcZ_two {s : ByteArray} {L M : List UInt8} (h : plcL M = plcL (btL s) ++ (plcL L).map (· + ((btL s).length + 1))) : plcZ M = plcZ (btL s) ++ (plcZ L).map (· + ((s.size : Int) + 1)) := by
  rw [plcZ, h, List.map_append, List.map_map, plcZ, plcZ, List.map_map]
  congr 1
/-- What the law's loop keeps. -/
structure LpInv (s t : ByteArray) (n1 n2 : Nat) (A5 : Option Addr) (c5 : Nat) (w6 : World) (k : Nat) (A : Option Addr) (c : Nat) (wx : World) : Prop where
  b : Below w6.heap.size w6 wx
  le : k ≤ n2
  o : IntsO w6.heap.size (.slice A (n1 + k) c) (plcZ (btL s) ++ ((plcZ (btL t)).take k).map (· + ((s.size : Int) + 1))) wx
  s5 : StrsO w6.heap.size (.slice A5 (n1 + n2) c5) (wdsS (btL s) ++ wdsS (btL t)) wx
theorem lp_step {s t : ByteArray} {n1 n2 : Nat} {A5 : Option Addr} {c5 : Nat} {w6 : World} {k : Nat} {A : Option Addr} {c : Nat} {wr : World} (hk : k < (plcZ (btL t)).length) (hlt : k < n2) (h : LpInv s t n1 n2 A5 c5 w6 k A c wr) (e1 : (wdsL (btL s)).length = n1) {g cap2 : Nat} {O : Obj} {w2 : World}
    (hown : w2.ownsRow w6.heap.size 3 1 (.slice (some ⟨g, 0, none⟩) (n1 + k + 1) cap2) (n1 + k + 1) (zCells (plcZ (btL s) ++ ((plcZ (btL t)).take k).map (· + ((s.size : Int) + 1))) ++ [.int .i64 ((plcZ (btL t))[k] + (s.size : Int) + 1)])) (hgrow : (wr.alloc O).grownBy w2 (Value.slice A (n1 + k) c).ownBlock) :
    LpInv s t n1 n2 A5 c5 w6 (k + 1) (some ⟨g, 0, none⟩) cap2 w2 := by
  have hs := h.b.size
  refine ⟨(h.b.alloc hs O).grown hgrow (by simp; omega) (fun j hj => (World.ownsRow.lt h.o j hj).1), hlt, ?_, own_two (World.ownsRow.alloc h.s5 O) (World.ownsRow.alloc h.o O) (by decide) hgrow⟩
  have et : ((plcZ (btL t)).take (k + 1)).map (· + ((s.size : Int) + 1)) = ((plcZ (btL t)).take k).map (· + ((s.size : Int) + 1)) ++ [(plcZ (btL t))[k] + (s.size : Int) + 1] := by
    rw [List.take_succ_eq_append_getElem hk, List.map_append]
    simp [Int.add_assoc]
  have el : (plcZ (btL s) ++ (((plcZ (btL t)).take k).map (· + ((s.size : Int) + 1)) ++ [(plcZ (btL t))[k] + (s.size : Int) + 1])).length = n1 + k + 1 := by
    rw [List.length_append, List.length_append, plcZ_len, e1, List.length_map, List.length_take]
    simp
    omega
  show w2.ownsRow _ _ _ _ _ _
  rw [et, el, ← List.append_assoc, zCells_app]
  exact hown

set_option maxRecDepth 100000 in
set_option maxHeartbeats 8000000 in
theorem lexParts_any (s t : ByteArray) (w : World) (hg : Hnd w) : Calls Tryd.prog 6 #[.string s, .string t] w fun e w' => e = .returned (.bool true) ∧ Below w.heap.size w w' := by
  have HG : Hid (Hnd w) := hg
  clear hg
  obtain ⟨f1, f2, f3⟩ := fact_e
  have HF0 : Hid (lexE (btL ⟨#[32, 97]⟩) = 0) := f1
  have HF1 : Hid (wdsL (btL ⟨#[32, 97]⟩) = [[97]]) := f2
  have HF2 : Hid (plcL (btL ⟨#[32, 97]⟩) = [1]) := f3
  clear f1 f2 f3
  go_enter Tryd.func6, Tryd.ntmps6
  go_wp2_with fail
  refine (words_any _ _).mono ?_
  rintro e w1 ⟨⟨h1, _⟩ | ⟨_, A, P, ac, pc, rfl, hT⟩, b1⟩
  · exact absurd HF0.out h1
  have HT : Hid (TwoR (btL ⟨#[32, 97]⟩) A P ac pc w1) := hT
  have hn1 : (wdsL (btL ⟨#[32, 97]⟩)).length = 1 := by rw [HF1.out]; rfl
  rw [hn1]
  clear hT hn1
  have hW1 : Wds (w1.alloc (.cells #[.string ⟨#[97]⟩] 9)) A [⟨#[97]⟩] := by
    have h := HT.out.ws
    rw [wdsS, HF1.out] at h
    exact Wds.below h ((Below.refl _ _).alloc (Nat.le_refl _) _)
  have hW2 : Wds (w1.alloc (.cells #[.string ⟨#[97]⟩] 9)) (some ⟨w1.heap.size, 0, none⟩) [⟨#[97]⟩] := by
    intro j hj
    obtain rfl : j = 0 := by simp at hj; omega
    exact ⟨w1.heap.size, 0, rfl, by simp, by simp [go_sem]⟩
  have HW1 := (show Hid (_) from hW1)
  have HW2 := (show Hid (_) from hW2)
  clear hW1 hW2
  go_wp2_with fail
  refine (stexts_at 1 [⟨#[97]⟩] rfl A (some ⟨w1.heap.size, 0, none⟩) ac 1 _ HW1.out HW2.out (by decide)).mono ?_
  rintro e w2 ⟨rfl, q, hq⟩
  have b2 : Below w1.heap.size w1 w2 := by rw [hq]; exact belDraw ((Below.refl _ _).alloc (Nat.le_refl _) _) q
  have B2 := belowT b1 (Nat.le_refl _) b2
  have hI1 : Ints (w2.alloc (.cells #[.int .i64 1] 3)) P [1] := by
    have h := (HT.out.below b2).ps
    rw [plcZ, HF2.out] at h
    exact Ints.below h ((Below.refl _ _).alloc (Nat.le_refl _) _)
  have hI2 : Ints (w2.alloc (.cells #[.int .i64 1] 3)) (some ⟨w2.heap.size, 0, none⟩) [1] := by
    intro j hj
    obtain rfl : j = 0 := by simp at hj; omega
    exact ⟨w2.heap.size, 0, rfl, by simp, by simp [go_sem]⟩
  have HI1 := (show Hid (_) from hI1)
  have HI2 := (show Hid (_) from hI2)
  clear hq hI1 hI2 HW1 HW2 b1 HT HF0 HF1 HF2
  go_wp2_with fail
  refine (sints_at 1 [1] rfl P (some ⟨w2.heap.size, 0, none⟩) pc 1 _ HI1.out HI2.out (by decide)).mono ?_
  rintro e w3 ⟨rfl, q, hq⟩
  have b3 : Below w2.heap.size w2 w3 := by rw [hq]; exact belDraw ((Below.refl _ _).alloc (Nat.le_refl _) _) q
  have B3 := belowT B2 (Nat.le_refl _) b3
  clear hq HI1 HI2 b2 b3 B2
  go_wp2_with fail
  refine (words_any s _).mono ?_
  rintro e w4 ⟨h4, b4⟩
  have B4 := belowT B3 (Nat.le_refl _) b4
  clear B3
  rcases h4 with ⟨hE, rfl⟩ | ⟨hE, A1, P1, ac1, pc1, rfl, hT1⟩
  · rw [errN_ne hE]
    generalize lexE (btL s) = E1
    clear hE
    go_wp2_with fail
    refine (words_any t _).mono ?_
    rintro e w5 ⟨h5, b5⟩
    have B5 := belowT B4 (Nat.le_refl _) b5
    rcases h5 with ⟨hE2, rfl⟩ | ⟨_, A2, P2, ac2, pc2, rfl, _⟩
    · rw [errN_ne hE2]
      generalize lexE (btL t) = E2
      clear hE2
      go_wp2
      go_ret
      exact ⟨by rfl, B5⟩
    · go_wp2
      go_ret
      exact ⟨by rfl, B5⟩
  · have HE1 : Hid (lexE (btL s) = 0) := hE
    have HT1 : Hid (TwoR (btL s) A1 P1 ac1 pc1 w4) := hT1
    clear hE hT1
    go_wp2_with fail
    refine (words_any t _).mono ?_
    rintro e w5 ⟨h5, b5⟩
    have B5 := belowT B4 (Nat.le_refl _) b5
    rcases h5 with ⟨hE2, rfl⟩ | ⟨hE, A2, P2, ac2, pc2, rfl, hT2⟩
    · rw [errN_ne hE2]
      generalize lexE (btL t) = E2
      clear hE2
      go_wp2
      go_ret
      exact ⟨by rfl, B5⟩
    · have HE2 : Hid (lexE (btL t) = 0) := hE
      have HT2 : Hid (TwoR (btL t) A2 P2 ac2 pc2 w5) := hT2
      have HT15 : Hid (TwoR (btL s) A1 P1 ac1 pc1 w5) := HT1.out.below b5
      have hss : s.size ≤ 60000 := by rw [← btL_len]; exact (lexE_zero HE1.out).1
      have hst : t.size ≤ 60000 := by rw [← btL_len]; exact (lexE_zero hE).1
      have hn1 : (wdsL (btL s)).length ≤ 60000 := lex_few HE1.out
      have hn2 : (wdsL (btL t)).length ≤ 60000 := lex_few HE2.out
      clear hE hT2 HT1
      generalize hN1 : (wdsL (btL s)).length = n1 at hn1
      generalize hN2 : (wdsL (btL t)).length = n2 at hn2
      have HN1 : Hid ((wdsL (btL s)).length = n1) := hN1
      have HN2 : Hid ((wdsL (btL t)).length = n2) := hN2
      clear hN1 hN2 b4 b5 B4
      go_wp2_with fail
      refine (words_any _ _).mono ?_
      rintro e w6 ⟨h6, b6⟩
      have B6 := belowT B5 (Nat.le_refl _) b6
      generalize hst : s ++ _ ++ t = st at h6 ⊢
      have HST : Hid (btL st = btL s ++ 10 :: btL t) := by
        show btL st = _
        rw [← hst]
        exact btL_two s t
      clear hst
      rcases h6 with ⟨hE3, rfl⟩ | ⟨hE3, A3, P3, ac3, pc3, rfl, hT3⟩
      · have h3 := two_three HST.out HE1.out HE2.out hE3
        rw [h3]
        have HG6 : Hid (Hnd w6) := HG.out.below B6
        clear hE3 h3
        rw [errN_3]
        go_wp2_with fail
        refine (serr_any 3 3 _ HG6.out).mono ?_
        rintro e w7 ⟨rfl, b7⟩
        have B7 := belowT B6 (Nat.le_refl _) b7
        go_wp2
        go_ret
        exact ⟨by rfl, B7⟩
      · have HP := (show Hid (_) from lex_parts (lexE_zero HE1.out).2.1 (lexE_zero HE2.out).2.1)
        have HT3 : Hid (TwoR (btL st) A3 P3 ac3 pc3 w6) := hT3
        have HT1 : Hid (TwoR (btL s) A1 P1 ac1 pc1 w6) := HT15.out.below b6
        have HT2' : Hid (TwoR (btL t) A2 P2 ac2 pc2 w6) := HT2.out.below b6
        have hn3 : (wdsL (btL st)).length = n1 + n2 := by rw [HST.out, HP.out.2.1, List.length_append, HN1.out, HN2.out]
        rw [hn3]
        clear hE3 hT3 hn3 HT15 HT2 B5 b6
        have HZ : Hid (StrsO w6.heap.size (.slice none 0 0) [] w6) := World.ownsRow_nil _ _ _ _
        go_wp2_with (at_builtin; refine app_strs rfl _ _ rfl w6.heap.size _ [] rfl HZ.out A1 n1 (wdsS (btL s)) (by rw [wdsS_len, HN1.out]) ac1 rfl HT1.out.ws (by have h := HT1.out.wn; rw [HN1.out] at h; exact h) n1 (by simp) (by omega) (Nat.le_refl _) ?_)
        intro A4 c4 w7 hO4 hg4
        have hb7 : Below w6.heap.size w6 w7 := (Below.refl _ w6).grown hg4 (Nat.le_refl _) (fun k hk => by cases hk)
        have HO4 : Hid (StrsO w6.heap.size (.slice A4 n1 c4) (wdsS (btL s)) w7) := hO4
        have hs7 := hb7.size
        have HB7 : Hid (Below w6.heap.size w6 w7) := hb7
        have hW27 := (HT2'.out.below hb7).ws
        have HW27 := (show Hid (_) from hW27)
        clear hO4 hg4 hb7 hW27 HZ
        go_wp2_with (at_builtin; refine app_strs rfl _ _ rfl w6.heap.size _ (wdsS (btL s)) rfl HO4.out A2 n2 (wdsS (btL t)) (by rw [wdsS_len, HN2.out]) ac2 rfl HW27.out (by have h := HT2'.out.wn; rw [HN2.out] at h; exact h) (n1 + n2) (by rw [wdsS_len, HN1.out]) (by omega) hs7 ?_)
        intro A5 c5 w8 hO5 hg5
        have HO5 : Hid (StrsO w6.heap.size (.slice A5 (n1 + n2) c5) (wdsS (btL s) ++ wdsS (btL t)) w8) := hO5
        have hb8 : Below w6.heap.size w6 w8 := HB7.out.grown hg5 hs7 (fun k hk => (World.ownsRow.lt HO4.out k hk).1)
        have HB8 : Hid (Below w6.heap.size w6 w8) := hb8
        have hs8 := hb8.size
        have hP18 := (HT1.out.below hb8).ps
        have HP18 := (show Hid (_) from hP18)
        have HZ : Hid (IntsO w6.heap.size (.slice none 0 0) [] w8) := World.ownsRow_nil _ _ _ _
        clear hO5 hg5 hb8 hP18 HW27 HO4 HB7
        go_wp2_with (at_builtin; refine app_ints rfl _ _ rfl w6.heap.size _ [] rfl HZ.out P1 n1 (plcZ (btL s)) (by rw [plcZ_len, HN1.out]) pc1 rfl HP18.out (by have h := HT1.out.pn; rw [HN1.out] at h; exact h) n1 (by simp) (by omega) hs8 ?_)
        intro A6 c6 w9 hO6 hg6
        have hO6' : IntsO w6.heap.size (.slice A6 (n1 + 0) c6) (plcZ (btL s) ++ ((plcZ (btL t)).take 0).map (· + ((s.size : Int) + 1))) w9 := by
          rw [List.take_zero, List.map_nil, List.append_nil]
          exact hO6
        have HI0 : Hid (LpInv s t n1 n2 A5 c5 w6 0 A6 c6 w9) := ⟨HB8.out.grown hg6 hs8 (fun k hk => by cases hk), Nat.zero_le _, hO6', own_two HO5.out (World.ownsRow_nil w8 w6.heap.size 3 1) (by decide) hg6⟩
        clear hO6 hO6' hg6 HZ HP18 HB8 HO5
        go_wp2
        go_loopw [24, 25] (fun x i wx => ∃ (k : Nat) (A : Option Addr) (c : Nat), x = .slice A (n1 + k) c ∧ i = .int .i64 (k : Int) ∧ LpInv s t n1 n2 A5 c5 w6 k A c wx) (fun _ i _ => n2 - (intOf i).toNat)
        case atStart => exact ⟨0, A6, c6, rfl, rfl, HI0.out⟩
        case round =>
          obtain ⟨k, A7, c7, rfl, rfl, hI⟩ := hrel
          have HI : Hid (LpInv s t n1 n2 A5 c5 w6 k A7 c7 wr) := hI
          have hkn := hI.le
          have hsr := hI.b.size
          clear hI
          by_cases hlt : k < n2
          · have hki : (k : Int) < (n2 : Int) := by omega
            have hkl : k < (plcZ (btL t)).length := by rw [plcZ_len, HN2.out]; exact hlt
            obtain ⟨b0, o0, ea, hb0, c0⟩ := (HT2'.out.below HI.out.b).ps k hkl
            subst ea
            have hpb := plc_bd t hkl
            have HNX := (show Hid (_) from lp_step (s := s) (t := t) (n1 := n1) (A5 := A5) (c5 := c5) (w6 := w6) (A := A7) (c := c7) (wr := wr) hkl hlt)
            generalize (plcZ (btL t))[k] = pv at c0 hpb HNX
            obtain ⟨i0, hi0, hz0, hz1, hz2⟩ := info_parts intInf
            have HO7 : Hid (wr.ownsRow w6.heap.size 3 1 (.slice A7 (n1 + k) c7) (n1 + k) (zCells (plcZ (btL s) ++ ((plcZ (btL t)).take k).map (· + ((s.size : Int) + 1))))) := by
              have h := HI.out.o
              have e : (plcZ (btL s) ++ ((plcZ (btL t)).take k).map (· + ((s.size : Int) + 1))).length = n1 + k := by
                rw [List.length_append, plcZ_len, HN1.out, List.length_map, List.length_take, plcZ_len, HN2.out]; omega
              show wr.ownsRow _ _ _ _ _ _
              unfold IntsO at h
              rw [e] at h
              exact h
            generalize hql : plcZ (btL s) ++ ((plcZ (btL t)).take k).map (· + ((s.size : Int) + 1)) = ql at HO7
            have HQL : Hid (plcZ (btL s) ++ ((plcZ (btL t)).take k).map (· + ((s.size : Int) + 1)) = ql) := hql
            clear hql
            go_wp2_with (at_builtin; refine wpList_append_lies _ rfl _ _ 23 rfl w6.heap.size 3 i0 _ 1 8 Tryd.underlying23 hi0 hz0 hz1 hz2 rfl (by decide) _ _ _ rfl (World.ownsRow.alloc HO7.out _) ⟨wr.heap.size, 0, none⟩ 1 1 [.int .i64 (pv + (s.size : Int) + 1)] rfl rfl (cell_one_new wr _ _) (by intro u hu; simp at hu; subst hu; rfl) (by decide) (by unfold maxLen; omega) (by omega) (by simp; omega) (wr.heap.size + 1) (by simp) ?_)
            intro g2 cap2 w2' hown2 hgrow2 hat2 hlt2
            have HI2 : Hid (LpInv s t n1 n2 A5 c5 w6 (k + 1) (some ⟨g2, 0, none⟩) cap2 w2') := HNX.out HI.out HN1.out (by rw [← HQL.out] at hown2; exact hown2) hgrow2
            clear hown2 hgrow2 hat2 hlt2
            go_wp2
            go_roundw
            case rel => exact ⟨k + 1, some ⟨g2, 0, none⟩, cap2, by rw [← Nat.add_assoc], by go_num, HI2.out⟩
            case measure => simp [intOf]; omega
          · obtain rfl : k = n2 := by omega
            have hki : ¬ (k : Int) < (k : Int) := by omega
            have HW3 : Hid (Wds wr A3 (wdsS (btL st)) ∧ Wds wr A5 (wdsS (btL st))) := by
              refine ⟨(HT3.out.below HI.out.b).ws, ?_⟩
              have e : wdsS (btL st) = wdsS (btL s) ++ wdsS (btL t) := by rw [HST.out, wdsS, HP.out.2.1, List.map_append]; rfl
              rw [e]
              exact strsO_wds HI.out.s5
            have HI3 : Hid (∀ W, Below wr.heap.size wr W → Ints W P3 (plcZ (btL st)) ∧ Ints W A7 (plcZ (btL st))) := fun W hW => by
              refine ⟨Ints.below (HT3.out.below HI.out.b).ps hW, Ints.below ?_ hW⟩
              have e : plcZ (btL st) = plcZ (btL s) ++ ((plcZ (btL t)).take k).map (· + ((s.size : Int) + 1)) := by
                rw [List.take_of_length_le (by rw [plcZ_len, HN2.out]; exact Nat.le_refl _), HST.out]
                exact plcZ_two HP.out.2.2
              rw [e]
              exact intsO_ints HI.out.o
            have HNT : Hid ((wdsL (btL st)).length = n1 + k) := by
              show _ = _
              rw [HST.out, HP.out.2.1, List.length_append, HN1.out, HN2.out]
            go_wp2_with fail
            refine (stexts_at (n1 + k) (wdsS (btL st)) (by rw [wdsS_len, HNT.out]) A3 A5 ac3 c5 _ HW3.out.1 HW3.out.2 (by rw [wdsS_len, HNT.out]; omega)).mono ?_
            rintro e w10 ⟨rfl, q, hq⟩
            have b10 : Below wr.heap.size wr w10 := by rw [hq]; exact belDraw (Below.refl _ _) q
            clear hq
            go_wp2_with fail
            refine (sints_at (n1 + k) (plcZ (btL st)) (by rw [plcZ_len, HNT.out]) P3 A7 pc3 c7 _ (HI3.out _ b10).1 (HI3.out _ b10).2 (by rw [plcZ_len, HNT.out]; omega)).mono ?_
            rintro e w11 ⟨rfl, q, hq⟩
            have b11 : Below wr.heap.size wr w11 := by rw [hq]; exact belDraw b10 q
            have B11 : Below w.heap.size w w11 := belowT (belowT B6 (Nat.le_refl _) HI.out.b) (Nat.le_refl _) b11
            clear hq
            go_wp2
            go_ret
            exact ⟨by rfl, B11⟩
end Go.Proofs.YtlogepdifapciabDoor
