/- Words of package lex. -/
import Derived.Test.YtlogepdifapciabDoorLexT
import Derived.Test.YtlogepdifapciabDoorLexY
import Derived.Test.YtlogepdifapciabDoorShf
namespace Go.Proofs.YtlogepdifapciabDoor
open Go Go.RowKit

set_option maxRecDepth 100000 in
theorem lClone_any (s : ByteArray) (w : World) (h : s.size ≤ 281474976710656) :
    Calls Tryd.prog 32 #[.string s] w fun e w' => e = .returned (.string s) ∧ Below w.heap.size w w' := by
  go_enter Tryd.func32, Tryd.ntmps32
  go_wp2_with fail
  refine (clone_sh s _ h).mono ?_
  rintro e w2 ⟨rfl, hb⟩
  go_wp2
  go_ret
  exact ⟨rfl, hb⟩

theorem sp_any (c : UInt8) : (btL (⟨#[32, 10]⟩ : ByteArray)).any (· == c) = spB c := by
  show ((32 == c) || ((10 == c) || false)) = (c == 32 || c == 10)
  rw [Bool.or_false, BEq.comm (a := (32 : UInt8)), BEq.comm (a := (10 : UInt8))]
theorem LexAt.later {s : ByteArray} {w : World} {i : Nat} {dn : List (Nat × List UInt8)} {A P : Option Addr} {ac pc : Nat} {wr wr' : World} (h : LexAt s w i dn A P ac pc wr) (hb : Below wr.heap.size wr wr') : LexAt s w i dn A P ac pc wr' :=
  { b := h.b.trans (hb.mono h.b.size), le := h.le, ln := h.ln, eq := h.eq, ws := own_bel h.ws hb, ps := own_bel h.ps hb }
theorem ext_at {s : ByteArray} {k : Nat} (h : k < s.size) : 0 < (s.extract k s.size).size ∧ ∀ h0 : 0 < (s.extract k s.size).size, (s.extract k s.size)[0] = s[k] := by
  have h1 : 0 < (s.extract k s.size).size := by rw [ByteArray.size_extract]; omega
  refine ⟨h1, fun h0 => ?_⟩
  have e1 := btL_cons h0
  rw [ext_from, btL_drop h, List.cons.injEq] at e1
  exact e1.1.symm
theorem lfirst_at {s : ByteArray} {k : Nat} (h : k < s.size) (hs : s.size ≤ 60000) (hsp : spB s[k] = false) (W : World) :
    Calls Tryd.prog 31 #[.string (s.extract k s.size)] W fun e w' => e = .returned (.tuple #[.string (wbS (tkW ((btL s).drop k))), .bool (tOk s k)]) ∧ Below W.heap.size W w' := by
  obtain ⟨h1, h2⟩ := ext_at h
  have := first_any (s.extract k s.size) W h1 (by rw [ByteArray.size_extract]; omega) (by rw [h2 h1]; exact hsp)
  unfold FirstOk at this
  rw [ext_from] at this
  exact this
theorem wb_head {l : List UInt8} {c : UInt8} {z : List UInt8} (h : l = c :: z) (h0 : 0 < (wbS l).size) : (wbS l)[0] = c := by
  subst h; rfl
theorem word_head {s : ByteArray} {k : Nat} (h : k < s.size) (hsp : spB s[k] = false) : 0 < (wbS (tkW ((btL s).drop k))).size ∧ ∀ h0 : 0 < (wbS (tkW ((btL s).drop k))).size, (wbS (tkW ((btL s).drop k)))[0] = s[k] := by
  have h1 : ∃ z, tkW ((btL s).drop k) = s[k] :: z := by
    rw [tkW, btL_drop h]
    have hp := tkLen_pos s[k] ((btL s).drop (k + 1))
    obtain ⟨m, hm⟩ : ∃ m, tkLen (s[k] :: (btL s).drop (k + 1)) = m + 1 := ⟨_, (Nat.sub_add_cancel hp).symm⟩
    rw [hm, List.take_succ_cons]
    exact trimE_cons (sp_ne hsp) _
  obtain ⟨z, hz⟩ := h1
  exact ⟨by rw [wbS_size, hz]; simp, fun h0 => wb_head hz h0⟩
/-- The word that begins at a place; where the next may begin. -/
theorem LexAt.next {s : ByteArray} {w : World} {i : Nat} {dn : List (Nat × List UInt8)} {A P : Option Addr} {ac pc : Nat} {wr : World} (h : LexAt s w i dn A P ac pc wr) (hi : i < s.size) (hs : spB s[i] = false) (ho : tOk s i = true) {A' P' : Option Addr} {ac' pc' : Nat} {w' : World} (hb : Below w.heap.size w w')
    (h1 : w'.ownsRow w.heap.size 9 1 (.slice A' (dn.length + 1) ac') (dn.length + 1) (strCells (dn.map fun x => wbS x.2) ++ [.string (wbS (tkW ((btL s).drop i)))])) (h2 : w'.ownsRow w.heap.size 3 1 (.slice P' (dn.length + 1) pc') (dn.length + 1) (numCells (dn.map (·.1)) ++ [.int .i64 (i : Int)])) :
    LexAt s w (i + (tkW ((btL s).drop i)).length) (dn ++ [(i, tkW ((btL s).drop i))]) A' P' ac' pc' w' := by
  have hn := h.word hi hs ho hb h1 h2
  have hp : 1 ≤ (tkW ((btL s).drop i)).length := by
    rw [tOk, btL_drop hi] at ho
    rw [btL_drop hi]
    exact tkW_pos hs ho
  have hle : (tkW ((btL s).drop i)).length + i ≤ s.size := by
    have := tkW_len ((btL s).drop i)
    rw [List.length_drop, btL_len] at this
    omega
  have e := hn.eq
  have es := lx_short ((btL s).drop i) i
  rw [List.drop_drop, List.drop_drop] at es
  refine { b := hn.b, le := by omega, ln := by have := h.ln; simp; omega, eq := ?_, ws := hn.ws, ps := hn.ps }
  rw [e, lxW, lxF, lxW, lxF, es]
  rfl

set_option maxRecDepth 100000 in
set_option maxHeartbeats 4000000 in
theorem words_short (s : ByteArray) (w : World) (hl : (btL s).length ≤ 60000) : Calls Tryd.prog 16 #[.string s] w fun e w' => WordsRes s e w' ∧ Below w.heap.size w w' := by
  have hsz : s.size ≤ 60000 := by rw [← btL_len]; exact hl
  clear hl
  have hszi : ¬ 60000 < (s.size : Int) := by omega
  go_enter Tryd.func16, Tryd.ntmps16
  go_wp2_with fail
  refine (oneOf_any _ _).mono ?_
  rintro e w1 ⟨rfl, hw1⟩
  have HO : Hid (OneAt w1 w.heap.size ⟨#[32, 10]⟩) := by rw [hw1]; exact OneAt.new _ _
  have HB1 : Hid (Below w.heap.size w w1) := by rw [hw1]; exact (Below.refl _ _).alloc (Nat.le_refl _) _
  have hs1 := HO.out.1
  generalize hbk : w.heap.size = bk at HO HB1 hs1 ⊢
  have HBK : Hid (w.heap.size = bk) := hbk
  clear hw1 hbk
  go_wp2_with fail
  go_loopw [2, 3, 7, 8] (fun x p m i wr => ∃ (k : Nat) (dn : List (Nat × List UInt8)) (A P : Option Addr) (ac pc : Nat), x = .slice A dn.length ac ∧ p = .slice P dn.length pc ∧ m = .int .i64 ((many (dn.map (·.2)) : Nat) : Int) ∧ i = .int .i64 (k : Int) ∧ LexAt s w1 k dn A P ac pc wr) (fun _ _ _ i _ => s.size - (intOf i).toNat)
  case atStart => exact ⟨0, [], none, none, 0, 0, rfl, rfl, rfl, rfl, { b := Below.refl _ _, le := Nat.zero_le _, ln := Nat.le_refl _, eq := rfl, ws := World.ownsRow_nil _ _ _ _, ps := World.ownsRow_nil _ _ _ _ }⟩
  case round =>
    obtain ⟨k, dn, A, P, ac, pc, rfl, rfl, rfl, rfl, hR⟩ := hrel
    have HR : Hid (LexAt s w1 k dn A P ac pc wr) := hR
    have HOr : Hid (OneAt wr bk ⟨#[32, 10]⟩) := HO.out.below hs1 hR.b
    have HBr : Hid (Below bk w wr) := HB1.out.trans (hR.b.mono (Nat.le_of_lt hs1))
    have hle := hR.le
    have hln := hR.ln
    have hmn : many (dn.map (·.2)) ≤ 60000 := by
      have h1 : many (dn.map (·.2)) ≤ (dn.map (·.2)).length := List.length_filter_le _ _
      rw [List.length_map] at h1
      omega
    clear hR
    generalize hmm : many (dn.map (·.2)) = mm at hmn
    have HMM : Hid (many (dn.map (·.2)) = mm) := hmm
    clear hmm
    by_cases hlt : k < s.size
    · have hki : (k : Int) < (s.size : Int) := by omega
      cases hs : spB s[k] with
      | true =>
        have HN : Hid (LexAt s w1 (k + 1) dn A P ac pc wr) := HR.out.space hlt hs
        have HP := (show Hid (_ = _) from sp_any s[k])
        go_wp2_with fail
        refine (oneOf1_any s[k] HOr.out).mono ?_
        rintro e w2 ⟨rfl, rfl⟩
        rw [HP.out, hs]
        clear hs
        go_wp2
        go_roundw
        case rel => exact ⟨k + 1, dn, A, P, ac, pc, rfl, rfl, by rw [HMM.out], by go_num, HN.out⟩
        case measure => simp [intOf]; omega
      | false =>
        have HP := (show Hid (_ = _) from sp_any s[k])
        have HS : Hid (spB s[k] = false) := hs
        have hkm : (k : Int) ≤ (s.size : Int) := by omega
        clear hs
        go_wp2_with fail
        refine (oneOf1_any s[k] HOr.out).mono ?_
        rintro e w2 ⟨rfl, rfl⟩
        rw [HP.out, HS.out]
        go_wp2_with fail
        refine (lfirst_at hlt hsz HS.out _).mono ?_
        rintro e w2 ⟨rfl, hb2⟩
        have HR2 : Hid (LexAt s w1 k dn A P ac pc w2) := HR.out.later hb2
        have HB2 : Hid (Below bk w w2) := HB1.out.trans (HR2.out.b.mono (Nat.le_of_lt hs1))
        clear HR HBr HOr hb2
        cases hok : tOk s k with
        | false =>
          have HF : Hid (lexE (btL s) = 5 ∧ lexK (btL s) = k) := lexE_syn (by rw [btL_len]; exact hsz) (lexat_bad HR2.out hlt HS.out hok)
          generalize hu : wbS (tkW ((btL s).drop k)) = u
          clear hok hu
          go_wp2
          refine bodyPost_ret (v := .tuple #[.slice none 0 0, .slice none 0 0, .int .i64 (k : Int), .iface 24 (.int .i64 5)]) (by simp [results, Tryd.results16, go_sem]) rfl ?_
          exact ⟨.inl ⟨by rw [HF.out.1]; decide, by rw [HF.out.1, HF.out.2, errN_5]⟩, by rw [HBK.out]; exact HB2.out⟩
        | true =>
          have HOK : Hid (tOk s k = true) := hok
          obtain ⟨hu0, hu1⟩ := word_head hlt HS.out
          have hus : (wbS (tkW ((btL s).drop k))).size + k ≤ s.size := by
            have := tkW_len ((btL s).drop k)
            rw [List.length_drop, btL_len] at this
            rw [wbS_size]
            omega
          have HMY : Hid (many (dn.map (·.2) ++ [tkW ((btL s).drop k)]) = mm + (if s[k] != 35 then 1 else 0)) := by
            show _ = _
            rw [many_app, HMM.out, many_one hlt HS.out]
          have HUZ : Hid ((tkW ((btL s).drop k)).length = (wbS (tkW ((btL s).drop k))).size) := (wbS_size _).symm
          generalize hW : tkW ((btL s).drop k) = W at HMY HUZ hu0 hu1 hus ⊢
          have HW : Hid (tkW ((btL s).drop k) = W) := hW
          generalize hu : wbS W = u at HUZ hu0 hu1 hus ⊢
          have HU : Hid (wbS W = u) := hu
          have hu0i : (0 : Int) < (u.size : Int) := by omega
          clear hok hW hu
          cases hn : (s[k] != 35) with
          | true =>
            have hni : ((u[0].toNat : Int) != 35) = true := by
              rw [hu1 hu0]
              show (!((s[k].toNat : Int) == 35)) = true
              rw [show (35 : Int) = ((35 : Nat) : Int) from rfl, u8_eq _ 35 (by decide)]
              exact hn
            have HMW : Hid (many ((dn ++ [(k, W)]).map (·.2)) = mm + 1) := by
              show _ = _
              rw [List.map_append]
              have := HMY.out
              rw [hn] at this
              exact this
            clear hn hu1 HMY
            go_wp2_with fail
            refine (lClone_any u _ (by omega)).mono ?_
            rintro e w3 ⟨rfl, hb3⟩
            have HR3 : Hid (LexAt s w1 k dn A P ac pc w3) := HR2.out.later hb3
            have hsr := HR3.out.b.size
            clear HR2 HB2 hb3
            obtain ⟨i0, hi0, hz0, hz1, hz2⟩ := info_parts strInf
            go_wp2_with (at_builtin; refine wpList_append_lies _ rfl _ _ 22 rfl w1.heap.size 9 i0 _ 1 16 Tryd.underlying22 hi0 hz0 hz1 hz2 rfl (by decide) _ _ _ rfl (World.ownsRow.alloc HR3.out.ws _) ⟨w3.heap.size, 0, none⟩ 1 1 [.string u] rfl rfl (cell_one_new w3 _ _) (by intro u hu; simp at hu; subst hu; rfl) (by decide) (by unfold maxLen; omega) (by omega) (by simp; omega) (w3.heap.size + 1) (by simp) ?_)
            intro g2 cap2 w4 hown2 hgrow2 hat2 hlt2
            have hb2 := (HR3.out.b.alloc (by omega) (.cells #[.string u] 9)).grown hgrow2 (by simp; omega) (fun j hj => (World.ownsRow.lt HR3.out.ws j hj).1)
            have HB2 := (show Hid (Below _ _ _) from hb2)
            have HP2 : Hid (w4.ownsRow w1.heap.size 3 1 (.slice P dn.length pc) dn.length (numCells (dn.map (·.1)))) := own_two (World.ownsRow.alloc HR3.out.ps _) (World.ownsRow.alloc HR3.out.ws _) (by decide) hgrow2
            have HW2 := (show Hid (w4.ownsRow _ _ _ _ _ _) from hown2)
            have hs2 := hb2.size
            clear hown2 hgrow2 hb2 hat2 hlt2
            obtain ⟨i1, hi1, hy0, hy1, hy2⟩ := info_parts intInf
            go_wp2_with (at_builtin; refine wpList_append_lies _ rfl _ _ 23 rfl w1.heap.size 3 i1 _ 1 8 Tryd.underlying23 hi1 hy0 hy1 hy2 rfl (by decide) _ _ _ rfl (World.ownsRow.alloc HP2.out _) ⟨w4.heap.size, 0, none⟩ 1 1 [.int .i64 (k : Int)] rfl rfl (cell_one_new w4 _ _) (by intro u hu; simp at hu; subst hu; rfl) (by decide) (by unfold maxLen; omega) (by omega) (by simp; omega) (w4.heap.size + 1) (by simp) ?_)
            intro g3 cap3 w5 hown3 hgrow3 hat3 hlt3
            have hb3 := (HB2.out.alloc (by omega) (.cells #[.int .i64 (k : Int)] 3)).grown hgrow3 (by simp; omega) (fun j hj => (World.ownsRow.lt HP2.out j hj).1)
            have hW3 := own_two (World.ownsRow.alloc HW2.out _) (World.ownsRow.alloc HP2.out _) (by decide) hgrow3
            have HN : Hid (LexAt s w1 (k + u.size) (dn ++ [(k, W)]) (some ⟨g2, 0, none⟩) (some ⟨g3, 0, none⟩) cap2 cap3 w5) := by
              show LexAt _ _ _ _ _ _ _ _ _
              rw [← HUZ.out, ← HW.out]
              refine HR3.out.next hlt HS.out HOK.out hb3 ?_ ?_
              · rw [HW.out, HU.out]; exact hW3
              · exact hown3
            clear hown3 hgrow3 hat3 hlt3 hb3 hW3
            go_wp2
            go_roundw
            case rel => exact ⟨k + u.size, dn ++ [(k, W)], some ⟨g2, 0, none⟩, some ⟨g3, 0, none⟩, cap2, cap3, by rw [List.length_append]; rfl, by rw [List.length_append]; rfl, by rw [HMW.out]; go_num, by go_num, HN.out⟩
            case measure => simp [intOf]; omega
          | false =>
            have hni : ((u[0].toNat : Int) != 35) = false := by
              rw [hu1 hu0]
              show (!((s[k].toNat : Int) == 35)) = false
              rw [show (35 : Int) = ((35 : Nat) : Int) from rfl, u8_eq _ 35 (by decide)]
              exact hn
            have HMW : Hid (many ((dn ++ [(k, W)]).map (·.2)) = mm) := by
              show _ = _
              rw [List.map_append]
              have := HMY.out
              rw [hn] at this
              exact this
            clear hn hu1 HMY
            go_wp2_with fail
            refine (lClone_any u _ (by omega)).mono ?_
            rintro e w3 ⟨rfl, hb3⟩
            have HR3 : Hid (LexAt s w1 k dn A P ac pc w3) := HR2.out.later hb3
            have hsr := HR3.out.b.size
            clear HR2 HB2 hb3
            obtain ⟨i0, hi0, hz0, hz1, hz2⟩ := info_parts strInf
            go_wp2_with (at_builtin; refine wpList_append_lies _ rfl _ _ 22 rfl w1.heap.size 9 i0 _ 1 16 Tryd.underlying22 hi0 hz0 hz1 hz2 rfl (by decide) _ _ _ rfl (World.ownsRow.alloc HR3.out.ws _) ⟨w3.heap.size, 0, none⟩ 1 1 [.string u] rfl rfl (cell_one_new w3 _ _) (by intro u hu; simp at hu; subst hu; rfl) (by decide) (by unfold maxLen; omega) (by omega) (by simp; omega) (w3.heap.size + 1) (by simp) ?_)
            intro g2 cap2 w4 hown2 hgrow2 hat2 hlt2
            have hb2 := (HR3.out.b.alloc (by omega) (.cells #[.string u] 9)).grown hgrow2 (by simp; omega) (fun j hj => (World.ownsRow.lt HR3.out.ws j hj).1)
            have HB2 := (show Hid (Below _ _ _) from hb2)
            have HP2 : Hid (w4.ownsRow w1.heap.size 3 1 (.slice P dn.length pc) dn.length (numCells (dn.map (·.1)))) := own_two (World.ownsRow.alloc HR3.out.ps _) (World.ownsRow.alloc HR3.out.ws _) (by decide) hgrow2
            have HW2 := (show Hid (w4.ownsRow _ _ _ _ _ _) from hown2)
            have hs2 := hb2.size
            clear hown2 hgrow2 hb2 hat2 hlt2
            obtain ⟨i1, hi1, hy0, hy1, hy2⟩ := info_parts intInf
            go_wp2_with (at_builtin; refine wpList_append_lies _ rfl _ _ 23 rfl w1.heap.size 3 i1 _ 1 8 Tryd.underlying23 hi1 hy0 hy1 hy2 rfl (by decide) _ _ _ rfl (World.ownsRow.alloc HP2.out _) ⟨w4.heap.size, 0, none⟩ 1 1 [.int .i64 (k : Int)] rfl rfl (cell_one_new w4 _ _) (by intro u hu; simp at hu; subst hu; rfl) (by decide) (by unfold maxLen; omega) (by omega) (by simp; omega) (w4.heap.size + 1) (by simp) ?_)
            intro g3 cap3 w5 hown3 hgrow3 hat3 hlt3
            have hb3 := (HB2.out.alloc (by omega) (.cells #[.int .i64 (k : Int)] 3)).grown hgrow3 (by simp; omega) (fun j hj => (World.ownsRow.lt HP2.out j hj).1)
            have hW3 := own_two (World.ownsRow.alloc HW2.out _) (World.ownsRow.alloc HP2.out _) (by decide) hgrow3
            have HN : Hid (LexAt s w1 (k + u.size) (dn ++ [(k, W)]) (some ⟨g2, 0, none⟩) (some ⟨g3, 0, none⟩) cap2 cap3 w5) := by
              show LexAt _ _ _ _ _ _ _ _ _
              rw [← HUZ.out, ← HW.out]
              refine HR3.out.next hlt HS.out HOK.out hb3 ?_ ?_
              · rw [HW.out, HU.out]; exact hW3
              · exact hown3
            clear hown3 hgrow3 hat3 hlt3 hb3 hW3
            go_wp2
            go_roundw
            case rel => exact ⟨k + u.size, dn ++ [(k, W)], some ⟨g2, 0, none⟩, some ⟨g3, 0, none⟩, cap2, cap3, by rw [List.length_append]; rfl, by rw [List.length_append]; rfl, by rw [HMW.out], by go_num, HN.out⟩
            case measure => simp [intOf]; omega
    · have hki : ¬ (k : Int) < (s.size : Int) := by omega
      have HX : Hid (lxF (btL s) 0 = none ∧ lxW (btL s) 0 = dn) := lexat_end HR.out hlt
      have HL : Hid ((wdsL (btL s)).length = dn.length ∧ many (wdsL (btL s)) = mm) := by
        refine ⟨?_, ?_⟩
        · rw [wdsL, HX.out.2, List.length_map]
        · rw [wdsL, HX.out.2]; exact HMM.out
      by_cases h300 : 300 < mm
      · have hmi : (300 : Int) < (mm : Int) := by omega
        have HF : Hid (lexE (btL s) = 3 ∧ lexK (btL s) = 0) := lexE_many (by rw [btL_len]; exact hsz) HX.out.1 (by rw [HL.out.2]; exact h300)
        go_wp2
        refine bodyPost_ret (v := .tuple #[.slice none 0 0, .slice none 0 0, .int .i64 0, .iface 24 (.int .i64 3)]) (by simp [results, Tryd.results16, go_sem]) rfl ?_
        exact ⟨.inl ⟨by rw [HF.out.1]; decide, by rw [HF.out.1, HF.out.2, errN_3]; rfl⟩, by rw [HBK.out]; exact HBr.out⟩
      · have hmi : ¬ (300 : Int) < (mm : Int) := by omega
        have HF : Hid (lexE (btL s) = 0 ∧ lexK (btL s) = 0) := lexE_none (by rw [btL_len]; exact hsz) HX.out.1 (by rw [HL.out.2]; exact h300)
        go_wp2
        refine bodyPost_ret (v := .tuple #[.slice A dn.length ac, .slice P dn.length pc, .int .i64 0, .nilIface]) (by simp [results, Tryd.results16, go_sem]) rfl ?_
        refine ⟨.inr ⟨HF.out.1, A, P, ac, pc, by rw [HL.out.1], twoR_of (B := w1.heap.size) ?_ ?_⟩, by rw [HBK.out]; exact HBr.out⟩
        · show wr.ownsRow _ _ _ _ _ _
          rw [List.length_map, HL.out.1, wdsL, HX.out.2, List.map_map]
          exact HR.out.ws
        · show wr.ownsRow _ _ _ _ _ _
          rw [← wp_len, HL.out.1, plcL, HX.out.2]
          exact HR.out.ps

set_option maxRecDepth 100000 in
set_option maxHeartbeats 1000000 in
theorem words_any (s : ByteArray) (w : World) : Calls Tryd.prog 16 #[.string s] w fun e w' => WordsRes s e w' ∧ Below w.heap.size w w' := by
  by_cases h : (btL s).length ≤ 60000
  · exact words_short s w h
  · have HF : Hid (lexE (btL s) = 3 ∧ lexK (btL s) = 0) := lexE_long (by omega)
    have hsz : 60000 < (s.size : Int) := by rw [btL_len] at h; omega
    clear h
    go_enter Tryd.func16, Tryd.ntmps16
    go_wp2
    refine bodyPost_ret (v := .tuple #[.slice none 0 0, .slice none 0 0, .int .i64 0, .iface 24 (.int .i64 3)]) (by simp [results, Tryd.results16, go_sem]) rfl ?_
    exact ⟨.inl ⟨by rw [HF.out.1]; decide, by rw [HF.out.1, HF.out.2, errN_3]; rfl⟩, Below.refl _ _⟩
end Go.Proofs.YtlogepdifapciabDoor
