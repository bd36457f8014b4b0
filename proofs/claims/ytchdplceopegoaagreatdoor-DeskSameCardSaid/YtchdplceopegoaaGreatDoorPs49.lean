/- Texts as one: DkF, DkT. -/
import Derived.Test.YtchdplceopegoaaGreatDoorPs48
import Derived.Carry
namespace Go.Proofs.YtchdplceopegoaaGreatDoor
open Go Go.RowKit Go.Maps
/-- What follow hands back. -/
def k8d (ps old : List (List Td)) (n : Nat) (w : World) (e : Ending) (w' : World) : Prop := Below w.heap.size w w' ∧
  ((fmE ps = 0 ∧ ∃ ov mv, e = .returned (.tuple #[.agg #[.int .i64 (n : Int), ov, mv], .int .i64 (frP ps old : Nat), .nilIface]) ∧ ShM w' ov mv ps n) ∨
   (fmE ps ≠ 0 ∧ e = .returned (.tuple #[.agg #[.int .i64 0, .slice none 0 0, .map none], .int .i64 0, q1f (fmE ps)])))
theorem y6f (h : Array Obj) (a b : Obj) : ((h.push a).push b)[h.size + 1]? = some b := by
  have e : (h.push a).size = h.size + 1 := Array.size_push ..
  rw [← e]
  exact Array.getElem?_push_size
theorem q7c.cells {ps old : List (List Td)} {n j i k : Nat} {w wr : World} (h : q7c ps old n w j i k wr) : ∃ A c, wr.cell? ⟨w.heap.size, 0, none⟩ = some (.int .i64 (n : Int)) ∧ wr.cell? ⟨w.heap.size, 1, none⟩ = some (.slice A j c) ∧ wr.cell? ⟨w.heap.size, 2, none⟩ = some (.map (some (w.heap.size + 1))) ∧ (∀ o, wr.frozen? ⟨w.heap.size, o, none⟩ = false) ∧
    wr.heap[w.heap.size]? = some (.cells #[.int .i64 (n : Int), .slice A j c, .map (some (w.heap.size + 1))] 54 (0, 0)) ∧ q1x (w.heap.size + 2) (.slice A j c) ((ps.take j).map kyB) wr := by
  obtain ⟨A, c, q1, q2⟩ := h.nx
  exact ⟨A, c, by simp [World.cell?, q1], by simp [World.cell?, q1], by simp [World.cell?, q1], fun o => by simp [World.frozen?, q1], q1, q2⟩
theorem q7c.start {ps old : List (List Td)} {n : Nat} {w : World} {w1 : World} (h1 : w1.heap[w.heap.size]? = some (.cells #[.int .i64 (n : Int), .slice none 0 0, .map (some (w.heap.size + 1))] 54 (0, 0))) (h2 : w1.heap[w.heap.size + 1]? = some (.map #[] 0)) (hb : Below w.heap.size w w1) : q7c ps old n w 0 0 0 w1 := by
  refine ⟨Nat.zero_le _, ?_, rfl, fun t ht => by simp at ht, ⟨none, 0, h1, ⟨rfl, .inl ⟨rfl, rfl⟩⟩⟩, ?_, hb⟩
  · simp [frP]
  · have hm := KnM.made w (w.alloc (.map #[] 0)) n
    rw [World.size_alloc] at hm
    refine hm.kept (h2.trans ?_)
    exact (y6f w.heap _ _).symm
set_option maxRecDepth 100000 in
set_option maxHeartbeats 8000000 in
theorem z4q {T : TypeId} (old ps : List (List Td)) (n b : Nat) (A : Option Addr) (c : Nat) (w : World) (hS : q3o T w b old n) (hP : Prg w A ps) (hok : ∀ t ∈ ps, q0c t = 0) (hni : ∀ t ∈ ps, z4c t) (hl : ps.length ≤ 20) (ht : q7d w) :
    Calls Tryz.prog 20 #[.pointer (some ⟨b, 0, none⟩), .slice A ps.length c] w fun e w' => k8d ps old n w e w' := by
  obtain ⟨oA, oc, m, s0, s1, s2, sf, _, skn⟩ := hS.cell
  have hblt := hS.lt
  obtain ⟨ov0, mv0, hS1, hSM⟩ := hS
  have hold := hSM.ok
  have hw1 := hSM.w1
  have hw2 := hSM.w2
  have HP : Hid (Prg w A ps) := hP
  have HOK : Hid (∀ t ∈ ps, q0c t = 0) := hok
  have HNI : Hid (∀ t ∈ ps, z4c t) := hni
  have HOLD : Hid (∀ t ∈ old, q0c t = 0) := hold
  have HPG : Hid (∀ t ∈ old, pgE t = 0) := hSM.pg
  have HT : Hid (q7d w) := ht
  have HKN : Hid ((m = none ∧ old = []) ∨ ∃ b, m = some b ∧ KnM w w b old n) := skn
  have HBC : Hid (∀ W, Below w.heap.size w W → W.cell? ⟨b, 0, none⟩ = some (.int .i64 (n : Int)) ∧ W.cell? ⟨b, 2, none⟩ = some (.map m)) := fun W h => ⟨((q0w h).1 _ _ hblt).trans s0, ((q0w h).1 _ _ hblt).trans s2⟩
  have s0' : (w.alloc (.cells #[.int .i64 0, .slice none 0 0, .map none] 54)).cell? ⟨b, 0, none⟩ = some (.int .i64 (n : Int)) := ((q0w (q1j w _)).1 _ _ hblt).trans s0
  clear hP hok hni hold ht skn hS1 hSM s0 s1 s2 sf ov0 mv0
  generalize hnp : ps.length = np at hl ⊢
  have HNP : Hid (ps.length = np) := hnp
  clear hnp
  go_enter Tryz.func20, Tryz.ntmps20
  have hmm := @run_makeMap Tryz.prog
  have HS0 : Hid (q7c ps old n w 0 0 0 ((w.alloc (.cells #[.int .i64 (n : Int), .slice none 0 0, .map (some (w.heap.size + 1))] 54)).alloc (.map #[] 0))) := by
    refine q7c.start ?_ ?_ (k8r w _ _)
    · show ((w.heap.push _).push _)[w.heap.size]? = _
      simp [Array.getElem?_push]
    · exact y6f w.heap _ _
  go_wp2_with fail
  clear s0' hmm
  go_loopw [5, 23] (fun q x wr => ∃ i k : Nat, q = .int .i64 (k : Int) ∧ x = .int .i64 (i : Int) ∧ q7c ps old n w i i k wr) (fun _ x _ => np - (intOf x).toNat)
  case atStart => exact ⟨0, 0, rfl, rfl, HS0.out⟩
  case round =>
    clear HS0
    obtain ⟨i, k, rfl, rfl, hV⟩ := hrel
    have hll := HNP.out
    have hle := hV.le
    by_cases hlt : i < np
    · have hii : (i : Int) < (np : Int) := by omega
      have hip : i < ps.length := by omega
      obtain ⟨b0, o0, A0, c0, rfl, hb0, d00, hc0, hT0⟩ := HP.out i hip
      have d0 := ((q0w hV.bl).1 _ _ hb0).trans d00
      have ht0 := HOK.out ps[i] (List.getElem_mem _)
      have HK : Hid (Calls Tryz.prog 39 #[.slice A0 ps[i].length c0] wr fun e w' => e = .returned (.tuple #[.string (kyB ps[i]), .nilIface]) ∧ Below wr.heap.size wr w') := j8b ht0 (HNI.out _ (List.getElem_mem _)) A0 c0 hc0 wr (hT0.below hV.bl) (HT.out.below hV.bl)
      have HV : Hid (q7c ps old n w i i k wr) := hV
      have hkl := k1q ht0
      have HTD : Hid (Tds w A0 ps[i]) := hT0
      have HT0 : Hid (q0c ps[i] = 0) := ht0
      have HKE : Hid (kyB ps[i] = kyB ps[i]) := rfl
      clear hV d00 hT0 ht0
      go_wp2_with fail
      refine HK.out.mono ?_
      rintro e w3 ⟨rfl, b3⟩
      have HV3 : Hid (q7c ps old n w i i k w3) := HV.out.grow b3
      obtain ⟨A3, c3, x0, x1, x2, xf, xh, xo⟩ := HV3.out.cells
      have HXH := (show Hid (_ = _) from xh)
      have HXO : Hid (q1x (w.heap.size + 2) (.slice A3 i c3) ((ps.take i).map kyB) w3) := xo
      clear b3 xh xo HV HK d0 xf
      go_wp2_with (at_builtin; refine z5u rfl _ _ rfl (w.heap.size + 2) _ ((ps.take i).map kyB) rfl ?c1 (some ⟨w3.heap.size, 0, none⟩) 1 [kyB ps[i]] rfl 1 rfl ?c2 (fun h => by cases h) (i + 1) ?c3 ?c4 ?c5 ?_)
      case c1 => exact q1w HXO.out (q1j _ _)
      case c2 =>
        intro j hj
        have hj0 : j = 0 := by simp at hj; exact hj
        subst hj0
        exact ⟨w3.heap.size, 0, rfl, by simp, by simp [go_sem]⟩
      case c3 => simp; omega
      case c4 => omega
      case c5 =>
        have := HV3.out.sz
        simp
        omega
      intro A4 c4 w4 hS4 hg4
      obtain ⟨hF4, hH4⟩ := HV3.out.key hip HXH.out HXO.out hg4 (by rw [List.map_take]; exact hS4)
      have HF4 : Hid (q7c ps old n w (i + 1) i k (w4.setCell ⟨w.heap.size, 1, none⟩ (.slice A4 (i + 1) c4))) := hF4
      have z1 : w4.cell? ⟨w.heap.size, 1, none⟩ = some (.slice A3 i c3) := by simp [World.cell?, hH4]
      have z2 : w4.cell? ⟨w.heap.size, 2, none⟩ = some (.map (some (w.heap.size + 1))) := by simp [World.cell?, hH4]
      have zf : w4.frozen? ⟨w.heap.size, 1, none⟩ = false := by simp [World.frozen?, hH4]
      clear hF4 hH4 hS4 hg4 HXH HXO HV3 x0 x1 x2
      go_wp2_with fail
      generalize (w4.setCell ⟨w.heap.size, 1, none⟩ (.slice A4 (i + 1) c4)) = w5 at HF4 ⊢
      clear z1 z2 zf
      have hk20 : k ≤ 20 := by
        have h1 := HF4.out.cnt
        have h2 := y0y ps old
        omega
      by_cases hm : ps[i] ∈ ps.take i
      · obtain ⟨A6, c6, _, hlk, _, _⟩ := HF4.out.kn.look hm HT0.out
        have HN : Hid (q7c ps old n w (i + 1) (i + 1) k w5) := HF4.out.same HOK.out HOLD.out hm
        clear hm
        generalize wbS (q5b n ps[i]) = S6 at hlk
        rw [hlk]
        go_wp2
        refine ⟨⟨i + 1, k, rfl, by go_num, HN.out.grow (q1j w5 _)⟩, ?_⟩
        simp [intOf]; omega
      · have hlk := HF4.out.kn.miss (k := kyB ps[i]) (by omega) (fun u hu e => hm (by rw [← k1p (HOK.out u (List.mem_of_mem_take hu)) HT0.out e]; exact hu))
        have HF6 : Hid (q7c ps old n w (i + 1) i k (w5.alloc (.cells #[.slice none 0 0, .string ⟨#[]⟩] 100))) := HF4.out.grow (q1j w5 _)
        obtain ⟨s06, s26⟩ := HBC.out _ HF6.out.bl
        have HM : Hid (ps[i] ∉ ps.take i) := hm
        clear HF4 hm s06
        rw [hlk]
        go_wp2_with fail
        clear hlk s26
        generalize (w5.alloc (.cells #[.slice none 0 0, .string ⟨#[]⟩] 100)) = w6 at HF6 ⊢
        by_cases ho : ps[i] ∈ old
        · rcases HKN.out with ⟨_, e0⟩ | ⟨mb, rfl, hkn⟩
          · rw [e0] at ho
            simp at ho
          · obtain ⟨A6, c6, _, hlk, hc6, hT6⟩ := (hkn.kept (HF6.out.bl.block mb hkn.lt)).look ho HT0.out
            have hCN := (k1h hip HOK.out HOLD.out HF6.out.cnt).1 (.inl ho)
            have HF7 : Hid (q7c ps old n w (i + 1) i k (w6.alloc (.cells #[.slice A6 ps[i].length c6, .string (wbS (q5b n ps[i]))] 100))) := HF6.out.grow (q1j w6 _)
            obtain ⟨_, _, _, _, x2, _, _, _⟩ := HF7.out.cells
            obtain ⟨w8, hrun, hk8, hg8⟩ := HF7.out.kn.put (t := ps[i]) (fun u hu => HOK.out u (List.mem_of_mem_take hu)) (by simp; omega) HT0.out HM.out hc6 hT6
            have hpg : pgE ps[i] = 0 := HPG.out _ ho
            have HN : Hid (q7c ps old n w (i + 1) (i + 1) k w8) := HF7.out.put hpg hCN hk8 hg8
            clear hCN hk8 hg8 hkn hT6 hpg HF7 HF6
            generalize wbS (q5b n ps[i]) = S6 at hlk hrun x2
            rw [hlk]
            go_wp2
            refine ⟨⟨i + 1, k, rfl, by go_num, HN.out⟩, ?_⟩
            simp [intOf]; omega
        · have hlk : (Instr.lookup 52 (.map m) (.string (kyB ps[i])) true).run Tryz.prog w6 = .ok (.tuple #[zEn, .bool false]) w6 := by
            rcases HKN.out with ⟨rfl, e0⟩ | ⟨mb, rfl, hkn⟩
            · exact j9v w6 (by omega)
            · exact (hkn.kept (HF6.out.bl.block mb hkn.lt)).miss (by omega) (fun u hu e => ho (by rw [← k1p (HOLD.out u hu) HT0.out e]; exact hu))
          have hCN := (k1h hip HOK.out HOLD.out HF6.out.cnt).2 (fun q => q.elim ho HM.out)
          have HF7 : Hid (q7c ps old n w (i + 1) i k (w6.alloc (.cells #[.slice none 0 0, .string ⟨#[]⟩] 100))) := HF6.out.grow (q1j w6 _)
          obtain ⟨s07, _⟩ := HBC.out _ HF7.out.bl
          have HCN := (show Hid (_ = _) from hCN)
          have h6s : w.heap.size + 2 ≤ w6.heap.size := HF6.out.sz
          clear hCN ho
          by_cases hp : pgE ps[i] = 0
          · have HL : Hid (Calls Tryz.prog 40 #[.slice A0 ps[i].length c0, .int .i64 (n : Int)] (w6.alloc (.cells #[.slice none 0 0, .string ⟨#[]⟩] 100)) fun e w' => e = .returned (.tuple #[enV A0 ps[i].length c0 (wbS (q5b n ps[i])), .nilIface]) ∧ Below (w6.heap.size + 1) (w6.alloc (.cells #[.slice none 0 0, .string ⟨#[]⟩] 100)) w') := by
              have h1 := v5u HT0.out (HNI.out _ (List.getElem_mem hip)) hp hw1 hw2 A0 c0 hc0 (w6.alloc (.cells #[.slice none 0 0, .string ⟨#[]⟩] 100)) (HTD.out.below HF7.out.bl) (HT.out.below HF7.out.bl)
              rw [World.size_alloc] at h1
              exact h1
            have HPP : Hid (pgE ps[i] = 0) := hp
            clear hp
            rw [hlk]
            go_wp2_with fail
            refine HL.out.mono ?_
            rintro e w7 ⟨rfl, b7⟩
            have b69 : Below w6.heap.size w6 ((w7.setCell ⟨w6.heap.size, 0, none⟩ (.slice A0 ps[i].length c0)).setCell ⟨w6.heap.size, 1, none⟩ (.string (wbS (q5b n ps[i])))) := (((q1j w6 _).trans (b7.mono (Nat.le_succ _))).setCell (p := ⟨w6.heap.size, 0, none⟩) (Nat.le_refl _) _).setCell (p := ⟨w6.heap.size, 1, none⟩) (Nat.le_refl _) _
            have HF9 : Hid (q7c ps old n w (i + 1) i k ((w7.setCell ⟨w6.heap.size, 0, none⟩ (.slice A0 ps[i].length c0)).setCell ⟨w6.heap.size, 1, none⟩ (.string (wbS (q5b n ps[i]))))) := HF6.out.grow b69
            have y0 : w7.cell? ⟨w6.heap.size, 0, none⟩ = some (.slice none 0 0) := (b7.cell (p := ⟨w6.heap.size, 0, none⟩) (Nat.lt_succ_self _)).trans (by simp [go_sem])
            have y1 : w7.cell? ⟨w6.heap.size, 1, none⟩ = some (.string ⟨#[]⟩) := (b7.cell (p := ⟨w6.heap.size, 1, none⟩) (Nat.lt_succ_self _)).trans (by simp [go_sem])
            have f0 : w7.frozen? ⟨w6.heap.size, 0, none⟩ = false := (b7.frozen (p := ⟨w6.heap.size, 0, none⟩) (Nat.lt_succ_self _)).trans (by simp [go_sem])
            have f1 : w7.frozen? ⟨w6.heap.size, 1, none⟩ = false := (b7.frozen (p := ⟨w6.heap.size, 1, none⟩) (Nat.lt_succ_self _)).trans (by simp [go_sem])
            obtain ⟨_, _, _, _, x2, _, _, _⟩ := HF9.out.cells
            obtain ⟨w8, hrun, hk8, hg8⟩ := HF9.out.kn.put (t := ps[i]) (fun u hu => HOK.out u (List.mem_of_mem_take hu)) (by simp; omega) HT0.out HM.out hc0 HTD.out
            have HN : Hid (q7c ps old n w (i + 1) (i + 1) (k + 1) w8) := HF9.out.put HPP.out HCN.out hk8 hg8
            clear hk8 hg8 b69 b7 HF9 HF7 HF6 HL s07 hlk
            generalize wbS (q5b n ps[i]) = S6 at hrun x2 ⊢
            go_wp2
            refine ⟨⟨i + 1, k + 1, by go_num, by go_num, HN.out⟩, ?_⟩
            simp [intOf]; omega
          · have HL : Hid (Calls Tryz.prog 40 #[.slice A0 ps[i].length c0, .int .i64 (n : Int)] (w6.alloc (.cells #[.slice none 0 0, .string ⟨#[]⟩] 100)) fun e w' => e = .returned (.tuple #[zEn, .iface 24 (.int .i64 (pgE ps[i]))]) ∧ Below (w6.heap.size + 1) (w6.alloc (.cells #[.slice none 0 0, .string ⟨#[]⟩] 100)) w') := by
              have h1 := v5t HT0.out (HNI.out _ (List.getElem_mem hip)) hp hw1 hw2 A0 c0 hc0 (w6.alloc (.cells #[.slice none 0 0, .string ⟨#[]⟩] 100)) (HTD.out.below HF7.out.bl) (HT.out.below HF7.out.bl)
              rw [World.size_alloc] at h1
              exact h1
            have HPP : Hid (fmE ps ≠ 0 ∧ q1f (fmE ps) = .iface 24 (.int .i64 (pgE ps[i]))) := by
              have hz := HF7.out.z
              rw [List.drop_eq_getElem_cons hip, j1b hp] at hz
              rw [← hz]
              exact ⟨hp, q0h hp⟩
            clear hp
            rw [hlk]
            go_wp2_with fail
            refine HL.out.mono ?_
            rintro e w7 ⟨rfl, b7⟩
            have b69 : Below w6.heap.size w6 ((w7.setCell ⟨w6.heap.size, 0, none⟩ (.slice none 0 0)).setCell ⟨w6.heap.size, 1, none⟩ (.string ⟨#[]⟩)) := (((q1j w6 _).trans (b7.mono (Nat.le_succ _))).setCell (p := ⟨w6.heap.size, 0, none⟩) (Nat.le_refl _) _).setCell (p := ⟨w6.heap.size, 1, none⟩) (Nat.le_refl _) _
            have HF9 : Hid (q7c ps old n w (i + 1) i k ((w7.setCell ⟨w6.heap.size, 0, none⟩ (.slice none 0 0)).setCell ⟨w6.heap.size, 1, none⟩ (.string ⟨#[]⟩))) := HF6.out.grow b69
            have y0 : w7.cell? ⟨w6.heap.size, 0, none⟩ = some (.slice none 0 0) := (b7.cell (p := ⟨w6.heap.size, 0, none⟩) (Nat.lt_succ_self _)).trans (by simp [go_sem])
            have y1 : w7.cell? ⟨w6.heap.size, 1, none⟩ = some (.string ⟨#[]⟩) := (b7.cell (p := ⟨w6.heap.size, 1, none⟩) (Nat.lt_succ_self _)).trans (by simp [go_sem])
            have f0 : w7.frozen? ⟨w6.heap.size, 0, none⟩ = false := (b7.frozen (p := ⟨w6.heap.size, 0, none⟩) (Nat.lt_succ_self _)).trans (by simp [go_sem])
            have f1 : w7.frozen? ⟨w6.heap.size, 1, none⟩ = false := (b7.frozen (p := ⟨w6.heap.size, 1, none⟩) (Nat.lt_succ_self _)).trans (by simp [go_sem])
            obtain ⟨A9, c9, x0, x1, x2, xf, _, _⟩ := HF9.out.cells
            have xf0 := xf 0
            have xf1 := xf 1
            have xf2 := xf 2
            clear b69 b7 HF7 HF6 HL s07 hlk xf
            generalize pgE ps[i] = z at HPP ⊢
            go_wp2_with fail
            refine bodyPost_ret (v := .tuple #[.agg #[.int .i64 0, .slice none 0 0, .map none], .int .i64 0, .iface 24 (.int .i64 z)]) (by simp [results, Tryz.results20, go_sem, x0, x1, x2]) rfl ?_
            exact ⟨((HF9.out.bl.setCell (p := ⟨w.heap.size, 0, none⟩) (Nat.le_refl _) _).setCell (p := ⟨w.heap.size, 1, none⟩) (Nat.le_refl _) _).setCell (p := ⟨w.heap.size, 2, none⟩) (Nat.le_refl _) _, .inr ⟨HPP.out.1, by rw [HPP.out.2]⟩⟩
    · have hii : ¬ (i : Int) < (np : Int) := by omega
      have hie : i = ps.length := by omega
      subst hie
      obtain ⟨hz, hk, A9, c9, q1, q2⟩ := hV.sheet HOK.out HNI.out (by omega) hw1 hw2
      rw [hll] at q1 q2
      have x0 : wr.cell? ⟨w.heap.size, 0, none⟩ = some (.int .i64 (n : Int)) := by simp [World.cell?, q1]
      have x1 : wr.cell? ⟨w.heap.size, 1, none⟩ = some (.slice A9 np c9) := by simp [World.cell?, q1]
      have x2 : wr.cell? ⟨w.heap.size, 2, none⟩ = some (.map (some (w.heap.size + 1))) := by simp [World.cell?, q1]
      have xf0 : wr.frozen? ⟨w.heap.size, 0, none⟩ = false := by simp [World.frozen?, q1]
      have xf1 : wr.frozen? ⟨w.heap.size, 1, none⟩ = false := by simp [World.frozen?, q1]
      have xf2 : wr.frozen? ⟨w.heap.size, 2, none⟩ = false := by simp [World.frozen?, q1]
      have HQ : Hid (q3o 54 wr w.heap.size ps n) := ⟨_, _, q1, q2⟩
      have HM : Hid (ShM wr (.slice A9 np c9) (.map (some (w.heap.size + 1))) ps n) := q2
      have HB : Hid (Below w.heap.size w wr) := hV.bl
      have HZ : Hid (fmE ps = 0 ∧ k = frP ps old) := ⟨hz, hk⟩
      clear hV q1 q2 hz hk
      go_wp2_with fail
      refine bodyPost_ret (v := .tuple #[.agg #[.int .i64 (n : Int), .slice A9 np c9, .map (some (w.heap.size + 1))], .int .i64 (k : Int), .nilIface]) (by simp [results, Tryz.results20, go_sem, x0, x1, x2]) rfl ?_
      obtain ⟨_, hx⟩ := HQ.out.put HM.out
      exact ⟨((HB.out.setCell (p := ⟨w.heap.size, 0, none⟩) (Nat.le_refl _) _).setCell (p := ⟨w.heap.size, 1, none⟩) (Nat.le_refl _) _).setCell (p := ⟨w.heap.size, 2, none⟩) (Nat.le_refl _) _, .inl ⟨HZ.out.1, _, _, by rw [HZ.out.2], HM.out.apart hx HQ.out.blk⟩⟩
set_option maxRecDepth 100000
set_option maxHeartbeats 8000000
theorem v5y (a b:Value) (w:World):(Instr.field 100 (.agg #[a,b]) 0).run Tryz.prog w = .ok a w:=by kernel_rfl
theorem j8p (a b:Value) (w:World):(Instr.field 100 (.agg #[a,b]) 1).run Tryz.prog w = .ok b w:=by kernel_rfl
theorem y3d:(Tryz.prog.info? 59).map (fun i=>(i.zero,i.size,i.bytes))=some (some (.slice none 0 0),1,24):=by kernel_rfl
theorem v4r {w:World} {ops:Array Oper} {rest:List Oper} {o:Oper} {a:Act} {Q:Exit→Act→World→Prop} (hgd:o.guard=none) (s x:Operand)
  (ho:o.op = .call { callee:=.builtin .append,args:=#[s,x],argTypes:=#[31,31] })
  (base:Nat) (v:Value) (k:Nat) (hs:List Value) (hev:a.eval s=v) (hown:w.ownsRow base 59 1 v k hs)
  (b0:Nat) (A0:Option Addr) (l0 c0:Nat) (hx:a.eval x = .slice (some ⟨b0,0,none⟩) 1 1) (hc:w.cell? ⟨b0,0,none⟩=some (.slice A0 l0 c0))
  (hb:k≤1000000) (hbase:base≤w.heap.size)
  (h:∀ A c w',w'.ownsRow base 59 1 (.slice A (k+1) c) (k+1) (hs++[.slice A0 l0 c0])→w.grownBy w' v.ownBlock→wpList Tryz.prog ops Q rest (a.put o.dst (.slice A (k+1) c)) w'):wpList Tryz.prog ops Q (o::rest) a w:=by
 obtain ⟨i0,hi,hz0,hz1,hz2⟩:=info_parts y3d
 refine wpList_append_own w hgd s x 31 ho base 59 i0 _ 1 24 Tryz.underlying31 hi hz0 hz1 hz2 rfl (by decide) v k hs hev hown ⟨b0,0,none⟩ 1 1 [.slice A0 l0 c0] hx rfl ?_ (by intro u hu;simp at hu;subst hu;rfl) (by unfold maxLen;omega) (by omega) hbase ?_
 ·intro j u hj
  cases j with
  | zero=>
   simp at hj
   subst hj
   rw [z1z];exact hc
  | succ j=>simp at hj
 ·intro v' w' h3 h4 _
  obtain ⟨A,c',rfl⟩:∃ A c',v' = .slice A (k+1) c':=by
   rcases h3.2 with ⟨hv,h0⟩ | ⟨g',c',cur,hv,_⟩
   ·omega
   ·exact ⟨_,c',hv⟩
  exact h A c' w' h3 h4
theorem j4h {B:Nat} {w:World} {A:Option Addr} {n c:Nat} {hs:List Value} (h:w.ownsRow B 59 1 (.slice A n c) n hs):n≤c∧∀ j u,j<n→hs[j]? = some u→∃ g,A=some ⟨g,0,none⟩∧g<w.heap.size∧w.cell? ⟨g,j,none⟩=some u:=by
 rcases h.2 with ⟨hv,h0⟩ | ⟨g,c',cur,hv,_,hg,hnc,_,hsz,htake⟩
 ·simp only [Value.slice.injEq] at hv
  obtain ⟨rfl,rfl,rfl⟩:=hv
  exact ⟨Nat.le_refl _,fun j u hj=>by omega⟩
 ·simp only [Value.slice.injEq] at hv
  obtain ⟨rfl,_,rfl⟩:=hv
  refine ⟨hnc,fun j u hj hk=>⟨g,rfl,(Array.getElem?_eq_some_iff.1 hg).1,?_⟩⟩
  rw [←htake,List.getElem?_take_of_lt (by omega)] at hk
  simp only [World.cell?,hg]
  simpa using hk
structure v9w (qs:List (List Td)) (w:World) (i:Nat) (v:Value) (wr:World):Prop where
 le:i≤qs.length
 row:∃ hs,wr.ownsRow w.heap.size 59 1 v i hs∧∀ j (hj:j<qs.length),j<i→∃ A c,hs[j]? = some (.slice A qs[j].length c)∧qs[j].length≤c∧Tds w A qs[j]
 bl:Below w.heap.size w wr
theorem z8m {T:TypeId} (qs:List (List Td)) (n b:Nat) (w:World) (hS:q3o T w b qs n) :
  Calls Tryz.prog 21 #[.pointer (some ⟨b,0,none⟩)] w fun e w'=>(∃ A c,e = .returned (.slice A qs.length c)∧Prg w' A qs∧qs.length≤c)∧Below w.heap.size w w':=by
 obtain ⟨oA,oc,m,s0,s1,s2,sf,sW,skn⟩:=hS.cell
 have hblt:=hS.lt
 obtain ⟨_,_,_,hSM⟩:=hS
 have hl20:=hSM.len
 have HOK:Hid (∀ t∈qs,q0c t=0):=hSM.ok
 have HW:Hid (Wds w oA (qs.map kyB)):=sW
 have HKN:Hid ((m=none∧qs=[])∨∃ b,m=some b∧KnM w w b qs n):=skn
 have HBC:Hid (∀ W,Below w.heap.size w W→W.cell? ⟨b,2,none⟩=some (.map m)):=fun W h=>((q0w h).1 _ _ hblt).trans s2
 have HS0:Hid (v9w qs w 0 (.slice none 0 0) w):=⟨Nat.zero_le _,⟨[],⟨rfl,.inl ⟨rfl,rfl⟩⟩,fun j _ h=>by omega⟩,Below.refl _ _⟩
 clear sW skn hSM s0 s2 sf
 generalize hnp:qs.length=np at hl20 s1 ⊢
 have HNP:Hid (qs.length=np):=hnp
 clear hnp
 go_enter Tryz.func21,Tryz.ntmps21
 go_wp2_with fail
 clear s1
 go_loopw [3,11] (fun v x wr=>∃ (i:Nat) (A:Option Addr) (c:Nat),v = .slice A i c∧x = .int .i64 (i:Int)∧v9w qs w i v wr) (fun _ x _=>np - (intOf x).toNat)
 case atStart=>exact ⟨0,none,0,rfl,rfl,HS0.out⟩
 case round=>
  clear HS0
  obtain ⟨i,vA,vc,rfl,rfl,hV⟩:=hrel
  have hll:=HNP.out
  have hle:=hV.le
  by_cases hlt:i<np
  ·have hii:(i:Int)<(np:Int):=by omega
   have hip:i<qs.length:=by omega
   obtain ⟨ob,oo,rfl,hob,d00⟩:=HW.out i (by simpa using hip)
   rw [List.getElem_map] at d00
   have d0:=((q0w hV.bl).1 _ _ hob).trans d00
   have ht0:=HOK.out qs[i] (List.getElem_mem _)
   rcases HKN.out with ⟨_,e0⟩ | ⟨mb,rfl,hkn⟩
   ·rw [e0] at hip
    simp at hip
   ·obtain ⟨A6,c6,hlk,_,hc6,hT6⟩:=(hkn.kept (hV.bl.block mb hkn.lt)).look (List.getElem_mem hip) ht0
    have s2:=HBC.out wr hV.bl
    have HV:Hid (v9w qs w i (.slice vA i vc) wr):=hV
    have HT6:Hid (qs[i].length≤c6∧Tds w A6 qs[i]):=⟨hc6,hT6⟩
    clear hkn hV d00 hT6 hc6 ht0
    generalize wbS (q5b n qs[i])=S6 at hlk
    obtain ⟨hs,hrow,hall⟩:=HV.out.row
    have HR:Hid (wr.ownsRow w.heap.size 59 1 (.slice vA i vc) i hs):=hrow
    have HAL:=(show Hid (_) from hall)
    clear hrow hall
    have hfl:=v5y
    go_wp2_with (at_builtin;refine v4r rfl _ _ rfl w.heap.size _ i hs rfl ?c1 wr.heap.size A6 qs[i].length c6 ?cx ?c2 ?c3 ?c4 ?_)
    case cx=>rfl
    case c1=>exact q1w HR.out (q1j _ _)
    case c2=>simp [go_sem]
    case c3=>omega
    case c4=>
     have:=HV.out.bl.size
     simp
     omega
    intro A4 c4 w4 hO4 hg4
    have HN:Hid (v9w qs w (i+1) (.slice A4 (i+1) c4) w4):=by
     have hz:=hg4.size
     rw [World.size_alloc] at hz
     refine ⟨by omega,⟨_,hO4,fun j hj hji=>?_⟩,HV.out.bl.trans ⟨hg4.os,hg4.tape,hg4.output,by omega,fun x hx=>?_⟩⟩
     ·have hl:=HR.out.1
      rw [Nat.mul_one] at hl
      by_cases e:j<i
      ·obtain ⟨A,c,q1,q2⟩:=HAL.out j hj e
       exact ⟨A,c,by rw [List.getElem?_append_left (by omega)];exact q1,q2⟩
      ·have hje:j=i:=by omega
       subst hje
       exact ⟨A6,c6,by rw [List.getElem?_append_right (by omega),hl];simp,HT6.out⟩
     ·have hsz:=HV.out.bl.size
      have q1:=hg4.block x (by rw [World.size_alloc];omega) (fun e=>by have:=v3r HR.out e.symm;omega)
      exact q1.trans ((q1j wr _).block x (by omega))
    clear hO4 hg4 HR HAL HV
    go_wp2
    refine ⟨⟨i+1,A4,c4,rfl,by go_num,HN.out⟩,?_⟩
    simp [intOf];omega
  ·have hii:¬ (i:Int)<(np:Int):=by omega
   have hie:i=np:=by omega
   subst hie
   have HV:Hid (v9w qs w i (.slice vA i vc) wr):=hV
   clear hV
   go_wp2
   go_ret
   obtain ⟨hs,hrow,hall⟩:=HV.out.row
   obtain ⟨q1,q2⟩:=j4h hrow
   refine ⟨⟨vA,vc,rfl,fun j hj=>?_,q1⟩,HV.out.bl⟩
   obtain ⟨A,c,r1,r2,r3⟩:=hall j hj (by omega)
   obtain ⟨g,e,hg,hc⟩:=q2 j _ (by omega) r1
   exact ⟨g,0,A,c,e,hg,by rw [Nat.zero_add];exact hc,r2,r3.below HV.out.bl⟩
theorem j0i {T:TypeId} (qs:List (List Td)) (n b:Nat) (w:World) (hS:q3o T w b qs n) :
  Calls Tryz.prog 31 #[.pointer (some ⟨b,0,none⟩)] w fun e w'=>e = .returned (.string (wbS (q7y n qs)))∧Below w.heap.size w w':=by
 obtain ⟨oA,oc,m,s0,s1,s2,sf,sW,skn⟩:=hS.cell
 have hblt:=hS.lt
 obtain ⟨_,_,_,hSM⟩:=hS
 have hl20:=hSM.len
 have HOK:Hid (∀ t∈qs,q0c t=0):=hSM.ok
 have HPG:Hid (∀ t∈qs,pgE t=0):=hSM.pg
 have HW:Hid (Wds w oA (qs.map kyB)):=sW
 have HKN:Hid ((m=none∧qs=[])∨∃ b,m=some b∧KnM w w b qs n):=skn
 have HBC:Hid (∀ W,Below w.heap.size w W→W.cell? ⟨b,2,none⟩=some (.map m)):=fun W h=>((q0w h).1 _ _ hblt).trans s2
 have s1':(w.alloc (.cells #[.pointer none,.slice none 0 0] 83)).cell? ⟨b,1,none⟩=some (.slice oA qs.length oc):=((q0w (q1j w _)).1 _ _ hblt).trans s1
 have HS0:Hid (j7a qs n w 0 (w.alloc (.cells #[.pointer none,.slice none 0 0] 83))):=⟨Nat.zero_le _,rfl,IsX.fresh 83 w [],q1j w _,by simp [q7y]⟩
 clear sW skn hSM s0 s1 s2 sf
 generalize hnp:qs.length=np at hl20 s1' ⊢
 have HNP:Hid (qs.length=np):=hnp
 clear hnp
 go_enter Tryz.func31,Tryz.ntmps31
 go_wp2_with fail
 clear s1'
 go_loopw [11] (fun x wr=>∃ i:Nat,x = .int .i64 (i:Int)∧j7a qs n w i wr) (fun x _=>np - (intOf x).toNat)
 case atStart=>exact ⟨0,rfl,HS0.out⟩
 case round=>
  clear HS0
  obtain ⟨i,rfl,hV⟩:=hrel
  have hll:=HNP.out
  have hle:=hV.le
  have hln:=hV.ln
  by_cases hlt:i<np
  ·have hii:(i:Int)<(np:Int):=by omega
   have hip:i<qs.length:=by omega
   obtain ⟨ob,oo,rfl,hob,d00⟩:=HW.out i (by simpa using hip)
   rw [List.getElem_map] at d00
   have d0:=((q0w hV.bl).1 _ _ hob).trans d00
   have ht0:=HOK.out qs[i] (List.getElem_mem _)
   have hp0:=HPG.out qs[i] (List.getElem_mem _)
   rcases HKN.out with ⟨_,e0⟩ | ⟨mb,rfl,hkn⟩
   ·rw [e0] at hip
    simp at hip
   ·obtain ⟨A6,c6,hlk,_,_,_⟩:=(hkn.kept (hV.bl.block mb hkn.lt)).look (List.getElem_mem hip) ht0
    have s2:=HBC.out wr hV.bl
    have hol:=j3m ht0 hp0 n
    have HFO:=(show Hid (_=_) from k4x (ps:=qs) n hip)
    have HNX:Hid (Calls Tryz.prog 33 #[.pointer (some ⟨w.heap.size,0,none⟩),.string (wbS (q5b n qs[i]))] wr fun e w'=>(∃ z,e = .returned (.tuple #[z,.nilIface]))∧j7a qs n w (i+1) w'):=by
     have hsz:=hV.bl.size
     refine (q5z 83 w.heap.size w.heap.size (Lib.byteCells (q7y n (qs.take i))) [] (wbS (q5b n qs[i])) wr y1i y6e hV.x (by rw [Lib.byteCells_length,k0h];omega) (by omega)).mono ?_
     rintro e w' ⟨rfl,q1,q2,_⟩
     refine ⟨⟨_,rfl⟩,by omega,?_,?_,?_,?_⟩
     ·have hz:=hV.z
      rw [k4w hip,q9f hp0] at hz
      exact hz
     ·rw [HFO.out,q2s]
      exact q1
     ·exact hV.bl.trans (q2.below (Nat.le_refl _))
     ·rw [HFO.out,List.length_append]
      omega
    clear hkn hV d00 ht0 hp0 HFO hol
    generalize wbS (q5b n qs[i])=S6 at hlk HNX
    have hfl:=j8p
    go_wp2_with fail
    refine HNX.out.mono ?_
    rintro e w4 ⟨⟨q,rfl⟩,h4⟩
    have HX4:Hid (j7a qs n w (i+1) w4):=h4
    clear h4
    go_wp2
    refine ⟨⟨i+1,by go_num,HX4.out⟩,?_⟩
    simp [intOf];omega
  ·have hii:¬ (i:Int)<(np:Int):=by omega
   have hie:qs.take i=qs:=List.take_of_length_le (by omega)
   have hx:=hV.x
   rw [hie] at hx
   have HO:Hid (Calls Tryz.prog 34 #[.pointer (some ⟨w.heap.size,0,none⟩)] wr fun e w'=>e = .returned (.string (wbS (q7y n qs)))∧Below w.heap.size wr w'):=z2i _ _ _ _ _ _ hx
   have HB:Hid (Below w.heap.size w wr):=hV.bl
   clear hV hie hx
   generalize hSS:wbS (q7y n qs)=S at HO
   have HSS:Hid (wbS (q7y n qs)=S):=hSS
   clear hSS
   go_wp2_with fail
   refine HO.out.mono ?_
   rintro e w3 ⟨rfl,b3⟩
   have HR3:Hid (Below w.heap.size w w3):=HB.out.trans b3
   clear b3
   go_wp2
   go_ret
   refine ⟨?_,HR3.out⟩
   rw [HSS.out]
   rfl
end Go.Proofs.YtchdplceopegoaaGreatDoor
