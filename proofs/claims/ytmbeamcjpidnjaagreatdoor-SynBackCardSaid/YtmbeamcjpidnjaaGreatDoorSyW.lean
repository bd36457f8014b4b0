/- Parse of package syn. -/
import Derived.Test.YtmbeamcjpidnjaaGreatDoorSyL
import Derived.Test.YtmbeamcjpidnjaaGreatDoorRdPs
import Derived.Test.YtmbeamcjpidnjaaGreatDoorTreA
namespace Go.Proofs.YtmbeamcjpidnjaaGreatDoor
open Go Go.RowKit

theorem addW_le (a b : Wd) : (addW a b).length ≤ a.length + b.length + 1 := by
  unfold addW
  split
  · simp only [List.length_append, List.length_cons, List.length_nil]; omega
  · simp only [List.length_append]; omega
theorem foldW_le : ∀ (ws : List Wd) (t : Wd), (ws.foldl addW t).length ≤ t.length + szW ws
  | [], t => by simp [szW]
  | x :: r, t => by
    have h1 := foldW_le r (addW t x)
    have h2 := addW_le t x
    rw [List.foldl_cons, szW_cons]; omega
theorem spl_sz : ∀ s : Wd, szW (splB s) = s.length + 1
  | [] => rfl
  | c :: r => by
    have ih := spl_sz r
    by_cases hc : c = 32
    · subst hc
      rw [splB_blank, szW_cons, ih]; simp; omega
    · cases hs : splB r with
      | nil => exact absurd hs (splB_ne r)
      | cons x y =>
        rw [splB_other hc hs, szW_cons]
        rw [hs, szW_cons] at ih
        simp only [List.length_cons]; omega
theorem noteTx_le {x : Wd} (h : x ≠ []) : (noteTx x).length ≤ x.length := by
  unfold noteTx ntx
  have h1 := foldW_le (noteW (x.drop 1)) []
  have h2 : szW (noteW (x.drop 1)) ≤ (x.drop 1).length + 1 := by
    unfold noteW
    split
    · exact Nat.zero_le _
    · rw [spl_sz]; exact Nat.le_refl _
  rw [List.length_drop] at h2
  have h3 : 0 < x.length := List.length_pos_iff.2 h
  simp only [List.length_nil] at h1
  omega
theorem szW_suf {u ts : List Wd} (h : u <:+ ts) : szW u ≤ szW ts := by
  obtain ⟨t, rfl⟩ := h
  rw [szW_app]; omega
theorem wb_size (x : Wd) : (wbS x).size = x.length := by rw [← btL_len]; rfl
theorem nm_size {x : Wd} (h : nmW x = true) : (wbS x).size ≤ 8 := by
  simp only [nmW, nameT, Bool.and_eq_true, decide_eq_true_eq] at h
  exact h.1.1.2
theorem last_size {acc : List (List Td)} {N : Nat} (h : ∀ t ∈ acc, ∀ x ∈ t, x.tx.size ≤ N) : (lastTx acc).length ≤ N := by
  unfold lastTx
  split
  · rename_i x r hx
    have hm : (x :: r) ∈ acc := List.mem_of_getLast? hx
    have := h _ hm x (by simp)
    rw [btL_len]; exact this
  · exact Nat.zero_le _
/-- How long texts of what is read may be. -/
theorem pg_tx {pv : Bool} {acc : List (List Td)} {ts : List Wd} {r : Rp} (h : PG pv acc ts r) : ∀ N, 8 ≤ N → (∀ t ∈ acc, ∀ x ∈ t, x.tx.size ≤ N) → ∀ qs, r = .ok qs → ∀ t ∈ qs, ∀ x ∈ t, x.tx.size ≤ N + szW ts := by
  induction h with
  | done =>
    intro N _ hN qs e t ht x hx
    cases e
    have := hN t ht x hx
    omega
  | @note pv acc wd ts r h0 _ ih =>
    intro N h8 hN qs e t ht x hx
    have hne : wd ≠ [] := fun e => by rw [e] at h0; simp at h0
    have hl := noteTx_le hne
    have := ih (N + (wd.length + 1)) (by omega) (fun t ht x hx => by
      unfold addN at ht
      split at ht
      · rcases List.mem_append.1 ht with ht | ht
        · have := hN t ((List.dropLast_sublist acc).subset ht) x hx
          omega
        · rw [List.mem_singleton] at ht
          subst ht
          rw [List.mem_singleton] at hx
          subst hx
          show (wbS _).size ≤ _
          rw [wb_size]
          have h1 := addW_le (lastTx acc) (noteTx wd)
          have h2 := last_size hN
          omega
      · rcases List.mem_append.1 ht with ht | ht
        · have := hN t ht x hx
          omega
        · rw [List.mem_singleton] at ht
          subst ht
          rw [List.mem_singleton] at hx
          subst hx
          show (wbS _).size ≤ _
          rw [wb_size]
          omega) qs e t ht x hx
    rw [szW_cons]; omega
  | letN => intro N _ _ qs e; cases e
  | letE => intro N _ _ qs e; cases e
  | letB => intro N _ _ qs e; cases e
  | letX => intro N _ _ qs e; cases e
  | @letO pv acc nm ts m ns u r hn hpr _ ih =>
    intro N h8 hN qs e t ht x hx
    have hs := szW_suf (pr_suf hpr).1
    simp only [Rs.rest] at hs
    rw [szW_cons] at hs
    have := ih N h8 (fun t ht x hx => by
      rcases List.mem_append.1 ht with ht | ht
      · exact hN t ht x hx
      · rw [List.mem_singleton] at ht
        subst ht
        rcases List.mem_cons.1 hx with rfl | hx
        · exact Nat.le_trans (nm_size hn) h8
        · exact Nat.le_trans (pr_tx hpr (fun x hx => by cases hx) _ _ _ rfl x hx) h8) qs e t ht x hx
    rw [szW_cons, szW_cons, szW_cons]; omega
  | doB => intro N _ _ qs e; cases e
  | doX => intro N _ _ qs e; cases e
  | @doO pv acc wd ts m ns u r h0 hl hpr _ ih =>
    intro N h8 hN qs e t ht x hx
    have hs := szW_suf (pr_suf hpr).1
    simp only [Rs.rest] at hs
    rw [szW_cons] at hs
    have := ih N h8 (fun t ht x hx => by
      rcases List.mem_append.1 ht with ht | ht
      · exact hN t ht x hx
      · rw [List.mem_singleton] at ht
        subst ht
        rcases List.mem_cons.1 hx with rfl | hx
        · exact Nat.zero_le _
        · exact Nat.le_trans (pr_tx hpr (fun x hx => by cases hx) _ _ _ rfl x hx) h8) qs e t ht x hx
    omega
theorem szW_tot (ws : List Wd) : szW ws = (ws.map List.length).sum + ws.length := by
  induction ws with
  | nil => rfl
  | cons x r ih => rw [szW_cons, ih, List.map_cons, List.sum_cons, List.length_cons]; omega
set_option maxRecDepth 100000 in
set_option maxHeartbeats 2000000 in
theorem synParse_any (s : ByteArray) (w : World) (ht : Tabs w) : Calls Tryz.prog 12 #[.string s] w fun e w' => ParOut s w e w' := by
  have HW : Hid (Calls Tryz.prog 14 #[.string s] w fun e w' => WordsOwn s w e w' ∧ Below w.heap.size w w') := words_own s w
  by_cases h0 : lexE (btL s) = 0
  · have hz := lexE_zero h0
    have hfew := lex_few h0
    have htot := wds_total (btL s)
    have HTK : Hid (∀ x ∈ wdsL (btL s), isTok x) := wds_tok (btL s)
    have HT : Hid (Tabs w) := ht
    have hssz : s.size ≤ 60000 := by rw [← btL_len]; exact hz.1
    have HRD : Hid (∀ A P ac pc w1, StrsO w.heap.size (.slice A (wdsL (btL s)).length ac) ((wdsL (btL s)).map wbS) w1 → NumsO w.heap.size (.slice P (wdsL (btL s)).length pc) (plcL (btL s)) w1 → Below w.heap.size w w1 → Calls Tryz.prog 36 #[.slice A (wdsL (btL s)).length ac, .slice P (wdsL (btL s)).length pc, .int .i64 (s.size : Int)] w1 fun e w' => RdOut (wdsL (btL s)) (plE (plcL (btL s)) s.size) w.heap.size w1 e w') := fun A P ac pc w1 h1 h2 hb => yread_any HTK.out (by omega) hfew (wp_len _).symm hb.size h1 h2 (fun w' hb' => HT.out.below (hb.trans hb'))
    have HWR : Hid (Calls Tryz.prog 14 #[.string s] w fun e w' => ∃ A P ac pc, e = .returned (.tuple #[.slice A (wdsL (btL s)).length ac, .slice P (wdsL (btL s)).length pc, .int .i64 0, .nilIface]) ∧ (StrsO w.heap.size (.slice A (wdsL (btL s)).length ac) ((wdsL (btL s)).map wbS) w' ∧ NumsO w.heap.size (.slice P (wdsL (btL s)).length pc) (plcL (btL s)) w' ∧ Below w.heap.size w w')) := by
      refine HW.out.mono ?_
      rintro e w' ⟨hr, hb⟩
      rcases hr with ⟨hn, _⟩ | ⟨_, A, P, ac, pc, rfl, h1, h2⟩
      · exact absurd h0 hn
      · exact ⟨A, P, ac, pc, rfl, h1, h2, hb⟩
    have HTX : Hid (∀ qs, PG false [] (wdsL (btL s)) (.ok qs) → ∀ t ∈ qs, Few9 t) := fun qs hpg t ht x hx => by
      have h1 := pg_tx hpg 8 (Nat.le_refl _) (fun t ht => by cases ht) qs rfl t ht x hx
      rw [szW_tot] at h1
      omega
    have HOB : Hid (∀ u w1 w', Below w.heap.size w w1 → PG false [] (wdsL (btL s)) (.bad u) → Below w.heap.size w1 w' → ParOut s w (.returned (.tuple #[.slice none 0 0, .int .i64 (plE (plcL (btL s)) s.size ((wdsL (btL s)).length - u.length) : Int), .iface 23 (.int .i64 5)])) w') := fun u w1 w' hb1 hpg hb => ⟨[], _, 5, none, 0, rfl, ParR.bad h0 hpg, Prg.nil _ _, Nat.le_refl _, hb1.trans hb⟩
    have HOK : Hid (∀ qs A c w', PG false [] (wdsL (btL s)) (.ok qs) → (progF qs).2 = 0 → Prg w' A qs → qs.length ≤ c → Below w.heap.size w w' → ParOut s w (.returned (.tuple #[.slice A qs.length c, .int .i64 0, .nilIface])) w') := fun qs A c w' hpg hf hP hc hb => ⟨qs, 0, 0, A, c, rfl, ParR.ok h0 hpg hf, hP, hc, hb⟩
    have HOF : Hid (∀ qs w', PG false [] (wdsL (btL s)) (.ok qs) → (progF qs).2 ≠ 0 → Below w.heap.size w w' → ParOut s w (.returned (.tuple #[.slice none 0 0, .int .i64 0, .iface 23 (.int .i64 (progF qs).2)])) w') := fun qs w' hpg hf hb => ⟨[], 0, (progF qs).2, none, 0, by rw [errN_ne hf]; rfl, ParR.full h0 hpg hf, Prg.nil _ _, Nat.le_refl _, hb⟩
    clear HW hz htot hfew ht h0 HTK HT
    generalize (wdsL (btL s)).length = nl at HRD HWR
    go_enter Tryz.func12, Tryz.ntmps12
    go_wp2_with fail
    refine HWR.out.mono ?_
    rintro e w1 ⟨A, P, ac, pc, rfl, hX⟩
    have HX := (show Hid (_) from hX)
    have HRC : Hid (Calls Tryz.prog 36 #[.slice A nl ac, .slice P nl pc, .int .i64 (s.size : Int)] w1 fun e w' => RdOut (wdsL (btL s)) (plE (plcL (btL s)) s.size) w.heap.size w1 e w') := HRD.out A P ac pc w1 hX.1 hX.2.1 hX.2.2
    clear hX HWR HRD
    go_wp2_with fail
    refine HRC.out.mono ?_
    intro e w2 hG
    cases hG with
    | @bad u _ pg hb =>
      have HF := (show Hid (_) from HOB.out u w1 w2 HX.out.2.2 pg hb)
      clear pg hb HRC
      generalize plE (plcL (btL s)) s.size ((wdsL (btL s)).length - u.length) = pp at HF ⊢
      go_wp2
      refine bodyPost_ret (v := .tuple #[.slice none 0 0, .int .i64 (pp : Int), .iface 23 (.int .i64 5)]) (by simp [results, Tryz.results12, go_sem]) rfl ?_
      exact HF.out
    | @ok qs A2 c2 _ pg hp hc hb =>
      have hb2 : Below w.heap.size w w2 := HX.out.2.2.trans hb
      have HA : Hid (Calls Tryz.prog 26 #[.slice A2 qs.length c2] w2 fun e w' => e = .returned (.tuple #[.int .i64 ((progF qs).1 : Int), errN (progF qs).2]) ∧ Below w2.heap.size w2 w') := tAll_nine qs A2 c2 w2 hc hp (HTX.out qs pg)
      by_cases hf : (progF qs).2 = 0
      · have HF : Hid (∀ w3, Below w2.heap.size w2 w3 → ParOut s w (.returned (.tuple #[.slice A2 qs.length c2, .int .i64 0, .nilIface])) w3) := fun w3 hb3 => HOK.out qs A2 c2 w3 pg hf (hp.below hb3) hc (belowT hb2 (Nat.le_refl _) hb3)
        rw [hf] at HA
        generalize (progF qs).1 = K at HA
        clear pg hp hc hb hb2 hf HRC
        generalize qs.length = ql at HA HF ⊢
        go_wp2_with fail
        refine HA.out.mono ?_
        rintro e w3 ⟨rfl, b3⟩
        have HF3 := (show Hid (_) from HF.out w3 b3)
        clear b3
        rw [errN_0]
        go_wp2
        refine bodyPost_ret (v := .tuple #[.slice A2 ql c2, .int .i64 0, .nilIface]) (by simp [results, Tryz.results12, go_sem]) rfl ?_
        exact HF3.out
      · have HF : Hid (∀ w3, Below w2.heap.size w2 w3 → ParOut s w (.returned (.tuple #[.slice none 0 0, .int .i64 0, .iface 23 (.int .i64 (progF qs).2)])) w3) := fun w3 hb3 => HOF.out qs w3 pg hf (belowT hb2 (Nat.le_refl _) hb3)
        have HE : Hid (errN (progF qs).2 = .iface 23 (.int .i64 (progF qs).2)) := errN_ne hf
        generalize (progF qs).2 = E at HA HE HF
        generalize (progF qs).1 = K at HA
        clear pg hp hc hb hb2 hf HRC
        generalize qs.length = ql at HA ⊢
        go_wp2_with fail
        refine HA.out.mono ?_
        rintro e w3 ⟨rfl, b3⟩
        have HF3 := (show Hid (_) from HF.out w3 b3)
        clear b3
        rw [HE.out]
        go_wp2
        refine bodyPost_ret (v := .tuple #[.slice none 0 0, .int .i64 0, .iface 23 (.int .i64 E)]) (by simp [results, Tryz.results12, go_sem]) rfl ?_
        exact HF3.out
  · have HWR : Hid (Calls Tryz.prog 14 #[.string s] w fun e w' => e = .returned (.tuple #[.slice none 0 0, .slice none 0 0, .int .i64 ((lexK (btL s) : Nat) : Int), errN (lexE (btL s))]) ∧ Below w.heap.size w w') := by
      refine HW.out.mono ?_
      rintro e w' ⟨hr, hb⟩
      rcases hr with ⟨_, rfl⟩ | ⟨hn, _⟩
      · exact ⟨rfl, hb⟩
      · exact absurd hn h0
    have HE : Hid (errN (lexE (btL s)) = .iface 23 (.int .i64 (lexE (btL s)))) := errN_ne h0
    have HF : Hid (∀ w', Below w.heap.size w w' → ParOut s w (.returned (.tuple #[.slice none 0 0, .int .i64 ((lexK (btL s) : Nat) : Int), .iface 23 (.int .i64 (lexE (btL s)))])) w') := fun w' hb => ⟨[], _, _, none, 0, by rw [HE.out]; rfl, ParR.lex h0, Prg.nil _ _, Nat.le_refl _, hb⟩
    generalize lexE (btL s) = E at HWR HE HF
    generalize ((lexK (btL s) : Nat) : Int) = LK at HWR HF
    clear HW h0 ht
    go_enter Tryz.func12, Tryz.ntmps12
    go_wp2_with fail
    refine HWR.out.mono ?_
    rintro e w1 ⟨rfl, b1⟩
    have HF1 := (show Hid (_) from HF.out w1 b1)
    clear b1
    rw [HE.out]
    go_wp2
    refine bodyPost_ret (v := .tuple #[.slice none 0 0, .int .i64 LK, .iface 23 (.int .i64 E)]) (by simp [results, Tryz.results12, go_sem]) rfl ?_
    exact HF1.out
end Go.Proofs.YtmbeamcjpidnjaaGreatDoor
