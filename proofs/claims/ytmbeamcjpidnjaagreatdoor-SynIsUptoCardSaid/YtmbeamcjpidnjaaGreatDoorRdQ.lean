/- By the document: texts read: ParseOf. (Made by tools/gen_rdq.py.) -/
import Derived.Test.YtmbeamcjpidnjaaGreatDoorRdPs
import Derived.Test.YtmbeamcjpidnjaaGreatDoorSynPs
import Derived.Test.YtmbeamcjpidnjaaGreatDoorLexTs
import Derived.Test.YtmbeamcjpidnjaaGreatDoorTreG
namespace Go.Proofs.YtmbeamcjpidnjaaGreatDoor
open Go Go.RowKit

/-- What ParseOf hands back. -/
def ParRes (s : ByteArray) (W : World) (e : Ending) (w' : World) : Prop := ∃ ps k f A c, e = .returned (.tuple #[.slice A ps.length c, .int .i64 k, .int .i64 f]) ∧ ParR s ps k f ∧ Prg w' A ps ∧ (A = none → ps.length = 0 ∧ c = 0) ∧ ps.length ≤ c ∧ Below W.heap.size W w'
theorem parRes_nil {s : ByteArray} {W w' : World} {k f : Int} (h : ParR s [] k f) (hb : Below W.heap.size W w') : ParRes s W (.returned (.tuple #[.slice none 0 0, .int .i64 k, .int .i64 f])) w' :=
  ⟨[], k, f, none, 0, rfl, h, Prg.nil _ _, fun _ => ⟨rfl, rfl⟩, Nat.le_refl _, hb⟩
theorem strsO_lt {B : Nat} {w : World} {A : Option Addr} {n c : Nat} {xs : List ByteArray} (h : StrsO B (.slice A n c) xs w) : ∀ ba oa, A = some ⟨ba, oa, none⟩ → ba < w.heap.size := by
  intro ba oa e
  rcases h.2 with ⟨hv, _⟩ | ⟨g, c', cur, hv, _, hg, _⟩
  · simp only [Value.slice.injEq] at hv
    rw [hv.1] at e; cases e
  · simp only [Value.slice.injEq] at hv
    rw [hv.1] at e
    simp only [Option.some.injEq, Addr.mk.injEq, and_true] at e
    rw [← e.1]
    exact (Array.getElem?_eq_some_iff.1 hg).1
theorem rd_new {w : World} {A : Option Addr} {c : Nat} {ws : List Wd} (hw : Wds w A (ws.map wbS)) (hlt : ∀ ba oa, A = some ⟨ba, oa, none⟩ → ba < w.heap.size) : Rd (w.alloc (.cells #[.slice A ws.length c, .int .i64 0, .bool false] 77)) w.heap.size A c ws 0 false := by
  have h1 : (w.alloc (.cells #[.slice A ws.length c, .int .i64 0, .bool false] 77)).heap[w.heap.size]? = some (.cells #[.slice A ws.length c, .int .i64 0, .bool false] 77 (0, 0)) := by
    show (w.heap.push _)[w.heap.size]? = _
    simp
  have h2 : ∀ k, (w.alloc (.cells #[.slice A ws.length c, .int .i64 0, .bool false] 77)).cell? ⟨w.heap.size, k, none⟩ = (match (w.alloc (.cells #[.slice A ws.length c, .int .i64 0, .bool false] 77)).heap[w.heap.size]? with
    | some (.cells c _ _) => c[k]?
    | _ => none) := fun _ => rfl
  refine ⟨by rw [h2, h1]; rfl, by rw [h2, h1]; rfl, by rw [h2, h1]; rfl, ⟨_, _, h1, rfl⟩, hw.below ((Below.refl _ _).alloc (Nat.le_refl _) _), hlt⟩
theorem wds_tk2 {L : List UInt8} : ∀ x ∈ wdsL L, isTok x ∧ x.length ≤ L.length := by
  intro x hx
  obtain ⟨j, hj, rfl⟩ := List.getElem_of_mem hx
  have h := wp_at L j hj (by rw [← wp_len]; exact hj)
  exact ⟨h.2.2.1, by omega⟩
theorem mem_sum : ∀ (ws : List Wd) (w : Wd), w ∈ ws → w.length + 1 ≤ sumW ws
  | a :: r, w, h => by
    unfold sumW
    rw [List.map_cons, List.sum_cons]
    rcases List.mem_cons.1 h with rfl | h
    · omega
    · have := mem_sum r w h
      unfold sumW at this
      omega
theorem len_sum : ∀ ws : List Wd, ws.length ≤ sumW ws
  | [] => by simp
  | a :: r => by
    have := len_sum r
    unfold sumW at this ⊢
    rw [List.map_cons, List.sum_cons, List.length_cons]
    omega
theorem noteW_len (s : List UInt8) : (noteW s).length ≤ s.length + 1 := by
  unfold noteW
  split
  · simp
  · have := len_sum (splB s)
    rw [sum_spl] at this
    exact this
theorem noteW_mem {s : List UInt8} {w : Wd} (h : w ∈ noteW s) : w.length ≤ s.length := by
  unfold noteW at h
  split at h
  · cases h
  · have h1 := mem_sum _ _ h
    rw [sum_spl] at h1
    omega
theorem add_yes {t l : Wd} (h : l ≠ [] ∧ t ≠ []) : wbS t ++ (⟨#[32]⟩ : ByteArray) ++ wbS l = wbS (addW t l) := by
  unfold addW
  rw [if_pos h, ← wbS_two, ← wbS_two]; rfl
theorem add_no {t l : Wd} (h : ¬ (l ≠ [] ∧ t ≠ [])) : wbS t ++ wbS l = wbS (addW t l) := by
  unfold addW
  rw [if_neg h, ← wbS_two]
theorem wb_pos {t : Wd} (h : t ≠ []) : (0 : Int) < ((wbS t).size : Int) := by
  rw [wbS_len]
  have := List.length_pos_iff.2 h
  omega
theorem wb_zero {t : Wd} (h : t = []) : ¬ (0 : Int) < ((wbS t).size : Int) := by
  rw [wbS_len, h]; simp
theorem wb_hd {w : Wd} {S : ByteArray} (h : wbS w = S) (h0 : w ≠ []) : 0 < S.size ∧ ∀ h1 : 0 < S.size, S[0] = w.headD 0 := by
  subst h
  cases w with
  | nil => exact absurd rfl h0
  | cons c r => exact ⟨by rw [← btL_len]; show 0 < (c :: r).length; simp, fun _ => rfl⟩
theorem tail_eq {w : Wd} {S : ByteArray} (h : wbS w = S) : btL (S.extract 1 S.size) = w.drop 1 := by
  subst h
  rw [wbS_ext]
  have e1 : btL (wbS w) = w := rfl
  have e2 : ∀ l : List UInt8, btL (wbS l) = l := fun _ => rfl
  rw [e2, e1, wbS_len, List.take_of_length_le (by simp)]
/-- When it has failed behind a name: nothing more is read. -/
structure GoxB (b : Nat) (A : Option Addr) (c : Nat) (ws : List Wd) (p : Nat) (w : World) (r : Rs) (ns : List Td) (v : Value) (w' : World) : Prop where
  o : TdsO w.heap.size v ns w'
  n : ns.length + r.rest.length ≤ (ws.drop p).length
  rd : Rd w' b A c ws (ws.length - r.rest.length) r.isBad
  bt : But w.heap.size b w w'
  er : r = .bad (ws.drop p)
  en : ns = []
theorem p_letE {b : Nat} {A : Option Addr} {c : Nat} {ws : List Wd} {w : World} {q p : Nat} {acc : List (List Td)} {v v7 : Value} {wr w3 w4 w7 : World} {x : Td} {r : Rs} {ns : List Td} {v4 : Value} (hV : PAt b A c ws w q false acc v wr) (hqp : q < p) (hp : p ≤ ws.length)
    (hG : GoxB b A c ws p w3 r ns v4 w4) (hP : PG (prevN ws q) acc (ws.drop q) (.bad (ws.drop p)))
    (hR : Rd w7 b A c ws (wantAt ws (ws.length - r.rest.length) r.isBad [59]) (wantBad ws (ws.length - r.rest.length) r.isBad [59])) (hO : PrgO (b + 1) v7 (acc ++ [x :: ns]) w7) (b7 : But w.heap.size b w w7) :
    PAt b A c ws w (wantAt ws (ws.length - r.rest.length) r.isBad [59]) (wantBad ws (ws.length - r.rest.length) r.isBad [59]) (acc ++ [x :: ns]) v7 w7 ∧
    2 * (ws.length - wantAt ws (ws.length - r.rest.length) r.isBad [59]) + (if wantBad ws (ws.length - r.rest.length) r.isBad [59] then 0 else 1) < 2 * (ws.length - q) + 1 := by
  have er := hG.er
  subst er
  have e1 : ws.length - (Rs.bad (ws.drop p)).rest.length = p := by
    show ws.length - (ws.drop p).length = p
    rw [drop_len hp]; omega
  rw [e1] at hR ⊢
  have e2 : wantAt ws p (Rs.bad (ws.drop p)).isBad [59] = p := by simp [wantAt, Rs.isBad]
  have e3 : wantBad ws p (Rs.bad (ws.drop p)).isBad [59] = true := by simp [wantBad, Rs.isBad]
  rw [e2, e3] at hR ⊢
  exact ⟨p_bad hV (by omega) hp (by simp) hP hO hR b7, by simp only [if_true]; omega⟩
set_option maxRecDepth 100000 in
set_option maxHeartbeats 16000000 in
theorem parseOf_any (s : ByteArray) (W : World) : Calls Tryz.prog 11 #[.string s] W fun e w' => ParRes s W e w' := by
  have HL : Hid (Calls Tryz.prog 31 #[.string s] W fun e w' => LexRes s W e w' ∧ Below W.heap.size W w') := lexOf_all s W
  go_enter Tryz.func11, Tryz.ntmps11
  go_wp2_with fail
  refine HL.out.mono ?_
  rintro e w1 ⟨hres, hb1⟩
  have HB1 : Hid (Below W.heap.size W w1) := hb1
  clear hb1 HL
  rcases hres with ⟨hne, rfl⟩ | ⟨h0, A, P, ac, pc, rfl, hS, hP⟩
  · have HP : Hid (ParR s [] ((lexK (btL s) : Nat) : Int) (lexE (btL s))) := .lex hne
    generalize ((lexK (btL s) : Nat) : Int) = K at HP
    generalize lexE (btL s) = E at HP hne
    go_wp2
    refine bodyPost_ret (v := .tuple #[.slice none 0 0, .int .i64 K, .int .i64 E]) (by simp [results, Tryz.results11, go_sem]) rfl ?_
    exact parRes_nil HP.out HB1.out
  have hl := lex_few h0
  have htk : ∀ x ∈ wdsL (btL s), isTok x := fun x hx => (wds_tk2 x hx).1
  have hwl : ∀ x ∈ wdsL (btL s), x.length ≤ 60000 := fun x hx => Nat.le_trans (wds_tk2 x hx).2 (lexE_zero h0).1
  have HBAD : Hid (∀ q, q ≤ (wdsL (btL s)).length → PG false [] (wdsL (btL s)) (.bad ((wdsL (btL s)).drop q)) → ParR s [] ((((plcL (btL s))[q]?).getD s.size : Nat) : Int) 5) := fun q hq hg => by
    have h9 := ParR.bad h0 hg
    unfold plcAt at h9
    rw [drop_len hq, show (wdsL (btL s)).length - ((wdsL (btL s)).length - q) = q by omega] at h9
    exact h9
  have HOKP : Hid (∀ qs, PG false [] (wdsL (btL s)) (.ok qs) → ((progF qs).2 ≠ 0 → ParR s [] 0 (progF qs).2) ∧ ((progF qs).2 = 0 → ParR s qs 0 0)) := fun qs hg => ⟨fun h => .full h0 hg h, fun h => .ok h0 hg h⟩
  have hPI : ∀ i, i < (wdsL (btL s)).length → ∃ bp op, P = some ⟨bp, op, none⟩ ∧ bp < w1.heap.size ∧ w1.cell? ⟨bp, op + i, none⟩ = some (.int .i64 ((((plcL (btL s))[i]?).getD s.size : Nat) : Int)) := fun i hi => by
    have hi2 : i < ((plcL (btL s)).map fun (k : Nat) => (k : Int)).length := by rw [List.length_map, ← wp_len]; exact hi
    obtain ⟨bp, op, e, hlt, c1⟩ := numsO_ints hP i hi2
    have hi3 : i < (plcL (btL s)).length := by rw [← wp_len]; exact hi
    refine ⟨bp, op, e, hlt, ?_⟩
    rw [c1, List.getElem?_eq_getElem hi3, List.getElem_map]
    rfl
  generalize hws : wdsL (btL s) = ws at *
  obtain ⟨W2, hW2⟩ : ∃ W2, W2 = w1.alloc (.cells #[.slice A ws.length ac, .int .i64 0, .bool false] 77) := ⟨_, rfl⟩
  have HRD : Hid (Rd W2 w1.heap.size A ac ws 0 false) := by rw [hW2]; exact rd_new (strsO_wds hS) (strsO_lt hS)
  have HW2 : Hid (W2 = w1.alloc (.cells #[.slice A ws.length ac, .int .i64 0, .bool false] 77)) := hW2
  have hbl : Below w1.heap.size w1 W2 := by rw [hW2]; exact (Below.refl _ _).alloc (Nat.le_refl _) _
  have hs2 : W2.heap.size = w1.heap.size + 1 := by rw [hW2, World.size_alloc]
  have HINT : Hid (∀ wr, But W2.heap.size w1.heap.size W2 wr → ∀ i, i < ws.length → ∃ bp op, P = some ⟨bp, op, none⟩ ∧ wr.cell? ⟨bp, op + i, none⟩ = some (.int .i64 ((((plcL (btL s))[i]?).getD s.size : Nat) : Int))) := fun wr hb i hi => by
    obtain ⟨bp, op, e, hlt, c1⟩ := hPI i hi
    refine ⟨bp, op, e, ?_⟩
    rw [hb.cell (p := ⟨bp, op + i, none⟩) (by show bp < _; omega) (by show bp ≠ _; omega), hbl.cell (p := ⟨bp, op + i, none⟩) hlt]
    exact c1
  have HBW : Hid (∀ wr, But W2.heap.size w1.heap.size W2 wr → Below W.heap.size W wr) := fun wr hb => by
    have h1 := HB1.out.size
    exact (HB1.out.trans (hbl.mono h1)).trans (hb.low (by omega) h1)
  have HNON : Hid (∀ q, ws.length ≤ q → (plcL (btL s))[q]? = none) := fun q hq => List.getElem?_eq_none (by rw [← wp_len, hws]; exact hq)
  have HTK : Hid (∀ x ∈ ws, isTok x) := htk
  have HWL : Hid (∀ x ∈ ws, x.length ≤ 60000) := hwl
  have HS2 : Hid (W2.heap.size = w1.heap.size + 1) := hs2
  generalize hPL : plcL (btL s) = pl at HBAD HINT HNON
  clear hS hP h0 htk hwl hPI hws hW2 hbl hs2 HB1 hPL
  go_wp2_with fail
  rw [← HW2.out]
  generalize w1.heap.size = b at HRD HINT HBW HS2 ⊢
  clear HW2
  go_loopw [10] (fun x wr => ∃ (q : Nat) (bad : Bool) (acc : List (List Td)) (A' : Option Addr) (c' : Nat), x = .slice A' acc.length c' ∧ PAt b A ac ws W2 q bad acc (.slice A' acc.length c') wr) (fun _ wr => 2 * (ws.length - rdAt wr b) + rdNB wr b)
  case atStart => exact ⟨0, false, [], none, 0, rfl, p_start HRD.out⟩
  case round =>
    obtain ⟨q, bad, acc, A', c', rfl, hV⟩ := hrel
    have HV := (show Hid (_) from hV)
    have d1 := hV.rd.c1
    have d2 := hV.rd.c2
    have hqle := hV.le
    have hfz1 : wr.frozen? ⟨b, 1, none⟩ = false := hV.rd.row.frozen
    have hfz2 : wr.frozen? ⟨b, 2, none⟩ = false := hV.rd.row.frozen
    have hbs : b < wr.heap.size := hV.rd.row.lt
    have hwb := hV.bt.size
    have hln := hV.len
    have HBR : Hid (Below W.heap.size W wr) := HBW.out wr hV.bt
    generalize hal : acc.length = al at hln
    have HAL : Hid (acc.length = al) := hal
    clear hV hal
    cases bad with
    | true =>
      have hPR := HBAD.out q hqle (HV.out.bd rfl)
      have HPR := (show Hid (_) from hPR)
      clear hPR
      by_cases hq2 : q < ws.length
      · have hq2i : (q : Int) < (ws.length : Int) := by omega
        obtain ⟨bp, op, rfl, hcp⟩ := HINT.out wr HV.out.bt q hq2
        generalize (((pl[q]?).getD s.size : Nat) : Int) = K at HPR hcp
        go_wp2_with fail
        go_quiet (fail)
        go_wp2
        refine bodyPost_ret (v := .tuple #[.slice none 0 0, .int .i64 K, .int .i64 5]) (by simp [results, Tryz.results11, go_sem]) rfl ?_
        exact parRes_nil HPR.out (belDraw HBR.out _)
      · have hq2i : ¬ (q : Int) < (ws.length : Int) := by omega
        have hnone : pl[q]? = none := HNON.out q (by omega)
        rw [hnone] at HPR
        go_wp2
        refine bodyPost_ret (v := .tuple #[.slice none 0 0, .int .i64 (s.size : Int), .int .i64 5]) (by simp [results, Tryz.results11, go_sem]) rfl ?_
        exact parRes_nil HPR.out HBR.out
    | false =>
      by_cases hqlt : q < ws.length
      · have hqi : (q : Int) < (ws.length : Int) := by omega
        obtain ⟨ba, oa, eA, hba, dq⟩ := HV.out.rd.wd q (by rw [List.length_map]; exact hqlt)
        subst eA
        rw [List.getElem_map] at dq
        have htq := HTK.out _ (List.getElem_mem hqlt)
        have hwq := HWL.out _ (List.getElem_mem hqlt)
        have hne : ws[q] ≠ [] := by
          obtain ⟨x, r, e, _⟩ := htq
          rw [e]; simp
        generalize hX : wbS ws[q] = X at dq
        have HX : Hid (wbS ws[q] = X) := hX
        obtain ⟨hx0, hx1⟩ := wb_hd hX hne
        have hx0i : (0 : Int) < (X.size : Int) := by omega
        have hx6 : X.size ≤ 60000 := by rw [← hX, wbS_len]; exact hwq
        by_cases h35 : ws[q].headD 0 = 35
        · have hx35 : X[0] = 35 := (hx1 hx0).trans h35
          have H35 : Hid (ws[q].headD 0 = 35) := h35
          have HNW : Hid (Calls Tryz.prog 16 #[.string (X.extract 1 X.size)] (wr.setCell ⟨b, 1, none⟩ (.int .i64 ((q : Int) + 1))) fun e w' => (∃ A1 c1, e = .returned (.slice A1 (noteW (ws[q].drop 1)).length c1) ∧ Wds w' A1 ((noteW (ws[q].drop 1)).map wbS)) ∧ Rd w' b (some ⟨ba, oa, none⟩) ac ws (q + 1) false ∧ But W2.heap.size b W2 w' ∧ PrgO (b + 1) (.slice A' al c') acc w' ∧ wr.heap.size ≤ w'.heap.size) := by
            have h1 := rNoteWords_any (X.extract 1 X.size) (wr.setCell ⟨b, 1, none⟩ (.int .i64 ((q : Int) + 1))) (by rw [ByteArray.size_extract]; omega)
            rw [tail_eq HX.out] at h1
            have h2 := HV.out.rd.setAt (q + 1)
            rw [show ((q + 1 : Nat) : Int) = (q : Int) + 1 by omega] at h2
            have h3 : But wr.heap.size b wr (wr.setCell ⟨b, 1, none⟩ (.int .i64 ((q : Int) + 1))) := (But.refl _ _ _).setCell (p := ⟨b, 1, none⟩) (.inl rfl) _
            have h4 : (wr.setCell ⟨b, 1, none⟩ (.int .i64 ((q : Int) + 1))).heap.size = wr.heap.size := by rw [World.size_setCell]
            rw [h4] at h1
            refine h1.mono ?_
            rintro e w' ⟨⟨A1, c1, rfl, h5⟩, h6⟩
            have h7 : But wr.heap.size b wr w' := h3.trans (But.of h6)
            refine ⟨⟨A1, c1, rfl, strsO_wds h5⟩, h2.keepB h6 hbs, HV.out.bt.trans (h7.mono hwb), ?_, h7.size⟩
            have h8 := HV.out.o.but h7 (by omega)
            rw [HAL.out] at h8
            exact h8
          clear hX hx1 h35 hne htq hwq
          go_wp2_with fail
          refine HNW.out.mono ?_
          rintro e w3 ⟨⟨A1, cc1, rfl, hW3⟩, hR3, hB3, hO3, hs3⟩
          have HR3 := (show Hid (_) from hR3)
          have HB3 := (show Hid (_) from hB3)
          have HO3 : Hid (PrgO (b + 1) (.slice A' al c') acc w3) := hO3
          have HW3 := (show Hid (_) from hW3)
          have d13 := hR3.c1
          have d23 := hR3.c2
          have HNL : Hid (∀ k, (wbS (ntx ((noteW (ws[q].drop 1)).take k))).size ≤ 60001) := fun k => by
            have h1 := ntx_len (ws[q].drop 1) k
            have h2 : (ws[q].drop 1).length ≤ 60000 := by
              have h3 : (wbS ws[q]).size ≤ 60000 := by rw [HX.out]; exact hx6
              rw [wbS_len] at h3
              simp only [List.length_drop]; omega
            show (wbS _).size ≤ _
            rw [wbS_len]; omega
          have HWT : Hid (ntx ((noteW (ws[q].drop 1)).take (noteW (ws[q].drop 1)).length) = noteTx ws[q]) := by
            show _ = _
            rw [List.take_length]; rfl
          have HEL : Hid (∀ j (h : j < (noteW (ws[q].drop 1)).length), (wbS (noteW (ws[q].drop 1))[j]).size ≤ 60001) := fun j h => by
            have h1 := noteW_mem (List.getElem_mem h)
            have h3 : (wbS ws[q]).size ≤ 60000 := by rw [HX.out]; exact hx6
            rw [wbS_len] at h3
            simp only [List.length_drop] at h1
            rw [wbS_len]; omega
          have hnl6 : (noteW (ws[q].drop 1)).length ≤ 60001 := by
            have h1 := noteW_len (ws[q].drop 1)
            have h3 : (wbS ws[q]).size ≤ 60000 := by rw [HX.out]; exact hx6
            rw [wbS_len] at h3
            simp only [List.length_drop] at h1
            omega
          clear hW3 hR3 hB3 hO3 HNW
          generalize noteW (ws[q].drop 1) = nl at HW3 HNL HWT HEL hnl6 ⊢
          go_wp2_with fail
          go_loopw [12, 14] (fun t i wx => ∃ j : Nat, j ≤ nl.length ∧ i = .int .i64 (j : Int) ∧ t = .string (wbS (ntx (nl.take j))) ∧ Below w3.heap.size w3 wx) (fun _ i _ => nl.length - (intOf i).toNat)
          case atStart => exact ⟨0, Nat.zero_le _, rfl, rfl, Below.refl _ _⟩
          case round =>
            obtain ⟨j, hj, rfl, rfl, hbx⟩ := hrel
            have HBX : Hid (Below w3.heap.size w3 wr) := hbx
            clear hbx
            by_cases hjl : j < nl.length
            · have hji : (j : Int) < (nl.length : Int) := by omega
              obtain ⟨b1, o1, e1, hb1, dj⟩ := (Wds.below HW3.out HBX.out) j (by rw [List.length_map]; exact hjl)
              subst e1
              rw [List.getElem_map] at dj
              have HST : Hid (ntx (nl.take (j + 1)) = addW (ntx (nl.take j)) nl[j]) := by
                show _ = _
                unfold ntx
                rw [List.take_succ_eq_append_getElem hjl, List.foldl_append]; rfl
              have hz1 := HNL.out j
              have hz2 := HEL.out j hjl
              generalize ntx (nl.take j) = T at HST hz1 ⊢
              generalize nl[j] = Y at HST hz2 dj
              by_cases hy : Y = []
              · have HA : Hid (wbS T ++ wbS Y = wbS (addW T Y)) := add_no fun h => h.1 hy
                have hyi := wb_zero hy
                clear hy
                generalize wbS T = TT at *
                generalize wbS Y = YY at *
                go_wp2
                go_roundw
                case rel => exact ⟨j + 1, by omega, by go_num, by rw [HST.out, ← HA.out], HBX.out⟩
                case measure => simp [intOf]; omega
              · have hyi := wb_pos hy
                by_cases ht : T = []
                · have HA : Hid (wbS T ++ wbS Y = wbS (addW T Y)) := add_no fun h => h.2 ht
                  have hti := wb_zero ht
                  clear hy ht
                  generalize wbS T = TT at *
                  generalize wbS Y = YY at *
                  go_wp2
                  go_roundw
                  case rel => exact ⟨j + 1, by omega, by go_num, by rw [HST.out, ← HA.out], HBX.out⟩
                  case measure => simp [intOf]; omega
                · have HA : Hid (wbS T ++ (⟨#[32]⟩ : ByteArray) ++ wbS Y = wbS (addW T Y)) := add_yes ⟨hy, ht⟩
                  have hti := wb_pos ht
                  clear hy ht
                  generalize wbS T = TT at *
                  generalize wbS Y = YY at *
                  go_wp2
                  go_roundw
                  case rel => exact ⟨j + 1, by omega, by go_num, by rw [HST.out, ← HA.out], HBX.out⟩
                  case measure => simp [intOf]; omega
            · have hji : ¬ (j : Int) < (nl.length : Int) := by omega
              have hje : j = nl.length := by omega
              subst hje
              have hz1 := HNL.out nl.length
              rw [HWT.out] at hz1 ⊢
              have hRy := HR3.out.keep HBX.out
              have e1 : wr.cell? ⟨b, 1, none⟩ = some (.int .i64 ((q : Int) + 1)) := hRy.c1
              have hOy : PrgO (b + 1) (.slice A' al c') acc wr := HO3.out.kept fun g h1 h2 => HBX.out.block g h2
              have hBy : But W2.heap.size b W2 wr := HB3.out.trans (But.of (HBX.out.mono (by omega)))
              have hsy : w3.heap.size ≤ wr.heap.size := HBX.out.size
              have HRY := (show Hid (_) from hRy)
              have HOY : Hid (PrgO (b + 1) (.slice A' al c') acc wr) := hOy
              have HBY := (show Hid (_) from hBy)
              have HAD : Hid (∀ A9 c9 n9 w9, PrgO (b + 1) (.slice A9 n9 c9) (addN (prevN ws q) acc (noteTx ws[q])) w9 → Rd w9 b (some ⟨ba, oa, none⟩) ac ws (q + 1) false → But W2.heap.size b W2 w9 → PAt b (some ⟨ba, oa, none⟩) ac ws W2 (q + 1) false (addN (prevN ws q) acc (noteTx ws[q])) (.slice A9 n9 c9) w9 ∧ n9 = (addN (prevN ws q) acc (noteTx ws[q])).length) := fun A9 c9 n9 w9 h1 h2 h3 => ⟨p_note HV.out hqlt H35.out (by have h4 : (wbS ws[q]).size ≤ 60000 := by { rw [HX.out]; exact hx6 }; rw [wbS_len] at h4; exact h4) h1 h2 h3, h1.cell.1⟩
              clear hRy hOy hBy HR3 HO3 HB3 HW3 HNL HEL HWT
              cases hpv : prevN ws q with
              | false =>
                rw [hpv] at HAD
                generalize hTX : wbS (noteTx ws[q]) = TX at hz1
                have HN9 : Hid (addN false acc (noteTx ws[q]) = acc ++ [[⟨9, TX, 0⟩]]) := by
                  show addN false acc (noteTx ws[q]) = _
                  rw [← hTX]; rfl
                rw [HN9.out] at HAD
                obtain ⟨n1, n2, n3⟩ := note_two HOY.out (by omega) ⟨9, TX, 0⟩
                have N1 : Hid (PrgO (b + 1) (.slice A' al c') acc ((wr.alloc (.cells #[.int .i64 9, .string TX, .int .i64 0] 39)).alloc (.cells #[.slice (some ⟨wr.heap.size, 0, none⟩) 1 1] 40))) := n1
                have N2 : Hid (TdsO (b + 1) (.slice (some ⟨wr.heap.size, 0, none⟩) 1 1) [⟨9, TX, 0⟩] ((wr.alloc (.cells #[.int .i64 9, .string TX, .int .i64 0] 39)).alloc (.cells #[.slice (some ⟨wr.heap.size, 0, none⟩) 1 1] 40))) := n2
                have N3 : Hid (((wr.alloc (.cells #[.int .i64 9, .string TX, .int .i64 0] 39)).alloc (.cells #[.slice (some ⟨wr.heap.size, 0, none⟩) 1 1] 40)).cell? ⟨wr.heap.size + 1, 0, none⟩ = some (.slice (some ⟨wr.heap.size, 0, none⟩) 1 1)) := n3
                clear n1 n2 n3 hTX
                by_cases hq0 : q = 0
                · have hq1 : ¬ (1 : Int) < (q : Int) + 1 := by omega
                  have hq2 : ¬ (0 : Int) < (q : Int) := by omega
                  clear hq0
                  go_wp2_with (at_builtin; refine app_prg rfl _ _ rfl (b + 1) _ acc rfl N1.out (wr.heap.size + 1) wr.heap.size 1 1 [⟨9, TX, 0⟩] rfl rfl N3.out N2.out (al + 1) (by rw [HAL.out]) (by omega) (by simp only [World.size_alloc]; omega) ?_)
                  intro A9 c9 w9 hO9 hg9
                  have hb9 : Below (b + 1) wr w9 := (((Below.refl _ _).alloc (by omega) _).alloc (by simp only [World.size_alloc]; omega) _).grown hg9 (by simp only [World.size_alloc]; omega) (fun k' hk => HOY.out.own_le hk)
                  obtain ⟨hP9, hn9⟩ := HAD.out A9 c9 _ w9 hO9 (HRY.out.keepB hb9 (by omega)) (HBY.out.trans (But.of (hb9.mono (by rw [HS2.out]; exact Nat.le_refl _))))
                  have HP9 := (show Hid (_) from hP9)
                  clear hO9 hg9 hb9 hP9
                  go_wp2
                  go_roundw
                  case rel => exact ⟨q + 1, false, _, A9, c9, by rw [← hn9], by rw [← hn9]; exact HP9.out⟩
                  case measure => rw [HP9.out.rd.at_eq, HP9.out.rd.nb_eq, HV.out.rd.at_eq, HV.out.rd.nb_eq]; simp; omega
                · obtain ⟨j0, hj0⟩ : ∃ j0, q = j0 + 1 := ⟨q - 1, by omega⟩
                  have hjl0 : j0 < ws.length := by omega
                  have hq1 : (1 : Int) < (q : Int) + 1 := by omega
                  have hq2 : (0 : Int) < (q : Int) := by omega
                  have hix : (q : Int) + 1 - 2 = (j0 : Int) := by omega
                  have hj0i : (j0 : Int) < (ws.length : Int) := by omega
                  obtain ⟨ba', oa', ea, _, dz⟩ := HRY.out.wd j0 (by rw [List.length_map]; exact hjl0)
                  simp only [Option.some.injEq, Addr.mk.injEq, and_true] at ea
                  obtain ⟨rfl, rfl⟩ := ea
                  rw [List.getElem_map] at dz
                  have hne0 : ws[j0] ≠ [] := by
                    obtain ⟨x, r, e, _⟩ := HTK.out _ (List.getElem_mem hjl0)
                    rw [e]; simp
                  generalize hZ : wbS ws[j0] = Z at dz
                  obtain ⟨hz0, hzz⟩ := wb_hd hZ hne0
                  have hz0i : (0 : Int) < (Z.size : Int) := by omega
                  have hpz : (ws[j0].headD 0 == 35) = false := by rw [← prev_next hjl0, ← hj0]; exact hpv
                  have hz35 : ¬ Z[0] = 35 := by
                    rw [hzz hz0]; intro e
                    rw [e] at hpz; cases hpz
                  have hz35b : ¬ Z[0].toNat = 35 := fun e => hz35 (UInt8.toNat_inj.1 e)
                  have hz35c : ¬ (Z[0].toNat : Int) = 35 := by omega
                  clear hzz hpz hne0 hZ
                  go_wp2_with (at_builtin; refine app_prg rfl _ _ rfl (b + 1) _ acc rfl N1.out (wr.heap.size + 1) wr.heap.size 1 1 [⟨9, TX, 0⟩] rfl rfl N3.out N2.out (al + 1) (by rw [HAL.out]) (by omega) (by simp only [World.size_alloc]; omega) ?_)
                  intro A9 c9 w9 hO9 hg9
                  have hb9 : Below (b + 1) wr w9 := (((Below.refl _ _).alloc (by omega) _).alloc (by simp only [World.size_alloc]; omega) _).grown hg9 (by simp only [World.size_alloc]; omega) (fun k' hk => HOY.out.own_le hk)
                  obtain ⟨hP9, hn9⟩ := HAD.out A9 c9 _ w9 hO9 (HRY.out.keepB hb9 (by omega)) (HBY.out.trans (But.of (hb9.mono (by rw [HS2.out]; exact Nat.le_refl _))))
                  have HP9 := (show Hid (_) from hP9)
                  clear hO9 hg9 hb9 hP9
                  go_wp2
                  go_roundw
                  case rel => exact ⟨q + 1, false, _, A9, c9, by rw [← hn9], by rw [← hn9]; exact HP9.out⟩
                  case measure => rw [HP9.out.rd.at_eq, HP9.out.rd.nb_eq, HV.out.rd.at_eq, HV.out.rd.nb_eq]; simp; omega
              | true =>
                rw [hpv] at HAD
                have hq0 : q ≠ 0 := fun e => by rw [e] at hpv; cases hpv
                obtain ⟨j0, hj0⟩ : ∃ j0, q = j0 + 1 := ⟨q - 1, by omega⟩
                have hjl0 : j0 < ws.length := by omega
                have hq1 : (1 : Int) < (q : Int) + 1 := by omega
                have hq2 : (0 : Int) < (q : Int) := by omega
                have hix : (q : Int) + 1 - 2 = (j0 : Int) := by omega
                have hj0i : (j0 : Int) < (ws.length : Int) := by omega
                obtain ⟨ba', oa', ea, _, dz⟩ := HRY.out.wd j0 (by rw [List.length_map]; exact hjl0)
                simp only [Option.some.injEq, Addr.mk.injEq, and_true] at ea
                obtain ⟨rfl, rfl⟩ := ea
                rw [List.getElem_map] at dz
                have hne0 : ws[j0] ≠ [] := by
                  obtain ⟨x, r, e, _⟩ := HTK.out _ (List.getElem_mem hjl0)
                  rw [e]; simp
                generalize hZ : wbS ws[j0] = Z at dz
                obtain ⟨hz0, hzz⟩ := wb_hd hZ hne0
                have hz0i : (0 : Int) < (Z.size : Int) := by omega
                have hpz : (ws[j0].headD 0 == 35) = true := by rw [← prev_next hjl0, ← hj0]; exact hpv
                have hz35 : Z[0] = 35 := by
                  rw [hzz hz0]; simpa using hpz
                clear hzz hpz hne0 hZ
                obtain ⟨init, x, eac, hxs⟩ := HV.out.last rfl hpv
                subst eac
                obtain ⟨go, g, cx, eA, hgo, hrow, dk, hT⟩ := HOY.out.cell.2.2.2 init.length (by simp)
                subst eA
                rw [List.getElem_append_right (Nat.le_refl _)] at dk hT
                simp only [Nat.sub_self, List.getElem_cons_zero, List.length_singleton] at dk hT
                obtain ⟨g', o', eg, hg', _, t2, _⟩ := hT.tds 0 (by simp)
                simp only [Option.some.injEq, Addr.mk.injEq, and_true] at eg
                obtain ⟨rfl, rfl⟩ := eg
                simp only [List.getElem_cons_zero, Nat.zero_mul, Nat.zero_add] at t2
                have hfk : wr.frozen? ⟨go, init.length, none⟩ = false := hrow.frozen
                have hgl : go < wr.heap.size := hrow.lt
                have hfa : ∀ o : Obj, (wr.alloc o).frozen? ⟨go, init.length, none⟩ = false := fun o => (hrow.kept (((Below.refl wr.heap.size wr).alloc (Nat.le_refl _) o).block go hgl)).frozen
                have hca : ∀ o : Obj, (wr.alloc o).cell? ⟨go, init.length, none⟩ = some (.slice (some ⟨g, 0, none⟩) 1 cx) := fun o => (((Below.refl wr.heap.size wr).alloc (Nat.le_refl _) o).cell (p := ⟨go, init.length, none⟩) hgl).trans dk
                have hal : al = init.length + 1 := by rw [← HAL.out]; simp
                have hk : (al : Int) - 1 = (init.length : Int) := by omega
                have hki : (init.length : Int) < (al : Int) := by omega
                have HEND : Hid (∀ R, R = wbS (addW (btL x.tx) (noteTx ws[q])) → PAt b (some ⟨ba, oa, none⟩) ac ws W2 (q + 1) false (init ++ [[⟨9, R, 0⟩]]) (.slice (some ⟨go, 0, none⟩) al c') ((wr.setCell ⟨go, init.length, none⟩ (.slice (some ⟨wr.heap.size, 0, none⟩) 1 1)).alloc (.cells #[.int .i64 9, .string R, .int .i64 0] 39)) ∧ (init ++ [[(⟨9, R, 0⟩ : Td)]]).length = al) := fun R hR => by
                  have h1 : addN true (init ++ [[x]]) (noteTx ws[q]) = init ++ [[⟨9, R, 0⟩]] := by
                    show (init ++ [[x]]).dropLast ++ [[ntT (addW (lastTx (init ++ [[x]])) (noteTx ws[q]))]] = _
                    have e : lastTx (init ++ [[x]]) = btL x.tx := by simp [lastTx]
                    rw [e, hR]
                    simp [ntT]
                  have h2 := HAD.out (some ⟨go, 0, none⟩) c' al ((wr.alloc (.cells #[.int .i64 9, .string R, .int .i64 0] 39)).setCell ⟨go, init.length, none⟩ (.slice (some ⟨wr.heap.size, 0, none⟩) 1 1))
                  rw [h1] at h2
                  have hb9 : Below (b + 1) wr ((wr.alloc (.cells #[.int .i64 9, .string R, .int .i64 0] 39)).setCell ⟨go, init.length, none⟩ (.slice (some ⟨wr.heap.size, 0, none⟩) 1 1)) := ((Below.refl _ _).alloc (by omega) _).setCell (p := ⟨go, init.length, none⟩) hgo _
                  have h3 : PrgO (b + 1) (.slice (some ⟨go, 0, none⟩) al c') (init ++ [[x]]) (wr.alloc (.cells #[.int .i64 9, .string R, .int .i64 0] 39)) := HOY.out.kept fun k _ h4 => ((Below.refl wr.heap.size wr).alloc (Nat.le_refl _) _).block k h4
                  obtain ⟨h5, h6⟩ := h2 (h3.last ((TdsO.one wr ⟨9, R, 0⟩).down (by omega))) (HRY.out.keepB hb9 (by omega)) (HBY.out.trans (But.of (hb9.mono (by rw [HS2.out]; exact Nat.le_refl _))))
                  rw [World.setCell_alloc_past _ _ _ _ hgl] at h5
                  exact ⟨h5, h6.symm⟩
                have hT0 : (wbS (noteTx ws[q])).size = (noteTx ws[q]).length := wbS_len _
                have hx0z : (btL x.tx).length = x.tx.size := btL_len _
                have hxx : wbS (btL x.tx) = x.tx := rfl
                have HY : Hid (noteTx ws[q] ≠ [] ∧ btL x.tx ≠ [] → x.tx ++ (⟨#[32]⟩ : ByteArray) ++ wbS (noteTx ws[q]) = wbS (addW (btL x.tx) (noteTx ws[q]))) := fun h => add_yes h
                have HN : Hid (¬ (noteTx ws[q] ≠ [] ∧ btL x.tx ≠ []) → x.tx ++ wbS (noteTx ws[q]) = wbS (addW (btL x.tx) (noteTx ws[q]))) := fun h => add_no h
                clear HOY HAD hT hrow hxx
                have hxs9 : x.tx.size ≤ 4000000000 := by omega
                by_cases hx9 : btL x.tx = []
                · have hxi : ¬ (0 : Int) < (x.tx.size : Int) := by rw [← hx0z, hx9]; simp
                  have HE := (show Hid (_ = _) from HN.out fun h => h.2 hx9)
                  clear HY HN hx9 hT0 hx0z
                  generalize wbS (addW (btL x.tx) (noteTx ws[q])) = RR at HE HEND
                  generalize wbS (noteTx ws[q]) = TX at *
                  have HP9 := (show Hid (_) from HEND.out _ HE.out)
                  clear HEND
                  go_wp2
                  go_roundw
                  case rel => exact ⟨q + 1, false, _, some ⟨go, 0, none⟩, c', by rw [HP9.out.2, hal], by rw [HP9.out.2]; exact HP9.out.1⟩
                  case measure => rw [HP9.out.1.rd.at_eq, HP9.out.1.rd.nb_eq, HV.out.rd.at_eq, HV.out.rd.nb_eq]; simp; omega
                · have hxi : (0 : Int) < (x.tx.size : Int) := by
                    have := List.length_pos_iff.2 hx9
                    omega
                  by_cases ht9 : noteTx ws[q] = []
                  · have hti := wb_zero ht9
                    have HE := (show Hid (_ = _) from HN.out fun h => h.1 ht9)
                    clear HY HN hx9 hT0 hx0z ht9
                    generalize wbS (addW (btL x.tx) (noteTx ws[q])) = RR at HE HEND
                    generalize wbS (noteTx ws[q]) = TX at *
                    have HP9 := (show Hid (_) from HEND.out _ HE.out)
                    clear HEND
                    go_wp2
                    go_roundw
                    case rel => exact ⟨q + 1, false, _, some ⟨go, 0, none⟩, c', by rw [HP9.out.2, hal], by rw [HP9.out.2]; exact HP9.out.1⟩
                    case measure => rw [HP9.out.1.rd.at_eq, HP9.out.1.rd.nb_eq, HV.out.rd.at_eq, HV.out.rd.nb_eq]; simp; omega
                  · have hti := wb_pos ht9
                    have HE := (show Hid (_ = _) from HY.out ⟨ht9, hx9⟩)
                    clear HY HN hx9 hT0 hx0z ht9
                    generalize wbS (addW (btL x.tx) (noteTx ws[q])) = RR at HE HEND
                    generalize wbS (noteTx ws[q]) = TX at *
                    have HP9 := (show Hid (_) from HEND.out _ HE.out)
                    clear HEND
                    go_wp2
                    go_roundw
                    case rel => exact ⟨q + 1, false, _, some ⟨go, 0, none⟩, c', by rw [HP9.out.2, hal], by rw [HP9.out.2]; exact HP9.out.1⟩
                    case measure => rw [HP9.out.1.rd.at_eq, HP9.out.1.rd.nb_eq, HV.out.rd.at_eq, HV.out.rd.nb_eq]; simp; omega
        · have hx35 : ¬ X[0] = 35 := fun e => h35 ((hx1 hx0).symm.trans e)
          have hx35b : ¬ X[0].toNat = 35 := fun e => hx35 (UInt8.toNat_inj.1 e)
          have hx35c : ¬ (X[0].toNat : Int) = 35 := by omega
          have H35 : Hid (¬ ws[q].headD 0 = 35) := h35
          have HDR : Hid (ws.drop q = ws[q] :: ws.drop (q + 1)) := List.drop_eq_getElem_cons hqlt
          have HIS : Hid (Calls Tryz.prog 32 #[.pointer (some ⟨b, 0, none⟩), .string ⟨#[108, 101, 116]⟩] (wr.alloc (.cells #[.int .i64 8, .string ⟨#[]⟩, .int .i64 0] 39)) fun e w' => e = .returned (.bool (!false && (ws[q]? == some letW))) ∧ Rd w' b (some ⟨ba, oa, none⟩) ac ws q false ∧ But wr.heap.size b wr w' ∧ TdsO wr.heap.size (.slice (some ⟨wr.heap.size, 0, none⟩) 1 1) [doT] w' ∧ wr.heap.size < w'.heap.size) := by
            have h1 : Below wr.heap.size wr (wr.alloc (.cells #[.int .i64 8, .string ⟨#[]⟩, .int .i64 0] 39)) := (Below.refl _ _).alloc (Nat.le_refl _) _
            refine (ris_any (HV.out.rd.keep h1) letW).mono ?_
            rintro e w' ⟨rfl, q', rfl⟩
            have h2 : Below (wr.alloc (.cells #[.int .i64 8, .string ⟨#[]⟩, .int .i64 0] 39)).heap.size (wr.alloc (.cells #[.int .i64 8, .string ⟨#[]⟩, .int .i64 0] 39)) ((wr.alloc (.cells #[.int .i64 8, .string ⟨#[]⟩, .int .i64 0] 39)).drewN q') := belDraw (Below.refl _ _) q'
            refine ⟨rfl, (HV.out.rd.keep h1).keep h2, But.of (h1.trans (h2.mono (by rw [World.size_alloc]; omega))), (TdsO.one wr doT).kept fun g _ h3 => h2.block g h3, ?_⟩
            show wr.heap.size < (wr.alloc _).heap.size
            rw [World.size_alloc]; omega
          clear hX hx1 h35 hne htq hwq
          cases hlt : (!false && (ws[q]? == some letW)) with
          | false =>
            rw [hlt] at HIS
            have hnl : ws[q] ≠ letW := fun e => by
              rw [List.getElem?_eq_getElem hqlt, e] at hlt
              exact absurd hlt (by decide)
            have HPS : Hid (∀ {w3 w4 w7 : World} {r : Rs} {ns : List Td} {v4 v7 : Value}, Got b (some ⟨ba, oa, none⟩) ac ws (.level 0) q w3 r ns v4 w4 → Rd w7 b (some ⟨ba, oa, none⟩) ac ws (wantAt ws (ws.length - r.rest.length) r.isBad [59]) (wantBad ws (ws.length - r.rest.length) r.isBad [59]) → PrgO (b + 1) v7 (acc ++ [doT :: ns]) w7 → But W2.heap.size b W2 w7 → _) := fun h1 h2 h3 h4 => p_stmt HV.out (Nat.le_refl _) hqle (by decide) h1
              (fun u h => by rw [HDR.out] at h ⊢; exact .doB H35.out hnl h) (fun m ms u h h5 => by rw [HDR.out] at h ⊢; exact .doX H35.out hnl h h5) (fun m ms u r h h5 => by rw [HDR.out] at h ⊢; exact .doO H35.out hnl h h5) h2 h3 h4
            clear hlt hnl
            go_wp2_with fail
            refine HIS.out.mono ?_
            rintro e w2 ⟨rfl, hR2, hB2, hT2, hs2⟩
            have HLV : Hid (Calls Tryz.prog 35 #[.pointer (some ⟨b, 0, none⟩), .int .i64 0] w2 fun e w' => ∃ r ns A' c', e = .returned (.slice A' ns.length c') ∧ Got b (some ⟨ba, oa, none⟩) ac ws (.level 0) q w2 r ns (.slice A' ns.length c') w') := level_any hl HTK.out hqle w2 hR2
            have HB2 : Hid (But wr.heap.size b wr w2) := hB2
            have HT2 : Hid (TdsO wr.heap.size (.slice (some ⟨wr.heap.size, 0, none⟩) 1 1) [doT] w2) := hT2
            clear hR2 hB2 hT2 HIS
            go_wp2_with fail
            refine HLV.out.mono ?_
            rintro e w4 ⟨r4, ns4, A4, c4, rfl, hG4⟩
            have HG4 : Hid (Got b (some ⟨ba, oa, none⟩) ac ws (.level 0) q w2 r4 ns4 (.slice A4 ns4.length c4) w4) := hG4
            have hb4 : b < w4.heap.size := hG4.rd.row.lt
            have HWN : Hid (Calls Tryz.prog 34 #[.pointer (some ⟨b, 0, none⟩), .string ⟨#[59]⟩] w4 fun e w' => (∃ v, e = .returned v) ∧ Rd w' b (some ⟨ba, oa, none⟩) ac ws (wantAt ws (ws.length - r4.rest.length) r4.isBad [59]) (wantBad ws (ws.length - r4.rest.length) r4.isBad [59]) ∧ But w4.heap.size b w4 w') := rwant_any hG4.rd hl (by omega) [59]
            have hn4 := hG4.n
            rw [drop_len (by omega)] at hn4
            have hs4 := hG4.bt.size
            have HB4 : Hid (But wr.heap.size b wr w4) := HB2.out.trans (hG4.bt.mono (by omega))
            have HT4 : Hid (TdsO wr.heap.size (.slice (some ⟨wr.heap.size, 0, none⟩) 1 1) [doT] w4) := HT2.out.but hG4.bt hbs
            have HO4 : Hid (TdsO w2.heap.size (.slice A4 ns4.length c4) ns4 w4) := hG4.o
            have HN4 : Hid (A4 = none → ns4.length = 0 ∧ c4 = 0) := hG4.o.none.2
            generalize hnl : ns4.length = n4 at hn4 HN4
            have HNL : Hid (ns4.length = n4) := hnl
            clear hG4 hnl HLV
            go_wp2_with fail
            refine HWN.out.mono ?_
            rintro e w5 ⟨⟨vv, rfl⟩, hR5, hb5⟩
            have hs5 := hb5.size
            have HT5 : Hid (TdsO wr.heap.size (.slice (some ⟨wr.heap.size, 0, none⟩) 1 1) [doT] w5) := HT4.out.but hb5 hbs
            have HD5 : Hid (Tds w5 A4 ns4) := (HO4.out.but hb5 (by omega)).tds
            have HB5 : Hid (But wr.heap.size b wr w5) := HB4.out.trans (hb5.mono (by omega))
            have HR5 : Hid (Rd w5 b (some ⟨ba, oa, none⟩) ac ws (wantAt ws (ws.length - r4.rest.length) r4.isBad [59]) (wantBad ws (ws.length - r4.rest.length) r4.isBad [59])) := hR5
            clear hb5 hR5 HWN HT4 HO4 HT2
            go_wp2_with (at_builtin; refine app_tds rfl _ _ rfl wr.heap.size _ [doT] rfl HT5.out A4 n4 ns4 HNL.out c4 rfl HD5.out HN4.out (1 + n4) rfl (by omega) (by omega) ?_)
            intro A6 c6 w6 hown6 hgrow6
            have hb56 : Below wr.heap.size w5 w6 := (Below.refl _ _).grown hgrow6 (by omega) (fun k' hk => (World.ownsRow.lt HT5.out k' hk).1)
            have hs6 := hb56.size
            obtain ⟨g6, eg⟩ := tdsO_some hown6
            subst eg
            have HB6 : Hid (But wr.heap.size b wr w6) := HB5.out.trans (But.of hb56)
            have hO6 : PrgO (b + 1) (.slice A' al c') acc w6 := by
              have h8 := HV.out.o.but HB6.out (by omega)
              rw [HAL.out] at h8
              exact h8
            have HO6 : Hid (PrgO (b + 1) (.slice A' al c') acc w6) := hO6
            obtain ⟨n1, n2, n3⟩ := row_two hO6 (hown6.down (show b + 1 ≤ wr.heap.size by omega))
            have N1 := (show Hid (PrgO (b + 1) (.slice A' al c') acc (w6.alloc (.cells #[.slice (some ⟨g6, 0, none⟩) (1 + n4) c6] 40))) from n1)
            have N2 := (show Hid (TdsO (b + 1) (.slice (some ⟨g6, 0, none⟩) (1 + n4) c6) (doT :: ns4) (w6.alloc (.cells #[.slice (some ⟨g6, 0, none⟩) (1 + n4) c6] 40))) from n2)
            have N3 := (show Hid ((w6.alloc (.cells #[.slice (some ⟨g6, 0, none⟩) (1 + n4) c6] 40)).cell? ⟨w6.heap.size, 0, none⟩ = some (.slice (some ⟨g6, 0, none⟩) (1 + n4) c6)) from n3)
            have HL6 : Hid ((doT :: ns4).length = 1 + n4) := by
              show _ = _
              rw [List.length_cons, HNL.out]; omega
            have HB56 : Hid (Below wr.heap.size w5 w6) := hb56
            clear hown6 hgrow6 hO6 n1 n2 n3 hb56
            go_wp2_with (at_builtin; refine app_prg rfl _ _ rfl (b + 1) _ acc rfl N1.out w6.heap.size g6 (1 + n4) c6 (doT :: ns4) HL6.out rfl N3.out N2.out (al + 1) (by rw [HAL.out]) (by omega) (by simp only [World.size_alloc]; omega) ?_)
            intro A9 c9 w9 hO9 hg9
            have hb9 : Below (b + 1) w6 w9 := ((Below.refl _ _).alloc (by omega) _).grown hg9 (by simp only [World.size_alloc]; omega) (fun k' hk => HO6.out.own_le hk)
            have hb59 : Below (b + 1) w5 w9 := (HB56.out.mono (by omega)).trans hb9
            have hbW9 : But W2.heap.size b W2 w9 := (HV.out.bt.trans (HB6.out.mono hwb)).trans (But.of (hb9.mono (by rw [HS2.out]; exact Nat.le_refl _)))
            obtain ⟨hP9, hm9⟩ := HPS.out HG4.out (HR5.out.keepB hb59 (by omega)) hO9 hbW9
            have hl9 := hO9.cell.1
            have HP9 := (show Hid (_) from hP9)
            have HM9 := (show Hid (_) from hm9)
            have HL9 := (show Hid (_ = _) from hl9)
            clear hO9 hg9 hb9 hb59 hbW9 hP9 hm9 hl9
            go_wp2
            go_roundw
            case rel => exact ⟨_, _, _, A9, c9, by rw [← HL9.out], by rw [← HL9.out]; exact HP9.out⟩
            case measure => rw [HP9.out.rd.at_eq, HP9.out.rd.nb_eq, HV.out.rd.at_eq, HV.out.rd.nb_eq]; exact HM9.out
          | true =>
            rw [hlt] at HIS
            have hlw : ws[q] = letW := by
              rw [List.getElem?_eq_getElem hqlt] at hlt
              simpa using hlt
            have HDL : Hid (ws.drop q = letW :: ws.drop (q + 1)) := by
              show _ = _
              rw [HDR.out, hlw]
            clear hlt hlw
            go_wp2_with fail
            refine HIS.out.mono ?_
            rintro e w2 ⟨rfl, hR2, hB2, hT2, hs2⟩
            have e1 := hR2.c1
            have e2 := hR2.c2
            have g1 : w2.frozen? ⟨b, 1, none⟩ = false := hR2.row.frozen
            have g2 : w2.frozen? ⟨b, 2, none⟩ = false := hR2.row.frozen
            have hb2 : b < w2.heap.size := hR2.row.lt
            have hbb : ba ≠ b := by
              have := hR2.lt ba oa rfl
              omega
            have hq1c : ((q + 1 : Nat) : Int) = (q : Int) + 1 := by omega
            have hRA : Rd (w2.setCell ⟨b, 1, none⟩ (.int .i64 ((q : Int) + 1))) b (some ⟨ba, oa, none⟩) ac ws (q + 1) false := by
              have h1 := hR2.setAt (q + 1)
              rw [hq1c] at h1
              exact h1
            have hWA : But W2.heap.size b W2 (w2.setCell ⟨b, 1, none⟩ (.int .i64 ((q : Int) + 1))) := (HV.out.bt.trans (hB2.mono hwb)).setCell (p := ⟨b, 1, none⟩) (.inl rfl) _
            have HWB : Hid (But W2.heap.size b W2 ((w2.setCell ⟨b, 1, none⟩ (.int .i64 ((q : Int) + 1))).setCell ⟨b, 2, none⟩ (.bool true))) := hWA.setCell (p := ⟨b, 2, none⟩) (.inl rfl) _
            have HRA := (show Hid (Rd (w2.setCell ⟨b, 1, none⟩ (.int .i64 ((q : Int) + 1))) b (some ⟨ba, oa, none⟩) ac ws (q + 1) false) from hRA)
            have HB2 : Hid (But wr.heap.size b wr w2) := hB2
            have HR2 := (show Hid (Rd w2 b (some ⟨ba, oa, none⟩) ac ws q false) from hR2)
            clear hB2 hT2 HIS hRA hWA hR2
            by_cases hq1 : q + 1 < ws.length
            · have hq1i : (q : Int) + 1 < (ws.length : Int) := by omega
              obtain ⟨ba', oa', ea, hba', dn⟩ := HR2.out.wd (q + 1) (by rw [List.length_map]; exact hq1)
              simp only [Option.some.injEq, Addr.mk.injEq, and_true] at ea
              obtain ⟨rfl, rfl⟩ := ea
              rw [List.getElem_map] at dn
              have HDN : Hid (ws.drop (q + 1) = ws[q + 1] :: ws.drop (q + 2)) := List.drop_eq_getElem_cons hq1
              have HIN : Hid (∀ w', Calls Tryz.prog 33 #[.string (wbS ws[q + 1])] w' fun e w'' => e = .returned (.bool (nmW ws[q + 1])) ∧ w' = w'') := fun w' => rIsName_any _ w'
              cases hnm : nmW ws[q + 1] with
              | false =>
                rw [hnm] at HIN
                have HPG : Hid (PG false [] ws (.bad (ws.drop (q + 1)))) := HV.out.ok rfl _ (by rw [HDL.out]; exact .letN (fun w h => by rw [HDN.out] at h; cases h; exact hnm))
                clear hnm
                generalize wbS ws[q + 1] = X1 at dn HIN
                go_wp2_with fail
                refine (HIN.out _).mono ?_
                rintro e w3 ⟨rfl, rfl⟩
                have hPR := HBAD.out (q + 1) (by omega) HPG.out
                have HPR := (show Hid (_) from hPR)
                clear hPR
                obtain ⟨bp, op, rfl, hcp⟩ := HINT.out _ HWB.out (q + 1) hq1
                generalize (((pl[q + 1]?).getD s.size : Nat) : Int) = K at HPR hcp
                go_wp2_with fail
                go_quiet (fail)
                go_wp2
                refine bodyPost_ret (v := .tuple #[.slice none 0 0, .int .i64 K, .int .i64 5]) (by simp [results, Tryz.results11, go_sem]) rfl ?_
                exact parRes_nil HPR.out (belDraw (HBW.out _ HWB.out) _)
              | true =>
                rw [hnm] at HIN
                have hnm8 : (wbS ws[q + 1]).size ≤ 8 := nm_len hnm
                generalize hX1 : wbS ws[q + 1] = X1 at dn HIN hnm8
                have HLT : Hid (letT ws[q + 1] = ⟨7, X1, 0⟩) := by
                  show _ = _
                  rw [← hX1]; rfl
                have HNM : Hid (nmW ws[q + 1] = true) := hnm
                clear hnm hX1
                go_wp2_with fail
                refine (HIN.out _).mono ?_
                rintro e w3 ⟨rfl, rfl⟩
                go_wp2_with fail
                have HWE : Hid (Calls Tryz.prog 34 #[.pointer (some ⟨b, 0, none⟩), .string ⟨#[61]⟩] (((w2.setCell ⟨b, 1, none⟩ (.int .i64 ((q : Int) + 1))).setCell ⟨b, 1, none⟩ (.int .i64 ((q : Int) + 1 + 1))).alloc (.cells #[.int .i64 7, .string X1, .int .i64 0] 39)) fun e w' => (∃ v, e = .returned v) ∧ Rd w' b (some ⟨ba, oa, none⟩) ac ws (wantAt ws (q + 2) false [61]) (wantBad ws (q + 2) false [61]) ∧ But wr.heap.size b wr w' ∧ TdsO wr.heap.size (.slice (some ⟨w2.heap.size, 0, none⟩) 1 1) [⟨7, X1, 0⟩] w' ∧ wr.heap.size < w'.heap.size) := by
                  have h1 := HRA.out.setAt (q + 2)
                  rw [show ((q + 2 : Nat) : Int) = (q : Int) + 1 + 1 by omega] at h1
                  have h4' : But wr.heap.size b wr ((w2.setCell ⟨b, 1, none⟩ (.int .i64 ((q : Int) + 1))).setCell ⟨b, 1, none⟩ (.int .i64 ((q : Int) + 1 + 1))) := (HB2.out.setCell (p := ⟨b, 1, none⟩) (.inl rfl) _).setCell (p := ⟨b, 1, none⟩) (.inl rfl) _
                  have hsz : ((w2.setCell ⟨b, 1, none⟩ (.int .i64 ((q : Int) + 1))).setCell ⟨b, 1, none⟩ (.int .i64 ((q : Int) + 1 + 1))).heap.size = w2.heap.size := by rw [World.size_setCell, World.size_setCell]
                  generalize (w2.setCell ⟨b, 1, none⟩ (.int .i64 ((q : Int) + 1))).setCell ⟨b, 1, none⟩ (.int .i64 ((q : Int) + 1 + 1)) = S at h1 h4' hsz ⊢
                  have h3 := h1.keep ((Below.refl _ _).alloc (Nat.le_refl _) (.cells #[.int .i64 7, .string X1, .int .i64 0] 39))
                  have h4 : But wr.heap.size b wr (S.alloc (.cells #[.int .i64 7, .string X1, .int .i64 0] 39)) := h4'.alloc (by omega) _
                  have h5 := TdsO.one S ⟨7, X1, 0⟩
                  rw [hsz] at h5
                  refine (rwant_any h3 hl (by omega) [61]).mono ?_
                  rintro e w' ⟨hv, hR, hB⟩
                  have hs9 := hB.size
                  rw [World.size_alloc] at hs9
                  exact ⟨hv, hR, h4.trans (hB.mono (by rw [World.size_alloc]; omega)), (h5.but hB hb2).down (by omega), by omega⟩
                have HV2 := (show Hid (PAt b (some ⟨ba, oa, none⟩) ac ws W2 q false acc (.slice A' acc.length c') wr) from HV.out)
                refine HWE.out.mono ?_
                rintro e w6 ⟨⟨vv6, rfl⟩, hR6, hB6, hT6, hs6⟩
                clear e1 e2 g1 g2 hb2 hbb dn HRA HWB HB2 HR2 HIN HWE hs2
                have hs2 := hs6
                have HB2 : Hid (But wr.heap.size b wr w6) := hB6
                have HT2 : Hid (TdsO wr.heap.size (.slice (some ⟨w2.heap.size, 0, none⟩) 1 1) [⟨7, X1, 0⟩] w6) := hT6
                clear hB6 hT6 hs6
                generalize w2.heap.size = gx at HT2 ⊢
                by_cases h61 : ws[q + 2]? = some ([61] : Wd)
                · obtain ⟨a1, a2⟩ := want_yes h61
                  rw [a1, a2] at hR6
                  obtain ⟨hq3, h62⟩ := List.getElem?_eq_some_iff.1 h61
                  have HD3 : Hid (ws.drop q = letW :: ws[q + 1] :: [61] :: ws.drop (q + 3)) := by
                    show _ = _
                    rw [HDL.out, HDN.out, List.drop_eq_getElem_cons hq3, h62]
                  have HPS : Hid (∀ {w3 w4 w7 : World} {r : Rs} {ns : List Td} {v4 v7 : Value}, Got b (some ⟨ba, oa, none⟩) ac ws (.level 0) (q + 3) w3 r ns v4 w4 → Rd w7 b (some ⟨ba, oa, none⟩) ac ws (wantAt ws (ws.length - r.rest.length) r.isBad [59]) (wantBad ws (ws.length - r.rest.length) r.isBad [59]) → PrgO (b + 1) v7 (acc ++ [⟨7, X1, 0⟩ :: ns]) w7 → But W2.heap.size b W2 w7 → _) := fun h1 h2 h3 h4 => p_stmt HV.out (show q ≤ q + 3 by omega) (show q + 3 ≤ ws.length by omega) hnm8 h1
                    (fun u h => by rw [HD3.out]; exact .letB HNM.out h) (fun m ms u h h5 => by rw [HD3.out]; exact .letX HNM.out h h5) (fun m ms u r h h5 => by rw [HD3.out]; exact .letO HNM.out h (by rw [HLT.out]; exact h5)) h2 h3 h4
                  have HLV : Hid (Calls Tryz.prog 35 #[.pointer (some ⟨b, 0, none⟩), .int .i64 0] w6 fun e w' => ∃ r ns A' c', e = .returned (.slice A' ns.length c') ∧ Got b (some ⟨ba, oa, none⟩) ac ws (.level 0) (q + 3) w6 r ns (.slice A' ns.length c') w') := level_any hl HTK.out (by omega) w6 hR6
                  clear hR6 a1 a2 h61 h62 HDL HDN HD3
                  go_wp2_with fail
                  refine HLV.out.mono ?_
                  rintro e w4 ⟨r4, ns4, A4, c4, rfl, hG4⟩
                  have HG4 : Hid (Got b (some ⟨ba, oa, none⟩) ac ws (.level 0) (q + 3) w6 r4 ns4 (.slice A4 ns4.length c4) w4) := hG4
                  have hb4 : b < w4.heap.size := hG4.rd.row.lt
                  have HWN : Hid (Calls Tryz.prog 34 #[.pointer (some ⟨b, 0, none⟩), .string ⟨#[59]⟩] w4 fun e w' => (∃ v, e = .returned v) ∧ Rd w' b (some ⟨ba, oa, none⟩) ac ws (wantAt ws (ws.length - r4.rest.length) r4.isBad [59]) (wantBad ws (ws.length - r4.rest.length) r4.isBad [59]) ∧ But w4.heap.size b w4 w') := rwant_any hG4.rd hl (by omega) [59]
                  have hn4 := hG4.n
                  rw [drop_len (by omega)] at hn4
                  have hs4 := hG4.bt.size
                  have HB4 : Hid (But wr.heap.size b wr w4) := HB2.out.trans (hG4.bt.mono (by omega))
                  have HT4 : Hid (TdsO wr.heap.size (.slice (some ⟨gx, 0, none⟩) 1 1) [(⟨7, X1, 0⟩ : Td)] w4) := HT2.out.but hG4.bt hbs
                  have HO4 : Hid (TdsO w6.heap.size (.slice A4 ns4.length c4) ns4 w4) := hG4.o
                  have HN4 : Hid (A4 = none → ns4.length = 0 ∧ c4 = 0) := hG4.o.none.2
                  generalize hnl : ns4.length = n4 at hn4 HN4
                  have HNL : Hid (ns4.length = n4) := hnl
                  clear hG4 hnl HLV
                  go_wp2_with fail
                  refine HWN.out.mono ?_
                  rintro e w5 ⟨⟨vv, rfl⟩, hR5, hb5⟩
                  have hs5 := hb5.size
                  have HT5 : Hid (TdsO wr.heap.size (.slice (some ⟨gx, 0, none⟩) 1 1) [(⟨7, X1, 0⟩ : Td)] w5) := HT4.out.but hb5 hbs
                  have HD5 : Hid (Tds w5 A4 ns4) := (HO4.out.but hb5 (by omega)).tds
                  have HB5 : Hid (But wr.heap.size b wr w5) := HB4.out.trans (hb5.mono (by omega))
                  have HR5 : Hid (Rd w5 b (some ⟨ba, oa, none⟩) ac ws (wantAt ws (ws.length - r4.rest.length) r4.isBad [59]) (wantBad ws (ws.length - r4.rest.length) r4.isBad [59])) := hR5
                  clear hb5 hR5 HWN HT4 HO4 HT2
                  go_wp2_with (at_builtin; refine app_tds rfl _ _ rfl wr.heap.size _ [(⟨7, X1, 0⟩ : Td)] rfl HT5.out A4 n4 ns4 HNL.out c4 rfl HD5.out HN4.out (1 + n4) rfl (by omega) (by omega) ?_)
                  intro A6 c6 w6 hown6 hgrow6
                  have hb56 : Below wr.heap.size w5 w6 := (Below.refl _ _).grown hgrow6 (by omega) (fun k' hk => (World.ownsRow.lt HT5.out k' hk).1)
                  have hs6 := hb56.size
                  obtain ⟨g6, eg⟩ := tdsO_some hown6
                  subst eg
                  have HB6 : Hid (But wr.heap.size b wr w6) := HB5.out.trans (But.of hb56)
                  have hO6 : PrgO (b + 1) (.slice A' al c') acc w6 := by
                    have h8 := HV.out.o.but HB6.out (by omega)
                    rw [HAL.out] at h8
                    exact h8
                  have HO6 : Hid (PrgO (b + 1) (.slice A' al c') acc w6) := hO6
                  obtain ⟨n1, n2, n3⟩ := row_two hO6 (hown6.down (show b + 1 ≤ wr.heap.size by omega))
                  have N1 := (show Hid (PrgO (b + 1) (.slice A' al c') acc (w6.alloc (.cells #[.slice (some ⟨g6, 0, none⟩) (1 + n4) c6] 40))) from n1)
                  have N2 := (show Hid (TdsO (b + 1) (.slice (some ⟨g6, 0, none⟩) (1 + n4) c6) ((⟨7, X1, 0⟩ : Td) :: ns4) (w6.alloc (.cells #[.slice (some ⟨g6, 0, none⟩) (1 + n4) c6] 40))) from n2)
                  have N3 := (show Hid ((w6.alloc (.cells #[.slice (some ⟨g6, 0, none⟩) (1 + n4) c6] 40)).cell? ⟨w6.heap.size, 0, none⟩ = some (.slice (some ⟨g6, 0, none⟩) (1 + n4) c6)) from n3)
                  have HL6 : Hid (((⟨7, X1, 0⟩ : Td) :: ns4).length = 1 + n4) := by
                    show _ = _
                    rw [List.length_cons, HNL.out]; omega
                  have HB56 : Hid (Below wr.heap.size w5 w6) := hb56
                  clear hown6 hgrow6 hO6 n1 n2 n3 hb56
                  go_wp2_with (at_builtin; refine app_prg rfl _ _ rfl (b + 1) _ acc rfl N1.out w6.heap.size g6 (1 + n4) c6 ((⟨7, X1, 0⟩ : Td) :: ns4) HL6.out rfl N3.out N2.out (al + 1) (by rw [HAL.out]) (by omega) (by simp only [World.size_alloc]; omega) ?_)
                  intro A9 c9 w9 hO9 hg9
                  have hb9 : Below (b + 1) w6 w9 := ((Below.refl _ _).alloc (by omega) _).grown hg9 (by simp only [World.size_alloc]; omega) (fun k' hk => HO6.out.own_le hk)
                  have hb59 : Below (b + 1) w5 w9 := (HB56.out.mono (by omega)).trans hb9
                  have hbW9 : But W2.heap.size b W2 w9 := (HV.out.bt.trans (HB6.out.mono hwb)).trans (But.of (hb9.mono (by rw [HS2.out]; exact Nat.le_refl _)))
                  obtain ⟨hP9, hm9⟩ := HPS.out HG4.out (HR5.out.keepB hb59 (by omega)) hO9 hbW9
                  have hl9 := hO9.cell.1
                  have HP9 := (show Hid (_) from hP9)
                  have HM9 := (show Hid (_) from hm9)
                  have HL9 := (show Hid (_ = _) from hl9)
                  clear hO9 hg9 hb9 hb59 hbW9 hP9 hm9 hl9
                  go_wp2
                  go_roundw
                  case rel => exact ⟨_, _, _, A9, c9, by rw [← HL9.out], by rw [← HL9.out]; exact HP9.out⟩
                  case measure => rw [HP9.out.rd.at_eq, HP9.out.rd.nb_eq, HV.out.rd.at_eq, HV.out.rd.nb_eq]; exact HM9.out
                · obtain ⟨a1, a2⟩ := want_no h61
                  rw [a1, a2] at hR6
                  have HPG : Hid (PG (prevN ws q) acc (ws.drop q) (.bad (ws.drop (q + 2)))) := by
                    show PG _ _ _ _
                    rw [HDL.out, HDN.out]
                    exact .letE HNM.out (by rw [head_drop]; exact h61)
                  have HPS : Hid (∀ {w3 w4 w7 : World} {r : Rs} {ns : List Td} {v4 v7 : Value}, GoxB b (some ⟨ba, oa, none⟩) ac ws (q + 2) w3 r ns v4 w4 → Rd w7 b (some ⟨ba, oa, none⟩) ac ws (wantAt ws (ws.length - r.rest.length) r.isBad [59]) (wantBad ws (ws.length - r.rest.length) r.isBad [59]) → PrgO (b + 1) v7 (acc ++ [⟨7, X1, 0⟩ :: ns]) w7 → But W2.heap.size b W2 w7 → _) := fun h1 h2 h3 h4 => p_letE HV.out (show q < q + 2 by omega) (show q + 2 ≤ ws.length by omega) h1 HPG.out h2 h3 h4
                  have HLV : Hid (Calls Tryz.prog 35 #[.pointer (some ⟨b, 0, none⟩), .int .i64 0] w6 fun e w' => ∃ r ns A' c', e = .returned (.slice A' ns.length c') ∧ GoxB b (some ⟨ba, oa, none⟩) ac ws (q + 2) w6 r ns (.slice A' ns.length c') w') := by
                    refine (level_bad0 hR6).mono ?_
                    rintro e w' ⟨rfl, hR, hB⟩
                    refine ⟨.bad (ws.drop (q + 2)), [], none, 0, rfl, ⟨TdsO.nil _ _, ?_, ?_, hB, rfl, rfl⟩⟩
                    · show 0 + (ws.drop (q + 2)).length ≤ _
                      omega
                    · show Rd w' b _ ac ws (ws.length - (ws.drop (q + 2)).length) true
                      rw [drop_len (by omega), show ws.length - (ws.length - (q + 2)) = q + 2 by omega]
                      exact hR
                  clear hR6 a1 a2 h61 HDL HDN HPG
                  go_wp2_with fail
                  refine HLV.out.mono ?_
                  rintro e w4 ⟨r4, ns4, A4, c4, rfl, hG4⟩
                  have HG4 : Hid (GoxB b (some ⟨ba, oa, none⟩) ac ws (q + 2) w6 r4 ns4 (.slice A4 ns4.length c4) w4) := hG4
                  have hb4 : b < w4.heap.size := hG4.rd.row.lt
                  have HWN : Hid (Calls Tryz.prog 34 #[.pointer (some ⟨b, 0, none⟩), .string ⟨#[59]⟩] w4 fun e w' => (∃ v, e = .returned v) ∧ Rd w' b (some ⟨ba, oa, none⟩) ac ws (wantAt ws (ws.length - r4.rest.length) r4.isBad [59]) (wantBad ws (ws.length - r4.rest.length) r4.isBad [59]) ∧ But w4.heap.size b w4 w') := rwant_any hG4.rd hl (by omega) [59]
                  have hn4 := hG4.n
                  rw [drop_len (by omega)] at hn4
                  have hs4 := hG4.bt.size
                  have HB4 : Hid (But wr.heap.size b wr w4) := HB2.out.trans (hG4.bt.mono (by omega))
                  have HT4 : Hid (TdsO wr.heap.size (.slice (some ⟨gx, 0, none⟩) 1 1) [(⟨7, X1, 0⟩ : Td)] w4) := HT2.out.but hG4.bt hbs
                  have HO4 : Hid (TdsO w6.heap.size (.slice A4 ns4.length c4) ns4 w4) := hG4.o
                  have HN4 : Hid (A4 = none → ns4.length = 0 ∧ c4 = 0) := hG4.o.none.2
                  generalize hnl : ns4.length = n4 at hn4 HN4
                  have HNL : Hid (ns4.length = n4) := hnl
                  clear hG4 hnl HLV
                  go_wp2_with fail
                  refine HWN.out.mono ?_
                  rintro e w5 ⟨⟨vv, rfl⟩, hR5, hb5⟩
                  have hs5 := hb5.size
                  have HT5 : Hid (TdsO wr.heap.size (.slice (some ⟨gx, 0, none⟩) 1 1) [(⟨7, X1, 0⟩ : Td)] w5) := HT4.out.but hb5 hbs
                  have HD5 : Hid (Tds w5 A4 ns4) := (HO4.out.but hb5 (by omega)).tds
                  have HB5 : Hid (But wr.heap.size b wr w5) := HB4.out.trans (hb5.mono (by omega))
                  have HR5 : Hid (Rd w5 b (some ⟨ba, oa, none⟩) ac ws (wantAt ws (ws.length - r4.rest.length) r4.isBad [59]) (wantBad ws (ws.length - r4.rest.length) r4.isBad [59])) := hR5
                  clear hb5 hR5 HWN HT4 HO4 HT2
                  go_wp2_with (at_builtin; refine app_tds rfl _ _ rfl wr.heap.size _ [(⟨7, X1, 0⟩ : Td)] rfl HT5.out A4 n4 ns4 HNL.out c4 rfl HD5.out HN4.out (1 + n4) rfl (by omega) (by omega) ?_)
                  intro A6 c6 w6 hown6 hgrow6
                  have hb56 : Below wr.heap.size w5 w6 := (Below.refl _ _).grown hgrow6 (by omega) (fun k' hk => (World.ownsRow.lt HT5.out k' hk).1)
                  have hs6 := hb56.size
                  obtain ⟨g6, eg⟩ := tdsO_some hown6
                  subst eg
                  have HB6 : Hid (But wr.heap.size b wr w6) := HB5.out.trans (But.of hb56)
                  have hO6 : PrgO (b + 1) (.slice A' al c') acc w6 := by
                    have h8 := HV.out.o.but HB6.out (by omega)
                    rw [HAL.out] at h8
                    exact h8
                  have HO6 : Hid (PrgO (b + 1) (.slice A' al c') acc w6) := hO6
                  obtain ⟨n1, n2, n3⟩ := row_two hO6 (hown6.down (show b + 1 ≤ wr.heap.size by omega))
                  have N1 := (show Hid (PrgO (b + 1) (.slice A' al c') acc (w6.alloc (.cells #[.slice (some ⟨g6, 0, none⟩) (1 + n4) c6] 40))) from n1)
                  have N2 := (show Hid (TdsO (b + 1) (.slice (some ⟨g6, 0, none⟩) (1 + n4) c6) ((⟨7, X1, 0⟩ : Td) :: ns4) (w6.alloc (.cells #[.slice (some ⟨g6, 0, none⟩) (1 + n4) c6] 40))) from n2)
                  have N3 := (show Hid ((w6.alloc (.cells #[.slice (some ⟨g6, 0, none⟩) (1 + n4) c6] 40)).cell? ⟨w6.heap.size, 0, none⟩ = some (.slice (some ⟨g6, 0, none⟩) (1 + n4) c6)) from n3)
                  have HL6 : Hid (((⟨7, X1, 0⟩ : Td) :: ns4).length = 1 + n4) := by
                    show _ = _
                    rw [List.length_cons, HNL.out]; omega
                  have HB56 : Hid (Below wr.heap.size w5 w6) := hb56
                  clear hown6 hgrow6 hO6 n1 n2 n3 hb56
                  go_wp2_with (at_builtin; refine app_prg rfl _ _ rfl (b + 1) _ acc rfl N1.out w6.heap.size g6 (1 + n4) c6 ((⟨7, X1, 0⟩ : Td) :: ns4) HL6.out rfl N3.out N2.out (al + 1) (by rw [HAL.out]) (by omega) (by simp only [World.size_alloc]; omega) ?_)
                  intro A9 c9 w9 hO9 hg9
                  have hb9 : Below (b + 1) w6 w9 := ((Below.refl _ _).alloc (by omega) _).grown hg9 (by simp only [World.size_alloc]; omega) (fun k' hk => HO6.out.own_le hk)
                  have hb59 : Below (b + 1) w5 w9 := (HB56.out.mono (by omega)).trans hb9
                  have hbW9 : But W2.heap.size b W2 w9 := (HV.out.bt.trans (HB6.out.mono hwb)).trans (But.of (hb9.mono (by rw [HS2.out]; exact Nat.le_refl _)))
                  obtain ⟨hP9, hm9⟩ := HPS.out HG4.out (HR5.out.keepB hb59 (by omega)) hO9 hbW9
                  have hl9 := hO9.cell.1
                  have HP9 := (show Hid (_) from hP9)
                  have HM9 := (show Hid (_) from hm9)
                  have HL9 := (show Hid (_ = _) from hl9)
                  clear hO9 hg9 hb9 hb59 hbW9 hP9 hm9 hl9
                  go_wp2
                  go_roundw
                  case rel => exact ⟨_, _, _, A9, c9, by rw [← HL9.out], by rw [← HL9.out]; exact HP9.out⟩
                  case measure => rw [HP9.out.rd.at_eq, HP9.out.rd.nb_eq, HV.out.rd.at_eq, HV.out.rd.nb_eq]; exact HM9.out
            · have hq1i : ¬ (q : Int) + 1 < (ws.length : Int) := by omega
              have HPG : Hid (PG false [] ws (.bad (ws.drop (q + 1)))) := HV.out.ok rfl _ (by rw [HDL.out]; exact .letN (fun w h => by rw [List.drop_eq_nil_of_le (by omega)] at h; cases h))
              have hPR := HBAD.out (q + 1) (by omega) HPG.out
              have HPR := (show Hid (_) from hPR)
              clear hPR
              have hnone : pl[q + 1]? = none := HNON.out (q + 1) (by omega)
              rw [hnone] at HPR
              go_wp2
              refine bodyPost_ret (v := .tuple #[.slice none 0 0, .int .i64 (s.size : Int), .int .i64 5]) (by simp [results, Tryz.results11, go_sem]) rfl ?_
              exact parRes_nil HPR.out (HBW.out _ HWB.out)
      · have hqe : q = ws.length := by omega
        have hqi : ¬ (q : Int) < (ws.length : Int) := by omega
        have hG : PG false [] ws (.ok acc) := HV.out.ok rfl _ (by rw [hqe, List.drop_length]; exact .done)
        have HG := (show Hid (_) from HOKP.out acc hG)
        have HPF : Hid (Calls Tryz.prog 7 #[.slice A' al c'] wr fun e w' => e = .returned (.tuple #[.int .i64 ((progF acc).1 : Int), .int .i64 (progF acc).2]) ∧ Below wr.heap.size wr w') := by
          have h1 := rProgram_any acc A' c' wr HV.out.o.prg (fun t ht x hx => by have := HV.out.tx rfl t ht x hx; omega)
          rw [HAL.out] at h1
          exact h1
        clear hG
        generalize hpf : (progF acc).2 = F at HPF HG
        by_cases hF : F = 0
        · subst hF
          have HG2 := (show Hid (_) from HG.out.2 rfl)
          clear HG
          go_wp2_with fail
          refine HPF.out.mono ?_
          rintro e w2 ⟨rfl, hb2⟩
          have HB2 := (show Hid (_) from hb2)
          clear hb2
          go_wp2
          refine bodyPost_ret (v := .tuple #[.slice A' al c', .int .i64 0, .int .i64 0]) (by simp [results, Tryz.results11, go_sem]) rfl ?_
          have hc := HV.out.o.cell
          have hs := HBR.out.size
          exact ⟨acc, 0, 0, A', c', by rw [HAL.out], HG2.out, HV.out.o.prg.below HB2.out, hc.2.2.1, hc.2.1, HBR.out.trans (HB2.out.mono hs)⟩
        · have HG2 := (show Hid (_) from HG.out.1 hF)
          clear HG
          go_wp2_with fail
          refine HPF.out.mono ?_
          rintro e w2 ⟨rfl, hb2⟩
          have HB2 := (show Hid (_) from hb2)
          clear hb2
          go_wp2
          refine bodyPost_ret (v := .tuple #[.slice none 0 0, .int .i64 0, .int .i64 F]) (by simp [results, Tryz.results11, go_sem]) rfl ?_
          have hs := HBR.out.size
          exact parRes_nil HG2.out (HBR.out.trans (HB2.out.mono hs))
end Go.Proofs.YtmbeamcjpidnjaaGreatDoor
