/- Package syn's reader: notes that follow one another. -/
import Derived.Test.YtmbeamcjpidnjaaGreatDoorSyX
import Derived.Test.YtmbeamcjpidnjaaGreatDoorSyM
import Derived.Test.YtmbeamcjpidnjaaGreatDoorMems
import Derived.Test.YtmbeamcjpidnjaaGreatDoorShf
namespace Go.Proofs.YtmbeamcjpidnjaaGreatDoor
open Go Go.RowKit

set_option maxRecDepth 100000 in
theorem join_none (s : ByteArray) (w : World) : Calls Tryz.prog 143 #[.slice none 0 0, .string s] w fun e w' => e = .returned (.string ⟨#[]⟩) ∧ Below w.heap.size w w' := by
  go_enter Tryz.func143, Tryz.ntmps143
  go_wp2
  go_ret
  exact ⟨rfl, Below.refl _ _⟩
theorem strs_some {B : Nat} {w : World} {A : Option Addr} {n c : Nat} {xs : List ByteArray} (h : StrsO B (.slice A n c) xs w) : n = xs.length ∧ n ≤ c ∧ ((A = none ∧ n = 0 ∧ c = 0) ∨ ∃ g, A = some ⟨g, 0, none⟩ ∧ g < w.heap.size) := by
  rcases h.2 with ⟨hv, h0⟩ | ⟨g, c', cur, hv, _, hg, hnc, _⟩
  · simp only [Value.slice.injEq] at hv
    obtain ⟨rfl, rfl, rfl⟩ := hv
    exact ⟨h0.symm, Nat.le_refl _, .inl ⟨rfl, rfl, rfl⟩⟩
  · simp only [Value.slice.injEq] at hv
    obtain ⟨rfl, rfl, rfl⟩ := hv
    exact ⟨rfl, hnc, .inr ⟨g, rfl, (Array.getElem?_eq_some_iff.1 hg).1⟩⟩
theorem joinW_any {B : Nat} {A : Option Addr} {n c : Nat} {W : List Wd} {w : World} (h : StrsO B (.slice A n c) (W.map wbS) w) (hs : szW W ≤ 1000000) : Calls Tryz.prog 143 #[.slice A n c, .string ⟨#[32]⟩] w fun e w' => e = .returned (.string (wbS (jb W))) ∧ Below w.heap.size w w' := by
  obtain ⟨hn, hc, hA⟩ := strs_some h
  have hl := szW_len W
  have hj := jb_sz W
  have hml : (W.map wbS).length = W.length := List.length_map ..
  rcases hA with ⟨rfl, rfl, rfl⟩ | ⟨g, rfl, hg⟩
  · have : W = [] := List.eq_nil_of_length_eq_zero (by omega)
    subst this
    exact join_none _ w
  · subst hn
    have e1 : (W.map wbS).map (fun x => x.data.toList) = W := by
      rw [List.map_map]
      exact List.map_id W
    have e2 : Lib.join ((W.map wbS).map (fun x => x.data.toList)) (⟨#[32]⟩ : ByteArray).data.toList = jb W := by
      rw [e1]
      exact jb_join W
    have h1 := join_sh g 0 c (W.map wbS) ⟨#[32]⟩ w ?_ hg (by omega) hc (by rw [e2]; omega)
    · rw [e2] at h1
      exact h1
    · intro j x hx
      obtain ⟨hj, rfl⟩ := List.getElem?_eq_some_iff.1 hx
      obtain ⟨b', o', e, _, c1⟩ := strsO_wds h j hj
      simp only [Option.some.injEq, Addr.mk.injEq, and_true] at e
      obtain ⟨rfl, rfl⟩ := e
      exact c1
theorem wb_tail {w : Wd} {S : ByteArray} (h : wbS w = S) : S.extract 1 S.size = wbS (w.drop 1) := by
  subst h
  rw [wbS_ext]
  congr 1
  rw [List.take_of_length_le]
  · rfl
  · rw [List.length_drop, btL_len]; omega
theorem fields_any {x : Wd} (hx : isNt x) (hl : x.length ≤ 60000) (w : World) (ht : Tabs w) : Calls Tryz.prog 52 #[.string (wbS (x.drop 1))] w fun e w' => ∃ g, e = .returned (.slice (some ⟨g, 0, none⟩) (fldW x).length (fldW x).length) ∧ Wds w' (some ⟨g, 0, none⟩) ((fldW x).map wbS) ∧ Below w.heap.size w w' := by
  have hb : btL (wbS (x.drop 1)) = x.drop 1 := rfl
  refine (fields_sh (wbS (x.drop 1)) w (by rw [← btL_len, hb, List.length_drop]; omega) ?_ ht.spc).mono ?_
  · intro j c hj
    have hm : c ∈ x := List.mem_of_mem_drop (List.mem_of_getElem? (show (x.drop 1)[j]? = some c from hj))
    have := hx.2 c hm
    simp only [prB, Bool.and_eq_true, decide_eq_true_eq] at this
    omega
  · rintro e w' ⟨rfl, rfl⟩
    refine ⟨w.heap.size, rfl, ?_, belA w _⟩
    intro i hi
    have hi2 : i < (fldW x).length := by simpa using hi
    refine ⟨w.heap.size, 0, rfl, by rw [World.size_alloc]; omega, ?_⟩
    rw [Nat.zero_add]
    have hk := heap_alloc_new w (.cells ((Lib.fields (btL (wbS (x.drop 1)))).map fun l => Value.string ⟨l.toArray⟩).toArray 9)
    rw [Lib.cell_of_heap hk]
    show ((Lib.fields (x.drop 1)).map fun l => Value.string ⟨l.toArray⟩).toArray[i]? = _
    rw [List.getElem?_toArray, List.getElem?_map, show (Lib.fields (x.drop 1))[i]? = some (fldW x)[i] from List.getElem?_eq_getElem hi2]
    simp [wbS]
theorem mem_total : ∀ (ws : List Wd) (x : Wd), x ∈ ws → x.length ≤ (ws.map List.length).sum
  | y :: r, x, h => by
    rw [List.map_cons, List.sum_cons]
    rcases List.mem_cons.1 h with rfl | h
    · omega
    · have := mem_total r x h
      omega
/-- What the loop over notes keeps. -/
structure NtAt (K : LwK) (ws : List Wd) (pl : Nat → Nat) (b p : Nat) (w : World) (q : Nat) (W : List Wd) (v : Value) (wr : World) : Prop where
  pq : p ≤ q
  o : StrsO w.heap.size v (W.map wbS) wr
  rd : Ry K ws pl b q wr
  bt : But w.heap.size b w wr
  eq : W = ((ws.drop p).take (q - p)).flatMap fldW
  nt : ∀ x ∈ (ws.drop p).take (q - p), isNt x
/-- A statement that was read, and how the program goes on behind it. -/
structure GoodS (K : LwK) (ws : List Wd) (pl : Nat → Nat) (b p : Nat) (w : World) (q : Nat) (n : Bool) (t : List Td) (v : Value) (w' : World) : Prop where
  lt : p < q
  o : TdsO w.heap.size v t w'
  ne : t ≠ []
  l : t.length ≤ 100000
  rd : Ry K ws pl b q w'
  bt : But w.heap.size b w w'
  pg : ∀ pv acc r, (pv = true → ∀ x, ws[p]? = some x → x.headD 0 ≠ 35) → PG n (acc ++ [t]) (ws.drop q) r → PG pv acc (ws.drop p) r
  nx : n = true → ∀ x, ws[q]? = some x → x.headD 0 ≠ 35
inductive GotS (K : LwK) (ws : List Wd) (pl : Nat → Nat) (b p : Nat) (w : World) : Ending → World → Prop where
  | ok {q n t A c w'} (h : GoodS K ws pl b p w q n t (.slice A t.length c) w') : GotS K ws pl b p w (.returned (.slice A t.length c)) w'
  | bad {u w'} (pg : ∀ pv acc, PG pv acc (ws.drop p) (.bad u)) (bt : But w.heap.size b w w') : GotS K ws pl b p w (.panicked [misf (pl (ws.length - u.length))]) w'
theorem take_one {ws : List Wd} {p q : Nat} (h : p ≤ q) (hq : q < ws.length) : (ws.drop p).take (q + 1 - p) = (ws.drop p).take (q - p) ++ [ws[q]] := by
  rw [show q + 1 - p = q - p + 1 by omega, List.take_succ_eq_append_getElem (by rw [List.length_drop]; omega)]
  congr 2
  rw [List.getElem_drop]
  congr 1
  omega
theorem drop_split (ws : List Wd) {p q : Nat} (h : p ≤ q) : ws.drop p = (ws.drop p).take (q - p) ++ ws.drop q := by
  have e : ws.drop q = (ws.drop p).drop (q - p) := by rw [List.drop_drop]; congr 1; omega
  rw [e, List.take_append_drop]
set_option maxRecDepth 100000 in
set_option maxHeartbeats 4000000 in
theorem ynotes_any {K : LwK} {ws : List Wd} {pl : Nat → Nat} {b p : Nat} {w : World} (htk : ∀ x ∈ ws, isTok x) (htot : (ws.map List.length).sum ≤ 60000) (hp : p < ws.length) (hn : ws[p].headD 0 = 35) (hbV : ∀ w', But w.heap.size b w w' → Tabs w') (h : Ry K ws pl b p w) :
    Calls Tryz.prog 103 #[.pointer (some ⟨b, 0, none⟩)] w fun e w' => GotS K ws pl b p w e w' := by
  have HTK : Hid (∀ x ∈ ws, isTok x) := htk
  have HTV : Hid (∀ w', But w.heap.size b w w' → Tabs w') := hbV
  have HLW : Hid (∀ x ∈ ws, x.length ≤ 60000) := fun x hx => by
    have := mem_total ws x hx
    omega
  have HSZ : Hid (∀ q, szW (((ws.drop p).take (q - p)).flatMap fldW) ≤ 120000) := fun q => by
    have h1 := flds_sz ((ws.drop p).take (q - p))
    have h2 := sum_part ws p (q - p)
    omega
  have hbw : b < w.heap.size := h.row.lt
  have hgw := h.gwlt
  have hga := h.galt
  have HV0 : Hid (NtAt K ws pl b p w p [] (.slice none 0 0) w) := ⟨Nat.le_refl _, World.ownsRow_nil _ _ _ _, h, But.refl _ _ _, by simp, fun x hx => by simp at hx⟩
  clear h htk hbV
  go_enter Tryz.func103, Tryz.ntmps103
  go_wp2_with fail
  go_loopw [3] (fun x wr => ∃ (q : Nat) (W : List Wd) (A : Option Addr) (n c : Nat), x = .slice A n c ∧ W.length = n ∧ NtAt K ws pl b p w q W (.slice A n c) wr) (fun _ wr => ryLen wr b)
  case atStart => exact ⟨p, [], _, _, _, rfl, rfl, HV0.out⟩
  case round =>
    obtain ⟨q, W, A, n, c, rfl, hWn, hV⟩ := hrel
    have hqle := hV.rd.le
    have HV := (show Hid (_) from hV)
    have HWN : Hid (W.length = n) := hWn
    have hwb := hV.bt.size
    have HL1 : Hid (Calls Tryz.prog 71 #[.pointer (some ⟨b, 0, none⟩)] wr fun e w' => e = .returned (.string (wbS (ws.getD q []))) ∧ wr = w') := (yword_any hV.rd).mono fun _ _ h => ⟨h.1, h.2.symm⟩
    have HL2 : Hid (Calls Tryz.prog 102 #[.string (wbS (ws.getD q []))] wr fun e w' => e = .returned (.bool (decide ((ws.getD q []).headD 0 = 35))) ∧ wr = w') := (yisNote_any _ wr).mono fun _ _ h => ⟨h.1, h.2.symm⟩
    by_cases hnt : (ws.getD q []).headD 0 = 35
    · have hq : q < ws.length := by
        rcases Nat.lt_or_ge q ws.length with h' | h'
        · exact h'
        · rw [getD_end h'] at hnt; simp at hnt
      rw [decide_eq_true hnt] at HL2
      rw [getD_at hq] at hnt HL1 HL2
      have hisn := tok_nt (HTK.out _ (List.getElem_mem hq)) hnt
      have HN : Hid (Calls Tryz.prog 142 #[.pointer (some ⟨b, 0, none⟩)] wr fun e w' => e = .returned (.string (wbS ws[q])) ∧ Ry K ws pl b (q + 1) w' ∧ But wr.heap.size b wr w') := ynext_any hV.rd hq
      have hszx : 1 ≤ (wbS ws[q]).size := by
        have := tok_pos (HTK.out _ (List.getElem_mem hq))
        rw [← btL_len]; exact this
      have HF : Hid (∀ W', But w.heap.size b w W' → Calls Tryz.prog 52 #[.string ((wbS ws[q]).extract 1 (wbS ws[q]).size)] W' fun e w' => ∃ g, e = .returned (.slice (some ⟨g, 0, none⟩) (fldW ws[q]).length (fldW ws[q]).length) ∧ Wds w' (some ⟨g, 0, none⟩) ((fldW ws[q]).map wbS) ∧ Below W'.heap.size W' w') := fun W' hB => by
        rw [wb_tail rfl]
        exact fields_any hisn (HLW.out _ (List.getElem_mem hq)) W' (HTV.out W' hB)
      have hsz := HSZ.out (q + 1)
      rw [take_one hV.pq hq, List.flatMap_append, ← hV.eq, List.flatMap_singleton, szW_app] at hsz
      have hl1 := szW_len W
      have hl2 := szW_len (fldW ws[q])
      have hnl : n + (fldW ws[q]).length ≤ 1000000 := by omega
      have HX : Hid (∀ A2 c2 w2, StrsO w.heap.size (.slice A2 (n + (fldW ws[q]).length) c2) (W.map wbS ++ (fldW ws[q]).map wbS) w2 → Ry K ws pl b (q + 1) w2 → But w.heap.size b w w2 → (W ++ fldW ws[q]).length = n + (fldW ws[q]).length ∧ NtAt K ws pl b p w (q + 1) (W ++ fldW ws[q]) (.slice A2 (n + (fldW ws[q]).length) c2) w2) := fun A2 c2 w2 h1 h2 h3 => by
        refine ⟨by rw [List.length_append, HWN.out], Nat.le_succ_of_le HV.out.pq, by rw [List.map_append]; exact h1, h2, h3, ?_, ?_⟩
        · rw [take_one HV.out.pq hq, List.flatMap_append, ← HV.out.eq, List.flatMap_singleton]
        · rw [take_one HV.out.pq hq]
          intro x hx
          rcases List.mem_append.1 hx with hx | hx
          · exact HV.out.nt x hx
          · rw [List.mem_singleton] at hx
            rw [hx]; exact hisn
      have HFL : Hid (((fldW ws[q]).map wbS).length = (fldW ws[q]).length) := List.length_map ..
      have HML : Hid ((W.map wbS).length = n) := (show _ = _ by rw [List.length_map]; exact hWn)
      generalize wbS ws[q] = S at HL1 HL2 HN HF hszx
      generalize (fldW ws[q]).map wbS = FS at HF HX HFL
      generalize (fldW ws[q]).length = fn at HF HX hnl HFL hsz hl2
      clear hV hWn hnt hisn hsz hl1 hl2
      go_wp2_with fail
      refine HL1.out.mono ?_
      rintro e w1 ⟨rfl, rfl⟩
      go_wp2_with fail
      refine HL2.out.mono ?_
      rintro e w1 ⟨rfl, rfl⟩
      go_wp2_with fail
      refine HN.out.mono ?_
      rintro e w3 ⟨rfl, h3, b3⟩
      have hs3 := b3.size
      have HB3 : Hid (But w.heap.size b w w3) := HV.out.bt.trans (b3.mono hwb)
      have HR3 : Hid (Ry K ws pl b (q + 1) w3) := h3
      have HO3 : Hid (StrsO w.heap.size (.slice A n c) (W.map wbS) w3) := by
        refine ⟨HV.out.o.1, ?_⟩
        rcases HV.out.o.2 with h0 | ⟨g, c', cur, hv, hB, hg, rest⟩
        · exact .inl h0
        · exact .inr ⟨g, c', cur, hv, hB, (b3.block g (Array.getElem?_eq_some_iff.1 hg).1 (by omega)).trans hg, rest⟩
      clear h3 b3 HN HL1 HL2
      go_wp2_with fail
      refine (HF.out w3 HB3.out).mono ?_
      rintro e w4 ⟨g, rfl, hW4, b4⟩
      have hs4 := b4.size
      have HO4 : Hid (StrsO w.heap.size (.slice A n c) (W.map wbS) w4) := own_bel HO3.out b4
      have HW4 : Hid (Wds w4 (some ⟨g, 0, none⟩) FS) := hW4
      have HR4 : Hid (Ry K ws pl b (q + 1) w4) := HR3.out.keep b4
      have HB4 : Hid (But w.heap.size b w w4) := HB3.out.trans (But.of (b4.mono (by omega)))
      have hb4 : b < w4.heap.size := HR4.out.row.lt
      clear hW4 b4 HO3 HR3 HB3
      go_wp2_with (at_builtin; refine app_strs rfl _ _ rfl w.heap.size _ (W.map wbS) rfl HO4.out (some ⟨g, 0, none⟩) fn FS HFL.out fn rfl HW4.out (fun e => by cases e) (n + fn) (by rw [HML.out]) hnl (by omega) ?_)
      intro A5 c5 w5 hown5 hgrow5
      have hX5 := HX.out A5 c5 w5 hown5 ?rd5 ?bt5
      case rd5 => exact HR4.out.keepB ((Below.refl w.heap.size w4).grown hgrow5 (by omega) (fun k hk => (World.ownsRow.lt HO4.out k hk).1)) hbw hgw hga
      case bt5 => exact HB4.out.grown hgrow5 (by omega) (fun k hk => (World.ownsRow.lt HO4.out k hk).1)
      have HX5 := (show Hid (_) from hX5)
      clear hX5 hown5 hgrow5
      go_wp2
      refine ⟨⟨q + 1, _, A5, n + fn, c5, rfl, HX5.out.1, HX5.out.2⟩, ?_⟩
      rw [HX5.out.2.rd.len_eq, HV.out.rd.len_eq]
      omega
    · rw [decide_eq_false hnt] at HL2
      have hpq : p < q := by
        rcases Nat.eq_or_lt_of_le hV.pq with e | e
        · subst e
          rw [getD_at hp] at hnt
          exact absurd hn hnt
        · exact e
      have hszq := HSZ.out q
      rw [← hV.eq] at hszq
      have HJ : Hid (Calls Tryz.prog 143 #[.slice A n c, .string ⟨#[32]⟩] wr fun e w' => e = .returned (.string (wbS (jb W))) ∧ Below wr.heap.size wr w') := joinW_any hV.o (by omega)
      have HX : Hid (∀ w1, Below wr.heap.size wr w1 → GotS K ws pl b p w (.returned (.slice (some ⟨w1.heap.size, 0, none⟩) 1 1)) (w1.alloc (.cells #[.int .i64 9, .string (wbS (jb W)), .int .i64 0] 39))) := fun w1 hb1 => by
        have hV := HV.out
        have hs1 := hb1.size
        have hbt : But w.heap.size b w w1 := hV.bt.trans (But.of (hb1.mono hwb))
        refine GotS.ok (q := q) (n := true) (t := [ntT (jb W)]) ⟨hpq, (TdsO.one w1 (ntT (jb W))).down (by omega), by simp, by simp, (hV.rd.keep hb1).keep (belA w1 _), hbt.alloc (by omega) _, fun pv acc r hpv hr => ?_, fun _ x hx => ?_⟩
        · have hpf : pv = false := by
            cases pv with
            | false => rfl
            | true => exact absurd hn (hpv rfl _ (List.getElem?_eq_getElem hp))
          subst hpf
          rw [drop_split ws hV.pq]
          refine pg_notes (fun e => ?_) hV.nt ?_
          · have := congrArg List.length e
            rw [List.length_take, List.length_drop] at this
            simp only [List.length_nil] at this
            omega
          · rw [← hV.eq]; exact hr
        · obtain ⟨hq, rfl⟩ := List.getElem?_eq_some_iff.1 hx
          rw [getD_at hq] at hnt
          exact hnt
      generalize wbS (jb W) = J at HJ HX
      generalize wbS (ws.getD q []) = S at HL1 HL2
      clear hV hWn hnt hszq
      go_wp2_with fail
      refine HL1.out.mono ?_
      rintro e w1 ⟨rfl, rfl⟩
      go_wp2_with fail
      refine HL2.out.mono ?_
      rintro e w1 ⟨rfl, rfl⟩
      go_wp2_with fail
      refine HJ.out.mono ?_
      rintro e w1 ⟨rfl, b1⟩
      have HX1 := (show Hid (_) from HX.out w1 b1)
      clear b1
      go_wp2
      go_ret
      exact HX1.out
end Go.Proofs.YtmbeamcjpidnjaaGreatDoor
