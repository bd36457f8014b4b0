/- Fill of package fill. -/
import Derived.Test.YtmpfffpkjnjhdabDoorFilE
import Derived.Test.YtmpfffpkjnjhdabDoorShf
namespace Go.Proofs.YtmpfffpkjnjhdabDoor
open Go Go.RowKit

theorem numsO_cell {B : Nat} {w : World} {A : Option Addr} {n c : Nat} {ks : List Nat} (h : NumsO B (.slice A n c) ks w) (j : Nat) (hj : j < ks.length) : ∃ g, A = some ⟨g, 0, none⟩ ∧ g < w.heap.size ∧ w.cell? ⟨g, j, none⟩ = some (.int .i64 ((ks[j] : Nat) : Int)) := by
  rcases h.2 with ⟨hv, h0⟩ | ⟨g, c, cur, hv, _, hg, hnc, _, hsz, htake⟩
  · omega
  · simp only [Value.slice.injEq] at hv
    obtain ⟨rfl, rfl, rfl⟩ := hv
    refine ⟨g, rfl, (Array.getElem?_eq_some_iff.1 hg).1, ?_⟩
    have hk : (numCells ks)[j]? = some (.int .i64 ((ks[j] : Nat) : Int)) := by simp [numCells, hj]
    rw [← htake] at hk
    rw [List.getElem?_take_of_lt (by omega)] at hk
    simp only [World.cell?, hg]
    simpa using hk
theorem own_bel {w w' : World} {B e size n : Nat} {v : Value} {xs : List Value} (h : w.ownsRow B e size v n xs) (hb : Below w.heap.size w w') : w'.ownsRow B e size v n xs := by
  refine ⟨h.1, ?_⟩
  rcases h.2 with h0 | ⟨g, c, cur, rfl, hB, hg, rest⟩
  · exact .inl h0
  · exact .inr ⟨g, c, cur, rfl, hB, (hb.block g (Array.getElem?_eq_some_iff.1 hg).1).trans hg, rest⟩
def strCells (xs : List ByteArray) : List Value := xs.map fun x => .string x
theorem strCells_app (a b : List ByteArray) : strCells (a ++ b) = strCells a ++ strCells b := by simp [strCells]
/-- Words that a call has gathered in a row of its own. -/
def StrsO (B : Nat) (v : Value) (xs : List ByteArray) (w : World) : Prop := w.ownsRow B 9 1 v xs.length (strCells xs)
theorem strsO_wds {B : Nat} {w : World} {A : Option Addr} {n c : Nat} {xs : List ByteArray} (h : StrsO B (.slice A n c) xs w) : Wds w A xs := by
  intro j hj
  rcases h.2 with ⟨hv, h0⟩ | ⟨g, c, cur, hv, _, hg, hnc, _, hsz, htake⟩
  · omega
  · simp only [Value.slice.injEq] at hv
    obtain ⟨rfl, rfl, rfl⟩ := hv
    refine ⟨g, 0, rfl, (Array.getElem?_eq_some_iff.1 hg).1, ?_⟩
    have hk : (strCells xs)[j]? = some (.string xs[j]) := by simp [strCells, hj]
    rw [← htake] at hk
    rw [List.getElem?_take_of_lt (by omega)] at hk
    rw [Nat.zero_add]
    simp only [World.cell?, hg]
    simpa using hk

/-- The lines of words. -/
def fillL (wd : Nat) (ws : List ByteArray) : List ByteArray := lnsOf ws (cuts wd ws)
theorem fillL_cons (wd : Nat) {ws : List ByteArray} (h : ws ≠ []) : fillL wd ws = jnS (ws.take (agF wd ws)) :: fillL wd (ws.drop (agF wd ws)) := by
  rw [fillL, cuts_cons wd h]; rfl
theorem fillL_nil (wd : Nat) : fillL wd [] = [] := by rw [fillL, cuts_nil]; rfl
theorem fillL_len (wd : Nat) : ∀ (n : Nat) (ws : List ByteArray), ws.length ≤ n → (fillL wd ws).length ≤ ws.length
  | 0, ws, h => by
    have : ws = [] := List.eq_nil_of_length_eq_zero (by omega)
    subst this
    rw [fillL_nil]; simp
  | n + 1, ws, h => by
    by_cases h0 : ws = []
    · subst h0; rw [fillL_nil]; simp
    · have hp := agF_pos wd h0
      have ih := fillL_len wd n (ws.drop (agF wd ws)) (by simp only [List.length_drop]; omega)
      rw [fillL_cons wd h0, List.length_cons]
      simp only [List.length_drop] at ih
      omega

set_option maxRecDepth 100000 in
theorem sClone_any (s : ByteArray) (w : World) (h : s.size ≤ 281474976710656) :
    Calls Tryd.prog 23 #[.string s] w fun e w' => e = .returned (.string s) ∧ Below w.heap.size w w' := by
  go_enter Tryd.func23, Tryd.ntmps23
  go_wp2_with fail
  refine (clone_sh s _ h).mono ?_
  rintro e w2 ⟨rfl, hb⟩
  go_wp2
  go_ret
  exact ⟨rfl, hb⟩

set_option maxRecDepth 100000 in
set_option maxHeartbeats 1000000 in
theorem xLine_at (n : Nat) (ws : List ByteArray) (hn : ws.length = n) (b o c : Nat) (w : World) (hc : n ≤ c) (hb : b < w.heap.size) (hF : Few ws) (hW : Wds w (some ⟨b, o, none⟩) ws) :
    Calls Tryd.prog 18 #[.slice (some ⟨b, o, none⟩) n c] w fun e w' => e = .returned (.string (jnS ws)) ∧ Below w.heap.size w w' := by
  subst hn
  have HJ : Hid (∀ W : World, Below w.heap.size w W → Calls Tryd.prog 24 #[.slice (some ⟨b, o, none⟩) ws.length c, .string ⟨#[32]⟩] W fun e w' => e = .returned (.string (jnS ws)) ∧ Below W.heap.size W w') := fun W hB => by
    have hl := hF.ln
    have hl2 := hF.1
    refine join_sh b o c ws ⟨#[32]⟩ W ?_ (Nat.lt_of_lt_of_le hb hB.size) (by omega) hc ?_
    · intro j x hx
      obtain ⟨hj, rfl⟩ := List.getElem?_eq_some_iff.1 hx
      obtain ⟨b', o', e, _, c1⟩ := Wds.below hW hB j hj
      simp only [Option.some.injEq, Addr.mk.injEq, and_true] at e
      obtain ⟨rfl, rfl⟩ := e
      exact c1
    · have := jnL_len ws
      show (jnL ws).length ≤ _
      omega
  have hs : (jnS ws).size ≤ 281474976710656 := by
    rw [jnS_size]
    have := hF.ln
    omega
  clear hW hF
  generalize jnS ws = s at HJ hs
  go_enter Tryd.func18, Tryd.ntmps18
  go_wp2_with fail
  refine (HJ.out _ (Below.refl _ _)).mono ?_
  rintro e w2 ⟨rfl, hb2⟩
  go_wp2_with fail
  refine (sClone_any s _ hs).mono ?_
  rintro e w3 ⟨rfl, hb3⟩
  go_wp2
  go_ret
  exact ⟨rfl, belowT hb2 (Nat.le_refl _) hb3⟩

set_option maxRecDepth 100000 in
set_option maxHeartbeats 1000000 in
theorem xFill_bad (ws : List ByteArray) (a : Option Addr) (cap : Nat) (wd : Int) (w : World) (hW : Wds w a ws) (h0 : fillE ws wd ≠ 0) :
    Calls Tryd.prog 9 #[.slice a ws.length cap, .int .i64 wd] w fun e w' => e = .returned (.tuple #[.slice none 0 0, errN (fillE ws wd)]) ∧ w = w' := by
  have HW : Hid (Wds w a ws) := hW
  have HN : Hid (errN (fillE ws wd) = .iface 24 (.int .i64 (fillE ws wd))) := errN_ne h0
  clear h0 hW
  go_enter Tryd.func9, Tryd.ntmps9
  go_wp2_with fail
  refine (xRoom_any ws a cap wd _ HW.out).mono ?_
  rintro e w2 ⟨rfl, rfl⟩
  rw [HN.out]
  go_wp2
  go_ret2
  exact ⟨by rw [HN.out]; rfl, rfl⟩

/-- What is still to be put into lines by Fill. -/
structure FilAt (wd : Nat) (ws : List ByteArray) (ks : List Nat) (w w1 : World) (k : Nat) (vs done : List ByteArray) (A L : Option Addr) (c lc : Nat) (wr : World) : Prop where
  b : Below w1.heap.size w1 wr
  le : k ≤ ks.length
  vc : vs.length ≤ c
  wo : Wds w A vs
  fe : Few vs
  cu : ks.drop k = cuts wd vs
  ro : StrsO w1.heap.size (.slice L done.length lc) done wr
  li : fillL wd ws = done ++ fillL wd vs
  dl : done.length + vs.length ≤ 60
theorem FilAt.step {wd : Nat} {ws : List ByteArray} {ks : List Nat} {w w1 : World} {k : Nat} {vs done : List ByteArray} {b o : Nat} {L : Option Addr} {c lc : Nat} {wr : World} (h : FilAt wd ws ks w w1 k vs done (some ⟨b, o, none⟩) L c lc wr) (hk : k < ks.length) :
    ∃ q, ks[k] = q ∧ 1 ≤ q ∧ q ≤ vs.length ∧ ∃ A', (∀ W : World, (Instr.slice 22 (.slice (some ⟨b, o, none⟩) vs.length c) (some (.int .i64 (q : Int))) none none).run Tryd.prog W = .ok (.slice A' (vs.drop q).length (c - q)) W) ∧
      ∀ g cap2 w2, Below w1.heap.size w1 w2 → StrsO w1.heap.size (.slice (some ⟨g, 0, none⟩) (done ++ [jnS (vs.take q)]).length cap2) (done ++ [jnS (vs.take q)]) w2 → FilAt wd ws ks w w1 (k + 1) (vs.drop q) (done ++ [jnS (vs.take q)]) A' (some ⟨g, 0, none⟩) (c - q) cap2 w2 := by
  have hne : vs ≠ [] := fun e => by
    have h1 := h.cu
    rw [e, cuts_nil] at h1
    have := congrArg List.length h1
    rw [List.length_drop, List.length_nil] at this
    omega
  have h1 := h.cu
  rw [List.drop_eq_getElem_cons hk, cuts_cons wd hne, List.cons.injEq] at h1
  obtain ⟨p1, p2⟩ := agF_pos wd hne
  obtain ⟨A', e1, e2⟩ := sl_tail h.wo p2 h.vc
  refine ⟨agF wd vs, h1.1, p1, p2, A', e1, fun g cap2 w2 hb hs => ?_⟩
  exact { b := hb, le := hk, vc := by have := h.vc; rw [List.length_drop]; omega, wo := e2, fe := h.fe.drop _, cu := h1.2, ro := hs, li := by rw [h.li, fillL_cons wd hne, List.append_assoc]; rfl, dl := by have := h.dl; rw [List.length_append, List.length_drop]; simp; omega }

set_option maxRecDepth 100000 in
set_option maxHeartbeats 4000000 in
theorem xFill_ok (ws : List ByteArray) (a : Option Addr) (cap wd : Nat) (w : World) (hc : ws.length ≤ cap) (hW : Wds w a ws) (h0 : fillE ws wd = 0) :
    Calls Tryd.prog 9 #[.slice a ws.length cap, .int .i64 wd] w fun e w' => (∃ L c, e = .returned (.tuple #[.slice L (fillL wd ws).length c, .nilIface]) ∧ StrsO w.heap.size (.slice L (fillL wd ws).length c) (fillL wd ws) w') ∧ Below w.heap.size w w' := by
  obtain ⟨hf0, n, hn0, hn1, hn2⟩ := fillE_zero h0
  obtain rfl : wd = n := by omega
  have H0 : Hid (fillE ws wd = 0) := h0
  have HF : Hid (Few ws) := few_of hf0
  have hl := HF.out.1
  have HW : Hid (Wds w a ws) := hW
  clear h0 hf0 hn0 hW
  go_enter Tryd.func9, Tryd.ntmps9
  go_wp2_with fail
  refine (xRoom_any ws a cap wd _ HW.out).mono ?_
  rintro e w2 ⟨rfl, rfl⟩
  rw [H0.out, errN_0]
  go_wp2_with fail
  refine (leastBad_any ws a cap wd _ hc HF.out hn2 HW.out).mono ?_
  rintro e w1 ⟨⟨K, kc, rfl, hO⟩, hb1⟩
  generalize hks : cuts wd ws = ks at hO
  have HK : Hid (NumsO w.heap.size (.slice K ks.length kc) ks w1) := hO
  have HKS : Hid (cuts wd ws = ks) := hks
  have HB1 : Hid (Below w.heap.size w w1) := hb1
  have hkl : ks.length ≤ 60 := by
    have := fillL_len wd _ ws (Nat.le_refl _)
    have e : ∀ (ks : List Nat) (ws : List ByteArray), (lnsOf ws ks).length = ks.length := by
      intro ks
      induction ks with
      | nil => intro ws; rfl
      | cons k r ih => intro ws; simp [lnsOf, ih]
    rw [fillL, e, hks] at this
    omega
  have hs1 := hb1.size
  clear hO hks hb1
  go_wp2
  go_loopw [0, 7, 20] (fun l x i wr => ∃ (k : Nat) (vs done : List ByteArray) (A L : Option Addr) (c lc : Nat), l = .slice A vs.length c ∧ x = .slice L done.length lc ∧ i = .int .i64 (k : Int) ∧ FilAt wd ws ks w w1 k vs done A L c lc wr) (fun _ _ i _ => ks.length - (intOf i).toNat)
  case atStart => exact ⟨0, ws, [], a, none, cap, 0, rfl, rfl, rfl, { b := Below.refl _ _, le := Nat.zero_le _, vc := hc, wo := HW.out, fe := HF.out, cu := HKS.out.symm, ro := World.ownsRow_nil _ _ _ _, li := rfl, dl := by simpa using hl }⟩
  case round =>
    obtain ⟨k, vs, done, A, L, c, lc, rfl, rfl, rfl, hR⟩ := hrel
    have HR : Hid (FilAt wd ws ks w w1 k vs done A L c lc wr) := hR
    have hle := hR.le
    have hvc := hR.vc
    have hdl := hR.dl
    have hsr := hR.b.size
    clear hR
    by_cases hlt : k < ks.length
    · have hki : (k : Int) < (ks.length : Int) := by omega
      obtain ⟨g, rfl, hg, c0⟩ := numsO_cell HK.out k hlt
      have c1 : wr.cell? ⟨g, k, none⟩ = some (.int .i64 ((ks[k] : Nat) : Int)) := (HR.out.b.cell (p := ⟨g, k, none⟩) hg).trans c0
      clear c0
      have hv0 : 0 < vs.length := by
        rcases Nat.eq_zero_or_pos vs.length with h | h
        · have : vs = [] := List.eq_nil_of_length_eq_zero h
          have h1 := HR.out.cu
          rw [this, cuts_nil] at h1
          have := congrArg List.length h1
          rw [List.length_drop, List.length_nil] at this
          omega
        · exact h
      obtain ⟨b0, o0, ea, hb0⟩ := HR.out.wo.some hv0
      subst ea
      obtain ⟨q, hq, hq1, hq2, A', hs, hnext⟩ := HR.out.step hlt
      rw [hq] at c1
      have HNX := (show Hid (_) from hnext)
      have hhead := sl_head (some ⟨b0, o0, none⟩) vs.length c q (by omega)
      have hbr : Below w.heap.size w wr := HB1.out.trans (HR.out.b.mono hs1)
      have HL : Hid (Calls Tryd.prog 18 #[.slice (some ⟨b0, o0, none⟩) q c] wr fun e w' => e = .returned (.string (jnS (vs.take q))) ∧ Below wr.heap.size wr w') :=
        xLine_at q (vs.take q) (by rw [List.length_take]; omega) b0 o0 c wr (by omega) (Nat.lt_of_lt_of_le hb0 hbr.size) (HR.out.fe.take q) (Wds.below (HR.out.wo.take q) hbr)
      generalize hjn : jnS (vs.take q) = s at HL HNX
      generalize hdl2 : (vs.drop q).length = dl at hs
      have HDL : Hid ((vs.drop q).length = dl) := hdl2
      clear hq hnext hjn hdl2 hbr
      go_wp2_with fail
      refine HL.out.mono ?_
      rintro e w2 ⟨rfl, hb2⟩
      have HO2 : Hid (StrsO w1.heap.size (.slice L done.length lc) done w2) := own_bel HR.out.ro hb2
      have hbw : Below w1.heap.size w1 w2 := HR.out.b.trans (hb2.mono hsr)
      have HBW : Hid (Below w1.heap.size w1 w2) := hbw
      have hs2 := hbw.size
      clear hbw hb2
      obtain ⟨i0, hi0, hz0, hz1, hz2⟩ := info_parts strInf
      go_wp2_with (at_builtin; refine wpList_append_lies _ rfl _ _ 22 rfl w1.heap.size 9 i0 _ 1 16 Tryd.underlying22 hi0 hz0 hz1 hz2 rfl (by decide) _ _ _ rfl (World.ownsRow.alloc HO2.out _) ⟨w2.heap.size, 0, none⟩ 1 1 [.string s] rfl rfl (cell_one_new w2 _ _) (by intro u hu; simp at hu; subst hu; rfl) (by decide) (by unfold maxLen; omega) (by omega) (by simp; omega) (w2.heap.size + 1) (by simp) ?_)
      intro g2 cap2 w3 hown3 hgrow3 hat3 hlt3
      have hb3 := (HBW.out.alloc (by omega) (.cells #[.string s] 9)).grown hgrow3 (by simp; omega) (fun j hj => (World.ownsRow.lt HO2.out j hj).1)
      have hO3 : StrsO w1.heap.size (.slice (some ⟨g2, 0, none⟩) (done ++ [s]).length cap2) (done ++ [s]) w3 := by
        show w3.ownsRow _ _ _ _ _ _
        rw [strCells_app, List.length_append]
        exact hown3
      have HN3 := (show Hid (_) from HNX.out g2 cap2 w3 hb3 hO3)
      clear hown3 hgrow3 hb3 hO3 hat3 hlt3
      go_wp2
      go_roundw
      case rel => exact ⟨k + 1, vs.drop q, done ++ [s], A', some ⟨g2, 0, none⟩, c - q, cap2, by rw [HDL.out], by rw [List.length_append]; rfl, by go_num, HN3.out⟩
      case measure => simp [intOf]; omega
    · have hki : ¬ (k : Int) < (ks.length : Int) := by omega
      have HE : Hid (fillL wd ws = done) := by
        show fillL wd ws = done
        have h1 := HR.out.cu
        rw [List.drop_eq_nil_of_le (by omega)] at h1
        have h2 : vs = [] := by
          by_cases h : vs = []
          · exact h
          · rw [cuts_cons wd h] at h1; cases h1
        rw [HR.out.li, h2, fillL_nil, List.append_nil]
      go_wp2
      go_ret2
      rw [HE.out]
      exact ⟨⟨L, lc, rfl, Joins.ownsRow_le HR.out.ro hs1⟩, HB1.out.trans (HR.out.b.mono hs1)⟩
end Go.Proofs.YtmpfffpkjnjhdabDoor
