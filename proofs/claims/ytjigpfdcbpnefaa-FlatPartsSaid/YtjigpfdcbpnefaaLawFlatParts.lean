/- The walk of the law FlatParts. (Made by tools/gen_flatparts.py.) -/
import Derived.Test.YtjigpfdcbpnefaaFlatF
import Derived.Test.YtjigpfdcbpnefaaNodTog
namespace Go.Proofs.Ytjigpfdcbpnefaa
open Go Go.RowKit

theorem nods_single {w : World} {b o : Nat} {x : Nd} (hb : b < w.heap.size) (c1 : w.cell? ⟨b, o, none⟩ = some (.int .i64 x.op)) (c2 : w.cell? ⟨b, o + 1, none⟩ = some (.string x.tx)) (c3 : w.cell? ⟨b, o + 2, none⟩ = some (.int .i64 x.n)) : Nods w (some ⟨b, o, none⟩) [x] := by
  intro i hi
  obtain rfl : i = 0 := by simp at hi; omega
  exact ⟨b, o, rfl, hb, by simpa using c1, by simpa using c2, by simpa using c3⟩

/-- The law's fact: two docs as one .. -/
theorem fact_together (w : World) : Calls Try.prog 9 #[.slice (some ⟨w.heap.size, 0, none⟩) 1 1, .slice (some ⟨w.heap.size + 1, 0, none⟩) 1 1] ((w.alloc (.cells #[.int .i64 1, .string ⟨#[97]⟩, .int .i64 0] 37)).alloc (.cells #[.int .i64 3, .string ⟨#[]⟩, .int .i64 0] 37))
    fun e w' => (∃ a' cap', e = .returned (.slice a' 3 cap') ∧ 3 ≤ cap' ∧ Nods w' a' [⟨6, ⟨#[]⟩, 0⟩, ⟨1, ⟨#[97]⟩, 0⟩, ⟨3, ⟨#[]⟩, 0⟩]) ∧ Below w.heap.size w w' := by
  refine (together_any [⟨1, ⟨#[97]⟩, 0⟩] [⟨3, ⟨#[]⟩, 0⟩] _ _ 1 1 _ (nods_single (by simp; omega) (by simp [go_sem]) (by simp [go_sem]) (by simp [go_sem])) (nods_single (by simp) (by simp [go_sem]) (by simp [go_sem]) (by simp [go_sem])) (by simp) (by simp) (by simp)).mono ?_
  rintro e w' ⟨⟨a', cap', rfl, hc, hn⟩, hb⟩
  exact ⟨⟨a', cap', rfl, hc, hn⟩, (((Below.refl _ w).alloc (Nat.le_refl _) _).alloc (by simp) _).trans (hb.mono (by simp; omega))⟩
/-- .. in a line. -/
theorem fact_flat (a : Option Addr) (cap : Nat) (hc : 3 ≤ cap) (w : World) (hN : Nods w a [⟨6, ⟨#[]⟩, 0⟩, ⟨1, ⟨#[97]⟩, 0⟩, ⟨3, ⟨#[]⟩, 0⟩]) :
    Calls Try.prog 8 #[.slice a 3 cap] w fun e w' => e = .returned (.tuple #[.string ⟨#[97]⟩, .bool true, .nilIface]) ∧ Below w.heap.size w w' := by
  have ht : Tr.Wf (.two ⟨6, ⟨#[]⟩, 0⟩ (.leaf ⟨1, ⟨#[97]⟩, 0⟩) (.leaf ⟨3, ⟨#[]⟩, 0⟩)) := ⟨by decide +kernel, by decide +kernel, ⟨by decide +kernel, by decide +kernel⟩, ⟨by decide +kernel, by decide +kernel⟩⟩
  exact flat_ok [⟨6, ⟨#[]⟩, 0⟩, ⟨1, ⟨#[97]⟩, 0⟩, ⟨3, ⟨#[]⟩, 0⟩] _ rfl ht (by simp) a cap hc w hN


set_option maxRecDepth 100000 in
set_option maxHeartbeats 4000000 in
theorem flatParts_a (ds es : List Nd) (a o : Option Addr) (cap cap2 : Nat) (hc : ds.length ≤ cap) (hc2 : es.length ≤ cap2) (n : Int) (w : World) (hN : Nods w a ds) (hM : Nods w o es) (h : docF ds ≠ 0) :
    Calls Try.prog 4 #[.slice a ds.length cap, .slice o es.length cap2, .int .i64 n] w fun e w' => e = .returned (.bool true) ∧ Below w.heap.size w w' := by
  have HN : Hid (Nods w a ds) := hN
  have HM : Hid (Nods w o es) := hM
  clear hN hM
  have H : Hid (docF ds ≠ 0) := h
  clear h
  go_enter Try.func4, Try.ntmps4
  go_wp2_with fail
  refine (fact_together w).mono ?_
  rintro e w1 ⟨⟨a1, k1, rfl, hk1, hn1⟩, b1⟩
  have HN1 : Hid (Nods w1 a1 [⟨6, ⟨#[]⟩, 0⟩, ⟨1, ⟨#[97]⟩, 0⟩, ⟨3, ⟨#[]⟩, 0⟩]) := hn1
  clear hn1
  go_wp2_with fail
  refine (fact_flat a1 k1 hk1 _ HN1.out).mono ?_
  rintro e w2 ⟨rfl, b2⟩
  have B2 := belowT b1 (Nat.le_refl _) b2
  clear b1 b2
  go_wp2_with fail
  refine (flat_any ds a cap hc _ (HN.out.below B2)).mono ?_
  rintro e w3 ⟨rfl, b3⟩
  have B3 := belowT B2 (Nat.le_refl _) b3
  clear B2 b3
  go_wp2_with fail
  refine (flat_any es o cap2 hc2 _ (HM.out.below B3)).mono ?_
  rintro e w4 ⟨rfl, b4⟩
  have B4 := belowT B3 (Nat.le_refl _) b4
  clear B3 b4
  rw [errN_ne H.out]
  go_wp2
  go_ret
  exact ⟨rfl, B4⟩

set_option maxRecDepth 100000 in
set_option maxHeartbeats 4000000 in
theorem flatParts_b (ds es : List Nd) (a o : Option Addr) (cap cap2 : Nat) (hc : ds.length ≤ cap) (hc2 : es.length ≤ cap2) (n : Int) (w : World) (hN : Nods w a ds) (hM : Nods w o es) (h : docF ds = 0) (h2 : docF es ≠ 0) :
    Calls Try.prog 4 #[.slice a ds.length cap, .slice o es.length cap2, .int .i64 n] w fun e w' => e = .returned (.bool true) ∧ Below w.heap.size w w' := by
  have HN : Hid (Nods w a ds) := hN
  have HM : Hid (Nods w o es) := hM
  clear hN hM
  have H : Hid (docF ds = 0) := h
  have H2 : Hid (docF es ≠ 0) := h2
  clear h h2
  go_enter Try.func4, Try.ntmps4
  go_wp2_with fail
  refine (fact_together w).mono ?_
  rintro e w1 ⟨⟨a1, k1, rfl, hk1, hn1⟩, b1⟩
  have HN1 : Hid (Nods w1 a1 [⟨6, ⟨#[]⟩, 0⟩, ⟨1, ⟨#[97]⟩, 0⟩, ⟨3, ⟨#[]⟩, 0⟩]) := hn1
  clear hn1
  go_wp2_with fail
  refine (fact_flat a1 k1 hk1 _ HN1.out).mono ?_
  rintro e w2 ⟨rfl, b2⟩
  have B2 := belowT b1 (Nat.le_refl _) b2
  clear b1 b2
  go_wp2_with fail
  refine (flat_any ds a cap hc _ (HN.out.below B2)).mono ?_
  rintro e w3 ⟨rfl, b3⟩
  have B3 := belowT B2 (Nat.le_refl _) b3
  clear B2 b3
  go_wp2_with fail
  refine (flat_any es o cap2 hc2 _ (HM.out.below B3)).mono ?_
  rintro e w4 ⟨rfl, b4⟩
  have B4 := belowT B3 (Nat.le_refl _) b4
  clear B3 b4
  rw [H.out, errN_0, errN_ne H2.out]
  go_wp2
  go_ret
  exact ⟨rfl, B4⟩

set_option maxRecDepth 100000 in
set_option maxHeartbeats 4000000 in
theorem flatParts_c (ds es : List Nd) (a o : Option Addr) (cap cap2 : Nat) (hc : ds.length ≤ cap) (hc2 : es.length ≤ cap2) (n : Int) (w : World) (hN : Nods w a ds) (hM : Nods w o es) (h : docF ds = 0) (h2 : docF es = 0) (hl : 400 ≤ (ds.length : Int) + es.length) :
    Calls Try.prog 4 #[.slice a ds.length cap, .slice o es.length cap2, .int .i64 n] w fun e w' => e = .returned (.bool true) ∧ Below w.heap.size w w' := by
  have HN : Hid (Nods w a ds) := hN
  have HM : Hid (Nods w o es) := hM
  clear hN hM
  have H : Hid (docF ds = 0) := h
  have H2 : Hid (docF es = 0) := h2
  obtain ⟨l1, _, _⟩ := docF_zero h
  obtain ⟨l2, _, _⟩ := docF_zero h2
  clear h h2
  go_enter Try.func4, Try.ntmps4
  go_wp2_with fail
  refine (fact_together w).mono ?_
  rintro e w1 ⟨⟨a1, k1, rfl, hk1, hn1⟩, b1⟩
  have HN1 : Hid (Nods w1 a1 [⟨6, ⟨#[]⟩, 0⟩, ⟨1, ⟨#[97]⟩, 0⟩, ⟨3, ⟨#[]⟩, 0⟩]) := hn1
  clear hn1
  go_wp2_with fail
  refine (fact_flat a1 k1 hk1 _ HN1.out).mono ?_
  rintro e w2 ⟨rfl, b2⟩
  have B2 := belowT b1 (Nat.le_refl _) b2
  clear b1 b2
  go_wp2_with fail
  refine (flat_any ds a cap hc _ (HN.out.below B2)).mono ?_
  rintro e w3 ⟨rfl, b3⟩
  have B3 := belowT B2 (Nat.le_refl _) b3
  clear B2 b3
  go_wp2_with fail
  refine (flat_any es o cap2 hc2 _ (HM.out.below B3)).mono ?_
  rintro e w4 ⟨rfl, b4⟩
  have B4 := belowT B3 (Nat.le_refl _) b4
  clear B3 b4
  rw [H.out, H2.out, errN_0]
  go_wp2
  go_ret
  exact ⟨rfl, B4⟩

set_option maxRecDepth 100000 in
set_option maxHeartbeats 4000000 in
theorem flatParts_d (ds es : List Nd) (a o : Option Addr) (cap cap2 : Nat) (hc : ds.length ≤ cap) (hc2 : es.length ≤ cap2) (n : Int) (w : World) (hN : Nods w a ds) (hM : Nods w o es) (h : docF ds = 0) (h2 : docF es = 0) (hl : ds.length + es.length < 400) (hn : n < 0 ∨ (¬ n < 0 ∧ 8 < n)) :
    Calls Try.prog 4 #[.slice a ds.length cap, .slice o es.length cap2, .int .i64 n] w fun e w' => e = .returned (.bool true) ∧ Below w.heap.size w w' := by
  have HN : Hid (Nods w a ds) := hN
  have HM : Hid (Nods w o es) := hM
  clear hN hM
  have H : Hid (docF ds = 0) := h
  have H2 : Hid (docF es = 0) := h2
  obtain ⟨l1, _, e1⟩ := docF_zero h
  obtain ⟨l2, _, e2⟩ := docF_zero h2
  have HD : Hid (ds ≠ []) := fun hh => by subst hh; cases e1
  have HE : Hid (es ≠ []) := fun hh => by subst hh; cases e2
  obtain ⟨q0, q1, q2⟩ := fl_both h h2 hl
  generalize hg : (⟨6, ⟨#[]⟩, 0⟩ :: (ds ++ es) : List Nd) = gs at q0 q1 q2
  have HG : Hid ((⟨6, ⟨#[]⟩, 0⟩ :: (ds ++ es) : List Nd) = gs) := hg
  have HGL : Hid (gs.length = ds.length + es.length + 1) := (show _ = _ by rw [← hg]; simp)
  have hl' : ¬ 400 ≤ (ds.length : Int) + es.length := by omega
  have hs1 : (flS ds).size ≤ 8000 := by
    obtain ⟨_, s1, _⟩ := fl_tree (docT_wf h) (docT_nodes h) l1
    have := flat_le _ (docT_wf h)
    rw [← docT_nodes h] at this
    rw [s1, line_size]
    omega
  have hs2 : (flS es).size ≤ 8000 := by
    obtain ⟨_, s1, _⟩ := fl_tree (docT_wf h2) (docT_nodes h2) l2
    have := flat_le _ (docT_wf h2)
    rw [← docT_nodes h2] at this
    rw [s1, line_size]
    omega
  generalize hx : flS ds = s1 at q2 hs1
  generalize hy : flS es = s2 at q2 hs2
  have HX : Hid (flS ds = s1) := hx
  have HY : Hid (flS es = s2) := hy
  have HQ0 : Hid (docF gs = 0) := q0
  have HQ1 : Hid (flB gs = (flB ds && flB es)) := q1
  have HQ2 : Hid (flS gs = if (flB ds && flB es) = true then s1 ++ s2 else ⟨#[]⟩) := q2
  clear h h2 e1 e2 q0 q1 q2 hg hx hy
  rcases hn with hn | ⟨hn, hn2⟩
  all_goals
    cases hA : flB ds <;> cases hB : flB es
    all_goals
      have HA := (show Hid (flB ds = _) from hA)
      have HB := (show Hid (flB es = _) from hB)
      clear hA hB
      go_enter Try.func4, Try.ntmps4
      go_wp2_with fail
      refine (fact_together w).mono ?_
      rintro e w1 ⟨⟨a1, k1, rfl, hk1, hn1⟩, b1⟩
      have HN1 : Hid (Nods w1 a1 [⟨6, ⟨#[]⟩, 0⟩, ⟨1, ⟨#[97]⟩, 0⟩, ⟨3, ⟨#[]⟩, 0⟩]) := hn1
      clear hn1
      go_wp2_with fail
      refine (fact_flat a1 k1 hk1 _ HN1.out).mono ?_
      rintro e w2 ⟨rfl, b2⟩
      have B2 := belowT b1 (Nat.le_refl _) b2
      clear b1 b2
      go_wp2_with fail
      refine (flat_any ds a cap hc _ (HN.out.below B2)).mono ?_
      rintro e w3 ⟨rfl, b3⟩
      have B3 := belowT B2 (Nat.le_refl _) b3
      clear B2 b3
      go_wp2_with fail
      refine (flat_any es o cap2 hc2 _ (HM.out.below B3)).mono ?_
      rintro e w4 ⟨rfl, b4⟩
      have B4 := belowT B3 (Nat.le_refl _) b4
      clear B3 b4
      rw [H.out, H2.out, HX.out, HY.out, HA.out, HB.out, errN_0]
      go_wp2_with fail
      refine (together_any ds es a o cap cap2 _ (HN.out.below B4) (HM.out.below B4) HD.out HE.out (by omega)).mono ?_
      rintro e w5 ⟨⟨a5, k5, rfl, hk5, hn5⟩, b5⟩
      have B5 := belowT B4 (Nat.le_refl _) b5
      rw [HG.out] at hn5
      rw [← HGL.out] at hk5 ⊢
      have HN5 : Hid (Nods w5 a5 gs) := hn5
      clear b5 hn5
      go_wp2_with fail
      refine (flat_any gs a5 k5 hk5 _ HN5.out).mono ?_
      rintro e w6 ⟨rfl, b6⟩
      have B6 := belowT B5 (Nat.le_refl _) b6
      rw [HQ0.out, HQ1.out, HQ2.out, HA.out, HB.out, errN_0]
      clear b6
      go_wp2
      go_ret
      exact ⟨rfl, B6⟩

set_option maxRecDepth 100000 in
set_option maxHeartbeats 4000000 in
theorem flatParts_e (ds es : List Nd) (a o : Option Addr) (cap cap2 : Nat) (hc : ds.length ≤ cap) (hc2 : es.length ≤ cap2) (n : Int) (w : World) (hN : Nods w a ds) (hM : Nods w o es) (h : docF ds = 0) (h2 : docF es = 0) (hl : ds.length + es.length < 400) (hn : ¬ n < 0) (hn2 : ¬ 8 < n) :
    Calls Try.prog 4 #[.slice a ds.length cap, .slice o es.length cap2, .int .i64 n] w fun e w' => e = .returned (.bool true) ∧ Below w.heap.size w w' := by
  have HN : Hid (Nods w a ds) := hN
  have HM : Hid (Nods w o es) := hM
  clear hN hM
  obtain ⟨i0, hi, hz0, hz1, hz2⟩ := info_parts ndInfo
  obtain ⟨p0, p1, p2⟩ := fl_group (n := n) h (by omega) (by omega) (by
    obtain ⟨_, _, e2⟩ := docF_zero h2
    have : es ≠ [] := fun hh => by subst hh; cases e2
    have := List.length_pos_iff.2 this
    omega)
  generalize hg : (⟨8, ⟨#[]⟩, 0⟩ :: ⟨7, ⟨#[]⟩, n⟩ :: ds : List Nd) = rs at p0 p1 p2
  have HRS : Hid ((⟨8, ⟨#[]⟩, 0⟩ :: ⟨7, ⟨#[]⟩, n⟩ :: ds : List Nd) = rs) := hg
  have HRL : Hid (rs.length = 2 + ds.length) := (show _ = _ by rw [← hg]; simp; omega)
  have HP0 : Hid (docF rs = 0) := p0
  have HP1 : Hid (flB rs = flB ds) := p1
  have HP2 : Hid (flS rs = flS ds) := p2
  clear hg p0 p1 p2
  have H : Hid (docF ds = 0) := h
  have H2 : Hid (docF es = 0) := h2
  obtain ⟨l1, _, e1⟩ := docF_zero h
  obtain ⟨l2, _, e2⟩ := docF_zero h2
  have HD : Hid (ds ≠ []) := fun hh => by subst hh; cases e1
  have HE : Hid (es ≠ []) := fun hh => by subst hh; cases e2
  obtain ⟨q0, q1, q2⟩ := fl_both h h2 hl
  generalize hg : (⟨6, ⟨#[]⟩, 0⟩ :: (ds ++ es) : List Nd) = gs at q0 q1 q2
  have HG : Hid ((⟨6, ⟨#[]⟩, 0⟩ :: (ds ++ es) : List Nd) = gs) := hg
  have HGL : Hid (gs.length = ds.length + es.length + 1) := (show _ = _ by rw [← hg]; simp)
  have hl' : ¬ 400 ≤ (ds.length : Int) + es.length := by omega
  have hs1 : (flS ds).size ≤ 8000 := by
    obtain ⟨_, s1, _⟩ := fl_tree (docT_wf h) (docT_nodes h) l1
    have := flat_le _ (docT_wf h)
    rw [← docT_nodes h] at this
    rw [s1, line_size]
    omega
  have hs2 : (flS es).size ≤ 8000 := by
    obtain ⟨_, s1, _⟩ := fl_tree (docT_wf h2) (docT_nodes h2) l2
    have := flat_le _ (docT_wf h2)
    rw [← docT_nodes h2] at this
    rw [s1, line_size]
    omega
  generalize hx : flS ds = s1 at q2 hs1
  generalize hy : flS es = s2 at q2 hs2
  have HX : Hid (flS ds = s1) := hx
  have HY : Hid (flS es = s2) := hy
  have HQ0 : Hid (docF gs = 0) := q0
  have HQ1 : Hid (flB gs = (flB ds && flB es)) := q1
  have HQ2 : Hid (flS gs = if (flB ds && flB es) = true then s1 ++ s2 else ⟨#[]⟩) := q2
  clear h h2 e1 e2 q0 q1 q2 hg hx hy
  have hel := List.length_pos_iff.2 HE.out
  obtain ⟨bd, od, rfl, hbd⟩ := nods_ne HN.out HD.out
  cases hA : flB ds <;> cases hB : flB es
  all_goals
    have HA := (show Hid (flB ds = _) from hA)
    have HB := (show Hid (flB es = _) from hB)
    clear hA hB
    go_enter Try.func4, Try.ntmps4
    go_wp2_with fail
    refine (fact_together w).mono ?_
    rintro e w1 ⟨⟨a1, k1, rfl, hk1, hn1⟩, b1⟩
    have HN1 : Hid (Nods w1 a1 [⟨6, ⟨#[]⟩, 0⟩, ⟨1, ⟨#[97]⟩, 0⟩, ⟨3, ⟨#[]⟩, 0⟩]) := hn1
    clear hn1
    go_wp2_with fail
    refine (fact_flat a1 k1 hk1 _ HN1.out).mono ?_
    rintro e w2 ⟨rfl, b2⟩
    have B2 := belowT b1 (Nat.le_refl _) b2
    clear b1 b2
    go_wp2_with fail
    refine (flat_any ds (some ⟨bd, od, none⟩) cap hc _ (HN.out.below B2)).mono ?_
    rintro e w3 ⟨rfl, b3⟩
    have B3 := belowT B2 (Nat.le_refl _) b3
    clear B2 b3
    go_wp2_with fail
    refine (flat_any es o cap2 hc2 _ (HM.out.below B3)).mono ?_
    rintro e w4 ⟨rfl, b4⟩
    have B4 := belowT B3 (Nat.le_refl _) b4
    clear B3 b4
    rw [H.out, H2.out, HX.out, HY.out, HA.out, HB.out, errN_0]
    go_wp2_with fail
    refine (together_any ds es (some ⟨bd, od, none⟩) o cap cap2 _ (HN.out.below B4) (HM.out.below B4) HD.out HE.out (by omega)).mono ?_
    rintro e w5 ⟨⟨a5, k5, rfl, hk5, hn5⟩, b5⟩
    have B5 := belowT B4 (Nat.le_refl _) b5
    rw [HG.out] at hn5
    rw [← HGL.out] at hk5 ⊢
    have HN5 : Hid (Nods w5 a5 gs) := hn5
    clear b5 hn5
    go_wp2_with fail
    refine (flat_any gs a5 k5 hk5 _ HN5.out).mono ?_
    rintro e w6 ⟨rfl, b6⟩
    have B6 := belowT B5 (Nat.le_refl _) b6
    rw [HQ0.out, HQ1.out, HQ2.out, HA.out, HB.out, errN_0]
    clear b6
    have HO : Hid ((w6.alloc (.cells #[.int .i64 8, .string ⟨#[]⟩, .int .i64 0, .int .i64 7, .string ⟨#[]⟩, .int .i64 n] 37)).ownsRow w6.heap.size 37 3 (.slice (some ⟨w6.heap.size, 0, none⟩) 2 2) 2 (ndCells [⟨8, ⟨#[]⟩, 0⟩, ⟨7, ⟨#[]⟩, n⟩])) :=
      ⟨rfl, .inr ⟨w6.heap.size, 2, #[.int .i64 8, .string ⟨#[]⟩, .int .i64 0, .int .i64 7, .string ⟨#[]⟩, .int .i64 n], rfl, Nat.le_refl _, heap_alloc_new w6 _, Nat.le_refl _, by unfold maxLen; decide, rfl, rfl⟩⟩
    go_wp2_with (at_builtin; refine wpList_append_own _ rfl _ _ 32 rfl w6.heap.size 37 i0 _ 3 32 Try.underlying32 hi hz0 hz1 hz2 rfl (by decide) _ _ _ rfl HO.out ⟨bd, od, none⟩ ds.length cap (ndCells ds) rfl (ndCells_len ds) ?c1 (ndCells_one ds) ?c3 ?c4 ?c5 ?_)
    case c1 => exact nods_news ((HN.out.below B6).alloc _)
    case c3 => unfold maxLen; omega
    case c4 => omega
    case c5 => simp
    intro v7 w7 hown7 hgrow7 _
    have B7 : Below w.heap.size w w7 := belowT B6 (Nat.le_refl _) (((Below.refl _ w6).alloc (Nat.le_refl _) _).grown hgrow7 (by simp) (fun k hk => by simp only [Value.ownBlock, Option.some.injEq] at hk; omega))
    obtain ⟨a7, c7, rfl⟩ : ∃ a7 c7, v7 = .slice a7 rs.length c7 := by
      rw [HRL.out]
      rcases hown7.2 with ⟨_, h0⟩ | ⟨g, c, cur, hv, _⟩
      · omega
      · exact ⟨_, c, hv⟩
    have HO7 : Hid (w7.ownsRow w6.heap.size 37 3 (.slice a7 rs.length c7) rs.length (ndCells rs)) := by
      have e2 : ndCells rs = ndCells [⟨8, ⟨#[]⟩, 0⟩, ⟨7, ⟨#[]⟩, n⟩] ++ ndCells ds := by
        rw [← ndCells_app, ← HRS.out]; rfl
      show w7.ownsRow _ _ _ _ _ _
      rw [e2, HRL.out]
      rw [HRL.out] at hown7
      exact hown7
    clear hown7 hgrow7 HO
    have hrs : ¬ 400 < (rs.length : Int) := by rw [HRL.out]; omega
    obtain ⟨_, hc7, hn7⟩ := own_nods HO7.out
    have HN7 : Hid (Nods w7 a7 rs) := hn7
    clear hn7
    go_wp2_with fail
    refine (flat_any rs a7 c7 hc7 _ HN7.out).mono ?_
    rintro e w8 ⟨rfl, b8⟩
    have B8 := belowT B7 (Nat.le_refl _) b8
    rw [HP0.out, HP1.out, HP2.out, HX.out, HA.out, errN_0]
    go_wp2
    go_ret
    exact ⟨by rfl, B8⟩

theorem flatParts_any (ds es : List Nd) (a o : Option Addr) (cap cap2 : Nat) (hc : ds.length ≤ cap) (hc2 : es.length ≤ cap2) (n : Int) (w : World) (hN : Nods w a ds) (hM : Nods w o es) :
    Calls Try.prog 4 #[.slice a ds.length cap, .slice o es.length cap2, .int .i64 n] w fun e w' => e = .returned (.bool true) ∧ Below w.heap.size w w' := by
  by_cases h : docF ds = 0
  · by_cases h2 : docF es = 0
    · by_cases hl : ds.length + es.length < 400
      · by_cases h3 : n < 0
        · exact flatParts_d ds es a o cap cap2 hc hc2 n w hN hM h h2 hl (.inl h3)
        · by_cases h4 : 8 < n
          · exact flatParts_d ds es a o cap cap2 hc hc2 n w hN hM h h2 hl (.inr ⟨h3, h4⟩)
          · exact flatParts_e ds es a o cap cap2 hc hc2 n w hN hM h h2 hl h3 h4
      · exact flatParts_c ds es a o cap cap2 hc hc2 n w hN hM h h2 (by omega)
    · exact flatParts_b ds es a o cap cap2 hc hc2 n w hN hM h h2
  · exact flatParts_a ds es a o cap cap2 hc hc2 n w hN hM h
end Go.Proofs.Ytjigpfdcbpnefaa
