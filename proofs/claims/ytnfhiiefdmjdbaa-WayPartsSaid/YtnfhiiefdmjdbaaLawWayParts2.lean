/- The walk of the law WayParts: the other cases. (Made by tools/gen_wayparts.py.) -/
import Derived.Test.YtnfhiiefdmjdbaaLawWayParts
namespace Go.Proofs.Ytnfhiiefdmjdbaa
open Go Go.RowKit

set_option maxRecDepth 100000 in
set_option maxHeartbeats 4000000 in
theorem wayParts_d (ds es : List Nd) (ws vs : List Int) (a o wa va : Option Addr) (cap cap2 wc vc : Nat) (hc : ds.length ≤ cap) (hc2 : es.length ≤ cap2) (hwc : ws.length ≤ wc) (hvc : vs.length ≤ vc) (hlw : ws.length ≤ 9223372036854775807) (hlv : vs.length ≤ 9223372036854775807) (hle : (es.length : Int) ≤ 140737488355328) (n : Int) (w : World) (hN : Nods w a ds) (hM : Nods w o es) (hI : Ints w wa ws) (hJ : Ints w va vs) (hwn : wa = none → ws = [] ∧ wc = 0) (hvn : va = none → vs = [] ∧ vc = 0) (u : List UInt8) (h : showD ds ws = .ok u) (hl : ds.length + es.length < 400) (v : List UInt8) (h2 : showD es vs = .ok v) (hn : n < 0 ∨ (¬ n < 0 ∧ 8 < n)) :
    Calls Try.prog 6 #[.slice a ds.length cap, .slice wa ws.length wc, .slice o es.length cap2, .slice va vs.length vc, .int .i64 n] w fun e w' => e = .returned (.bool true) ∧ Below w.heap.size w w' := by
  have HN : Hid (Nods w a ds) := hN
  have HM : Hid (Nods w o es) := hM
  have HI : Hid (Ints w wa ws) := hI
  have HJ : Hid (Ints w va vs) := hJ
  clear hN hM hI hJ
  have HR : Hid (showD ds ws = .ok u) := h
  have HRS : Hid (shS (showD ds ws) = ⟨u.toArray⟩ ∧ shE (showD ds ws) = 0) := ⟨by rw [h]; rfl, by rw [h]; rfl⟩
  obtain ⟨hu, hw4⟩ := showD_len h
  have hus : (⟨u.toArray⟩ : ByteArray).size ≤ 1600000 := by rw [← size_list]; simpa using hu
  have hd4 : ds.length ≤ 400 := (showD_ok h).2.1
  generalize hsx : (⟨u.toArray⟩ : ByteArray) = sx at HRS hus
  have HSX : Hid ((⟨u.toArray⟩ : ByteArray) = sx) := hsx
  clear h hsx
  have HRS2 : Hid (shS (showD es vs) = ⟨v.toArray⟩ ∧ shE (showD es vs) = 0) := ⟨by rw [h2]; rfl, by rw [h2]; rfl⟩
  obtain ⟨hv, hv4⟩ := showD_len h2
  have hvs : (⟨v.toArray⟩ : ByteArray).size ≤ 1600000 := by rw [← size_list]; simpa using hv
  have q := showD_both HR.out h2 hl
  have HD : Hid (ds ≠ []) := (show ds ≠ [] from fun hh => by obtain ⟨_, _, t, _, e, _⟩ := showD_ok HR.out; have := t.pos; rw [← e, hh] at this; cases this)
  have HE0 : Hid (es ≠ []) := (show es ≠ [] from fun hh => by obtain ⟨_, _, t, _, e, _⟩ := showD_ok h2; have := t.pos; rw [← e, hh] at this; cases this)
  generalize hsy : (⟨v.toArray⟩ : ByteArray) = sy at HRS2 hvs
  generalize hg : (⟨6, ⟨#[]⟩, 0⟩ :: (ds ++ es) : List Nd) = gs at q
  have HG : Hid ((⟨6, ⟨#[]⟩, 0⟩ :: (ds ++ es) : List Nd) = gs) := hg
  have HGL : Hid (gs.length = ds.length + es.length + 1) := (show _ = _ by rw [← hg]; simp)
  generalize hbs : ws ++ vs = bs at q
  have HBS : Hid (ws ++ vs = bs) := hbs
  have HBL : Hid (bs.length = ws.length + vs.length) := (show _ = _ by rw [← hbs]; simp)
  have HQ : Hid (shS (showD gs bs) = sx ++ sy ∧ shE (showD gs bs) = 0) := ⟨by rw [q, ← HSX.out, ← hsy]; exact bytes_inj (by simp [shS]), by rw [q]; rfl⟩
  clear h2 hsy hg hbs q
  have hl' : ¬ 400 ≤ (ds.length : Int) + es.length := by omega
  rcases hn with hn | ⟨hn, hn2⟩
  all_goals
    go_enter Try.func6, Try.ntmps6
    go_wp2_with fail
    refine (fact_show w).mono ?_
    rintro e w1 ⟨rfl, b1⟩
    go_wp2_with fail
    refine (wshow_any ds ws a wa cap wc hc hwc hlw _ (HN.out.below b1) (HI.out.below b1)).mono ?_
    rintro e w2 ⟨rfl, b2⟩
    have B2 := belowT b1 (Nat.le_refl _) b2
    clear b1 b2
    rw [HRS.out.1, HRS.out.2, errN_0]
    go_wp2_with fail
    refine (wshow_any es vs o va cap2 vc hc2 hvc hlv _ (HM.out.below B2) (HJ.out.below B2)).mono ?_
    rintro e w3 ⟨rfl, b3⟩
    have B3 := belowT B2 (Nat.le_refl _) b3
    clear B2 b3
    rw [HRS2.out.1, HRS2.out.2, errN_0]
    have HO3 : Hid (w3.ownsRow w3.heap.size 3 1 (.slice none 0 0) 0 (intCells [])) := World.ownsRow_nil _ _ _ _
    go_wp2_with (at_builtin; refine wpList_append_ints rfl _ _ rfl w3.heap.size _ _ [] rfl HO3.out wa ws wc rfl (HI.out.below B3) hwn (by omega) (Nat.le_refl _) ?_)
    intro v4 w4 hown4 hgrow4
    have h34 : Below w3.heap.size w3 w4 := (Below.refl _ w3).grown hgrow4 (Nat.le_refl _) (fun k hk => by simp [Value.ownBlock] at hk)
    have B4 := belowT B3 (Nat.le_refl _) h34
    have HO4 : Hid (w4.ownsRow w3.heap.size 3 1 v4 ws.length (intCells ws)) := hown4
    have hs34 := h34.size
    clear hown4 hgrow4 HO3
    go_wp2_with (at_builtin; refine wpList_append_ints rfl _ _ rfl w3.heap.size _ _ ws rfl HO4.out va vs vc rfl (HJ.out.below B4) hvn (by omega) hs34 ?_)
    intro v5 w5 hown5 hgrow5
    rw [HBS.out] at hown5
    have h35 : Below w3.heap.size w3 w5 := h34.grown hgrow5 hs34 (fun k hk => (HO4.out.lt k hk).1)
    have B5 := belowT B3 (Nat.le_refl _) h35
    obtain ⟨a5, c5, rfl⟩ : ∃ a5 c5, v5 = .slice a5 bs.length c5 := by
      obtain ⟨a5, c5, e⟩ := own_form hown5
      exact ⟨a5, c5, by rw [e, HBL.out]⟩
    obtain ⟨_, _, q2, q3, _⟩ := own_ints hown5
    have HB5 : Hid (Ints w5 a5 bs) := q3
    clear hown5 hgrow5 HO4 q3 h34 h35 B4 hs34 B3
    go_wp2_with fail
    refine (together_any ds es a o cap cap2 _ (HN.out.below B5) (HM.out.below B5) HD.out HE0.out (by omega)).mono ?_
    rintro e w6 ⟨⟨a6, k6, rfl, hk6, hn6⟩, b6⟩
    have B6 := belowT B5 (Nat.le_refl _) b6
    rw [HG.out] at hn6
    rw [← HGL.out] at hk6 ⊢
    have HN6 : Hid (Nods w6 a6 gs) := hn6
    have HB6 : Hid (Ints w6 a5 bs) := HB5.out.below b6
    clear b6 hn6 B5
    go_wp2_with fail
    refine (wshow_any gs bs a6 a5 k6 c5 hk6 q2 (by have := HBL.out; omega) _ HN6.out HB6.out).mono ?_
    rintro e w7 ⟨rfl, b7⟩
    have B7 := belowT B6 (Nat.le_refl _) b7
    rw [HQ.out.1, HQ.out.2, errN_0]
    clear b7 B6
    go_wp2
    go_ret
    exact ⟨rfl, B7⟩
end Go.Proofs.Ytnfhiiefdmjdbaa
