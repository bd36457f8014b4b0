/- The walk of the law WayParts: what its cases share, and those that end early. (Made by tools/gen_wayparts.py.) -/
import Derived.Test.YtnfhiiefdmjdbaaShowW
import Derived.Test.YtnfhiiefdmjdbaaIntApp
import Derived.Test.YtnfhiiefdmjdbaaNodTog
namespace Go.Proofs.Ytnfhiiefdmjdbaa
open Go Go.RowKit

theorem own_form {w : World} {B e size n : Nat} {v : Value} {xs : List Value} (h : w.ownsRow B e size v n xs) : ∃ a cap, v = .slice a n cap := by
  rcases h.2 with ⟨hv, h0⟩ | ⟨g, c, cur, hv, _⟩
  · exact ⟨none, 0, by rw [hv, h0]⟩
  · exact ⟨_, c, hv⟩

theorem shS_ok (u : List UInt8) : shS (.ok u) = ⟨u.toArray⟩ := rfl

/-- The law's fact. -/
theorem fact_show (w : World) : Calls Try.prog 14 #[.slice (some ⟨w.heap.size, 0, none⟩) 2 2, .slice none 0 0] (w.alloc (.cells #[.int .i64 7, .string ⟨#[]⟩, .int .i64 2, .int .i64 4, .string ⟨#[]⟩, .int .i64 0] 37))
    fun e w' => e = .returned (.tuple #[.string ⟨#[10, 32, 32]⟩, .nilIface]) ∧ Below w.heap.size w w' := by
  have ht : Tr.Wf (.one ⟨7, ⟨#[]⟩, 2⟩ (.leaf ⟨4, ⟨#[]⟩, 0⟩)) := ⟨by decide +kernel, by decide +kernel, by decide +kernel, by decide +kernel⟩
  refine (wshow_any [⟨7, ⟨#[]⟩, 2⟩, ⟨4, ⟨#[]⟩, 0⟩] [] (some ⟨w.heap.size, 0, none⟩) none 2 0 (by simp) (by simp) (by simp) _ ?_ (fun i hi => by simp at hi)).mono ?_
  · intro i hi
    have h3 : i = 0 ∨ i = 1 := by simp at hi; omega
    rcases h3 with rfl | rfl
    all_goals exact ⟨w.heap.size, 0, rfl, by simp, by simp [go_sem], by simp [go_sem], by simp [go_sem]⟩
  · rintro e w' ⟨rfl, hb⟩
    refine ⟨?_, ((Below.refl _ w).alloc (Nat.le_refl _) _).trans (hb.mono (by simp))⟩
    rw [showD_tree (ds := [⟨7, ⟨#[]⟩, 2⟩, ⟨4, ⟨#[]⟩, 0⟩]) ht rfl (by simp)]
    rfl

set_option maxRecDepth 100000 in
set_option maxHeartbeats 4000000 in
theorem wayParts_a (ds es : List Nd) (ws vs : List Int) (a o wa va : Option Addr) (cap cap2 wc vc : Nat) (hc : ds.length ≤ cap) (_hc2 : es.length ≤ cap2) (hwc : ws.length ≤ wc) (_hvc : vs.length ≤ vc) (hlw : ws.length ≤ 9223372036854775807) (_hlv : vs.length ≤ 9223372036854775807) (_hle : (es.length : Int) ≤ 140737488355328) (n : Int) (w : World) (hN : Nods w a ds) (hM : Nods w o es) (hI : Ints w wa ws) (hJ : Ints w va vs) (er : Int) (h : showD ds ws = .error er) :
    Calls Try.prog 6 #[.slice a ds.length cap, .slice wa ws.length wc, .slice o es.length cap2, .slice va vs.length vc, .int .i64 n] w fun e w' => e = .returned (.bool true) ∧ Below w.heap.size w w' := by
  have HN : Hid (Nods w a ds) := hN
  have HM : Hid (Nods w o es) := hM
  have HI : Hid (Ints w wa ws) := hI
  have HJ : Hid (Ints w va vs) := hJ
  clear hN hM hI hJ
  have HE : Hid (shS (showD ds ws) = ⟨#[]⟩ ∧ shE (showD ds ws) = er ∧ er ≠ 0) := ⟨by rw [h]; rfl, by rw [h]; rfl, showD_err h⟩
  clear h
  go_enter Try.func6, Try.ntmps6
  go_wp2_with fail
  refine (fact_show w).mono ?_
  rintro e w1 ⟨rfl, b1⟩
  go_wp2_with fail
  refine (wshow_any ds ws a wa cap wc hc hwc hlw _ (HN.out.below b1) (HI.out.below b1)).mono ?_
  rintro e w2 ⟨rfl, b2⟩
  have B2 := belowT b1 (Nat.le_refl _) b2
  clear b1 b2
  rw [HE.out.1, HE.out.2.1, errN_ne HE.out.2.2]
  go_wp2
  go_ret
  exact ⟨rfl, B2⟩

set_option maxRecDepth 100000 in
set_option maxHeartbeats 4000000 in
theorem wayParts_b (ds es : List Nd) (ws vs : List Int) (a o wa va : Option Addr) (cap cap2 wc vc : Nat) (hc : ds.length ≤ cap) (_hc2 : es.length ≤ cap2) (hwc : ws.length ≤ wc) (_hvc : vs.length ≤ vc) (hlw : ws.length ≤ 9223372036854775807) (_hlv : vs.length ≤ 9223372036854775807) (hle : (es.length : Int) ≤ 140737488355328) (n : Int) (w : World) (hN : Nods w a ds) (hM : Nods w o es) (hI : Ints w wa ws) (hJ : Ints w va vs) (u : List UInt8) (h : showD ds ws = .ok u) (hl : 400 ≤ (ds.length : Int) + es.length) :
    Calls Try.prog 6 #[.slice a ds.length cap, .slice wa ws.length wc, .slice o es.length cap2, .slice va vs.length vc, .int .i64 n] w fun e w' => e = .returned (.bool true) ∧ Below w.heap.size w w' := by
  have HN : Hid (Nods w a ds) := hN
  have HM : Hid (Nods w o es) := hM
  have HI : Hid (Ints w wa ws) := hI
  have HJ : Hid (Ints w va vs) := hJ
  clear hN hM hI hJ
  have HR : Hid (showD ds ws = .ok u) := h
  have HRS : Hid (shS (showD ds ws) = ⟨u.toArray⟩ ∧ shE (showD ds ws) = 0) := ⟨by rw [h]; rfl, by rw [h]; rfl⟩
  obtain ⟨hu, hw4⟩ := showD_len h
  have hus : (⟨u.toArray⟩ : ByteArray).size ≤ 1600000 := by rw [← size_list]; simpa using hu
  have hd4 : ds.length ≤ 400 := (showD_ok h).2.1
  generalize hsx : (⟨u.toArray⟩ : ByteArray) = sx at HRS hus
  have HSX : Hid ((⟨u.toArray⟩ : ByteArray) = sx) := hsx
  clear h hsx
  go_enter Try.func6, Try.ntmps6
  go_wp2_with fail
  refine (fact_show w).mono ?_
  rintro e w1 ⟨rfl, b1⟩
  go_wp2_with fail
  refine (wshow_any ds ws a wa cap wc hc hwc hlw _ (HN.out.below b1) (HI.out.below b1)).mono ?_
  rintro e w2 ⟨rfl, b2⟩
  have B2 := belowT b1 (Nat.le_refl _) b2
  clear b1 b2
  rw [HRS.out.1, HRS.out.2, errN_0]
  go_wp2
  go_ret
  exact ⟨rfl, B2⟩

set_option maxRecDepth 100000 in
set_option maxHeartbeats 4000000 in
theorem wayParts_c (ds es : List Nd) (ws vs : List Int) (a o wa va : Option Addr) (cap cap2 wc vc : Nat) (hc : ds.length ≤ cap) (hc2 : es.length ≤ cap2) (hwc : ws.length ≤ wc) (hvc : vs.length ≤ vc) (hlw : ws.length ≤ 9223372036854775807) (hlv : vs.length ≤ 9223372036854775807) (hle : (es.length : Int) ≤ 140737488355328) (n : Int) (w : World) (hN : Nods w a ds) (hM : Nods w o es) (hI : Ints w wa ws) (hJ : Ints w va vs) (u : List UInt8) (h : showD ds ws = .ok u) (hl : ds.length + es.length < 400) (er : Int) (h2 : showD es vs = .error er) (hn : n < 0 ∨ (¬ n < 0 ∧ 8 < n)) :
    Calls Try.prog 6 #[.slice a ds.length cap, .slice wa ws.length wc, .slice o es.length cap2, .slice va vs.length vc, .int .i64 n] w fun e w' => e = .returned (.bool true) ∧ Below w.heap.size w w' := by
  have HN : Hid (Nods w a ds) := hN
  have HM : Hid (Nods w o es) := hM
  have HI : Hid (Ints w wa ws) := hI
  have HJ : Hid (Ints w va vs) := hJ
  clear hN hM hI hJ
  have HR : Hid (showD ds ws = .ok u) := h
  have HRS : Hid (shS (showD ds ws) = ⟨u.toArray⟩ ∧ shE (showD ds ws) = 0) := ⟨by rw [h]; rfl, by rw [h]; rfl⟩
  obtain ⟨hu, hw4⟩ := showD_len h
  have hus : (⟨u.toArray⟩ : ByteArray).size ≤ 1600000 := by rw [← size_list]; simpa using hu
  have hd4 : ds.length ≤ 400 := (showD_ok h).2.1
  generalize hsx : (⟨u.toArray⟩ : ByteArray) = sx at HRS hus
  have HSX : Hid ((⟨u.toArray⟩ : ByteArray) = sx) := hsx
  clear h hsx
  have hl' : ¬ 400 ≤ (ds.length : Int) + es.length := by omega
  have HE : Hid (shS (showD es vs) = ⟨#[]⟩ ∧ shE (showD es vs) = er ∧ er ≠ 0) := ⟨by rw [h2]; rfl, by rw [h2]; rfl, showD_err h2⟩
  clear h2
  rcases hn with hn | ⟨hn, hn2⟩
  all_goals
    go_enter Try.func6, Try.ntmps6
    go_wp2_with fail
    refine (fact_show w).mono ?_
    rintro e w1 ⟨rfl, b1⟩
    go_wp2_with fail
    refine (wshow_any ds ws a wa cap wc hc hwc hlw _ (HN.out.below b1) (HI.out.below b1)).mono ?_
    rintro e w2 ⟨rfl, b2⟩
    have B2 := belowT b1 (Nat.le_refl _) b2
    clear b1 b2
    rw [HRS.out.1, HRS.out.2, errN_0]
    go_wp2_with fail
    refine (wshow_any es vs o va cap2 vc hc2 hvc hlv _ (HM.out.below B2) (HJ.out.below B2)).mono ?_
    rintro e w3 ⟨rfl, b3⟩
    have B3 := belowT B2 (Nat.le_refl _) b3
    clear B2 b3
    rw [HE.out.1, HE.out.2.1, errN_ne HE.out.2.2]
    go_wp2
    go_ret
    exact ⟨rfl, B3⟩
end Go.Proofs.Ytnfhiiefdmjdbaa
