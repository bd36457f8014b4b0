/- The walk of the law DocEnds. -/
import Derived.Test.YthjnkgjdpdacoaaDoorDocZ
import Derived.Test.YthjnkgjdpdacoaaDoorDocS
import Derived.Test.YthjnkgjdpdacoaaDoorDocI
import Derived.Test.YthjnkgjdpdacoaaDoorLawDocIs
import Derived.Deep.DeepCutAuto
namespace Go.Proofs.YthjnkgjdpdacoaaDoor
open Go Go.RowKit

/-- The doc that the law asks a fact of. -/
def factT : Tr := .two ⟨6, ⟨#[]⟩, 0⟩ (.leaf ⟨1, ⟨#[97]⟩, 0⟩) (.one ⟨7, ⟨#[]⟩, 2⟩ (.leaf ⟨2, ⟨#[]⟩, 0⟩))
theorem fact_wf : factT.Wf := ⟨by decide +kernel, by decide +kernel, ⟨by decide +kernel, by decide +kernel⟩, by decide +kernel, by decide +kernel, by decide +kernel, by decide +kernel⟩
theorem fact_str : factT.str = ⟨#[40, 34, 97, 34, 50, 62, 95, 41]⟩ := by decide +kernel

theorem fact_text (b : Nat) (w : World) (hN : Nods w (some ⟨b, 0, none⟩) factT.nodes) :
    Calls Tryd.prog 16 #[.slice (some ⟨b, 0, none⟩) 4 4] w fun e w' => e = .returned (.tuple #[.string ⟨#[40, 34, 97, 34, 50, 62, 95, 41]⟩, .nilIface]) ∧ Below w.heap.size w w' := by
  have h := dtext_ok factT.nodes factT rfl fact_wf (by decide) (some ⟨b, 0, none⟩) 4 (by decide) w hN
  rw [fact_str] at h
  exact h

abbrev factO : Obj := .cells #[.int .i64 6, .string ⟨#[]⟩, .int .i64 0, .int .i64 1, .string ⟨#[97]⟩, .int .i64 0, .int .i64 7, .string ⟨#[]⟩, .int .i64 2, .int .i64 2, .string ⟨#[]⟩, .int .i64 0] 48
theorem fact_nods (w : World) : Nods (w.alloc factO) (some ⟨w.heap.size, 0, none⟩) factT.nodes := by
  intro i hi
  refine ⟨w.heap.size, 0, rfl, by simp, ?_⟩
  match i, hi with
  | 0, _ => simp [go_sem, factT, Tr.nodes]
  | 1, _ => simp [go_sem, factT, Tr.nodes]
  | 2, _ => simp [go_sem, factT, Tr.nodes]
  | 3, _ => simp [go_sem, factT, Tr.nodes]

open Classical in
/-- The text of a doc that is one, else nothing. -/
noncomputable def txtS (ds : List Nd) : ByteArray := if h : docF ds = 0 then (Classical.choose (doc_tree h)).str else ⟨#[]⟩
theorem txtS_tree {ds : List Nd} (h : docF ds = 0) : ∃ t : Tr, t.Wf ∧ ds = t.nodes ∧ txtS ds = t.str := by
  refine ⟨Classical.choose (doc_tree h), (Classical.choose_spec (doc_tree h)).1, (Classical.choose_spec (doc_tree h)).2, ?_⟩
  rw [txtS, dif_pos h]
theorem dtext_any (ds : List Nd) (a : Option Addr) (cap : Nat) (hc : ds.length ≤ cap) (w : World) (hN : Nods w a ds) :
    Calls Tryd.prog 16 #[.slice a ds.length cap] w fun e w' => e = .returned (.tuple #[.string (txtS ds), errN (docF ds)]) ∧ Below w.heap.size w w' := by
  by_cases h : docF ds = 0
  · obtain ⟨t, h1, h2, h3⟩ := txtS_tree h
    rw [h, h3, errN_0]
    exact dtext_ok ds t h2 h1 (docF_zero h).1 a cap hc w hN
  · have e : txtS ds = ⟨#[]⟩ := by rw [txtS, dif_neg h]
    rw [e]
    exact dtext_bad ds a cap w hN h
open Classical in
noncomputable def sameB (ds es : List Nd) : Bool := decide (ds = es)
theorem docs_at (ds es : List Nd) (a o : Option Addr) (cap cap2 : Nat) (hl : ds.length ≤ 400) (w : World) (hN : Nods w a ds) (hM : Nods w o es) :
    Calls Tryd.prog 19 #[.slice a ds.length cap, .slice o es.length cap2] w fun e w' => e = .returned (.bool (sameB ds es)) ∧ Below w.heap.size w w' :=
  (docs_any ds es a o cap cap2 hl w hN hM).mono fun e w' ⟨h1, h2⟩ => ⟨by
    rcases h1 with ⟨e1, e2⟩ | ⟨e1, e2⟩
    · rw [e2]; simp [sameB, e1]
    · rw [e2]; simp [sameB, e1], h2⟩
theorem sub_nods {w : World} {b o n : Nat} {ds A r : List Nd} (h : Nods w (some ⟨b, o, none⟩) ds) (hd : ds.drop n = A ++ r) : Nods w (some ⟨b, o + n * 3, none⟩) A := by
  intro i hi
  have hl : n + i < ds.length := by
    have := congrArg List.length hd
    simp at this
    omega
  obtain ⟨b', o', e, hlt, c1, c2, c3⟩ := h (n + i) hl
  simp only [Option.some.injEq, Addr.mk.injEq, and_true] at e
  obtain ⟨rfl, rfl⟩ := e
  have ex : ds[n + i] = A[i] := by
    have h1 : (ds.drop n)[i]? = A[i]? := by rw [hd, List.getElem?_append_left hi]
    rw [List.getElem?_drop, List.getElem?_eq_getElem hl, List.getElem?_eq_getElem hi] at h1
    exact Option.some.inj h1
  rw [ex] at c1 c2 c3
  refine ⟨b, o + n * 3, rfl, hlt, ?_, ?_, ?_⟩
  · rw [show o + n * 3 + i * 3 = o + (n + i) * 3 by omega]; exact c1
  · rw [show o + n * 3 + i * 3 + 1 = o + (n + i) * 3 + 1 by omega]; exact c2
  · rw [show o + n * 3 + i * 3 + 2 = o + (n + i) * 3 + 2 by omega]; exact c3
theorem node_small {ds : List Nd} (h : docF ds = 0) : ∀ x ∈ ds, x.tx.size ≤ 20 := by
  intro x hx
  obtain ⟨_, _, h3, _, h5, _⟩ := node_ok ((docF_zero h).2.1 x hx)
  by_cases h1 : x.op = 1
  · exact (isW_size (h5 h1)).2
  · omega
/-- Two docs that are not one and have one text: a word of one of them has a quote. -/
theorem quoted_one {ds es : List Nd} (h : docF ds = 0) (h' : docF es = 0) (hn : ds ≠ es) (ht : txtS ds = txtS es) (hq : quo ds = false) : quo es = true := by
  obtain ⟨t, w1, n1, s1⟩ := txtS_tree h
  obtain ⟨t', w2, n2, s2⟩ := txtS_tree h'
  cases hq' : quo es with
  | true => rfl
  | false =>
    exfalso
    apply hn
    rw [n1] at hq
    rw [n2] at hq'
    rw [n1, n2]
    refine text_one w1 w2 (quo_noQ hq) (quo_noQ hq') ?_
    rw [s1, s2] at ht
    rw [← str_list, ← str_list, ht]

set_option maxRecDepth 100000 in
set_option maxHeartbeats 4000000 in
theorem docEnds_bad (ds es : List Nd) (a o : Option Addr) (cap cap2 : Nat) (i : Int) (w : World) (hN : Nods w a ds) (h : docF ds ≠ 0) :
    Calls Tryd.prog 5 #[.slice a ds.length cap, .int .i64 i, .slice o es.length cap2] w fun e w' => e = .returned (.bool true) ∧ Below w.heap.size w w' := by
  have HN : Hid (Nods w a ds) := hN
  have H : Hid (docF ds ≠ 0) := h
  clear hN h
  go_enter Tryd.func5, Tryd.ntmps5
  go_wp2_with fail
  refine (fact_text w.heap.size _ (fact_nods w)).mono ?_
  rintro e w1 ⟨rfl, b1⟩
  have B1 := belowA (Below.refl _ _) (Nat.le_refl _) b1
  clear b1
  go_wp2_with fail
  refine (dtext_bad ds a cap _ (HN.out.below B1) H.out).mono ?_
  rintro e w2 ⟨rfl, b2⟩
  have B2 := belowT B1 (Nat.le_refl _) b2
  rw [errN_ne H.out]
  go_wp2
  go_ret
  exact ⟨rfl, B2⟩
end Go.Proofs.YthjnkgjdpdacoaaDoor
