/- A doc's text: by package doc, and by the document. -/
import Derived.Test.YthjnkgjdpdacoaaDoorDocD
import Derived.Test.YthjnkgjdpdacoaaDoorDocY
import Derived.Test.YthjnkgjdpdacoaaDoorDocT2
import Derived.Test.YthjnkgjdpdacoaaDoorDocT6
import Derived.Test.YthjnkgjdpdacoaaDoorDocT7
import Derived.Test.YthjnkgjdpdacoaaDoorDocT8
import Derived.Test.YthjnkgjdpdacoaaDoorDocT9
namespace Go.Proofs.YthjnkgjdpdacoaaDoor
open Go Go.RowKit

/-- The text of a tree, as a string. -/
def Tr.str (t : Tr) : ByteArray := ⟨t.text.toArray⟩
theorem str_list (t : Tr) : t.str.data.toList = t.text := by simp [Tr.str]
theorem str_size (t : Tr) : t.str.size = t.text.length := by rw [← size_list, str_list]

theorem textOf_any (ds : List Nd) (a : Option Addr) (cap : Nat) (hl : ds.length ≤ 400) : ∀ t : Tr, t.Wf → t.nodes.length ≤ 400 → TextOk ds a cap t.nodes t.str
  | .leaf ⟨op, tx, n⟩, h, hn => by
    obtain ⟨_, _, _, _, h5, _⟩ := node_ok h.1
    rcases leaf_op h.1 h.2 with e | e | e | e | e
    all_goals (simp only at e; subst e)
    · have es : Tr.str (.leaf ⟨1, tx, n⟩) = ⟨#[34]⟩ ++ tx ++ ⟨#[34]⟩ := bytes_inj (by rw [str_list]; simp [Tr.text])
      rw [es]
      exact textOf_1 ds a cap tx n (isW_size (h5 rfl)).2
    · exact textOf_2 ds a cap tx n
    · exact textOf_3 ds a cap tx n
    · exact textOf_4 ds a cap tx n
    · exact textOf_5 ds a cap tx n
  | .one ⟨op, tx, n⟩ a', h, hn => by
    obtain ⟨_, _, _, _, _, h6⟩ := node_ok h.1
    have hn' : a'.nodes.length ≤ 400 := by simp [Tr.nodes] at hn; omega
    have hs : a'.str.size ≤ 8800 := by have := text_le a' h.2.2; rw [str_size]; omega
    rcases one_op h.2.1 with e | e
    all_goals (simp only at e; subst e)
    · have es : Tr.str (.one ⟨7, tx, n⟩ a') = ⟨#[dgt n]⟩ ++ ⟨#[62]⟩ ++ a'.str := bytes_inj (by rw [str_list]; simp [Tr.text, Tr.str])
      rw [es]
      exact textOf_7 ds a cap hl tx n (h6 rfl).1 (h6 rfl).2 _ _ (textOf_any ds a cap hl a' h.2.2 hn') hs
    · have es : Tr.str (.one ⟨8, tx, n⟩ a') = ⟨#[91]⟩ ++ a'.str ++ ⟨#[93]⟩ := bytes_inj (by rw [str_list]; simp [Tr.text, Tr.str])
      rw [es]
      exact textOf_8 ds a cap hl tx n _ _ (textOf_any ds a cap hl a' h.2.2 hn') hs
  | .two ⟨op, tx, n⟩ a' c, h, hn => by
    have hn1 : a'.nodes.length ≤ 400 := by simp [Tr.nodes] at hn; omega
    have hn2 : c.nodes.length ≤ 400 := by simp [Tr.nodes] at hn; omega
    have hs1 : a'.str.size ≤ 8800 := by have := text_le a' h.2.2.1; rw [str_size]; omega
    have hs2 : c.str.size ≤ 8800 := by have := text_le c h.2.2.2; rw [str_size]; omega
    rcases two_op h.2.1 with e | e
    all_goals (simp only at e; subst e)
    · have es : Tr.str (.two ⟨6, tx, n⟩ a' c) = ⟨#[40]⟩ ++ a'.str ++ c.str ++ ⟨#[41]⟩ := bytes_inj (by rw [str_list]; simp [Tr.text, Tr.str])
      rw [es]
      exact textOf_6 ds a cap hl tx n _ _ _ _ (textOf_any ds a cap hl a' h.2.2.1 hn1) (textOf_any ds a cap hl c h.2.2.2 hn2) hs1 hs2 fun i r hd => endAt_tree h.2.2.1 hd
    · have es : Tr.str (.two ⟨9, tx, n⟩ a' c) = ⟨#[123]⟩ ++ a'.str ++ ⟨#[124]⟩ ++ c.str ++ ⟨#[125]⟩ := bytes_inj (by rw [str_list]; simp [Tr.text, Tr.str])
      rw [es]
      exact textOf_9 ds a cap hl tx n _ _ _ _ (textOf_any ds a cap hl a' h.2.2.1 hn1) (textOf_any ds a cap hl c h.2.2.2 hn2) hs1 hs2 fun i r hd => endAt_tree h.2.2.1 hd

/-- The document's text of a doc. -/
theorem rtext_ok {t : Tr} (h : t.Wf) (hl : t.nodes.length ≤ 400) (a : Option Addr) (cap : Nat) (w : World) (hN : Nods w a t.nodes) :
    Calls Tryd.prog 15 #[.slice a t.nodes.length cap, .int .i64 0] w fun e w' => e = .returned (.string t.str) ∧ Below w.heap.size w w' :=
  textOf_any t.nodes a cap hl t h hl 0 [] w (by simp) hN

theorem text_ne (t : Tr) : t.text ≠ [] := by
  cases t with
  | leaf x => simp only [Tr.text]; repeat' split
              all_goals simp
  | one x a => simp only [Tr.text]; split <;> simp
  | two x a b => simp only [Tr.text]; split <;> simp

set_option maxRecDepth 100000 in
set_option maxHeartbeats 2000000 in
theorem dtext_bad (ds : List Nd) (a : Option Addr) (cap : Nat) (w : World) (hN : Nods w a ds) (h : docF ds ≠ 0) :
    Calls Tryd.prog 16 #[.slice a ds.length cap] w fun e w' => e = .returned (.tuple #[.string ⟨#[]⟩, errN (docF ds)]) ∧ Below w.heap.size w w' := by
  have HN : Hid (Nods w a ds) := hN
  have H : Hid (docF ds ≠ 0) := h
  rw [errN_ne h]
  clear hN h
  go_enter Tryd.func16, Tryd.ntmps16
  go_wp2_with fail
  refine (dcheck_any ds a cap _ HN.out).mono ?_
  rintro e w2 ⟨rfl, hB⟩
  rw [errN_ne H.out]
  go_wp2
  go_ret2
  exact ⟨rfl, hB⟩

set_option maxRecDepth 100000 in
set_option maxHeartbeats 2000000 in
theorem dtext_ok (ds : List Nd) (t : Tr) (hd : ds = t.nodes) (ht : t.Wf) (hl : ds.length ≤ 400) (a : Option Addr) (cap : Nat) (hc : ds.length ≤ cap) (w : World) (hN : Nods w a ds) :
    Calls Tryd.prog 16 #[.slice a ds.length cap] w fun e w' => e = .returned (.tuple #[.string t.str, .nilIface]) ∧ Below w.heap.size w w' := by
  have HN : Hid (Nods w a ds) := hN
  have H : Hid (docF ds = 0) := (show docF ds = 0 by rw [hd]; exact tree_doc ht (by rw [← hd]; exact hl))
  have HD : Hid (ds = t.nodes) := hd
  clear hN hd
  go_enter Tryd.func16, Tryd.ntmps16
  go_wp2_with fail
  refine (dcheck_any ds a cap _ HN.out).mono ?_
  rintro e w2 ⟨rfl, hB⟩
  rw [H.out, errN_0]
  have HB : Hid (Below w.heap.size w w2) := hB
  have HM : Hid (NodsB w2.heap.size w2 a ds) := (HN.out.below hB)
  clear hB
  go_wp2_with fail
  refine (write_any w2.heap.size w2.heap.size t ht ds [] a cap [] _ (by rw [HD.out]; simp) (HM.out.below ((Below.refl _ _).alloc (Nat.le_refl _) _)) hc (IsB.fresh 66 w2 []) (by simp; omega)).mono ?_
  rintro e w3 ⟨⟨a3, cap3, rfl, _, _⟩, hw3, hb3⟩
  have hB3 : Below w.heap.size w w3 := HB.out.trans ((((Below.refl _ w2).alloc (Nat.le_refl _) _).trans hb3).mono HB.out.size)
  go_wp2_with fail
  refine (bout_some 66 w2.heap.size w2.heap.size t.text [] w3 (show Wr w2.heap.size w2.heap.size t.text w3 from hw3) (text_ne t)).mono ?_
  rintro e w4 ⟨rfl, hb4⟩
  go_wp2
  go_ret2
  exact ⟨rfl, hB3.trans (hb4.mono HB.out.size)⟩
end Go.Proofs.YthjnkgjdpdacoaaDoor
