/- FlatOf of the document. (Made by tools/gen_docf.py.) -/
import Derived.Test.YtnfhiiefdmjdbaaDoorFlatRs
namespace Go.Proofs.YtnfhiiefdmjdbaaDoor
open Go Go.RowKit

theorem isFlat_two {x : Nd} {a c : Tr} (h : x.op = 6) : Tr.line (.two x a c) = (if (a.isFlat && c.isFlat) = true then a.line ++ c.line else ⟨#[]⟩) ∧ Tr.isFlat (.two x a c) = (a.isFlat && c.isFlat) := by
  unfold Tr.line Tr.isFlat
  simp only [Tr.flat, if_pos h]
  cases ha : a.flat with
  | none => simp
  | some s =>
    cases hc : c.flat with
    | none => simp
    | some t => exact ⟨bytes_inj (by simp), by simp⟩

theorem flatOf_any (ds : List Nd) (a : Option Addr) (cap : Nat) (hl : ds.length ≤ 400) : ∀ t : Tr, t.Wf → t.nodes.length ≤ 400 → FlatOk ds a cap t.nodes t.line t.isFlat
  | .leaf ⟨op, tx, n⟩, h, hn => by
    rcases leaf_op h.1 h.2 with e | e | e | e | e
    all_goals (simp only at e; subst e)
    · have es : Tr.line (.leaf ⟨1, tx, n⟩) = tx := bytes_inj (by rw [line_list]; simp [Tr.flat])
      rw [es]
      exact flatOf_1 ds a cap tx n
    · exact flatOf_2 ds a cap tx n
    · exact flatOf_3 ds a cap tx n
    · exact flatOf_4 ds a cap tx n
    · exact flatOf_5 ds a cap tx n
  | .one ⟨op, tx, n⟩ a', h, hn => by
    have hn' : a'.nodes.length ≤ 400 := by simp [Tr.nodes] at hn; omega
    rcases one_op h.2.1 with e | e
    all_goals (simp only at e; subst e)
    · exact flatOf_7 ds a cap hl tx n _ _ _ (flatOf_any ds a cap hl a' h.2.2 hn')
    · exact flatOf_8 ds a cap hl tx n _ _ _ (flatOf_any ds a cap hl a' h.2.2 hn')
  | .two ⟨op, tx, n⟩ a' c, h, hn => by
    have hn1 : a'.nodes.length ≤ 400 := by simp [Tr.nodes] at hn; omega
    have hn2 : c.nodes.length ≤ 400 := by simp [Tr.nodes] at hn; omega
    have hs1 : a'.line.size ≤ 8800 := by have := flat_le a' h.2.2.1; rw [line_size]; omega
    have hs2 : c.line.size ≤ 8800 := by have := flat_le c h.2.2.2; rw [line_size]; omega
    rcases two_op h.2.1 with e | e
    all_goals (simp only at e; subst e)
    · obtain ⟨e1, e2⟩ := isFlat_two (x := ⟨6, tx, n⟩) (a := a') (c := c) rfl
      rw [e1, e2]
      exact flatOf_6 ds a cap hl tx n _ _ _ _ _ _ (flatOf_any ds a cap hl a' h.2.2.1 hn1) (flatOf_any ds a cap hl c h.2.2.2 hn2) hs1 hs2 fun i r hd => endAt_tree h.2.2.1 hd
    · exact flatOf_9 ds a cap hl tx n _ _ _ _ (flatOf_any ds a cap hl a' h.2.2.1 hn1)

/-- The document's line of a doc. -/
theorem rflat_ok {t : Tr} (h : t.Wf) (hl : t.nodes.length ≤ 400) (a : Option Addr) (cap : Nat) (w : World) (hN : Nods w a t.nodes) :
    Calls Tryd.prog 25 #[.slice a t.nodes.length cap, .int .i64 0] w fun e w' => e = .returned (.tuple #[.string t.line, .bool t.isFlat]) ∧ Below w.heap.size w w' :=
  flatOf_any t.nodes a cap hl t h hl 0 [] w (by simp) hN
end Go.Proofs.YtnfhiiefdmjdbaaDoor
