/- lay: a doc's line goes into the builder. (Made by tools/gen_flay.py.) -/
import Derived.Test.YtmbeamcjpidnjaaGreatDoorLayFs
import Derived.Test.YtmbeamcjpidnjaaGreatDoorDocL
namespace Go.Proofs.YtmbeamcjpidnjaaGreatDoor
open Go Go.RowKit

/-- What is laid, whether it can stand in one line or not. -/
def Tr.laid : Tr → List UInt8
  | .leaf x => if x.op = 1 then x.tx.data.toList else if x.op = 2 then [32] else []
  | .one _ a => a.laid
  | .two x a b => if x.op = 6 then a.laid ++ b.laid else a.laid
/-- Is a new line among it? -/
def Tr.brk : Tr → Bool
  | .leaf x => decide (x.op = 4)
  | .one _ a => a.brk
  | .two x a b => if x.op = 6 then a.brk || b.brk else a.brk

theorem laid_flat : ∀ t : Tr, t.flat = (if t.brk = true then none else some t.laid)
  | .leaf x => by
    simp only [Tr.flat, Tr.brk, Tr.laid]
    by_cases h1 : x.op = 1
    · simp [h1]
    · by_cases h2 : x.op = 2
      · simp [h2]
      · by_cases h4 : x.op = 4
        · simp [h4]
        · simp [h1, h2, h4]
  | .one _ a => laid_flat a
  | .two x a b => by
    have h1 := laid_flat a
    have h2 := laid_flat b
    simp only [Tr.flat, Tr.brk, Tr.laid]
    split
    · rw [h1, h2]
      cases a.brk <;> cases b.brk <;> simp
    · exact h1
theorem laid_le : ∀ t : Tr, t.Wf → t.laid.length ≤ 20 * t.nodes.length
  | .leaf x, h => by
    obtain ⟨_, _, _, _, h5, _⟩ := node_ok h.1
    simp only [Tr.laid, Tr.nodes]
    split
    · rename_i h1
      have := isW_size (h5 h1)
      have e := size_list x.tx
      simp only [List.length_cons, List.length_nil]
      omega
    · split <;> simp
  | .one x a, h => by
    have := laid_le a h.2.2
    simp only [Tr.laid, Tr.nodes, List.length_cons]
    omega
  | .two x a b, h => by
    have h1 := laid_le a h.2.2.1
    have h2 := laid_le b h.2.2.2
    simp only [Tr.laid, Tr.nodes, List.length_cons, List.length_append]
    split
    · rw [List.length_append]; omega
    · omega
theorem laid_line {t : Tr} (h : t.brk = false) : t.isFlat = true ∧ t.line = ⟨t.laid.toArray⟩ := by
  have := laid_flat t
  rw [h] at this
  constructor
  · rw [Tr.isFlat, this]; rfl
  · rw [Tr.line, this]; rfl
theorem laid_none {t : Tr} (h : t.brk = true) : t.isFlat = false ∧ t.line = ⟨#[]⟩ := by
  have := laid_flat t
  rw [h] at this
  constructor
  · rw [Tr.isFlat, this]; rfl
  · rw [Tr.line, this]; rfl

theorem lnlay_any : ∀ t : Tr, t.Wf → LnOk t.nodes t.laid t.brk
  | .leaf ⟨op, tx, n⟩, h => by
    obtain ⟨_, _, _, _, h5, _⟩ := node_ok h.1
    rcases leaf_op h.1 h.2 with e | e | e | e | e
    all_goals (simp only at e; subst e)
    · exact lnlay_1 tx n (isW_size (h5 rfl)).2
    · exact lnlay_2 tx n
    · exact lnlay_3 tx n
    · exact lnlay_4 tx n
    · exact lnlay_5 tx n
  | .one ⟨op, tx, n⟩ a, h => by
    rcases one_op h.2.1 with e | e
    all_goals (simp only at e; subst e)
    · exact lnlay_7 tx n _ _ _ (lnlay_any a h.2.2)
    · exact lnlay_8 tx n _ _ _ (lnlay_any a h.2.2)
  | .two ⟨op, tx, n⟩ a c, h => by
    rcases two_op h.2.1 with e | e
    all_goals (simp only at e; subst e)
    · exact lnlay_6 tx n _ _ _ _ _ _ (lnlay_any a h.2.2.1) (lnlay_any c h.2.2.2) (laid_le a h.2.2.1)
    · exact lnlay_9 tx n _ _ _ _ _ _ (lnlay_any a h.2.2.1) (lnlay_any c h.2.2.2)
end Go.Proofs.YtmbeamcjpidnjaaGreatDoor
