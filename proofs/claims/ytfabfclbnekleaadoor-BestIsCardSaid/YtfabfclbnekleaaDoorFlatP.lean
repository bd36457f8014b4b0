/- What is flat, plainly. -/
import Derived.Test.YtfabfclbnekleaaDoorDocP
namespace Go.Proofs.YtfabfclbnekleaaDoor

/-- A doc in one line, if it can be. -/
def Tr.flat : Tr → Option (List UInt8)
  | .leaf x => if x.op = 1 then some x.tx.data.toList else if x.op = 2 then some [32] else if x.op = 4 then none else some []
  | .one _ a => a.flat
  | .two x a b => if x.op = 6 then (match a.flat, b.flat with | some s, some t => some (s ++ t) | _, _ => none) else a.flat

/-- The line, or nothing. -/
def Tr.line (t : Tr) : ByteArray := ⟨(t.flat.getD []).toArray⟩
def Tr.isFlat (t : Tr) : Bool := t.flat.isSome
theorem line_list (t : Tr) : t.line.data.toList = t.flat.getD [] := by simp [Tr.line]
theorem line_size (t : Tr) : t.line.size = (t.flat.getD []).length := by rw [← size_list, line_list]

theorem flat_le : ∀ t : Tr, t.Wf → (t.flat.getD []).length ≤ 20 * t.nodes.length
  | .leaf x, h => by
    obtain ⟨_, _, _, _, h5, _⟩ := node_ok h.1
    simp only [Tr.flat, Tr.nodes]
    split
    · rename_i h1
      have := isW_size (h5 h1)
      have e := size_list x.tx
      simp only [Option.getD_some, List.length_cons, List.length_nil]
      omega
    · repeat' split
      all_goals simp
  | .one x a, h => by
    have := flat_le a h.2.2
    simp only [Tr.flat, Tr.nodes, List.length_cons]
    omega
  | .two x a b, h => by
    have h1 := flat_le a h.2.2.1
    have h2 := flat_le b h.2.2.2
    simp only [Tr.flat, Tr.nodes, List.length_cons, List.length_append]
    split
    · cases ha : a.flat with
      | none => simp
      | some s =>
        cases hb : b.flat with
        | none => simp
        | some t =>
          rw [ha] at h1
          rw [hb] at h2
          simp only [Option.getD_some] at h1 h2 ⊢
          rw [List.length_append]
          omega
    · omega

/-- A line has no new line. -/
theorem flat_no10 : ∀ (t : Tr) (s : List UInt8), t.Wf → t.flat = some s → ∀ b ∈ s, b ≠ 10
  | .leaf x, s, h, e => by
    obtain ⟨_, _, _, _, h5, _⟩ := node_ok h.1
    simp only [Tr.flat] at e
    split at e
    · rename_i h1
      cases e
      have hw := h5 h1
      simp only [isW, Bool.and_eq_true, List.all_eq_true] at hw
      intro b hb hc
      have := hw.2 b hb
      subst hc
      simp [wordB] at this
    · split at e
      · cases e; simp
      · split at e
        · cases e
        · cases e; simp
  | .one x a, s, h, e => flat_no10 a s h.2.2 e
  | .two x a b, s, h, e => by
    simp only [Tr.flat] at e
    split at e
    · cases ha : a.flat with
      | none => rw [ha] at e; cases e
      | some u =>
        cases hb : b.flat with
        | none => rw [ha, hb] at e; cases e
        | some v =>
          rw [ha, hb] at e
          cases e
          intro c hc
          rcases List.mem_append.1 hc with hc | hc
          · exact flat_no10 a u h.2.2.1 ha c hc
          · exact flat_no10 b v h.2.2.2 hb c hc
    · exact flat_no10 a s h.2.2.1 e
end Go.Proofs.YtfabfclbnekleaaDoor
