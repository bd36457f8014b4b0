/- A doc's line and whether it is one, of its nodes; of two docs as one, and of one in a group and deeper. -/
import Derived.Test.YtmbeamcjpidnjaaGreatDoorDocFs
namespace Go.Proofs.YtmbeamcjpidnjaaGreatDoor

/-- A doc is read in one way. -/
theorem nodes_inj : ∀ (t t' : Tr) (r r' : List Nd), t.Wf → t'.Wf → t.nodes ++ r = t'.nodes ++ r' → t = t' ∧ r = r'
  | .leaf x, t', r, r', h, h', e => by
    cases t' with
    | leaf y => simp only [Tr.nodes, List.cons_append, List.nil_append, List.cons.injEq] at e; exact ⟨by rw [e.1], e.2⟩
    | one y a =>
      simp only [Tr.nodes, List.cons_append, List.nil_append, List.cons.injEq] at e
      have h1 := h.2; have h2 := h'.2.1; rw [e.1, h2] at h1; cases h1
    | two y a b =>
      simp only [Tr.nodes, List.cons_append, List.nil_append, List.cons.injEq] at e
      have h1 := h.2; have h2 := h'.2.1; rw [e.1, h2] at h1; cases h1
  | .one x a, t', r, r', h, h', e => by
    cases t' with
    | leaf y =>
      simp only [Tr.nodes, List.cons_append, List.nil_append, List.cons.injEq] at e
      have h1 := h.2.1; have h2 := h'.2; rw [e.1, h2] at h1; cases h1
    | one y a' =>
      simp only [Tr.nodes, List.cons_append, List.cons.injEq] at e
      obtain ⟨e1, e2⟩ := nodes_inj a a' r r' h.2.2 h'.2.2 e.2
      exact ⟨by rw [e.1, e1], e2⟩
    | two y a' b =>
      simp only [Tr.nodes, List.cons_append, List.cons.injEq] at e
      have h1 := h.2.1; have h2 := h'.2.1; rw [e.1, h2] at h1; cases h1
  | .two x a b, t', r, r', h, h', e => by
    cases t' with
    | leaf y =>
      simp only [Tr.nodes, List.cons_append, List.nil_append, List.cons.injEq] at e
      have h1 := h.2.1; have h2 := h'.2; rw [e.1, h2] at h1; cases h1
    | one y a' =>
      simp only [Tr.nodes, List.cons_append, List.cons.injEq] at e
      have h1 := h.2.1; have h2 := h'.2.1; rw [e.1, h2] at h1; cases h1
    | two y a' b' =>
      simp only [Tr.nodes, List.cons_append, List.append_assoc, List.cons.injEq] at e
      obtain ⟨e1, e2⟩ := nodes_inj a a' _ _ h.2.2.1 h'.2.2.1 e.2
      obtain ⟨e3, e4⟩ := nodes_inj b b' r r' h.2.2.2 h'.2.2.2 e2
      exact ⟨by rw [e.1, e1, e3], e4⟩
theorem nodes_one {t t' : Tr} (h : t.Wf) (h' : t'.Wf) (e : t.nodes = t'.nodes) : t = t' := (nodes_inj t t' [] [] h h' (by rw [e])).1

/-- The tree of a doc that is one. -/
noncomputable def docT (ds : List Nd) (h : docF ds = 0) : Tr := Classical.choose (doc_tree h)
theorem docT_wf {ds : List Nd} (h : docF ds = 0) : (docT ds h).Wf := (Classical.choose_spec (doc_tree h)).1
theorem docT_nodes {ds : List Nd} (h : docF ds = 0) : ds = (docT ds h).nodes := (Classical.choose_spec (doc_tree h)).2
theorem docT_eq {ds : List Nd} (h : docF ds = 0) {t : Tr} (ht : t.Wf) (e : ds = t.nodes) : docT ds h = t := nodes_one (docT_wf h) ht ((docT_nodes h).symm.trans e)

open Classical in
/-- A doc's line, and whether it is one. -/
noncomputable def flS (ds : List Nd) : ByteArray := if h : docF ds = 0 then (docT ds h).line else ⟨#[]⟩
open Classical in
noncomputable def flB (ds : List Nd) : Bool := if h : docF ds = 0 then (docT ds h).isFlat else false
theorem fl_tree {ds : List Nd} {t : Tr} (ht : t.Wf) (e : ds = t.nodes) (hl : ds.length ≤ 400) : docF ds = 0 ∧ flS ds = t.line ∧ flB ds = t.isFlat := by
  have h : docF ds = 0 := by rw [e]; exact tree_doc ht (by rw [← e]; exact hl)
  refine ⟨h, ?_, ?_⟩
  · rw [flS, dif_pos h, docT_eq h ht e]
  · rw [flB, dif_pos h, docT_eq h ht e]
theorem fl_bad {ds : List Nd} (h : docF ds ≠ 0) : flS ds = ⟨#[]⟩ ∧ flB ds = false := ⟨by rw [flS, dif_neg h], by rw [flB, dif_neg h]⟩

theorem line_both {x : Nd} {a c : Tr} (h : x.op = 6) : Tr.line (.two x a c) = (if (a.isFlat && c.isFlat) = true then a.line ++ c.line else ⟨#[]⟩) ∧ Tr.isFlat (.two x a c) = (a.isFlat && c.isFlat) := by
  unfold Tr.line Tr.isFlat
  simp only [Tr.flat, if_pos h]
  cases ha : a.flat with
  | none => simp
  | some s =>
    cases hc : c.flat with
    | none => simp
    | some t => exact ⟨bytes_inj (by simp), by simp⟩

/-- Two docs as one. -/
theorem fl_both {ds es : List Nd} (h : docF ds = 0) (h' : docF es = 0) (hl : ds.length + es.length < 400) :
    docF (⟨6, ⟨#[]⟩, 0⟩ :: (ds ++ es)) = 0 ∧ flB (⟨6, ⟨#[]⟩, 0⟩ :: (ds ++ es)) = (flB ds && flB es) ∧ flS (⟨6, ⟨#[]⟩, 0⟩ :: (ds ++ es)) = (if (flB ds && flB es) = true then flS ds ++ flS es else ⟨#[]⟩) := by
  obtain ⟨_, a1, a2⟩ := fl_tree (docT_wf h) (docT_nodes h) (by omega)
  obtain ⟨_, b1, b2⟩ := fl_tree (docT_wf h') (docT_nodes h') (by omega)
  have hw : Tr.Wf (.two ⟨6, ⟨#[]⟩, 0⟩ (docT ds h) (docT es h')) := ⟨by decide +kernel, by decide +kernel, docT_wf h, docT_wf h'⟩
  obtain ⟨c0, c1, c2⟩ := fl_tree (ds := ⟨6, ⟨#[]⟩, 0⟩ :: (ds ++ es)) hw (by rw [Tr.nodes, ← docT_nodes h, ← docT_nodes h']) (by simp; omega)
  obtain ⟨e1, e2⟩ := line_both (x := ⟨6, ⟨#[]⟩, 0⟩) (a := docT ds h) (c := docT es h') rfl
  refine ⟨c0, ?_, ?_⟩
  · rw [c2, e2, a2, b2]
  · rw [c1, e1, a1, a2, b1, b2]
/-- One in a group, and deeper. -/
theorem fl_group {ds : List Nd} (h : docF ds = 0) {n : Int} (h0 : 0 ≤ n) (h8 : n ≤ 8) (hl : ds.length + 2 ≤ 400) :
    docF (⟨8, ⟨#[]⟩, 0⟩ :: ⟨7, ⟨#[]⟩, n⟩ :: ds) = 0 ∧ flB (⟨8, ⟨#[]⟩, 0⟩ :: ⟨7, ⟨#[]⟩, n⟩ :: ds) = flB ds ∧ flS (⟨8, ⟨#[]⟩, 0⟩ :: ⟨7, ⟨#[]⟩, n⟩ :: ds) = flS ds := by
  obtain ⟨_, a1, a2⟩ := fl_tree (docT_wf h) (docT_nodes h) (by omega)
  have hn : nodeF ⟨7, ⟨#[]⟩, n⟩ = 0 := by
    have : (⟨#[]⟩ : ByteArray).size = 0 := rfl
    simp [nodeF, this]
    omega
  have hw : Tr.Wf (.one ⟨8, ⟨#[]⟩, 0⟩ (.one ⟨7, ⟨#[]⟩, n⟩ (docT ds h))) := ⟨by decide +kernel, by decide +kernel, hn, rfl, docT_wf h⟩
  obtain ⟨c0, c1, c2⟩ := fl_tree (ds := ⟨8, ⟨#[]⟩, 0⟩ :: ⟨7, ⟨#[]⟩, n⟩ :: ds) hw (by rw [Tr.nodes, Tr.nodes, ← docT_nodes h]) (by simp; omega)
  refine ⟨c0, ?_, ?_⟩
  · rw [c2, a2]; rfl
  · rw [c1, a1]; rfl
end Go.Proofs.YtmbeamcjpidnjaaGreatDoor
