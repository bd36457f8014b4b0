/- Two docs have one text only if they are one, words with a quote aside. -/
import Derived.Test.YthjnkgjdpdacoaaDoorDocP
namespace Go.Proofs.YthjnkgjdpdacoaaDoor

theorem txt1 {x : Nd} (h : x.op = 1) : Tr.text (.leaf x) = 34 :: (x.tx.data.toList ++ [34]) := by simp [Tr.text, h]
theorem txt2 {x : Nd} (h : x.op = 2) : Tr.text (.leaf x) = [95] := by simp [Tr.text, h]
theorem txt3 {x : Nd} (h : x.op = 3) : Tr.text (.leaf x) = [46] := by simp [Tr.text, h]
theorem txt4 {x : Nd} (h : x.op = 4) : Tr.text (.leaf x) = [47] := by simp [Tr.text, h]
theorem txt5 {x : Nd} (h : x.op = 5) : Tr.text (.leaf x) = [48] := by simp [Tr.text, h]
theorem txt6 {x : Nd} {a b : Tr} (h : x.op = 6) : Tr.text (.two x a b) = 40 :: (a.text ++ (b.text ++ [41])) := by simp [Tr.text, h]
theorem txt7 {x : Nd} {a : Tr} (h : x.op = 7) : Tr.text (.one x a) = dgt x.n :: 62 :: a.text := by simp [Tr.text, h]
theorem txt8 {x : Nd} {a : Tr} (h : x.op = 8) : Tr.text (.one x a) = 91 :: (a.text ++ [93]) := by simp [Tr.text, h]
theorem txt9 {x : Nd} {a b : Tr} (h : x.op = 9) : Tr.text (.two x a b) = 123 :: (a.text ++ (124 :: (b.text ++ [125]))) := by simp [Tr.text, h]

/-- The first sign, and whether a deeper doc may begin so. -/
def lead : Tr → UInt8
  | .leaf x => if x.op = 1 then 34 else if x.op = 2 then 95 else if x.op = 3 then 46 else if x.op = 4 then 47 else 48
  | .one x _ => if x.op = 7 then dgt x.n else 91
  | .two x _ _ => if x.op = 6 then 40 else 123
theorem text_lead : ∀ t : Tr, ∃ r, t.text = lead t :: r
  | .leaf x => by simp only [Tr.text, lead]; repeat' split
                  all_goals exact ⟨_, rfl⟩
  | .one x a => by simp only [Tr.text, lead]; split <;> exact ⟨_, rfl⟩
  | .two x a b => by simp only [Tr.text, lead]; split <;> exact ⟨_, rfl⟩

/-- The op of the first node. -/
def opOf : Tr → Int
  | .leaf x => x.op
  | .one x _ => x.op
  | .two x _ _ => x.op

theorem lead_op : ∀ t : Tr, t.Wf → (opOf t = 7 ∧ 48 ≤ (lead t).toNat ∧ (lead t).toNat ≤ 56) ∨ (opOf t = 1 ∧ lead t = 34) ∨ (opOf t = 2 ∧ lead t = 95) ∨ (opOf t = 3 ∧ lead t = 46) ∨ (opOf t = 4 ∧ lead t = 47) ∨ (opOf t = 5 ∧ lead t = 48)
    ∨ (opOf t = 6 ∧ lead t = 40) ∨ (opOf t = 8 ∧ lead t = 91) ∨ (opOf t = 9 ∧ lead t = 123)
  | .leaf x, h => by rcases leaf_op h.1 h.2 with e | e | e | e | e <;> simp [opOf, lead, e]
  | .one x a, h => by
    rcases one_op h.2.1 with e | e
    · obtain ⟨_, _, _, _, _, h6⟩ := node_ok h.1
      left
      refine ⟨e, ?_⟩
      simp only [lead, if_pos e, dgt_toNat (h6 e).2]
      have := h6 e
      omega
    · simp [opOf, lead, e]
  | .two x a b, h => by rcases two_op h.2.1 with e | e <;> simp [opOf, lead, e]

/-- The same first sign: the same op, but for nothing and what is so much deeper. -/
theorem lead_same {t t' : Tr} (h : t.Wf) (h' : t'.Wf) (e : lead t = lead t') : opOf t = opOf t' ∨ (opOf t = 5 ∧ opOf t' = 7) ∨ (opOf t = 7 ∧ opOf t' = 5) := by
  have d : ∀ c : UInt8, c.toNat = 34 ∨ c.toNat = 95 ∨ c.toNat = 46 ∨ c.toNat = 47 ∨ c.toNat = 40 ∨ c.toNat = 91 ∨ c.toNat = 123 → ¬ (48 ≤ c.toNat ∧ c.toNat ≤ 56) := by intro c hc; omega
  rcases lead_op t h with ⟨a, b⟩ | ⟨a, b⟩ | ⟨a, b⟩ | ⟨a, b⟩ | ⟨a, b⟩ | ⟨a, b⟩ | ⟨a, b⟩ | ⟨a, b⟩ | ⟨a, b⟩ <;>
  rcases lead_op t' h' with ⟨a', b'⟩ | ⟨a', b'⟩ | ⟨a', b'⟩ | ⟨a', b'⟩ | ⟨a', b'⟩ | ⟨a', b'⟩ | ⟨a', b'⟩ | ⟨a', b'⟩ | ⟨a', b'⟩ <;>
  first
    | (left; omega)
    | (right; left; exact ⟨a, a'⟩)
    | (right; right; exact ⟨a, a'⟩)
    | (exfalso; rw [b, b'] at e; revert e; decide)
    | (exfalso; rw [e, b'] at b; exact d _ (by decide) b)
    | (exfalso; rw [← e, b] at b'; exact d _ (by decide) b')

theorem op_leaf {t : Tr} (h : t.Wf) (h1 : 1 ≤ opOf t) (h5 : opOf t ≤ 5) : ∃ x, t = .leaf x := by
  cases t with
  | leaf x => exact ⟨x, rfl⟩
  | one x a => have := one_op h.2.1; simp only [opOf] at h1 h5; omega
  | two x a b => have := two_op h.2.1; simp only [opOf] at h1 h5; omega
theorem op_one {t : Tr} (h : t.Wf) (h1 : opOf t = 7 ∨ opOf t = 8) : ∃ x a, t = .one x a := by
  cases t with
  | leaf x => have := leaf_op h.1 h.2; simp only [opOf] at h1; omega
  | one x a => exact ⟨x, a, rfl⟩
  | two x a b => have := two_op h.2.1; simp only [opOf] at h1; omega
theorem op_two {t : Tr} (h : t.Wf) (h1 : opOf t = 6 ∨ opOf t = 9) : ∃ x a b, t = .two x a b := by
  cases t with
  | leaf x => have := leaf_op h.1 h.2; simp only [opOf] at h1; omega
  | one x a => have := one_op h.2.1; simp only [opOf] at h1; omega
  | two x a b => exact ⟨x, a, b, rfl⟩

theorem text_inj : ∀ (t t' : Tr) (r r' : List UInt8), t.Wf → t'.Wf → t.noQ → t'.noQ → noGt r → noGt r' → t.text ++ r = t'.text ++ r' → t.nodes = t'.nodes ∧ r = r' := by
  intro t
  induction t with
  | leaf x =>
    intro t' r r' h h' q q' g g' e
    obtain ⟨u, e1⟩ := text_lead (.leaf x)
    obtain ⟨u', e2⟩ := text_lead t'
    have el : lead (.leaf x) = lead t' := by rw [e1, e2] at e; simp at e; exact e.1
    have ho := leaf_op h.1 h.2
    rcases lead_same h h' el with s | ⟨s, s'⟩ | ⟨s, s'⟩
    · have s0 : x.op = opOf t' := s
      obtain ⟨y, rfl⟩ := op_leaf h' (by omega) (by omega)
      have s1 : x.op = y.op := s
      rcases ho with o | o | o | o | o
      · rw [txt1 o, txt1 (s1 ▸ o)] at e
        simp only [List.cons_append, List.append_assoc, List.nil_append, List.cons.injEq, true_and] at e
        obtain ⟨e3, e4⟩ := upto_quote _ _ _ _ q q' e
        refine ⟨?_, e4⟩
        obtain ⟨_, _, _, a2, _, _⟩ := node_ok h.1
        obtain ⟨_, _, _, b2, _, _⟩ := node_ok h'.1
        rw [Tr.nodes, Tr.nodes, Nd.ext' s1 (bytes_inj e3) (by omega)]
      · rw [txt2 o, txt2 (s1 ▸ o)] at e
        exact ⟨by rw [Tr.nodes, Tr.nodes, node_eq h.1 h'.1 s1 (by omega) (by omega)], by simpa using e⟩
      · rw [txt3 o, txt3 (s1 ▸ o)] at e
        exact ⟨by rw [Tr.nodes, Tr.nodes, node_eq h.1 h'.1 s1 (by omega) (by omega)], by simpa using e⟩
      · rw [txt4 o, txt4 (s1 ▸ o)] at e
        exact ⟨by rw [Tr.nodes, Tr.nodes, node_eq h.1 h'.1 s1 (by omega) (by omega)], by simpa using e⟩
      · rw [txt5 o, txt5 (s1 ▸ o)] at e
        exact ⟨by rw [Tr.nodes, Tr.nodes, node_eq h.1 h'.1 s1 (by omega) (by omega)], by simpa using e⟩
    · exfalso
      obtain ⟨y, b, rfl⟩ := op_one h' (.inl s')
      rw [txt5 s, txt7 s'] at e
      simp only [List.cons_append, List.nil_append, List.cons.injEq] at e
      rw [e.2] at g
      exact g rfl
    · have s0 : x.op = 7 := s
      omega
  | one x a ih =>
    intro t' r r' h h' q q' g g' e
    obtain ⟨u, e1⟩ := text_lead (.one x a)
    obtain ⟨u', e2⟩ := text_lead t'
    have el : lead (.one x a) = lead t' := by rw [e1, e2] at e; simp at e; exact e.1
    have ho := one_op h.2.1
    rcases lead_same h h' el with s | ⟨s, s'⟩ | ⟨s, s'⟩
    · have s0 : x.op = opOf t' := s
      obtain ⟨y, b, rfl⟩ := op_one h' (by omega)
      have s1 : x.op = y.op := s
      rcases ho with o | o
      · rw [txt7 o, txt7 (s1 ▸ o)] at e
        simp only [List.cons_append, List.cons.injEq, true_and] at e
        obtain ⟨e3, e4⟩ := ih b r r' h.2.2 h'.2.2 q.2 q'.2 g g' e.2
        obtain ⟨_, _, a1, _, _, a6⟩ := node_ok h.1
        obtain ⟨_, _, b1, _, _, b6⟩ := node_ok h'.1
        have en := dgt_inj (a6 o).1 (a6 o).2 (b6 (s1 ▸ o)).1 (b6 (s1 ▸ o)).2 e.1
        refine ⟨?_, e4⟩
        rw [Tr.nodes, Tr.nodes, e3, Nd.ext' s1 (by rw [size_zero (by omega : x.tx.size = 0), size_zero (by omega : y.tx.size = 0)]) en]
      · rw [txt8 o, txt8 (s1 ▸ o)] at e
        simp only [List.cons_append, List.append_assoc, List.nil_append, List.cons.injEq, true_and] at e
        obtain ⟨e3, e4⟩ := ih b _ _ h.2.2 h'.2.2 q.2 q'.2 (noGt_cons (by decide)) (noGt_cons (by decide)) e
        exact ⟨by rw [Tr.nodes, Tr.nodes, e3, node_eq h.1 h'.1 s1 (by omega) (by omega)], by simpa using e4⟩
    · have s0 : x.op = 5 := s
      omega
    · exfalso
      obtain ⟨y, rfl⟩ := op_leaf h' (by omega) (by omega)
      rw [txt7 s, txt5 s'] at e
      simp only [List.cons_append, List.nil_append, List.cons.injEq] at e
      rw [← e.2] at g'
      exact g' rfl
  | two x a b ia ib =>
    intro t' r r' h h' q q' g g' e
    obtain ⟨u, e1⟩ := text_lead (.two x a b)
    obtain ⟨u', e2⟩ := text_lead t'
    have el : lead (.two x a b) = lead t' := by rw [e1, e2] at e; simp at e; exact e.1
    have ho := two_op h.2.1
    rcases lead_same h h' el with s | ⟨s, s'⟩ | ⟨s, s'⟩
    · have s0 : x.op = opOf t' := s
      obtain ⟨y, c, d, rfl⟩ := op_two h' (by omega)
      have s1 : x.op = y.op := s
      rcases ho with o | o
      · rw [txt6 o, txt6 (s1 ▸ o)] at e
        simp only [List.cons_append, List.append_assoc, List.nil_append, List.cons.injEq, true_and] at e
        obtain ⟨e3, e4⟩ := ia c _ _ h.2.2.1 h'.2.2.1 q.2.1 q'.2.1 (noGt_text b _ h.2.2.2) (noGt_text d _ h'.2.2.2) e
        obtain ⟨e5, e6⟩ := ib d _ _ h.2.2.2 h'.2.2.2 q.2.2 q'.2.2 (noGt_cons (by decide)) (noGt_cons (by decide)) e4
        exact ⟨by rw [Tr.nodes, Tr.nodes, e3, e5, node_eq h.1 h'.1 s1 (by omega) (by omega)], by simpa using e6⟩
      · rw [txt9 o, txt9 (s1 ▸ o)] at e
        simp only [List.cons_append, List.append_assoc, List.nil_append, List.cons.injEq, true_and] at e
        obtain ⟨e3, e4⟩ := ia c _ _ h.2.2.1 h'.2.2.1 q.2.1 q'.2.1 (noGt_cons (by decide)) (noGt_cons (by decide)) e
        simp only [List.cons.injEq, true_and] at e4
        obtain ⟨e5, e6⟩ := ib d _ _ h.2.2.2 h'.2.2.2 q.2.2 q'.2.2 (noGt_cons (by decide)) (noGt_cons (by decide)) e4
        exact ⟨by rw [Tr.nodes, Tr.nodes, e3, e5, node_eq h.1 h'.1 s1 (by omega) (by omega)], by simpa using e6⟩
    · have s0 : x.op = 5 := s
      omega
    · have s0 : x.op = 7 := s
      omega

/-- Two docs without a quote have one text only if they are one. -/
theorem text_one {t t' : Tr} (h : t.Wf) (h' : t'.Wf) (q : t.noQ) (q' : t'.noQ) (e : t.text = t'.text) : t.nodes = t'.nodes :=
  (text_inj t t' [] [] h h' q q' (by simp [noGt]) (by simp [noGt]) (by rw [e])).1
end Go.Proofs.YthjnkgjdpdacoaaDoor
