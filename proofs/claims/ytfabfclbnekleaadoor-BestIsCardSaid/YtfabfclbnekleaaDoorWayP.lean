/- Ways, plainly: a doc laid by choices; all its ways. -/
import Derived.Test.YtfabfclbnekleaaDoorFlatP
namespace Go.Proofs.YtfabfclbnekleaaDoor

/-- A doc laid by choices, so deep: its text and the choices that are left, or the fault. -/
def Tr.lay : Tr → Nat → List Int → Except Int (List UInt8 × List Int)
  | .leaf x, deep, ws => if x.op = 1 then .ok (x.tx.data.toList, ws) else if x.op = 5 then .ok ([], ws) else .ok (10 :: List.replicate deep 32, ws)
  | .one x a, deep, ws =>
    if x.op = 7 then a.lay (deep + x.n.toNat) ws
    else match ws with
      | [] => .error 2
      | c :: ws => if c = 1 then a.lay deep ws else match a.flat with
        | none => .error 4
        | some s => .ok (s, ws)
  | .two x a b, deep, ws =>
    if x.op = 6 then match a.lay deep ws with
      | .error e => .error e
      | .ok (s, ws1) => match b.lay deep ws1 with
        | .error e => .error e
        | .ok (t, ws2) => .ok (s ++ t, ws2)
    else match ws with
      | [] => .error 2
      | c :: ws => if c = 0 then a.lay deep ws else b.lay deep ws

/-- All ways of a doc, in order. -/
def Tr.ways : Tr → List (List Int)
  | .leaf _ => [[]]
  | .one x a => if x.op = 7 then a.ways else (if a.isFlat = true then [[0]] else []) ++ a.ways.map (1 :: ·)
  | .two x a b => if x.op = 6 then a.ways.flatMap fun u => b.ways.map (u ++ ·) else a.ways.map (0 :: ·) ++ b.ways.map (1 :: ·)

def okC01 (ws : List Int) : Prop := ∀ c ∈ ws, c = 0 ∨ c = 1

theorem ways_ne : ∀ t : Tr, t.ways ≠ []
  | .leaf _ => by simp [Tr.ways]
  | .one x a => by
    simp only [Tr.ways]
    split
    · exact ways_ne a
    · have := ways_ne a
      simp [this]
  | .two x a b => by
    have h1 := ways_ne a
    have h2 := ways_ne b
    simp only [Tr.ways]
    split
    · obtain ⟨u, us, e⟩ := List.exists_cons_of_ne_nil h1
      rw [e]
      simp [h2]
    · simp [h1]

/-- Each way has choices that may be. -/
theorem ways_01 : ∀ (t : Tr) (u : List Int), u ∈ t.ways → okC01 u
  | .leaf _, u, h => by simp [Tr.ways] at h; subst h; simp [okC01]
  | .one x a, u, h => by
    simp only [Tr.ways] at h
    split at h
    · exact ways_01 a u h
    · rcases List.mem_append.1 h with h | h
      · split at h
        · simp at h; subst h; simp [okC01]
        · simp at h
      · obtain ⟨v, hv, rfl⟩ := List.mem_map.1 h
        have := ways_01 a v hv
        intro c hc
        rcases List.mem_cons.1 hc with rfl | hc
        · exact .inr rfl
        · exact this c hc
  | .two x a b, u, h => by
    simp only [Tr.ways] at h
    split at h
    · obtain ⟨p, hp, hpq⟩ := List.mem_flatMap.1 h
      obtain ⟨q, hq, rfl⟩ := List.mem_map.1 hpq
      have h1 := ways_01 a p hp
      have h2 := ways_01 b q hq
      intro c hc
      rcases List.mem_append.1 hc with hc | hc
      · exact h1 c hc
      · exact h2 c hc
    · rcases List.mem_append.1 h with h | h
      · obtain ⟨v, hv, rfl⟩ := List.mem_map.1 h
        have := ways_01 a v hv
        intro c hc
        rcases List.mem_cons.1 hc with rfl | hc
        · exact .inl rfl
        · exact this c hc
      · obtain ⟨v, hv, rfl⟩ := List.mem_map.1 h
        have := ways_01 b v hv
        intro c hc
        rcases List.mem_cons.1 hc with rfl | hc
        · exact .inr rfl
        · exact this c hc

/-- Each way lays the doc, whatever is behind it. -/
theorem ways_lay : ∀ (t : Tr) (deep : Nat) (u r : List Int), u ∈ t.ways → ∃ s, t.lay deep (u ++ r) = .ok (s, r)
  | .leaf x, deep, u, r, h => by
    simp [Tr.ways] at h
    subst h
    simp only [Tr.lay, List.nil_append]
    split
    · exact ⟨_, rfl⟩
    · split
      · exact ⟨_, rfl⟩
      · exact ⟨_, rfl⟩
  | .one x a, deep, u, r, h => by
    simp only [Tr.ways] at h
    simp only [Tr.lay]
    split at h
    · rename_i h7
      rw [if_pos h7]
      exact ways_lay a _ u r h
    · rename_i h7
      rw [if_neg h7]
      rcases List.mem_append.1 h with h | h
      · split at h
        · rename_i hf
          simp at h
          subst h
          simp only [List.cons_append, List.nil_append]
          rw [if_neg (by decide)]
          rw [Tr.isFlat] at hf
          cases hfl : a.flat with
          | none => rw [hfl] at hf; cases hf
          | some s => exact ⟨s, rfl⟩
        · simp at h
      · obtain ⟨v, hv, rfl⟩ := List.mem_map.1 h
        simp only [List.cons_append, if_pos]
        exact ways_lay a deep v r hv
  | .two x a b, deep, u, r, h => by
    simp only [Tr.ways] at h
    simp only [Tr.lay]
    split at h
    · rename_i h6
      rw [if_pos h6]
      obtain ⟨p, hp, hpq⟩ := List.mem_flatMap.1 h
      obtain ⟨q, hq, rfl⟩ := List.mem_map.1 hpq
      obtain ⟨s1, e1⟩ := ways_lay a deep p (q ++ r) hp
      obtain ⟨s2, e2⟩ := ways_lay b deep q r hq
      rw [List.append_assoc, e1]
      simp only [e2]
      exact ⟨_, rfl⟩
    · rename_i h6
      rw [if_neg h6]
      rcases List.mem_append.1 h with h | h
      · obtain ⟨v, hv, rfl⟩ := List.mem_map.1 h
        simp only [List.cons_append, if_pos]
        exact ways_lay a deep v r hv
      · obtain ⟨v, hv, rfl⟩ := List.mem_map.1 h
        simp only [List.cons_append]
        rw [if_neg (by decide)]
        exact ways_lay b deep v r hv

/-- What lays the doc is one of its ways. -/
theorem lay_ways : ∀ (t : Tr) (deep : Nat) (ws r : List Int) (s : List UInt8), okC01 ws → t.lay deep ws = .ok (s, r) → ∃ u ∈ t.ways, ws = u ++ r
  | .leaf x, deep, ws, r, s, _, h => by
    refine ⟨[], by simp [Tr.ways], ?_⟩
    simp only [Tr.lay] at h
    split at h
    · cases h; rfl
    · split at h
      · cases h; rfl
      · cases h; rfl
  | .one x a, deep, ws, r, s, h0, h => by
    simp only [Tr.lay] at h
    simp only [Tr.ways]
    split at h
    · rename_i h7
      rw [if_pos h7]
      exact lay_ways a _ ws r s h0 h
    · rename_i h7
      rw [if_neg h7]
      match ws, h0, h with
      | [], _, h => cases h
      | c :: ws, h0, h =>
        simp only at h
        split at h
        · rename_i h1
          subst h1
          obtain ⟨u, hu, e⟩ := lay_ways a deep ws r s (fun d hd => h0 d (by simp [hd])) h
          exact ⟨1 :: u, List.mem_append.2 (.inr (List.mem_map.2 ⟨u, hu, rfl⟩)), by rw [e]; rfl⟩
        · rename_i h1
          have hc : c = 0 := by have := h0 c (by simp); omega
          subst hc
          cases hf : a.flat with
          | none => rw [hf] at h; cases h
          | some v =>
            rw [hf] at h
            cases h
            refine ⟨[0], List.mem_append.2 (.inl ?_), rfl⟩
            rw [if_pos (by rw [Tr.isFlat, hf]; rfl)]
            simp
  | .two x a b, deep, ws, r, s, h0, h => by
    simp only [Tr.lay] at h
    simp only [Tr.ways]
    split at h
    · rename_i h6
      rw [if_pos h6]
      cases ha : a.lay deep ws with
      | error e => rw [ha] at h; cases h
      | ok p =>
        obtain ⟨s1, ws1⟩ := p
        rw [ha] at h
        simp only at h
        cases hb : b.lay deep ws1 with
        | error e => rw [hb] at h; cases h
        | ok q =>
          obtain ⟨s2, ws2⟩ := q
          rw [hb] at h
          cases h
          obtain ⟨u, hu, e1⟩ := lay_ways a deep ws ws1 s1 h0 ha
          obtain ⟨v, hv, e2⟩ := lay_ways b deep ws1 r s2 (fun d hd => h0 d (by rw [e1]; simp [hd])) hb
          exact ⟨u ++ v, List.mem_flatMap.2 ⟨u, hu, List.mem_map.2 ⟨v, hv, rfl⟩⟩, by rw [e1, e2, List.append_assoc]⟩
    · rename_i h6
      rw [if_neg h6]
      match ws, h0, h with
      | [], _, h => cases h
      | c :: ws, h0, h =>
        simp only at h
        split at h
        · rename_i h1
          subst h1
          obtain ⟨u, hu, e⟩ := lay_ways a deep ws r s (fun d hd => h0 d (by simp [hd])) h
          exact ⟨0 :: u, List.mem_append.2 (.inl (List.mem_map.2 ⟨u, hu, rfl⟩)), by rw [e]; rfl⟩
        · rename_i h1
          have hc : c = 1 := by have := h0 c (by simp); omega
          subst hc
          obtain ⟨u, hu, e⟩ := lay_ways b deep ws r s (fun d hd => h0 d (by simp [hd])) h
          exact ⟨1 :: u, List.mem_append.2 (.inr (List.mem_map.2 ⟨u, hu, rfl⟩)), by rw [e]; rfl⟩

/-- The text of a way, or the fault. -/
def Tr.show (t : Tr) (ws : List Int) : Except Int (List UInt8) :=
  if ws.all (fun c => c == 0 || c == 1) = true then match t.lay 0 ws with
    | .error e => .error e
    | .ok (s, []) => .ok s
    | .ok (_, _ :: _) => .error 2
  else .error 1
theorem all01 {ws : List Int} : ws.all (fun c => c == 0 || c == 1) = true ↔ okC01 ws := by
  simp [okC01]

theorem show_ways (t : Tr) (ws : List Int) : (∃ s, t.show ws = .ok s) ↔ ws ∈ t.ways := by
  constructor
  · rintro ⟨s, h⟩
    unfold Tr.show at h
    split at h
    · rename_i h0
      cases hl : t.lay 0 ws with
      | error e => rw [hl] at h; cases h
      | ok p =>
        obtain ⟨u, r⟩ := p
        rw [hl] at h
        cases r with
        | cons c r => cases h
        | nil =>
          obtain ⟨v, hv, e⟩ := lay_ways t 0 ws [] u (all01.1 h0) hl
          rw [List.append_nil] at e
          rw [e]; exact hv
    · cases h
  · intro h
    obtain ⟨s, hs⟩ := ways_lay t 0 ws [] h
    rw [List.append_nil] at hs
    refine ⟨s, ?_⟩
    unfold Tr.show
    rw [if_pos (all01.2 (ways_01 t ws h)), hs]

/-- One way is ahead of another one, neither the beginning of the other. -/
def aheadL : List Int → List Int → Prop
  | a :: as, b :: bs => if a = b then aheadL as bs else a < b
  | _, _ => False
theorem aheadL_app : ∀ (u v r : List Int), aheadL u v → aheadL (u ++ r) v
  | a :: as, b :: bs, r, h => by
    simp only [List.cons_append, aheadL] at h ⊢
    split
    · rename_i e; rw [if_pos e] at h; exact aheadL_app as bs r h
    · rename_i e; rw [if_neg e] at h; exact h
theorem aheadL_app2 : ∀ (u v r s : List Int), aheadL u v → aheadL (u ++ r) (v ++ s)
  | a :: as, b :: bs, r, s, h => by
    simp only [List.cons_append, aheadL] at h ⊢
    split
    · rename_i e; rw [if_pos e] at h; exact aheadL_app2 as bs r s h
    · rename_i e; rw [if_neg e] at h; exact h
theorem aheadL_pre : ∀ (u r s : List Int), aheadL r s → aheadL (u ++ r) (u ++ s)
  | [], r, s, h => h
  | a :: u, r, s, h => by simp only [List.cons_append, aheadL, if_pos]; exact aheadL_pre u r s h
theorem pairwise_flat {α β : Type} {R : β → β → Prop} (f : α → List β) : ∀ l : List α, (∀ x ∈ l, (f x).Pairwise R) → l.Pairwise (fun x y => ∀ p ∈ f x, ∀ q ∈ f y, R p q) → (l.flatMap f).Pairwise R
  | [], _, _ => List.Pairwise.nil
  | x :: l, h1, h2 => by
    rw [List.flatMap_cons]
    rw [List.pairwise_cons] at h2
    refine List.pairwise_append.2 ⟨h1 x (by simp), pairwise_flat f l (fun y hy => h1 y (by simp [hy])) h2.2, ?_⟩
    intro p hp q hq
    obtain ⟨y, hy, hq⟩ := List.mem_flatMap.1 hq
    exact h2.1 y hy p hp q hq
/-- Ways rise. -/
theorem ways_rise : ∀ t : Tr, t.ways.Pairwise aheadL
  | .leaf _ => by simp [Tr.ways]
  | .one x a => by
    simp only [Tr.ways]
    have ih := ways_rise a
    split
    · exact ih
    · refine List.pairwise_append.2 ⟨?_, ?_, ?_⟩
      · split <;> simp
      · exact List.pairwise_map.2 (ih.imp fun h => by simp only [aheadL, if_pos]; exact h)
      · intro p hp q hq
        split at hp
        · simp at hp
          subst hp
          obtain ⟨v, _, rfl⟩ := List.mem_map.1 hq
          simp [aheadL]
        · simp at hp
  | .two x a b => by
    simp only [Tr.ways]
    have ia := ways_rise a
    have ib := ways_rise b
    split
    · refine pairwise_flat _ _ ?_ ?_
      · intro u _
        exact List.pairwise_map.2 (ib.imp fun h => aheadL_pre u _ _ h)
      · refine ia.imp ?_
        intro u v h p hp q hq
        obtain ⟨r, _, rfl⟩ := List.mem_map.1 hp
        obtain ⟨s, _, rfl⟩ := List.mem_map.1 hq
        exact aheadL_app2 u v r s h
    · refine List.pairwise_append.2 ⟨?_, ?_, ?_⟩
      · exact List.pairwise_map.2 (ia.imp fun h => by simp only [aheadL, if_pos]; exact h)
      · exact List.pairwise_map.2 (ib.imp fun h => by simp only [aheadL, if_pos]; exact h)
      · intro p hp q hq
        obtain ⟨u, _, rfl⟩ := List.mem_map.1 hp
        obtain ⟨v, _, rfl⟩ := List.mem_map.1 hq
        simp [aheadL]

/-- What is behind the choices makes no difference. -/
theorem lay_app : ∀ (t : Tr) (deep : Nat) (ws r vs : List Int) (s : List UInt8), t.lay deep ws = .ok (s, r) → t.lay deep (ws ++ vs) = .ok (s, r ++ vs)
  | .leaf x, deep, ws, r, vs, s, h => by
    simp only [Tr.lay] at h ⊢
    split at h
    · rename_i h1; cases h; rw [if_pos h1]
    · rename_i h1
      rw [if_neg h1]
      split at h
      · rename_i h2; cases h; rw [if_pos h2]
      · rename_i h2; cases h; rw [if_neg h2]
  | .one x a, deep, ws, r, vs, s, h => by
    simp only [Tr.lay] at h ⊢
    split at h
    · rename_i h7; rw [if_pos h7]; exact lay_app a _ ws r vs s h
    · rename_i h7
      rw [if_neg h7]
      match ws, h with
      | c :: ws, h =>
        simp only [List.cons_append] at h ⊢
        split at h
        · rename_i h1; rw [if_pos h1]; exact lay_app a deep ws r vs s h
        · rename_i h1
          rw [if_neg h1]
          cases hf : a.flat with
          | none => rw [hf] at h; cases h
          | some v => rw [hf] at h; cases h; rfl
  | .two x a b, deep, ws, r, vs, s, h => by
    simp only [Tr.lay] at h ⊢
    split at h
    · rename_i h6
      rw [if_pos h6]
      cases ha : a.lay deep ws with
      | error e => rw [ha] at h; cases h
      | ok p =>
        obtain ⟨s1, ws1⟩ := p
        rw [ha] at h
        simp only at h
        cases hb : b.lay deep ws1 with
        | error e => rw [hb] at h; cases h
        | ok q =>
          obtain ⟨s2, ws2⟩ := q
          rw [hb] at h
          cases h
          rw [lay_app a deep ws ws1 vs s1 ha]
          simp only
          rw [lay_app b deep ws1 r vs s2 hb]
    · rename_i h6
      rw [if_neg h6]
      match ws, h with
      | c :: ws, h =>
        simp only [List.cons_append] at h ⊢
        split at h
        · rename_i h1; rw [if_pos h1]; exact lay_app a deep ws r vs s h
        · rename_i h1; rw [if_neg h1]; exact lay_app b deep ws r vs s h

/-- Each new line so much deeper. -/
def indent (n : Nat) (s : List UInt8) : List UInt8 := s.flatMap fun c => if c = 10 then 10 :: List.replicate n 32 else [c]
theorem indent_no {n : Nat} : ∀ {s : List UInt8}, (∀ b ∈ s, b ≠ 10) → indent n s = s
  | [], _ => rfl
  | c :: s, h => by
    have h1 := indent_no (n := n) (s := s) fun b hb => h b (by simp [hb])
    unfold indent at h1 ⊢
    rw [List.flatMap_cons, h1, if_neg (h c (by simp))]
    rfl
theorem indent_app (n : Nat) (s t : List UInt8) : indent n (s ++ t) = indent n s ++ indent n t := by simp [indent, List.flatMap_append]
theorem word_no10 {x : Nd} (h : nodeF x = 0) (h1 : x.op = 1) : ∀ b ∈ x.tx.data.toList, b ≠ 10 := by
  obtain ⟨_, _, _, _, h5, _⟩ := node_ok h
  have hw := h5 h1
  simp only [isW, Bool.and_eq_true, List.all_eq_true] at hw
  intro b hb hc
  have := hw.2 b hb
  subst hc
  simp [wordB] at this
theorem lay_deep : ∀ (t : Tr) (deep n : Nat) (ws : List Int), t.Wf → t.lay (deep + n) ws = (t.lay deep ws).map fun p => (indent n p.1, p.2)
  | .leaf x, deep, n, ws, h => by
    simp only [Tr.lay]
    split
    · rename_i h1
      simp only [Except.map]
      rw [indent_no (word_no10 h.1 h1)]
    · split
      · rfl
      · simp only [Except.map, indent, List.flatMap_cons, if_pos]
        congr 2
        have : List.flatMap (fun c : UInt8 => if c = 10 then 10 :: List.replicate n 32 else [c]) (List.replicate deep 32) = List.replicate deep 32 :=
          indent_no (n := n) (s := List.replicate deep 32) fun b hb => by have := List.eq_of_mem_replicate hb; subst this; decide
        rw [this, Nat.add_comm deep n, ← List.replicate_append_replicate]
        rfl
  | .one x a, deep, n, ws, h => by
    simp only [Tr.lay]
    split
    · rw [show deep + n + x.n.toNat = (deep + x.n.toNat) + n by omega]
      exact lay_deep a _ n ws h.2.2
    · match ws with
      | [] => rfl
      | c :: ws =>
        simp only
        split
        · exact lay_deep a deep n ws h.2.2
        · cases hf : a.flat with
          | none => rfl
          | some v =>
            simp only [Except.map]
            rw [indent_no (flat_no10 a v h.2.2 hf)]
  | .two x a b, deep, n, ws, h => by
    simp only [Tr.lay]
    split
    · rw [lay_deep a deep n ws h.2.2.1]
      cases ha : a.lay deep ws with
      | error e => rfl
      | ok p =>
        obtain ⟨s1, ws1⟩ := p
        simp only [Except.map]
        rw [lay_deep b deep n ws1 h.2.2.2]
        cases hb : b.lay deep ws1 with
        | error e => rfl
        | ok q =>
          obtain ⟨s2, ws2⟩ := q
          simp only [Except.map]
          rw [indent_app]
    · match ws with
      | [] => rfl
      | c :: ws =>
        simp only
        split
        · exact lay_deep a deep n ws h.2.2.1
        · exact lay_deep b deep n ws h.2.2.2
end Go.Proofs.YtfabfclbnekleaaDoor
