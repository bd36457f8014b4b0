/- What is shown, of docs' nodes: faults, lengths; of two docs as one, deeper, in a group. -/
import Derived.Test.YtmbeamcjpidnjaaGreatDoorWayS
import Derived.Test.YtmbeamcjpidnjaaGreatDoorFlatS
namespace Go.Proofs.YtmbeamcjpidnjaaGreatDoor

theorem lay_err : ∀ (t : Tr) (deep : Nat) (ws : List Int) (e : Int), t.lay deep ws = .error e → e ≠ 0
  | .leaf x, deep, ws, e, h => by
    simp only [Tr.lay] at h
    split at h
    · cases h
    · split at h <;> cases h
  | .one x a, deep, ws, e, h => by
    simp only [Tr.lay] at h
    split at h
    · exact lay_err a _ ws e h
    · match ws, h with
      | [], h => cases h; decide
      | c :: ws, h =>
        simp only at h
        split at h
        · exact lay_err a deep ws e h
        · cases hf : a.flat with
          | none => rw [hf] at h; cases h; decide
          | some s => rw [hf] at h; cases h
  | .two x a b, deep, ws, e, h => by
    simp only [Tr.lay] at h
    split at h
    · cases ha : a.lay deep ws with
      | error e0 => rw [ha] at h; cases h; exact lay_err a deep ws _ ha
      | ok p =>
        obtain ⟨s1, ws1⟩ := p
        rw [ha] at h
        simp only at h
        cases hb : b.lay deep ws1 with
        | error e0 => rw [hb] at h; cases h; exact lay_err b deep ws1 _ hb
        | ok q => rw [hb] at h; cases h
    · match ws, h with
      | [], h => cases h; decide
      | c :: ws, h =>
        simp only at h
        split at h
        · exact lay_err a deep ws e h
        · exact lay_err b deep ws e h
theorem show_err {t : Tr} {ws : List Int} {e : Int} (h : t.show ws = .error e) : e ≠ 0 := by
  unfold Tr.show at h
  split at h
  · cases hl : t.lay 0 ws with
    | error e0 => rw [hl] at h; cases h; exact lay_err t 0 ws _ hl
    | ok p =>
      obtain ⟨u, r⟩ := p
      rw [hl] at h
      cases r with
      | nil => cases h
      | cons c r => cases h; decide
  · cases h; decide

/-- What is shown of a doc's nodes, and the fault. -/
noncomputable def showD (ds : List Nd) (ws : List Int) : Except Int (List UInt8) := if h : docF ds = 0 then (docT ds h).show ws else .error (docF ds)
theorem showD_bad {ds : List Nd} {ws : List Int} (h : docF ds ≠ 0) : showD ds ws = .error (docF ds) := dif_neg h
theorem showD_tree {ds : List Nd} {ws : List Int} {t : Tr} (ht : t.Wf) (e : ds = t.nodes) (hl : ds.length ≤ 400) : showD ds ws = t.show ws := by
  have h : docF ds = 0 := by rw [e]; exact tree_doc ht (by rw [← e]; exact hl)
  rw [showD, dif_pos h, docT_eq h ht e]
theorem showD_err {ds : List Nd} {ws : List Int} {e : Int} (h : showD ds ws = .error e) : e ≠ 0 := by
  by_cases h0 : docF ds = 0
  · rw [showD, dif_pos h0] at h
    exact show_err h
  · rw [showD_bad h0] at h
    cases h
    exact h0
/-- What is shown is of a tree. -/
theorem showD_ok {ds : List Nd} {ws : List Int} {u : List UInt8} (h : showD ds ws = .ok u) : docF ds = 0 ∧ ds.length ≤ 400 ∧ ∃ t : Tr, t.Wf ∧ ds = t.nodes ∧ t.show ws = .ok u := by
  by_cases h0 : docF ds = 0
  · rw [showD, dif_pos h0] at h
    exact ⟨h0, (docF_zero h0).1, _, docT_wf h0, docT_nodes h0, h⟩
  · rw [showD_bad h0] at h
    cases h

theorem way_len : ∀ (t : Tr) (u : List Int), u ∈ t.ways → u.length ≤ t.nodes.length
  | .leaf _, u, h => by simp [Tr.ways] at h; subst h; simp
  | .one x a, u, h => by
    simp only [Tr.ways] at h
    simp only [Tr.nodes, List.length_cons]
    split at h
    · have := way_len a u h; omega
    · rcases List.mem_append.1 h with h | h
      · split at h
        · simp at h; subst h; simp
        · simp at h
      · obtain ⟨v, hv, rfl⟩ := List.mem_map.1 h
        have := way_len a v hv
        simp; omega
  | .two x a b, u, h => by
    simp only [Tr.ways] at h
    simp only [Tr.nodes, List.length_cons, List.length_append]
    split at h
    · obtain ⟨p, hp, hpq⟩ := List.mem_flatMap.1 h
      obtain ⟨q, hq, rfl⟩ := List.mem_map.1 hpq
      have h1 := way_len a p hp
      have h2 := way_len b q hq
      rw [List.length_append]; omega
    · rcases List.mem_append.1 h with h | h
      · obtain ⟨v, hv, rfl⟩ := List.mem_map.1 h
        have := way_len a v hv
        simp; omega
      · obtain ⟨v, hv, rfl⟩ := List.mem_map.1 h
        have := way_len b v hv
        simp; omega

/-- What lays a way: the choices may be, and none is left. -/
theorem show_lays {t : Tr} {ws : List Int} {u : List UInt8} (h : t.show ws = .ok u) : okC01 ws ∧ t.lay 0 ws = .ok (u, []) := by
  unfold Tr.show at h
  split at h
  · rename_i h0
    refine ⟨all01.1 h0, ?_⟩
    cases hl : t.lay 0 ws with
    | error e0 => rw [hl] at h; cases h
    | ok p =>
      obtain ⟨v, r⟩ := p
      rw [hl] at h
      cases r with
      | nil => cases h; rfl
      | cons c r => cases h
  · cases h
theorem lays_show {t : Tr} {ws : List Int} {u : List UInt8} (h0 : okC01 ws) (h : t.lay 0 ws = .ok (u, [])) : t.show ws = .ok u := by
  rw [show_lay h0, h]
theorem showD_len {ds : List Nd} {ws : List Int} {u : List UInt8} (h : showD ds ws = .ok u) : u.length ≤ 1600000 ∧ ws.length ≤ 400 := by
  obtain ⟨_, hl, t, ht, e, hs⟩ := showD_ok h
  have hw := (show_ways t ws).1 ⟨u, hs⟩
  have h1 := way_len t ws hw
  obtain ⟨_, h2⟩ := show_lays hs
  rw [← e] at h1
  have h3 := lay_len t 0 ws u [] ht h2 (by rw [← e]; omega)
  rw [← e] at h3
  omega

/-- Two docs as one: choices behind choices. -/
theorem showD_both {ds es : List Nd} {ws vs : List Int} {u v : List UInt8} (h1 : showD ds ws = .ok u) (h2 : showD es vs = .ok v) (hl : ds.length + es.length < 400) : showD (⟨6, ⟨#[]⟩, 0⟩ :: (ds ++ es)) (ws ++ vs) = .ok (u ++ v) := by
  obtain ⟨_, _, t, ht, e, hs⟩ := showD_ok h1
  obtain ⟨_, _, t', ht', e', hs'⟩ := showD_ok h2
  obtain ⟨k1, l1⟩ := show_lays hs
  obtain ⟨k2, l2⟩ := show_lays hs'
  have hw : Tr.Wf (.two ⟨6, ⟨#[]⟩, 0⟩ t t') := ⟨by decide +kernel, by decide +kernel, ht, ht'⟩
  rw [showD_tree hw (by rw [Tr.nodes, ← e, ← e']) (by simp; omega)]
  refine lays_show ?_ ?_
  · intro c hc
    rcases List.mem_append.1 hc with hc | hc
    · exact k1 c hc
    · exact k2 c hc
  · have h3 := lay_app t 0 ws [] vs u l1
    rw [List.nil_append] at h3
    simp only [Tr.lay, if_pos, h3, l2]

/-- So much deeper. -/
theorem showD_deep {ds : List Nd} {ws : List Int} {u : List UInt8} {n : Int} (h : showD ds ws = .ok u) (h0 : 0 ≤ n) (h8 : n ≤ 8) (hl : ds.length + 1 ≤ 400) : showD (⟨7, ⟨#[]⟩, n⟩ :: ds) ws = .ok (indent n.toNat u) := by
  obtain ⟨_, _, t, ht, e, hs⟩ := showD_ok h
  obtain ⟨k1, l1⟩ := show_lays hs
  have hn : nodeF ⟨7, ⟨#[]⟩, n⟩ = 0 := by
    have : (⟨#[]⟩ : ByteArray).size = 0 := rfl
    simp [nodeF, this]
    omega
  have hw : Tr.Wf (.one ⟨7, ⟨#[]⟩, n⟩ t) := ⟨hn, rfl, ht⟩
  rw [showD_tree hw (by rw [Tr.nodes, ← e]) (by simp; omega)]
  refine lays_show k1 ?_
  simp only [Tr.lay, if_pos]
  rw [lay_deep t 0 n.toNat ws ht, l1]
  rfl

/-- In a group it is flat. -/
theorem showD_group {ds : List Nd} (h : docF ds = 0) (hl : ds.length + 1 ≤ 400) : showD (⟨8, ⟨#[]⟩, 0⟩ :: ds) [0] = (if flB ds = true then .ok (flS ds).data.toList else .error 4) := by
  obtain ⟨_, a1, a2⟩ := fl_tree (docT_wf h) (docT_nodes h) (by omega)
  have hw : Tr.Wf (.one ⟨8, ⟨#[]⟩, 0⟩ (docT ds h)) := ⟨by decide +kernel, by decide +kernel, docT_wf h⟩
  rw [showD_tree hw (by rw [Tr.nodes, ← docT_nodes h]) (by simp; omega), show_lay (fun c hc => by simp at hc; exact .inl hc), a1, a2]
  simp only [Tr.lay, Tr.isFlat, line_list]
  cases hf : (docT ds h).flat with
  | none => rfl
  | some s => rfl
/-- What is flat has no new line. -/
theorem flS_no10 (ds : List Nd) : ∀ b ∈ (flS ds).data.toList, b ≠ 10 := by
  by_cases h : docF ds = 0
  · obtain ⟨_, a1, _⟩ := fl_tree (docT_wf h) (docT_nodes h) (docF_zero h).1
    rw [a1, line_list]
    cases hf : (docT ds h).flat with
    | none => simp
    | some s => exact flat_no10 _ s (docT_wf h) hf
  · rw [(fl_bad h).1]
    simp
theorem flS_none {ds : List Nd} (hf : flB ds = false) : flS ds = ⟨#[]⟩ := by
  by_cases h : docF ds = 0
  · obtain ⟨_, q1, q2⟩ := fl_tree (docT_wf h) (docT_nodes h) (docF_zero h).1
    rw [q2, Tr.isFlat] at hf
    rw [q1, Tr.line]
    cases hk : (docT ds h).flat with
    | none => rfl
    | some s => rw [hk] at hf; cases hf
  · exact (fl_bad h).1
theorem get_no10 {s : ByteArray} (h : ∀ b ∈ s.data.toList, b ≠ 10) {k : Nat} (hk : k < s.size) : ((s[k].toNat : Int) == 10) = false := by
  have h1 : s[k] ∈ s.data.toList := by
    have : s[k] = s.data[k] := rfl
    rw [this]
    simp
  have h2 := h _ h1
  rw [beq_eq_false_iff_ne]
  intro h3
  apply h2
  have h4 : s[k].toNat = 10 := by omega
  exact UInt8.toNat_inj.1 h4
theorem flS_len (ds : List Nd) : (flS ds).size ≤ 8000 := by
  by_cases h : docF ds = 0
  · have l1 := (docF_zero h).1
    obtain ⟨_, a1, _⟩ := fl_tree (docT_wf h) (docT_nodes h) l1
    have := flat_le _ (docT_wf h)
    rw [← docT_nodes h] at this
    rw [a1, line_size]
    omega
  · rw [(fl_bad h).1]
    show 0 ≤ 8000
    omega
end Go.Proofs.YtmbeamcjpidnjaaGreatDoor
