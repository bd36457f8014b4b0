/- Ways, plainly: what is laid, by its parts; what is shown. -/
import Derived.Test.YtmbeamcjpidnjaaGreatDoorDocFs
namespace Go.Proofs.YtmbeamcjpidnjaaGreatDoor

/-- Both parts, a group, one of two: laid. -/
def layBoth (f g : Nat → List Int → Except Int (List UInt8 × List Int)) (deep : Nat) (ws : List Int) : Except Int (List UInt8 × List Int) :=
  match f deep ws with
  | .error e => .error e
  | .ok (s, ws1) => match g deep ws1 with
    | .error e => .error e
    | .ok (t, ws2) => .ok (s ++ t, ws2)
def layGroup (f : Nat → List Int → Except Int (List UInt8 × List Int)) (sA : ByteArray) (fl : Bool) (deep : Nat) (ws : List Int) : Except Int (List UInt8 × List Int) :=
  match ws with
  | [] => .error 2
  | c :: ws => if c = 1 then f deep ws else if fl = true then .ok (sA.data.toList, ws) else .error 4
def layEither (f g : Nat → List Int → Except Int (List UInt8 × List Int)) (deep : Nat) (ws : List Int) : Except Int (List UInt8 × List Int) :=
  match ws with
  | [] => .error 2
  | c :: ws => if c = 0 then f deep ws else g deep ws

theorem flat_len {t : Tr} {s : List UInt8} (h : t.Wf) (e : t.flat = some s) : s.length ≤ 20 * t.nodes.length := by
  have := flat_le t h
  rw [e] at this
  exact this
theorem lay_len : ∀ (t : Tr) (deep : Nat) (ws : List Int) (u : List UInt8) (v : List Int), t.Wf → t.lay deep ws = .ok (u, v) → deep + 8 * t.nodes.length ≤ 3300 → u.length ≤ 4000 * t.nodes.length
  | .leaf x, deep, ws, u, v, h, e, hd => by
    obtain ⟨_, _, _, _, h5, _⟩ := node_ok h.1
    simp only [Tr.lay] at e
    simp only [Tr.nodes, List.length_cons, List.length_nil] at hd ⊢
    split at e
    · rename_i h1
      cases e
      have := isW_size (h5 h1)
      rw [size_list]
      omega
    · split at e
      · cases e; simp
      · cases e
        simp
        omega
  | .one x a, deep, ws, u, v, h, e, hd => by
    obtain ⟨_, _, _, _, _, h6⟩ := node_ok h.1
    simp only [Tr.lay] at e
    simp only [Tr.nodes, List.length_cons] at hd ⊢
    split at e
    · rename_i h7
      have := h6 h7
      have := lay_len a _ ws u v h.2.2 e (by omega)
      omega
    · match ws, e with
      | c :: ws, e =>
        simp only at e
        split at e
        · have := lay_len a deep ws u v h.2.2 e (by omega)
          omega
        · cases hf : a.flat with
          | none => rw [hf] at e; cases e
          | some w =>
            rw [hf] at e
            cases e
            have := flat_len h.2.2 hf
            omega
  | .two x a b, deep, ws, u, v, h, e, hd => by
    simp only [Tr.lay] at e
    simp only [Tr.nodes, List.length_cons, List.length_append] at hd ⊢
    split at e
    · cases ha : a.lay deep ws with
      | error e0 => rw [ha] at e; cases e
      | ok p =>
        obtain ⟨s1, ws1⟩ := p
        rw [ha] at e
        simp only at e
        cases hb : b.lay deep ws1 with
        | error e0 => rw [hb] at e; cases e
        | ok q =>
          obtain ⟨s2, ws2⟩ := q
          rw [hb] at e
          cases e
          have := lay_len a deep ws s1 ws1 h.2.2.1 ha (by omega)
          have := lay_len b deep ws1 s2 _ h.2.2.2 hb (by omega)
          rw [List.length_append]
          omega
    · match ws, e with
      | c :: ws, e =>
        simp only at e
        split at e
        · have := lay_len a deep ws u v h.2.2.1 e (by omega)
          omega
        · have := lay_len b deep ws u v h.2.2.2 e (by omega)
          omega

theorem lay_two {x : Nd} {a b : Tr} (h : x.op = 6) : Tr.lay (.two x a b) = layBoth a.lay b.lay := by
  funext deep ws
  simp only [Tr.lay, layBoth, if_pos h]
  rfl
theorem lay_either {x : Nd} {a b : Tr} (h : x.op = 9) : Tr.lay (.two x a b) = layEither a.lay b.lay := by
  funext deep ws
  simp only [Tr.lay, layEither, if_neg (show ¬ x.op = 6 by omega)]
  rfl
theorem lay_group {x : Nd} {a : Tr} (h : x.op = 8) : Tr.lay (.one x a) = layGroup a.lay a.line a.isFlat := by
  funext deep ws
  simp only [Tr.lay, layGroup, if_neg (show ¬ x.op = 7 by omega)]
  cases ws with
  | nil => rfl
  | cons c ws =>
    simp only [line_list, Tr.isFlat]
    cases a.flat with
    | none => rfl
    | some s => rfl

/-- The text, and the fault, of what is shown. -/
def shS (r : Except Int (List UInt8)) : ByteArray := match r with | .ok s => ⟨s.toArray⟩ | .error _ => ⟨#[]⟩
def shE (r : Except Int (List UInt8)) : Int := match r with | .ok _ => 0 | .error e => e

theorem show_range {t : Tr} {ws : List Int} {k : Nat} (h : k < ws.length) (h0 : ws[k] ≠ 0) (h1 : ws[k] ≠ 1) : t.show ws = .error 1 := by
  unfold Tr.show
  rw [if_neg]
  intro hc
  have := all01.1 hc ws[k] (List.getElem_mem h)
  omega
theorem show_lay {t : Tr} {ws : List Int} (h : okC01 ws) : t.show ws = match t.lay 0 ws with | .error e => .error e | .ok (s, []) => .ok s | .ok (_, _ :: _) => .error 2 := by
  unfold Tr.show
  rw [if_pos (all01.2 h)]
  rfl

end Go.Proofs.YtmbeamcjpidnjaaGreatDoor
