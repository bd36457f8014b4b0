/- All ways, one behind the other, plainly: a way as it is gone by what is settled of it; the next one. -/
import Derived.Test.YtfabfclbnekleaaDoorWayQ
namespace Go.Proofs.YtfabfclbnekleaaDoor

/-- A doc gone by settled choices, and else by the least: the choices made, and those that are left. -/
def Tr.go : Tr → List Int → List Int × List Int
  | .leaf _, rest => ([], rest)
  | .one x a, rest =>
    if x.op = 7 then a.go rest
    else match rest with
      | [] => if a.isFlat = true then ([0], []) else (1 :: (a.go []).1, (a.go []).2)
      | c :: r => if c = 1 then (1 :: (a.go r).1, (a.go r).2) else ([c], r)
  | .two x a b, rest =>
    if x.op = 6 then ((a.go rest).1 ++ (b.go (a.go rest).2).1, (b.go (a.go rest).2).2)
    else match rest with
      | [] => (0 :: (a.go []).1, (a.go []).2)
      | c :: r => if c = 0 then (0 :: (a.go r).1, (a.go r).2) else (c :: (b.go r).1, (b.go r).2)

/-- A way is gone as it is, whatever is behind it. -/
theorem go_way : ∀ (t : Tr) (u r : List Int), u ∈ t.ways → t.go (u ++ r) = (u, r)
  | .leaf x, u, r, h => by
    simp [Tr.ways] at h
    subst h
    rfl
  | .one x a, u, r, h => by
    simp only [Tr.ways] at h
    simp only [Tr.go]
    split at h
    · rename_i h7
      rw [if_pos h7]
      exact go_way a u r h
    · rename_i h7
      rw [if_neg h7]
      rcases List.mem_append.1 h with h | h
      · split at h
        · simp at h
          subst h
          simp
        · simp at h
      · obtain ⟨v, hv, rfl⟩ := List.mem_map.1 h
        simp only [List.cons_append, if_pos, go_way a v r hv]
  | .two x a b, u, r, h => by
    simp only [Tr.ways] at h
    simp only [Tr.go]
    split at h
    · rename_i h6
      rw [if_pos h6]
      obtain ⟨p, hp, hpq⟩ := List.mem_flatMap.1 h
      obtain ⟨q, hq, rfl⟩ := List.mem_map.1 hpq
      rw [List.append_assoc, go_way a p (q ++ r) hp]
      simp only [go_way b q r hq]
    · rename_i h6
      rw [if_neg h6]
      rcases List.mem_append.1 h with h | h
      · obtain ⟨v, hv, rfl⟩ := List.mem_map.1 h
        simp only [List.cons_append, if_pos, go_way a v r hv]
      · obtain ⟨v, hv, rfl⟩ := List.mem_map.1 h
        simp only [List.cons_append]
        rw [if_neg (by decide), go_way b v r hv]

/-- The first way. -/
def Tr.first (t : Tr) : List Int := (t.go []).1
theorem go_first : ∀ t : Tr, t.go [] = (t.first, []) ∧ ∃ l, t.ways = t.first :: l
  | .leaf x => ⟨rfl, [], rfl⟩
  | .one x a => by
    obtain ⟨h1, l, h2⟩ := go_first a
    unfold Tr.first at *
    simp only [Tr.go, Tr.ways]
    split
    · exact ⟨h1, l, h2⟩
    · split
      · exact ⟨rfl, a.ways.map (1 :: ·), rfl⟩
      · rw [h1, h2]
        exact ⟨rfl, l.map (1 :: ·), rfl⟩
  | .two x a b => by
    obtain ⟨h1, l, h2⟩ := go_first a
    obtain ⟨h3, m, h4⟩ := go_first b
    unfold Tr.first at *
    simp only [Tr.go, Tr.ways]
    split
    · rw [h1, h3, h2, h4]
      exact ⟨rfl, _, rfl⟩
    · rw [h1, h2]
      exact ⟨rfl, _, rfl⟩

/-- What is settled of the next way: the last 0 becomes 1. -/
def turnL : List Int → Option (List Int)
  | [] => none
  | c :: u => match turnL u with
    | some p => some (c :: p)
    | none => if c = 1 then none else some [1]
theorem turnL_app_some {u v p : List Int} (h : turnL v = some p) : turnL (u ++ v) = some (u ++ p) := by
  induction u with
  | nil => exact h
  | cons c u ih => simp only [List.cons_append, turnL, ih]
theorem turnL_app_none {u v : List Int} (h : turnL v = none) : turnL (u ++ v) = turnL u := by
  induction u with
  | nil => rw [List.nil_append, h]; rfl
  | cons c u ih => simp only [List.cons_append, turnL, ih]

/-- The one way is next behind the other. -/
def Nxt (t : Tr) (u v : List Int) : Prop := ∃ p, turnL u = some p ∧ t.go p = (v, [])
/-- Each is next behind the one ahead of it; behind the last there is none. -/
def chainN (R : List Int → List Int → Prop) (E : List Int → Prop) : List (List Int) → Prop
  | [] => True
  | [u] => E u
  | u :: v :: l => R u v ∧ chainN R E (v :: l)
theorem chain_map {R R' : List Int → List Int → Prop} {E E' : List Int → Prop} (f : List Int → List Int) (h1 : ∀ u v, R u v → R' (f u) (f v)) (h2 : ∀ u, E u → E' (f u)) : ∀ l, chainN R E l → chainN R' E' (l.map f)
  | [], _ => trivial
  | [u], h => h2 u h
  | u :: v :: l, h => ⟨h1 u v h.1, chain_map f h1 h2 (v :: l) h.2⟩
theorem chain_app {R : List Int → List Int → Prop} {E E' : List Int → Prop} (w : List Int) (m : List (List Int)) (hm : chainN R E' (w :: m)) (hE : ∀ u, E u → R u w) : ∀ l, chainN R E l → chainN R E' (l ++ w :: m)
  | [], _ => hm
  | [_], h => ⟨hE _ h, hm⟩
  | _ :: v :: l, h => ⟨h.1, chain_app w m hm hE (v :: l) h.2⟩

/-- Blocks behind blocks: one for each of a chain. -/
theorem chain_flat {Ra Rb R : List Int → List Int → Prop} {Ea Eb E M : List Int → Prop} {bs : List (List Int)} {b0 : List Int} {bl : List (List Int)} (hbs : bs = b0 :: bl) (hb : chainN Rb Eb bs)
    (h1 : ∀ u p q, M u → Rb p q → R (u ++ p) (u ++ q)) (h2 : ∀ u u' p, Ra u u' → Eb p → R (u ++ p) (u' ++ b0)) (h3 : ∀ u p, Ea u → Eb p → E (u ++ p)) : ∀ l, (∀ u ∈ l, M u) → chainN Ra Ea l → chainN R E (l.flatMap fun u => bs.map (u ++ ·))
  | [], _, _ => trivial
  | [u], hM, h => by
    rw [List.flatMap_cons, List.flatMap_nil, List.append_nil]
    exact chain_map (u ++ ·) (fun p q => h1 u p q (hM u (by simp))) (fun p hp => h3 u p h hp) bs hb
  | u :: v :: l, hM, h => by
    have ih := chain_flat hbs hb h1 h2 h3 (v :: l) (fun x hx => hM x (by simp at hx ⊢; exact .inr hx)) h.2
    rw [List.flatMap_cons]
    have hc : chainN R (fun x => ∃ p, x = u ++ p ∧ Eb p) (bs.map (u ++ ·)) := chain_map (u ++ ·) (fun p q => h1 u p q (hM u (by simp))) (fun p hp => ⟨p, rfl, hp⟩) bs hb
    rw [List.flatMap_cons, hbs, List.map_cons, List.cons_append] at ih ⊢
    rw [hbs, List.map_cons] at hc
    refine chain_app _ _ ih ?_ _ hc
    rintro x ⟨p, rfl, hp⟩
    exact h2 u v p h.1 hp

theorem ways_next : ∀ t : Tr, chainN (Nxt t) (fun u => turnL u = none) t.ways
  | .leaf x => rfl
  | .one x a => by
    have ih := ways_next a
    obtain ⟨g1, l, g2⟩ := go_first a
    simp only [Tr.ways]
    split
    · rename_i h7
      have e : Nxt (.one x a) = Nxt a := by
        funext u v
        simp only [Nxt, Tr.go, if_pos h7]
      rw [e]
      exact ih
    · rename_i h7
      have hm : chainN (Nxt (.one x a)) (fun u => turnL u = none) (a.ways.map (1 :: ·)) := by
        refine chain_map _ ?_ ?_ _ ih
        · rintro u v ⟨p, h1, h2⟩
          refine ⟨1 :: p, by simp only [turnL, h1], ?_⟩
          simp only [Tr.go, if_neg h7, if_pos, h2]
        · intro u h
          simp only [turnL, h, if_pos]
      split
      · rw [g2, List.map_cons] at hm ⊢
        refine ⟨⟨[1], rfl, ?_⟩, hm⟩
        simp only [Tr.go, if_neg h7, if_pos, g1]
      · exact hm
  | .two x a b => by
    have ia := ways_next a
    have ib := ways_next b
    obtain ⟨g1, l, g2⟩ := go_first a
    obtain ⟨g3, m, g4⟩ := go_first b
    simp only [Tr.ways]
    split
    · rename_i h6
      refine chain_flat (M := fun u => u ∈ a.ways) g4 ib ?_ ?_ ?_ a.ways (fun u hu => hu) ia
      · rintro u p q hu ⟨p', k1, k2⟩
        refine ⟨u ++ p', turnL_app_some k1, ?_⟩
        simp only [Tr.go, if_pos h6, go_way a u p' hu, k2]
      · rintro u u' p ⟨p', k1, k2⟩ hp
        refine ⟨p', by rw [turnL_app_none hp]; exact k1, ?_⟩
        simp only [Tr.go, if_pos h6, k2, g3]
      · intro u p hu hp
        rw [turnL_app_none hp]
        exact hu
    · rename_i h6
      have hb : chainN (Nxt (.two x a b)) (fun u => turnL u = none) (b.ways.map (1 :: ·)) := by
        refine chain_map _ ?_ ?_ _ ib
        · rintro u v ⟨p, h1, h2⟩
          refine ⟨1 :: p, by simp only [turnL, h1], ?_⟩
          simp only [Tr.go, if_neg h6]
          rw [if_neg (by decide), h2]
        · intro u h
          simp only [turnL, h, if_pos]
      have ha : chainN (Nxt (.two x a b)) (fun u => ∃ p, u = 0 :: p ∧ turnL p = none) (a.ways.map (0 :: ·)) := by
        refine chain_map _ ?_ (fun u h => ⟨u, rfl, h⟩) _ ia
        rintro u v ⟨p, h1, h2⟩
        refine ⟨0 :: p, by simp only [turnL, h1], ?_⟩
        simp only [Tr.go, if_neg h6, if_pos, h2]
      rw [g4, List.map_cons] at hb ⊢
      refine chain_app _ _ hb ?_ _ ha
      rintro x' ⟨p, rfl, hp⟩
      refine ⟨[1], by simp only [turnL, hp]; rfl, ?_⟩
      simp only [Tr.go, if_neg h6]
      rw [if_neg (by decide), g3]
end Go.Proofs.YtfabfclbnekleaaDoor
