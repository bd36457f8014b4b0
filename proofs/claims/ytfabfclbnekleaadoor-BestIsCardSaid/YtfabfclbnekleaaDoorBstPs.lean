/- Some texts as one: BstP, BstQ, BstR, BstS, BstT. -/
import Derived.Test.YtfabfclbnekleaaDoorWayP
import Derived.Test.YtfabfclbnekleaaDoorFlatS
namespace Go.Proofs.YtfabfclbnekleaaDoor

/-- What a text costs that begins at a column: bytes above the width, new lines, and the column behind it. -/
def colS (wd : Nat) : Nat → List UInt8 → Nat × Nat × Nat
  | c, [] => (0, 0, c)
  | c, b :: s => if b = 10 then ((colS wd 0 s).1, (colS wd 0 s).2.1 + 1, (colS wd 0 s).2.2) else ((if wd ≤ c then 1 else 0) + (colS wd (c + 1) s).1, (colS wd (c + 1) s).2.1, (colS wd (c + 1) s).2.2)
theorem colS_app (wd : Nat) : ∀ (c : Nat) (s t : List UInt8), colS wd c (s ++ t) = ((colS wd c s).1 + (colS wd (colS wd c s).2.2 t).1, (colS wd c s).2.1 + (colS wd (colS wd c s).2.2 t).2.1, (colS wd (colS wd c s).2.2 t).2.2)
  | c, [], t => by simp [colS]
  | c, b :: s, t => by
    simp only [List.cons_append, colS]
    split
    · rw [colS_app wd 0 s t]
      simp only [Prod.mk.injEq, and_true, true_and]
      omega
    · rw [colS_app wd (c + 1) s t]
      simp only [Prod.mk.injEq, and_true]
      omega

/-- A cost, and the choices that make it. -/
abbrev Crs := (Nat × Nat) × List Int
def lessC (a b : Nat × Nat) : Prop := a.1 < b.1 ∨ (a.1 = b.1 ∧ a.2 < b.2)
instance (a b : Nat × Nat) : Decidable (lessC a b) := by unfold lessC; infer_instance
/-- The first of two, if the second is not cheaper. -/
def pick (a b : Crs) : Crs := if lessC b.1 a.1 then b else a
def pickO : Option Crs → Option Crs → Option Crs
  | none, y => y
  | x, none => x
  | some a, some b => some (pick a b)
theorem pick_assoc (a b c : Crs) : pick (pick a b) c = pick a (pick b c) := by
  by_cases h1 : lessC b.1 a.1 <;> by_cases h2 : lessC c.1 b.1 <;> by_cases h3 : lessC c.1 a.1
  all_goals first
    | (simp [pick, h1, h2, h3]; done)
    | (exfalso; unfold lessC at h1 h2 h3; omega)
theorem pickO_assoc (x y z : Option Crs) : pickO (pickO x y) z = pickO x (pickO y z) := by
  cases x <;> cases y <;> cases z <;> simp [pickO, pick_assoc]
/-- The first that costs least. -/
def fm : List Crs → Option Crs
  | [] => none
  | a :: l => pickO (some a) (fm l)
theorem fm_app : ∀ l m : List Crs, fm (l ++ m) = pickO (fm l) (fm m)
  | [], m => by cases h : fm m <;> simp [fm, pickO, h]
  | a :: l, m => by rw [List.cons_append, fm, fm, fm_app l m, pickO_assoc]
/-- So much more, and some choices ahead. -/
def plus (o l : Nat) (u : List Int) (a : Crs) : Crs := ((o + a.1.1, l + a.1.2), u ++ a.2)
theorem less_plus (o l : Nat) (u : List Int) (a b : Crs) : lessC (plus o l u b).1 (plus o l u a).1 ↔ lessC b.1 a.1 := by
  unfold lessC plus
  dsimp only
  omega
theorem pick_plus (o l : Nat) (u : List Int) (a b : Crs) : pick (plus o l u a) (plus o l u b) = plus o l u (pick a b) := by
  unfold pick
  by_cases h : lessC b.1 a.1
  · rw [if_pos h, if_pos ((less_plus o l u a b).2 h)]
  · rw [if_neg h, if_neg fun k => h ((less_plus o l u a b).1 k)]
theorem fm_plus (o l : Nat) (u : List Int) : ∀ as : List Crs, fm (as.map (plus o l u)) = (fm as).map (plus o l u)
  | [] => rfl
  | a :: as => by
    rw [List.map_cons, fm, fm_plus o l u as, fm]
    cases fm as with
    | none => rfl
    | some b => simp [pickO, pick_plus]
theorem fm_none : ∀ {l : List Crs}, fm l = none → l = []
  | [], _ => rfl
  | a :: l, h => by
    rw [fm] at h
    cases hl : fm l <;> rw [hl] at h <;> simp [pickO] at h
/-- It is one of them, none is cheaper, and those ahead of it cost more. -/
theorem fm_least : ∀ {l : List Crs} {a : Crs}, fm l = some a → ∃ (p q : List Crs), l = p ++ a :: q ∧ (∀ b ∈ p, lessC a.1 b.1) ∧ ∀ b ∈ q, ¬ lessC b.1 a.1
  | b :: l, a, h => by
    rw [fm] at h
    cases hl : fm l with
    | none =>
      rw [hl] at h
      obtain rfl := fm_none hl
      simp only [pickO, Option.some.injEq] at h
      subst h
      exact ⟨[], [], rfl, by simp, by simp⟩
    | some c =>
      rw [hl] at h
      obtain ⟨p, q, rfl, h1, h2⟩ := fm_least hl
      simp only [pickO, Option.some.injEq, pick] at h
      split at h
      · rename_i hlt
        subst h
        refine ⟨b :: p, q, rfl, fun d hd => ?_, h2⟩
        rcases List.mem_cons.1 hd with rfl | hd
        · exact hlt
        · exact h1 d hd
      · rename_i hlt
        subst h
        refine ⟨[], p ++ c :: q, rfl, by simp, fun d hd => ?_⟩
        rcases List.mem_append.1 hd with hd | hd
        · have := h1 d hd
          unfold lessC at *
          omega
        · rcases List.mem_cons.1 hd with rfl | hd
          · exact hlt
          · have := h2 d hd
            unfold lessC at *
            omega

/-- All ways of a doc that stands so deep, each with its text. -/
def Tr.outs : Tr → Nat → List (List UInt8 × List Int)
  | .leaf x, deep => [(if x.op = 1 then x.tx.data.toList else if x.op = 5 then [] else 10 :: List.replicate deep 32, [])]
  | .one x a, deep => if x.op = 7 then a.outs (deep + x.n.toNat) else (match a.flat with | none => [] | some s => [(s, [0])]) ++ (a.outs deep).map fun p => (p.1, 1 :: p.2)
  | .two x a b, deep => if x.op = 6 then (a.outs deep).flatMap fun p => (b.outs deep).map fun q => (p.1 ++ q.1, p.2 ++ q.2) else ((a.outs deep).map fun p => (p.1, 0 :: p.2)) ++ (b.outs deep).map fun p => (p.1, 1 :: p.2)
theorem outs_ways : ∀ (t : Tr) (deep : Nat), (t.outs deep).map (·.2) = t.ways
  | .leaf x, deep => by simp [Tr.outs, Tr.ways]
  | .one x a, deep => by
    simp only [Tr.outs, Tr.ways]
    split
    · exact outs_ways a _
    · rw [List.map_append, ← outs_ways a deep]
      congr 1
      · cases h : a.flat <;> simp [Tr.isFlat, h]
      · rw [List.map_map, List.map_map]; rfl
  | .two x a b, deep => by
    simp only [Tr.outs, Tr.ways]
    split
    · rw [← outs_ways a deep, ← outs_ways b deep, List.map_flatMap, List.flatMap_map]
      congr 1
      funext p
      rw [List.map_map, List.map_map]
      rfl
    · rw [← outs_ways a deep, ← outs_ways b deep, List.map_append, List.map_map, List.map_map, List.map_map, List.map_map]
      rfl
/-- What each way lays is its text. -/
theorem outs_lay : ∀ (t : Tr) (deep : Nat) (p : List UInt8 × List Int), p ∈ t.outs deep → ∀ r, t.lay deep (p.2 ++ r) = .ok (p.1, r)
  | .leaf x, deep, p, h, r => by
    simp only [Tr.outs, List.mem_singleton] at h
    subst h
    simp only [Tr.lay, List.nil_append]
    split
    · rfl
    · split <;> rfl
  | .one x a, deep, p, h, r => by
    simp only [Tr.outs] at h
    simp only [Tr.lay]
    split at h
    · rename_i h7
      rw [if_pos h7]
      exact outs_lay a _ p h r
    · rename_i h7
      rw [if_neg h7]
      rcases List.mem_append.1 h with h | h
      · cases hf : a.flat with
        | none => rw [hf] at h; simp at h
        | some s =>
          rw [hf] at h
          simp only [List.mem_singleton] at h
          subst h
          simp
      · obtain ⟨q, hq, rfl⟩ := List.mem_map.1 h
        simp only [List.cons_append, if_pos]
        exact outs_lay a deep q hq r
  | .two x a b, deep, p, h, r => by
    simp only [Tr.outs] at h
    simp only [Tr.lay]
    split at h
    · rename_i h6
      rw [if_pos h6]
      obtain ⟨u, hu, hp⟩ := List.mem_flatMap.1 h
      obtain ⟨v, hv, rfl⟩ := List.mem_map.1 hp
      dsimp only
      rw [List.append_assoc, outs_lay a deep u hu (v.2 ++ r)]
      dsimp only
      rw [outs_lay b deep v hv r]
    · rename_i h6
      rw [if_neg h6]
      rcases List.mem_append.1 h with h | h
      · obtain ⟨q, hq, rfl⟩ := List.mem_map.1 h
        simp only [List.cons_append, if_pos]
        exact outs_lay a deep q hq r
      · obtain ⟨q, hq, rfl⟩ := List.mem_map.1 h
        simp only [List.cons_append]
        rw [if_neg (by decide)]
        exact outs_lay b deep q hq r

/-- All ways of docs that stand one behind the other. -/
def outsK : List (Nat × Tr) → List (List UInt8 × List Int)
  | [] => [([], [])]
  | (d, t) :: ks => (t.outs d).flatMap fun p => (outsK ks).map fun q => (p.1 ++ q.1, p.2 ++ q.2)
/-- What each of them costs from a column on. -/
def itemsK (wd c : Nat) (ks : List (Nat × Tr)) : List Crs := (outsK ks).map fun p => (((colS wd c p.1).1, (colS wd c p.1).2.1), p.2)
/-- The best of them. -/
def bst (wd c : Nat) (ks : List (Nat × Tr)) : Option Crs := fm (itemsK wd c ks)

theorem bst_nil (wd c : Nat) : bst wd c [] = some ((0, 0), []) := by simp [bst, itemsK, outsK, colS, fm, pickO]
/-- A text ahead, by some choices. -/
theorem items_text (wd c : Nat) (s : List UInt8) (u : List Int) (ks : List (Nat × Tr)) : ((outsK ks).map fun q => (s ++ q.1, u ++ q.2)).map (fun p => (((colS wd c p.1).1, (colS wd c p.1).2.1), p.2)) = (itemsK wd (colS wd c s).2.2 ks).map (plus (colS wd c s).1 (colS wd c s).2.1 u) := by
  unfold itemsK
  rw [List.map_map, List.map_map]
  congr 1
  funext q
  simp only [Function.comp, colS_app, plus]
theorem bst_leaf (wd c d : Nat) (x : Nd) (ks : List (Nat × Tr)) (s : List UInt8) (hs : s = if x.op = 1 then x.tx.data.toList else if x.op = 5 then [] else 10 :: List.replicate d 32) :
    bst wd c ((d, .leaf x) :: ks) = (bst wd (colS wd c s).2.2 ks).map (plus (colS wd c s).1 (colS wd c s).2.1 []) := by
  unfold bst
  rw [← fm_plus, ← items_text, itemsK, outsK, Tr.outs, ← hs]
  simp
theorem bst_deep (wd c d : Nat) (x : Nd) (a : Tr) (ks : List (Nat × Tr)) (h : x.op = 7) : bst wd c ((d, .one x a) :: ks) = bst wd c ((d + x.n.toNat, a) :: ks) := by
  unfold bst itemsK
  rw [outsK, outsK, Tr.outs, if_pos h]
/-- One choice ahead. -/
theorem items_one (wd c d : Nat) (k : Int) (a : Tr) (ks : List (Nat × Tr)) : ((((a.outs d).map fun p => (p.1, k :: p.2)).flatMap fun p => (outsK ks).map fun q => (p.1 ++ q.1, p.2 ++ q.2)).map (fun p => (((colS wd c p.1).1, (colS wd c p.1).2.1), p.2))) = (itemsK wd c ((d, a) :: ks)).map (plus 0 0 [k]) := by
  unfold itemsK
  rw [outsK, List.flatMap_map, List.map_map, List.map_flatMap, List.map_flatMap]
  congr 1
  funext p
  rw [List.map_map, List.map_map]
  congr 1
  funext q
  simp [Function.comp, plus]
theorem bst_group (wd c d : Nat) (x : Nd) (a : Tr) (ks : List (Nat × Tr)) (h : x.op ≠ 7) :
    bst wd c ((d, .one x a) :: ks) = pickO (match a.flat with | none => none | some s => (bst wd (colS wd c s).2.2 ks).map (plus (colS wd c s).1 (colS wd c s).2.1 [0])) ((bst wd c ((d, a) :: ks)).map (plus 0 0 [1])) := by
  unfold bst
  rw [← fm_plus, ← items_one]
  rw [itemsK, outsK, Tr.outs, if_neg h, List.flatMap_append, List.map_append, fm_app]
  congr 1
  cases hf : a.flat with
  | none => rfl
  | some s =>
    dsimp only
    rw [← fm_plus, ← items_text]
    simp
theorem bst_both (wd c d : Nat) (x : Nd) (a b : Tr) (ks : List (Nat × Tr)) (h : x.op = 6) : bst wd c ((d, .two x a b) :: ks) = bst wd c ((d, a) :: (d, b) :: ks) := by
  unfold bst itemsK
  rw [outsK, outsK, outsK, Tr.outs, if_pos h, List.flatMap_assoc]
  congr 2
  congr 1
  funext p
  rw [List.flatMap_map, List.map_flatMap]
  congr 1
  funext q
  rw [List.map_map]
  congr 1
  funext z
  simp [Function.comp, List.append_assoc]
theorem bst_either (wd c d : Nat) (x : Nd) (a b : Tr) (ks : List (Nat × Tr)) (h : x.op ≠ 6) :
    bst wd c ((d, .two x a b) :: ks) = pickO ((bst wd c ((d, a) :: ks)).map (plus 0 0 [0])) ((bst wd c ((d, b) :: ks)).map (plus 0 0 [1])) := by
  unfold bst
  rw [← fm_plus, ← fm_plus, ← items_one, ← items_one, itemsK, outsK, Tr.outs, if_neg h, List.flatMap_append, List.map_append, fm_app]
end Go.Proofs.YtfabfclbnekleaaDoor
namespace Go.Proofs.YtfabfclbnekleaaDoor

theorem outs_ne (t : Tr) (deep : Nat) : t.outs deep ≠ [] := fun h => by
  have := outs_ways t deep
  rw [h] at this
  exact ways_ne t this.symm
theorem outsK_ne : ∀ ks : List (Nat × Tr), outsK ks ≠ []
  | [] => by simp [outsK]
  | (d, t) :: ks => by
    have h1 := outs_ne t d
    have h2 := outsK_ne ks
    obtain ⟨p, ps, e⟩ := List.exists_cons_of_ne_nil h1
    rw [outsK, e]
    simp [h2]
/-- There is one. -/
theorem bst_some (wd c : Nat) (ks : List (Nat × Tr)) : ∃ a, bst wd c ks = some a := by
  cases h : bst wd c ks with
  | some a => exact ⟨a, rfl⟩
  | none =>
    have := fm_none h
    unfold itemsK at this
    exact absurd (List.map_eq_nil_iff.1 this) (outsK_ne ks)

/-- With more room a text costs no more. -/
theorem colS_wider (wd : Nat) : ∀ (c : Nat) (s : List UInt8), (colS (wd + 1) c s).1 ≤ (colS wd c s).1 ∧ (colS (wd + 1) c s).2 = (colS wd c s).2
  | c, [] => by simp [colS]
  | c, b :: s => by
    simp only [colS]
    split
    · have h := colS_wider wd 0 s
      exact ⟨h.1, by rw [h.2]⟩
    · have h := colS_wider wd (c + 1) s
      refine ⟨?_, by rw [h.2]⟩
      have := h.1
      split <;> split <;> omega
theorem bst_wider (wd c : Nat) (ks : List (Nat × Tr)) (a b : Crs) (ha : bst wd c ks = some a) (hb : bst (wd + 1) c ks = some b) : ¬ lessC a.1 b.1 := by
  obtain ⟨p, q, e, _, _⟩ := fm_least ha
  have hin : a ∈ itemsK wd c ks := by rw [e]; simp
  obtain ⟨x, hx, rfl⟩ := List.mem_map.1 hin
  obtain ⟨p', q', e', h1, h2⟩ := fm_least hb
  have hin' : ((((colS (wd + 1) c x.1).1, (colS (wd + 1) c x.1).2.1), x.2) : Crs) ∈ itemsK (wd + 1) c ks := List.mem_map.2 ⟨x, hx, rfl⟩
  obtain ⟨w1, w2⟩ := colS_wider wd c x.1
  have hn : ¬ lessC ((colS (wd + 1) c x.1).1, (colS (wd + 1) c x.1).2.1) b.1 := by
    rw [e'] at hin'
    rcases List.mem_append.1 hin' with h | h
    · have := h1 _ h
      unfold lessC at *
      dsimp only at *
      omega
    · rcases List.mem_cons.1 h with h | h
      · rw [← h]
        unfold lessC
        dsimp only
        omega
      · exact h2 _ h
  rw [w2] at hn
  unfold lessC at *
  dsimp only at *
  omega
theorem pick_cost (a b : Crs) : ¬ lessC a.1 (pick a b).1 ∧ ¬ lessC b.1 (pick a b).1 := by
  unfold pick
  split
  · rename_i h
    unfold lessC at *
    omega
  · rename_i h
    unfold lessC at *
    omega
/-- In a group it costs no more. -/
theorem bst_in_group (wd c d : Nat) (x : Nd) (t : Tr) (ks : List (Nat × Tr)) (h : x.op ≠ 7) (a b : Crs) (ha : bst wd c ((d, t) :: ks) = some a) (hb : bst wd c ((d, .one x t) :: ks) = some b) : ¬ lessC a.1 b.1 := by
  rw [bst_group wd c d x t ks h, ha] at hb
  have e : (plus 0 0 [1] a).1 = a.1 := by simp [plus]
  split at hb
  · simp only [Option.map_some, pickO, Option.some.injEq] at hb
    subst hb
    rw [e]
    unfold lessC
    omega
  · rename_i s _
    obtain ⟨f, hf⟩ := bst_some wd (colS wd c s).2.2 ks
    rw [hf] at hb
    simp only [Option.map_some, pickO, Option.some.injEq] at hb
    subst hb
    rw [← e]
    exact (pick_cost _ _).2
/-- Of two it costs what the cheaper one costs. -/
theorem bst_of_two (wd c d : Nat) (x : Nd) (s t : Tr) (ks : List (Nat × Tr)) (h : x.op ≠ 6) (a b r : Crs) (ha : bst wd c ((d, s) :: ks) = some a) (hb : bst wd c ((d, t) :: ks) = some b) (hr : bst wd c ((d, .two x s t) :: ks) = some r) : r.1 = if lessC b.1 a.1 then b.1 else a.1 := by
  rw [bst_either wd c d x s t ks h, ha, hb] at hr
  simp only [Option.map_some, pickO, Option.some.injEq] at hr
  subst hr
  unfold pick
  have e : ∀ (k : Int) (z : Crs), (plus 0 0 [k] z).1 = z.1 := fun k z => by simp [plus]
  rw [e, e]
  split <;> simp [plus]

/-- What both cost, by the choices of both. -/
def andC : Option Crs → Option Crs → Option Crs
  | some a, some b => some (plus a.1.1 a.1.2 a.2 b)
  | _, _ => none
theorem fm_prod (m : List Crs) : ∀ l : List Crs, fm (l.flatMap fun p => m.map (plus p.1.1 p.1.2 p.2)) = andC (fm l) (fm m)
  | [] => by simp [fm, andC]
  | a :: l => by
    rw [List.flatMap_cons, fm_app, fm_plus, fm_prod m l, fm]
    cases hm : fm m with
    | none => cases hl : fm l <;> simp [pickO, andC]
    | some b =>
      cases hl : fm l with
      | none => simp [pickO, andC]
      | some a' =>
        simp only [Option.map_some, pickO, andC, Option.some.injEq]
        unfold pick
        have e : lessC (plus a'.1.1 a'.1.2 a'.2 b).1 (plus a.1.1 a.1.2 a.2 b).1 ↔ lessC a'.1 a.1 := by
          unfold lessC plus
          dsimp only
          omega
        by_cases h : lessC a'.1 a.1
        · rw [if_pos h, if_pos (e.2 h)]
        · rw [if_neg h, if_neg fun k => h (e.1 k)]
/-- Behind a new line all is as from the beginning. -/
theorem bst_line (wd c d e : Nat) (t : Tr) (x : Nd) (ks : List (Nat × Tr)) (hx : x.op ≠ 1 ∧ x.op ≠ 5) :
    bst wd c ((d, t) :: (e, .leaf x) :: ks) = andC (bst wd c [(d, t)]) (bst wd 0 ((e, .leaf x) :: ks)) := by
  have hM : ∀ q ∈ outsK ((e, .leaf x) :: ks), ∃ r, q.1 = 10 :: r := by
    intro q hq
    rw [outsK, Tr.outs] at hq
    simp only [hx.1, hx.2, if_false, List.flatMap_cons, List.flatMap_nil, List.append_nil] at hq
    obtain ⟨z, _, rfl⟩ := List.mem_map.1 hq
    exact ⟨_, rfl⟩
  have h0 : outsK ((d, t) :: (e, .leaf x) :: ks) = (t.outs d).flatMap fun p => (outsK ((e, .leaf x) :: ks)).map fun q => (p.1 ++ q.1, p.2 ++ q.2) := rfl
  have h1 : outsK [(d, t)] = t.outs d := by simp [outsK]
  unfold bst
  rw [← fm_prod]
  congr 1
  unfold itemsK
  rw [h0, h1]
  generalize outsK ((e, .leaf x) :: ks) = M at hM
  rw [List.map_flatMap, List.flatMap_map]
  congr 1
  funext p
  rw [List.map_map, List.map_map]
  refine List.map_congr_left fun q hq => ?_
  obtain ⟨r, hr⟩ := hM q hq
  simp only [Function.comp, plus]
  rw [hr, colS_app]
  simp [colS]
end Go.Proofs.YtfabfclbnekleaaDoor
namespace Go.Proofs.YtfabfclbnekleaaDoor

/-- A way's text. -/
def Tr.txt (t : Tr) (u : List Int) : List UInt8 := match t.show u with | .ok s => s | .error _ => []
theorem outs_show {t : Tr} {p : List UInt8 × List Int} (h : p ∈ t.outs 0) : t.show p.2 = .ok p.1 := by
  have hw : p.2 ∈ t.ways := by rw [← outs_ways t 0]; exact List.mem_map.2 ⟨p, h, rfl⟩
  have hl := outs_lay t 0 p h []
  rw [List.append_nil] at hl
  unfold Tr.show
  rw [if_pos (all01.2 (ways_01 t _ hw)), hl]
theorem outs_txt {t : Tr} {p : List UInt8 × List Int} (h : p ∈ t.outs 0) : t.txt p.2 = p.1 := by rw [Tr.txt, outs_show h]
/-- What a way costs. -/
def Tr.cst (t : Tr) (wd : Nat) (u : List Int) : Nat × Nat := ((colS wd 0 (t.txt u)).1, (colS wd 0 (t.txt u)).2.1)
/-- All ways with what they cost. -/
theorem items_ways (t : Tr) (wd : Nat) : itemsK wd 0 [(0, t)] = t.ways.map fun u => (t.cst wd u, u) := by
  have h1 : outsK [(0, t)] = t.outs 0 := by simp [outsK]
  unfold itemsK
  rw [h1, ← outs_ways t 0, List.map_map]
  refine List.map_congr_left fun p hp => ?_
  simp only [Function.comp, Tr.cst, outs_txt hp]
/-- The best way of a doc. -/
def Tr.best (t : Tr) (wd : Nat) : Option Crs := fm (t.ways.map fun u => (t.cst wd u, u))
theorem best_bst (t : Tr) (wd : Nat) : t.best wd = bst wd 0 [(0, t)] := by rw [Tr.best, ← items_ways]; rfl
theorem best_some (t : Tr) (wd : Nat) : ∃ a, t.best wd = some a := by rw [best_bst]; exact bst_some wd 0 _
/-- As the document finds it: one more way looked at. -/
theorem fm_take {f : List Int → Crs} {l : List (List Int)} {k : Nat} (hk : k < l.length) : fm ((l.take (k + 1)).map f) = pickO (fm ((l.take k).map f)) (some (f l[k])) := by
  rw [List.take_add_one, List.getElem?_eq_getElem hk, List.map_append, fm_app]
  rfl

theorem aheadL_irr : ∀ u : List Int, ¬ aheadL u u
  | [] => by simp [aheadL]
  | a :: u => by simp only [aheadL, if_pos]; exact aheadL_irr u
theorem aheadL_asym : ∀ {u v : List Int}, aheadL u v → ¬ aheadL v u
  | a :: u, b :: v, h => by
    simp only [aheadL] at h ⊢
    by_cases e : a = b
    · subst e
      rw [if_pos rfl] at h ⊢
      exact aheadL_asym h
    · rw [if_neg e] at h
      rw [if_neg fun k => e k.symm]
      omega
/-- None is cheaper. -/
theorem best_least {t : Tr} {wd : Nat} {a : Crs} (h : t.best wd = some a) : a.2 ∈ t.ways ∧ t.show a.2 = .ok (t.txt a.2) ∧ a.1 = t.cst wd a.2 ∧ ∀ w ∈ t.ways, ¬ lessC (t.cst wd w) a.1 ∧ (t.cst wd w = a.1 → ¬ aheadL w a.2) := by
  obtain ⟨p, q, e, h1, h2⟩ := fm_least h
  obtain ⟨p', r, e1, e2, e3⟩ := List.map_eq_append_iff.1 e
  obtain ⟨x, q', e4, e5, e6⟩ := List.map_eq_cons_iff.1 e3
  subst e4 e2 e6 e5
  have hin : x ∈ t.ways := by rw [e1]; simp
  have hr := ways_rise t
  rw [e1] at hr
  refine ⟨hin, ?_, rfl, fun w hw => ?_⟩
  · obtain ⟨s, hs⟩ := (show_ways t x).2 hin
    simp only [Tr.txt, hs]
  · rw [e1] at hw
    dsimp only
    rcases List.mem_append.1 hw with hw | hw
    · have := h1 _ (List.mem_map.2 ⟨w, hw, rfl⟩)
      dsimp only at this
      refine ⟨?_, fun k => ?_⟩
      · unfold lessC at *
        omega
      · rw [k] at this
        unfold lessC at this
        omega
    · rcases List.mem_cons.1 hw with rfl | hw
      · refine ⟨?_, fun _ => aheadL_irr _⟩
        unfold lessC
        omega
      · refine ⟨h2 _ (List.mem_map.2 ⟨w, hw, rfl⟩), fun _ => aheadL_asym ?_⟩
        exact (List.pairwise_cons.1 (List.pairwise_append.1 hr).2.1).1 w hw
end Go.Proofs.YtfabfclbnekleaaDoor
namespace Go.Proofs.YtfabfclbnekleaaDoor

theorem colS_beyond (wd : Nat) : ∀ (s : List UInt8) (c c' : Nat), wd ≤ c → wd ≤ c' → (colS wd c s).1 = (colS wd c' s).1 ∧ (colS wd c s).2.1 = (colS wd c' s).2.1
  | [], c, c', _, _ => ⟨rfl, rfl⟩
  | b :: s, c, c', h, h' => by
    by_cases hb : b = 10
    · simp only [colS, if_pos hb, and_self]
    · simp only [colS, if_neg hb, if_pos h, if_pos h']
      obtain ⟨e1, e2⟩ := colS_beyond wd s (c + 1) (c' + 1) (by omega) (by omega)
      exact ⟨by rw [e1], e2⟩
theorem colS_min (wd c : Nat) (s : List UInt8) : (colS wd c s).1 = (colS wd (min c wd) s).1 ∧ (colS wd c s).2.1 = (colS wd (min c wd) s).2.1 := by
  rcases Nat.le_total c wd with h | h
  · rw [Nat.min_eq_left h]; exact ⟨rfl, rfl⟩
  · rw [Nat.min_eq_right h]; exact colS_beyond wd s c wd h (Nat.le_refl _)
/-- No column is told from another beyond the width. -/
theorem bst_min (wd c : Nat) (ks : List (Nat × Tr)) : bst wd c ks = bst wd (min c wd) ks := by
  unfold bst itemsK
  congr 2
  funext p
  rw [(colS_min wd c p.1).1, (colS_min wd c p.1).2]
/-- A text of one line. -/
theorem colS_one (wd : Nat) : ∀ (s : List UInt8) (c : Nat), (∀ b ∈ s, b ≠ 10) → colS wd c s = ((c + s.length - wd) - (c - wd), 0, c + s.length)
  | [], c, _ => by simp [colS]
  | b :: s, c, h => by
    have hb : b ≠ 10 := h b (by simp)
    simp only [colS, if_neg hb, colS_one wd s (c + 1) (fun x hx => h x (by simp [hx])), List.length_cons, Prod.mk.injEq, true_and]
    refine ⟨?_, by omega⟩
    split <;> omega
theorem colS_line (wd c d : Nat) : colS wd c (10 :: List.replicate d 32) = (d - wd, 1, d) := by
  simp only [colS, if_pos]
  rw [colS_one wd (List.replicate d 32) 0 (by intro b hb; rw [(List.mem_replicate.1 hb).2]; decide)]
  simp

/-! ### How much a way may cost at most -/
def Tr.lf : Tr → Nat
  | .leaf _ => 1
  | .one _ a => a.lf
  | .two _ a b => a.lf + b.lf
def Tr.dsum : Tr → Nat
  | .leaf _ => 0
  | .one _ a => 8 + a.dsum
  | .two _ a b => a.dsum + b.dsum
theorem lf_dsum : ∀ t : Tr, 8 * t.lf + t.dsum ≤ 8 * t.nodes.length
  | .leaf _ => by simp [Tr.lf, Tr.dsum, Tr.nodes]
  | .one _ a => by have := lf_dsum a; simp only [Tr.lf, Tr.dsum, Tr.nodes, List.length_cons]; omega
  | .two _ a b => by have := lf_dsum a; have := lf_dsum b; simp only [Tr.lf, Tr.dsum, Tr.nodes, List.length_cons, List.length_append]; omega
theorem flat_lf : ∀ (t : Tr) (s : List UInt8), t.Wf → t.flat = some s → s.length ≤ 20 * t.lf
  | .leaf x, s, h, e => by
    obtain ⟨_, _, _, _, h5, _⟩ := node_ok h.1
    simp only [Tr.flat] at e
    simp only [Tr.lf]
    split at e
    · rename_i h1
      cases e
      have := isW_size (h5 h1)
      have e := size_list x.tx
      omega
    · split at e
      · cases e; simp
      · split at e
        · cases e
        · cases e; simp
  | .one x a, s, h, e => flat_lf a s h.2.2 e
  | .two x a b, s, h, e => by
    simp only [Tr.flat] at e
    simp only [Tr.lf]
    split at e
    · cases ha : a.flat with
      | none => rw [ha] at e; cases e
      | some u =>
        cases hb : b.flat with
        | none => rw [ha, hb] at e; cases e
        | some v =>
          rw [ha, hb] at e
          cases e
          have := flat_lf a u h.2.2.1 ha
          have := flat_lf b v h.2.2.2 hb
          rw [List.length_append]
          omega
    · have := flat_lf a s h.2.2.1 e
      omega
theorem outs_len : ∀ (t : Tr) (d : Nat) (p : List UInt8 × List Int), t.Wf → p ∈ t.outs d → p.1.length ≤ t.lf * (21 + d + t.dsum)
  | .leaf x, d, p, h, hp => by
    obtain ⟨_, _, _, _, h5, _⟩ := node_ok h.1
    simp only [Tr.outs, List.mem_singleton] at hp
    subst hp
    simp only [Tr.lf, Tr.dsum]
    split
    · rename_i h1
      have := isW_size (h5 h1)
      have e := size_list x.tx
      omega
    · split
      · simp
      · simp; omega
  | .one x a, d, p, h, hp => by
    obtain ⟨_, _, _, _, _, h6⟩ := node_ok h.1
    simp only [Tr.outs] at hp
    simp only [Tr.lf, Tr.dsum]
    split at hp
    · rename_i h7
      have h1 := outs_len a _ p h.2.2 hp
      have h2 : a.lf * (21 + (d + x.n.toNat) + a.dsum) ≤ a.lf * (21 + d + (8 + a.dsum)) := Nat.mul_le_mul_left _ (by have := h6 h7; omega)
      omega
    · rcases List.mem_append.1 hp with hp | hp
      · cases hf : a.flat with
        | none => rw [hf] at hp; simp at hp
        | some s =>
          rw [hf] at hp
          simp only [List.mem_singleton] at hp
          subst hp
          have h1 := flat_lf a s h.2.2 hf
          have h2 : a.lf * 20 ≤ a.lf * (21 + d + (8 + a.dsum)) := Nat.mul_le_mul_left _ (by omega)
          dsimp only
          omega
      · obtain ⟨q, hq, rfl⟩ := List.mem_map.1 hp
        have h1 := outs_len a d q h.2.2 hq
        have h2 : a.lf * (21 + d + a.dsum) ≤ a.lf * (21 + d + (8 + a.dsum)) := Nat.mul_le_mul_left _ (by omega)
        dsimp only
        omega
  | .two x a b, d, p, h, hp => by
    simp only [Tr.outs] at hp
    simp only [Tr.lf, Tr.dsum]
    have ma : a.lf * (21 + d + a.dsum) ≤ a.lf * (21 + d + (a.dsum + b.dsum)) := Nat.mul_le_mul_left _ (by omega)
    have mb : b.lf * (21 + d + b.dsum) ≤ b.lf * (21 + d + (a.dsum + b.dsum)) := Nat.mul_le_mul_left _ (by omega)
    rw [Nat.add_mul]
    split at hp
    · obtain ⟨u, hu, hp⟩ := List.mem_flatMap.1 hp
      obtain ⟨v, hv, rfl⟩ := List.mem_map.1 hp
      have h1 := outs_len a d u h.2.2.1 hu
      have h2 := outs_len b d v h.2.2.2 hv
      simp only [List.length_append]
      omega
    · rcases List.mem_append.1 hp with hp | hp
      · obtain ⟨q, hq, rfl⟩ := List.mem_map.1 hp
        have h1 := outs_len a d q h.2.2.1 hq
        dsimp only
        omega
      · obtain ⟨q, hq, rfl⟩ := List.mem_map.1 hp
        have h1 := outs_len b d q h.2.2.2 hq
        dsimp only
        omega
def lfK : List (Nat × Tr) → Nat
  | [] => 0
  | (_, t) :: ks => t.lf + lfK ks
/-- So much at most. -/
def KB (M : Nat) (ks : List (Nat × Tr)) : Prop := ∀ p ∈ ks, p.1 + p.2.dsum ≤ M ∧ p.2.Wf
theorem outsK_len (M : Nat) : ∀ (ks : List (Nat × Tr)) (p : List UInt8 × List Int), KB M ks → p ∈ outsK ks → p.1.length ≤ lfK ks * (21 + M)
  | [], p, _, hp => by simp only [outsK, List.mem_singleton] at hp; subst hp; simp
  | (d, t) :: ks, p, hk, hp => by
    rw [outsK] at hp
    obtain ⟨u, hu, hp⟩ := List.mem_flatMap.1 hp
    obtain ⟨v, hv, rfl⟩ := List.mem_map.1 hp
    obtain ⟨k1, k2⟩ := hk (d, t) (by simp)
    have h1 := outs_len t d u k2 hu
    have h2 := outsK_len M ks v (fun q hq => hk q (by simp [hq])) hv
    have h3 : t.lf * (21 + d + t.dsum) ≤ t.lf * (21 + M) := Nat.mul_le_mul_left _ (by dsimp only at k1; omega)
    simp only [lfK, List.length_append, Nat.add_mul]
    omega
theorem colS_le (wd : Nat) : ∀ (s : List UInt8) (c : Nat), (colS wd c s).1 ≤ s.length ∧ (colS wd c s).2.1 ≤ s.length
  | [], c => by simp [colS]
  | b :: s, c => by
    simp only [colS, List.length_cons]
    split
    · have := colS_le wd s 0
      dsimp only
      omega
    · have := colS_le wd s (c + 1)
      dsimp only
      split <;> omega

/-- What is best, as it always is something. -/
def bs (wd c : Nat) (ks : List (Nat × Tr)) : Crs := (bst wd c ks).getD ((0, 0), [])
theorem bst_bs (wd c : Nat) (ks : List (Nat × Tr)) : bst wd c ks = some (bs wd c ks) := by
  obtain ⟨a, h⟩ := bst_some wd c ks
  rw [bs, h]; rfl
theorem bs_le (wd c M : Nat) (ks : List (Nat × Tr)) (h : KB M ks) : (bs wd c ks).1.1 ≤ lfK ks * (21 + M) ∧ (bs wd c ks).1.2 ≤ lfK ks * (21 + M) := by
  obtain ⟨p, q, e, _, _⟩ := fm_least (bst_bs wd c ks)
  have hin : bs wd c ks ∈ itemsK wd c ks := by rw [e]; simp
  obtain ⟨x, hx, hxe⟩ := List.mem_map.1 hin
  rw [← hxe]
  have h1 := outsK_len M ks x h hx
  have h2 := colS_le wd x.1 c
  dsimp only
  omega
theorem most : ∀ D, D < 401 → (400 - D) * (21 + 8 * D) ≤ 400000 := by
  set_option maxRecDepth 100000 in decide
theorem most_of {L M n : Nat} (h : 8 * L + M ≤ 8 * n) (hn : n ≤ 400) : L * (21 + M) ≤ 400000 := by
  have h1 := most ((M + 7) / 8) (by omega)
  have h2 : L * (21 + M) ≤ (400 - (M + 7) / 8) * (21 + 8 * ((M + 7) / 8)) := Nat.mul_le_mul (by omega) (by omega)
  omega

theorem bs_nil (wd c : Nat) : bs wd c [] = ((0, 0), []) := by rw [bs, bst_nil]; rfl
theorem bs_min (wd c : Nat) (ks : List (Nat × Tr)) : bs wd c ks = bs wd (min c wd) ks := by rw [bs, bst_min]; rfl
theorem bs_word {wd c d : Nat} {x : Nd} {ks : List (Nat × Tr)} (hx : nodeF x = 0) (h : x.op = 1) (hc : c ≤ wd) : bs wd c ((d, .leaf x) :: ks) = plus (c + x.tx.size - wd) 0 [] (bs wd (min (c + x.tx.size) wd) ks) := by
  have hs : ∀ b ∈ x.tx.data.toList, b ≠ 10 := word_no10 hx h
  have e := bst_leaf wd c d x ks x.tx.data.toList (by rw [if_pos h])
  rw [colS_one wd _ c hs, size_list, bst_bs, bst_bs wd (c + x.tx.size), Option.map_some, Option.some.injEq, bs_min wd (c + x.tx.size)] at e
  rw [e, Nat.sub_eq_zero_of_le hc, Nat.sub_zero]
theorem bs_line {wd c d : Nat} {x : Nd} {ks : List (Nat × Tr)} (h : x.op ≠ 1 ∧ x.op ≠ 5) : bs wd c ((d, .leaf x) :: ks) = plus (d - wd) 1 [] (bs wd (min d wd) ks) := by
  have e := bst_leaf wd c d x ks (10 :: List.replicate d 32) (by rw [if_neg h.1, if_neg h.2])
  rw [colS_line, bst_bs, bst_bs wd d, Option.map_some, Option.some.injEq, bs_min wd d] at e
  exact e
theorem bs_zero {wd c d : Nat} {x : Nd} {ks : List (Nat × Tr)} (h : x.op = 5) : bs wd c ((d, .leaf x) :: ks) = plus 0 0 [] (bs wd c ks) := by
  have e := bst_leaf wd c d x ks [] (by rw [if_neg (by omega), if_pos h])
  rw [bst_bs, colS, bst_bs wd c ks, Option.map_some, Option.some.injEq] at e
  exact e
theorem bs_deep {wd c d : Nat} {x : Nd} {a : Tr} {ks : List (Nat × Tr)} (h : x.op = 7) : bs wd c ((d, .one x a) :: ks) = bs wd c ((d + x.n.toNat, a) :: ks) := by rw [bs, bst_deep wd c d x a ks h]; rfl
theorem bs_both {wd c d : Nat} {x : Nd} {a b : Tr} {ks : List (Nat × Tr)} (h : x.op = 6) : bs wd c ((d, .two x a b) :: ks) = bs wd c ((d, a) :: (d, b) :: ks) := by rw [bs, bst_both wd c d x a b ks h]; rfl
theorem bs_either {wd c d : Nat} {x : Nd} {a b : Tr} {ks : List (Nat × Tr)} (h : x.op ≠ 6) : bs wd c ((d, .two x a b) :: ks) = pick (plus 0 0 [0] (bs wd c ((d, a) :: ks))) (plus 0 0 [1] (bs wd c ((d, b) :: ks))) := by
  have e := bst_either wd c d x a b ks h
  rw [bst_bs, bst_bs wd c ((d, a) :: ks), bst_bs wd c ((d, b) :: ks), Option.map_some, Option.map_some, pickO, Option.some.injEq] at e
  exact e
theorem bs_group {wd c d : Nat} {x : Nd} {a : Tr} {ks : List (Nat × Tr)} {s : List UInt8} (h : x.op ≠ 7) (ha : a.Wf) (hf : a.flat = some s) (hc : c ≤ wd) :
    bs wd c ((d, .one x a) :: ks) = pick (plus (c + s.length - wd) 0 [0] (bs wd (min (c + s.length) wd) ks)) (plus 0 0 [1] (bs wd c ((d, a) :: ks))) := by
  have e := bst_group wd c d x a ks h
  rw [hf] at e
  dsimp only at e
  rw [colS_one wd _ c (flat_no10 a s ha hf), bst_bs, bst_bs wd (c + s.length), bst_bs wd c ((d, a) :: ks), Option.map_some, Option.map_some, pickO, Option.some.injEq, bs_min wd (c + s.length)] at e
  rw [e, Nat.sub_eq_zero_of_le hc, Nat.sub_zero]
theorem bs_hard {wd c d : Nat} {x : Nd} {a : Tr} {ks : List (Nat × Tr)} (h : x.op ≠ 7) (hf : a.flat = none) : bs wd c ((d, .one x a) :: ks) = plus 0 0 [1] (bs wd c ((d, a) :: ks)) := by
  have e := bst_group wd c d x a ks h
  rw [hf] at e
  dsimp only at e
  rw [bst_bs, bst_bs wd c ((d, a) :: ks), Option.map_some, pickO, Option.some.injEq] at e
  exact e
end Go.Proofs.YtfabfclbnekleaaDoor
namespace Go.Proofs.YtfabfclbnekleaaDoor

/-- What is known of a place: its node, where it ends, what is laid behind it, how deep it is, how long it is flat; and, for us, its doc and those behind it. -/
structure Pl where
  nd : Nd
  en : Nat
  nx : Nat
  dp : Nat
  lg : Int
  t : Tr
  ks : List (Nat × Tr)
def Tr.root : Tr → Nd
  | .leaf x => x
  | .one x _ => x
  | .two x _ _ => x
def lgF : Option (List UInt8) → Int
  | none => -1
  | some s => (s.length : Int)
def Tr.lg : Tr → Int
  | .one x a => if x.op = 8 then lgF a.flat else 0
  | _ => 0
def Tr.sz (t : Tr) : Nat := t.nodes.length
theorem sz_leaf (x : Nd) : (Tr.leaf x).sz = 1 := rfl
theorem sz_one (x : Nd) (a : Tr) : (Tr.one x a).sz = 1 + a.sz := by simp [Tr.sz, Tr.nodes]; omega
theorem sz_two (x : Nd) (a b : Tr) : (Tr.two x a b).sz = 1 + a.sz + b.sz := by simp [Tr.sz, Tr.nodes]; omega
theorem sz_pos (t : Tr) : 0 < t.sz := t.pos
/-- The place where a doc begins. -/
def plHd (t : Tr) (i nx dp : Nat) (ks : List (Nat × Tr)) : Pl := ⟨t.root, i + t.sz, nx, dp, t.lg, t, ks⟩
def plcs : Tr → Nat → Nat → Nat → List (Nat × Tr) → List Pl
  | .leaf x, i, nx, dp, ks => [plHd (.leaf x) i nx dp ks]
  | .one x a, i, nx, dp, ks => plHd (.one x a) i nx dp ks :: plcs a (i + 1) nx (dp + x.n.toNat) ks
  | .two x a b, i, nx, dp, ks => plHd (.two x a b) i nx dp ks :: ((if x.op = 6 then plcs a (i + 1) (i + 1 + a.sz) dp ((dp, b) :: ks) else plcs a (i + 1) nx dp ks) ++ plcs b (i + 1 + a.sz) nx dp ks)
theorem plcs_len : ∀ (t : Tr) (i nx dp : Nat) (ks : List (Nat × Tr)), (plcs t i nx dp ks).length = t.sz
  | .leaf x, i, nx, dp, ks => rfl
  | .one x a, i, nx, dp, ks => by rw [plcs, List.length_cons, plcs_len a, sz_one]; omega
  | .two x a b, i, nx, dp, ks => by
    rw [plcs, List.length_cons, List.length_append, plcs_len b, sz_two]
    split <;> rw [plcs_len a] <;> omega
theorem plcs_hd (t : Tr) (i nx dp : Nat) (ks : List (Nat × Tr)) : ∃ r, plcs t i nx dp ks = plHd t i nx dp ks :: r := by
  cases t <;> exact ⟨_, rfl⟩
theorem plcs_nd : ∀ (t : Tr) (i nx dp : Nat) (ks : List (Nat × Tr)), (plcs t i nx dp ks).map (·.nd) = t.nodes
  | .leaf x, i, nx, dp, ks => rfl
  | .one x a, i, nx, dp, ks => by rw [plcs, List.map_cons, plcs_nd a]; rfl
  | .two x a b, i, nx, dp, ks => by
    rw [plcs, List.map_cons, List.map_append, plcs_nd b]
    split <;> rw [plcs_nd a] <;> rfl

/-- What is laid from a place on. -/
def kont (R : List Pl) (i : Nat) : List (Nat × Tr) := match R[i]? with | some r => (r.dp, r.t) :: r.ks | none => []
theorem kont_end {R : List Pl} {i : Nat} (h : R.length ≤ i) : kont R i = [] := by rw [kont, List.getElem?_eq_none h]

/-- A doc begins at a place. -/
structure Sp (R : List Pl) (L M : Nat) (i : Nat) (t : Tr) (nx dp : Nat) (ks : List (Nat × Tr)) : Prop where
  pl : ∃ post, R.drop i = plcs t i nx dp ks ++ post
  kx : kont R nx = ks
  lo : i + t.sz ≤ nx
  hi : nx ≤ R.length
  wf : t.Wf
  bl : t.lf + lfK ks ≤ L
  bd : dp + t.dsum ≤ M
  bk : KB M ks
section
variable {R : List Pl} {L M i nx dp : Nat} {ks : List (Nat × Tr)} {t a b : Tr} {x : Nd}
theorem drop_get {l : List Pl} {i : Nat} {r : Pl} {q : List Pl} (h : l.drop i = r :: q) : l[i]? = some r ∧ l.drop (i + 1) = q := by
  have hi : i < l.length := by
    rcases Nat.lt_or_ge i l.length with h' | h'
    · exact h'
    · rw [List.drop_eq_nil_of_le h'] at h; cases h
  rw [List.drop_eq_getElem_cons hi, List.cons.injEq] at h
  exact ⟨by rw [List.getElem?_eq_getElem hi, h.1], h.2⟩
theorem drop_by {l p q : List Pl} {i : Nat} (h : l.drop i = p ++ q) : l.drop (i + p.length) = q := by rw [← List.drop_drop, h, List.drop_left]
theorem Sp.get (h : Sp R L M i t nx dp ks) : R[i]? = some (plHd t i nx dp ks) := by
  obtain ⟨post, h⟩ := h.pl
  obtain ⟨r, e⟩ := plcs_hd t i nx dp ks
  rw [e] at h
  exact (drop_get h).1
theorem Sp.kont (h : Sp R L M i t nx dp ks) : kont R i = (dp, t) :: ks := by rw [Proofs.YtfabfclbnekleaaDoor.kont, h.get]; rfl
theorem Sp.lt (h : Sp R L M i t nx dp ks) : i < R.length := by have := sz_pos t; have := h.lo; have := h.hi; omega
theorem Sp.one (h : Sp R L M i (.one x a) nx dp ks) : Sp R L M (i + 1) a nx (dp + x.n.toNat) ks where
  pl := by
    obtain ⟨post, e⟩ := h.pl
    rw [plcs] at e
    exact ⟨post, (drop_get e).2⟩
  kx := h.kx
  lo := by have := h.lo; rw [sz_one] at this; omega
  hi := h.hi
  wf := h.wf.2.2
  bl := h.bl
  bd := by
    have := h.bd
    have h0 := node_ok h.wf.1
    simp only [Tr.dsum] at this
    omega
  bk := h.bk
theorem Sp.two2 (h : Sp R L M i (.two x a b) nx dp ks) : Sp R L M (i + 1 + a.sz) b nx dp ks where
  pl := by
    obtain ⟨post, e⟩ := h.pl
    rw [plcs] at e
    have e2 := (drop_get (q := _ ++ post) e).2
    rw [List.append_assoc] at e2
    have e3 := drop_by e2
    refine ⟨post, ?_⟩
    rw [← e3]
    congr 1
    split <;> rw [plcs_len]
  kx := h.kx
  lo := by have := h.lo; rw [sz_two] at this; omega
  hi := h.hi
  wf := h.wf.2.2.2
  bl := by have := h.bl; simp only [Tr.lf] at this; omega
  bd := by have := h.bd; simp only [Tr.dsum] at this; omega
  bk := h.bk
theorem Sp.both1 (h : Sp R L M i (.two x a b) nx dp ks) (h6 : x.op = 6) : Sp R L M (i + 1) a (i + 1 + a.sz) dp ((dp, b) :: ks) where
  pl := by
    obtain ⟨post, e⟩ := h.pl
    rw [plcs, if_pos h6, List.cons_append, List.append_assoc] at e
    exact ⟨_, (drop_get e).2⟩
  kx := h.two2.kont
  lo := Nat.le_refl _
  hi := by have := h.lo; have := h.hi; rw [sz_two] at *; omega
  wf := h.wf.2.2.1
  bl := by have := h.bl; simp only [Tr.lf, lfK] at this ⊢; omega
  bd := by have := h.bd; simp only [Tr.dsum] at this; omega
  bk := by
    intro p hp
    rcases List.mem_cons.1 hp with rfl | hp
    · exact ⟨by have := h.bd; simp only [Tr.dsum] at this; dsimp only; omega, h.wf.2.2.2⟩
    · exact h.bk p hp
theorem Sp.either1 (h : Sp R L M i (.two x a b) nx dp ks) (h6 : x.op ≠ 6) : Sp R L M (i + 1) a nx dp ks where
  pl := by
    obtain ⟨post, e⟩ := h.pl
    rw [plcs, if_neg h6, List.cons_append, List.append_assoc] at e
    exact ⟨_, (drop_get e).2⟩
  kx := h.kx
  lo := by have := h.lo; rw [sz_two] at this; omega
  hi := h.hi
  wf := h.wf.2.2.1
  bl := by have := h.bl; simp only [Tr.lf] at this ⊢; omega
  bd := by have := h.bd; simp only [Tr.dsum] at this; omega
  bk := h.bk
theorem Sp.two1 (h : Sp R L M i (.two x a b) nx dp ks) : ∃ nx' ks', Sp R L M (i + 1) a nx' dp ks' := by
  by_cases h6 : x.op = 6
  · exact ⟨_, _, h.both1 h6⟩
  · exact ⟨_, _, h.either1 h6⟩
end
/-- At each place a doc begins. -/
theorem sp_all {R : List Pl} {L M : Nat} : ∀ (t : Tr) (i nx dp : Nat) (ks : List (Nat × Tr)), Sp R L M i t nx dp ks → ∀ j, i ≤ j → j < i + t.sz → ∃ t' nx' dp' ks', Sp R L M j t' nx' dp' ks'
  | .leaf x, i, nx, dp, ks, h, j, h1, h2 => by
    rw [sz_leaf] at h2
    obtain rfl : j = i := by omega
    exact ⟨_, _, _, _, h⟩
  | .one x a, i, nx, dp, ks, h, j, h1, h2 => by
    rw [sz_one] at h2
    by_cases e : j = i
    · subst e; exact ⟨_, _, _, _, h⟩
    · exact sp_all a _ _ _ _ h.one j (by omega) (by omega)
  | .two x a b, i, nx, dp, ks, h, j, h1, h2 => by
    rw [sz_two] at h2
    by_cases e : j = i
    · subst e; exact ⟨_, _, _, _, h⟩
    · by_cases e2 : j < i + 1 + a.sz
      · obtain ⟨_, _, h'⟩ := h.two1
        exact sp_all a _ _ _ _ h' j (by omega) (by omega)
      · exact sp_all b _ _ _ _ h.two2 j (by omega) (by omega)
/-- The doc at a place is a part of another's. -/
def Part (R : List Pl) (L M : Nat) (p j : Nat) : Prop := (∃ x a nx dp ks, Sp R L M p (.one x a) nx dp ks ∧ j = p + 1) ∨ ∃ x a b nx dp ks, Sp R L M p (.two x a b) nx dp ks ∧ (j = p + 1 ∨ j = p + 1 + a.sz)
theorem parent {R : List Pl} {L M : Nat} : ∀ (t : Tr) (i nx dp : Nat) (ks : List (Nat × Tr)), Sp R L M i t nx dp ks → ∀ j, i < j → j < i + t.sz → ∃ p, p < j ∧ Part R L M p j
  | .leaf x, i, nx, dp, ks, h, j, h1, h2 => by rw [sz_leaf] at h2; omega
  | .one x a, i, nx, dp, ks, h, j, h1, h2 => by
    rw [sz_one] at h2
    by_cases e : j = i + 1
    · exact ⟨i, h1, .inl ⟨_, _, _, _, _, h, e⟩⟩
    · exact parent a _ _ _ _ h.one j (by omega) (by omega)
  | .two x a b, i, nx, dp, ks, h, j, h1, h2 => by
    rw [sz_two] at h2
    by_cases e : j = i + 1
    · exact ⟨i, h1, .inr ⟨_, _, _, _, _, _, h, .inl e⟩⟩
    · by_cases e3 : j = i + 1 + a.sz
      · exact ⟨i, h1, .inr ⟨_, _, _, _, _, _, h, .inr e3⟩⟩
      · by_cases e2 : j < i + 1 + a.sz
        · obtain ⟨_, _, h'⟩ := h.two1
          exact parent a _ _ _ _ h' j (by omega) (by omega)
        · exact parent b _ _ _ _ h.two2 j (by omega) (by omega)

/-- The places of a whole doc. -/
def plAll (t : Tr) : List Pl := plcs t 0 t.sz 0 []
theorem plAll_len (t : Tr) : (plAll t).length = t.sz := plcs_len t _ _ _ _
theorem sp_root {t : Tr} (h : t.Wf) : Sp (plAll t) t.lf t.dsum 0 t t.sz 0 [] where
  pl := ⟨[], by simp [plAll]⟩
  kx := kont_end (Nat.le_of_eq (plAll_len t))
  lo := by omega
  hi := Nat.le_of_eq (plAll_len t).symm
  wf := h
  bl := by simp [lfK]
  bd := by simp
  bk := by intro p hp; simp at hp
theorem sp_at {t : Tr} (h : t.Wf) {j : Nat} (hj : j < (plAll t).length) : ∃ t' nx dp ks, Sp (plAll t) t.lf t.dsum j t' nx dp ks :=
  sp_all t 0 _ _ _ (sp_root h) j (Nat.zero_le _) (by rw [plAll_len] at hj; omega)
theorem parent_at {t : Tr} (h : t.Wf) {j : Nat} (h0 : 0 < j) (hj : j < (plAll t).length) : ∃ p, p < j ∧ Part (plAll t) t.lf t.dsum p j :=
  parent t 0 _ _ _ (sp_root h) j h0 (by rw [plAll_len] at hj; omega)

/-! ### Moves and courses -/
/-- What is best from a spot on. -/
def vv (R : List Pl) (wd i c : Nat) : Crs := bs wd c (kont R i)
theorem vv_end {R : List Pl} {wd i c : Nat} (h : R.length ≤ i) : vv R wd i c = ((0, 0), []) := by rw [vv, kont_end h, bs_nil]
theorem vv_le {R : List Pl} {wd L M i c nx dp : Nat} {ks : List (Nat × Tr)} {t : Tr} (h : Sp R L M i t nx dp ks) (hm : L * (21 + M) ≤ 400000) : (vv R wd i c).1.1 ≤ 400000 ∧ (vv R wd i c).1.2 ≤ 400000 := by
  have h1 := bs_le wd c M (kont R i) (by rw [h.kont]; intro p hp; rcases List.mem_cons.1 hp with rfl | hp; exact ⟨h.bd, h.wf⟩; exact h.bk p hp)
  have h2 : lfK (kont R i) * (21 + M) ≤ L * (21 + M) := Nat.mul_le_mul_right _ (by rw [h.kont]; exact h.bl)
  rw [vv]
  omega
/-- A move: where it comes to, and what it costs. -/
structure Mv where
  np : Nat
  nc : Nat
  o : Nat
  l : Nat
/-- The move from a spot, by a choice; e: where the part behind the place ends. -/
def mvP (wd : Nat) (op : Int) (k nx dp lg e i c ch : Nat) : Mv :=
  if op = 1 then ⟨nx, min (c + k) wd, c + k - wd, 0⟩
  else if op = 2 ∨ op = 3 ∨ op = 4 then ⟨nx, min dp wd, dp - wd, 1⟩
  else if op = 5 then ⟨nx, c, 0, 0⟩
  else if op = 8 ∧ ch = 0 then ⟨nx, min (c + lg) wd, c + lg - wd, 0⟩
  else if op = 9 ∧ ch = 1 then ⟨e, c, 0, 0⟩
  else ⟨i + 1, c, 0, 0⟩
section
variable {wd k nx dp lg e i c ch : Nat} {op : Int}
theorem mvP_word (h : op = 1) : mvP wd op k nx dp lg e i c ch = ⟨nx, min (c + k) wd, c + k - wd, 0⟩ := by rw [mvP, if_pos h]
theorem mvP_line (h : op = 2 ∨ op = 3 ∨ op = 4) : mvP wd op k nx dp lg e i c ch = ⟨nx, min dp wd, dp - wd, 1⟩ := by rw [mvP, if_neg (by omega), if_pos h]
theorem mvP_zero (h : op = 5) : mvP wd op k nx dp lg e i c ch = ⟨nx, c, 0, 0⟩ := by rw [mvP, if_neg (by omega), if_neg (by omega), if_pos h]
theorem mvP_flat (h : op = 8) (h0 : ch = 0) : mvP wd op k nx dp lg e i c ch = ⟨nx, min (c + lg) wd, c + lg - wd, 0⟩ := by rw [mvP, if_neg (by omega), if_neg (by omega), if_neg (by omega), if_pos ⟨h, h0⟩]
theorem mvP_second (h : op = 9) (h0 : ch = 1) : mvP wd op k nx dp lg e i c ch = ⟨e, c, 0, 0⟩ := by rw [mvP, if_neg (by omega), if_neg (by omega), if_neg (by omega), if_neg (by omega), if_pos ⟨h, h0⟩]
theorem mvP_in (h : op = 6 ∨ op = 7 ∨ (op = 8 ∧ ch ≠ 0) ∨ (op = 9 ∧ ch ≠ 1)) : mvP wd op k nx dp lg e i c ch = ⟨i + 1, c, 0, 0⟩ := by rw [mvP, if_neg (by omega), if_neg (by omega), if_neg (by omega), if_neg (by omega), if_neg (by omega)]
end
def mv (wd : Nat) (r : Pl) (e i c ch : Nat) : Mv := mvP wd r.nd.op r.nd.tx.size r.nx r.dp r.lg.toNat e i c ch
def isCh (op : Int) : Bool := decide (op = 8) || decide (op = 9)
/-- A course: what it costs, its choice, where it goes. -/
structure Cv where
  o : Nat
  l : Nat
  ch : Nat
  np : Nat
  nc : Nat
def cvOf (R : List Pl) (wd ch : Nat) (m : Mv) : Cv := ⟨m.o + (vv R wd m.np m.nc).1.1, m.l + (vv R wd m.np m.nc).1.2, ch, m.np, m.nc⟩
def plAt (R : List Pl) (i : Nat) : Pl := R.getD i ⟨⟨0, ⟨#[]⟩, 0⟩, 0, 0, 0, 0, .leaf ⟨0, ⟨#[]⟩, 0⟩, []⟩
theorem Sp.at {R : List Pl} {L M i nx dp : Nat} {ks : List (Nat × Tr)} {t : Tr} (h : Sp R L M i t nx dp ks) : plAt R i = plHd t i nx dp ks := by rw [plAt, List.getD, h.get]; rfl
def mvAt (R : List Pl) (wd i c ch : Nat) : Mv := mv wd (plAt R i) (plAt R (i + 1)).en i c ch
def tkC (R : List Pl) (wd i c ch : Nat) : Cv := cvOf R wd ch (mvAt R wd i c ch)
/-- The course from a spot, as it is chosen. -/
def crs (R : List Pl) (wd i c : Nat) : Cv :=
  if (plAt R i).lg = -1 then tkC R wd i c 1
  else if isCh (plAt R i).nd.op = false then tkC R wd i c 0
  else if lessC ((tkC R wd i c 1).o, (tkC R wd i c 1).l) ((tkC R wd i c 0).o, (tkC R wd i c 0).l) then tkC R wd i c 1 else tkC R wd i c 0
/-- The move goes on. -/
structure MvOk (R : List Pl) (wd i : Nat) (m : Mv) : Prop where
  lo : i < m.np
  hi : m.np ≤ R.length
  cl : m.nc ≤ wd
  bo : m.o ≤ 20000
  bl : m.l ≤ 1
section
variable {R : List Pl} {L M i nx dp wd c ch : Nat} {ks : List (Nat × Tr)} {t : Tr}
theorem lgF_le {a : Tr} (h : a.Wf) (hn : a.lf ≤ 400) : (lgF a.flat).toNat ≤ 8000 := by
  cases hf : a.flat with
  | none => simp [lgF]
  | some s => have := flat_lf a s h hf; simp [lgF]; omega
theorem mvAt_leaf {x : Nd} (h : Sp R L M i (.leaf x) nx dp ks) : mvAt R wd i c ch = mvP wd x.op x.tx.size nx dp 0 (plAt R (i + 1)).en i c ch := by rw [mvAt, h.at]; rfl
theorem mvAt_one {x : Nd} {a : Tr} (h : Sp R L M i (.one x a) nx dp ks) : mvAt R wd i c ch = mvP wd x.op x.tx.size nx dp (Tr.lg (.one x a)).toNat (plAt R (i + 1)).en i c ch := by rw [mvAt, h.at]; rfl
theorem mvAt_two {x : Nd} {a b : Tr} (h : Sp R L M i (.two x a b) nx dp ks) : mvAt R wd i c ch = mvP wd x.op x.tx.size nx dp 0 (i + 1 + a.sz) i c ch := by
  obtain ⟨nx', ks', hs⟩ := h.two1
  rw [mvAt, h.at, hs.at]; rfl
theorem mv_ok (h : Sp R L M i t nx dp ks) (hc : c ≤ wd) (hw : wd ≤ 100) (hL : L ≤ 400) (hM : M ≤ 3200) : MvOk R wd i (mvAt R wd i c ch) := by
  have h1 := h.lo
  have h2 := h.hi
  have h3 := sz_pos t
  have hbd := h.bd
  have hbl := h.bl
  cases t with
  | leaf x =>
    have hn := node_ok h.wf.1
    rw [mvAt_leaf h]
    rcases leaf_op h.wf.1 h.wf.2 with e | e | e | e | e
    · rw [mvP_word e]
      have := isW_size (hn.2.2.2.2.1 e)
      exact ⟨by dsimp only; omega, h2, Nat.min_le_right _ _, by dsimp only; omega, by simp⟩
    all_goals first
      | (rw [mvP_line (by omega)]; exact ⟨by dsimp only; omega, h2, Nat.min_le_right _ _, by dsimp only; omega, by simp⟩)
      | (rw [mvP_zero (by omega)]; exact ⟨by dsimp only; omega, h2, hc, by simp, by simp⟩)
  | one x a =>
    have hs := h.one
    have hlt := hs.lt
    have h78 := one_op h.wf.2.1
    rw [mvAt_one h]
    by_cases h8 : x.op = 8 ∧ ch = 0
    · rw [mvP_flat h8.1 h8.2]
      have hlg : (Tr.lg (.one x a)).toNat ≤ 8000 := by rw [Tr.lg, if_pos h8.1]; exact lgF_le h.wf.2.2 (by simp only [Tr.lf] at hbl; omega)
      exact ⟨by dsimp only; omega, h2, Nat.min_le_right _ _, by dsimp only; omega, by simp⟩
    · rw [mvP_in (by omega)]
      exact ⟨by simp, by dsimp only; omega, hc, by simp, by simp⟩
  | two x a b =>
    obtain ⟨nx', ks', hs⟩ := h.two1
    have hlt := hs.lt
    have hlt2 := h.two2.lt
    have h69 := two_op h.wf.2.1
    rw [mvAt_two h]
    by_cases h9 : x.op = 9 ∧ ch = 1
    · rw [mvP_second h9.1 h9.2]
      exact ⟨by dsimp only; omega, by dsimp only; omega, hc, by simp, by simp⟩
    · rw [mvP_in (by omega)]
      exact ⟨by simp, by dsimp only; omega, hc, by simp, by simp⟩
theorem plus_u (o l : Nat) (u : List Int) (a : Crs) : plus o l u a = ((o + a.1.1, l + a.1.2), u ++ a.2) := rfl
/-- The course from a spot is the best one. -/
theorem crs_ok (h : Sp R L M i t nx dp ks) (hc : c ≤ wd) :
    vv R wd i c = (((crs R wd i c).o, (crs R wd i c).l), (if isCh t.root.op = true then [((crs R wd i c).ch : Int)] else []) ++ (vv R wd (crs R wd i c).np (crs R wd i c).nc).2) ∧ ∃ ch, (ch = 0 ∨ ch = 1) ∧ crs R wd i c = tkC R wd i c ch := by
  have hp := h.at
  have hk := h.kont
  have hx := h.kx
  refine ⟨?_, ?_⟩
  · cases t with
    | leaf x =>
      have hlg : (plAt R i).lg ≠ -1 := by rw [hp]; simp [plHd, Tr.lg]
      have hop : (plAt R i).nd.op = x.op := by rw [hp]; rfl
      have hch : isCh x.op = false := by rcases leaf_op h.wf.1 h.wf.2 with e | e | e | e | e <;> simp [isCh, e]
      rw [crs, if_neg hlg, hop, if_pos hch, tkC, cvOf, Tr.root, hch]
      dsimp only
      have hv : vv R wd i c = plus (mvAt R wd i c 0).o (mvAt R wd i c 0).l [] (vv R wd (mvAt R wd i c 0).np (mvAt R wd i c 0).nc) := by
        rw [mvAt_leaf h, vv, hk]
        rcases leaf_op h.wf.1 h.wf.2 with e | e | e | e | e
        · rw [mvP_word e, bs_word h.wf.1 e hc]
          dsimp only
          rw [vv, hx]
        all_goals first
          | (rw [mvP_line (by omega), bs_line (by omega)]; dsimp only; rw [vv, hx])
          | (rw [mvP_zero (by omega), bs_zero e]; dsimp only; rw [vv, hx])
      rw [hv]
      rfl
    | one x a =>
      have h78 := one_op h.wf.2.1
      have hop : (plAt R i).nd.op = x.op := by rw [hp]; rfl
      have hs := h.one
      have m1 : mvAt R wd i c 1 = ⟨i + 1, c, 0, 0⟩ := by rw [mvAt_one h, mvP_in (by omega)]
      rcases h78 with e | e
      · have hlg : (plAt R i).lg ≠ -1 := by rw [hp]; simp [plHd, Tr.lg, e]
        have hch : isCh x.op = false := by simp [isCh, e]
        have m0 : mvAt R wd i c 0 = ⟨i + 1, c, 0, 0⟩ := by rw [mvAt_one h, mvP_in (by omega)]
        rw [crs, if_neg hlg, hop, if_pos hch, tkC, cvOf, Tr.root, hch, m0]
        dsimp only
        rw [vv, hk, bs_deep e, vv, hs.kont]
        simp
      · have hch : isCh x.op = true := by simp [isCh, e]
        have hlg : (plAt R i).lg = lgF a.flat := by rw [hp]; simp [plHd, Tr.lg, e]
        have hn0 : x.n.toNat = 0 := by have := node_ok h.wf.1; omega
        have ek : kont R (i + 1) = (dp, a) :: ks := by rw [hs.kont, hn0]; rfl
        cases hf : a.flat with
        | none =>
          rw [hf] at hlg
          rw [crs, if_pos (show (plAt R i).lg = -1 from hlg), tkC, cvOf, Tr.root, hch, m1]
          dsimp only
          rw [vv, hk, bs_hard (by omega) hf, plus_u, vv, ek]
          simp
        | some s =>
          rw [hf] at hlg
          have hlg' : (plAt R i).lg ≠ -1 := by rw [hlg, lgF]; omega
          have m0 : mvAt R wd i c 0 = ⟨nx, min (c + s.length) wd, c + s.length - wd, 0⟩ := by
            rw [mvAt_one h, mvP_flat e rfl, Tr.lg, if_pos e, hf]
            rfl
          rw [crs, if_neg hlg', hop, if_neg (by rw [hch]; simp), Tr.root, hch]
          rw [vv, hk, bs_group (by omega) h.wf.2.2 hf hc]
          have e0 : tkC R wd i c 0 = ⟨(plus (c + s.length - wd) 0 [0] (bs wd (min (c + s.length) wd) ks)).1.1, (plus (c + s.length - wd) 0 [0] (bs wd (min (c + s.length) wd) ks)).1.2, 0, nx, min (c + s.length) wd⟩ := by
            rw [tkC, cvOf, m0]; simp only [vv, hx, plus]
          have e1 : tkC R wd i c 1 = ⟨(plus 0 0 [1] (bs wd c ((dp, a) :: ks))).1.1, (plus 0 0 [1] (bs wd c ((dp, a) :: ks))).1.2, 1, i + 1, c⟩ := by
            rw [tkC, cvOf, m1]; simp only [vv, ek, plus]
          rw [e0, e1]
          unfold pick
          dsimp only
          split
          · simp only [if_true, vv, ek, plus]; rfl
          · simp only [if_true, vv, hx, plus]; rfl
    | two x a b =>
      have h69 := two_op h.wf.2.1
      have hop : (plAt R i).nd.op = x.op := by rw [hp]; rfl
      have hlg : (plAt R i).lg ≠ -1 := by rw [hp]; simp [plHd, Tr.lg]
      have m0 : mvAt R wd i c 0 = ⟨i + 1, c, 0, 0⟩ := by rw [mvAt_two h, mvP_in (by omega)]
      rcases h69 with e | e
      · have hch : isCh x.op = false := by simp [isCh, e]
        rw [crs, if_neg hlg, hop, if_pos hch, tkC, cvOf, Tr.root, hch, m0]
        dsimp only
        rw [vv, hk, bs_both e, vv, (h.both1 e).kont]
        simp
      · have hch : isCh x.op = true := by simp [isCh, e]
        have hs := h.either1 (by omega)
        have hs2 := h.two2
        have m1 : mvAt R wd i c 1 = ⟨i + 1 + a.sz, c, 0, 0⟩ := by rw [mvAt_two h, mvP_second e rfl]
        rw [crs, if_neg hlg, hop, if_neg (by rw [hch]; simp), Tr.root, hch]
        rw [vv, hk, bs_either (by omega)]
        have e0 : tkC R wd i c 0 = ⟨(plus 0 0 [0] (bs wd c ((dp, a) :: ks))).1.1, (plus 0 0 [0] (bs wd c ((dp, a) :: ks))).1.2, 0, i + 1, c⟩ := by
          rw [tkC, cvOf, m0]; simp only [vv, hs.kont, plus]
        have e1 : tkC R wd i c 1 = ⟨(plus 0 0 [1] (bs wd c ((dp, b) :: ks))).1.1, (plus 0 0 [1] (bs wd c ((dp, b) :: ks))).1.2, 1, i + 1 + a.sz, c⟩ := by
          rw [tkC, cvOf, m1]; simp only [vv, hs2.kont, plus]
        rw [e0, e1]
        unfold pick
        dsimp only
        split
        · simp only [if_true, vv, hs2.kont, plus]; rfl
        · simp only [if_true, vv, hs.kont, plus]; rfl
  · unfold crs
    split
    · exact ⟨1, .inr rfl, rfl⟩
    · split
      · exact ⟨0, .inl rfl, rfl⟩
      · split
        · exact ⟨1, .inr rfl, rfl⟩
        · exact ⟨0, .inl rfl, rfl⟩
end
end Go.Proofs.YtfabfclbnekleaaDoor
