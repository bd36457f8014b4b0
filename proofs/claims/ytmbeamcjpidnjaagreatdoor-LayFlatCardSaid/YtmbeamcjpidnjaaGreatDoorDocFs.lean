/- Some texts as one: DocP, FlatP, WayP. -/
import Derived.Lib.Strings
namespace Go.Proofs.YtmbeamcjpidnjaaGreatDoor

/-- A node of a doc. -/
structure Nd where
  op : Int
  tx : ByteArray
  n : Int

/-- How many docs stand behind a node as its own. -/
def pts (op : Int) : Nat := if op = 6 ∨ op = 9 then 2 else if op = 7 ∨ op = 8 then 1 else 0
theorem pts_le (op : Int) : pts op ≤ 2 := by unfold pts; split <;> (try split) <;> omega

/-- How many nodes so many docs take. -/
def cnt : List Nd → Nat → Option Nat
  | _, 0 => some 0
  | [], _ + 1 => none
  | x :: r, m + 1 => (cnt r (pts x.op + m)).map (· + 1)
theorem cnt_zero (ds : List Nd) : cnt ds 0 = some 0 := by cases ds <;> rfl
theorem cnt_nil (m : Nat) : cnt [] (m + 1) = none := rfl
theorem cnt_cons (x : Nd) (r : List Nd) (m : Nat) : cnt (x :: r) (m + 1) = (cnt r (pts x.op + m)).map (· + 1) := rfl

theorem cnt_le : ∀ (ds : List Nd) (m k : Nat), cnt ds m = some k → m ≤ k ∧ k ≤ ds.length
  | ds, 0, k, h => by rw [cnt_zero] at h; cases h; simp
  | [], m + 1, k, h => by rw [cnt_nil] at h; cases h
  | x :: r, m + 1, k, h => by
    rw [cnt_cons, Option.map_eq_some_iff] at h
    obtain ⟨j, h1, rfl⟩ := h
    have := cnt_le r _ j h1
    simp
    omega

theorem cnt_add : ∀ (ds : List Nd) (a b : Nat), cnt ds (a + b) = (cnt ds a).bind fun k => (cnt (ds.drop k) b).map (k + ·)
  | ds, 0, b => by
    rw [cnt_zero]
    simp
  | [], a + 1, b => by rw [show a + 1 + b = (a + b) + 1 by omega, cnt_nil, cnt_nil]; rfl
  | x :: r, a + 1, b => by
    rw [show a + 1 + b = (a + b) + 1 by omega, cnt_cons, cnt_cons, show pts x.op + (a + b) = (pts x.op + a) + b by omega, cnt_add r _ b]
    cases cnt r (pts x.op + a) with
    | none => rfl
    | some k =>
      simp only [Option.bind_some, Option.map_some, List.drop_succ_cons]
      cases cnt (r.drop k) b with
      | none => rfl
      | some j => simp; omega

theorem cnt_mid : ∀ (ds : List Nd) (m k i : Nat), cnt ds m = some k → i < k → ∃ m', cnt (ds.drop i) (m' + 1) = some (k - i)
  | ds, 0, k, i, h, hi => by rw [cnt_zero] at h; cases h; omega
  | [], m + 1, k, i, h, hi => by rw [cnt_nil] at h; cases h
  | x :: r, m + 1, k, i, h, hi => by
    cases i with
    | zero => exact ⟨m, h⟩
    | succ i =>
      rw [cnt_cons, Option.map_eq_some_iff] at h
      obtain ⟨j, h1, rfl⟩ := h
      obtain ⟨m', h2⟩ := cnt_mid r _ j i h1 (by omega)
      exact ⟨m', by rw [List.drop_succ_cons, h2]; congr 1; omega⟩

/-- Where so many docs that begin at a place end. -/
def endAt (ds : List Nd) (i m : Nat) : Option Nat := (cnt (ds.drop i) m).map (i + ·)
theorem endAt_zero (ds : List Nd) (i : Nat) : endAt ds i 0 = some i := by simp [endAt, cnt_zero]
theorem endAt_out (ds : List Nd) (i m : Nat) (h : ds.length ≤ i) : endAt ds i (m + 1) = none := by
  rw [endAt, List.drop_eq_nil_of_le h, cnt_nil]; rfl
theorem endAt_step (ds : List Nd) (i m : Nat) (h : i < ds.length) : endAt ds i (m + 1) = endAt ds (i + 1) (pts ds[i].op + m) := by
  rw [endAt, List.drop_eq_getElem_cons h, cnt_cons, endAt]
  cases cnt (ds.drop (i + 1)) (pts ds[i].op + m) with
  | none => rfl
  | some k => simp; omega
theorem endAt_add (ds : List Nd) (i a b : Nat) : endAt ds i (a + b) = (endAt ds i a).bind fun j => endAt ds j b := by
  rw [endAt, cnt_add, endAt]
  cases cnt (ds.drop i) a with
  | none => rfl
  | some k =>
    simp only [Option.bind_some, Option.map_some, endAt, List.drop_drop]
    cases cnt (ds.drop (i + k)) b with
    | none => rfl
    | some j => simp; omega
theorem endAt_bd {ds : List Nd} {i m j : Nat} (h : endAt ds i m = some j) : i + m ≤ j ∧ (m = 0 ∨ j ≤ ds.length) := by
  rw [endAt, Option.map_eq_some_iff] at h
  obtain ⟨k, h1, rfl⟩ := h
  have h2 := cnt_le _ _ _ h1
  rw [List.length_drop] at h2
  omega
theorem endAt_mid {ds : List Nd} {i : Nat} (h : endAt ds 0 1 = some ds.length) (hi : i < ds.length) : ∃ j, endAt ds i 1 = some j ∧ i < j ∧ j ≤ ds.length := by
  rw [endAt, Option.map_eq_some_iff] at h
  obtain ⟨k, h1, h2⟩ := h
  have hk : k = ds.length := by omega
  subst hk
  obtain ⟨m', h3⟩ := cnt_mid _ _ _ i h1 hi
  rw [List.drop_zero, Nat.add_comm m' 1, cnt_add] at h3
  cases h4 : cnt (ds.drop i) 1 with
  | none => rw [h4] at h3; cases h3
  | some j =>
    have h5 : endAt ds i 1 = some (i + j) := by rw [endAt, h4]; rfl
    have h6 := endAt_bd h5
    exact ⟨i + j, h5, by omega, by omega⟩

/-- A word's bytes. -/
def wordB (b : UInt8) : Bool := decide (32 ≤ b.toNat) && decide (b.toNat ≤ 126)
def isW (s : ByteArray) : Bool := decide (1 ≤ s.size) && decide (s.size ≤ 20) && s.data.toList.all wordB

/-- What is wrong with a node. -/
def nodeF (x : Nd) : Int :=
  if x.op < 1 ∨ 9 < x.op then 1
  else if (x.op ≠ 1 ∧ x.tx.size ≠ 0) ∨ (x.op ≠ 7 ∧ x.n ≠ 0) then 2
  else if x.op = 1 ∧ isW x.tx = false then 5
  else if x.op = 7 ∧ (x.n < 0 ∨ 8 < x.n) then 1 else 0

/-- The first node's fault. -/
def firstF : List Nd → Int
  | [] => 0
  | x :: r => if nodeF x = 0 then firstF r else nodeF x

/-- What is wrong with a doc. -/
def docF (ds : List Nd) : Int :=
  if 400 < ds.length then 3 else if firstF ds = 0 then (if endAt ds 0 1 = some ds.length then 0 else 2) else firstF ds

theorem firstF_all : ∀ (ds : List Nd), (∀ x ∈ ds, nodeF x = 0) → firstF ds = 0
  | [], _ => rfl
  | x :: r, h => by rw [firstF, if_pos (h x (by simp)), firstF_all r fun y hy => h y (by simp [hy])]
theorem firstF_zero : ∀ (ds : List Nd), firstF ds = 0 → ∀ x ∈ ds, nodeF x = 0
  | [], _ => by simp
  | x :: r, h => by
    rw [firstF] at h
    split at h
    · rename_i h0
      intro y hy
      rcases List.mem_cons.1 hy with rfl | hy
      · exact h0
      · exact firstF_zero r h y hy
    · rename_i h0
      exact absurd h h0
theorem firstF_at : ∀ (ds : List Nd) (k : Nat) (h : k < ds.length), (∀ x ∈ ds.take k, nodeF x = 0) → nodeF ds[k] ≠ 0 → firstF ds = nodeF ds[k]
  | x :: r, 0, _, _, h => by
    have h' : nodeF x ≠ 0 := h
    rw [firstF, if_neg h']; rfl
  | x :: r, k + 1, hk, ha, h => by
    rw [firstF, if_pos (ha x (by simp)), firstF_at r k (by simpa using hk) (fun y hy => ha y (by simp [hy])) h]
    rfl

theorem docF_zero {ds : List Nd} (h : docF ds = 0) : ds.length ≤ 400 ∧ (∀ x ∈ ds, nodeF x = 0) ∧ endAt ds 0 1 = some ds.length := by
  unfold docF at h
  split at h
  · cases h
  · rename_i h1
    split at h
    · rename_i h2
      split at h
      · rename_i h3
        exact ⟨by omega, firstF_zero ds h2, h3⟩
      · cases h
    · rename_i h2
      exact absurd h h2
theorem docF_of {ds : List Nd} (h1 : ds.length ≤ 400) (h2 : ∀ x ∈ ds, nodeF x = 0) (h3 : endAt ds 0 1 = some ds.length) : docF ds = 0 := by
  rw [docF, if_neg (by omega), if_pos (firstF_all ds h2), if_pos h3]

/-- Docs as trees. -/
inductive Tr where
  | leaf (x : Nd)
  | one (x : Nd) (a : Tr)
  | two (x : Nd) (a b : Tr)

def Tr.nodes : Tr → List Nd
  | .leaf x => [x]
  | .one x a => x :: a.nodes
  | .two x a b => x :: (a.nodes ++ b.nodes)

def Tr.Wf : Tr → Prop
  | .leaf x => nodeF x = 0 ∧ pts x.op = 0
  | .one x a => nodeF x = 0 ∧ pts x.op = 1 ∧ a.Wf
  | .two x a b => nodeF x = 0 ∧ pts x.op = 2 ∧ a.Wf ∧ b.Wf

theorem parse : ∀ (ds : List Nd) (m k : Nat), (∀ x ∈ ds, nodeF x = 0) → cnt ds m = some k → ∃ ts : List Tr, ts.length = m ∧ (∀ t ∈ ts, t.Wf) ∧ ds.take k = (ts.map Tr.nodes).flatten
  | ds, 0, k, _, h => by rw [cnt_zero] at h; cases h; exact ⟨[], rfl, by simp, by simp⟩
  | [], m + 1, k, _, h => by rw [cnt_nil] at h; cases h
  | x :: r, m + 1, k, hn, h => by
    rw [cnt_cons, Option.map_eq_some_iff] at h
    obtain ⟨j, h1, rfl⟩ := h
    obtain ⟨ts, e1, e2, e3⟩ := parse r _ j (fun y hy => hn y (by simp [hy])) h1
    have hx := hn x (by simp)
    have h012 : pts x.op = 0 ∨ pts x.op = 1 ∨ pts x.op = 2 := by have := pts_le x.op; omega
    rcases h012 with h0 | h0 | h0
    · exact ⟨.leaf x :: ts, by simp [e1, h0], by intro t ht; rcases List.mem_cons.1 ht with rfl | ht; exact ⟨hx, h0⟩; exact e2 t ht, by simp [Tr.nodes, e3]⟩
    · match ts, e1, e2, e3 with
      | [], e1, _, _ => simp at e1; omega
      | a :: ts, e1, e2, e3 =>
        refine ⟨.one x a :: ts, by simp at e1 ⊢; omega, ?_, by simp [Tr.nodes, e3]⟩
        intro t ht
        rcases List.mem_cons.1 ht with rfl | ht
        · exact ⟨hx, h0, e2 a (by simp)⟩
        · exact e2 t (by simp [ht])
    · match ts, e1, e2, e3 with
      | [], e1, _, _ => simp at e1; omega
      | [a], e1, _, _ => simp at e1; omega
      | a :: b :: ts, e1, e2, e3 =>
        refine ⟨.two x a b :: ts, by simp at e1 ⊢; omega, ?_, by simp [Tr.nodes, e3]⟩
        intro t ht
        rcases List.mem_cons.1 ht with rfl | ht
        · exact ⟨hx, h0, e2 a (by simp), e2 b (by simp)⟩
        · exact e2 t (by simp [ht])

theorem cnt_tree : ∀ (t : Tr) (r : List Nd) (m : Nat), t.Wf → cnt (t.nodes ++ r) (m + 1) = (cnt r m).map (t.nodes.length + ·)
  | .leaf x, r, m, h => by
    simp only [Tr.nodes, List.cons_append, List.nil_append, cnt_cons, h.2, Nat.zero_add, List.length_cons, List.length_nil]
    cases cnt r m <;> simp [Nat.add_comm]
  | .one x a, r, m, h => by
    simp only [Tr.nodes, List.cons_append, cnt_cons, h.2.1, Nat.add_comm 1 m, cnt_tree a r m h.2.2, List.length_cons]
    cases cnt r m <;> simp; omega
  | .two x a b, r, m, h => by
    simp only [Tr.nodes, List.cons_append, List.append_assoc, cnt_cons, h.2.1, show 2 + m = (m + 1) + 1 by omega, cnt_tree a (b.nodes ++ r) (m + 1) h.2.2.1, cnt_tree b r m h.2.2.2, List.length_cons, List.length_append]
    cases cnt r m <;> simp; omega

theorem Tr.pos : ∀ t : Tr, 0 < t.nodes.length
  | .leaf _ => by simp [Tr.nodes]
  | .one _ _ => by simp [Tr.nodes]
  | .two _ _ _ => by simp [Tr.nodes]

theorem endAt_tree {ds : List Nd} {i : Nat} {t : Tr} {r : List Nd} (h : t.Wf) (hd : ds.drop i = t.nodes ++ r) : endAt ds i 1 = some (i + t.nodes.length) := by
  rw [endAt, hd, cnt_tree t r 0 h, cnt_zero]; rfl

theorem tree_at {ds : List Nd} {i j : Nat} (hn : ∀ x ∈ ds, nodeF x = 0) (h : endAt ds i 1 = some j) : ∃ t : Tr, t.Wf ∧ ds.drop i = t.nodes ++ ds.drop j ∧ j = i + t.nodes.length := by
  rw [endAt, Option.map_eq_some_iff] at h
  obtain ⟨k, h1, rfl⟩ := h
  obtain ⟨ts, e1, e2, e3⟩ := parse _ _ _ (fun x hx => hn x (List.mem_of_mem_drop hx)) h1
  match ts, e1, e2, e3 with
  | [t], _, e2, e3 =>
    have e4 : (ds.drop i).take k = t.nodes := by simpa using e3
    have e5 := cnt_le _ _ _ h1
    refine ⟨t, e2 t (by simp), ?_, ?_⟩
    · rw [← e4, ← List.drop_drop, List.take_append_drop]
    · rw [← e4, List.length_take]; omega

/-- A doc that is one, as a tree. -/
theorem doc_tree {ds : List Nd} (h : docF ds = 0) : ∃ t : Tr, t.Wf ∧ ds = t.nodes := by
  obtain ⟨_, h2, h3⟩ := docF_zero h
  obtain ⟨t, ht, e1, e2⟩ := tree_at h2 h3
  refine ⟨t, ht, ?_⟩
  rw [List.drop_zero, List.drop_length, List.append_nil] at e1
  exact e1
theorem tree_doc {t : Tr} (h : t.Wf) (hl : t.nodes.length ≤ 400) : docF t.nodes = 0 := by
  refine docF_of hl ?_ ?_
  · clear hl
    induction t with
    | leaf x => intro y hy; simp [Tr.nodes] at hy; subst hy; exact h.1
    | one x a ih =>
      intro y hy
      rcases List.mem_cons.1 hy with rfl | hy
      · exact h.1
      · exact ih h.2.2 y hy
    | two x a b ia ib =>
      intro y hy
      rcases List.mem_cons.1 hy with rfl | hy
      · exact h.1
      · rcases List.mem_append.1 hy with hy | hy
        · exact ia h.2.2.1 y hy
        · exact ib h.2.2.2 y hy
  · have := endAt_tree (ds := t.nodes) (i := 0) (r := []) h (by simp)
    simpa using this

/-- A node that is right, by its op. -/
theorem node_ok {x : Nd} (h : nodeF x = 0) : 1 ≤ x.op ∧ x.op ≤ 9 ∧ (x.op = 1 ∨ x.tx.size = 0) ∧ (x.op = 7 ∨ x.n = 0) ∧ (x.op = 1 → isW x.tx = true) ∧ (x.op = 7 → 0 ≤ x.n ∧ x.n ≤ 8) := by
  unfold nodeF at h
  split at h
  · cases h
  split at h
  · cases h
  split at h
  · cases h
  split at h
  · cases h
  rename_i h1 h2 h3 h4
  refine ⟨by omega, by omega, by omega, by omega, ?_, by omega⟩
  intro h5
  cases h6 : isW x.tx with
  | true => rfl
  | false => exact absurd ⟨h5, h6⟩ h3

def dgt (n : Int) : UInt8 := UInt8.ofNat (48 + n.toNat)
theorem dgt_toNat {n : Int} (h1 : n ≤ 8) : (dgt n).toNat = 48 + n.toNat := by
  unfold dgt
  rw [UInt8.toNat_ofNat']
  omega

/-- The text of a doc. -/
def Tr.text : Tr → List UInt8
  | .leaf x => if x.op = 1 then 34 :: (x.tx.data.toList ++ [34]) else if x.op = 2 then [95] else if x.op = 3 then [46] else if x.op = 4 then [47] else [48]
  | .one x a => if x.op = 7 then dgt x.n :: 62 :: a.text else 91 :: (a.text ++ [93])
  | .two x a b => if x.op = 6 then 40 :: (a.text ++ (b.text ++ [41])) else 123 :: (a.text ++ (124 :: (b.text ++ [125])))

theorem isW_size {s : ByteArray} (h : isW s = true) : 1 ≤ s.size ∧ s.size ≤ 20 := by
  simp [isW] at h
  omega
theorem size_list (s : ByteArray) : s.data.toList.length = s.size := (Lib.size_eq s).symm

theorem text_le : ∀ t : Tr, t.Wf → t.text.length ≤ 22 * t.nodes.length
  | .leaf x, h => by
    obtain ⟨_, _, _, _, h5, _⟩ := node_ok h.1
    simp only [Tr.text, Tr.nodes]
    split
    · rename_i h1
      have := isW_size (h5 h1)
      have e := size_list x.tx
      simp only [List.length_cons, List.length_append, List.length_nil]
      omega
    · repeat' split
      all_goals simp
  | .one x a, h => by
    have := text_le a h.2.2
    simp only [Tr.text, Tr.nodes]
    split <;> simp <;> omega
  | .two x a b, h => by
    have := text_le a h.2.2.1
    have := text_le b h.2.2.2
    simp only [Tr.text, Tr.nodes]
    split <;> simp <;> omega

theorem leaf_op {x : Nd} (h : nodeF x = 0) (hp : pts x.op = 0) : x.op = 1 ∨ x.op = 2 ∨ x.op = 3 ∨ x.op = 4 ∨ x.op = 5 := by
  have := node_ok h
  unfold pts at hp
  split at hp
  · cases hp
  split at hp
  · cases hp
  omega
theorem one_op {x : Nd} (hp : pts x.op = 1) : x.op = 7 ∨ x.op = 8 := by
  unfold pts at hp
  split at hp
  · cases hp
  split at hp
  · omega
  · cases hp
theorem two_op {x : Nd} (hp : pts x.op = 2) : x.op = 6 ∨ x.op = 9 := by
  unfold pts at hp
  split at hp
  · omega
  split at hp <;> cases hp

/-- No word of a doc has a quote. -/
def Tr.noQ : Tr → Prop
  | .leaf x => ∀ b ∈ x.tx.data.toList, b ≠ 34
  | .one x a => (∀ b ∈ x.tx.data.toList, b ≠ 34) ∧ a.noQ
  | .two x a b => (∀ c ∈ x.tx.data.toList, c ≠ 34) ∧ a.noQ ∧ b.noQ
theorem noQ_of : ∀ t : Tr, (∀ x ∈ t.nodes, ∀ b ∈ x.tx.data.toList, b ≠ 34) → t.noQ
  | .leaf x, h => h x (by simp [Tr.nodes])
  | .one x a, h => ⟨h x (by simp [Tr.nodes]), noQ_of a fun y hy => h y (by simp [Tr.nodes, hy])⟩
  | .two x a b, h => ⟨h x (by simp [Tr.nodes]), noQ_of a fun y hy => h y (by simp [Tr.nodes, hy]), noQ_of b fun y hy => h y (by simp [Tr.nodes, hy])⟩

theorem bytes_inj {a b : ByteArray} (h : a.data.toList = b.data.toList) : a = b := by
  cases a; cases b
  simp only [ByteArray.mk.injEq]
  exact Array.toList_inj.1 h
theorem size_zero {a : ByteArray} (h : a.size = 0) : a = ⟨#[]⟩ := bytes_inj (by
  have := size_list a
  rw [h] at this
  rw [List.eq_nil_of_length_eq_zero this])
theorem Nd.ext' {x y : Nd} (h1 : x.op = y.op) (h2 : x.tx = y.tx) (h3 : x.n = y.n) : x = y := by
  cases x; cases y; simp_all

/-- A node that is no word has no text. -/
theorem node_eq {x y : Nd} (hx : nodeF x = 0) (hy : nodeF y = 0) (h : x.op = y.op) (h1 : x.op ≠ 1) (h7 : x.op ≠ 7) : x = y := by
  obtain ⟨_, _, a1, a2, _, _⟩ := node_ok hx
  obtain ⟨_, _, b1, b2, _, _⟩ := node_ok hy
  refine Nd.ext' h ?_ (by omega)
  rw [size_zero (by omega : x.tx.size = 0), size_zero (by omega : y.tx.size = 0)]

theorem upto_quote : ∀ (u v r s : List UInt8), (∀ b ∈ u, b ≠ 34) → (∀ b ∈ v, b ≠ 34) → u ++ (34 :: r) = v ++ (34 :: s) → u = v ∧ r = s
  | [], [], r, s, _, _, h => by simpa using h
  | [], c :: v, r, s, _, hv, h => by
    simp only [List.nil_append, List.cons_append, List.cons.injEq] at h
    exact absurd h.1.symm (hv c (by simp))
  | c :: u, [], r, s, hu, _, h => by
    simp only [List.nil_append, List.cons_append, List.cons.injEq] at h
    exact absurd h.1 (hu c (by simp))
  | c :: u, d :: v, r, s, hu, hv, h => by
    simp only [List.cons_append, List.cons.injEq] at h
    obtain ⟨e1, e2⟩ := upto_quote u v r s (fun b hb => hu b (by simp [hb])) (fun b hb => hv b (by simp [hb])) h.2
    exact ⟨by rw [h.1, e1], e2⟩

/-- What stands behind a doc's text does not begin with that sign. -/
def noGt (r : List UInt8) : Prop := r.head? ≠ some 62
theorem noGt_cons {c : UInt8} {r : List UInt8} (h : c ≠ 62) : noGt (c :: r) := by simp [noGt, h]
theorem dgt_ne {n : Int} {c : UInt8} (h : n ≤ 8) (hc : c.toNat < 48 ∨ 56 < c.toNat) : dgt n ≠ c := by
  intro e
  have e' := congrArg UInt8.toNat e
  rw [dgt_toNat h] at e'
  omega
theorem noGt_text : ∀ (t : Tr) (r : List UInt8), t.Wf → noGt (t.text ++ r)
  | .leaf x, r, h => by
    simp only [Tr.text]
    repeat' split
    all_goals exact noGt_cons (by decide)
  | .one x a, r, h => by
    obtain ⟨_, _, _, _, _, h6⟩ := node_ok h.1
    simp only [Tr.text]
    split
    · rename_i h7
      exact noGt_cons (dgt_ne (h6 h7).2 (by decide))
    · exact noGt_cons (by decide)
  | .two x a b, r, h => by
    simp only [Tr.text]
    split
    all_goals exact noGt_cons (by decide)

theorem dgt_inj {n m : Int} (h0 : 0 ≤ n) (h1 : n ≤ 8) (g0 : 0 ≤ m) (g1 : m ≤ 8) (h : dgt n = dgt m) : n = m := by
  have e := congrArg UInt8.toNat h
  rw [dgt_toNat h1, dgt_toNat g1] at e
  omega

/-- A text of a doc that is not deeper begins so. -/
theorem lead_leaf {x : Nd} (h : Tr.Wf (.leaf x)) : ∃ c r, Tr.text (.leaf x) = c :: r ∧ (c = 34 ∨ c = 95 ∨ c = 46 ∨ c = 47 ∨ c = 48) := by
  rcases leaf_op h.1 h.2 with e | e | e | e | e <;> simp [Tr.text, e]
end Go.Proofs.YtmbeamcjpidnjaaGreatDoor
namespace Go.Proofs.YtmbeamcjpidnjaaGreatDoor

/-- A doc in one line, if it can be. -/
def Tr.flat : Tr → Option (List UInt8)
  | .leaf x => if x.op = 1 then some x.tx.data.toList else if x.op = 2 then some [32] else if x.op = 4 then none else some []
  | .one _ a => a.flat
  | .two x a b => if x.op = 6 then (match a.flat, b.flat with | some s, some t => some (s ++ t) | _, _ => none) else a.flat

/-- The line, or nothing. -/
def Tr.line (t : Tr) : ByteArray := ⟨(t.flat.getD []).toArray⟩
def Tr.isFlat (t : Tr) : Bool := t.flat.isSome
theorem line_list (t : Tr) : t.line.data.toList = t.flat.getD [] := by simp [Tr.line]
theorem line_size (t : Tr) : t.line.size = (t.flat.getD []).length := by rw [← size_list, line_list]

theorem flat_le : ∀ t : Tr, t.Wf → (t.flat.getD []).length ≤ 20 * t.nodes.length
  | .leaf x, h => by
    obtain ⟨_, _, _, _, h5, _⟩ := node_ok h.1
    simp only [Tr.flat, Tr.nodes]
    split
    · rename_i h1
      have := isW_size (h5 h1)
      have e := size_list x.tx
      simp only [Option.getD_some, List.length_cons, List.length_nil]
      omega
    · repeat' split
      all_goals simp
  | .one x a, h => by
    have := flat_le a h.2.2
    simp only [Tr.flat, Tr.nodes, List.length_cons]
    omega
  | .two x a b, h => by
    have h1 := flat_le a h.2.2.1
    have h2 := flat_le b h.2.2.2
    simp only [Tr.flat, Tr.nodes, List.length_cons, List.length_append]
    split
    · cases ha : a.flat with
      | none => simp
      | some s =>
        cases hb : b.flat with
        | none => simp
        | some t =>
          rw [ha] at h1
          rw [hb] at h2
          simp only [Option.getD_some] at h1 h2 ⊢
          rw [List.length_append]
          omega
    · omega

/-- A line has no new line. -/
theorem flat_no10 : ∀ (t : Tr) (s : List UInt8), t.Wf → t.flat = some s → ∀ b ∈ s, b ≠ 10
  | .leaf x, s, h, e => by
    obtain ⟨_, _, _, _, h5, _⟩ := node_ok h.1
    simp only [Tr.flat] at e
    split at e
    · rename_i h1
      cases e
      have hw := h5 h1
      simp only [isW, Bool.and_eq_true, List.all_eq_true] at hw
      intro b hb hc
      have := hw.2 b hb
      subst hc
      simp [wordB] at this
    · split at e
      · cases e; simp
      · split at e
        · cases e
        · cases e; simp
  | .one x a, s, h, e => flat_no10 a s h.2.2 e
  | .two x a b, s, h, e => by
    simp only [Tr.flat] at e
    split at e
    · cases ha : a.flat with
      | none => rw [ha] at e; cases e
      | some u =>
        cases hb : b.flat with
        | none => rw [ha, hb] at e; cases e
        | some v =>
          rw [ha, hb] at e
          cases e
          intro c hc
          rcases List.mem_append.1 hc with hc | hc
          · exact flat_no10 a u h.2.2.1 ha c hc
          · exact flat_no10 b v h.2.2.2 hb c hc
    · exact flat_no10 a s h.2.2.1 e
end Go.Proofs.YtmbeamcjpidnjaaGreatDoor
namespace Go.Proofs.YtmbeamcjpidnjaaGreatDoor

/-- A doc laid by choices, so deep: its text and the choices that are left, or the fault. -/
def Tr.lay : Tr → Nat → List Int → Except Int (List UInt8 × List Int)
  | .leaf x, deep, ws => if x.op = 1 then .ok (x.tx.data.toList, ws) else if x.op = 5 then .ok ([], ws) else .ok (10 :: List.replicate deep 32, ws)
  | .one x a, deep, ws =>
    if x.op = 7 then a.lay (deep + x.n.toNat) ws
    else match ws with
      | [] => .error 2
      | c :: ws => if c = 1 then a.lay deep ws else match a.flat with
        | none => .error 4
        | some s => .ok (s, ws)
  | .two x a b, deep, ws =>
    if x.op = 6 then match a.lay deep ws with
      | .error e => .error e
      | .ok (s, ws1) => match b.lay deep ws1 with
        | .error e => .error e
        | .ok (t, ws2) => .ok (s ++ t, ws2)
    else match ws with
      | [] => .error 2
      | c :: ws => if c = 0 then a.lay deep ws else b.lay deep ws

/-- All ways of a doc, in order. -/
def Tr.ways : Tr → List (List Int)
  | .leaf _ => [[]]
  | .one x a => if x.op = 7 then a.ways else (if a.isFlat = true then [[0]] else []) ++ a.ways.map (1 :: ·)
  | .two x a b => if x.op = 6 then a.ways.flatMap fun u => b.ways.map (u ++ ·) else a.ways.map (0 :: ·) ++ b.ways.map (1 :: ·)

def okC01 (ws : List Int) : Prop := ∀ c ∈ ws, c = 0 ∨ c = 1

theorem ways_ne : ∀ t : Tr, t.ways ≠ []
  | .leaf _ => by simp [Tr.ways]
  | .one x a => by
    simp only [Tr.ways]
    split
    · exact ways_ne a
    · have := ways_ne a
      simp [this]
  | .two x a b => by
    have h1 := ways_ne a
    have h2 := ways_ne b
    simp only [Tr.ways]
    split
    · obtain ⟨u, us, e⟩ := List.exists_cons_of_ne_nil h1
      rw [e]
      simp [h2]
    · simp [h1]

/-- Each way has choices that may be. -/
theorem ways_01 : ∀ (t : Tr) (u : List Int), u ∈ t.ways → okC01 u
  | .leaf _, u, h => by simp [Tr.ways] at h; subst h; simp [okC01]
  | .one x a, u, h => by
    simp only [Tr.ways] at h
    split at h
    · exact ways_01 a u h
    · rcases List.mem_append.1 h with h | h
      · split at h
        · simp at h; subst h; simp [okC01]
        · simp at h
      · obtain ⟨v, hv, rfl⟩ := List.mem_map.1 h
        have := ways_01 a v hv
        intro c hc
        rcases List.mem_cons.1 hc with rfl | hc
        · exact .inr rfl
        · exact this c hc
  | .two x a b, u, h => by
    simp only [Tr.ways] at h
    split at h
    · obtain ⟨p, hp, hpq⟩ := List.mem_flatMap.1 h
      obtain ⟨q, hq, rfl⟩ := List.mem_map.1 hpq
      have h1 := ways_01 a p hp
      have h2 := ways_01 b q hq
      intro c hc
      rcases List.mem_append.1 hc with hc | hc
      · exact h1 c hc
      · exact h2 c hc
    · rcases List.mem_append.1 h with h | h
      · obtain ⟨v, hv, rfl⟩ := List.mem_map.1 h
        have := ways_01 a v hv
        intro c hc
        rcases List.mem_cons.1 hc with rfl | hc
        · exact .inl rfl
        · exact this c hc
      · obtain ⟨v, hv, rfl⟩ := List.mem_map.1 h
        have := ways_01 b v hv
        intro c hc
        rcases List.mem_cons.1 hc with rfl | hc
        · exact .inr rfl
        · exact this c hc

/-- Each way lays the doc, whatever is behind it. -/
theorem ways_lay : ∀ (t : Tr) (deep : Nat) (u r : List Int), u ∈ t.ways → ∃ s, t.lay deep (u ++ r) = .ok (s, r)
  | .leaf x, deep, u, r, h => by
    simp [Tr.ways] at h
    subst h
    simp only [Tr.lay, List.nil_append]
    split
    · exact ⟨_, rfl⟩
    · split
      · exact ⟨_, rfl⟩
      · exact ⟨_, rfl⟩
  | .one x a, deep, u, r, h => by
    simp only [Tr.ways] at h
    simp only [Tr.lay]
    split at h
    · rename_i h7
      rw [if_pos h7]
      exact ways_lay a _ u r h
    · rename_i h7
      rw [if_neg h7]
      rcases List.mem_append.1 h with h | h
      · split at h
        · rename_i hf
          simp at h
          subst h
          simp only [List.cons_append, List.nil_append]
          rw [if_neg (by decide)]
          rw [Tr.isFlat] at hf
          cases hfl : a.flat with
          | none => rw [hfl] at hf; cases hf
          | some s => exact ⟨s, rfl⟩
        · simp at h
      · obtain ⟨v, hv, rfl⟩ := List.mem_map.1 h
        simp only [List.cons_append, if_pos]
        exact ways_lay a deep v r hv
  | .two x a b, deep, u, r, h => by
    simp only [Tr.ways] at h
    simp only [Tr.lay]
    split at h
    · rename_i h6
      rw [if_pos h6]
      obtain ⟨p, hp, hpq⟩ := List.mem_flatMap.1 h
      obtain ⟨q, hq, rfl⟩ := List.mem_map.1 hpq
      obtain ⟨s1, e1⟩ := ways_lay a deep p (q ++ r) hp
      obtain ⟨s2, e2⟩ := ways_lay b deep q r hq
      rw [List.append_assoc, e1]
      simp only [e2]
      exact ⟨_, rfl⟩
    · rename_i h6
      rw [if_neg h6]
      rcases List.mem_append.1 h with h | h
      · obtain ⟨v, hv, rfl⟩ := List.mem_map.1 h
        simp only [List.cons_append, if_pos]
        exact ways_lay a deep v r hv
      · obtain ⟨v, hv, rfl⟩ := List.mem_map.1 h
        simp only [List.cons_append]
        rw [if_neg (by decide)]
        exact ways_lay b deep v r hv

/-- What lays the doc is one of its ways. -/
theorem lay_ways : ∀ (t : Tr) (deep : Nat) (ws r : List Int) (s : List UInt8), okC01 ws → t.lay deep ws = .ok (s, r) → ∃ u ∈ t.ways, ws = u ++ r
  | .leaf x, deep, ws, r, s, _, h => by
    refine ⟨[], by simp [Tr.ways], ?_⟩
    simp only [Tr.lay] at h
    split at h
    · cases h; rfl
    · split at h
      · cases h; rfl
      · cases h; rfl
  | .one x a, deep, ws, r, s, h0, h => by
    simp only [Tr.lay] at h
    simp only [Tr.ways]
    split at h
    · rename_i h7
      rw [if_pos h7]
      exact lay_ways a _ ws r s h0 h
    · rename_i h7
      rw [if_neg h7]
      match ws, h0, h with
      | [], _, h => cases h
      | c :: ws, h0, h =>
        simp only at h
        split at h
        · rename_i h1
          subst h1
          obtain ⟨u, hu, e⟩ := lay_ways a deep ws r s (fun d hd => h0 d (by simp [hd])) h
          exact ⟨1 :: u, List.mem_append.2 (.inr (List.mem_map.2 ⟨u, hu, rfl⟩)), by rw [e]; rfl⟩
        · rename_i h1
          have hc : c = 0 := by have := h0 c (by simp); omega
          subst hc
          cases hf : a.flat with
          | none => rw [hf] at h; cases h
          | some v =>
            rw [hf] at h
            cases h
            refine ⟨[0], List.mem_append.2 (.inl ?_), rfl⟩
            rw [if_pos (by rw [Tr.isFlat, hf]; rfl)]
            simp
  | .two x a b, deep, ws, r, s, h0, h => by
    simp only [Tr.lay] at h
    simp only [Tr.ways]
    split at h
    · rename_i h6
      rw [if_pos h6]
      cases ha : a.lay deep ws with
      | error e => rw [ha] at h; cases h
      | ok p =>
        obtain ⟨s1, ws1⟩ := p
        rw [ha] at h
        simp only at h
        cases hb : b.lay deep ws1 with
        | error e => rw [hb] at h; cases h
        | ok q =>
          obtain ⟨s2, ws2⟩ := q
          rw [hb] at h
          cases h
          obtain ⟨u, hu, e1⟩ := lay_ways a deep ws ws1 s1 h0 ha
          obtain ⟨v, hv, e2⟩ := lay_ways b deep ws1 r s2 (fun d hd => h0 d (by rw [e1]; simp [hd])) hb
          exact ⟨u ++ v, List.mem_flatMap.2 ⟨u, hu, List.mem_map.2 ⟨v, hv, rfl⟩⟩, by rw [e1, e2, List.append_assoc]⟩
    · rename_i h6
      rw [if_neg h6]
      match ws, h0, h with
      | [], _, h => cases h
      | c :: ws, h0, h =>
        simp only at h
        split at h
        · rename_i h1
          subst h1
          obtain ⟨u, hu, e⟩ := lay_ways a deep ws r s (fun d hd => h0 d (by simp [hd])) h
          exact ⟨0 :: u, List.mem_append.2 (.inl (List.mem_map.2 ⟨u, hu, rfl⟩)), by rw [e]; rfl⟩
        · rename_i h1
          have hc : c = 1 := by have := h0 c (by simp); omega
          subst hc
          obtain ⟨u, hu, e⟩ := lay_ways b deep ws r s (fun d hd => h0 d (by simp [hd])) h
          exact ⟨1 :: u, List.mem_append.2 (.inr (List.mem_map.2 ⟨u, hu, rfl⟩)), by rw [e]; rfl⟩

/-- The text of a way, or the fault. -/
def Tr.show (t : Tr) (ws : List Int) : Except Int (List UInt8) :=
  if ws.all (fun c => c == 0 || c == 1) = true then match t.lay 0 ws with
    | .error e => .error e
    | .ok (s, []) => .ok s
    | .ok (_, _ :: _) => .error 2
  else .error 1
theorem all01 {ws : List Int} : ws.all (fun c => c == 0 || c == 1) = true ↔ okC01 ws := by
  simp [okC01]

theorem show_ways (t : Tr) (ws : List Int) : (∃ s, t.show ws = .ok s) ↔ ws ∈ t.ways := by
  constructor
  · rintro ⟨s, h⟩
    unfold Tr.show at h
    split at h
    · rename_i h0
      cases hl : t.lay 0 ws with
      | error e => rw [hl] at h; cases h
      | ok p =>
        obtain ⟨u, r⟩ := p
        rw [hl] at h
        cases r with
        | cons c r => cases h
        | nil =>
          obtain ⟨v, hv, e⟩ := lay_ways t 0 ws [] u (all01.1 h0) hl
          rw [List.append_nil] at e
          rw [e]; exact hv
    · cases h
  · intro h
    obtain ⟨s, hs⟩ := ways_lay t 0 ws [] h
    rw [List.append_nil] at hs
    refine ⟨s, ?_⟩
    unfold Tr.show
    rw [if_pos (all01.2 (ways_01 t ws h)), hs]

/-- One way is ahead of another one, neither the beginning of the other. -/
def aheadL : List Int → List Int → Prop
  | a :: al, b :: bs => if a = b then aheadL al bs else a < b
  | _, _ => False
theorem aheadL_app : ∀ (u v r : List Int), aheadL u v → aheadL (u ++ r) v
  | a :: al, b :: bs, r, h => by
    simp only [List.cons_append, aheadL] at h ⊢
    split
    · rename_i e; rw [if_pos e] at h; exact aheadL_app al bs r h
    · rename_i e; rw [if_neg e] at h; exact h
theorem aheadL_app2 : ∀ (u v r s : List Int), aheadL u v → aheadL (u ++ r) (v ++ s)
  | a :: al, b :: bs, r, s, h => by
    simp only [List.cons_append, aheadL] at h ⊢
    split
    · rename_i e; rw [if_pos e] at h; exact aheadL_app2 al bs r s h
    · rename_i e; rw [if_neg e] at h; exact h
theorem aheadL_pre : ∀ (u r s : List Int), aheadL r s → aheadL (u ++ r) (u ++ s)
  | [], r, s, h => h
  | a :: u, r, s, h => by simp only [List.cons_append, aheadL, if_pos]; exact aheadL_pre u r s h
theorem pairwise_flat {α β : Type} {R : β → β → Prop} (f : α → List β) : ∀ l : List α, (∀ x ∈ l, (f x).Pairwise R) → l.Pairwise (fun x y => ∀ p ∈ f x, ∀ q ∈ f y, R p q) → (l.flatMap f).Pairwise R
  | [], _, _ => List.Pairwise.nil
  | x :: l, h1, h2 => by
    rw [List.flatMap_cons]
    rw [List.pairwise_cons] at h2
    refine List.pairwise_append.2 ⟨h1 x (by simp), pairwise_flat f l (fun y hy => h1 y (by simp [hy])) h2.2, ?_⟩
    intro p hp q hq
    obtain ⟨y, hy, hq⟩ := List.mem_flatMap.1 hq
    exact h2.1 y hy p hp q hq
/-- Ways rise. -/
theorem ways_rise : ∀ t : Tr, t.ways.Pairwise aheadL
  | .leaf _ => by simp [Tr.ways]
  | .one x a => by
    simp only [Tr.ways]
    have ih := ways_rise a
    split
    · exact ih
    · refine List.pairwise_append.2 ⟨?_, ?_, ?_⟩
      · split <;> simp
      · exact List.pairwise_map.2 (ih.imp fun h => by simp only [aheadL, if_pos]; exact h)
      · intro p hp q hq
        split at hp
        · simp at hp
          subst hp
          obtain ⟨v, _, rfl⟩ := List.mem_map.1 hq
          simp [aheadL]
        · simp at hp
  | .two x a b => by
    simp only [Tr.ways]
    have ia := ways_rise a
    have ib := ways_rise b
    split
    · refine pairwise_flat _ _ ?_ ?_
      · intro u _
        exact List.pairwise_map.2 (ib.imp fun h => aheadL_pre u _ _ h)
      · refine ia.imp ?_
        intro u v h p hp q hq
        obtain ⟨r, _, rfl⟩ := List.mem_map.1 hp
        obtain ⟨s, _, rfl⟩ := List.mem_map.1 hq
        exact aheadL_app2 u v r s h
    · refine List.pairwise_append.2 ⟨?_, ?_, ?_⟩
      · exact List.pairwise_map.2 (ia.imp fun h => by simp only [aheadL, if_pos]; exact h)
      · exact List.pairwise_map.2 (ib.imp fun h => by simp only [aheadL, if_pos]; exact h)
      · intro p hp q hq
        obtain ⟨u, _, rfl⟩ := List.mem_map.1 hp
        obtain ⟨v, _, rfl⟩ := List.mem_map.1 hq
        simp [aheadL]

/-- What is behind the choices makes no difference. -/
theorem lay_app : ∀ (t : Tr) (deep : Nat) (ws r vs : List Int) (s : List UInt8), t.lay deep ws = .ok (s, r) → t.lay deep (ws ++ vs) = .ok (s, r ++ vs)
  | .leaf x, deep, ws, r, vs, s, h => by
    simp only [Tr.lay] at h ⊢
    split at h
    · rename_i h1; cases h; rw [if_pos h1]
    · rename_i h1
      rw [if_neg h1]
      split at h
      · rename_i h2; cases h; rw [if_pos h2]
      · rename_i h2; cases h; rw [if_neg h2]
  | .one x a, deep, ws, r, vs, s, h => by
    simp only [Tr.lay] at h ⊢
    split at h
    · rename_i h7; rw [if_pos h7]; exact lay_app a _ ws r vs s h
    · rename_i h7
      rw [if_neg h7]
      match ws, h with
      | c :: ws, h =>
        simp only [List.cons_append] at h ⊢
        split at h
        · rename_i h1; rw [if_pos h1]; exact lay_app a deep ws r vs s h
        · rename_i h1
          rw [if_neg h1]
          cases hf : a.flat with
          | none => rw [hf] at h; cases h
          | some v => rw [hf] at h; cases h; rfl
  | .two x a b, deep, ws, r, vs, s, h => by
    simp only [Tr.lay] at h ⊢
    split at h
    · rename_i h6
      rw [if_pos h6]
      cases ha : a.lay deep ws with
      | error e => rw [ha] at h; cases h
      | ok p =>
        obtain ⟨s1, ws1⟩ := p
        rw [ha] at h
        simp only at h
        cases hb : b.lay deep ws1 with
        | error e => rw [hb] at h; cases h
        | ok q =>
          obtain ⟨s2, ws2⟩ := q
          rw [hb] at h
          cases h
          rw [lay_app a deep ws ws1 vs s1 ha]
          simp only
          rw [lay_app b deep ws1 r vs s2 hb]
    · rename_i h6
      rw [if_neg h6]
      match ws, h with
      | c :: ws, h =>
        simp only [List.cons_append] at h ⊢
        split at h
        · rename_i h1; rw [if_pos h1]; exact lay_app a deep ws r vs s h
        · rename_i h1; rw [if_neg h1]; exact lay_app b deep ws r vs s h

/-- Each new line so much deeper. -/
def indent (n : Nat) (s : List UInt8) : List UInt8 := s.flatMap fun c => if c = 10 then 10 :: List.replicate n 32 else [c]
theorem indent_no {n : Nat} : ∀ {s : List UInt8}, (∀ b ∈ s, b ≠ 10) → indent n s = s
  | [], _ => rfl
  | c :: s, h => by
    have h1 := indent_no (n := n) (s := s) fun b hb => h b (by simp [hb])
    unfold indent at h1 ⊢
    rw [List.flatMap_cons, h1, if_neg (h c (by simp))]
    rfl
theorem indent_app (n : Nat) (s t : List UInt8) : indent n (s ++ t) = indent n s ++ indent n t := by simp [indent, List.flatMap_append]
theorem word_no10 {x : Nd} (h : nodeF x = 0) (h1 : x.op = 1) : ∀ b ∈ x.tx.data.toList, b ≠ 10 := by
  obtain ⟨_, _, _, _, h5, _⟩ := node_ok h
  have hw := h5 h1
  simp only [isW, Bool.and_eq_true, List.all_eq_true] at hw
  intro b hb hc
  have := hw.2 b hb
  subst hc
  simp [wordB] at this
theorem lay_deep : ∀ (t : Tr) (deep n : Nat) (ws : List Int), t.Wf → t.lay (deep + n) ws = (t.lay deep ws).map fun p => (indent n p.1, p.2)
  | .leaf x, deep, n, ws, h => by
    simp only [Tr.lay]
    split
    · rename_i h1
      simp only [Except.map]
      rw [indent_no (word_no10 h.1 h1)]
    · split
      · rfl
      · simp only [Except.map, indent, List.flatMap_cons, if_pos]
        congr 2
        have : List.flatMap (fun c : UInt8 => if c = 10 then 10 :: List.replicate n 32 else [c]) (List.replicate deep 32) = List.replicate deep 32 :=
          indent_no (n := n) (s := List.replicate deep 32) fun b hb => by have := List.eq_of_mem_replicate hb; subst this; decide
        rw [this, Nat.add_comm deep n, ← List.replicate_append_replicate]
        rfl
  | .one x a, deep, n, ws, h => by
    simp only [Tr.lay]
    split
    · rw [show deep + n + x.n.toNat = (deep + x.n.toNat) + n by omega]
      exact lay_deep a _ n ws h.2.2
    · match ws with
      | [] => rfl
      | c :: ws =>
        simp only
        split
        · exact lay_deep a deep n ws h.2.2
        · cases hf : a.flat with
          | none => rfl
          | some v =>
            simp only [Except.map]
            rw [indent_no (flat_no10 a v h.2.2 hf)]
  | .two x a b, deep, n, ws, h => by
    simp only [Tr.lay]
    split
    · rw [lay_deep a deep n ws h.2.2.1]
      cases ha : a.lay deep ws with
      | error e => rfl
      | ok p =>
        obtain ⟨s1, ws1⟩ := p
        simp only [Except.map]
        rw [lay_deep b deep n ws1 h.2.2.2]
        cases hb : b.lay deep ws1 with
        | error e => rfl
        | ok q =>
          obtain ⟨s2, ws2⟩ := q
          simp only [Except.map]
          rw [indent_app]
    · match ws with
      | [] => rfl
      | c :: ws =>
        simp only
        split
        · exact lay_deep a deep n ws h.2.2.1
        · exact lay_deep b deep n ws h.2.2.2
end Go.Proofs.YtmbeamcjpidnjaaGreatDoor
