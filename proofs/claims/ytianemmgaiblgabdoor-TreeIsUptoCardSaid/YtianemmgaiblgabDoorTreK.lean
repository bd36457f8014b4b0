/- Kids of a node, plainly; what package tree's functions hand back. -/
import Derived.Test.YtianemmgaiblgabDoorTreH
import Derived.Test.YtianemmgaiblgabDoorAppO
namespace Go.Proofs.YtianemmgaiblgabDoor
open Go Go.RowKit

/-- Where so many kids of a node end. -/
def kidAt (ds : List Td) (i j : Nat) : Nat := (endT ds (i + 1) j).getD 0
/-- Where the kids of a node are. -/
def kidsL (ds : List Td) (i : Nat) : List Int := (List.range (kdT (ds.getD i ⟨0, ⟨#[]⟩, 0⟩))).map fun j => ((kidAt ds i j : Nat) : Int)
theorem endT_part {ds : List Td} {i a b j : Nat} (h : endT ds i (a + b) = some j) : ∃ k, endT ds i a = some k ∧ k ≤ j ∧ endT ds k b = some j := by
  rw [endT_add] at h
  cases h1 : endT ds i a with
  | none => rw [h1] at h; cases h
  | some k =>
    rw [h1] at h
    have h2 : endT ds k b = some j := h
    have := endT_bd h2
    exact ⟨k, rfl, by omega, h2⟩
theorem kid_some {ds : List Td} (ht : treeF ds = 0) {i : Nat} (hi : i < ds.length) {j : Nat} (hj : j ≤ kdT ds[i]) : ∃ k, endT ds (i + 1) j = some k ∧ k = kidAt ds i j ∧ i + 1 + j ≤ k ∧ (j < kdT ds[i] → k < ds.length) ∧ k ≤ ds.length := by
  obtain ⟨_, _, he, _⟩ := treeF_zero ht
  obtain ⟨e, h1, h2, h3⟩ := endT_mid he hi
  rw [endT_step ds i 0 hi, Nat.add_zero] at h1
  obtain ⟨d, hd⟩ : ∃ d, kdT ds[i] = j + d := ⟨kdT ds[i] - j, by omega⟩
  rw [hd] at h1
  obtain ⟨k, k1, k2, k3⟩ := endT_part (a := j) (b := d) h1
  have hb := endT_bd k1
  refine ⟨k, k1, by rw [kidAt, k1]; rfl, hb.1, fun hlt => ?_, by omega⟩
  have hb2 := endT_bd k3
  omega
theorem kid_next {ds : List Td} (ht : treeF ds = 0) {i : Nat} (hi : i < ds.length) {j : Nat} (hj : j < kdT ds[i]) : endT ds (kidAt ds i j) 1 = some (kidAt ds i (j + 1)) := by
  obtain ⟨k, k1, rfl, _⟩ := kid_some ht hi (Nat.le_of_lt hj)
  obtain ⟨k', k1', rfl, _⟩ := kid_some ht hi (show j + 1 ≤ kdT ds[i] from hj)
  rw [endT_add, k1] at k1'
  exact k1'
theorem kid_zero (ds : List Td) (i : Nat) : kidAt ds i 0 = i + 1 := by rw [kidAt, endT_zero]; rfl
theorem kidsL_eq {ds : List Td} {i : Nat} (hi : i < ds.length) : kidsL ds i = (List.range (kdT ds[i])).map fun j => ((kidAt ds i j : Nat) : Int) := by
  rw [kidsL, List.getD_eq_getElem?_getD, List.getElem?_eq_getElem hi]; rfl
/-- The first so many. -/
def kidsTo (ds : List Td) (i q : Nat) : List Int := (List.range q).map fun j => ((kidAt ds i j : Nat) : Int)
theorem kidsTo_len (ds : List Td) (i q : Nat) : (kidsTo ds i q).length = q := by simp [kidsTo]
theorem kidsTo_next (ds : List Td) (i q : Nat) : kidsTo ds i (q + 1) = kidsTo ds i q ++ [((kidAt ds i q : Nat) : Int)] := by
  simp [kidsTo, List.range_succ]
/-- What is wrong with a statement and a node of it. -/
def kidE (ds : List Td) (i : Int) : Int := if treeF ds ≠ 0 then treeF ds else if i < 0 ∨ (ds.length : Int) ≤ i then 1 else 0
theorem kidE_zero {ds : List Td} {i : Int} (h : kidE ds i = 0) : treeF ds = 0 ∧ ∃ k : Nat, i = k ∧ k < ds.length := by
  unfold kidE at h
  split at h
  · rename_i h1; exact absurd h h1
  · rename_i h1
    split at h
    · cases h
    · exact ⟨by omega, i.toNat, by omega, by omega⟩
theorem progG_zero : ∀ (ps : List (List Td)) (prev : Int) (k : Nat), (progG prev k ps).2 = 0 → (progG prev k ps).1 = 0
  | [], _, _, _ => rfl
  | t :: r, prev, k, h => by
    rw [progG] at h ⊢
    split at h
    · rename_i h1; exact absurd h h1
    · split at h
      · cases h
      · rename_i h1 h2
        rw [if_neg h1, if_neg h2]
        exact progG_zero r _ _ h
theorem prog_zero (ps : List (List Td)) : (progF ps).2 = 0 → (progF ps).1 = 0 := by
  intro h
  unfold progF at h ⊢
  split at h
  · cases h
  · rename_i h1; rw [if_neg h1]; exact progG_zero ps 0 0 h
def Few8 (ds : List Td) : Prop := ∀ x ∈ ds, x.tx.size ≤ 1000000000000
/-- What a loop over a node's kids keeps. -/
structure KlInv (ds : List Td) (i : Nat) (w : World) (q : Nat) (A : Option Addr) (c : Nat) (wr : World) : Prop where
  b : Below w.heap.size w wr
  o : wr.ownsRow w.heap.size 3 1 (.slice A q c) q (zCells (kidsTo ds i q))
theorem KlInv.start (ds : List Td) (i : Nat) (w : World) : KlInv ds i w 0 none 0 w := ⟨Below.refl _ _, World.ownsRow_nil _ _ _ _⟩
theorem KlInv.later {ds : List Td} {i : Nat} {w : World} {q : Nat} {A : Option Addr} {c : Nat} {wr w' : World} (h : KlInv ds i w q A c wr) (hb : Below wr.heap.size wr w') : KlInv ds i w q A c w' := ⟨belowT h.b (Nat.le_refl _) hb, own_bel h.o hb⟩
theorem KlInv.next {ds : List Td} {i : Nat} {w : World} {q : Nat} {A : Option Addr} {c : Nat} {wr : World} (h : KlInv ds i w q A c wr) {O : Obj} {w2 : World} {g cap2 : Nat} (hown : w2.ownsRow w.heap.size 3 1 (.slice (some ⟨g, 0, none⟩) (q + 1) cap2) (q + 1) (zCells (kidsTo ds i q) ++ [.int .i64 ((kidAt ds i q : Nat) : Int)])) (hgrow : (wr.alloc O).grownBy w2 (Value.slice A q c).ownBlock) : KlInv ds i w (q + 1) (some ⟨g, 0, none⟩) cap2 w2 := by
  have hs := h.b.size
  refine ⟨(h.b.alloc hs O).grown hgrow (by simp; omega) (fun j hj => (World.ownsRow.lt h.o j hj).1), ?_⟩
  rw [kidsTo_next, zCells_app]
  exact hown
theorem KlInv.ints {ds : List Td} {i : Nat} {w : World} {q : Nat} {A : Option Addr} {c : Nat} {wr : World} (h : KlInv ds i w q A c wr) : Ints wr A (kidsTo ds i q) := by
  refine intsO_ints (B := w.heap.size) (n := q) (c := c) ?_
  unfold IntsO
  rw [kidsTo_len]
  exact h.o
theorem kidsTo_all {ds : List Td} {i : Nat} (hi : i < ds.length) : kidsTo ds i (kdT ds[i]) = kidsL ds i := (kidsL_eq hi).symm
/-- Numbers behind an address, from a block on. -/
def IntsF (B : Nat) (w : World) (a : Option Addr) (ws : List Int) : Prop :=
  ∀ i (h : i < ws.length), ∃ b o, a = some ⟨b, o, none⟩ ∧ B ≤ b ∧ b < w.heap.size ∧ w.cell? ⟨b, o + i, none⟩ = some (.int .i64 ws[i])
theorem IntsF.ints {B : Nat} {w : World} {a : Option Addr} {ws : List Int} (h : IntsF B w a ws) : Ints w a ws := by
  intro i hi
  obtain ⟨b, o, e, _, hlt, c1⟩ := h i hi
  exact ⟨b, o, e, hlt, c1⟩
theorem IntsF.below {B : Nat} {w w' : World} {a : Option Addr} {ws : List Int} (h : IntsF B w a ws) (hb : Below w.heap.size w w') : IntsF B w' a ws := by
  intro i hi
  obtain ⟨b, o, e, hB, hlt, c1⟩ := h i hi
  exact ⟨b, o, e, hB, Nat.lt_of_lt_of_le hlt hb.size, (hb.cell (p := ⟨b, _, none⟩) hlt).trans c1⟩
theorem IntsF.down {B B' : Nat} {w : World} {a : Option Addr} {ws : List Int} (h : IntsF B w a ws) (hB' : B' ≤ B) : IntsF B' w a ws := by
  intro i hi
  obtain ⟨b, o, e, hB, hlt, c1⟩ := h i hi
  exact ⟨b, o, e, by omega, hlt, c1⟩
theorem own_far {w : World} {B n m c : Nat} {A : Option Addr} {xs : List Int} (h : w.ownsRow B 3 1 (.slice A m c) n (zCells xs)) (hn : xs.length = n) : IntsF B w A xs := by
  intro j hj
  rcases h.2 with ⟨hv, h0⟩ | ⟨g, c, cur, hv, hB, hg, hnc, _, hsz, htake⟩
  · omega
  · simp only [Value.slice.injEq] at hv
    obtain ⟨rfl, rfl, rfl⟩ := hv
    refine ⟨g, 0, rfl, hB, (Array.getElem?_eq_some_iff.1 hg).1, ?_⟩
    have hk : (zCells xs)[j]? = some (.int .i64 xs[j]) := by simp [zCells, hj]
    rw [← htake] at hk
    rw [List.getElem?_take_of_lt (by omega)] at hk
    rw [Nat.zero_add]
    simp only [World.cell?, hg]
    simpa using hk
theorem KlInv.far {ds : List Td} {i : Nat} {w : World} {q : Nat} {A : Option Addr} {c : Nat} {wr : World} (h : KlInv ds i w q A c wr) : IntsF w.heap.size wr A (kidsTo ds i q) := own_far h.o (kidsTo_len ds i q)
/-- What Kids hands back: its numbers lie from a block on. -/
def KidsFar (ds : List Td) (i : Int) (B : Nat) (e : Ending) (w' : World) : Prop :=
  (kidE ds i ≠ 0 ∧ e = .returned (.tuple #[.slice none 0 0, errN (kidE ds i)])) ∨
  (kidE ds i = 0 ∧ ∃ A c, e = .returned (.tuple #[.slice A (kidsL ds i.toNat).length c, .nilIface]) ∧ IntsF B w' A (kidsL ds i.toNat))
/-- What Kids hands back. -/
def KidsRes (ds : List Td) (i : Int) (e : Ending) (w' : World) : Prop :=
  (kidE ds i ≠ 0 ∧ e = .returned (.tuple #[.slice none 0 0, errN (kidE ds i)])) ∨
  (kidE ds i = 0 ∧ ∃ A c, e = .returned (.tuple #[.slice A (kidsL ds i.toNat).length c, .nilIface]) ∧ Ints w' A (kidsL ds i.toNat))
theorem KidsFar.res {ds : List Td} {i : Int} {B : Nat} {e : Ending} {w' : World} (h : KidsFar ds i B e w') : KidsRes ds i e w' := by
  rcases h with h | ⟨h, A, c, h1, h2⟩
  · exact .inl h
  · exact .inr ⟨h, A, c, h1, h2.ints⟩
end Go.Proofs.YtianemmgaiblgabDoor
