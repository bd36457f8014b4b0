/- Rows of words and of numbers in memory: pieces of them; rows that a call has made and owns. -/
import Derived.Test.YtianemmgaiblgabDoorFilM
import Derived.Test.YtianemmgaiblgabDoorIntB
import Derived.Deep.OwnRows
import Derived.Deep.AppendLies
import Derived.OwnWalk
import Derived.Lib.SmallJoins
namespace Go.Proofs.YtianemmgaiblgabDoor
open Go Go.RowKit
set_option maxRecDepth 100000

/-- Words, the first so many. -/
theorem sl_head (a : Option Addr) (n c k : Nat) (hk : k ≤ c) (W : World) :
    (Instr.slice 22 (.slice a n c) none (some (.int .i64 (k : Int))) none).run Tryd.prog W = .ok (.slice a k c) W := by
  rw [run_slice_h W 22 a n c Tryd.underlying22 .i64 (k : Int) (by omega) (by omega)]
  have hz : (sizeOf (Tryd.prog.elem 22)).run Tryd.prog W = .ok 1 W := by kernel_rfl
  rw [hz]
  simp [Result.andThen, sliced, Addr.add]
/-- Words, those from a place on. -/
theorem sl_tail {B : Nat} {w : World} {b o c k : Nat} {ws : List ByteArray} (h : WdsB B w (some ⟨b, o, none⟩) ws) (hk : k ≤ ws.length) (hc : ws.length ≤ c) :
    ∃ A, (∀ W : World, (Instr.slice 22 (.slice (some ⟨b, o, none⟩) ws.length c) (some (.int .i64 (k : Int))) none none).run Tryd.prog W = .ok (.slice A (ws.drop k).length (c - k)) W) ∧ WdsB B w A (ws.drop k) := by
  refine ⟨if c = k then some ⟨b, o, none⟩ else some ⟨b, o + k, none⟩, fun W => ?_, ?_⟩
  · rw [run_slice_l W 22 _ ws.length c Tryd.underlying22 .i64 (k : Int) (by omega) (by omega)]
    have hz : (sizeOf (Tryd.prog.elem 22)).run Tryd.prog W = .ok 1 W := by kernel_rfl
    rw [hz]
    have ha : (⟨b, o, none⟩ : Addr).add k = ⟨b, o + k, none⟩ := by
      unfold Addr.add
      split
      · rename_i h; subst h; rfl
      · rfl
    simp [Result.andThen, sliced, ha]
  · by_cases e : c = k
    · have : ws.drop k = [] := List.drop_eq_nil_of_le (by omega)
      rw [this]
      exact WdsB.nil _ _ _
    · rw [if_neg e]
      exact h.drop k
/-- Words, some of them. -/
theorem sl_mid (b o n c i k : Nat) (hi : i < c) (hk : i + k ≤ c) (W : World) :
    (Instr.slice 22 (.slice (some ⟨b, o, none⟩) n c) (some (.int .i64 (i : Int))) (some (.int .i64 ((i : Int) + (k : Int)))) none).run Tryd.prog W = .ok (.slice (some ⟨b, o + i, none⟩) k (c - i)) W := by
  rw [run_slice_lh W 22 _ n c Tryd.underlying22 .i64 .i64 (i : Int) ((i : Int) + (k : Int)) (by omega) (by omega) (by omega)]
  have hz : (sizeOf (Tryd.prog.elem 22)).run Tryd.prog W = .ok 1 W := by kernel_rfl
  rw [hz]
  have ha : (⟨b, o, none⟩ : Addr).add i = ⟨b, o + i, none⟩ := by
    unfold Addr.add
    split
    · rename_i h; subst h; rfl
    · rfl
  have e1 : ((i : Int) + (k : Int)).toNat = i + k := by omega
  have e2 : ¬ c = i := by omega
  have e3 : i + k - i = k := by omega
  simp [Result.andThen, sliced, ha, e1, e2, e3]

theorem intInf : (Tryd.prog.info? 3).map (fun i => (i.zero, i.size, i.bytes)) = some (some (.int .i64 0), 1, 8) := by kernel_rfl
theorem strInf : (Tryd.prog.info? 9).map (fun i => (i.zero, i.size, i.bytes)) = some (some (.string ⟨#[]⟩), 1, 16) := by kernel_rfl

/-- A block of so many cells that may be written. -/
def RowN (w : World) (b n : Nat) : Prop := ∃ cs T, w.heap[b]? = some (.cells cs T (0, 0)) ∧ cs.size = n
theorem RowN.lt {w : World} {b n : Nat} (h : RowN w b n) : b < w.heap.size := by
  obtain ⟨cs, T, h, _⟩ := h
  rcases Nat.lt_or_ge b w.heap.size with h' | h'
  · exact h'
  · simp [Array.getElem?_eq_none h'] at h
theorem RowN.cell {w : World} {b n i : Nat} (h : RowN w b n) (hi : i < n) : ∃ y, w.cell? ⟨b, i, none⟩ = some y := by
  obtain ⟨cs, T, h, hs⟩ := h
  refine ⟨cs[i], ?_⟩
  simp [World.cell?, h]
theorem RowN.frozen {w : World} {b n i : Nat} (h : RowN w b n) : w.frozen? ⟨b, i, none⟩ = false := by
  obtain ⟨cs, T, h, hs⟩ := h
  simp [World.frozen?, h]
theorem RowN.kept {w w' : World} {b n : Nat} (h : RowN w b n) (hb : w'.heap[b]? = w.heap[b]?) : RowN w' b n := by
  obtain ⟨cs, T, h, hs⟩ := h
  exact ⟨cs, T, hb.trans h, hs⟩
theorem RowN.set {w : World} {b n c i : Nat} {v : Value} (h : RowN w b n) : RowN (w.setCell ⟨c, i, none⟩ v) b n := by
  by_cases e : c = b
  · subst e
    obtain ⟨cs, T, h, hs⟩ := h
    exact ⟨cs.setIfInBounds i v, T, by simp [World.setCell, Array.getElem?_modify, h], by simpa using hs⟩
  · exact h.kept (Below.heap_setCell _ _ _ _ (Ne.symm e))
theorem made_zero {n j : Nat} (z : Value) (h : j < n) : (madeCells #[z] n)[j]? = some z := by
  simp [madeCells, h, Nat.mod_one]

def numCells (ks : List Nat) : List Value := ks.map fun (k : Nat) => .int .i64 (k : Int)
theorem numCells_app (a b : List Nat) : numCells (a ++ b) = numCells a ++ numCells b := by simp [numCells]
/-- Numbers that a call has gathered in a row of its own. -/
def NumsO (B : Nat) (v : Value) (ks : List Nat) (w : World) : Prop := w.ownsRow B 3 1 v ks.length (numCells ks)

theorem belDraw {B : Nat} {w w' : World} (h : Below B w w') (n : Nat) : Below B w (w'.drewN n) := h.trans ⟨rfl, rfl, rfl, Nat.le_refl _, fun _ _ => rfl⟩
theorem belSet2 {B : Nat} {w w' : World} {b1 o1 b2 o2 : Nat} {v1 v2 : Value} (h : Below B w w') (h1 : B ≤ b1) (h2 : B ≤ b2) : Below B w ((w'.setCell ⟨b1, o1, none⟩ v1).setCell ⟨b2, o2, none⟩ v2) :=
  (h.setCell (p := ⟨b1, o1, none⟩) h1 _).setCell (p := ⟨b2, o2, none⟩) h2 _
theorem numsO_cell {B : Nat} {w : World} {A : Option Addr} {n c : Nat} {ks : List Nat} (h : NumsO B (.slice A n c) ks w) (j : Nat) (hj : j < ks.length) : ∃ g, A = some ⟨g, 0, none⟩ ∧ g < w.heap.size ∧ w.cell? ⟨g, j, none⟩ = some (.int .i64 ((ks[j] : Nat) : Int)) := by
  rcases h.2 with ⟨hv, h0⟩ | ⟨g, c, cur, hv, _, hg, hnc, _, hsz, htake⟩
  · omega
  · simp only [Value.slice.injEq] at hv
    obtain ⟨rfl, rfl, rfl⟩ := hv
    refine ⟨g, rfl, (Array.getElem?_eq_some_iff.1 hg).1, ?_⟩
    have hk : (numCells ks)[j]? = some (.int .i64 ((ks[j] : Nat) : Int)) := by simp [numCells, hj]
    rw [← htake] at hk
    rw [List.getElem?_take_of_lt (by omega)] at hk
    simp only [World.cell?, hg]
    simpa using hk
theorem own_bel {w w' : World} {B e size n : Nat} {v : Value} {xs : List Value} (h : w.ownsRow B e size v n xs) (hb : Below w.heap.size w w') : w'.ownsRow B e size v n xs := by
  refine ⟨h.1, ?_⟩
  rcases h.2 with h0 | ⟨g, c, cur, rfl, hB, hg, rest⟩
  · exact .inl h0
  · exact .inr ⟨g, c, cur, rfl, hB, (hb.block g (Array.getElem?_eq_some_iff.1 hg).1).trans hg, rest⟩
def strCells (xs : List ByteArray) : List Value := xs.map fun x => .string x
theorem strCells_app (a b : List ByteArray) : strCells (a ++ b) = strCells a ++ strCells b := by simp [strCells]
/-- Words that a call has gathered in a row of its own. -/
def StrsO (B : Nat) (v : Value) (xs : List ByteArray) (w : World) : Prop := w.ownsRow B 9 1 v xs.length (strCells xs)
theorem strsO_wds {B : Nat} {w : World} {A : Option Addr} {n c : Nat} {xs : List ByteArray} (h : StrsO B (.slice A n c) xs w) : Wds w A xs := by
  intro j hj
  rcases h.2 with ⟨hv, h0⟩ | ⟨g, c, cur, hv, _, hg, hnc, _, hsz, htake⟩
  · omega
  · simp only [Value.slice.injEq] at hv
    obtain ⟨rfl, rfl, rfl⟩ := hv
    refine ⟨g, 0, rfl, (Array.getElem?_eq_some_iff.1 hg).1, ?_⟩
    have hk : (strCells xs)[j]? = some (.string xs[j]) := by simp [strCells, hj]
    rw [← htake] at hk
    rw [List.getElem?_take_of_lt (by omega)] at hk
    rw [Nat.zero_add]
    simp only [World.cell?, hg]
    simpa using hk

theorem own_blk {w : World} {B e size n k : Nat} {v : Value} {xs : List Value} (h : w.ownsRow B e size v n xs) (hk : v.ownBlock = some k) : ∃ cur, w.heap[k]? = some (.cells cur e (0, 0)) := by
  rcases h.2 with ⟨rfl, _⟩ | ⟨g, c, cur, rfl, _, hg, _⟩
  · simp [Value.ownBlock] at hk
  · simp only [Value.ownBlock, Option.some.injEq] at hk
    subst hk
    exact ⟨cur, hg⟩
/-- Rows of two kinds lie in two blocks: what one grows by leaves the other. -/
theorem own_two {w w' : World} {B B' e e' size size' n n' : Nat} {v v' : Value} {xs xs' : List Value} (h : w.ownsRow B e size v n xs) (h' : w.ownsRow B' e' size' v' n' xs') (he : e ≠ e') (hg : w.grownBy w' v'.ownBlock) : w'.ownsRow B e size v n xs := by
  refine h.kept hg ?_
  cases hv : v.ownBlock with
  | none => exact .inl rfl
  | some k =>
    refine .inr fun e0 => ?_
    obtain ⟨c1, h1⟩ := own_blk h hv
    obtain ⟨c2, h2⟩ := own_blk h' e0.symm
    rw [h1] at h2
    cases h2
    exact he rfl
end Go.Proofs.YtianemmgaiblgabDoor
