/- leastBad of package fill: what stands in its two rows of numbers. -/
import Derived.Test.YtmpfffpkjnjhdabDoorFilC
import Derived.Deep.OwnRows
namespace Go.Proofs.YtmpfffpkjnjhdabDoor
open Go Go.RowKit

theorem intInf : (Tryd.prog.info? 3).map (fun i => (i.zero, i.size, i.bytes)) = some (some (.int .i64 0), 1, 8) := by kernel_rfl
theorem strInf : (Tryd.prog.info? 9).map (fun i => (i.zero, i.size, i.bytes)) = some (some (.string ⟨#[]⟩), 1, 16) := by kernel_rfl

/-- A block of so many cells that may be written. -/
def RowN (w : World) (b n : Nat) : Prop := ∃ cs T, w.heap[b]? = some (.cells cs T (0, 0)) ∧ cs.size = n
theorem RowN.lt {w : World} {b n : Nat} (h : RowN w b n) : b < w.heap.size := by
  obtain ⟨cs, T, h, _⟩ := h
  rcases Nat.lt_or_ge b w.heap.size with h' | h'
  · exact h'
  · simp [Array.getElem?_eq_none h'] at h
theorem RowN.cell {w : World} {b n i : Nat} (h : RowN w b n) (hi : i < n) : ∃ y, w.cell? ⟨b, i, none⟩ = some y := by
  obtain ⟨cs, T, h, hs⟩ := h
  refine ⟨cs[i], ?_⟩
  simp [World.cell?, h]
theorem RowN.frozen {w : World} {b n i : Nat} (h : RowN w b n) : w.frozen? ⟨b, i, none⟩ = false := by
  obtain ⟨cs, T, h, hs⟩ := h
  simp [World.frozen?, h]
theorem RowN.kept {w w' : World} {b n : Nat} (h : RowN w b n) (hb : w'.heap[b]? = w.heap[b]?) : RowN w' b n := by
  obtain ⟨cs, T, h, hs⟩ := h
  exact ⟨cs, T, hb.trans h, hs⟩
theorem RowN.set {w : World} {b n c i : Nat} {v : Value} (h : RowN w b n) : RowN (w.setCell ⟨c, i, none⟩ v) b n := by
  by_cases e : c = b
  · subst e
    obtain ⟨cs, T, h, hs⟩ := h
    exact ⟨cs.setIfInBounds i v, T, by simp [World.setCell, Array.getElem?_modify, h], by simpa using hs⟩
  · exact h.kept (Below.heap_setCell _ _ _ _ (Ne.symm e))
theorem made_zero {n j : Nat} (z : Value) (h : j < n) : (madeCells #[z] n)[j]? = some z := by
  simp [madeCells, h, Nat.mod_one]

/-- From a word on it is known how bad the words are at least, and how many stand in the first line then. -/
structure Lst (wd : Nat) (ws : List ByteArray) (bL bF k : Nat) (w : World) : Prop where
  ne : bL ≠ bF
  rl : RowN w bL (ws.length + 1)
  rf : RowN w bF ws.length
  cl : ∀ j, k ≤ j → j ≤ ws.length → w.cell? ⟨bL, j, none⟩ = some (.int .i64 ((best wd (ws.drop j) : Nat) : Int))
  cf : ∀ j, k ≤ j → j < ws.length → w.cell? ⟨bF, j, none⟩ = some (.int .i64 ((agF wd (ws.drop j) : Nat) : Int))
theorem Lst.kept {wd : Nat} {ws : List ByteArray} {bL bF k : Nat} {w w' : World} (h : Lst wd ws bL bF k w) (h1 : w'.heap[bL]? = w.heap[bL]?) (h2 : w'.heap[bF]? = w.heap[bF]?) : Lst wd ws bL bF k w' where
  ne := h.ne
  rl := h.rl.kept h1
  rf := h.rf.kept h2
  cl := fun j a b => (World.cell?_of_block (w := w) (a := ⟨bL, j, none⟩) h1).trans (h.cl j a b)
  cf := fun j a b => (World.cell?_of_block (w := w) (a := ⟨bF, j, none⟩) h2).trans (h.cf j a b)
/-- The rows as they are made. -/
theorem Lst.made (wd : Nat) (ws : List ByteArray) (w : World) :
    Lst wd ws w.heap.size (w.heap.size + 1) ws.length ((w.alloc (.cells (madeCells #[.int .i64 0] (ws.length + 1)) 3)).alloc (.cells (madeCells #[.int .i64 0] ws.length) 3)) := by
  have h1 : ((w.alloc (.cells (madeCells #[.int .i64 0] (ws.length + 1)) 3)).alloc (.cells (madeCells #[.int .i64 0] ws.length) 3)).heap[w.heap.size]? = some (.cells (madeCells #[.int .i64 0] (ws.length + 1)) 3 (0, 0)) :=
    (Below.heap_alloc _ _ _ (by simp)).trans (heap_alloc_new w _)
  have h2 : ((w.alloc (.cells (madeCells #[.int .i64 0] (ws.length + 1)) 3)).alloc (.cells (madeCells #[.int .i64 0] ws.length) 3)).heap[w.heap.size + 1]? = some (.cells (madeCells #[.int .i64 0] ws.length) 3 (0, 0)) := by
    have := heap_alloc_new (w.alloc (.cells (madeCells #[.int .i64 0] (ws.length + 1)) 3)) (.cells (madeCells #[.int .i64 0] ws.length) 3)
    simpa using this
  refine ⟨by omega, ⟨_, _, h1, size_madeCells _ _⟩, ⟨_, _, h2, size_madeCells _ _⟩, fun j a b => ?_, fun j a b => by omega⟩
  obtain rfl : j = ws.length := by omega
  have : best wd (ws.drop ws.length) = 0 := by rw [List.drop_length]; rfl
  rw [this]
  simp only [World.cell?, h1]
  exact made_zero _ (by omega)
/-- .. and, of the word ahead, what so many words in the first line give. -/
structure Mid (wd : Nat) (ws : List ByteArray) (bL bF i m : Nat) (w : World) : Prop where
  l : Lst wd ws bL bF (i + 1) w
  c : 1 ≤ m → w.cell? ⟨bL, i, none⟩ = some (.int .i64 ((mnTo (fOf wd (ws.drop i)) m : Nat) : Int)) ∧ w.cell? ⟨bF, i, none⟩ = some (.int .i64 ((agTo (fOf wd (ws.drop i)) m : Nat) : Int))
theorem Mid.kept {wd : Nat} {ws : List ByteArray} {bL bF i m : Nat} {w w' : World} (h : Mid wd ws bL bF i m w) (h1 : w'.heap[bL]? = w.heap[bL]?) (h2 : w'.heap[bF]? = w.heap[bF]?) : Mid wd ws bL bF i m w' where
  l := h.l.kept h1 h2
  c := fun hm => ⟨(World.cell?_of_block (w := w) (a := ⟨bL, i, none⟩) h1).trans (h.c hm).1, (World.cell?_of_block (w := w) (a := ⟨bF, i, none⟩) h2).trans (h.c hm).2⟩
theorem Mid.start {wd : Nat} {ws : List ByteArray} {bL bF i : Nat} {w : World} (h : Lst wd ws bL bF (i + 1) w) : Mid wd ws bL bF i 0 w := ⟨h, fun hm => by omega⟩
theorem Mid.skip {wd : Nat} {ws : List ByteArray} {bL bF i m : Nat} {w : World} (h : Mid wd ws bL bF i m w) (h1 : ¬ (m = 0 ∨ fOf wd (ws.drop i) (m + 1) ≤ mnTo (fOf wd (ws.drop i)) m)) : Mid wd ws bL bF i (m + 1) w := by
  refine ⟨h.l, fun _ => ?_⟩
  rw [mnTo, agTo, if_neg h1, if_neg h1]
  exact h.c (by omega)
theorem Mid.put {wd : Nat} {ws : List ByteArray} {bL bF i m : Nat} {w : World} (h : Mid wd ws bL bF i m w) (hi : i < ws.length) (h1 : m = 0 ∨ fOf wd (ws.drop i) (m + 1) ≤ mnTo (fOf wd (ws.drop i)) m) :
    Mid wd ws bL bF i (m + 1) ((w.setCell ⟨bL, i, none⟩ (.int .i64 ((fOf wd (ws.drop i) (m + 1) : Nat) : Int))).setCell ⟨bF, i, none⟩ (.int .i64 ((m : Int) + 1))) := by
  have ne := h.l.ne
  refine ⟨⟨ne, h.l.rl.set.set, h.l.rf.set.set, fun j a b => ?_, fun j a b => ?_⟩, fun _ => ?_⟩
  · exact (cso (.inl (Ne.symm ne))).trans ((cso (.inr (by omega))).trans (h.l.cl j a b))
  · exact (cso (.inr (by omega))).trans ((cso (.inl ne)).trans (h.l.cf j a b))
  · rw [mnTo, agTo, if_pos h1, if_pos h1]
    obtain ⟨y1, e1⟩ := h.l.rl.cell (i := i) (by omega)
    obtain ⟨y2, e2⟩ := h.l.rf.cell (i := i) hi
    exact ⟨(cso (.inl (Ne.symm ne))).trans (css e1), css ((cso (.inl ne)).trans e2)⟩
theorem Mid.done {wd : Nat} {ws : List ByteArray} {bL bF i m : Nat} {w : World} (h : Mid wd ws bL bF i m w) (hi : i < ws.length) (hm : m = ws.length - i) : Lst wd ws bL bF i w := by
  have hne : ws.drop i ≠ [] := fun e => by
    have := congrArg List.length e
    rw [List.length_drop, List.length_nil] at this
    omega
  obtain ⟨c1, c2⟩ := h.c (by omega)
  refine ⟨h.l.ne, h.l.rl, h.l.rf, fun j a b => ?_, fun j a b => ?_⟩
  · by_cases e : j = i
    · subst e
      rw [best_eq wd hne, List.length_drop, ← hm]
      exact c1
    · exact h.l.cl j (by omega) b
  · by_cases e : j = i
    · subst e
      rw [agF, List.length_drop, ← hm]
      exact c2
    · exact h.l.cf j (by omega) b
theorem fOf_at (wd : Nat) (ws : List ByteArray) (i k : Nat) : fOf wd (ws.drop i) k = bd (ln ((ws.drop i).take k)) wd (k == ws.length - i) + best wd (ws.drop (i + k)) := by
  rw [fOf, List.drop_drop, List.length_drop]
theorem Lst.next {wd : Nat} {ws : List ByteArray} {bL bF i m : Nat} {w : World} (h : Mid wd ws bL bF i m w) (hm : i + (m + 1) ≤ ws.length) : w.cell? ⟨bL, i + (m + 1), none⟩ = some (.int .i64 ((best wd (ws.drop (i + (m + 1))) : Nat) : Int)) := h.l.cl _ (by omega) hm
end Go.Proofs.YtmpfffpkjnjhdabDoor
