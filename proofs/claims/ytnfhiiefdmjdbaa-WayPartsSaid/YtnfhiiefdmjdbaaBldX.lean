/- strings.Builder where it is the first field of a struct, the struct's block lying anywhere: what is kept is all below a bound but that block. (After the shelf's contracts of a builder in a block of its own.) -/
import Derived.Lib.FrozenHead2
import Derived.Lib.OthersKept
import Derived.Lib.Slices
import Derived.Lib.Walk
import Derived.Laws.Externs
import Derived.Shelf.RegionOpenPlain
import Derived.Test.YtnfhiiefdmjdbaaBase
namespace Go.Proofs.Ytnfhiiefdmjdbaa
open Go Go.RowKit

/-- Below a bound the world is as it was, but for one block. -/
structure BelX (B b : Nat) (w w' : World) : Prop where
  os : w'.os = w.os
  tape : w'.tape = w.tape
  output : w'.output = w.output
  size : w.heap.size ≤ w'.heap.size
  block : ∀ k, k < B → k ≠ b → w'.heap[k]? = w.heap[k]?
section
variable {B b : Nat} {w w' a : World}
theorem BelX.refl (B b : Nat) (w : World) : BelX B b w w := ⟨rfl, rfl, rfl, Nat.le_refl _, fun _ _ _ => rfl⟩
theorem BelX.trans {c : World} (h : BelX B b a w) (k : BelX B b w c) : BelX B b a c :=
  ⟨k.os.trans h.os, k.tape.trans h.tape, k.output.trans h.output, Nat.le_trans h.size k.size, fun i hi hb => (k.block i hi hb).trans (h.block i hi hb)⟩
theorem BelX.drew (h : BelX B b a w) : BelX B b a w.drew := ⟨h.os, h.tape, h.output, h.size, h.block⟩
theorem BelX.of (h : Below B w w') : BelX B b w w' := ⟨h.os, h.tape, h.output, h.size, fun k hk _ => h.block k hk⟩
theorem BelX.below (h : BelX B b w w') (hB : B ≤ b) : Below B w w' := ⟨h.os, h.tape, h.output, h.size, fun k hk => h.block k hk (by omega)⟩
theorem BelX.mono {B' : Nat} (h : BelX B b w w') (hB : B' ≤ B) : BelX B' b w w' := ⟨h.os, h.tape, h.output, h.size, fun k hk => h.block k (by omega)⟩
theorem BelX.alloc (h : BelX B b a w) (hB : B ≤ w.heap.size) (o : Obj) : BelX B b a (w.alloc o) :=
  h.trans (.of ((Below.refl B w).alloc hB o))
theorem BelX.setCell (h : BelX B b a w) {p : Addr} (hp : p.block = b ∨ B ≤ p.block) (u : Value) : BelX B b a (w.setCell p u) :=
  h.trans ⟨rfl, rfl, rfl, by simp [World.setCell], fun k hk hb => Below.heap_setCell _ _ _ _ (by omega)⟩
theorem BelX.grown {row : Option Nat} (h : BelX B b a w) (hg : w.grownBy w' row) (hB : B ≤ w.heap.size) (hr : ∀ k, row = some k → B ≤ k) : BelX B b a w' :=
  h.trans ⟨hg.os, hg.tape, hg.output, hg.size, fun k hk _ => hg.block k (by omega) (fun e => by have := hr k e.symm; omega)⟩
theorem BelX.cell (h : BelX B b w w') {p : Addr} (hp : p.block < B) (hb : p.block ≠ b) : w'.cell? p = w.cell? p := World.cell?_of_block (w := w) (h.block p.block hp hb)
end

/-- Block b is a struct of type T that begins with a builder which holds the bytes bs; its other cells are R. -/
def XAt (T : TypeId) (B b : Nat) (p : Value) (bs R : List Value) (w : World) : Prop :=
  ∃ v, w.heap[b]? = some (.cells (p :: v :: R).toArray T (0, 0)) ∧ w.ownsRowF B 5 1 v bs.length bs ∧ v.ownBlock ≠ some b ∧ (bs = [] → v = .slice none 0 0)
def IsX (T : TypeId) (B b : Nat) (bs R : List Value) (w : World) : Prop :=
  XAt T B b (.pointer none) bs R w ∨ XAt T B b (.pointer (some ⟨b, 0, none⟩)) bs R w

section
variable {T : TypeId} {B b : Nat} {p : Value} {bs R : List Value} {w : World}
theorem XAt.cell0 (h : XAt T B b p bs R w) : w.cell? ⟨b, 0, none⟩ = some p := by
  obtain ⟨v, hb, _⟩ := h
  simp [World.cell?, hb]
theorem XAt.cellR (h : XAt T B b p bs R w) (i : Nat) : w.cell? ⟨b, i + 2, none⟩ = R[i]? := by
  obtain ⟨v, hb, _⟩ := h
  simp [World.cell?, hb]
theorem XAt.shape (h : XAt T B b p bs R w) : w.shape? b = some (T, R.length + 2) := by
  obtain ⟨v, hb, _⟩ := h
  simp [World.shape?, hb]
theorem XAt.lt (h : XAt T B b p bs R w) : b < w.heap.size := by
  obtain ⟨v, hb, _⟩ := h
  rcases Nat.lt_or_ge b w.heap.size with h' | h'
  · exact h'
  · simp [Array.getElem?_eq_none h'] at hb
theorem XAt.used (h : XAt T B b p bs R w) (q : Value) : XAt T B b q bs R (w.setCell ⟨b, 0, none⟩ q) := by
  obtain ⟨v, hb, hown, hne, h0⟩ := h
  refine ⟨v, ?_, ?_, hne, h0⟩
  · simp [World.setCell, Array.getElem?_modify, hb]
  · exact hown.kept (row := some b) ⟨rfl, rfl, rfl, by simp [World.setCell], fun k _ hk => Below.heap_setCell _ _ _ _ (fun e => hk (by simp [e]))⟩ (Or.inr hne)
/-- A store into one of the struct's other cells. -/
theorem XAt.stored (h : XAt T B b p bs R w) (i : Nat) (q : Value) : XAt T B b p bs (R.set i q) (w.setCell ⟨b, i + 2, none⟩ q) := by
  obtain ⟨v, hb, hown, hne, h0⟩ := h
  refine ⟨v, ?_, ?_, hne, h0⟩
  · simp [World.setCell, Array.getElem?_modify, hb]
  · exact hown.kept (row := some b) ⟨rfl, rfl, rfl, by simp [World.setCell], fun k _ hk => Below.heap_setCell _ _ _ _ (fun e => hk (by simp [e]))⟩ (Or.inr hne)
theorem XAt.frozen (h : XAt T B b p bs R w) (i : Nat) : w.frozen? ⟨b, i, none⟩ = false := by
  obtain ⟨v, hb, _⟩ := h
  simp [World.frozen?, hb]
theorem XAt.put {v v' : Value} {bs' : List Value} (hb : w.heap[b]? = some (.cells (p :: v :: R).toArray T (0, 0))) (hown : w.ownsRowF B 5 1 v' bs'.length bs') (hTe : T ≠ 5) (h0 : bs' = [] → v' = .slice none 0 0) :
    XAt T B b p bs' R (w.setCell ⟨b, 1, none⟩ v') := by
  have hne := Lib.ownBlock_neF hown hb hTe
  refine ⟨v', ?_, ?_, hne, h0⟩
  · simp [World.setCell, Array.getElem?_modify, hb]
  · exact hown.kept (row := some b) ⟨rfl, rfl, rfl, by simp [World.setCell], fun k _ hk => Below.heap_setCell _ _ _ _ (fun e => hk (by simp [e]))⟩ (Or.inr hne)
theorem XAt.alloc (h : XAt T B b p bs R w) (o : Obj) : XAt T B b p bs R (w.alloc o) := by
  have hlt := h.lt
  obtain ⟨v, hb, hown, hne, h0⟩ := h
  exact ⟨v, (Lib.alloc_old w o b hlt).trans hb, hown.kept (World.grownBy_alloc w o none) (by cases hv : v.ownBlock <;> simp), hne, h0⟩
/-- What keeps the struct's block and the row that it owns keeps the builder: all below a bound but another block that is no row of bytes. -/
theorem XAt.far {b' : Nat} {w' : World} {c : Array Value} {t : TypeId} {fz : Nat × Nat} (h : XAt T B b p bs R w) (hx : BelX w.heap.size b' w w') (hbb : b ≠ b') (hb' : w.heap[b']? = some (.cells c t fz)) (ht : t ≠ 5) : XAt T B b p bs R w' := by
  have hlt := h.lt
  obtain ⟨v, hb, hown, hne, h0⟩ := h
  refine ⟨v, (hx.block b hlt hbb).trans hb, hown.kept (row := some b') ⟨hx.os, hx.tape, hx.output, hx.size, fun k hk hkb => hx.block k hk (fun e => hkb (by rw [e]))⟩ (Or.inr ?_), hne, h0⟩
  exact Lib.ownBlock_neF hown hb' ht
theorem IsX.at (h : IsX T B b bs R w) : ∃ p, XAt T B b p bs R w := by
  rcases h with h | h
  · exact ⟨_, h⟩
  · exact ⟨_, h⟩
theorem IsX.lt (h : IsX T B b bs R w) : b < w.heap.size := h.at.elim fun _ h => h.lt
theorem IsX.cellR (h : IsX T B b bs R w) (i : Nat) : w.cell? ⟨b, i + 2, none⟩ = R[i]? := h.at.elim fun _ h => h.cellR i
theorem IsX.frozen (h : IsX T B b bs R w) (i : Nat) : w.frozen? ⟨b, i, none⟩ = false := h.at.elim fun _ h => h.frozen i
theorem IsX.alloc (h : IsX T B b bs R w) (o : Obj) : IsX T B b bs R (w.alloc o) := h.imp (·.alloc o) (·.alloc o)
theorem IsX.stored (h : IsX T B b bs R w) (i : Nat) (q : Value) : IsX T B b bs (R.set i q) (w.setCell ⟨b, i + 2, none⟩ q) := h.imp (·.stored i q) (·.stored i q)
theorem IsX.drew (h : IsX T B b bs R w) : IsX T B b bs R w.drew := h
theorem IsX.far {b' : Nat} {w' : World} {c : Array Value} {t : TypeId} {fz : Nat × Nat} (h : IsX T B b bs R w) (hx : BelX w.heap.size b' w w') (hbb : b ≠ b') (hb' : w.heap[b']? = some (.cells c t fz)) (ht : t ≠ 5) : IsX T B b bs R w' := h.imp (·.far hx hbb hb' ht) (·.far hx hbb hb' ht)
/-- A struct that has just been made. -/
theorem IsX.fresh (T : TypeId) (w : World) (R : List Value) : IsX T w.heap.size w.heap.size [] R (w.alloc (.cells (.pointer none :: .slice none 0 0 :: R).toArray T)) :=
  Or.inl ⟨.slice none 0 0, heap_alloc_new w _, World.ownsRowF_nil _ _ _ _, by simp [Value.ownBlock], fun _ => rfl⟩
/-- A struct whose builder has not been used. -/
theorem IsX.unused (T : TypeId) (B b : Nat) (w : World) (R : List Value) (h : w.heap[b]? = some (.cells (.pointer none :: .slice none 0 0 :: R).toArray T (0, 0))) : IsX T B b [] R w :=
  Or.inl ⟨.slice none 0 0, h, World.ownsRowF_nil _ _ _ _, by simp [Value.ownBlock], fun _ => rfl⟩
end

theorem xByte : (Try.prog.info? 5).map (fun i => (i.zero, i.size, i.bytes)) = some (some (.int .u8 0), 1, 1) := by kernel_rfl
theorem xBytes : Try.prog.cellsOf 5 = 1 := by kernel_rfl
theorem xSize : (Try.prog.info? 58).map (·.size) = some 2 := by kernel_rfl

set_option maxHeartbeats 1000000 in
set_option maxRecDepth 100000 in
theorem xcheck_used (b : Nat) (w : World) (h0 : w.cell? ⟨b, 0, none⟩ = some (.pointer (some ⟨b, 0, none⟩))) :
    Calls Try.prog 44 #[.pointer (some ⟨b, 0, none⟩)] w fun e w' => e = .returned (.tuple #[]) ∧ w' = w := by
  obtain ⟨j, hj, _⟩ := Option.map_eq_some_iff.1 xSize
  go_enter Try.func44, Try.ntmps44
  go_wp2
  rw [Lib.run_neq_ptr_same w _ Try.underlying55 hj]
  go_wp2
  go_end0
  exact ⟨rfl, rfl⟩

set_option maxHeartbeats 1000000 in
set_option maxRecDepth 100000 in
theorem xcheck_fresh (T n b : Nat) (w : World) (hl : liesAt Try.prog Try.prog.depth T (n / Try.prog.cellsOf T) 0 58 1 = true) (h0 : w.cell? ⟨b, 0, none⟩ = some (.pointer none)) (hsh : w.shape? b = some (T, n)) (hn : 0 < n) (hfz : w.frozen? ⟨b, 0, none⟩ = false) :
    Calls Try.prog 44 #[.pointer (some ⟨b, 0, none⟩)] w fun e w' => e = .returned (.tuple #[]) ∧ w' = w.setCell ⟨b, 0, none⟩ (.pointer (some ⟨b, 0, none⟩)) := by
  obtain ⟨j, hj, hjs⟩ := Option.map_eq_some_iff.1 xSize
  have HL : Hid (liesAt Try.prog Try.prog.depth T (n / Try.prog.cellsOf T) 0 58 1 = true) := hl
  have HS : Hid (w.shape? b = some (T, n)) := hsh
  have HJ : Hid (j.size ≠ 0) := (show j.size ≠ 0 by rw [hjs]; decide)
  clear hl hsh hjs
  go_enter Try.func44, Try.ntmps44
  go_wp2
  rw [Lib.run_to_unsafe w ⟨b, 0, none⟩ Try.underlying55 Try.underlying103 hj HJ.out HS.out hn]
  simp only [Result.andThen]
  rw [Oper.upon_value]
  go_wp2
  rw [run_callFunc_extern Try.func51 (by kernel_rfl) (by kernel_rfl) (by kernel_rfl) (e := Extern.AbiNoEscape.same) (by kernel_rfl)]
  rw [Lib.run_noEscape]
  simp only [Result.andThen]
  rw [Oper.upon_value]
  go_wp2
  rw [Lib.run_from_unsafe w ⟨b, 0, none⟩ Try.underlying103 Try.underlying55 hj HS.out HL.out]
  simp only [Result.andThen]
  rw [Oper.upon_value]
  go_wp2
  go_end0
  exact ⟨rfl, rfl⟩

/-- A builder's type lies at the beginning of T's cells. -/
def LiesX (T n : Nat) : Prop := liesAt Try.prog Try.prog.depth T (n / Try.prog.cellsOf T) 0 58 1 = true

theorem xcheck_any (T B b : Nat) (bs R : List Value) (w : World) (hl : LiesX T (R.length + 2)) (h : IsX T B b bs R w) :
    Calls Try.prog 44 #[.pointer (some ⟨b, 0, none⟩)] w fun e w' => e = .returned (.tuple #[]) ∧ (XAt T B b (.pointer (some ⟨b, 0, none⟩)) bs R w' ∧ BelX B b w w' ∧ Lib.OthersKept 5 (some b) w w') := by
  rcases h with h | h
  · refine (xcheck_fresh T (R.length + 2) b w hl h.cell0 h.shape (by omega) (h.frozen 0)).mono ?_
    rintro e w' ⟨rfl, rfl⟩
    exact ⟨rfl, h.used _, (BelX.refl B b w).setCell (p := ⟨b, 0, none⟩) (.inl rfl) _, (Lib.OthersKept.refl _ _ w).setCell ⟨b, 0, none⟩ rfl _⟩
  · refine (xcheck_used b w h.cell0).mono ?_
    rintro e w' ⟨rfl, rfl⟩
    exact ⟨rfl, h, BelX.refl B b _, Lib.OthersKept.refl _ _ _⟩
end Go.Proofs.Ytnfhiiefdmjdbaa
