/- strings.Builder where it is the first field of a struct that the call has made: copyCheck, WriteByte, WriteString, String. (After the shelf's contracts of a builder in a block of its own.) -/
import Derived.Lib.FrozenHead2
import Derived.Lib.OthersKept
import Derived.Lib.Slices
import Derived.Lib.Walk
import Derived.Laws.Externs
import Derived.Shelf.RegionOpenPlain
import Derived.Test.YthjnkgjdpdacoaaDoorBase
namespace Go.Proofs.YthjnkgjdpdacoaaDoor
open Go Go.RowKit

/-- Block b is a struct of type T that begins with a builder which holds the bytes bs; its other cells are R. -/
def BAt (T : TypeId) (B b : Nat) (p : Value) (bs R : List Value) (w : World) : Prop :=
  B ≤ b ∧ ∃ v, w.heap[b]? = some (.cells (p :: v :: R).toArray T (0, 0)) ∧ w.ownsRowF B 5 1 v bs.length bs ∧ v.ownBlock ≠ some b
def IsB (T : TypeId) (B b : Nat) (bs R : List Value) (w : World) : Prop :=
  BAt T B b (.pointer none) bs R w ∨ BAt T B b (.pointer (some ⟨b, 0, none⟩)) bs R w

section
variable {T : TypeId} {B b : Nat} {p : Value} {bs R : List Value} {w : World}
theorem BAt.cell0 (h : BAt T B b p bs R w) : w.cell? ⟨b, 0, none⟩ = some p := by
  obtain ⟨_, v, hb, _⟩ := h
  simp [World.cell?, hb]
theorem BAt.shape (h : BAt T B b p bs R w) : w.shape? b = some (T, R.length + 2) := by
  obtain ⟨_, v, hb, _⟩ := h
  simp [World.shape?, hb]
theorem BAt.lt (h : BAt T B b p bs R w) : b < w.heap.size := by
  obtain ⟨_, v, hb, _⟩ := h
  rcases Nat.lt_or_ge b w.heap.size with h' | h'
  · exact h'
  · simp [Array.getElem?_eq_none h'] at hb
theorem BAt.used (h : BAt T B b p bs R w) (q : Value) : BAt T B b q bs R (w.setCell ⟨b, 0, none⟩ q) := by
  obtain ⟨hB, v, hb, hown, hne⟩ := h
  refine ⟨hB, v, ?_, ?_, hne⟩
  · simp [World.setCell, Array.getElem?_modify, hb]
  · exact hown.kept (row := some b) ⟨rfl, rfl, rfl, by simp [World.setCell], fun k _ hk => Below.heap_setCell _ _ _ _ (fun e => hk (by simp [e]))⟩ (Or.inr hne)
theorem BAt.frozen0 (h : BAt T B b p bs R w) : w.frozen? ⟨b, 0, none⟩ = false := by
  obtain ⟨_, v, hb, _⟩ := h
  simp [World.frozen?, hb]
theorem BAt.put {v v' : Value} {bs' : List Value} (hB : B ≤ b) (hb : w.heap[b]? = some (.cells (p :: v :: R).toArray T (0, 0))) (hown : w.ownsRowF B 5 1 v' bs'.length bs') (hTe : T ≠ 5) :
    BAt T B b p bs' R (w.setCell ⟨b, 1, none⟩ v') := by
  have hne := Lib.ownBlock_neF hown hb hTe
  refine ⟨hB, v', ?_, ?_, hne⟩
  · simp [World.setCell, Array.getElem?_modify, hb]
  · exact hown.kept (row := some b) ⟨rfl, rfl, rfl, by simp [World.setCell], fun k _ hk => Below.heap_setCell _ _ _ _ (fun e => hk (by simp [e]))⟩ (Or.inr hne)
theorem BAt.alloc (h : BAt T B b p bs R w) (o : Obj) : BAt T B b p bs R (w.alloc o) := by
  have hlt := h.lt
  obtain ⟨hB, v, hb, hown, hne⟩ := h
  exact ⟨hB, v, (Lib.alloc_old w o b hlt).trans hb, hown.kept (World.grownBy_alloc w o none) (by cases hv : v.ownBlock <;> simp), hne⟩
theorem IsB.at (h : IsB T B b bs R w) : ∃ p, BAt T B b p bs R w := by
  rcases h with h | h
  · exact ⟨_, h⟩
  · exact ⟨_, h⟩
theorem IsB.lt (h : IsB T B b bs R w) : b < w.heap.size := h.at.elim fun _ h => h.lt
theorem IsB.alloc (h : IsB T B b bs R w) (o : Obj) : IsB T B b bs R (w.alloc o) := h.imp (·.alloc o) (·.alloc o)
theorem IsB.drew (h : IsB T B b bs R w) : IsB T B b bs R w.drew := h
theorem IsB.le (h : IsB T B b bs R w) : B ≤ b := h.at.elim fun _ h => h.1
/-- A struct that has just been made. -/
theorem IsB.fresh (T : TypeId) (w : World) (R : List Value) : IsB T w.heap.size w.heap.size [] R (w.alloc (.cells (.pointer none :: .slice none 0 0 :: R).toArray T)) :=
  Or.inl ⟨Nat.le_refl _, .slice none 0 0, heap_alloc_new w _, World.ownsRowF_nil _ _ _ _, by simp [Value.ownBlock]⟩
end

theorem bldByte : (Tryd.prog.info? 5).map (fun i => (i.zero, i.size, i.bytes)) = some (some (.int .u8 0), 1, 1) := by kernel_rfl
theorem bldBytes : Tryd.prog.cellsOf 5 = 1 := by kernel_rfl
theorem bldSize : (Tryd.prog.info? 64).map (·.size) = some 2 := by kernel_rfl

set_option maxHeartbeats 1000000 in
set_option maxRecDepth 100000 in
theorem bcheck_used (b : Nat) (w : World) (h0 : w.cell? ⟨b, 0, none⟩ = some (.pointer (some ⟨b, 0, none⟩))) :
    Calls Tryd.prog 43 #[.pointer (some ⟨b, 0, none⟩)] w fun e w' => e = .returned (.tuple #[]) ∧ w' = w := by
  obtain ⟨j, hj, _⟩ := Option.map_eq_some_iff.1 bldSize
  go_enter Tryd.func43, Tryd.ntmps43
  go_wp2
  rw [Lib.run_neq_ptr_same w _ Tryd.underlying61 hj]
  go_wp2
  go_end0
  exact ⟨rfl, rfl⟩

set_option maxHeartbeats 1000000 in
set_option maxRecDepth 100000 in
theorem bcheck_fresh (T n b : Nat) (w : World) (hl : liesAt Tryd.prog Tryd.prog.depth T (n / Tryd.prog.cellsOf T) 0 64 1 = true) (h0 : w.cell? ⟨b, 0, none⟩ = some (.pointer none)) (hsh : w.shape? b = some (T, n)) (hn : 0 < n) (hfz : w.frozen? ⟨b, 0, none⟩ = false) :
    Calls Tryd.prog 43 #[.pointer (some ⟨b, 0, none⟩)] w fun e w' => e = .returned (.tuple #[]) ∧ w' = w.setCell ⟨b, 0, none⟩ (.pointer (some ⟨b, 0, none⟩)) := by
  obtain ⟨j, hj, hjs⟩ := Option.map_eq_some_iff.1 bldSize
  have HL : Hid (liesAt Tryd.prog Tryd.prog.depth T (n / Tryd.prog.cellsOf T) 0 64 1 = true) := hl
  have HS : Hid (w.shape? b = some (T, n)) := hsh
  have HJ : Hid (j.size ≠ 0) := (show j.size ≠ 0 by rw [hjs]; decide)
  clear hl hsh hjs
  go_enter Tryd.func43, Tryd.ntmps43
  go_wp2
  rw [Lib.run_to_unsafe w ⟨b, 0, none⟩ Tryd.underlying61 Tryd.underlying81 hj HJ.out HS.out hn]
  simp only [Result.andThen]
  rw [Oper.upon_value]
  go_wp2
  rw [run_callFunc_extern Tryd.func49 (by kernel_rfl) (by kernel_rfl) (by kernel_rfl) (e := Extern.AbiNoEscape.same) (by kernel_rfl)]
  rw [Lib.run_noEscape]
  simp only [Result.andThen]
  rw [Oper.upon_value]
  go_wp2
  rw [Lib.run_from_unsafe w ⟨b, 0, none⟩ Tryd.underlying81 Tryd.underlying61 hj HS.out HL.out]
  simp only [Result.andThen]
  rw [Oper.upon_value]
  go_wp2
  go_end0
  exact ⟨rfl, rfl⟩
end Go.Proofs.YthjnkgjdpdacoaaDoor
