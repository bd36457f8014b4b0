/- strings.Builder inside a struct, behind other cells of it: what is kept is all below a bound but the struct's block. (After the shelf's contracts of a builder in a block of its own.) -/
import Derived.Test.YtmbeamcjpidnjaaGreatDoorBldXs
namespace Go.Proofs.YtmbeamcjpidnjaaGreatDoor
open Go Go.RowKit

/-- Block b is a struct of type T: the cells pre, then a builder which holds the bytes bs, then the cells R. -/
def OAt (T : TypeId) (B b : Nat) (pre : List Value) (p : Value) (bs R : List Value) (w : World) : Prop :=
  ∃ v, w.heap[b]? = some (.cells (pre ++ p :: v :: R).toArray T (0, 0)) ∧ w.ownsRowF B 5 1 v bs.length bs ∧ v.ownBlock ≠ some b ∧ (bs = [] → v = .slice none 0 0)
def IsO (T : TypeId) (B b : Nat) (pre bs R : List Value) (w : World) : Prop :=
  OAt T B b pre (.pointer none) bs R w ∨ OAt T B b pre (.pointer (some ⟨b, pre.length, none⟩)) bs R w

section
variable {T : TypeId} {B b : Nat} {p v : Value} {pre bs R : List Value} {w : World}
theorem ocell (hb : w.heap[b]? = some (.cells (pre ++ p :: v :: R).toArray T (0, 0))) (i : Nat) : w.cell? ⟨b, i, none⟩ = (pre ++ p :: v :: R)[i]? := by
  simp [World.cell?, hb]
theorem ocell0 (hb : w.heap[b]? = some (.cells (pre ++ p :: v :: R).toArray T (0, 0))) : w.cell? ⟨b, pre.length, none⟩ = some p := by
  rw [ocell hb, List.getElem?_append_right (Nat.le_refl _), Nat.sub_self]; rfl
theorem ocell1 (hb : w.heap[b]? = some (.cells (pre ++ p :: v :: R).toArray T (0, 0))) : w.cell? ⟨b, pre.length + 1, none⟩ = some v := by
  rw [ocell hb, List.getElem?_append_right (Nat.le_add_right _ _), Nat.add_sub_cancel_left]; rfl
theorem olt (hb : w.heap[b]? = some (.cells (pre ++ p :: v :: R).toArray T (0, 0))) : b < w.heap.size := by
  rcases Nat.lt_or_ge b w.heap.size with h' | h'
  · exact h'
  · simp [Array.getElem?_eq_none h'] at hb
theorem OAt.cell0 (h : OAt T B b pre p bs R w) : w.cell? ⟨b, pre.length, none⟩ = some p := by
  obtain ⟨v, hb, _⟩ := h
  exact ocell0 hb
theorem OAt.cellP (h : OAt T B b pre p bs R w) (i : Nat) (hi : i < pre.length) : w.cell? ⟨b, i, none⟩ = pre[i]? := by
  obtain ⟨v, hb, _⟩ := h
  rw [ocell hb, List.getElem?_append_left hi]
theorem OAt.cellR (h : OAt T B b pre p bs R w) (i : Nat) : w.cell? ⟨b, pre.length + (i + 2), none⟩ = R[i]? := by
  obtain ⟨v, hb, _⟩ := h
  rw [ocell hb, List.getElem?_append_right (Nat.le_add_right _ _), Nat.add_sub_cancel_left]; rfl
theorem OAt.shape (h : OAt T B b pre p bs R w) : w.shape? b = some (T, pre.length + (R.length + 2)) := by
  obtain ⟨v, hb, _⟩ := h
  simp [World.shape?, hb]
theorem OAt.lt (h : OAt T B b pre p bs R w) : b < w.heap.size := by
  obtain ⟨v, hb, _⟩ := h
  exact olt hb
theorem oset (hb : w.heap[b]? = some (.cells (pre ++ p :: v :: R).toArray T (0, 0))) (i : Nat) (q : Value) : (w.setCell ⟨b, i, none⟩ q).heap[b]? = some (.cells ((pre ++ p :: v :: R).set i q).toArray T (0, 0)) := by
  simp [World.setCell, Array.getElem?_modify, hb]
theorem OAt.used (h : OAt T B b pre p bs R w) (q : Value) : OAt T B b pre q bs R (w.setCell ⟨b, pre.length, none⟩ q) := by
  obtain ⟨v, hb, hown, hne, h0⟩ := h
  refine ⟨v, ?_, ?_, hne, h0⟩
  · rw [oset hb, List.set_append_right _ _ (Nat.le_refl _), Nat.sub_self]; rfl
  · exact hown.kept (row := some b) ⟨rfl, rfl, rfl, by simp [World.setCell], fun k _ hk => Below.heap_setCell _ _ _ _ (fun e => hk (by simp [e]))⟩ (Or.inr hne)
/-- A store into one of the struct's other cells. -/
theorem OAt.stored (h : OAt T B b pre p bs R w) (i : Nat) (q : Value) : OAt T B b pre p bs (R.set i q) (w.setCell ⟨b, pre.length + (i + 2), none⟩ q) := by
  obtain ⟨v, hb, hown, hne, h0⟩ := h
  refine ⟨v, ?_, ?_, hne, h0⟩
  · rw [oset hb, List.set_append_right _ _ (Nat.le_add_right _ _), Nat.add_sub_cancel_left]; rfl
  · exact hown.kept (row := some b) ⟨rfl, rfl, rfl, by simp [World.setCell], fun k _ hk => Below.heap_setCell _ _ _ _ (fun e => hk (by simp [e]))⟩ (Or.inr hne)
theorem OAt.frozen (h : OAt T B b pre p bs R w) (i : Nat) : w.frozen? ⟨b, i, none⟩ = false := by
  obtain ⟨v, hb, _⟩ := h
  simp [World.frozen?, hb]
theorem OAt.put {v' : Value} {bs' : List Value} (hb : w.heap[b]? = some (.cells (pre ++ p :: v :: R).toArray T (0, 0))) (hown : w.ownsRowF B 5 1 v' bs'.length bs') (hTe : T ≠ 5) (h0 : bs' = [] → v' = .slice none 0 0) :
    OAt T B b pre p bs' R (w.setCell ⟨b, pre.length + 1, none⟩ v') := by
  have hne := Lib.ownBlock_neF hown hb hTe
  refine ⟨v', ?_, ?_, hne, h0⟩
  · rw [oset hb, List.set_append_right _ _ (Nat.le_add_right _ _), Nat.add_sub_cancel_left]; rfl
  · exact hown.kept (row := some b) ⟨rfl, rfl, rfl, by simp [World.setCell], fun k _ hk => Below.heap_setCell _ _ _ _ (fun e => hk (by simp [e]))⟩ (Or.inr hne)
theorem OAt.alloc (h : OAt T B b pre p bs R w) (o : Obj) : OAt T B b pre p bs R (w.alloc o) := by
  have hlt := h.lt
  obtain ⟨v, hb, hown, hne, h0⟩ := h
  exact ⟨v, (Lib.alloc_old w o b hlt).trans hb, hown.kept (World.grownBy_alloc w o none) (by cases hv : v.ownBlock <;> simp), hne, h0⟩
theorem OAt.below {w' : World} (h : OAt T B b pre p bs R w) (hx : Below w.heap.size w w') : OAt T B b pre p bs R w' := by
  have hlt := h.lt
  obtain ⟨v, hb, hown, hne, h0⟩ := h
  exact ⟨v, (hx.block b hlt).trans hb, hown.kept (row := none) ⟨hx.os, hx.tape, hx.output, hx.size, fun k hk _ => hx.block k hk⟩ (by cases hv : v.ownBlock <;> simp), hne, h0⟩
theorem IsO.at (h : IsO T B b pre bs R w) : ∃ p, OAt T B b pre p bs R w := by
  rcases h with h | h
  · exact ⟨_, h⟩
  · exact ⟨_, h⟩
theorem IsO.lt (h : IsO T B b pre bs R w) : b < w.heap.size := h.at.elim fun _ h => h.lt
theorem IsO.cellP (h : IsO T B b pre bs R w) (i : Nat) (hi : i < pre.length) : w.cell? ⟨b, i, none⟩ = pre[i]? := h.at.elim fun _ h => h.cellP i hi
theorem IsO.cellR (h : IsO T B b pre bs R w) (i : Nat) : w.cell? ⟨b, pre.length + (i + 2), none⟩ = R[i]? := h.at.elim fun _ h => h.cellR i
theorem IsO.frozen (h : IsO T B b pre bs R w) (i : Nat) : w.frozen? ⟨b, i, none⟩ = false := h.at.elim fun _ h => h.frozen i
theorem IsO.alloc (h : IsO T B b pre bs R w) (o : Obj) : IsO T B b pre bs R (w.alloc o) := h.imp (·.alloc o) (·.alloc o)
theorem IsO.below {w' : World} (h : IsO T B b pre bs R w) (hx : Below w.heap.size w w') : IsO T B b pre bs R w' := h.imp (·.below hx) (·.below hx)
theorem IsO.stored (h : IsO T B b pre bs R w) (i : Nat) (q : Value) : IsO T B b pre bs (R.set i q) (w.setCell ⟨b, pre.length + (i + 2), none⟩ q) := h.imp (·.stored i q) (·.stored i q)
theorem IsO.drew (h : IsO T B b pre bs R w) : IsO T B b pre bs R w.drew := h
/-- A struct whose builder has not been used. -/
theorem IsO.unused (T : TypeId) (B b : Nat) (w : World) (pre R : List Value) (h : w.heap[b]? = some (.cells (pre ++ .pointer none :: .slice none 0 0 :: R).toArray T (0, 0))) : IsO T B b pre [] R w :=
  Or.inl ⟨.slice none 0 0, h, World.ownsRowF_nil _ _ _ _, by simp [Value.ownBlock], fun _ => rfl⟩
end

set_option maxHeartbeats 1000000 in
set_option maxRecDepth 100000 in
theorem ocheck_used (b o : Nat) (w : World) (h0 : w.cell? ⟨b, o, none⟩ = some (.pointer (some ⟨b, o, none⟩))) :
    Calls Tryz.prog 65 #[.pointer (some ⟨b, o, none⟩)] w fun e w' => e = .returned (.tuple #[]) ∧ w' = w := by
  obtain ⟨j, hj, _⟩ := Option.map_eq_some_iff.1 xSize
  go_enter Tryz.func65, Tryz.ntmps65
  go_wp2
  rw [Lib.run_neq_ptr_same w _ Tryz.underlying64 hj]
  go_wp2
  go_end0
  exact ⟨rfl, rfl⟩

set_option maxHeartbeats 1000000 in
set_option maxRecDepth 100000 in
theorem ocheck_fresh (T n b o : Nat) (w : World) (hl : liesAt Tryz.prog Tryz.prog.depth T (n / Tryz.prog.cellsOf T) o 67 1 = true) (h0 : w.cell? ⟨b, o, none⟩ = some (.pointer none)) (hsh : w.shape? b = some (T, n)) (hn : o < n) (hfz : w.frozen? ⟨b, o, none⟩ = false) :
    Calls Tryz.prog 65 #[.pointer (some ⟨b, o, none⟩)] w fun e w' => e = .returned (.tuple #[]) ∧ w' = w.setCell ⟨b, o, none⟩ (.pointer (some ⟨b, o, none⟩)) := by
  obtain ⟨j, hj, hjs⟩ := Option.map_eq_some_iff.1 xSize
  have HL : Hid (liesAt Tryz.prog Tryz.prog.depth T (n / Tryz.prog.cellsOf T) o 67 1 = true) := hl
  have HS : Hid (w.shape? b = some (T, n)) := hsh
  have HJ : Hid (j.size ≠ 0) := (show j.size ≠ 0 by rw [hjs]; decide)
  clear hl hsh hjs
  go_enter Tryz.func65, Tryz.ntmps65
  go_wp2
  rw [Lib.run_to_unsafe w ⟨b, o, none⟩ Tryz.underlying64 Tryz.underlying149 hj HJ.out HS.out hn]
  simp only [Result.andThen]
  rw [Oper.upon_value]
  go_wp2
  rw [run_callFunc_extern Tryz.func96 (by kernel_rfl) (by kernel_rfl) (by kernel_rfl) (e := Extern.AbiNoEscape.same) (by kernel_rfl)]
  rw [Lib.run_noEscape]
  simp only [Result.andThen]
  rw [Oper.upon_value]
  go_wp2
  rw [Lib.run_from_unsafe w ⟨b, o, none⟩ Tryz.underlying149 Tryz.underlying64 hj HS.out HL.out]
  simp only [Result.andThen]
  rw [Oper.upon_value]
  go_wp2
  go_end0
  exact ⟨rfl, rfl⟩

/-- A builder's type lies there in T's cells. -/
def LiesO (T n o : Nat) : Prop := liesAt Tryz.prog Tryz.prog.depth T (n / Tryz.prog.cellsOf T) o 67 1 = true

theorem ocheck_any (T B b o : Nat) (pre bs R : List Value) (w : World) (ho : pre.length = o) (hl : LiesO T (o + (R.length + 2)) o) (h : IsO T B b pre bs R w) :
    Calls Tryz.prog 65 #[.pointer (some ⟨b, o, none⟩)] w fun e w' => e = .returned (.tuple #[]) ∧ (OAt T B b pre (.pointer (some ⟨b, pre.length, none⟩)) bs R w' ∧ BelX B b w w' ∧ Lib.OthersKept 5 (some b) w w') := by
  subst ho
  rcases h with h | h
  · refine (ocheck_fresh T (pre.length + (R.length + 2)) b pre.length w hl h.cell0 h.shape (by omega) (h.frozen _)).mono ?_
    rintro e w' ⟨rfl, rfl⟩
    exact ⟨rfl, h.used _, (BelX.refl B b w).setCell (p := ⟨b, pre.length, none⟩) (.inl rfl) _, (Lib.OthersKept.refl _ _ w).setCell ⟨b, pre.length, none⟩ rfl _⟩
  · refine (ocheck_used b pre.length w h.cell0).mono ?_
    rintro e w' ⟨rfl, rfl⟩
    exact ⟨rfl, h, BelX.refl B b _, Lib.OthersKept.refl _ _ _⟩

set_option maxHeartbeats 2000000 in
set_option maxRecDepth 100000 in
theorem ostring_any (T B b o : Nat) (pre bs R : List Value) (s : ByteArray) (w : World) (ho : pre.length = o) (hl : LiesO T (o + (R.length + 2)) o) (hT : T ≠ 5) (h : IsO T B b pre bs R w) (hlen : bs.length + s.size ≤ 140737488355328) (hBw : B ≤ w.heap.size) :
    Calls Tryz.prog 63 #[.pointer (some ⟨b, o, none⟩), .string s] w fun e w' => e = .returned (.tuple #[.int .i64 s.size, .nilIface]) ∧ (IsO T B b pre (bs ++ Lib.strCells s) R w' ∧ BelX B b w w' ∧ Lib.OthersKept 5 (some b) w w') := by
  obtain ⟨i0, hi, hz0, hz1, hz2⟩ := info_parts xByte
  have HL : Hid (LiesO T (o + (R.length + 2)) o) := hl
  have HT : Hid (T ≠ 5) := hT
  have HO : Hid (pre.length = o) := ho
  have H : Hid (IsO T B b pre bs R w) := h
  clear hl hT h ho
  go_enter Tryz.func63, Tryz.ntmps63
  go_wp2_with (go_at_call 65; refine (ocheck_any T B b o pre bs R _ HO.out HL.out H.out).mono ?_)
  rintro e w1 ⟨rfl, h1, hb1, hk1⟩
  obtain ⟨v, hbk, hown, hne, h0⟩ := h1
  have H0 : Hid (bs = [] → v = .slice none 0 0) := h0
  have HBK : Hid (w1.heap[b]? = some (.cells (pre ++ .pointer (some ⟨b, pre.length, none⟩) :: v :: R).toArray T (0, 0))) := hbk
  clear h0
  have c0 : w1.cell? ⟨b, o, none⟩ = some (.pointer (some ⟨b, o, none⟩)) := by have := ocell0 hbk; rw [HO.out] at this; exact this
  have c1 : w1.cell? ⟨b, o + 1, none⟩ = some v := by have := ocell1 hbk; rw [HO.out] at this; exact this
  clear hbk
  go_wp2_with (at_builtin; refine Lib.wpList_append_own_stringF _ rfl _ _ 65 9 rfl B 5 i0 Tryz.underlying65 Tryz.underlying9 hi hz0 hz1 hz2 _ _ _ rfl hown s rfl ?c3 ?c4 ?c5 ?_)
  case c3 => unfold maxLen; omega
  case c4 => omega
  case c5 => have := hb1.size; omega
  intro v' w2 hown' hgrow hnil
  have HZ : Hid (v' = .slice none 0 0 ↔ v = .slice none 0 0 ∧ s.size = 0) := (show _ ↔ _ by simpa using hnil)
  clear hnil
  have hlt : b < w1.heap.size := olt HBK.out
  have hb2 : w2.heap[b]? = some (.cells (pre ++ .pointer (some ⟨b, pre.length, none⟩) :: v :: R).toArray T (0, 0)) := by
    rw [hgrow.block b hlt (fun e => hne e.symm)]
    exact HBK.out
  have HB2 : Hid (w2.heap[b]? = some (.cells (pre ++ .pointer (some ⟨b, pre.length, none⟩) :: v :: R).toArray T (0, 0))) := hb2
  have d0 : w2.cell? ⟨b, o, none⟩ = some (.pointer (some ⟨b, o, none⟩)) := by have := ocell0 hb2; rw [HO.out] at this; exact this
  have d1 : w2.cell? ⟨b, o + 1, none⟩ = some v := by have := ocell1 hb2; rw [HO.out] at this; exact this
  have f1 : w2.frozen? ⟨b, o + 1, none⟩ = false := Lib.frozen_of_heap hb2 (o + 1)
  clear hb2
  obtain ⟨ao, n', cap, rfl⟩ : ∃ ao n' cap, v' = .slice ao n' cap := by
    rcases hown'.2 with ⟨hv, _⟩ | ⟨g, cap, cur, fz, hv, _⟩
    · exact ⟨_, _, _, hv⟩
    · exact ⟨_, _, _, hv⟩
  go_wp2
  go_ret2
  refine ⟨rfl, .inr ?_, ?_, (hk1.grown hgrow (Lib.ownsRowF_kind hown)).setCell ⟨b, o + 1, none⟩ rfl _⟩
  · rw [← HO.out]
    refine OAt.put HB2.out (bs' := bs ++ Lib.strCells s) (by simpa [Lib.strCells_length] using hown') HT.out (fun h => ?_)
    obtain ⟨h1, h2⟩ := List.append_eq_nil_iff.1 h
    refine HZ.out.2 ⟨H0.out h1, ?_⟩
    rw [← Lib.strCells_length, h2]; rfl
  · exact (hb1.grown hgrow (by have := hb1.size; omega) (fun k hk => (hown.lt k hk).1)).setCell (p := ⟨b, o + 1, none⟩) (.inl rfl) _

set_option maxHeartbeats 2000000 in
set_option maxRecDepth 100000 in
theorem oout_some (T B b o : Nat) (pre : List Value) (l : List UInt8) (R : List Value) (w : World) (ho : pre.length = o) (h : IsO T B b pre (Lib.byteCells l) R w) (h0 : l ≠ []) :
    Calls Tryz.prog 29 #[.pointer (some ⟨b, o, none⟩)] w fun e w' => e = .returned (.string ⟨l.toArray⟩) ∧ Below B w w' := by
  obtain ⟨p, hAt⟩ := h.at
  obtain ⟨v, hbk, hown, hne, _⟩ := hAt
  have hl0 : l.length ≠ 0 := by simpa using h0
  rw [Lib.byteCells_length] at hown
  obtain ⟨g, cap, cur, fz, rfl, hbg, hg, hfz, hnc, hcm, hcs, htake⟩ : ∃ g cap cur fz, v = .slice (some ⟨g, 0, none⟩) l.length cap ∧ B ≤ g ∧ w.heap[g]? = some (.cells cur 5 fz) ∧ fz.2 ≤ l.length * 1 ∧ l.length ≤ cap ∧ cap ≤ maxLen ∧ cur.size = cap * 1 ∧ cur.toList.take (l.length * 1) = Lib.byteCells l := by
    rcases hown.2 with ⟨_, hz⟩ | ⟨g, cap, cur, fz, hv, r⟩
    · exact absurd hz hl0
    · exact ⟨g, cap, cur, fz, hv, r⟩
  have c1 : w.drew.cell? ⟨b, o + 1, none⟩ = some (.slice (some ⟨g, 0, none⟩) l.length cap) := by
    have : w.drew.heap[b]? = some (.cells (pre ++ p :: .slice (some ⟨g, 0, none⟩) l.length cap :: R).toArray T (0, 0)) := hbk
    have := ocell1 this
    rw [ho] at this
    exact this
  have hSD : (Builtin.unsafeSliceData_ #[65] 115 #[.slice (some ⟨g, 0, none⟩) l.length cap]).run Tryz.prog w.drew = .ok (.pointer (some ⟨g, 0, none⟩)) w.drew :=
    Lib.run_unsafeSliceData_row _ _ _ _ _ _ (by omega)
  have hUS : (Builtin.unsafeString_ #[115, 3] 9 #[.pointer (some ⟨g, 0, none⟩), .int .i64 l.length]).run Tryz.prog w.drew = .ok (.string ⟨l.toArray⟩) (w.drew.freeze ⟨g, 0, none⟩ l.length) := by
    refine Lib.run_unsafeString_row w.drew 115 3 9 5 Tryz.underlying115 xBytes g cur.size (by have hg' : w.drew.heap[g]? = some (.cells cur 5 fz) := hg; simp [World.shape?, hg']) l h0 (by omega) (by unfold maxLen at hcm; omega) ?_
    intro j x hx
    have := hown.cells (g := g) rfl j (.int .u8 x.toNat) (by simp [Lib.byteCells, hx])
    exact this
  clear hbk
  go_enter Tryz.func29, Tryz.ntmps29
  go_wp2
  go_region
  all_goals (go_wp2; go_ret; exact ⟨rfl, Lib.below_freeze (Below.drew (Below.refl B w)) (p := ⟨g, 0, none⟩) hbg _⟩)

set_option maxHeartbeats 2000000 in
set_option maxRecDepth 100000 in
theorem oout_none (T B b o : Nat) (pre R : List Value) (w : World) (ho : pre.length = o) (h : IsO T B b pre [] R w) :
    Calls Tryz.prog 29 #[.pointer (some ⟨b, o, none⟩)] w fun e w' => e = .returned (.string ⟨#[]⟩) ∧ Below B w w' := by
  obtain ⟨p, hAt⟩ := h.at
  obtain ⟨v, hbk, hown, hne, hv⟩ := hAt
  obtain rfl := hv rfl
  clear hown hne hv
  have hUS : ∀ (W : World) (q : Option Addr), (Builtin.unsafeString_ #[115, 3] 9 #[.pointer q, .int .i64 0]).run Tryz.prog W = .ok (.string .empty) W := fun W q => Lib.run_unsafeString_none W _ _ _ q
  have c1 : w.drew.cell? ⟨b, o + 1, none⟩ = some (.slice none 0 0) := by
    have : w.drew.heap[b]? = some (.cells (pre ++ p :: .slice none 0 0 :: R).toArray T (0, 0)) := hbk
    have := ocell1 this
    rw [ho] at this
    exact this
  have hSD : (Builtin.unsafeSliceData_ #[65] 115 #[.slice none 0 0]).run Tryz.prog w.drew = .ok (.pointer none) w.drew := rfl
  clear hbk
  go_enter Tryz.func29, Tryz.ntmps29
  go_wp2
  go_region
  all_goals (go_wp2; go_ret; exact ⟨rfl, Below.drew (Below.refl B w)⟩)

/-- What the builder holds, as a string. -/
theorem oout_any (T B b o : Nat) (pre : List Value) (l : List UInt8) (R : List Value) (w : World) (ho : pre.length = o) (h : IsO T B b pre (Lib.byteCells l) R w) :
    Calls Tryz.prog 29 #[.pointer (some ⟨b, o, none⟩)] w fun e w' => e = .returned (.string ⟨l.toArray⟩) ∧ Below B w w' := by
  by_cases h0 : l = []
  · subst h0
    exact oout_none T B b o pre R w ho h
  · exact oout_some T B b o pre l R w ho h h0
end Go.Proofs.YtmbeamcjpidnjaaGreatDoor
