/- Package syn's writer: its nodes one by one; what binds; a byte that is written when the call leaves. -/
import Derived.Test.YtmbeamcjpidnjaaGreatDoorSyO
import Derived.Test.YtmbeamcjpidnjaaGreatDoorMems
import Derived.Test.YtmbeamcjpidnjaaGreatDoorBldXs
import Derived.Test.YtmbeamcjpidnjaaGreatDoorShg
import Derived.Defers
import Derived.Lib.LaidTab
namespace Go.Proofs.YtmbeamcjpidnjaaGreatDoor
open Go Go.RowKit

/-- Go's tables read as the program's text lays them. -/
def TabP (w : World) : Prop := Lib.TabIs Tryz.prog w "internal/strconv.uint64pow10" .u64 Lib.pow10Tab
structure Tabs (w : World) : Prop where
  pow : TabP w
  spc : Lib.TabIs Tryz.prog w "strings.asciiSpace" .u8 Lib.asciiSpaceTab
theorem tab_below {n : String} {k : IntKind} {zs : List Int} {w w' : World} {g : Nat} (hg : Tryz.prog.globalNamed n = some g) (h : Lib.TabIs Tryz.prog w n k zs) (hb : Below w.heap.size w w') : Lib.TabIs Tryz.prog w' n k zs := by
  unfold Lib.TabIs World.var? at h ⊢
  rw [hg] at h ⊢
  simp only [Option.bind_some] at h ⊢
  have hlt : g < w.heap.size := by
    rcases Nat.lt_or_ge g w.heap.size with h' | h'
    · exact h'
    · rw [Array.getElem?_eq_none h'] at h; cases h
  rw [hb.block g hlt]
  exact h
theorem TabP.below {w w' : World} (h : TabP w) (hb : Below w.heap.size w w') : TabP w' := tab_below (g := 4) (by kernel_rfl) h hb
theorem Tabs.below {w w' : World} (h : Tabs w) (hb : Below w.heap.size w w') : Tabs w' :=
  ⟨h.pow.below hb, tab_below (g := 0) (by kernel_rfl) h.spc hb⟩

/-- New blocks alone. -/
theorem belA (w : World) (o : Obj) : Below w.heap.size w (w.alloc o) := (Below.refl _ _).alloc (Nat.le_refl _) _
theorem belAD (w : World) (o : Obj) : Below w.heap.size w (w.alloc o).drew := (belA w o).drew
set_option maxRecDepth 100000 in
/-- Nodes, those behind the first. -/
theorem td_tail {w : World} {b o c : Nat} {x : Td} {ds : List Td} (h : Tds w (some ⟨b, o, none⟩) (x :: ds)) (hc : (x :: ds).length ≤ c) :
    ∃ A, (∀ W : World, (Instr.slice 40 (.slice (some ⟨b, o, none⟩) (x :: ds).length c) (some (.int .i64 1)) none none).run Tryz.prog W = .ok (.slice A ds.length (c - 1)) W) ∧ Tds w A ds := by
  refine ⟨if c = 1 then some ⟨b, o, none⟩ else some ⟨b, o + 3, none⟩, fun W => ?_, ?_⟩
  · rw [run_slice_l W 40 _ (x :: ds).length c Tryz.underlying40 .i64 1 (by omega) (by simp only [List.length_cons]; omega)]
    have hz : (sizeOf (Tryz.prog.elem 40)).run Tryz.prog W = .ok 3 W := by kernel_rfl
    rw [hz]
    have ha : (⟨b, o, none⟩ : Addr).add 3 = ⟨b, o + 3, none⟩ := rfl
    simp [Result.andThen, sliced, ha]
  · by_cases e : c = 1
    · have : ds = [] := List.eq_nil_of_length_eq_zero (by simp only [List.length_cons] at hc; omega)
      rw [this]
      exact Tds.nil _ _
    · rw [if_neg e]
      intro i hi
      obtain ⟨b', o', e', hlt, c1, c2, c3⟩ := h (i + 1) (by simp only [List.length_cons]; omega)
      simp only [Option.some.injEq, Addr.mk.injEq, and_true] at e'
      obtain ⟨rfl, rfl⟩ := e'
      simp only [List.getElem_cons_succ] at c1 c2 c3
      refine ⟨b, o + 3, rfl, hlt, ?_, ?_, ?_⟩
      · rw [show o + 3 + i * 3 = o + (i + 1) * 3 by omega]; exact c1
      · rw [show o + 3 + i * 3 + 1 = o + (i + 1) * 3 + 1 by omega]; exact c2
      · rw [show o + 3 + i * 3 + 2 = o + (i + 1) * 3 + 2 by omega]; exact c3

/-- A writer: what it has written, and the nodes that are left. -/
structure Wy (w0 : World) (b : Nat) (bs : List UInt8) (ds : List Td) (w : World) (A : Option Addr) (c : Nat) : Prop where
  x : IsX 69 w0.heap.size b (Lib.byteCells bs) [.slice A ds.length c] w
  le : ds.length ≤ c
  td : Tds w0 A ds
  bl : Below w0.heap.size w0 w
  lt : w0.heap.size ≤ b
def WyE (w0 : World) (b : Nat) (bs : List UInt8) (ds : List Td) (w : World) : Prop := ∃ A c, Wy w0 b bs ds w A c
theorem liesW : LiesX 69 3 := by unfold LiesX; kernel_rfl
theorem wrT : 69 ≠ 5 := by decide
theorem byteCells_app (a b : List UInt8) : Lib.byteCells (a ++ b) = Lib.byteCells a ++ Lib.byteCells b := by simp [Lib.byteCells]
/-- What is kept by new blocks. -/
theorem IsX.grew {T B b : Nat} {bs R : List Value} {w w' : World} (h : IsX T B b bs R w) (hb : Below w.heap.size w w') : IsX T B b bs R w' := by
  have key : ∀ p, XAt T B b p bs R w → XAt T B b p bs R w' := by
    rintro p ⟨v, hk, hown, hne, h0⟩
    refine ⟨v, (hb.block b ?_).trans hk, hown.kept (row := none) ⟨hb.os, hb.tape, hb.output, hb.size, fun k hk _ => hb.block k hk⟩ (by cases hv : v.ownBlock <;> simp), hne, h0⟩
    rcases Nat.lt_or_ge b w.heap.size with h' | h'
    · exact h'
    · simp [Array.getElem?_eq_none h'] at hk
  exact h.imp (key _) (key _)
theorem Wy.grew {w0 : World} {b : Nat} {bs : List UInt8} {ds : List Td} {w w' : World} {A : Option Addr} {c : Nat} (h : Wy w0 b bs ds w A c) (hb : Below w.heap.size w w') : Wy w0 b bs ds w' A c :=
  ⟨h.x.grew hb, h.le, h.td, belowT h.bl (Nat.le_refl _) hb, h.lt⟩
/-- A byte, a text is written. -/
theorem wbyte_any {w0 : World} {b : Nat} {bs : List UInt8} {ds : List Td} {w : World} {A : Option Addr} {c : Nat} (h : Wy w0 b bs ds w A c) (k : UInt8) (hl : bs.length ≤ 1000000) :
    Calls Tryz.prog 28 #[.pointer (some ⟨b, 0, none⟩), .int .u8 (k.toNat : Int)] w fun e w' => e = .returned .nilIface ∧ Wy w0 b (bs ++ [k]) ds w' A c := by
  refine (xbyte_any 69 w0.heap.size b (Lib.byteCells bs) [.slice A ds.length c] (k.toNat : Int) w liesW wrT h.x (by rw [Lib.byteCells_length]; omega) h.bl.size).mono ?_
  rintro e w' ⟨rfl, h1, h2, _⟩
  refine ⟨rfl, ?_, h.le, h.td, h.bl.trans (h2.below h.lt), h.lt⟩
  rw [byteCells_app]
  exact h1
theorem wtext_any {w0 : World} {b : Nat} {bs : List UInt8} {ds : List Td} {w : World} {A : Option Addr} {c : Nat} (h : Wy w0 b bs ds w A c) (s : ByteArray) (hl : bs.length ≤ 1000000) (hs : s.size ≤ 1000000) :
    Calls Tryz.prog 63 #[.pointer (some ⟨b, 0, none⟩), .string s] w fun e w' => e = .returned (.tuple #[.int .i64 s.size, .nilIface]) ∧ Wy w0 b (bs ++ btL s) ds w' A c ∧ Lib.OthersKept 5 (some b) w w' := by
  refine (xstring_any 69 w0.heap.size b (Lib.byteCells bs) [.slice A ds.length c] s w liesW wrT h.x (by rw [Lib.byteCells_length]; omega) h.bl.size).mono ?_
  rintro e w' ⟨rfl, h1, h2, h3⟩
  refine ⟨rfl, ⟨?_, h.le, h.td, h.bl.trans (h2.below h.lt), h.lt⟩, h3⟩
  rw [byteCells_app]
  exact h1
set_option maxHeartbeats 2000000 in
set_option maxRecDepth 100000 in
/-- A byte that is written when the call leaves. -/
theorem xbyte_def (T B b : Nat) (bs R : List Value) (c : Int) (u : FrameMode) (w : World) (hl : LiesX T (R.length + 2)) (hT : T ≠ 5) (h : IsX T B b bs R w) (hlen : bs.length + 1 ≤ 140737488355328) (hBw : B ≤ w.heap.size) :
    CallsD Tryz.prog 28 #[.pointer (some ⟨b, 0, none⟩), .int .u8 c] u w fun e u' w' => u' = u ∧ (e = .returned .nilIface ∧ (IsX T B b (bs ++ [.int .u8 c]) R w' ∧ BelX B b w w')) := by
  obtain ⟨i0, hi, hz0, hz1, hz2⟩ := info_parts xByte
  have HL : Hid (LiesX T (R.length + 2)) := hl
  have HT : Hid (T ≠ 5) := hT
  have H : Hid (IsX T B b bs R w) := h
  clear hl hT h
  go_enter_d Tryz.func28, Tryz.ntmps28
  go_wp2_with (go_at_call 65; refine (xcheck_any T B b bs R _ HL.out H.out).mono ?_)
  rintro e w1 ⟨rfl, h1, hb1, hk1⟩
  obtain ⟨v, hbk, hown, hne, _⟩ := h1
  have c0 : w1.cell? ⟨b, 0, none⟩ = some (.pointer (some ⟨b, 0, none⟩)) := by rw [Lib.cell_of_heap hbk]; rfl
  have c1 : w1.cell? ⟨b, 1, none⟩ = some v := by rw [Lib.cell_of_heap hbk]; rfl
  go_wp2_with (at_builtin; refine wpList_append_ownF _ rfl _ _ 65 rfl B 5 i0 (.int .u8 0) 1 1 Tryz.underlying65 hi hz0 hz1 hz2 rfl (by decide) _ _ _ rfl (hown.alloc _) ⟨w1.heap.size, 0, none⟩ 1 1 [.int .u8 c] rfl rfl ?c1 ?c2 ?c3 ?c4 ?c5 ?_)
  case c1 =>
    intro j u hj
    match j, hj with
    | 0, hj => simp at hj; subst hj; simp [Addr.add]
  case c2 => intro u hu; simp at hu; subst hu; rfl
  case c3 => unfold maxLen; omega
  case c4 => omega
  case c5 => have := hb1.size; simp; omega
  intro v' w2 hown' hgrow _
  have hlt : b < w1.heap.size := by
    rcases Nat.lt_or_ge b w1.heap.size with h' | h'
    · exact h'
    · simp [Array.getElem?_eq_none h'] at hbk
  have hb2 : w2.heap[b]? = some (.cells (.pointer (some ⟨b, 0, none⟩) :: v :: R).toArray T (0, 0)) := by
    rw [hgrow.block b (by simp; omega) (fun e => hne e.symm), Lib.alloc_old w1 _ b hlt]
    exact hbk
  have d0 : w2.cell? ⟨b, 0, none⟩ = some (.pointer (some ⟨b, 0, none⟩)) := by rw [Lib.cell_of_heap hb2]; rfl
  have d1 : w2.cell? ⟨b, 1, none⟩ = some v := by rw [Lib.cell_of_heap hb2]; rfl
  have f1 : w2.frozen? ⟨b, 1, none⟩ = false := Lib.frozen_of_heap hb2 1
  obtain ⟨g, cap, rfl⟩ : ∃ g cap, v' = .slice (some ⟨g, 0, none⟩) (bs.length + 1) cap := by
    rcases hown'.2 with ⟨_, h0⟩ | ⟨g, cap, cur, fz, hv, _⟩
    · omega
    · exact ⟨g, cap, hv⟩
  go_wp2
  go_ret
  refine ⟨rfl, .inr ?_, ?_⟩
  · exact XAt.put hb2 (bs' := bs ++ [.int .u8 c]) (by simpa using hown') HT.out (fun h => by simp at h)
  · exact ((hb1.alloc (by have := hb1.size; omega) _).grown hgrow (by have := hb1.size; simp; omega) (fun k hk => (hown.lt k hk).1)).setCell (p := ⟨b, 1, none⟩) (.inl rfl) _
theorem wbyte_def {w0 : World} {b : Nat} {bs : List UInt8} {ds : List Td} {w : World} {A : Option Addr} {c : Nat} (h : Wy w0 b bs ds w A c) (k : UInt8) (u : FrameMode) (hl : bs.length ≤ 1000000) :
    CallsD Tryz.prog 28 #[.pointer (some ⟨b, 0, none⟩), .int .u8 (k.toNat : Int)] u w fun e u' w' => u' = u ∧ (e = .returned .nilIface ∧ Wy w0 b (bs ++ [k]) ds w' A c) := by
  refine (xbyte_def 69 w0.heap.size b (Lib.byteCells bs) [.slice A ds.length c] (k.toNat : Int) u w liesW wrT h.x (by rw [Lib.byteCells_length]; omega) h.bl.size).mono ?_
  rintro e u' w' ⟨rfl, rfl, h1, h2⟩
  refine ⟨rfl, rfl, ?_, h.le, h.td, h.bl.trans (h2.below h.lt), h.lt⟩
  rw [byteCells_app]
  exact h1
set_option maxHeartbeats 2000000 in
set_option maxRecDepth 100000 in
theorem wnext_any {w0 : World} {b : Nat} {bs : List UInt8} {x : Td} {ds : List Td} {w : World} {A : Option Addr} {c : Nat} (h : Wy w0 b bs (x :: ds) w A c) :
    Calls Tryz.prog 61 #[.pointer (some ⟨b, 0, none⟩)] w fun e w' => e = .returned (tdV x) ∧ WyE w0 b bs ds w' := by
  obtain ⟨tb, tq, rfl, hlt, d0, d1, d2⟩ := h.td 0 (by simp)
  obtain ⟨A', hsl, htd⟩ := td_tail h.td h.le
  simp only [List.getElem_cons_zero, Nat.zero_mul, Nat.add_zero] at d0 d1 d2
  obtain ⟨bc, _⟩ := bcell h.bl
  have e0 : w.cell? ⟨tb, tq, none⟩ = some (.int .i64 x.op) := (bc _ _ hlt).trans d0
  have e1 : w.cell? ⟨tb, tq + 1, none⟩ = some (.string x.tx) := (bc _ _ hlt).trans d1
  have e2 : w.cell? ⟨tb, tq + 2, none⟩ = some (.int .i64 x.n) := (bc _ _ hlt).trans d2
  have hbw : b < w.heap.size := h.x.lt
  have htw : tb < w.heap.size := Nat.lt_of_lt_of_le hlt h.bl.size
  have cR : w.cell? ⟨b, 2, none⟩ = some (.slice (some ⟨tb, tq, none⟩) (x :: ds).length c) := h.x.cellR 0
  have fR : w.frozen? ⟨b, 2, none⟩ = false := h.x.frozen 2
  have hne : ¬ tb = b := by have := h.lt; omega
  have H := (show Hid (_) from h)
  have HT : Hid (Tds w0 A' ds) := htd
  have hle := h.le
  generalize hn : (x :: ds).length = n at cR hsl hle
  have h1n : 0 < n := by rw [← hn]; simp
  have HN : Hid ((x :: ds).length = n) := hn
  clear h htd d0 d1 d2 bc hn
  generalize hm : ds.length = m at hsl
  have HM : Hid (ds.length = m) := hm
  clear hm
  go_enter Tryz.func61, Tryz.ntmps61
  go_wp2
  refine bodyPost_ret (v := tdV x) (by simp [results, Tryz.results61, go_sem]) rfl ?_
  have h := H.out
  have hs := h.x.stored 0 (.slice A' m (c - 1))
  have hb2 : Below w0.heap.size w0 (w.setCell ⟨b, 2, none⟩ (.slice A' m (c - 1))) := h.bl.setCell (p := ⟨b, 2, none⟩) h.lt _
  have hs2 : IsX 69 w0.heap.size b (Lib.byteCells bs) [.slice A' ds.length (c - 1)] (w.setCell ⟨b, 2, none⟩ (.slice A' m (c - 1))) := by rw [HM.out]; exact hs
  refine ⟨rfl, A', c - 1, ((hs2.alloc _).alloc _), ?_, HT.out, ?_, h.lt⟩
  · have := h.le; simp only [List.length_cons] at this; omega
  · have hz := h.bl.size
    exact (hb2.alloc (by rw [World.size_setCell]; exact hz) _).alloc (by rw [World.size_alloc, World.size_setCell]; omega) _
set_option maxRecDepth 100000 in
set_option maxHeartbeats 1000000 in
/-- Whether a kid needs brackets. -/
theorem needs_any (x : Td) (op : Int) (hop : op = 5 ∨ op = 6) (s : Bool) (w : World) : Calls Tryz.prog 166 #[.int .i64 x.op, .int .i64 op, .bool s] w fun e w' => e = .returned (.bool (decide (prc x < (op - 5).toNat + s.toNat))) ∧ w' = w := by
  have hp : prc x = if x.op = 5 then 0 else if x.op = 6 then 1 else 2 := rfl
  rw [hp]
  generalize x.op = k
  clear hp
  by_cases h5 : k = 5
  · subst h5
    rcases hop with rfl | rfl <;> cases s
    all_goals
      go_enter Tryz.func166, Tryz.ntmps166
      go_wp2
      go_ret
      exact ⟨rfl, rfl⟩
  · by_cases h6 : k = 6
    · subst h6
      rcases hop with rfl | rfl <;> cases s
      all_goals
        go_enter Tryz.func166, Tryz.ntmps166
        go_wp2
        go_ret
        exact ⟨rfl, rfl⟩
    · rw [if_neg h5, if_neg h6]
      have e5 : (k == 5) = false := by simp [h5]
      have e6 : (k == 6) = false := by simp [h6]
      rcases hop with rfl | rfl <;> cases s
      all_goals
        go_enter Tryz.func166, Tryz.ntmps166
        go_wp2
        go_ret
        exact ⟨rfl, rfl⟩
end Go.Proofs.YtmbeamcjpidnjaaGreatDoor
