/- (*way.writer).lay: a doc is laid by choices; what its ways share. -/
import Derived.Test.YtfabfclbnekleaaPlanWb
import Derived.Test.YtfabfclbnekleaaBldO
import Derived.Test.YtfabfclbnekleaaFlatF
import Derived.Test.YtfabfclbnekleaaWayS
import Derived.Test.YtfabfclbnekleaaIntB
import Derived.Test.YtfabfclbnekleaaRep
import Derived.BigQuiet
import Derived.Deep.QuietTactic
namespace Go.Proofs.Ytfabfclbnekleaa
open Go Go.RowKit

/-- The writer: the plan's three lists, the text so far, the choices. -/
def WS (B b : Nat) (pl : List Value) (l : List UInt8) (cv : Value) (w : World) : Prop := IsO 81 B b pl (Lib.byteCells l) [cv] w
abbrev plOf (be bf : Nat) (n cap : Nat) (a : Option Addr) : List Value := [.slice a n cap, .slice (some ⟨be, 0, none⟩) n n, .slice (some ⟨bf, 0, none⟩) n n]
theorem wLies : LiesO 81 6 3 := by unfold LiesO; kernel_rfl
section
variable {B b be bf n cap : Nat} {a : Option Addr} {l : List UInt8} {cv : Value} {w w' : World}
theorem WS.c0 (h : WS B b (plOf be bf n cap a) l cv w) : w.cell? ⟨b, 0, none⟩ = some (.slice a n cap) := IsO.cellP h 0 (by show 0 < 3; decide)
theorem WS.c1 (h : WS B b (plOf be bf n cap a) l cv w) : w.cell? ⟨b, 1, none⟩ = some (.slice (some ⟨be, 0, none⟩) n n) := IsO.cellP h 1 (by show 1 < 3; decide)
theorem WS.c2 (h : WS B b (plOf be bf n cap a) l cv w) : w.cell? ⟨b, 2, none⟩ = some (.slice (some ⟨bf, 0, none⟩) n n) := IsO.cellP h 2 (by show 2 < 3; decide)
theorem WS.c5 (h : WS B b (plOf be bf n cap a) l cv w) : w.cell? ⟨b, 5, none⟩ = some cv := IsO.cellR h 0
theorem WS.f5 (h : WS B b (plOf be bf n cap a) l cv w) : w.frozen? ⟨b, 5, none⟩ = false := IsO.frozen h 5
theorem WS.lt {pl : List Value} (h : WS B b pl l cv w) : b < w.heap.size := IsO.lt h
theorem WS.alloc {pl : List Value} (h : WS B b pl l cv w) (o : Obj) : WS B b pl l cv (w.alloc o) := IsO.alloc h o
theorem WS.drew {pl : List Value} (h : WS B b pl l cv w) : WS B b pl l cv w.drew := h
theorem WS.below {pl : List Value} (h : WS B b pl l cv w) (hb : Below w.heap.size w w') : WS B b pl l cv w' := IsO.below h hb
theorem WS.stored (h : WS B b (plOf be bf n cap a) l cv w) (v : Value) : WS B b (plOf be bf n cap a) l v (w.setCell ⟨b, 5, none⟩ v) := IsO.stored h 0 v
end

theorem wstr {B b be bf n cap : Nat} {a : Option Addr} {l : List UInt8} {cv : Value} {w : World} (h : WS B b (plOf be bf n cap a) l cv w) (hB : B ≤ b) (s : ByteArray) (hl : l.length + s.size ≤ 2000000000) :
    Calls Try.prog 44 #[.pointer (some ⟨b, 3, none⟩), .string s] w fun e w' => (∃ z, e = .returned (.tuple #[.int .i64 z, .nilIface])) ∧ WS B b (plOf be bf n cap a) (l ++ s.data.toList) cv w' ∧ Below B w w' := by
  have hlt := h.lt
  refine (ostring_any 81 B b 3 (plOf be bf n cap a) _ [cv] s w rfl wLies (by decide) h (by rw [Lib.byteCells_length]; omega) (by omega)).mono ?_
  rintro e w' ⟨rfl, h1, h2, _⟩
  refine ⟨⟨_, rfl⟩, ?_, h2.below hB⟩
  rw [WS, Lib.byteCells_append]
  exact h1

/-- What the call may lean on: the doc's nodes, and what is known of them. -/
structure LC (B s be bf : Nat) (a : Option Addr) (ds : List Nd) (w : World) : Prop where
  nd : NodsS s w a ds
  kn : Known w be bf ds 0
theorem LC.below {B s be bf : Nat} {a : Option Addr} {ds : List Nd} {w w' : World} (h : LC B s be bf a ds w) (hB : s < B ∧ be < B ∧ bf < B) (hb : Below B w w') : LC B s be bf a ds w' :=
  ⟨h.nd.kept (hb.block s hB.1), h.kn.kept (hb.block be hB.2.1) (hb.block bf hB.2.2)⟩

/-- What lay leaves. -/
def WLaid (B b : Nat) (pl : List Value) (res : Except Int (List UInt8 × List Int)) (l : List UInt8) (e : Ending) (w' : World) : Prop :=
  match res with
  | .ok (u, ws') => e = .returned .nilIface ∧ ∃ wa' wc', WS B b pl (l ++ u) (.slice wa' ws'.length wc') w' ∧ IntsB B w' wa' ws' ∧ ws'.length ≤ wc'
  | .error er => er ≠ 0 ∧ e = .returned (errN er)

/-- Calls of lay or its like, at a place and so deep, answer so. -/
def WCall (fn B b s be bf : Nat) (ds : List Nd) (a : Option Addr) (cap : Nat) (A : List Nd) (f : Nat → List Int → Except Int (List UInt8 × List Int)) : Prop :=
  ∀ (i : Nat) (r : List Nd) (deep : Nat) (ws : List Int) (wa : Option Addr) (wc : Nat) (l : List UInt8) (w : World), ds.drop i = A ++ r → LC B s be bf a ds w → IntsB B w wa ws → okC01 ws → ws.length ≤ wc → WS B b (plOf be bf ds.length cap a) l (.slice wa ws.length wc) w →
    deep + 8 * A.length ≤ 3300 → l.length + 4000 * A.length ≤ 1000000000 →
    Calls Try.prog fn #[.pointer (some ⟨b, 0, none⟩), .int .i64 i, .int .i64 deep] w fun e w' => WLaid B b (plOf be bf ds.length cap a) (f deep ws) l e w' ∧ Below B w w'
abbrev WLayOk := WCall 33

/-- A new line, so deep. -/
theorem rep_blank (n : Nat) (hn : n ≤ 4000) (w : World) : Calls Try.prog 49 #[.string ⟨#[32]⟩, .int .i64 n] w fun e w' => e = .returned (.string ⟨(List.replicate n 32).toArray⟩) ∧ Below w.heap.size w w' := by
  refine (repeat_any ⟨#[32]⟩ n w (by omega) (by show 1 * n ≤ _; omega)).mono ?_
  rintro e w' ⟨rfl, hb⟩
  refine ⟨?_, hb⟩
  have := Lib.repeatL_replicate 32 1 n
  have e1 : Lib.repeatL (ByteArray.mk #[32]).data.toList n = List.replicate n 32 := by simpa using this
  rw [e1]
end Go.Proofs.Ytfabfclbnekleaa
