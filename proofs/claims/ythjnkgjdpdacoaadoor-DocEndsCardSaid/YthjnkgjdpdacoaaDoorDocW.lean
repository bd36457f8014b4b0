/- What writes a doc's text. -/
import Derived.Test.YthjnkgjdpdacoaaDoorDocC
import Derived.Test.YthjnkgjdpdacoaaDoorBld3
import Derived.Deep.DeepCutAuto
import Derived.BigQuiet
namespace Go.Proofs.YthjnkgjdpdacoaaDoor
open Go Go.RowKit

/-- A doc's nodes lie behind an address, below a block. -/
def NodsB (B : Nat) (w : World) (a : Option Addr) (ds : List Nd) : Prop :=
  ∀ i (h : i < ds.length), ∃ b o, a = some ⟨b, o, none⟩ ∧ b < B ∧ w.cell? ⟨b, o + i * 3, none⟩ = some (.int .i64 ds[i].op) ∧ w.cell? ⟨b, o + i * 3 + 1, none⟩ = some (.string ds[i].tx) ∧ w.cell? ⟨b, o + i * 3 + 2, none⟩ = some (.int .i64 ds[i].n)
theorem Nods.b {w : World} {a : Option Addr} {ds : List Nd} (h : Nods w a ds) : NodsB w.heap.size w a ds := h
theorem NodsB.below {B : Nat} {w w' : World} {a : Option Addr} {ds : List Nd} (h : NodsB B w a ds) (hb : Below B w w') : NodsB B w' a ds := by
  intro i hi
  obtain ⟨b, o, e, hlt, c1, c2, c3⟩ := h i hi
  exact ⟨b, o, e, hlt, (hb.cell (p := ⟨b, _, none⟩) hlt).trans c1, (hb.cell (p := ⟨b, _, none⟩) hlt).trans c2, (hb.cell (p := ⟨b, _, none⟩) hlt).trans c3⟩
theorem NodsB.nods {B : Nat} {w : World} {a : Option Addr} {ds : List Nd} (h : NodsB B w a ds) (hB : B ≤ w.heap.size) : Nods w a ds := by
  intro i hi
  obtain ⟨b, o, e, hlt, c1, c2, c3⟩ := h i hi
  exact ⟨b, o, e, by omega, c1, c2, c3⟩
/-- What is behind the first node. -/
theorem NodsB.rest {B : Nat} {w : World} {b o : Nat} {x : Nd} {ds : List Nd} (h : NodsB B w (some ⟨b, o, none⟩) (x :: ds)) : NodsB B w (some ⟨b, o + 3, none⟩) ds := by
  intro i hi
  obtain ⟨b', o', e, hlt, c1, c2, c3⟩ := h (i + 1) (by simp; omega)
  simp only [Option.some.injEq, Addr.mk.injEq, and_true] at e
  obtain ⟨rfl, rfl⟩ := e
  refine ⟨b, o + 3, rfl, hlt, ?_, ?_, ?_⟩
  · rw [show o + 3 + i * 3 = o + (i + 1) * 3 by omega]; exact c1
  · rw [show o + 3 + i * 3 + 1 = o + (i + 1) * 3 + 1 by omega]; exact c2
  · rw [show o + 3 + i * 3 + 2 = o + (i + 1) * 3 + 2 by omega]; exact c3
theorem NodsB.slid {B : Nat} {w : World} {b o cap : Nat} {x : Nd} {ds : List Nd} (h : NodsB B w (some ⟨b, o, none⟩) (x :: ds)) (hc : ds.length + 1 ≤ cap) :
    NodsB B w (if cap = 1 then some ⟨b, o, none⟩ else some ⟨b, o + 3, none⟩) ds := by
  by_cases h1 : cap = 1
  · have : ds = [] := List.eq_nil_of_length_eq_zero (by omega)
    subst this
    exact fun i hi => by simp at hi
  · rw [if_neg h1]; exact h.rest

/-- The writer holds these bytes. -/
def Wr (B b : Nat) (l : List UInt8) (w : World) : Prop := IsB 66 B b (Lib.byteCells l) [] w
theorem wrLies : Lies 66 2 := by unfold Lies; kernel_rfl
theorem Wr.size {B b : Nat} {l : List UInt8} {w : World} (h : Wr B b l w) : B ≤ w.heap.size := by
  have h1 := IsB.lt h
  have h2 := IsB.le h
  omega

theorem wbyte {B b : Nat} {l : List UInt8} {w : World} (h : Wr B b l w) (c : UInt8) (z : Int) (hz : z = (c.toNat : Int)) (hl : l.length ≤ 1000000) :
    Calls Tryd.prog 36 #[.pointer (some ⟨b, 0, none⟩), .int .u8 z] w fun e w' => e = .returned .nilIface ∧ Wr B b (l ++ [c]) w' ∧ Below B w w' := by
  subst hz
  refine (bbyte_any 66 B b _ [] _ w wrLies (by decide) h (by rw [Lib.byteCells_length]; omega) (Wr.size h)).mono ?_
  rintro e w' ⟨rfl, h1, h2, _⟩
  refine ⟨rfl, ?_, h2⟩
  rw [Wr, Lib.byteCells_append]
  exact h1
theorem wstr {B b : Nat} {l : List UInt8} {w : World} (h : Wr B b l w) (s : ByteArray) (u : List UInt8) (hs : s.data.toList = u) (hl : l.length + u.length ≤ 2000000) :
    Calls Tryd.prog 35 #[.pointer (some ⟨b, 0, none⟩), .string s] w fun e w' => (∃ z, e = .returned (.tuple #[.int .i64 z, .nilIface])) ∧ Wr B b (l ++ u) w' ∧ Below B w w' := by
  subst hs
  rw [size_list] at hl
  refine (bstring_any 66 B b _ [] s w wrLies (by decide) h (by rw [Lib.byteCells_length]; omega) (Wr.size h)).mono ?_
  rintro e w' ⟨rfl, h1, h2, _⟩
  refine ⟨⟨_, rfl⟩, ?_, h2⟩
  rw [Wr, Lib.byteCells_append]
  exact h1

set_option maxRecDepth 100000 in
set_option maxHeartbeats 1000000 in
theorem itoa_small (n : Int) (h0 : 0 ≤ n) (h8 : n ≤ 8) (w : World) : Calls Tryd.prog 37 #[.int .i64 n] w fun e w' => e = .returned (.string ⟨#[dgt n]⟩) ∧ w = w' := by
  have h : n = 0 ∨ n = 1 ∨ n = 2 ∨ n = 3 ∨ n = 4 ∨ n = 5 ∨ n = 6 ∨ n = 7 ∨ n = 8 := by omega
  rcases h with rfl | rfl | rfl | rfl | rfl | rfl | rfl | rfl | rfl
  all_goals
    clear h0 h8
    go_enter Tryd.func37, Tryd.ntmps37
    go_wp2
    go_ret
    exact ⟨rfl, rfl⟩
end Go.Proofs.YthjnkgjdpdacoaaDoor
