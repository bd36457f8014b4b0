/- (*flat.line).lay: a doc's line goes into the builder; what its ways share. (Made by tools/gen_flay.py.) -/
import Derived.Test.YtmbeamcjpidnjaaGreatDoorNodS
import Derived.Test.YtmbeamcjpidnjaaGreatDoorBldXs
import Derived.Test.YtmbeamcjpidnjaaGreatDoorDocFs
import Derived.Deep.DeepCutAuto
import Derived.BigQuiet
namespace Go.Proofs.YtmbeamcjpidnjaaGreatDoor
open Go Go.RowKit

/-- The line holds these bytes; is a new line among it? -/
def Ln (B b : Nat) (l : List UInt8) (k : Bool) (w : World) : Prop := IsX 100 B b (Lib.byteCells l) [.bool k] w
theorem lnLies : LiesX 100 3 := by unfold LiesX; kernel_rfl
theorem Ln.cell {B b : Nat} {l : List UInt8} {k : Bool} {w : World} (h : Ln B b l k w) : w.cell? ⟨b, 2, none⟩ = some (.bool k) := IsX.cellR h 0
theorem Ln.frozen {B b : Nat} {l : List UInt8} {k : Bool} {w : World} (h : Ln B b l k w) : w.frozen? ⟨b, 2, none⟩ = false := IsX.frozen h 2
theorem Ln.stored {B b : Nat} {l : List UInt8} {k : Bool} {w : World} (h : Ln B b l k w) (k' : Bool) : Ln B b l k' (w.setCell ⟨b, 2, none⟩ (.bool k')) := IsX.stored h 0 (.bool k')

theorem lbyte {B b : Nat} {l : List UInt8} {k : Bool} {w : World} (h : Ln B b l k w) (hB : B ≤ w.heap.size) (c : UInt8) (z : Int) (hz : z = (c.toNat : Int)) (hl : l.length ≤ 1000000) :
    Calls Tryz.prog 28 #[.pointer (some ⟨b, 0, none⟩), .int .u8 z] w fun e w' => e = .returned .nilIface ∧ Ln B b (l ++ [c]) k w' ∧ BelX B b w w' ∧ Lib.OthersKept 5 (some b) w w' := by
  subst hz
  refine (xbyte_any 100 B b _ [.bool k] _ w lnLies (by decide) h (by rw [Lib.byteCells_length]; omega) hB).mono ?_
  rintro e w' ⟨rfl, h1, h2, h3⟩
  refine ⟨rfl, ?_, h2, h3⟩
  rw [Ln, Lib.byteCells_append]
  exact h1
theorem lstr {B b : Nat} {l : List UInt8} {k : Bool} {w : World} (h : Ln B b l k w) (hB : B ≤ w.heap.size) (s : ByteArray) (hl : l.length + s.size ≤ 2000000) :
    Calls Tryz.prog 63 #[.pointer (some ⟨b, 0, none⟩), .string s] w fun e w' => (∃ z, e = .returned (.tuple #[.int .i64 z, .nilIface])) ∧ Ln B b (l ++ s.data.toList) k w' ∧ BelX B b w w' ∧ Lib.OthersKept 5 (some b) w w' := by
  refine (xstring_any 100 B b _ [.bool k] s w lnLies (by decide) h (by rw [Lib.byteCells_length]; omega) hB).mono ?_
  rintro e w' ⟨rfl, h1, h2, h3⟩
  refine ⟨⟨_, rfl⟩, ?_, h2, h3⟩
  rw [Ln, Lib.byteCells_append]
  exact h1

/-- What lay leaves. -/
def LnPost (B b s : Nat) (r : List Nd) (l : List UInt8) (k : Bool) (w : World) (e : Ending) (w' : World) : Prop :=
  (∃ a' cap', e = .returned (.slice a' r.length cap') ∧ NodsS s w' a' r ∧ r.length ≤ cap') ∧ Ln B b l k w' ∧ BelX B b w w' ∧ Lib.OthersKept 5 (some b) w w'

/-- lay lays such nodes as such bytes, whatever is behind them. -/
def LnOk (A : List Nd) (tA : List UInt8) (kA : Bool) : Prop := ∀ (B b s : Nat) (ds r : List Nd) (a : Option Addr) (cap : Nat) (l : List UInt8) (k : Bool) (w : World), ds = A ++ r → NodsS s w a ds → s < B → s ≠ b → ds.length ≤ cap → Ln B b l k w → B ≤ w.heap.size → l.length + 20 * ds.length ≤ 1000000 →
    Calls Tryz.prog 54 #[.pointer (some ⟨b, 0, none⟩), .slice a ds.length cap] w (LnPost B b s r (l ++ tA) (k || kA) w)

/-- The first node's box, and what is behind it. -/
def LOpen (B b s : Nat) (n0 : Nat) (x : Nd) (r : List Nd) (l : List UInt8) (k : Bool) (w : World) (t p q : Value) (wx : World) : Prop :=
  t = .pointer (some ⟨b, 0, none⟩) ∧ p = .pointer (some ⟨n0, 0, none⟩) ∧ (∃ a' cap', q = .slice a' r.length cap' ∧ NodsS s wx a' r ∧ r.length ≤ cap') ∧ wx.cell? ⟨n0, 0, none⟩ = some (.int .i64 x.op) ∧ wx.cell? ⟨n0, 1, none⟩ = some (.string x.tx) ∧ wx.cell? ⟨n0, 2, none⟩ = some (.int .i64 x.n) ∧ Ln B b l k wx ∧ BelX B b w wx ∧ Lib.OthersKept 5 (some b) w wx

theorem BelX.weak {B B' b x : Nat} {w w' : World} (h : BelX B' x w w') (hB : B ≤ B') (hx : B ≤ x) : BelX B b w w' := ⟨h.os, h.tape, h.output, h.size, fun k hk _ => h.block k (by omega) (by omega)⟩
theorem kept_off {e : TypeId} {b x : Nat} {w w3 w4 : World} (h : Lib.OthersKept e (some b) w w3) (h' : Lib.OthersKept e (some x) w3 w4) (hx : w.heap.size ≤ x) : Lib.OthersKept e (some b) w w4 := by
  intro k o hk hb ho
  have hlt : k < w.heap.size := (Array.getElem?_eq_some_iff.1 hk).1
  exact h' k o (h k o hk hb ho) (fun e => by cases e; omega) ho
end Go.Proofs.YtmbeamcjpidnjaaGreatDoor
