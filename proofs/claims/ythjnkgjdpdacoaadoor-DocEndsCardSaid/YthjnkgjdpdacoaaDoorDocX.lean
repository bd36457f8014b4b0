/- write: a doc's text goes into the writer. (Made by tools/gen_docx.py.) -/
import Derived.Test.YthjnkgjdpdacoaaDoorDocW
namespace Go.Proofs.YthjnkgjdpdacoaaDoor
open Go Go.RowKit

/-- What write leaves. -/
def WrPost (B b : Nat) (r : List Nd) (l : List UInt8) (w : World) (e : Ending) (w' : World) : Prop :=
  (∃ a' cap', e = .returned (.slice a' r.length cap') ∧ NodsB B w' a' r ∧ r.length ≤ cap') ∧ Wr B b l w' ∧ Below B w w'

/-- write writes such nodes as such a text, whatever is behind them. -/
def WriteOk (B b : Nat) (A : List Nd) (tA : List UInt8) : Prop := ∀ (ds r : List Nd) (a : Option Addr) (cap : Nat) (l : List UInt8) (w : World), ds = A ++ r → NodsB B w a ds → ds.length ≤ cap → Wr B b l w → l.length + 22 * ds.length ≤ 1000000 →
    Calls Tryd.prog 27 #[.pointer (some ⟨b, 0, none⟩), .slice a ds.length cap] w (WrPost B b r (l ++ tA) w)

/-- The first node's box, and what is behind it. -/
def Opened (B b : Nat) (n0 : Nat) (x : Nd) (r : List Nd) (l : List UInt8) (w : World) (t p q : Value) (wx : World) : Prop :=
  t = .pointer (some ⟨b, 0, none⟩) ∧ p = .pointer (some ⟨n0, 0, none⟩) ∧ (∃ a' cap', q = .slice a' r.length cap' ∧ NodsB B wx a' r ∧ r.length ≤ cap') ∧ wx.cell? ⟨n0, 0, none⟩ = some (.int .i64 x.op) ∧ wx.cell? ⟨n0, 1, none⟩ = some (.string x.tx) ∧ wx.cell? ⟨n0, 2, none⟩ = some (.int .i64 x.n) ∧ Wr B b l wx ∧ Below B w wx
end Go.Proofs.YthjnkgjdpdacoaaDoor
