/- FlatOf of the document: what its ways share. (Made by tools/gen_docf.py.) -/
import Derived.Test.YtnfhiiefdmjdbaaDoorDocR
import Derived.Test.YtnfhiiefdmjdbaaDoorFlatP
namespace Go.Proofs.YtnfhiiefdmjdbaaDoor
open Go Go.RowKit

/-- FlatOf gives such nodes as such a line, wherever they stand. -/
def FlatOk (ds : List Nd) (a : Option Addr) (cap : Nat) (A : List Nd) (sA : ByteArray) (fA : Bool) : Prop := ∀ (i : Nat) (r : List Nd) (w : World), ds.drop i = A ++ r → Nods w a ds →
    Calls Tryd.prog 25 #[.slice a ds.length cap, .int .i64 i] w fun e w' => e = .returned (.tuple #[.string sA, .bool fA]) ∧ Below w.heap.size w w'
end Go.Proofs.YtnfhiiefdmjdbaaDoor
