/- The plan of package way: where each doc ends, and whether it is flat: learn, way by way. (Made by tools/gen_plan.py.) -/
import Derived.Test.YtnfhiiefdmjdbaaDoorNodS
import Derived.Test.YtnfhiiefdmjdbaaDoorFlatP
import Derived.Test.YtnfhiiefdmjdbaaDoorFlatS
import Derived.Deep.RegionHeld3
import Derived.Deep.OwnRows
import Derived.Deep.DeepCutAuto
namespace Go.Proofs.YtnfhiiefdmjdbaaDoor
open Go Go.RowKit

/-- What learn does to the memory. -/
def Put2 (be bf i : Nat) (e f : Value) (w w' : World) : Prop :=
  w'.os = w.os ∧ w'.tape = w.tape ∧ w'.output = w.output ∧ w'.heap = ((w.setCell ⟨be, i, none⟩ e).setCell ⟨bf, i, none⟩ f).heap

theorem wrapS {i n : Nat} (hn : n ≤ 400) (hi : (i : Int) < n) : IntKind.i64.wrap ((i : Int) + 1) = (i : Int) + 1 := by
  rw [IntKind.wrap_i64]; omega
end Go.Proofs.YtnfhiiefdmjdbaaDoor
