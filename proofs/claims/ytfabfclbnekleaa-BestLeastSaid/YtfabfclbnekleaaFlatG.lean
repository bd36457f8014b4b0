/- flat.Long: how long a doc's line is. -/
import Derived.Test.YtfabfclbnekleaaFlatF
namespace Go.Proofs.Ytfabfclbnekleaa
open Go Go.RowKit

set_option maxRecDepth 100000 in
set_option maxHeartbeats 2000000 in
theorem flong_any (ds : List Nd) (a : Option Addr) (cap : Nat) (hc : ds.length ≤ cap) (w : World) (hN : Nods w a ds) :
    Calls Try.prog 67 #[.slice a ds.length cap] w fun e w' => e = .returned (.tuple #[.int .i64 (flS ds).size, .bool (flB ds), errN (docF ds)]) ∧ Below w.heap.size w w' := by
  have HN : Hid (Nods w a ds) := hN
  clear hN
  generalize hs : flS ds = s
  generalize hb : flB ds = b
  generalize he : errN (docF ds) = v
  have H : Hid (flS ds = s ∧ flB ds = b ∧ errN (docF ds) = v) := ⟨hs, hb, he⟩
  clear hs hb he
  go_enter Try.func67, Try.ntmps67
  go_wp2_with fail
  refine (flat_any ds a cap hc _ HN.out).mono ?_
  rintro e w2 ⟨rfl, hB⟩
  rw [H.out.1, H.out.2.1, H.out.2.2]
  go_wp2
  go_ret3
  exact ⟨rfl, hB⟩
end Go.Proofs.Ytfabfclbnekleaa
