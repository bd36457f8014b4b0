/- A world in which Go's tables that the rows of package lex list lie as they read, and the handle of the type of errors; what such a row's condition gives a walk. -/
import Derived.Test.YtianemmgaiblgabDoorAsT
import Derived.Lay
import Derived.LaidMore
import Derived.LaidSub
import Derived.LaidOnce
namespace Go.Proofs.YtianemmgaiblgabDoor
open Go.ChangeShapes Go.WideShapes Go.RowKit

def tabD : List (String × DataW Unit) := [("unicode/utf8.acceptRanges", Rows.laid_unicode_utf8_acceptRanges), ("unicode/utf8.first", Rows.laid_unicode_utf8_first)]
/-- The world: the handle's cell laid, and behind it the tables. -/
def tabWorld (P : Program) (os : Os) : World := (laidWorld P os).layVars P tabD
set_option maxRecDepth 100000 in
theorem tab_laid (os : Os) (args : Array Value) : laidMet Tryd.prog tabD ((tabWorld Tryd.prog os).forCall (fun _ _ => 0) ⟨#[], args, []⟩).memory := by
  have e1 : (tabD.filter fun x => (tabD.map (·.1)).contains x.1) = tabD := List.filter_eq_self.2 fun x hx => List.contains_iff_mem.2 (List.mem_map.2 ⟨x, hx, rfl⟩)
  have e2 : (tabD.filter fun x => !(tabD.map (·.1)).contains x.1) = [] := List.filter_eq_nil_iff.2 fun x hx => by rw [List.contains_iff_mem.2 (List.mem_map.2 ⟨x, hx, rfl⟩)]; simp
  have h : laidMet Tryd.prog tabD (tabWorld Tryd.prog os) := laidMet_layVars (w0 := laidWorld Tryd.prog os) (tabD.map (·.1)) [] (by rw [e1]; rfl) (by rw [e1]; kernel_rfl) (by rw [e1]; kernel_rfl) (by rw [e2]; exact LaidIn.none)
  exact h.of_heap (by simp [World.memory, World.forCall, Input.heap])
set_option maxRecDepth 100000 in
theorem tabShaped (os : Os) (args : Array Value) : ((tabWorld Tryd.prog os).forCall (fun _ _ => 0) ⟨#[], args, []⟩).Shaped Tryd.prog := World.shaped_of_ZipB (by kernel_rfl) (by kernel_rfl)
set_option maxRecDepth 100000 in
theorem tab_met3 (os : Os) (args : Array Value) : laidMetH Tryd.prog [("unicode/utf8.acceptRanges", Rows.laid_unicode_utf8_acceptRanges), ("errors.errorType", Rows.laid_errors_errorType), ("unicode/utf8.first", Rows.laid_unicode_utf8_first)] ((tabWorld Tryd.prog os).forCall (fun _ _ => 0) ⟨#[], args, []⟩).memory :=
  laidMetH_of_parts (tab_laid os args) (by kernel_rfl)
set_option maxRecDepth 100000 in
theorem tab_met2 (os : Os) (args : Array Value) : laidMetH Tryd.prog [("unicode/utf8.acceptRanges", Rows.laid_unicode_utf8_acceptRanges), ("unicode/utf8.first", Rows.laid_unicode_utf8_first)] ((tabWorld Tryd.prog os).forCall (fun _ _ => 0) ⟨#[], args, []⟩).memory :=
  laidMetH_of_parts (tab_laid os args) (by kernel_rfl)
theorem tab_handle {W : World} {l : List (String × DataW Unit)} (h : laidMetH Tryd.prog l W) (e : (l.filter fun x => x.1 == "errors.errorType") = laidV) : Hnd W := by
  have h1 := h.filter (fun x => x.1 == "errors.errorType")
  rw [e] at h1
  exact handle_of_laid h1
end Go.Proofs.YtianemmgaiblgabDoor
