/- Some texts as one: LaidS, LaidL. -/
import Derived.Test.YtmbeamcjpidnjaaGreatDoorAsT
import Derived.Test.YtmbeamcjpidnjaaGreatDoorSyA
import Derived.Lay
import Derived.LaidMore
import Derived.LaidSub
import Derived.LaidOnce
namespace Go.Proofs.YtmbeamcjpidnjaaGreatDoor
open Go.ChangeShapes Go.WideShapes Go.RowKit

def synD : List (String × DataW Unit) := [("math/bits.deBruijn32tab", Rows.laid_math_bits_deBruijn32tab), ("math/bits.deBruijn64tab", Rows.laid_math_bits_deBruijn64tab), ("internal/strconv.uint64pow10", Rows.laid_internal_strconv_uint64pow10), ("unicode/utf8.acceptRanges", Rows.laid_unicode_utf8_acceptRanges), ("strconv.ErrRange", Rows.laid_strconv_ErrRange), ("strconv.ErrSyntax", Rows.laid_strconv_ErrSyntax), ("unicode.White_Space", Rows.laid_unicode_White_Space), ("strings.asciiSpace", Rows.laid_strings_asciiSpace), ("unicode/utf8.first", Rows.laid_unicode_utf8_first)]
abbrev synL : List (String × DataW Unit) := [("math/bits.deBruijn32tab", Rows.laid_math_bits_deBruijn32tab), ("math/bits.deBruijn64tab", Rows.laid_math_bits_deBruijn64tab), ("internal/strconv.uint64pow10", Rows.laid_internal_strconv_uint64pow10), ("unicode/utf8.acceptRanges", Rows.laid_unicode_utf8_acceptRanges), ("errors.errorType", Rows.laid_errors_errorType), ("strconv.ErrRange", Rows.laid_strconv_ErrRange), ("strconv.ErrSyntax", Rows.laid_strconv_ErrSyntax), ("unicode.White_Space", Rows.laid_unicode_White_Space), ("strings.asciiSpace", Rows.laid_strings_asciiSpace), ("unicode/utf8.first", Rows.laid_unicode_utf8_first)]
/-- The world: the handle's cell laid, and behind it the others. -/
def synWorld (P : Program) (os : Os) : World := (laidWorld P os).layVars P synD
set_option maxRecDepth 100000 in
theorem syn_laid (os : Os) (args : Array Value) : laidMet Tryz.prog synD ((synWorld Tryz.prog os).forCall (fun _ _ => 0) ⟨#[], args, []⟩).memory := by
  have e1 : (synD.filter fun x => (synD.map (·.1)).contains x.1) = synD := List.filter_eq_self.2 fun x hx => List.contains_iff_mem.2 (List.mem_map.2 ⟨x, hx, rfl⟩)
  have e2 : (synD.filter fun x => !(synD.map (·.1)).contains x.1) = [] := List.filter_eq_nil_iff.2 fun x hx => by rw [List.contains_iff_mem.2 (List.mem_map.2 ⟨x, hx, rfl⟩)]; simp
  have h : laidMet Tryz.prog synD (synWorld Tryz.prog os) := laidMet_layVars (w0 := laidWorld Tryz.prog os) (synD.map (·.1)) [] (by rw [e1]; rfl) (by rw [e1]; kernel_rfl) (by rw [e1]; kernel_rfl) (by rw [e2]; exact LaidIn.none)
  exact h.of_heap (by simp [World.memory, World.forCall, Input.heap])
set_option maxRecDepth 100000 in
theorem synShaped (os : Os) (args : Array Value) : ((synWorld Tryz.prog os).forCall (fun _ _ => 0) ⟨#[], args, []⟩).Shaped Tryz.prog := World.shaped_of_ZipB (by kernel_rfl) (by kernel_rfl)
set_option maxRecDepth 100000 in
theorem syn_met (os : Os) (args : Array Value) : laidMetH Tryz.prog synL ((synWorld Tryz.prog os).forCall (fun _ _ => 0) ⟨#[], args, []⟩).memory :=
  laidMetH_of_parts (syn_laid os args) (by kernel_rfl)
theorem syn_handle {W : World} (h : laidMetH Tryz.prog synL W) : Hnd W := by
  have h1 := h.filter (fun x => x.1 == "errors.errorType")
  have e : (synL.filter fun x => x.1 == "errors.errorType") = laidV := by rfl
  rw [e] at h1
  exact handle_of_laid h1
set_option maxRecDepth 100000 in
theorem syn_tabs {W : World} (h : laidMetH Tryz.prog synL W) : Tabs W := by
  have h0 := (laidMetH_iff.1 h).1
  refine ⟨?_, ?_⟩
  · have h1 := h0.filter (fun x => x.1 == "internal/strconv.uint64pow10")
    have e : ((synL.filter fun x => x.2.handleName?.isNone).filter fun x => x.1 == "internal/strconv.uint64pow10") = [("internal/strconv.uint64pow10", Lib.tabData .u64 Lib.pow10Tab)] := by kernel_rfl
    rw [e] at h1
    exact Lib.tabIs_of_head (g := 4) (t := 255) (e := 229) (n := 20) (by kernel_rfl) (by kernel_rfl) (by kernel_rfl) (by kernel_rfl) (by kernel_rfl) (by kernel_rfl) h1
  · have h1 := h0.filter (fun x => x.1 == "strings.asciiSpace")
    have e : ((synL.filter fun x => x.2.handleName?.isNone).filter fun x => x.1 == "strings.asciiSpace") = [("strings.asciiSpace", Lib.tabData .u8 Lib.asciiSpaceTab)] := by kernel_rfl
    rw [e] at h1
    exact Lib.tabIs_of_head (g := 0) (t := 136) (e := 5) (n := 256) (by kernel_rfl) (by kernel_rfl) (by kernel_rfl) (by kernel_rfl) (by kernel_rfl) (by kernel_rfl) h1
end Go.Proofs.YtmbeamcjpidnjaaGreatDoor
namespace Go.Proofs.YtmbeamcjpidnjaaGreatDoor
open Go.ChangeShapes Go.WideShapes Go.RowKit

abbrev layL : List (String × DataW Unit) := [("math/bits.deBruijn32tab", Rows.laid_math_bits_deBruijn32tab), ("math/bits.deBruijn64tab", Rows.laid_math_bits_deBruijn64tab), ("internal/strconv.uint64pow10", Rows.laid_internal_strconv_uint64pow10), ("unicode/utf8.acceptRanges", Rows.laid_unicode_utf8_acceptRanges), ("errors.errorType", Rows.laid_errors_errorType), ("unicode.White_Space", Rows.laid_unicode_White_Space), ("strings.asciiSpace", Rows.laid_strings_asciiSpace), ("unicode/utf8.first", Rows.laid_unicode_utf8_first)]
abbrev flaL : List (String × DataW Unit) := [("math/bits.deBruijn32tab", Rows.laid_math_bits_deBruijn32tab), ("math/bits.deBruijn64tab", Rows.laid_math_bits_deBruijn64tab), ("internal/strconv.uint64pow10", Rows.laid_internal_strconv_uint64pow10), ("unicode/utf8.acceptRanges", Rows.laid_unicode_utf8_acceptRanges), ("unicode/utf8.first", Rows.laid_unicode_utf8_first)]
set_option maxRecDepth 100000 in
theorem lay_met (os : Os) (args : Array Value) : laidMetH Tryz.prog layL ((synWorld Tryz.prog os).forCall (fun _ _ => 0) ⟨#[], args, []⟩).memory := by
  have h := (syn_met os args).filter (fun x => x.1 != "strconv.ErrRange" && x.1 != "strconv.ErrSyntax")
  have e : (synL.filter fun x => x.1 != "strconv.ErrRange" && x.1 != "strconv.ErrSyntax") = layL := by rfl
  rw [e] at h
  exact h
set_option maxRecDepth 100000 in
theorem fla_met (os : Os) (args : Array Value) : laidMetH Tryz.prog flaL ((synWorld Tryz.prog os).forCall (fun _ _ => 0) ⟨#[], args, []⟩).memory := by
  have h := (lay_met os args).filter (fun x => x.1 != "errors.errorType" && x.1 != "unicode.White_Space" && x.1 != "strings.asciiSpace")
  have e : (layL.filter fun x => x.1 != "errors.errorType" && x.1 != "unicode.White_Space" && x.1 != "strings.asciiSpace") = flaL := by rfl
  rw [e] at h
  exact h
theorem lay_handle {W : World} (h : laidMetH Tryz.prog layL W) : Hnd W := by
  have h1 := h.filter (fun x => x.1 == "errors.errorType")
  have e : (layL.filter fun x => x.1 == "errors.errorType") = laidV := by rfl
  rw [e] at h1
  exact handle_of_laid h1
set_option maxRecDepth 100000 in
theorem fla_pow {W : World} (h : laidMetH Tryz.prog flaL W) : TabP W := by
  have h0 := (laidMetH_iff.1 h).1
  have h1 := h0.filter (fun x => x.1 == "internal/strconv.uint64pow10")
  have e : ((flaL.filter fun x => x.2.handleName?.isNone).filter fun x => x.1 == "internal/strconv.uint64pow10") = [("internal/strconv.uint64pow10", Lib.tabData .u64 Lib.pow10Tab)] := by kernel_rfl
  rw [e] at h1
  exact Lib.tabIs_of_head (g := 4) (t := 255) (e := 229) (n := 20) (by kernel_rfl) (by kernel_rfl) (by kernel_rfl) (by kernel_rfl) (by kernel_rfl) (by kernel_rfl) h1
set_option maxRecDepth 100000 in
theorem lay_spc {W : World} (h : laidMetH Tryz.prog layL W) : Lib.TabIs Tryz.prog W "strings.asciiSpace" .u8 Lib.asciiSpaceTab := by
  have h0 := (laidMetH_iff.1 h).1
  have h1 := h0.filter (fun x => x.1 == "strings.asciiSpace")
  have e : ((layL.filter fun x => x.2.handleName?.isNone).filter fun x => x.1 == "strings.asciiSpace") = [("strings.asciiSpace", Lib.tabData .u8 Lib.asciiSpaceTab)] := by kernel_rfl
  rw [e] at h1
  exact Lib.tabIs_of_head (g := 0) (t := 136) (e := 5) (n := 256) (by kernel_rfl) (by kernel_rfl) (by kernel_rfl) (by kernel_rfl) (by kernel_rfl) (by kernel_rfl) h1
set_option maxRecDepth 100000 in
theorem lay_pow {W : World} (h : laidMetH Tryz.prog layL W) : TabP W := by
  have h0 := (laidMetH_iff.1 h).1
  have h1 := h0.filter (fun x => x.1 == "internal/strconv.uint64pow10")
  have e : ((layL.filter fun x => x.2.handleName?.isNone).filter fun x => x.1 == "internal/strconv.uint64pow10") = [("internal/strconv.uint64pow10", Lib.tabData .u64 Lib.pow10Tab)] := by kernel_rfl
  rw [e] at h1
  exact Lib.tabIs_of_head (g := 4) (t := 255) (e := 229) (n := 20) (by kernel_rfl) (by kernel_rfl) (by kernel_rfl) (by kernel_rfl) (by kernel_rfl) (by kernel_rfl) h1
theorem lay_tabs {W : World} (h : laidMetH Tryz.prog layL W) : Tabs W := ⟨lay_pow h, lay_spc h⟩
end Go.Proofs.YtmbeamcjpidnjaaGreatDoor
