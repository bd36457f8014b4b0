/- Texts as one: LaidF. -/
import Derived.Test.YtchdplceopegoaaGreatDoorPs50
namespace Go.Proofs.YtchdplceopegoaaGreatDoor
open Go.ChangeShapes Go.WideShapes Go.RowKit
set_option maxRecDepth 100000
abbrev y4q : List (String × DataW Unit) := [("math/bits.deBruijn32tab", Rows.laid_math_bits_deBruijn32tab), ("math/bits.deBruijn64tab", Rows.laid_math_bits_deBruijn64tab), ("internal/strconv.uint64pow10", Rows.laid_internal_strconv_uint64pow10), ("unicode/utf8.acceptRanges", Rows.laid_unicode_utf8_acceptRanges), ("strconv.ErrRange", Rows.laid_strconv_ErrRange), ("strconv.ErrSyntax", Rows.laid_strconv_ErrSyntax), ("unicode.White_Space", Rows.laid_unicode_White_Space), ("strings.asciiSpace", Rows.laid_strings_asciiSpace), ("unicode/utf8.first", Rows.laid_unicode_utf8_first)]
theorem v4s (os:Os) (args:Array Value):laidMetH Tryz.prog y4q ((q7s Tryz.prog os).forCall (fun _ _=>0) ⟨#[],args,[]⟩).memory:=by
 have h := (v8w os args).filter (fun x => x.1 != "errors.errorType")
 have e : (y6g.filter fun x => x.1 != "errors.errorType") = y4q := by rfl
 rw [e] at h
 exact h
theorem v1f {l : List (String × DataW Unit)} {W : World} (h : laidMetH Tryz.prog l W) (e1 : ((l.filter fun x => x.2.handleName?.isNone).filter fun x => x.1 == "internal/strconv.uint64pow10") = [("internal/strconv.uint64pow10", Lib.tabData .u64 Lib.pow10Tab)]) (e2 : ((l.filter fun x => x.2.handleName?.isNone).filter fun x => x.1 == "strings.asciiSpace") = [("strings.asciiSpace", Lib.tabData .u8 Lib.asciiSpaceTab)]) : q7d W := by
 have h0:=(laidMetH_iff.1 h).1
 refine ⟨?_,?_⟩
 ·have h1 := h0.filter (fun x => x.1 == "internal/strconv.uint64pow10")
  rw [e1] at h1
  exact Lib.tabIs_of_head (g:=6) (t:=356) (e:=336) (n:=20) (by kernel_rfl) (by kernel_rfl) (by kernel_rfl) (by kernel_rfl) (by kernel_rfl) (by kernel_rfl) h1
 ·have h1 := h0.filter (fun x => x.1 == "strings.asciiSpace")
  rw [e2] at h1
  exact Lib.tabIs_of_head (g:=1) (t:=237) (e:=5) (n:=256) (by kernel_rfl) (by kernel_rfl) (by kernel_rfl) (by kernel_rfl) (by kernel_rfl) (by kernel_rfl) h1
theorem j7g {W:World} (h:laidMetH Tryz.prog y4q W):q7d W:=v1f h (by kernel_rfl) (by kernel_rfl)
end Go.Proofs.YtchdplceopegoaaGreatDoor
