/- What package syn's functions hand back. -/
import Derived.Test.YtmbeamcjpidnjaaGreatDoorSynPs
import Derived.Test.YtmbeamcjpidnjaaGreatDoorMems
namespace Go.Proofs.YtmbeamcjpidnjaaGreatDoor
open Go Go.RowKit

/-- What Print hands back as a text. -/
def prnS (ps : List (List Td)) : ByteArray := if (progF ps).2 = 0 then wbS (prgTx ps) else ⟨#[]⟩
theorem prnS_ok {ps : List (List Td)} (h : (progF ps).2 = 0) : prnS ps = wbS (prgTx ps) := by rw [prnS, if_pos h]
theorem prnS_no {ps : List (List Td)} (h : (progF ps).2 ≠ 0) : prnS ps = ⟨#[]⟩ := by rw [prnS, if_neg h]
/-- What Parse hands back. -/
def ParOut (s : ByteArray) (W : World) (e : Ending) (w' : World) : Prop := ∃ ps k f A c, e = .returned (.tuple #[.slice A ps.length c, .int .i64 k, errN f]) ∧ ParR s ps k f ∧ Prg w' A ps ∧ ps.length ≤ c ∧ Below W.heap.size W w'
theorem parR_len {s : ByteArray} {ps : List (List Td)} {k f : Int} (h : ParR s ps k f) : ps.length ≤ 20 ∧ ∀ t ∈ ps, t.length ≤ 40 := by
  cases h with
  | lex => exact ⟨by simp, fun t ht => by cases ht⟩
  | bad => exact ⟨by simp, fun t ht => by cases ht⟩
  | full => exact ⟨by simp, fun t ht => by cases ht⟩
  | ok _ _ hf =>
    obtain ⟨h1, h2⟩ := prog_ok hf
    exact ⟨h1, fun t ht => (treeF_zero (okP_all ps 0 h2 t ht)).1⟩
theorem parR_err {s : ByteArray} {ps : List (List Td)} {k f : Int} (h : ParR s ps k f) (hf : f ≠ 0) : ps = [] := by
  cases h with
  | lex => rfl
  | bad => rfl
  | full => rfl
  | ok => exact absurd rfl hf
end Go.Proofs.YtmbeamcjpidnjaaGreatDoor
