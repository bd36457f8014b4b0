/- TextOf of the document: what its ways share. (Made by tools/gen_doct.py.) -/
import Derived.Test.YthjnkgjdpdacoaaDoorDocC
import Derived.Deep.DeepCutAuto
import Derived.BigQuiet
import Derived.Lib.Walk
import Derived.Laws.BitsLemmas
import Derived.Shelf.RegionOpenPlain
namespace Go.Proofs.YthjnkgjdpdacoaaDoor
open Go Go.RowKit

/-- TextOf gives such nodes as such a text, wherever they stand. -/
def TextOk (ds : List Nd) (a : Option Addr) (cap : Nat) (A : List Nd) (sA : ByteArray) : Prop := ∀ (i : Nat) (r : List Nd) (w : World), ds.drop i = A ++ r → Nods w a ds →
    Calls Tryd.prog 15 #[.slice a ds.length cap, .int .i64 i] w fun e w' => e = .returned (.string sA) ∧ Below w.heap.size w w'

theorem drop_head {ds : List Nd} {i : Nat} {x : Nd} {r : List Nd} (h : ds.drop i = x :: r) : ∃ hi : i < ds.length, ds[i] = x ∧ ds.drop (i + 1) = r := by
  have hi : i < ds.length := by
    rcases Nat.lt_or_ge i ds.length with h' | h'
    · exact h'
    · rw [List.drop_eq_nil_of_le h'] at h; cases h
  rw [List.drop_eq_getElem_cons hi] at h
  simp only [List.cons.injEq] at h
  exact ⟨hi, h.1, h.2⟩
theorem digs {n : Int} (h0 : 0 ≤ n) (h8 : n ≤ 8) : (⟨#[48, 49, 50, 51, 52, 53, 54, 55, 56]⟩ : ByteArray).extract n.toNat (n + 1).toNat = ⟨#[dgt n]⟩ := by
  have h : n = 0 ∨ n = 1 ∨ n = 2 ∨ n = 3 ∨ n = 4 ∨ n = 5 ∨ n = 6 ∨ n = 7 ∨ n = 8 := by omega
  rcases h with rfl | rfl | rfl | rfl | rfl | rfl | rfl | rfl | rfl <;> decide +kernel
theorem wrap1 {n : Int} (h0 : 0 ≤ n) (h8 : n ≤ 8) : IntKind.i64.wrap (n + 1) = n + 1 := by
  rw [IntKind.wrap_i64]; omega
theorem digsRun {n : Int} (h0 : 0 ≤ n) (h8 : n ≤ 8) (W : World) : (Instr.slice 9 (.string ⟨#[48, 49, 50, 51, 52, 53, 54, 55, 56]⟩) (some (.int .i64 n)) (some (.int .i64 (n + 1))) none).run Tryd.prog W = .ok (.string ⟨#[dgt n]⟩) W := by
  have hs : ((⟨#[48, 49, 50, 51, 52, 53, 54, 55, 56]⟩ : ByteArray).size : Int) = 9 := rfl
  have e1 : 0 ≤ n + 1 := by omega
  have e2 : n + 1 ≤ ((⟨#[48, 49, 50, 51, 52, 53, 54, 55, 56]⟩ : ByteArray).size : Int) := by rw [hs]; omega
  have e3 : n ≤ ((n + 1).toNat : Int) := by omega
  rw [← digs h0 h8]
  have r1 : ∀ c, (Instr.sliceBound (.int .i64 (n + 1)) (⟨#[48, 49, 50, 51, 52, 53, 54, 55, 56]⟩ : ByteArray).size c).run Tryd.prog W = .ok (n + 1).toNat W := fun c => run_sliceBound _ _ _ _ _ e1 e2
  have r2 : ∀ c, (Instr.sliceBound (.int .i64 n) (n + 1).toNat c).run Tryd.prog W = .ok n.toNat W := fun c => run_sliceBound _ _ _ _ _ h0 e3
  simp [Instr.slice, run_underlying Tryd.underlying9, Instr.sliceBounds]
  rw [r1]
  simp only [Result.andThen]
  rw [r2]
theorem drop_more {ds A r : List Nd} {i : Nat} (h : ds.drop i = A ++ r) : ds.drop (i + A.length) = r := by
  rw [← List.drop_drop, h, List.drop_left]
end Go.Proofs.YthjnkgjdpdacoaaDoor
