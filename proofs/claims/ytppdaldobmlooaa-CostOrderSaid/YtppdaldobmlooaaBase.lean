/- What walks over worlds that only grow want; errors by their numbers. -/
import Derived.WalkKit
import Derived.Outline
import Derived.WalkLawsBesides
import Derived.Test.YtppdaldobmlooaaProg
namespace Go.Proofs.Ytppdaldobmlooaa
open Go Go.RowKit

/-- The error of a number: 0 is none. -/
def errN (n : Int) : Value := if n = 0 then .nilIface else .iface 32 (.int .i64 n)
theorem errN_0 : errN 0 = .nilIface := rfl
theorem errN_1 : errN 1 = .iface 32 (.int .i64 1) := rfl
theorem errN_2 : errN 2 = .iface 32 (.int .i64 2) := rfl
theorem errN_3 : errN 3 = .iface 32 (.int .i64 3) := rfl
theorem errN_4 : errN 4 = .iface 32 (.int .i64 4) := rfl
theorem errN_5 : errN 5 = .iface 32 (.int .i64 5) := rfl
theorem errN_ne {n : Int} (h : n ≠ 0) : errN n = .iface 32 (.int .i64 n) := by simp [errN, h]

theorem bcell {W w1 : World} (hb : Below W.heap.size W w1) : (∀ b o, b < W.heap.size → w1.cell? ⟨b, o, none⟩ = W.cell? ⟨b, o, none⟩) ∧ (∀ b o, b < W.heap.size → w1.frozen? ⟨b, o, none⟩ = W.frozen? ⟨b, o, none⟩) :=
  ⟨fun b o h => hb.cell (p := ⟨b, o, none⟩) h, fun b o h => hb.frozen (p := ⟨b, o, none⟩) h⟩

theorem ane {b o b' o' : Nat} (h : b ≠ b' ∨ o ≠ o') : (⟨b, o, none⟩ : Addr) ≠ ⟨b', o', none⟩ := by
  intro e; simp at e; omega
theorem cso {W : World} {b o b' o' : Nat} {v : Value} (h : b ≠ b' ∨ o ≠ o') : (W.setCell ⟨b, o, none⟩ v).cell? ⟨b', o', none⟩ = W.cell? ⟨b', o', none⟩ := World.cell?_setCell_other (h := ane h) ..
theorem css {W : World} {a : Addr} {v u : Value} (h : W.cell? a = some u) : (W.setCell a v).cell? a = some v := World.cell?_setCell_same (h := h) ..
theorem csf {W : World} {a b : Addr} {v : Value} : (W.setCell a v).frozen? b = W.frozen? b := World.frozen?_setCell ..

theorem belowA {n : Nat} {w w1 w2 : World} {A : Obj} (h1 : Below n w w1) (hn : n ≤ w.heap.size) (hb : Below (w1.alloc A).heap.size (w1.alloc A) w2) : Below n w w2 :=
  (h1.alloc (by have := h1.size; omega) _).trans (hb.mono (by have := h1.size; simp; omega))
theorem belowT {n : Nat} {w w1 w2 : World} (h1 : Below n w w1) (hn : n ≤ w.heap.size) (hb : Below w1.heap.size w1 w2) : Below n w w2 :=
  h1.trans (hb.mono (by have := h1.size; omega))
theorem hid {p : Prop} (h : p) : Hid p := h
end Go.Proofs.Ytppdaldobmlooaa
