/- TextOf, one way. (Made by tools/gen_doct.py.) -/
import Derived.Test.YthjnkgjdpdacoaaDoorDocT
namespace Go.Proofs.YthjnkgjdpdacoaaDoor
open Go Go.RowKit

set_option maxRecDepth 100000 in
set_option maxHeartbeats 4000000 in
theorem textOf_2 (ds : List Nd) (a : Option Addr) (cap : Nat) (tx : ByteArray) (n : Int) : TextOk ds a cap (⟨2, tx, n⟩ :: []) (⟨#[95]⟩) := by
  intro i r w hd hN
  obtain ⟨hi, e1, e2⟩ := drop_head (x := ⟨2, tx, n⟩) (r := [] ++ r) hd
  obtain ⟨b0, o0, ea, hlt, c1, c2, c3⟩ := hN i hi
  subst ea
  rw [e1] at c1 c2 c3
  dsimp only at c1 c2 c3
  have HD : Hid (ds.drop (i + 1) = [] ++ r) := e2
  have HN : Hid (Nods w (some ⟨b0, o0, none⟩) ds) := hN
  have HB : Hid (∀ O : Obj, Below w.heap.size w (w.alloc O)) := fun O => (Below.refl _ w).alloc (Nat.le_refl _) O
  clear hd e1 e2 hN
  go_enter Tryd.func15, Tryd.ntmps15
  go_wp2
  go_ret
  exact ⟨rfl, HB.out _⟩

set_option maxRecDepth 100000 in
set_option maxHeartbeats 4000000 in
theorem textOf_3 (ds : List Nd) (a : Option Addr) (cap : Nat) (tx : ByteArray) (n : Int) : TextOk ds a cap (⟨3, tx, n⟩ :: []) (⟨#[46]⟩) := by
  intro i r w hd hN
  obtain ⟨hi, e1, e2⟩ := drop_head (x := ⟨3, tx, n⟩) (r := [] ++ r) hd
  obtain ⟨b0, o0, ea, hlt, c1, c2, c3⟩ := hN i hi
  subst ea
  rw [e1] at c1 c2 c3
  dsimp only at c1 c2 c3
  have HD : Hid (ds.drop (i + 1) = [] ++ r) := e2
  have HN : Hid (Nods w (some ⟨b0, o0, none⟩) ds) := hN
  have HB : Hid (∀ O : Obj, Below w.heap.size w (w.alloc O)) := fun O => (Below.refl _ w).alloc (Nat.le_refl _) O
  clear hd e1 e2 hN
  go_enter Tryd.func15, Tryd.ntmps15
  go_wp2
  go_ret
  exact ⟨rfl, HB.out _⟩

set_option maxRecDepth 100000 in
set_option maxHeartbeats 4000000 in
theorem textOf_4 (ds : List Nd) (a : Option Addr) (cap : Nat) (tx : ByteArray) (n : Int) : TextOk ds a cap (⟨4, tx, n⟩ :: []) (⟨#[47]⟩) := by
  intro i r w hd hN
  obtain ⟨hi, e1, e2⟩ := drop_head (x := ⟨4, tx, n⟩) (r := [] ++ r) hd
  obtain ⟨b0, o0, ea, hlt, c1, c2, c3⟩ := hN i hi
  subst ea
  rw [e1] at c1 c2 c3
  dsimp only at c1 c2 c3
  have HD : Hid (ds.drop (i + 1) = [] ++ r) := e2
  have HN : Hid (Nods w (some ⟨b0, o0, none⟩) ds) := hN
  have HB : Hid (∀ O : Obj, Below w.heap.size w (w.alloc O)) := fun O => (Below.refl _ w).alloc (Nat.le_refl _) O
  clear hd e1 e2 hN
  go_enter Tryd.func15, Tryd.ntmps15
  go_wp2
  go_ret
  exact ⟨rfl, HB.out _⟩

set_option maxRecDepth 100000 in
set_option maxHeartbeats 4000000 in
theorem textOf_5 (ds : List Nd) (a : Option Addr) (cap : Nat) (tx : ByteArray) (n : Int) : TextOk ds a cap (⟨5, tx, n⟩ :: []) (⟨#[48]⟩) := by
  intro i r w hd hN
  obtain ⟨hi, e1, e2⟩ := drop_head (x := ⟨5, tx, n⟩) (r := [] ++ r) hd
  obtain ⟨b0, o0, ea, hlt, c1, c2, c3⟩ := hN i hi
  subst ea
  rw [e1] at c1 c2 c3
  dsimp only at c1 c2 c3
  have HD : Hid (ds.drop (i + 1) = [] ++ r) := e2
  have HN : Hid (Nods w (some ⟨b0, o0, none⟩) ds) := hN
  have HB : Hid (∀ O : Obj, Below w.heap.size w (w.alloc O)) := fun O => (Below.refl _ w).alloc (Nat.le_refl _) O
  clear hd e1 e2 hN
  go_enter Tryd.func15, Tryd.ntmps15
  go_wp2
  go_ret
  exact ⟨rfl, HB.out _⟩

set_option maxRecDepth 100000 in
set_option maxHeartbeats 4000000 in
theorem textOf_1 (ds : List Nd) (a : Option Addr) (cap : Nat) (tx : ByteArray) (n : Int) (ht : tx.size ≤ 20) : TextOk ds a cap (⟨1, tx, n⟩ :: []) (⟨#[34]⟩ ++ tx ++ ⟨#[34]⟩) := by
  intro i r w hd hN
  obtain ⟨hi, e1, e2⟩ := drop_head (x := ⟨1, tx, n⟩) (r := [] ++ r) hd
  obtain ⟨b0, o0, ea, hlt, c1, c2, c3⟩ := hN i hi
  subst ea
  rw [e1] at c1 c2 c3
  dsimp only at c1 c2 c3
  have HD : Hid (ds.drop (i + 1) = [] ++ r) := e2
  have HN : Hid (Nods w (some ⟨b0, o0, none⟩) ds) := hN
  have HB : Hid (∀ O : Obj, Below w.heap.size w (w.alloc O)) := fun O => (Below.refl _ w).alloc (Nat.le_refl _) O
  clear hd e1 e2 hN
  go_enter Tryd.func15, Tryd.ntmps15
  go_wp2
  go_ret
  exact ⟨rfl, HB.out _⟩
end Go.Proofs.YthjnkgjdpdacoaaDoor
