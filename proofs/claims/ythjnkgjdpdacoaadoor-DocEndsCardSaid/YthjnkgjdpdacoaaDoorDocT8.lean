/- TextOf, one way. (Made by tools/gen_doct.py.) -/
import Derived.Test.YthjnkgjdpdacoaaDoorDocT
namespace Go.Proofs.YthjnkgjdpdacoaaDoor
open Go Go.RowKit

set_option maxRecDepth 100000 in
set_option maxHeartbeats 4000000 in
theorem textOf_8 (ds : List Nd) (a : Option Addr) (cap : Nat) (hl : ds.length ≤ 400) (tx : ByteArray) (n : Int) (A : List Nd) (sA : ByteArray) (hA : TextOk ds a cap A sA) (hsA : sA.size ≤ 8800) : TextOk ds a cap (⟨8, tx, n⟩ :: A) (⟨#[91]⟩ ++ sA ++ ⟨#[93]⟩) := by
  intro i r w hd hN
  obtain ⟨hi, e1, e2⟩ := drop_head (x := ⟨8, tx, n⟩) (r := A ++ r) hd
  obtain ⟨b0, o0, ea, hlt, c1, c2, c3⟩ := hN i hi
  subst ea
  rw [e1] at c1 c2 c3
  dsimp only at c1 c2 c3
  have HD : Hid (ds.drop (i + 1) = A ++ r) := e2
  have HN : Hid (Nods w (some ⟨b0, o0, none⟩) ds) := hN
  have HB : Hid (∀ O : Obj, Below w.heap.size w (w.alloc O)) := fun O => (Below.refl _ w).alloc (Nat.le_refl _) O
  have HA : Hid (TextOk ds (some ⟨b0, o0, none⟩) cap A sA) := hA
  have HI : Hid (((i + 1 : Nat) : Int) = (i : Int) + 1) := (show _ = _ by omega)
  clear hd e1 e2 hN hA
  go_enter Tryd.func15, Tryd.ntmps15
  go_wp2_with fail
  rw [← HI.out]
  refine (HA.out (i + 1) r _ HD.out (HN.out.alloc _)).mono ?_
  rintro e w2 ⟨rfl, hb2⟩
  go_wp2
  go_ret
  exact ⟨rfl, belowA (Below.refl _ _) (Nat.le_refl _) hb2⟩
end Go.Proofs.YthjnkgjdpdacoaaDoor
