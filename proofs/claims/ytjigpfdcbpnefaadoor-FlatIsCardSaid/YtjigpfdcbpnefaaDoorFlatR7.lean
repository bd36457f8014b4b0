/- FlatOf, some ways. (Made by tools/gen_docf.py.) -/
import Derived.Test.YtjigpfdcbpnefaaDoorFlatR
namespace Go.Proofs.YtjigpfdcbpnefaaDoor
open Go Go.RowKit

set_option maxRecDepth 100000 in
set_option maxHeartbeats 4000000 in
theorem flatOf_7 (ds : List Nd) (a : Option Addr) (cap : Nat) (hl : ds.length ≤ 400) (tx : ByteArray) (n : Int) (A : List Nd) (sA : ByteArray) (fA : Bool) (hA : FlatOk ds a cap A sA fA) : FlatOk ds a cap (⟨7, tx, n⟩ :: A) (sA) (fA) := by
  intro i r w hd hN
  obtain ⟨hi, e1, e2⟩ := drop_head (x := ⟨7, tx, n⟩) (r := A ++ r) hd
  obtain ⟨b0, o0, ea, hlt, c1, c2, c3⟩ := hN i hi
  subst ea
  rw [e1] at c1 c2 c3
  dsimp only at c1 c2 c3
  have HD : Hid (ds.drop (i + 1) = A ++ r) := e2
  have HN : Hid (Nods w (some ⟨b0, o0, none⟩) ds) := hN
  have HA : Hid (FlatOk ds (some ⟨b0, o0, none⟩) cap A sA fA) := hA
  have HI : Hid (((i + 1 : Nat) : Int) = (i : Int) + 1) := (show _ = _ by omega)
  clear hd e1 e2 hN hA
  go_enter Tryd.func23, Tryd.ntmps23
  go_wp2_with fail
  rw [← HI.out]
  refine (HA.out (i + 1) _ _ HD.out HN.out).mono ?_
  rintro e w2 ⟨rfl, hb2⟩
  go_wp2
  go_ret2
  exact ⟨rfl, hb2⟩

set_option maxRecDepth 100000 in
set_option maxHeartbeats 4000000 in
theorem flatOf_8 (ds : List Nd) (a : Option Addr) (cap : Nat) (hl : ds.length ≤ 400) (tx : ByteArray) (n : Int) (A : List Nd) (sA : ByteArray) (fA : Bool) (hA : FlatOk ds a cap A sA fA) : FlatOk ds a cap (⟨8, tx, n⟩ :: A) (sA) (fA) := by
  intro i r w hd hN
  obtain ⟨hi, e1, e2⟩ := drop_head (x := ⟨8, tx, n⟩) (r := A ++ r) hd
  obtain ⟨b0, o0, ea, hlt, c1, c2, c3⟩ := hN i hi
  subst ea
  rw [e1] at c1 c2 c3
  dsimp only at c1 c2 c3
  have HD : Hid (ds.drop (i + 1) = A ++ r) := e2
  have HN : Hid (Nods w (some ⟨b0, o0, none⟩) ds) := hN
  have HA : Hid (FlatOk ds (some ⟨b0, o0, none⟩) cap A sA fA) := hA
  have HI : Hid (((i + 1 : Nat) : Int) = (i : Int) + 1) := (show _ = _ by omega)
  clear hd e1 e2 hN hA
  go_enter Tryd.func23, Tryd.ntmps23
  go_wp2_with fail
  rw [← HI.out]
  refine (HA.out (i + 1) _ _ HD.out HN.out).mono ?_
  rintro e w2 ⟨rfl, hb2⟩
  go_wp2
  go_ret2
  exact ⟨rfl, hb2⟩

set_option maxRecDepth 100000 in
set_option maxHeartbeats 4000000 in
theorem flatOf_9 (ds : List Nd) (a : Option Addr) (cap : Nat) (hl : ds.length ≤ 400) (tx : ByteArray) (n : Int) (A C : List Nd) (sA : ByteArray) (fA : Bool) (hA : FlatOk ds a cap A sA fA) : FlatOk ds a cap (⟨9, tx, n⟩ :: (A ++ C)) (sA) (fA) := by
  intro i r w hd hN
  obtain ⟨hi, e1, e2⟩ := drop_head (x := ⟨9, tx, n⟩) (r := (A ++ C) ++ r) hd
  obtain ⟨b0, o0, ea, hlt, c1, c2, c3⟩ := hN i hi
  subst ea
  rw [e1] at c1 c2 c3
  dsimp only at c1 c2 c3
  have HD : Hid (ds.drop (i + 1) = (A ++ C) ++ r) := e2
  have HN : Hid (Nods w (some ⟨b0, o0, none⟩) ds) := hN
  rw [List.append_assoc] at HD
  have HA : Hid (FlatOk ds (some ⟨b0, o0, none⟩) cap A sA fA) := hA
  have HI : Hid (((i + 1 : Nat) : Int) = (i : Int) + 1) := (show _ = _ by omega)
  clear hd e1 e2 hN hA
  go_enter Tryd.func23, Tryd.ntmps23
  go_wp2_with fail
  rw [← HI.out]
  refine (HA.out (i + 1) _ _ HD.out HN.out).mono ?_
  rintro e w2 ⟨rfl, hb2⟩
  go_wp2
  go_ret2
  exact ⟨rfl, hb2⟩
end Go.Proofs.YtjigpfdcbpnefaaDoor
