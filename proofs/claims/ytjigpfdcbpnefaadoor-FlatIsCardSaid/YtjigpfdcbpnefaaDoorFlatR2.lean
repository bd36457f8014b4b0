/- FlatOf, some ways. (Made by tools/gen_docf.py.) -/
import Derived.Test.YtjigpfdcbpnefaaDoorFlatR
namespace Go.Proofs.YtjigpfdcbpnefaaDoor
open Go Go.RowKit

set_option maxRecDepth 100000 in
set_option maxHeartbeats 4000000 in
theorem flatOf_2 (ds : List Nd) (a : Option Addr) (cap : Nat) (tx : ByteArray) (n : Int) : FlatOk ds a cap (⟨2, tx, n⟩ :: []) (⟨#[32]⟩) (true) := by
  intro i r w hd hN
  obtain ⟨hi, e1, e2⟩ := drop_head (x := ⟨2, tx, n⟩) (r := [] ++ r) hd
  obtain ⟨b0, o0, ea, hlt, c1, c2, c3⟩ := hN i hi
  subst ea
  rw [e1] at c1 c2 c3
  dsimp only at c1 c2 c3
  have HD : Hid (ds.drop (i + 1) = [] ++ r) := e2
  have HN : Hid (Nods w (some ⟨b0, o0, none⟩) ds) := hN
  clear hd e1 e2 hN
  go_enter Tryd.func23, Tryd.ntmps23
  go_wp2
  go_ret2
  exact ⟨rfl, Below.refl _ _⟩

set_option maxRecDepth 100000 in
set_option maxHeartbeats 4000000 in
theorem flatOf_3 (ds : List Nd) (a : Option Addr) (cap : Nat) (tx : ByteArray) (n : Int) : FlatOk ds a cap (⟨3, tx, n⟩ :: []) (⟨#[]⟩) (true) := by
  intro i r w hd hN
  obtain ⟨hi, e1, e2⟩ := drop_head (x := ⟨3, tx, n⟩) (r := [] ++ r) hd
  obtain ⟨b0, o0, ea, hlt, c1, c2, c3⟩ := hN i hi
  subst ea
  rw [e1] at c1 c2 c3
  dsimp only at c1 c2 c3
  have HD : Hid (ds.drop (i + 1) = [] ++ r) := e2
  have HN : Hid (Nods w (some ⟨b0, o0, none⟩) ds) := hN
  clear hd e1 e2 hN
  go_enter Tryd.func23, Tryd.ntmps23
  go_wp2
  go_ret2
  exact ⟨rfl, Below.refl _ _⟩

set_option maxRecDepth 100000 in
set_option maxHeartbeats 4000000 in
theorem flatOf_4 (ds : List Nd) (a : Option Addr) (cap : Nat) (tx : ByteArray) (n : Int) : FlatOk ds a cap (⟨4, tx, n⟩ :: []) (⟨#[]⟩) (false) := by
  intro i r w hd hN
  obtain ⟨hi, e1, e2⟩ := drop_head (x := ⟨4, tx, n⟩) (r := [] ++ r) hd
  obtain ⟨b0, o0, ea, hlt, c1, c2, c3⟩ := hN i hi
  subst ea
  rw [e1] at c1 c2 c3
  dsimp only at c1 c2 c3
  have HD : Hid (ds.drop (i + 1) = [] ++ r) := e2
  have HN : Hid (Nods w (some ⟨b0, o0, none⟩) ds) := hN
  clear hd e1 e2 hN
  go_enter Tryd.func23, Tryd.ntmps23
  go_wp2
  go_ret2
  exact ⟨rfl, Below.refl _ _⟩

set_option maxRecDepth 100000 in
set_option maxHeartbeats 4000000 in
theorem flatOf_5 (ds : List Nd) (a : Option Addr) (cap : Nat) (tx : ByteArray) (n : Int) : FlatOk ds a cap (⟨5, tx, n⟩ :: []) (⟨#[]⟩) (true) := by
  intro i r w hd hN
  obtain ⟨hi, e1, e2⟩ := drop_head (x := ⟨5, tx, n⟩) (r := [] ++ r) hd
  obtain ⟨b0, o0, ea, hlt, c1, c2, c3⟩ := hN i hi
  subst ea
  rw [e1] at c1 c2 c3
  dsimp only at c1 c2 c3
  have HD : Hid (ds.drop (i + 1) = [] ++ r) := e2
  have HN : Hid (Nods w (some ⟨b0, o0, none⟩) ds) := hN
  clear hd e1 e2 hN
  go_enter Tryd.func23, Tryd.ntmps23
  go_wp2
  go_ret2
  exact ⟨rfl, Below.refl _ _⟩

set_option maxRecDepth 100000 in
set_option maxHeartbeats 4000000 in
theorem flatOf_1 (ds : List Nd) (a : Option Addr) (cap : Nat) (tx : ByteArray) (n : Int) : FlatOk ds a cap (⟨1, tx, n⟩ :: []) (tx) (true) := by
  intro i r w hd hN
  obtain ⟨hi, e1, e2⟩ := drop_head (x := ⟨1, tx, n⟩) (r := [] ++ r) hd
  obtain ⟨b0, o0, ea, hlt, c1, c2, c3⟩ := hN i hi
  subst ea
  rw [e1] at c1 c2 c3
  dsimp only at c1 c2 c3
  have HD : Hid (ds.drop (i + 1) = [] ++ r) := e2
  have HN : Hid (Nods w (some ⟨b0, o0, none⟩) ds) := hN
  clear hd e1 e2 hN
  go_enter Tryd.func23, Tryd.ntmps23
  go_wp2
  go_ret2
  exact ⟨rfl, Below.refl _ _⟩
end Go.Proofs.YtjigpfdcbpnefaaDoor
