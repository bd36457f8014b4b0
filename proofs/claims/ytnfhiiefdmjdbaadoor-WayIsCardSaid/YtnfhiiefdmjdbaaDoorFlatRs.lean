/- Some texts as one: FlatR2, FlatR6, FlatR7. -/
import Derived.Test.YtnfhiiefdmjdbaaDoorFlatR
namespace Go.Proofs.YtnfhiiefdmjdbaaDoor
open Go Go.RowKit

set_option maxRecDepth 100000 in
set_option maxHeartbeats 4000000 in
theorem flatOf_2 (ds : List Nd) (a : Option Addr) (cap : Nat) (tx : ByteArray) (n : Int) : FlatOk ds a cap (⟨2, tx, n⟩ :: []) (⟨#[32]⟩) (true) := by
  intro i r w hd hN
  obtain ⟨hi, e1, e2⟩ := drop_head (x := ⟨2, tx, n⟩) (r := [] ++ r) hd
  obtain ⟨b0, o0, ea, hlt, c1, c2, c3⟩ := hN i hi
  subst ea
  rw [e1] at c1 c2 c3
  dsimp only at c1 c2 c3
  have HD : Hid (ds.drop (i + 1) = [] ++ r) := e2
  have HN : Hid (Nods w (some ⟨b0, o0, none⟩) ds) := hN
  clear hd e1 e2 hN
  go_enter Tryd.func25, Tryd.ntmps25
  go_wp2
  go_ret2
  exact ⟨rfl, Below.refl _ _⟩

set_option maxRecDepth 100000 in
set_option maxHeartbeats 4000000 in
theorem flatOf_3 (ds : List Nd) (a : Option Addr) (cap : Nat) (tx : ByteArray) (n : Int) : FlatOk ds a cap (⟨3, tx, n⟩ :: []) (⟨#[]⟩) (true) := by
  intro i r w hd hN
  obtain ⟨hi, e1, e2⟩ := drop_head (x := ⟨3, tx, n⟩) (r := [] ++ r) hd
  obtain ⟨b0, o0, ea, hlt, c1, c2, c3⟩ := hN i hi
  subst ea
  rw [e1] at c1 c2 c3
  dsimp only at c1 c2 c3
  have HD : Hid (ds.drop (i + 1) = [] ++ r) := e2
  have HN : Hid (Nods w (some ⟨b0, o0, none⟩) ds) := hN
  clear hd e1 e2 hN
  go_enter Tryd.func25, Tryd.ntmps25
  go_wp2
  go_ret2
  exact ⟨rfl, Below.refl _ _⟩

set_option maxRecDepth 100000 in
set_option maxHeartbeats 4000000 in
theorem flatOf_4 (ds : List Nd) (a : Option Addr) (cap : Nat) (tx : ByteArray) (n : Int) : FlatOk ds a cap (⟨4, tx, n⟩ :: []) (⟨#[]⟩) (false) := by
  intro i r w hd hN
  obtain ⟨hi, e1, e2⟩ := drop_head (x := ⟨4, tx, n⟩) (r := [] ++ r) hd
  obtain ⟨b0, o0, ea, hlt, c1, c2, c3⟩ := hN i hi
  subst ea
  rw [e1] at c1 c2 c3
  dsimp only at c1 c2 c3
  have HD : Hid (ds.drop (i + 1) = [] ++ r) := e2
  have HN : Hid (Nods w (some ⟨b0, o0, none⟩) ds) := hN
  clear hd e1 e2 hN
  go_enter Tryd.func25, Tryd.ntmps25
  go_wp2
  go_ret2
  exact ⟨rfl, Below.refl _ _⟩

set_option maxRecDepth 100000 in
set_option maxHeartbeats 4000000 in
theorem flatOf_5 (ds : List Nd) (a : Option Addr) (cap : Nat) (tx : ByteArray) (n : Int) : FlatOk ds a cap (⟨5, tx, n⟩ :: []) (⟨#[]⟩) (true) := by
  intro i r w hd hN
  obtain ⟨hi, e1, e2⟩ := drop_head (x := ⟨5, tx, n⟩) (r := [] ++ r) hd
  obtain ⟨b0, o0, ea, hlt, c1, c2, c3⟩ := hN i hi
  subst ea
  rw [e1] at c1 c2 c3
  dsimp only at c1 c2 c3
  have HD : Hid (ds.drop (i + 1) = [] ++ r) := e2
  have HN : Hid (Nods w (some ⟨b0, o0, none⟩) ds) := hN
  clear hd e1 e2 hN
  go_enter Tryd.func25, Tryd.ntmps25
  go_wp2
  go_ret2
  exact ⟨rfl, Below.refl _ _⟩

set_option maxRecDepth 100000 in
set_option maxHeartbeats 4000000 in
theorem flatOf_1 (ds : List Nd) (a : Option Addr) (cap : Nat) (tx : ByteArray) (n : Int) : FlatOk ds a cap (⟨1, tx, n⟩ :: []) (tx) (true) := by
  intro i r w hd hN
  obtain ⟨hi, e1, e2⟩ := drop_head (x := ⟨1, tx, n⟩) (r := [] ++ r) hd
  obtain ⟨b0, o0, ea, hlt, c1, c2, c3⟩ := hN i hi
  subst ea
  rw [e1] at c1 c2 c3
  dsimp only at c1 c2 c3
  have HD : Hid (ds.drop (i + 1) = [] ++ r) := e2
  have HN : Hid (Nods w (some ⟨b0, o0, none⟩) ds) := hN
  clear hd e1 e2 hN
  go_enter Tryd.func25, Tryd.ntmps25
  go_wp2
  go_ret2
  exact ⟨rfl, Below.refl _ _⟩
end Go.Proofs.YtnfhiiefdmjdbaaDoor
namespace Go.Proofs.YtnfhiiefdmjdbaaDoor
open Go Go.RowKit

set_option maxRecDepth 100000 in
set_option maxHeartbeats 4000000 in
theorem flatOf_6 (ds : List Nd) (a : Option Addr) (cap : Nat) (hl : ds.length ≤ 400) (tx : ByteArray) (n : Int) (A C : List Nd) (sA sC : ByteArray) (fA fC : Bool) (hA : FlatOk ds a cap A sA fA) (hC : FlatOk ds a cap C sC fC) (hsA : sA.size ≤ 8800) (hsC : sC.size ≤ 8800) (hE : ∀ i r, ds.drop i = A ++ r → endAt ds i 1 = some (i + A.length)) : FlatOk ds a cap (⟨6, tx, n⟩ :: (A ++ C)) (if (fA && fC) = true then sA ++ sC else ⟨#[]⟩) (fA && fC) := by
  intro i r w hd hN
  obtain ⟨hi, e1, e2⟩ := drop_head (x := ⟨6, tx, n⟩) (r := (A ++ C) ++ r) hd
  obtain ⟨b0, o0, ea, hlt, c1, c2, c3⟩ := hN i hi
  subst ea
  rw [e1] at c1 c2 c3
  dsimp only at c1 c2 c3
  have HD : Hid (ds.drop (i + 1) = (A ++ C) ++ r) := e2
  have HN : Hid (Nods w (some ⟨b0, o0, none⟩) ds) := hN
  have HA : Hid (FlatOk ds (some ⟨b0, o0, none⟩) cap A sA fA) := hA
  have HC : Hid (FlatOk ds (some ⟨b0, o0, none⟩) cap C sC fC) := hC
  have HI : Hid (((i + 1 : Nat) : Int) = (i : Int) + 1) := (show _ = _ by omega)
  rw [List.append_assoc] at HD
  have HE : Hid (endAt ds (i + 1) 1 = some (i + 1 + A.length)) := hE (i + 1) (C ++ r) HD.out
  have HD2 : Hid (ds.drop (i + 1 + A.length) = C ++ r) := drop_more HD.out
  clear hd e1 e2 hN hA hC hE
  cases fA <;> cases fC
  all_goals
    go_enter Tryd.func25, Tryd.ntmps25
    go_wp2_with fail
    rw [← HI.out]
    refine (HA.out (i + 1) (C ++ r) _ HD.out HN.out).mono ?_
    rintro e w2 ⟨rfl, hB2⟩
    go_wp2_with fail
    rw [← HI.out]
    refine (rendOf_any ds _ cap hl (ds.length + 1) (i + 1) w2 (HN.out.below hB2) (by omega) (by omega)).mono ?_
    rintro e w3 ⟨rfl, rfl⟩
    rw [HE.out]
    have hz : endZ (some (i + 1 + A.length)) = ((i + 1 + A.length : Nat) : Int) := rfl
    rw [hz]
    generalize hj : i + 1 + A.length = j at HD2 ⊢
    clear hz hj
    go_wp2_with fail
    refine (HC.out j r w2 HD2.out (HN.out.below hB2)).mono ?_
    rintro e w4 ⟨rfl, hb4⟩
    go_wp2
    go_ret2
    exact ⟨rfl, belowT hB2 (Nat.le_refl _) hb4⟩
end Go.Proofs.YtnfhiiefdmjdbaaDoor
namespace Go.Proofs.YtnfhiiefdmjdbaaDoor
open Go Go.RowKit

set_option maxRecDepth 100000 in
set_option maxHeartbeats 4000000 in
theorem flatOf_7 (ds : List Nd) (a : Option Addr) (cap : Nat) (hl : ds.length ≤ 400) (tx : ByteArray) (n : Int) (A : List Nd) (sA : ByteArray) (fA : Bool) (hA : FlatOk ds a cap A sA fA) : FlatOk ds a cap (⟨7, tx, n⟩ :: A) (sA) (fA) := by
  intro i r w hd hN
  obtain ⟨hi, e1, e2⟩ := drop_head (x := ⟨7, tx, n⟩) (r := A ++ r) hd
  obtain ⟨b0, o0, ea, hlt, c1, c2, c3⟩ := hN i hi
  subst ea
  rw [e1] at c1 c2 c3
  dsimp only at c1 c2 c3
  have HD : Hid (ds.drop (i + 1) = A ++ r) := e2
  have HN : Hid (Nods w (some ⟨b0, o0, none⟩) ds) := hN
  have HA : Hid (FlatOk ds (some ⟨b0, o0, none⟩) cap A sA fA) := hA
  have HI : Hid (((i + 1 : Nat) : Int) = (i : Int) + 1) := (show _ = _ by omega)
  clear hd e1 e2 hN hA
  go_enter Tryd.func25, Tryd.ntmps25
  go_wp2_with fail
  rw [← HI.out]
  refine (HA.out (i + 1) _ _ HD.out HN.out).mono ?_
  rintro e w2 ⟨rfl, hb2⟩
  go_wp2
  go_ret2
  exact ⟨rfl, hb2⟩

set_option maxRecDepth 100000 in
set_option maxHeartbeats 4000000 in
theorem flatOf_8 (ds : List Nd) (a : Option Addr) (cap : Nat) (hl : ds.length ≤ 400) (tx : ByteArray) (n : Int) (A : List Nd) (sA : ByteArray) (fA : Bool) (hA : FlatOk ds a cap A sA fA) : FlatOk ds a cap (⟨8, tx, n⟩ :: A) (sA) (fA) := by
  intro i r w hd hN
  obtain ⟨hi, e1, e2⟩ := drop_head (x := ⟨8, tx, n⟩) (r := A ++ r) hd
  obtain ⟨b0, o0, ea, hlt, c1, c2, c3⟩ := hN i hi
  subst ea
  rw [e1] at c1 c2 c3
  dsimp only at c1 c2 c3
  have HD : Hid (ds.drop (i + 1) = A ++ r) := e2
  have HN : Hid (Nods w (some ⟨b0, o0, none⟩) ds) := hN
  have HA : Hid (FlatOk ds (some ⟨b0, o0, none⟩) cap A sA fA) := hA
  have HI : Hid (((i + 1 : Nat) : Int) = (i : Int) + 1) := (show _ = _ by omega)
  clear hd e1 e2 hN hA
  go_enter Tryd.func25, Tryd.ntmps25
  go_wp2_with fail
  rw [← HI.out]
  refine (HA.out (i + 1) _ _ HD.out HN.out).mono ?_
  rintro e w2 ⟨rfl, hb2⟩
  go_wp2
  go_ret2
  exact ⟨rfl, hb2⟩

set_option maxRecDepth 100000 in
set_option maxHeartbeats 4000000 in
theorem flatOf_9 (ds : List Nd) (a : Option Addr) (cap : Nat) (hl : ds.length ≤ 400) (tx : ByteArray) (n : Int) (A C : List Nd) (sA : ByteArray) (fA : Bool) (hA : FlatOk ds a cap A sA fA) : FlatOk ds a cap (⟨9, tx, n⟩ :: (A ++ C)) (sA) (fA) := by
  intro i r w hd hN
  obtain ⟨hi, e1, e2⟩ := drop_head (x := ⟨9, tx, n⟩) (r := (A ++ C) ++ r) hd
  obtain ⟨b0, o0, ea, hlt, c1, c2, c3⟩ := hN i hi
  subst ea
  rw [e1] at c1 c2 c3
  dsimp only at c1 c2 c3
  have HD : Hid (ds.drop (i + 1) = (A ++ C) ++ r) := e2
  have HN : Hid (Nods w (some ⟨b0, o0, none⟩) ds) := hN
  rw [List.append_assoc] at HD
  have HA : Hid (FlatOk ds (some ⟨b0, o0, none⟩) cap A sA fA) := hA
  have HI : Hid (((i + 1 : Nat) : Int) = (i : Int) + 1) := (show _ = _ by omega)
  clear hd e1 e2 hN hA
  go_enter Tryd.func25, Tryd.ntmps25
  go_wp2_with fail
  rw [← HI.out]
  refine (HA.out (i + 1) _ _ HD.out HN.out).mono ?_
  rintro e w2 ⟨rfl, hb2⟩
  go_wp2
  go_ret2
  exact ⟨rfl, hb2⟩
end Go.Proofs.YtnfhiiefdmjdbaaDoor
