/- Some texts as one: FlatR, FlatR2, FlatR6, FlatR7, FlatRZ. -/
import Derived.Test.YtfabfclbnekleaaDoorDocRs
import Derived.Test.YtfabfclbnekleaaDoorFlatP
namespace Go.Proofs.YtfabfclbnekleaaDoor
open Go Go.RowKit

/-- FlatOf gives such nodes as such a line, wherever they stand. -/
def FlatOk (ds : List Nd) (a : Option Addr) (cap : Nat) (A : List Nd) (sA : ByteArray) (fA : Bool) : Prop := ∀ (i : Nat) (r : List Nd) (w : World), ds.drop i = A ++ r → Nods w a ds →
    Calls Tryd.prog 26 #[.slice a ds.length cap, .int .i64 i] w fun e w' => e = .returned (.tuple #[.string sA, .bool fA]) ∧ Below w.heap.size w w'
end Go.Proofs.YtfabfclbnekleaaDoor
namespace Go.Proofs.YtfabfclbnekleaaDoor
open Go Go.RowKit

set_option maxRecDepth 100000 in
set_option maxHeartbeats 4000000 in
theorem flatOf_2 (ds : List Nd) (a : Option Addr) (cap : Nat) (tx : ByteArray) (n : Int) : FlatOk ds a cap (⟨2, tx, n⟩ :: []) (⟨#[32]⟩) (true) := by
  intro i r w hd hN
  obtain ⟨hi, e1, e2⟩ := drop_head (x := ⟨2, tx, n⟩) (r := [] ++ r) hd
  obtain ⟨b0, o0, ea, hlt, c1, c2, c3⟩ := hN i hi
  subst ea
  rw [e1] at c1 c2 c3
  dsimp only at c1 c2 c3
  have HD : Hid (ds.drop (i + 1) = [] ++ r) := e2
  have HN : Hid (Nods w (some ⟨b0, o0, none⟩) ds) := hN
  clear hd e1 e2 hN
  go_enter Tryd.func26, Tryd.ntmps26
  go_wp2
  go_ret2
  exact ⟨rfl, Below.refl _ _⟩

set_option maxRecDepth 100000 in
set_option maxHeartbeats 4000000 in
theorem flatOf_3 (ds : List Nd) (a : Option Addr) (cap : Nat) (tx : ByteArray) (n : Int) : FlatOk ds a cap (⟨3, tx, n⟩ :: []) (⟨#[]⟩) (true) := by
  intro i r w hd hN
  obtain ⟨hi, e1, e2⟩ := drop_head (x := ⟨3, tx, n⟩) (r := [] ++ r) hd
  obtain ⟨b0, o0, ea, hlt, c1, c2, c3⟩ := hN i hi
  subst ea
  rw [e1] at c1 c2 c3
  dsimp only at c1 c2 c3
  have HD : Hid (ds.drop (i + 1) = [] ++ r) := e2
  have HN : Hid (Nods w (some ⟨b0, o0, none⟩) ds) := hN
  clear hd e1 e2 hN
  go_enter Tryd.func26, Tryd.ntmps26
  go_wp2
  go_ret2
  exact ⟨rfl, Below.refl _ _⟩

set_option maxRecDepth 100000 in
set_option maxHeartbeats 4000000 in
theorem flatOf_4 (ds : List Nd) (a : Option Addr) (cap : Nat) (tx : ByteArray) (n : Int) : FlatOk ds a cap (⟨4, tx, n⟩ :: []) (⟨#[]⟩) (false) := by
  intro i r w hd hN
  obtain ⟨hi, e1, e2⟩ := drop_head (x := ⟨4, tx, n⟩) (r := [] ++ r) hd
  obtain ⟨b0, o0, ea, hlt, c1, c2, c3⟩ := hN i hi
  subst ea
  rw [e1] at c1 c2 c3
  dsimp only at c1 c2 c3
  have HD : Hid (ds.drop (i + 1) = [] ++ r) := e2
  have HN : Hid (Nods w (some ⟨b0, o0, none⟩) ds) := hN
  clear hd e1 e2 hN
  go_enter Tryd.func26, Tryd.ntmps26
  go_wp2
  go_ret2
  exact ⟨rfl, Below.refl _ _⟩

set_option maxRecDepth 100000 in
set_option maxHeartbeats 4000000 in
theorem flatOf_5 (ds : List Nd) (a : Option Addr) (cap : Nat) (tx : ByteArray) (n : Int) : FlatOk ds a cap (⟨5, tx, n⟩ :: []) (⟨#[]⟩) (true) := by
  intro i r w hd hN
  obtain ⟨hi, e1, e2⟩ := drop_head (x := ⟨5, tx, n⟩) (r := [] ++ r) hd
  obtain ⟨b0, o0, ea, hlt, c1, c2, c3⟩ := hN i hi
  subst ea
  rw [e1] at c1 c2 c3
  dsimp only at c1 c2 c3
  have HD : Hid (ds.drop (i + 1) = [] ++ r) := e2
  have HN : Hid (Nods w (some ⟨b0, o0, none⟩) ds) := hN
  clear hd e1 e2 hN
  go_enter Tryd.func26, Tryd.ntmps26
  go_wp2
  go_ret2
  exact ⟨rfl, Below.refl _ _⟩

set_option maxRecDepth 100000 in
set_option maxHeartbeats 4000000 in
theorem flatOf_1 (ds : List Nd) (a : Option Addr) (cap : Nat) (tx : ByteArray) (n : Int) : FlatOk ds a cap (⟨1, tx, n⟩ :: []) (tx) (true) := by
  intro i r w hd hN
  obtain ⟨hi, e1, e2⟩ := drop_head (x := ⟨1, tx, n⟩) (r := [] ++ r) hd
  obtain ⟨b0, o0, ea, hlt, c1, c2, c3⟩ := hN i hi
  subst ea
  rw [e1] at c1 c2 c3
  dsimp only at c1 c2 c3
  have HD : Hid (ds.drop (i + 1) = [] ++ r) := e2
  have HN : Hid (Nods w (some ⟨b0, o0, none⟩) ds) := hN
  clear hd e1 e2 hN
  go_enter Tryd.func26, Tryd.ntmps26
  go_wp2
  go_ret2
  exact ⟨rfl, Below.refl _ _⟩
end Go.Proofs.YtfabfclbnekleaaDoor
namespace Go.Proofs.YtfabfclbnekleaaDoor
open Go Go.RowKit

set_option maxRecDepth 100000 in
set_option maxHeartbeats 4000000 in
theorem flatOf_6 (ds : List Nd) (a : Option Addr) (cap : Nat) (hl : ds.length ≤ 400) (tx : ByteArray) (n : Int) (A C : List Nd) (sA sC : ByteArray) (fA fC : Bool) (hA : FlatOk ds a cap A sA fA) (hC : FlatOk ds a cap C sC fC) (hsA : sA.size ≤ 8800) (hsC : sC.size ≤ 8800) (hE : ∀ i r, ds.drop i = A ++ r → endAt ds i 1 = some (i + A.length)) : FlatOk ds a cap (⟨6, tx, n⟩ :: (A ++ C)) (if (fA && fC) = true then sA ++ sC else ⟨#[]⟩) (fA && fC) := by
  intro i r w hd hN
  obtain ⟨hi, e1, e2⟩ := drop_head (x := ⟨6, tx, n⟩) (r := (A ++ C) ++ r) hd
  obtain ⟨b0, o0, ea, hlt, c1, c2, c3⟩ := hN i hi
  subst ea
  rw [e1] at c1 c2 c3
  dsimp only at c1 c2 c3
  have HD : Hid (ds.drop (i + 1) = (A ++ C) ++ r) := e2
  have HN : Hid (Nods w (some ⟨b0, o0, none⟩) ds) := hN
  have HA : Hid (FlatOk ds (some ⟨b0, o0, none⟩) cap A sA fA) := hA
  have HC : Hid (FlatOk ds (some ⟨b0, o0, none⟩) cap C sC fC) := hC
  have HI : Hid (((i + 1 : Nat) : Int) = (i : Int) + 1) := (show _ = _ by omega)
  rw [List.append_assoc] at HD
  have HE : Hid (endAt ds (i + 1) 1 = some (i + 1 + A.length)) := hE (i + 1) (C ++ r) HD.out
  have HD2 : Hid (ds.drop (i + 1 + A.length) = C ++ r) := drop_more HD.out
  clear hd e1 e2 hN hA hC hE
  cases fA <;> cases fC
  all_goals
    go_enter Tryd.func26, Tryd.ntmps26
    go_wp2_with fail
    rw [← HI.out]
    refine (HA.out (i + 1) (C ++ r) _ HD.out HN.out).mono ?_
    rintro e w2 ⟨rfl, hB2⟩
    go_wp2_with fail
    rw [← HI.out]
    refine (rendOf_any ds _ cap hl (ds.length + 1) (i + 1) w2 (HN.out.below hB2) (by omega) (by omega)).mono ?_
    rintro e w3 ⟨rfl, rfl⟩
    rw [HE.out]
    have hz : endZ (some (i + 1 + A.length)) = ((i + 1 + A.length : Nat) : Int) := rfl
    rw [hz]
    generalize hj : i + 1 + A.length = j at HD2 ⊢
    clear hz hj
    go_wp2_with fail
    refine (HC.out j r w2 HD2.out (HN.out.below hB2)).mono ?_
    rintro e w4 ⟨rfl, hb4⟩
    go_wp2
    go_ret2
    exact ⟨rfl, belowT hB2 (Nat.le_refl _) hb4⟩
end Go.Proofs.YtfabfclbnekleaaDoor
namespace Go.Proofs.YtfabfclbnekleaaDoor
open Go Go.RowKit

set_option maxRecDepth 100000 in
set_option maxHeartbeats 4000000 in
theorem flatOf_7 (ds : List Nd) (a : Option Addr) (cap : Nat) (hl : ds.length ≤ 400) (tx : ByteArray) (n : Int) (A : List Nd) (sA : ByteArray) (fA : Bool) (hA : FlatOk ds a cap A sA fA) : FlatOk ds a cap (⟨7, tx, n⟩ :: A) (sA) (fA) := by
  intro i r w hd hN
  obtain ⟨hi, e1, e2⟩ := drop_head (x := ⟨7, tx, n⟩) (r := A ++ r) hd
  obtain ⟨b0, o0, ea, hlt, c1, c2, c3⟩ := hN i hi
  subst ea
  rw [e1] at c1 c2 c3
  dsimp only at c1 c2 c3
  have HD : Hid (ds.drop (i + 1) = A ++ r) := e2
  have HN : Hid (Nods w (some ⟨b0, o0, none⟩) ds) := hN
  have HA : Hid (FlatOk ds (some ⟨b0, o0, none⟩) cap A sA fA) := hA
  have HI : Hid (((i + 1 : Nat) : Int) = (i : Int) + 1) := (show _ = _ by omega)
  clear hd e1 e2 hN hA
  go_enter Tryd.func26, Tryd.ntmps26
  go_wp2_with fail
  rw [← HI.out]
  refine (HA.out (i + 1) _ _ HD.out HN.out).mono ?_
  rintro e w2 ⟨rfl, hb2⟩
  go_wp2
  go_ret2
  exact ⟨rfl, hb2⟩

set_option maxRecDepth 100000 in
set_option maxHeartbeats 4000000 in
theorem flatOf_8 (ds : List Nd) (a : Option Addr) (cap : Nat) (hl : ds.length ≤ 400) (tx : ByteArray) (n : Int) (A : List Nd) (sA : ByteArray) (fA : Bool) (hA : FlatOk ds a cap A sA fA) : FlatOk ds a cap (⟨8, tx, n⟩ :: A) (sA) (fA) := by
  intro i r w hd hN
  obtain ⟨hi, e1, e2⟩ := drop_head (x := ⟨8, tx, n⟩) (r := A ++ r) hd
  obtain ⟨b0, o0, ea, hlt, c1, c2, c3⟩ := hN i hi
  subst ea
  rw [e1] at c1 c2 c3
  dsimp only at c1 c2 c3
  have HD : Hid (ds.drop (i + 1) = A ++ r) := e2
  have HN : Hid (Nods w (some ⟨b0, o0, none⟩) ds) := hN
  have HA : Hid (FlatOk ds (some ⟨b0, o0, none⟩) cap A sA fA) := hA
  have HI : Hid (((i + 1 : Nat) : Int) = (i : Int) + 1) := (show _ = _ by omega)
  clear hd e1 e2 hN hA
  go_enter Tryd.func26, Tryd.ntmps26
  go_wp2_with fail
  rw [← HI.out]
  refine (HA.out (i + 1) _ _ HD.out HN.out).mono ?_
  rintro e w2 ⟨rfl, hb2⟩
  go_wp2
  go_ret2
  exact ⟨rfl, hb2⟩

set_option maxRecDepth 100000 in
set_option maxHeartbeats 4000000 in
theorem flatOf_9 (ds : List Nd) (a : Option Addr) (cap : Nat) (hl : ds.length ≤ 400) (tx : ByteArray) (n : Int) (A C : List Nd) (sA : ByteArray) (fA : Bool) (hA : FlatOk ds a cap A sA fA) : FlatOk ds a cap (⟨9, tx, n⟩ :: (A ++ C)) (sA) (fA) := by
  intro i r w hd hN
  obtain ⟨hi, e1, e2⟩ := drop_head (x := ⟨9, tx, n⟩) (r := (A ++ C) ++ r) hd
  obtain ⟨b0, o0, ea, hlt, c1, c2, c3⟩ := hN i hi
  subst ea
  rw [e1] at c1 c2 c3
  dsimp only at c1 c2 c3
  have HD : Hid (ds.drop (i + 1) = (A ++ C) ++ r) := e2
  have HN : Hid (Nods w (some ⟨b0, o0, none⟩) ds) := hN
  rw [List.append_assoc] at HD
  have HA : Hid (FlatOk ds (some ⟨b0, o0, none⟩) cap A sA fA) := hA
  have HI : Hid (((i + 1 : Nat) : Int) = (i : Int) + 1) := (show _ = _ by omega)
  clear hd e1 e2 hN hA
  go_enter Tryd.func26, Tryd.ntmps26
  go_wp2_with fail
  rw [← HI.out]
  refine (HA.out (i + 1) _ _ HD.out HN.out).mono ?_
  rintro e w2 ⟨rfl, hb2⟩
  go_wp2
  go_ret2
  exact ⟨rfl, hb2⟩
end Go.Proofs.YtfabfclbnekleaaDoor
namespace Go.Proofs.YtfabfclbnekleaaDoor
open Go Go.RowKit

theorem isFlat_two {x : Nd} {a c : Tr} (h : x.op = 6) : Tr.line (.two x a c) = (if (a.isFlat && c.isFlat) = true then a.line ++ c.line else ⟨#[]⟩) ∧ Tr.isFlat (.two x a c) = (a.isFlat && c.isFlat) := by
  unfold Tr.line Tr.isFlat
  simp only [Tr.flat, if_pos h]
  cases ha : a.flat with
  | none => simp
  | some s =>
    cases hc : c.flat with
    | none => simp
    | some t => exact ⟨bytes_inj (by simp), by simp⟩

theorem flatOf_any (ds : List Nd) (a : Option Addr) (cap : Nat) (hl : ds.length ≤ 400) : ∀ t : Tr, t.Wf → t.nodes.length ≤ 400 → FlatOk ds a cap t.nodes t.line t.isFlat
  | .leaf ⟨op, tx, n⟩, h, hn => by
    rcases leaf_op h.1 h.2 with e | e | e | e | e
    all_goals (simp only at e; subst e)
    · have es : Tr.line (.leaf ⟨1, tx, n⟩) = tx := bytes_inj (by rw [line_list]; simp [Tr.flat])
      rw [es]
      exact flatOf_1 ds a cap tx n
    · exact flatOf_2 ds a cap tx n
    · exact flatOf_3 ds a cap tx n
    · exact flatOf_4 ds a cap tx n
    · exact flatOf_5 ds a cap tx n
  | .one ⟨op, tx, n⟩ a', h, hn => by
    have hn' : a'.nodes.length ≤ 400 := by simp [Tr.nodes] at hn; omega
    rcases one_op h.2.1 with e | e
    all_goals (simp only at e; subst e)
    · exact flatOf_7 ds a cap hl tx n _ _ _ (flatOf_any ds a cap hl a' h.2.2 hn')
    · exact flatOf_8 ds a cap hl tx n _ _ _ (flatOf_any ds a cap hl a' h.2.2 hn')
  | .two ⟨op, tx, n⟩ a' c, h, hn => by
    have hn1 : a'.nodes.length ≤ 400 := by simp [Tr.nodes] at hn; omega
    have hn2 : c.nodes.length ≤ 400 := by simp [Tr.nodes] at hn; omega
    have hs1 : a'.line.size ≤ 8800 := by have := flat_le a' h.2.2.1; rw [line_size]; omega
    have hs2 : c.line.size ≤ 8800 := by have := flat_le c h.2.2.2; rw [line_size]; omega
    rcases two_op h.2.1 with e | e
    all_goals (simp only at e; subst e)
    · obtain ⟨e1, e2⟩ := isFlat_two (x := ⟨6, tx, n⟩) (a := a') (c := c) rfl
      rw [e1, e2]
      exact flatOf_6 ds a cap hl tx n _ _ _ _ _ _ (flatOf_any ds a cap hl a' h.2.2.1 hn1) (flatOf_any ds a cap hl c h.2.2.2 hn2) hs1 hs2 fun i r hd => endAt_tree h.2.2.1 hd
    · exact flatOf_9 ds a cap hl tx n _ _ _ _ (flatOf_any ds a cap hl a' h.2.2.1 hn1)

/-- The document's line of a doc. -/
theorem rflat_ok {t : Tr} (h : t.Wf) (hl : t.nodes.length ≤ 400) (a : Option Addr) (cap : Nat) (w : World) (hN : Nods w a t.nodes) :
    Calls Tryd.prog 26 #[.slice a t.nodes.length cap, .int .i64 0] w fun e w' => e = .returned (.tuple #[.string t.line, .bool t.isFlat]) ∧ Below w.heap.size w w' :=
  flatOf_any t.nodes a cap hl t h hl 0 [] w (by simp) hN
end Go.Proofs.YtfabfclbnekleaaDoor
