/- Some texts as one: FWalk1, FWalk6, FWalk8. -/
import Derived.Test.YtnfhiiefdmjdbaaDoorFWalk
namespace Go.Proofs.YtnfhiiefdmjdbaaDoor
open Go Go.RowKit

set_option maxRecDepth 100000 in
set_option maxHeartbeats 2000000 in
theorem fwalk_1 (B b s be bf : Nat) (_hb : s < B ∧ be < B ∧ bf < B) (_hB : B ≤ b) (ds : List Nd) (a : Option Addr) (cap : Nat) (_hl : ds.length ≤ 400) (tx : ByteArray) (n : Int) : FWalkOk B b s be bf ds a cap (⟨1, tx, n⟩ :: []) (fun rest => ([], rest)) := by
  intro i r pre rest g w hd hC hF hsz hBw
  obtain ⟨hi, e1, e2⟩ := drop_cons (x := ⟨1, tx, n⟩) (A := [] ++ r) hd
  obtain ⟨o0, ea, d1, _, _⟩ := hC.nd i hi
  subst ea
  rw [e1] at d1
  dsimp only at d1
  have HF : Hid (FS B b (plF be bf ds.length cap (some ⟨s, o0, none⟩)) (pre ++ rest) pre.length g w) := hF
  have hrow := hF.row
  obtain ⟨v, hbk, _, _, _⟩ := hF
  obtain ⟨c0, c1, c2, _, _, _, _⟩ := fcell hbk
  have hiI : (i : Int) < (ds.length : Int) := by omega
  have HC : Hid (FC s be bf (some ⟨s, o0, none⟩) ds w) := hC
  have HD1 : Hid (ds.drop (i + 1) = [] ++ r) := e2
  have HX : Hid (((i + 1 : Nat) : Int) = (i : Int) + 1) := (show _ = _ by omega)
  have HR : Hid (∀ k, g = some k → B ≤ k) := hrow
  clear hC hbk hd e1 e2 hrow
  go_enter Tryd.func48, Tryd.ntmps48
  go_wp2
  go_end0
  exact ⟨rfl, g, HF.out, FKeep.refl _ _ _⟩

set_option maxRecDepth 100000 in
set_option maxHeartbeats 2000000 in
theorem fwalk_2 (B b s be bf : Nat) (_hb : s < B ∧ be < B ∧ bf < B) (_hB : B ≤ b) (ds : List Nd) (a : Option Addr) (cap : Nat) (_hl : ds.length ≤ 400) (tx : ByteArray) (n : Int) : FWalkOk B b s be bf ds a cap (⟨2, tx, n⟩ :: []) (fun rest => ([], rest)) := by
  intro i r pre rest g w hd hC hF hsz hBw
  obtain ⟨hi, e1, e2⟩ := drop_cons (x := ⟨2, tx, n⟩) (A := [] ++ r) hd
  obtain ⟨o0, ea, d1, _, _⟩ := hC.nd i hi
  subst ea
  rw [e1] at d1
  dsimp only at d1
  have HF : Hid (FS B b (plF be bf ds.length cap (some ⟨s, o0, none⟩)) (pre ++ rest) pre.length g w) := hF
  have hrow := hF.row
  obtain ⟨v, hbk, _, _, _⟩ := hF
  obtain ⟨c0, c1, c2, _, _, _, _⟩ := fcell hbk
  have hiI : (i : Int) < (ds.length : Int) := by omega
  have HC : Hid (FC s be bf (some ⟨s, o0, none⟩) ds w) := hC
  have HD1 : Hid (ds.drop (i + 1) = [] ++ r) := e2
  have HX : Hid (((i + 1 : Nat) : Int) = (i : Int) + 1) := (show _ = _ by omega)
  have HR : Hid (∀ k, g = some k → B ≤ k) := hrow
  clear hC hbk hd e1 e2 hrow
  go_enter Tryd.func48, Tryd.ntmps48
  go_wp2
  go_end0
  exact ⟨rfl, g, HF.out, FKeep.refl _ _ _⟩

set_option maxRecDepth 100000 in
set_option maxHeartbeats 2000000 in
theorem fwalk_3 (B b s be bf : Nat) (_hb : s < B ∧ be < B ∧ bf < B) (_hB : B ≤ b) (ds : List Nd) (a : Option Addr) (cap : Nat) (_hl : ds.length ≤ 400) (tx : ByteArray) (n : Int) : FWalkOk B b s be bf ds a cap (⟨3, tx, n⟩ :: []) (fun rest => ([], rest)) := by
  intro i r pre rest g w hd hC hF hsz hBw
  obtain ⟨hi, e1, e2⟩ := drop_cons (x := ⟨3, tx, n⟩) (A := [] ++ r) hd
  obtain ⟨o0, ea, d1, _, _⟩ := hC.nd i hi
  subst ea
  rw [e1] at d1
  dsimp only at d1
  have HF : Hid (FS B b (plF be bf ds.length cap (some ⟨s, o0, none⟩)) (pre ++ rest) pre.length g w) := hF
  have hrow := hF.row
  obtain ⟨v, hbk, _, _, _⟩ := hF
  obtain ⟨c0, c1, c2, _, _, _, _⟩ := fcell hbk
  have hiI : (i : Int) < (ds.length : Int) := by omega
  have HC : Hid (FC s be bf (some ⟨s, o0, none⟩) ds w) := hC
  have HD1 : Hid (ds.drop (i + 1) = [] ++ r) := e2
  have HX : Hid (((i + 1 : Nat) : Int) = (i : Int) + 1) := (show _ = _ by omega)
  have HR : Hid (∀ k, g = some k → B ≤ k) := hrow
  clear hC hbk hd e1 e2 hrow
  go_enter Tryd.func48, Tryd.ntmps48
  go_wp2
  go_end0
  exact ⟨rfl, g, HF.out, FKeep.refl _ _ _⟩

set_option maxRecDepth 100000 in
set_option maxHeartbeats 2000000 in
theorem fwalk_4 (B b s be bf : Nat) (_hb : s < B ∧ be < B ∧ bf < B) (_hB : B ≤ b) (ds : List Nd) (a : Option Addr) (cap : Nat) (_hl : ds.length ≤ 400) (tx : ByteArray) (n : Int) : FWalkOk B b s be bf ds a cap (⟨4, tx, n⟩ :: []) (fun rest => ([], rest)) := by
  intro i r pre rest g w hd hC hF hsz hBw
  obtain ⟨hi, e1, e2⟩ := drop_cons (x := ⟨4, tx, n⟩) (A := [] ++ r) hd
  obtain ⟨o0, ea, d1, _, _⟩ := hC.nd i hi
  subst ea
  rw [e1] at d1
  dsimp only at d1
  have HF : Hid (FS B b (plF be bf ds.length cap (some ⟨s, o0, none⟩)) (pre ++ rest) pre.length g w) := hF
  have hrow := hF.row
  obtain ⟨v, hbk, _, _, _⟩ := hF
  obtain ⟨c0, c1, c2, _, _, _, _⟩ := fcell hbk
  have hiI : (i : Int) < (ds.length : Int) := by omega
  have HC : Hid (FC s be bf (some ⟨s, o0, none⟩) ds w) := hC
  have HD1 : Hid (ds.drop (i + 1) = [] ++ r) := e2
  have HX : Hid (((i + 1 : Nat) : Int) = (i : Int) + 1) := (show _ = _ by omega)
  have HR : Hid (∀ k, g = some k → B ≤ k) := hrow
  clear hC hbk hd e1 e2 hrow
  go_enter Tryd.func48, Tryd.ntmps48
  go_wp2
  go_end0
  exact ⟨rfl, g, HF.out, FKeep.refl _ _ _⟩

set_option maxRecDepth 100000 in
set_option maxHeartbeats 2000000 in
theorem fwalk_5 (B b s be bf : Nat) (_hb : s < B ∧ be < B ∧ bf < B) (_hB : B ≤ b) (ds : List Nd) (a : Option Addr) (cap : Nat) (_hl : ds.length ≤ 400) (tx : ByteArray) (n : Int) : FWalkOk B b s be bf ds a cap (⟨5, tx, n⟩ :: []) (fun rest => ([], rest)) := by
  intro i r pre rest g w hd hC hF hsz hBw
  obtain ⟨hi, e1, e2⟩ := drop_cons (x := ⟨5, tx, n⟩) (A := [] ++ r) hd
  obtain ⟨o0, ea, d1, _, _⟩ := hC.nd i hi
  subst ea
  rw [e1] at d1
  dsimp only at d1
  have HF : Hid (FS B b (plF be bf ds.length cap (some ⟨s, o0, none⟩)) (pre ++ rest) pre.length g w) := hF
  have hrow := hF.row
  obtain ⟨v, hbk, _, _, _⟩ := hF
  obtain ⟨c0, c1, c2, _, _, _, _⟩ := fcell hbk
  have hiI : (i : Int) < (ds.length : Int) := by omega
  have HC : Hid (FC s be bf (some ⟨s, o0, none⟩) ds w) := hC
  have HD1 : Hid (ds.drop (i + 1) = [] ++ r) := e2
  have HX : Hid (((i + 1 : Nat) : Int) = (i : Int) + 1) := (show _ = _ by omega)
  have HR : Hid (∀ k, g = some k → B ≤ k) := hrow
  clear hC hbk hd e1 e2 hrow
  go_enter Tryd.func48, Tryd.ntmps48
  go_wp2
  go_end0
  exact ⟨rfl, g, HF.out, FKeep.refl _ _ _⟩
end Go.Proofs.YtnfhiiefdmjdbaaDoor
namespace Go.Proofs.YtnfhiiefdmjdbaaDoor
open Go Go.RowKit

set_option maxRecDepth 100000 in
set_option maxHeartbeats 2000000 in
theorem fwalk_7 (B b s be bf : Nat) (_hb : s < B ∧ be < B ∧ bf < B) (_hB : B ≤ b) (ds : List Nd) (a : Option Addr) (cap : Nat) (_hl : ds.length ≤ 400) (tx : ByteArray) (n : Int) (A : List Nd) (f : List Int → List Int × List Int) (hA : FWalkOk B b s be bf ds a cap A f) : FWalkOk B b s be bf ds a cap (⟨7, tx, n⟩ :: A) (f) := by
  intro i r pre rest g w hd hC hF hsz hBw
  obtain ⟨hi, e1, e2⟩ := drop_cons (x := ⟨7, tx, n⟩) (A := A ++ r) hd
  obtain ⟨o0, ea, d1, _, _⟩ := hC.nd i hi
  subst ea
  rw [e1] at d1
  dsimp only at d1
  have HF : Hid (FS B b (plF be bf ds.length cap (some ⟨s, o0, none⟩)) (pre ++ rest) pre.length g w) := hF
  have hrow := hF.row
  obtain ⟨v, hbk, _, _, _⟩ := hF
  obtain ⟨c0, c1, c2, _, _, _, _⟩ := fcell hbk
  have hiI : (i : Int) < (ds.length : Int) := by omega
  have HC : Hid (FC s be bf (some ⟨s, o0, none⟩) ds w) := hC
  have HD1 : Hid (ds.drop (i + 1) = A ++ r) := e2
  have HX : Hid (((i + 1 : Nat) : Int) = (i : Int) + 1) := (show _ = _ by omega)
  have HR : Hid (∀ k, g = some k → B ≤ k) := hrow
  clear hC hbk hd e1 e2 hrow
  have HA : Hid (FWalkOk B b s be bf ds (some ⟨s, o0, none⟩) cap A f) := hA
  simp only [List.length_cons] at hsz
  clear hA
  go_enter Tryd.func48, Tryd.ntmps48
  go_wp2_with fail
  rw [← HX.out]
  refine (HA.out (i + 1) r pre rest g _ HD1.out HC.out HF.out (by omega) hBw).mono ?_
  rintro e w2 ⟨rfl, h2⟩
  go_wp2
  go_end0
  exact ⟨rfl, h2⟩

set_option maxRecDepth 100000 in
set_option maxHeartbeats 2000000 in
theorem fwalk_6 (B b s be bf : Nat) (hb : s < B ∧ be < B ∧ bf < B) (hB : B ≤ b) (ds : List Nd) (a : Option Addr) (cap : Nat) (hl : ds.length ≤ 400) (tx : ByteArray) (n : Int) (t : Tr) (ht : t.Wf) (C : List Nd) (f h : List Int → List Int × List Int) (hA : FWalkOk B b s be bf ds a cap t.nodes f) (hG : FWalkOk B b s be bf ds a cap C h) (hp : C ≠ []) (hlen : ∀ rest, (f rest).1.length + (f rest).2.length ≤ rest.length + t.nodes.length) : FWalkOk B b s be bf ds a cap (⟨6, tx, n⟩ :: (t.nodes ++ C)) (fun rest => ((f rest).1 ++ (h (f rest).2).1, (h (f rest).2).2)) := by
  intro i r pre rest g w hd hC hF hsz hBw
  obtain ⟨hi, e1, e2⟩ := drop_cons (x := ⟨6, tx, n⟩) (A := (t.nodes ++ C) ++ r) hd
  obtain ⟨o0, ea, d1, _, _⟩ := hC.nd i hi
  subst ea
  rw [e1] at d1
  dsimp only at d1
  have HF : Hid (FS B b (plF be bf ds.length cap (some ⟨s, o0, none⟩)) (pre ++ rest) pre.length g w) := hF
  have hrow := hF.row
  obtain ⟨v, hbk, _, _, _⟩ := hF
  obtain ⟨c0, c1, c2, _, _, _, _⟩ := fcell hbk
  have hiI : (i : Int) < (ds.length : Int) := by omega
  have HC : Hid (FC s be bf (some ⟨s, o0, none⟩) ds w) := hC
  have HD1 : Hid (ds.drop (i + 1) = (t.nodes ++ C) ++ r) := e2
  have HX : Hid (((i + 1 : Nat) : Int) = (i : Int) + 1) := (show _ = _ by omega)
  have HR : Hid (∀ k, g = some k → B ≤ k) := hrow
  clear hC hbk hd e1 e2 hrow
  have HA : Hid (FWalkOk B b s be bf ds (some ⟨s, o0, none⟩) cap t.nodes f) := hA
  have HG : Hid (FWalkOk B b s be bf ds (some ⟨s, o0, none⟩) cap C h) := hG
  have hd1 := HD1.out
  rw [List.append_assoc] at hd1
  have HD2 : Hid (ds.drop (i + 1) = t.nodes ++ (C ++ r)) := hd1
  have hi1 : (i : Int) + 1 < (ds.length : Int) := by
    have := congrArg List.length hd1
    have h2 := List.length_pos_iff.2 hp
    rw [List.length_drop, List.length_append, List.length_append] at this
    omega
  have hfl := hlen rest
  simp only [List.length_cons, List.length_append] at hsz
  clear hA hG hd1 hlen hp
  go_enter Tryd.func48, Tryd.ntmps48
  go_wp2_with fail
  rw [← HX.out]
  refine (HA.out (i + 1) (C ++ r) pre rest g _ HD2.out HC.out HF.out (by omega) hBw).mono ?_
  rintro e w2 ⟨rfl, g2, h2, k2⟩
  have HF2 : Hid (FS B b (plF be bf ds.length cap (some ⟨s, o0, none⟩)) ((pre ++ (f rest).1) ++ (f rest).2) (pre ++ (f rest).1).length g2 w2) := by
    show FS _ _ _ _ _ _ _
    rw [List.append_assoc, List.length_append]
    exact h2
  have HB2 : Hid (Below B w w2) := k2.below hB HR.out hBw
  have HC2 : Hid (FC s be bf (some ⟨s, o0, none⟩) ds w2) := HC.out.below hb HB2.out
  have HK2 : Hid (FKeep b g g2 w w2) := k2
  obtain ⟨v2, hbk2, _, _, _⟩ := h2
  obtain ⟨_, e1, _, _, _, _, _⟩ := fcell hbk2
  have ge := (HC2.out.kn (i + 1) t (C ++ r) (Nat.zero_le _) ht HD2.out).1
  have hsz2 := HB2.out.size
  clear hbk2 k2
  go_wp2_with fail
  refine (HG.out (i + 1 + t.nodes.length) r (pre ++ (f rest).1) (f rest).2 g2 _ (drop_app HD2.out) HC2.out HF2.out (by rw [List.length_append]; omega) (by omega)).mono ?_
  rintro e w3 ⟨rfl, g3, h3, k3⟩
  go_wp2
  go_end0
  refine ⟨rfl, g3, ?_, HK2.out.trans k3⟩
  have e1 : pre ++ (((f rest).1 ++ (h (f rest).2).1) ++ (h (f rest).2).2) = pre ++ (f rest).1 ++ ((h (f rest).2).1 ++ (h (f rest).2).2) := by simp
  have e2 : pre.length + ((f rest).1 ++ (h (f rest).2).1).length = (pre ++ (f rest).1).length + (h (f rest).2).1.length := by simp; omega
  dsimp only
  rw [e1, e2]
  exact h3
end Go.Proofs.YtnfhiiefdmjdbaaDoor
namespace Go.Proofs.YtnfhiiefdmjdbaaDoor
open Go Go.RowKit

set_option maxRecDepth 100000 in
set_option maxHeartbeats 2000000 in
theorem fw8_1 {b s bf o0 n cap : Nat} (i : Nat) (m : Bool) (c : Int) (w : World) (P Q : World → Prop) (c0 : w.cell? ⟨b, 0, none⟩ = some (.slice (some ⟨s, o0, none⟩) n cap)) (d1 : w.cell? ⟨s, o0 + i * 3, none⟩ = some (.int .i64 8)) (hiI : (i : Int) < (n : Int)) (hn : n ≤ 400) (c2 : w.cell? ⟨b, 2, none⟩ = some (.slice (some ⟨bf, 0, none⟩) n n)) (d2 : w.cell? ⟨bf, i, none⟩ = some (.bool m)) (hc : c = 1) (H1 : Calls Tryd.prog 67 #[.pointer (some ⟨b, 0, none⟩), .bool m] w fun e w' => e = .returned (.int .i64 c) ∧ P w')
    (H2 : ∀ w', P w' → Calls Tryd.prog 48 #[.pointer (some ⟨b, 0, none⟩), .int .i64 ((i : Int) + 1)] w' fun e w'' => e = .returned (.tuple #[]) ∧ Q w'') :
    Calls Tryd.prog 48 #[.pointer (some ⟨b, 0, none⟩), .int .i64 i] w fun e w' => e = .returned (.tuple #[]) ∧ Q w' := by
  have HH1 : Hid (Calls Tryd.prog 67 #[.pointer (some ⟨b, 0, none⟩), .bool m] w fun e w' => e = .returned (.int .i64 c) ∧ P w') := H1
  have HH2 : Hid (∀ w', P w' → Calls Tryd.prog 48 #[.pointer (some ⟨b, 0, none⟩), .int .i64 ((i : Int) + 1)] w' fun e w'' => e = .returned (.tuple #[]) ∧ Q w'') := H2
  clear H1 H2
  subst hc
  go_enter Tryd.func48, Tryd.ntmps48
  go_wp2_with fail
  refine HH1.out.mono ?_
  rintro e w2 ⟨rfl, hp⟩
  have HP : Hid (P w2) := hp
  clear hp
  go_wp2_with fail
  refine (HH2.out _ HP.out).mono ?_
  rintro e w3 ⟨rfl, hq⟩
  go_wp2
  go_end0
  exact ⟨rfl, hq⟩

set_option maxRecDepth 100000 in
set_option maxHeartbeats 2000000 in
theorem fw8_n {b s bf o0 n cap : Nat} (i : Nat) (m : Bool) (c : Int) (w : World) (P Q : World → Prop) (c0 : w.cell? ⟨b, 0, none⟩ = some (.slice (some ⟨s, o0, none⟩) n cap)) (d1 : w.cell? ⟨s, o0 + i * 3, none⟩ = some (.int .i64 8)) (hiI : (i : Int) < (n : Int)) (_hn : n ≤ 400) (c2 : w.cell? ⟨b, 2, none⟩ = some (.slice (some ⟨bf, 0, none⟩) n n)) (d2 : w.cell? ⟨bf, i, none⟩ = some (.bool m)) (hc : c ≠ 1) (H1 : Calls Tryd.prog 67 #[.pointer (some ⟨b, 0, none⟩), .bool m] w fun e w' => e = .returned (.int .i64 c) ∧ P w')
    (H2 : ∀ w', P w' → Q w') :
    Calls Tryd.prog 48 #[.pointer (some ⟨b, 0, none⟩), .int .i64 i] w fun e w' => e = .returned (.tuple #[]) ∧ Q w' := by
  have HH1 : Hid (Calls Tryd.prog 67 #[.pointer (some ⟨b, 0, none⟩), .bool m] w fun e w' => e = .returned (.int .i64 c) ∧ P w') := H1
  have HH2 : Hid (∀ w', P w' → Q w') := H2
  clear H1 H2
  have hc' : (c == 1) = false := beq_eq_false_iff_ne.2 hc
  clear hc
  go_enter Tryd.func48, Tryd.ntmps48
  go_wp2_with fail
  refine HH1.out.mono ?_
  rintro e w2 ⟨rfl, hp⟩
  have HP : Hid (P w2) := hp
  clear hp
  go_wp2
  go_end0
  exact ⟨rfl, HH2.out _ HP.out⟩

set_option maxRecDepth 100000 in
set_option maxHeartbeats 2000000 in
theorem fw9_0 {b s o0 n cap : Nat} (i : Nat) (c : Int) (w : World) (P Q : World → Prop) (c0 : w.cell? ⟨b, 0, none⟩ = some (.slice (some ⟨s, o0, none⟩) n cap)) (d1 : w.cell? ⟨s, o0 + i * 3, none⟩ = some (.int .i64 9)) (hiI : (i : Int) < (n : Int)) (hn : n ≤ 400) (hc : c = 0) (H1 : Calls Tryd.prog 67 #[.pointer (some ⟨b, 0, none⟩), .bool true] w fun e w' => e = .returned (.int .i64 c) ∧ P w')
    (H2 : ∀ w', P w' → Calls Tryd.prog 48 #[.pointer (some ⟨b, 0, none⟩), .int .i64 ((i : Int) + 1)] w' fun e w'' => e = .returned (.tuple #[]) ∧ Q w'') :
    Calls Tryd.prog 48 #[.pointer (some ⟨b, 0, none⟩), .int .i64 i] w fun e w' => e = .returned (.tuple #[]) ∧ Q w' := by
  have HH1 : Hid (Calls Tryd.prog 67 #[.pointer (some ⟨b, 0, none⟩), .bool true] w fun e w' => e = .returned (.int .i64 c) ∧ P w') := H1
  have HH2 : Hid (∀ w', P w' → Calls Tryd.prog 48 #[.pointer (some ⟨b, 0, none⟩), .int .i64 ((i : Int) + 1)] w' fun e w'' => e = .returned (.tuple #[]) ∧ Q w'') := H2
  clear H1 H2
  subst hc
  go_enter Tryd.func48, Tryd.ntmps48
  go_wp2_with fail
  refine HH1.out.mono ?_
  rintro e w2 ⟨rfl, hp⟩
  have HP : Hid (P w2) := hp
  clear hp
  go_wp2_with fail
  refine (HH2.out _ HP.out).mono ?_
  rintro e w3 ⟨rfl, hq⟩
  go_wp2
  go_end0
  exact ⟨rfl, hq⟩

set_option maxRecDepth 100000 in
set_option maxHeartbeats 2000000 in
theorem fw9_n {b s be o0 n cap : Nat} (i j : Nat) (c : Int) (w : World) (P Q : World → Prop) (c0 : w.cell? ⟨b, 0, none⟩ = some (.slice (some ⟨s, o0, none⟩) n cap)) (d1 : w.cell? ⟨s, o0 + i * 3, none⟩ = some (.int .i64 9)) (hiI : (i : Int) < (n : Int)) (hn : n ≤ 400) (hc : c ≠ 0) (hi1 : (i : Int) + 1 < (n : Int)) (hT : ∀ w', P w' → w'.cell? ⟨b, 1, none⟩ = some (.slice (some ⟨be, 0, none⟩) n n) ∧ w'.cell? ⟨be, i + 1, none⟩ = some (.int .i64 (j : Int))) (H1 : Calls Tryd.prog 67 #[.pointer (some ⟨b, 0, none⟩), .bool true] w fun e w' => e = .returned (.int .i64 c) ∧ P w')
    (H2 : ∀ w', P w' → Calls Tryd.prog 48 #[.pointer (some ⟨b, 0, none⟩), .int .i64 (j : Int)] w' fun e w'' => e = .returned (.tuple #[]) ∧ Q w'') :
    Calls Tryd.prog 48 #[.pointer (some ⟨b, 0, none⟩), .int .i64 i] w fun e w' => e = .returned (.tuple #[]) ∧ Q w' := by
  have HH1 : Hid (Calls Tryd.prog 67 #[.pointer (some ⟨b, 0, none⟩), .bool true] w fun e w' => e = .returned (.int .i64 c) ∧ P w') := H1
  have HH2 : Hid (∀ w', P w' → Calls Tryd.prog 48 #[.pointer (some ⟨b, 0, none⟩), .int .i64 (j : Int)] w' fun e w'' => e = .returned (.tuple #[]) ∧ Q w'') := H2
  clear H1 H2
  have hc' : (c == 0) = false := beq_eq_false_iff_ne.2 hc
  have HT : Hid (∀ w', P w' → w'.cell? ⟨b, 1, none⟩ = some (.slice (some ⟨be, 0, none⟩) n n) ∧ w'.cell? ⟨be, i + 1, none⟩ = some (.int .i64 (j : Int))) := hT
  clear hc hT
  go_enter Tryd.func48, Tryd.ntmps48
  go_wp2_with fail
  refine HH1.out.mono ?_
  rintro e w2 ⟨rfl, hp⟩
  have HP : Hid (P w2) := hp
  obtain ⟨t1, t2⟩ := HT.out _ hp
  clear hp
  go_wp2_with fail
  refine (HH2.out _ HP.out).mono ?_
  rintro e w3 ⟨rfl, hq⟩
  go_wp2
  go_end0
  exact ⟨rfl, hq⟩
end Go.Proofs.YtnfhiiefdmjdbaaDoor
