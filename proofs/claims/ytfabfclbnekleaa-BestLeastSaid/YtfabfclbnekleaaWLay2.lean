/- (*way.writer)'s calls, some ways. (Made by tools/gen_wlay.py.) -/
import Derived.Test.YtfabfclbnekleaaWLay
namespace Go.Proofs.Ytfabfclbnekleaa
open Go Go.RowKit

set_option maxRecDepth 100000 in
set_option maxHeartbeats 4000000 in
theorem wlay_2 (B b s be bf : Nat) (_hb : s < B ∧ be < B ∧ bf < B) (hB : B ≤ b) (ds : List Nd) (a : Option Addr) (cap : Nat) (_hl : ds.length ≤ 400) (tx : ByteArray) (n : Int) : WLayOk B b s be bf ds a cap (⟨2, tx, n⟩ :: []) (fun deep ws => .ok (10 :: List.replicate deep 32, ws)) := by
  intro i r deep ws wa wc l w hd hC hI _ hwc hW hdeep hsz
  obtain ⟨hi, e1, e2⟩ := drop_cons (x := ⟨2, tx, n⟩) (A := [] ++ r) hd
  obtain ⟨o0, ea, d1, d2, d3⟩ := hC.nd i hi
  subst ea
  rw [e1] at d1 d2 d3
  dsimp only at d1 d2 d3
  have c0 := hW.c0
  have c1 := hW.c1
  have c2 := hW.c2
  have c5 := hW.c5
  have hlt := hW.lt
  have hs0 : s < w.heap.size := by omega
  have hbs : B ≤ w.heap.size := by omega
  have hiI : (i : Int) < (ds.length : Int) := by omega
  have HD : Hid (ds.drop i = ⟨2, tx, n⟩ :: ([] ++ r)) := hd
  have HD1 : Hid (ds.drop (i + 1) = [] ++ r) := e2
  have HC : Hid (LC B s be bf (some ⟨s, o0, none⟩) ds w) := hC
  have HI : Hid (IntsB B w wa ws) := hI
  have HW : Hid (WS B b (plOf be bf ds.length cap (some ⟨s, o0, none⟩)) l (.slice wa ws.length wc) w) := hW
  have HA : Hid (∀ O : Obj, Below B w (w.alloc O)) := fun O => (Below.refl _ w).alloc hbs O
  clear hC hI hW hd e1 e2
  simp only [List.length_cons, List.length_nil] at hdeep hsz
  have hrs : (⟨(List.replicate deep 32).toArray⟩ : ByteArray).size ≤ 3300 := by rw [← size_list]; simp; omega
  have hrep : ∀ W : World, Calls Try.prog 49 #[.string ⟨#[32]⟩, .int .i64 deep] W fun e w' => e = .returned (.string ⟨(List.replicate deep 32).toArray⟩) ∧ Below W.heap.size W w' := fun W => rep_blank deep (by omega) W
  generalize hrp : (⟨(List.replicate deep 32).toArray⟩ : ByteArray) = rs at hrs hrep
  have HRP : Hid ((⟨(List.replicate deep 32).toArray⟩ : ByteArray) = rs) := hrp
  have HR : Hid (∀ W : World, Calls Try.prog 49 #[.string ⟨#[32]⟩, .int .i64 deep] W fun e w' => e = .returned (.string rs) ∧ Below W.heap.size W w') := hrep
  have HT : Hid (l ++ (⟨#[10]⟩ ++ rs : ByteArray).data.toList = l ++ 10 :: List.replicate deep 32) := (show _ = _ by rw [← hrp]; simp)
  have HLN : Hid (l.length + (⟨#[10]⟩ ++ rs : ByteArray).size ≤ 2000000000) := (show _ ≤ _ by rw [← size_list]; simp; omega)
  clear hrp hrep
  go_enter Try.func33, Try.ntmps33
  go_wp2_with fail
  go_region_with (first
    | (go_at_call 49; refine (HR.out _).mono ?_; rintro e w2 ⟨rfl, hb2⟩)
    | (go_at_call 44; refine (wstr (WS.below (WS.drew (HW.out.alloc _)) hb2) hB _ HLN.out).mono ?_; rintro e w3 ⟨⟨z, rfl⟩, h3, hb3⟩))
  all_goals
    go_wp2
    go_ret
    have hB3 : Below B w w3 := ((Below.drew (HA.out _)).trans (hb2.mono (by simp; omega))).trans hb3
    rw [HT.out] at h3
    exact ⟨⟨rfl, wa, wc, h3, HI.out.below hB3, hwc⟩, hB3⟩

set_option maxRecDepth 100000 in
set_option maxHeartbeats 4000000 in
theorem wlay_3 (B b s be bf : Nat) (_hb : s < B ∧ be < B ∧ bf < B) (hB : B ≤ b) (ds : List Nd) (a : Option Addr) (cap : Nat) (_hl : ds.length ≤ 400) (tx : ByteArray) (n : Int) : WLayOk B b s be bf ds a cap (⟨3, tx, n⟩ :: []) (fun deep ws => .ok (10 :: List.replicate deep 32, ws)) := by
  intro i r deep ws wa wc l w hd hC hI _ hwc hW hdeep hsz
  obtain ⟨hi, e1, e2⟩ := drop_cons (x := ⟨3, tx, n⟩) (A := [] ++ r) hd
  obtain ⟨o0, ea, d1, d2, d3⟩ := hC.nd i hi
  subst ea
  rw [e1] at d1 d2 d3
  dsimp only at d1 d2 d3
  have c0 := hW.c0
  have c1 := hW.c1
  have c2 := hW.c2
  have c5 := hW.c5
  have hlt := hW.lt
  have hs0 : s < w.heap.size := by omega
  have hbs : B ≤ w.heap.size := by omega
  have hiI : (i : Int) < (ds.length : Int) := by omega
  have HD : Hid (ds.drop i = ⟨3, tx, n⟩ :: ([] ++ r)) := hd
  have HD1 : Hid (ds.drop (i + 1) = [] ++ r) := e2
  have HC : Hid (LC B s be bf (some ⟨s, o0, none⟩) ds w) := hC
  have HI : Hid (IntsB B w wa ws) := hI
  have HW : Hid (WS B b (plOf be bf ds.length cap (some ⟨s, o0, none⟩)) l (.slice wa ws.length wc) w) := hW
  have HA : Hid (∀ O : Obj, Below B w (w.alloc O)) := fun O => (Below.refl _ w).alloc hbs O
  clear hC hI hW hd e1 e2
  simp only [List.length_cons, List.length_nil] at hdeep hsz
  have hrs : (⟨(List.replicate deep 32).toArray⟩ : ByteArray).size ≤ 3300 := by rw [← size_list]; simp; omega
  have hrep : ∀ W : World, Calls Try.prog 49 #[.string ⟨#[32]⟩, .int .i64 deep] W fun e w' => e = .returned (.string ⟨(List.replicate deep 32).toArray⟩) ∧ Below W.heap.size W w' := fun W => rep_blank deep (by omega) W
  generalize hrp : (⟨(List.replicate deep 32).toArray⟩ : ByteArray) = rs at hrs hrep
  have HRP : Hid ((⟨(List.replicate deep 32).toArray⟩ : ByteArray) = rs) := hrp
  have HR : Hid (∀ W : World, Calls Try.prog 49 #[.string ⟨#[32]⟩, .int .i64 deep] W fun e w' => e = .returned (.string rs) ∧ Below W.heap.size W w') := hrep
  have HT : Hid (l ++ (⟨#[10]⟩ ++ rs : ByteArray).data.toList = l ++ 10 :: List.replicate deep 32) := (show _ = _ by rw [← hrp]; simp)
  have HLN : Hid (l.length + (⟨#[10]⟩ ++ rs : ByteArray).size ≤ 2000000000) := (show _ ≤ _ by rw [← size_list]; simp; omega)
  clear hrp hrep
  go_enter Try.func33, Try.ntmps33
  go_wp2_with fail
  go_region_with (first
    | (go_at_call 49; refine (HR.out _).mono ?_; rintro e w2 ⟨rfl, hb2⟩)
    | (go_at_call 44; refine (wstr (WS.below (WS.drew (HW.out.alloc _)) hb2) hB _ HLN.out).mono ?_; rintro e w3 ⟨⟨z, rfl⟩, h3, hb3⟩))
  all_goals
    go_wp2
    go_ret
    have hB3 : Below B w w3 := ((Below.drew (HA.out _)).trans (hb2.mono (by simp; omega))).trans hb3
    rw [HT.out] at h3
    exact ⟨⟨rfl, wa, wc, h3, HI.out.below hB3, hwc⟩, hB3⟩

set_option maxRecDepth 100000 in
set_option maxHeartbeats 4000000 in
theorem wlay_4 (B b s be bf : Nat) (_hb : s < B ∧ be < B ∧ bf < B) (hB : B ≤ b) (ds : List Nd) (a : Option Addr) (cap : Nat) (_hl : ds.length ≤ 400) (tx : ByteArray) (n : Int) : WLayOk B b s be bf ds a cap (⟨4, tx, n⟩ :: []) (fun deep ws => .ok (10 :: List.replicate deep 32, ws)) := by
  intro i r deep ws wa wc l w hd hC hI _ hwc hW hdeep hsz
  obtain ⟨hi, e1, e2⟩ := drop_cons (x := ⟨4, tx, n⟩) (A := [] ++ r) hd
  obtain ⟨o0, ea, d1, d2, d3⟩ := hC.nd i hi
  subst ea
  rw [e1] at d1 d2 d3
  dsimp only at d1 d2 d3
  have c0 := hW.c0
  have c1 := hW.c1
  have c2 := hW.c2
  have c5 := hW.c5
  have hlt := hW.lt
  have hs0 : s < w.heap.size := by omega
  have hbs : B ≤ w.heap.size := by omega
  have hiI : (i : Int) < (ds.length : Int) := by omega
  have HD : Hid (ds.drop i = ⟨4, tx, n⟩ :: ([] ++ r)) := hd
  have HD1 : Hid (ds.drop (i + 1) = [] ++ r) := e2
  have HC : Hid (LC B s be bf (some ⟨s, o0, none⟩) ds w) := hC
  have HI : Hid (IntsB B w wa ws) := hI
  have HW : Hid (WS B b (plOf be bf ds.length cap (some ⟨s, o0, none⟩)) l (.slice wa ws.length wc) w) := hW
  have HA : Hid (∀ O : Obj, Below B w (w.alloc O)) := fun O => (Below.refl _ w).alloc hbs O
  clear hC hI hW hd e1 e2
  simp only [List.length_cons, List.length_nil] at hdeep hsz
  have hrs : (⟨(List.replicate deep 32).toArray⟩ : ByteArray).size ≤ 3300 := by rw [← size_list]; simp; omega
  have hrep : ∀ W : World, Calls Try.prog 49 #[.string ⟨#[32]⟩, .int .i64 deep] W fun e w' => e = .returned (.string ⟨(List.replicate deep 32).toArray⟩) ∧ Below W.heap.size W w' := fun W => rep_blank deep (by omega) W
  generalize hrp : (⟨(List.replicate deep 32).toArray⟩ : ByteArray) = rs at hrs hrep
  have HRP : Hid ((⟨(List.replicate deep 32).toArray⟩ : ByteArray) = rs) := hrp
  have HR : Hid (∀ W : World, Calls Try.prog 49 #[.string ⟨#[32]⟩, .int .i64 deep] W fun e w' => e = .returned (.string rs) ∧ Below W.heap.size W w') := hrep
  have HT : Hid (l ++ (⟨#[10]⟩ ++ rs : ByteArray).data.toList = l ++ 10 :: List.replicate deep 32) := (show _ = _ by rw [← hrp]; simp)
  have HLN : Hid (l.length + (⟨#[10]⟩ ++ rs : ByteArray).size ≤ 2000000000) := (show _ ≤ _ by rw [← size_list]; simp; omega)
  clear hrp hrep
  go_enter Try.func33, Try.ntmps33
  go_wp2_with fail
  go_region_with (first
    | (go_at_call 49; refine (HR.out _).mono ?_; rintro e w2 ⟨rfl, hb2⟩)
    | (go_at_call 44; refine (wstr (WS.below (WS.drew (HW.out.alloc _)) hb2) hB _ HLN.out).mono ?_; rintro e w3 ⟨⟨z, rfl⟩, h3, hb3⟩))
  all_goals
    go_wp2
    go_ret
    have hB3 : Below B w w3 := ((Below.drew (HA.out _)).trans (hb2.mono (by simp; omega))).trans hb3
    rw [HT.out] at h3
    exact ⟨⟨rfl, wa, wc, h3, HI.out.below hB3, hwc⟩, hB3⟩
end Go.Proofs.Ytfabfclbnekleaa
