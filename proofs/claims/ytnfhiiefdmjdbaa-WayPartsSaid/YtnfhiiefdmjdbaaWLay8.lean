/- (*way.writer)'s calls, some ways. (Made by tools/gen_wlay.py.) -/
import Derived.Test.YtnfhiiefdmjdbaaWLay
namespace Go.Proofs.Ytnfhiiefdmjdbaa
open Go Go.RowKit

set_option maxRecDepth 100000 in
set_option maxHeartbeats 4000000 in
theorem wlay_8 (B b s be bf : Nat) (hb : s < B ∧ be < B ∧ bf < B) (hB : B ≤ b) (ds : List Nd) (a : Option Addr) (cap : Nat) (_hl : ds.length ≤ 400) (tx : ByteArray) (n : Int) (A : List Nd) (f : Nat → List Int → Except Int (List UInt8 × List Int)) (hA : WCall 40 B b s be bf ds a cap (⟨8, tx, n⟩ :: A) f) : WLayOk B b s be bf ds a cap (⟨8, tx, n⟩ :: A) (f) := by
  intro i r deep ws wa wc l w hd hC hI hok hwc hW hdeep hsz
  obtain ⟨hi, e1, e2⟩ := drop_cons (x := ⟨8, tx, n⟩) (A := A ++ r) hd
  obtain ⟨o0, ea, d1, d2, d3⟩ := hC.nd i hi
  subst ea
  rw [e1] at d1 d2 d3
  dsimp only at d1 d2 d3
  have c0 := hW.c0
  have c1 := hW.c1
  have c2 := hW.c2
  have c5 := hW.c5
  have hlt := hW.lt
  have hs0 : s < w.heap.size := by omega
  have hbs : B ≤ w.heap.size := by omega
  have hiI : (i : Int) < (ds.length : Int) := by omega
  have HD : Hid (ds.drop i = ⟨8, tx, n⟩ :: (A ++ r)) := hd
  have HD1 : Hid (ds.drop (i + 1) = A ++ r) := e2
  have HC : Hid (LC B s be bf (some ⟨s, o0, none⟩) ds w) := hC
  have HI : Hid (IntsB B w wa ws) := hI
  have HW : Hid (WS B b (plOf be bf ds.length cap (some ⟨s, o0, none⟩)) l (.slice wa ws.length wc) w) := hW
  have HA : Hid (∀ O : Obj, Below B w (w.alloc O)) := fun O => (Below.refl _ w).alloc hbs O
  clear hC hI hW hd e1 e2
  have HF : Hid (WCall 40 B b s be bf ds (some ⟨s, o0, none⟩) cap (⟨8, tx, n⟩ :: A) f) := hA
  have HOK : Hid (okC01 ws) := hok
  clear hA hok
  go_enter Try.func28, Try.ntmps28
  go_wp2_with fail
  refine (HF.out i r deep ws wa wc l _ HD.out (HC.out.below hb (HA.out _)) (HI.out.below (HA.out _)) HOK.out hwc (HW.out.alloc _) hdeep hsz).mono ?_
  rintro e w2 ⟨h2, hb2⟩
  cases hres : f deep ws with
  | error er =>
    rw [hres] at h2
    obtain ⟨hne, rfl⟩ := h2
    have HN : Hid (er ≠ 0) := hne
    rw [errN_ne hne]
    clear hne
    go_wp2
    go_ret
    refine ⟨?_, ((HA.out _).trans hb2)⟩
    rw [hres]
    exact ⟨HN.out, by rw [errN_ne HN.out]; rfl⟩
  | ok p =>
    obtain ⟨u, v⟩ := p
    rw [hres] at h2
    obtain ⟨rfl, h3⟩ := h2
    have H3 : Hid (∃ wa' wc', WS B b (plOf be bf ds.length cap (some ⟨s, o0, none⟩)) (l ++ u) (.slice wa' v.length wc') w2 ∧ IntsB B w2 wa' v ∧ v.length ≤ wc') := h3
    clear h3
    go_wp2
    go_ret
    refine ⟨?_, ((HA.out _).trans hb2)⟩
    rw [hres]
    exact ⟨rfl, H3.out⟩

set_option maxRecDepth 100000 in
set_option maxHeartbeats 4000000 in
theorem wlay_9 (B b s be bf : Nat) (hb : s < B ∧ be < B ∧ bf < B) (hB : B ≤ b) (ds : List Nd) (a : Option Addr) (cap : Nat) (_hl : ds.length ≤ 400) (tx : ByteArray) (n : Int) (A C : List Nd) (f : Nat → List Int → Except Int (List UInt8 × List Int)) (hA : WCall 40 B b s be bf ds a cap (⟨9, tx, n⟩ :: (A ++ C)) f) : WLayOk B b s be bf ds a cap (⟨9, tx, n⟩ :: (A ++ C)) (f) := by
  intro i r deep ws wa wc l w hd hC hI hok hwc hW hdeep hsz
  obtain ⟨hi, e1, e2⟩ := drop_cons (x := ⟨9, tx, n⟩) (A := (A ++ C) ++ r) hd
  obtain ⟨o0, ea, d1, d2, d3⟩ := hC.nd i hi
  subst ea
  rw [e1] at d1 d2 d3
  dsimp only at d1 d2 d3
  have c0 := hW.c0
  have c1 := hW.c1
  have c2 := hW.c2
  have c5 := hW.c5
  have hlt := hW.lt
  have hs0 : s < w.heap.size := by omega
  have hbs : B ≤ w.heap.size := by omega
  have hiI : (i : Int) < (ds.length : Int) := by omega
  have HD : Hid (ds.drop i = ⟨9, tx, n⟩ :: ((A ++ C) ++ r)) := hd
  have HD1 : Hid (ds.drop (i + 1) = (A ++ C) ++ r) := e2
  have HC : Hid (LC B s be bf (some ⟨s, o0, none⟩) ds w) := hC
  have HI : Hid (IntsB B w wa ws) := hI
  have HW : Hid (WS B b (plOf be bf ds.length cap (some ⟨s, o0, none⟩)) l (.slice wa ws.length wc) w) := hW
  have HA : Hid (∀ O : Obj, Below B w (w.alloc O)) := fun O => (Below.refl _ w).alloc hbs O
  clear hC hI hW hd e1 e2
  have HF : Hid (WCall 40 B b s be bf ds (some ⟨s, o0, none⟩) cap (⟨9, tx, n⟩ :: (A ++ C)) f) := hA
  have HOK : Hid (okC01 ws) := hok
  clear hA hok
  go_enter Try.func28, Try.ntmps28
  go_wp2_with fail
  refine (HF.out i r deep ws wa wc l _ HD.out (HC.out.below hb (HA.out _)) (HI.out.below (HA.out _)) HOK.out hwc (HW.out.alloc _) hdeep hsz).mono ?_
  rintro e w2 ⟨h2, hb2⟩
  cases hres : f deep ws with
  | error er =>
    rw [hres] at h2
    obtain ⟨hne, rfl⟩ := h2
    have HN : Hid (er ≠ 0) := hne
    rw [errN_ne hne]
    clear hne
    go_wp2
    go_ret
    refine ⟨?_, ((HA.out _).trans hb2)⟩
    rw [hres]
    exact ⟨HN.out, by rw [errN_ne HN.out]; rfl⟩
  | ok p =>
    obtain ⟨u, v⟩ := p
    rw [hres] at h2
    obtain ⟨rfl, h3⟩ := h2
    have H3 : Hid (∃ wa' wc', WS B b (plOf be bf ds.length cap (some ⟨s, o0, none⟩)) (l ++ u) (.slice wa' v.length wc') w2 ∧ IntsB B w2 wa' v ∧ v.length ≤ wc') := h3
    clear h3
    go_wp2
    go_ret
    refine ⟨?_, ((HA.out _).trans hb2)⟩
    rw [hres]
    exact ⟨rfl, H3.out⟩
end Go.Proofs.Ytnfhiiefdmjdbaa
