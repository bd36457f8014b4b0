/- (*way.writer)'s calls, some ways. (Made by tools/gen_wlay.py.) -/
import Derived.Test.YtnfhiiefdmjdbaaWLay
namespace Go.Proofs.Ytnfhiiefdmjdbaa
open Go Go.RowKit

set_option maxRecDepth 100000 in
set_option maxHeartbeats 4000000 in
theorem wlay_7 (B b s be bf : Nat) (hb : s < B ∧ be < B ∧ bf < B) (hB : B ≤ b) (ds : List Nd) (a : Option Addr) (cap : Nat) (hl : ds.length ≤ 400) (tx : ByteArray) (n : Int) (hn0 : 0 ≤ n) (hn8 : n ≤ 8) (A : List Nd) (f : Nat → List Int → Except Int (List UInt8 × List Int)) (hA : WLayOk B b s be bf ds a cap A f) : WLayOk B b s be bf ds a cap (⟨7, tx, n⟩ :: A) (fun deep ws => f (deep + n.toNat) ws) := by
  intro i r deep ws wa wc l w hd hC hI hok hwc hW hdeep hsz
  obtain ⟨hi, e1, e2⟩ := drop_cons (x := ⟨7, tx, n⟩) (A := A ++ r) hd
  obtain ⟨o0, ea, d1, d2, d3⟩ := hC.nd i hi
  subst ea
  rw [e1] at d1 d2 d3
  dsimp only at d1 d2 d3
  have c0 := hW.c0
  have c1 := hW.c1
  have c2 := hW.c2
  have c5 := hW.c5
  have hlt := hW.lt
  have hs0 : s < w.heap.size := by omega
  have hbs : B ≤ w.heap.size := by omega
  have hiI : (i : Int) < (ds.length : Int) := by omega
  have HD : Hid (ds.drop i = ⟨7, tx, n⟩ :: (A ++ r)) := hd
  have HD1 : Hid (ds.drop (i + 1) = A ++ r) := e2
  have HC : Hid (LC B s be bf (some ⟨s, o0, none⟩) ds w) := hC
  have HI : Hid (IntsB B w wa ws) := hI
  have HW : Hid (WS B b (plOf be bf ds.length cap (some ⟨s, o0, none⟩)) l (.slice wa ws.length wc) w) := hW
  have HA : Hid (∀ O : Obj, Below B w (w.alloc O)) := fun O => (Below.refl _ w).alloc hbs O
  clear hC hI hW hd e1 e2
  simp only [List.length_cons] at hdeep hsz
  have HF : Hid (WLayOk B b s be bf ds (some ⟨s, o0, none⟩) cap A f) := hA
  have HX : Hid (((i + 1 : Nat) : Int) = (i : Int) + 1) := (show _ = _ by omega)
  have HY : Hid (((deep + n.toNat : Nat) : Int) = (deep : Int) + n) := (show _ = _ by omega)
  have HOK : Hid (okC01 ws) := hok
  clear hA hok
  go_enter Try.func28, Try.ntmps28
  go_wp2_with fail
  rw [← HX.out, ← HY.out]
  refine (HF.out (i + 1) r (deep + n.toNat) ws wa wc l _ HD1.out (HC.out.below hb (HA.out _)) (HI.out.below (HA.out _)) HOK.out hwc (HW.out.alloc _) (by omega) (by omega)).mono ?_
  rintro e w2 ⟨h2, hb2⟩
  cases hres : f (deep + n.toNat) ws with
  | error er =>
    rw [hres] at h2
    obtain ⟨hne, rfl⟩ := h2
    have HN : Hid (er ≠ 0) := hne
    rw [errN_ne hne]
    clear hne
    go_wp2
    go_ret
    refine ⟨?_, (HA.out _).trans hb2⟩
    rw [hres]
    exact ⟨HN.out, by rw [errN_ne HN.out]; rfl⟩
  | ok p =>
    obtain ⟨u, v⟩ := p
    rw [hres] at h2
    obtain ⟨rfl, h3⟩ := h2
    have H3 : Hid (∃ wa' wc', WS B b (plOf be bf ds.length cap (some ⟨s, o0, none⟩)) (l ++ u) (.slice wa' v.length wc') w2 ∧ IntsB B w2 wa' v ∧ v.length ≤ wc') := h3
    clear h3
    go_wp2
    go_ret
    refine ⟨?_, (HA.out _).trans hb2⟩
    rw [hres]
    exact ⟨rfl, H3.out⟩
end Go.Proofs.Ytnfhiiefdmjdbaa
