/- (*way.writer)'s calls, some ways. (Made by tools/gen_wlay.py.) -/
import Derived.Test.YtnfhiiefdmjdbaaWLay
namespace Go.Proofs.Ytnfhiiefdmjdbaa
open Go Go.RowKit

set_option maxRecDepth 100000 in
set_option maxHeartbeats 4000000 in
theorem wlay_5 (B b s be bf : Nat) (_hb : s < B ∧ be < B ∧ bf < B) (hB : B ≤ b) (ds : List Nd) (a : Option Addr) (cap : Nat) (_hl : ds.length ≤ 400) (tx : ByteArray) (n : Int) : WLayOk B b s be bf ds a cap (⟨5, tx, n⟩ :: []) (fun _ ws => .ok ([], ws)) := by
  intro i r deep ws wa wc l w hd hC hI _ hwc hW hdeep hsz
  obtain ⟨hi, e1, e2⟩ := drop_cons (x := ⟨5, tx, n⟩) (A := [] ++ r) hd
  obtain ⟨o0, ea, d1, d2, d3⟩ := hC.nd i hi
  subst ea
  rw [e1] at d1 d2 d3
  dsimp only at d1 d2 d3
  have c0 := hW.c0
  have c1 := hW.c1
  have c2 := hW.c2
  have c5 := hW.c5
  have hlt := hW.lt
  have hs0 : s < w.heap.size := by omega
  have hbs : B ≤ w.heap.size := by omega
  have hiI : (i : Int) < (ds.length : Int) := by omega
  have HD : Hid (ds.drop i = ⟨5, tx, n⟩ :: ([] ++ r)) := hd
  have HD1 : Hid (ds.drop (i + 1) = [] ++ r) := e2
  have HC : Hid (LC B s be bf (some ⟨s, o0, none⟩) ds w) := hC
  have HI : Hid (IntsB B w wa ws) := hI
  have HW : Hid (WS B b (plOf be bf ds.length cap (some ⟨s, o0, none⟩)) l (.slice wa ws.length wc) w) := hW
  have HA : Hid (∀ O : Obj, Below B w (w.alloc O)) := fun O => (Below.refl _ w).alloc hbs O
  clear hC hI hW hd e1 e2
  simp only [List.length_cons, List.length_nil] at hdeep hsz
  go_enter Try.func28, Try.ntmps28
  go_wp2
  go_ret
  exact ⟨⟨rfl, wa, wc, by rw [List.append_nil]; exact HW.out.alloc _, HI.out.below (HA.out _), hwc⟩, HA.out _⟩

set_option maxRecDepth 100000 in
set_option maxHeartbeats 4000000 in
theorem wlay_1 (B b s be bf : Nat) (_hb : s < B ∧ be < B ∧ bf < B) (hB : B ≤ b) (ds : List Nd) (a : Option Addr) (cap : Nat) (_hl : ds.length ≤ 400) (tx : ByteArray) (n : Int) (ht : tx.size ≤ 20) : WLayOk B b s be bf ds a cap (⟨1, tx, n⟩ :: []) (fun _ ws => .ok (tx.data.toList, ws)) := by
  intro i r deep ws wa wc l w hd hC hI _ hwc hW hdeep hsz
  obtain ⟨hi, e1, e2⟩ := drop_cons (x := ⟨1, tx, n⟩) (A := [] ++ r) hd
  obtain ⟨o0, ea, d1, d2, d3⟩ := hC.nd i hi
  subst ea
  rw [e1] at d1 d2 d3
  dsimp only at d1 d2 d3
  have c0 := hW.c0
  have c1 := hW.c1
  have c2 := hW.c2
  have c5 := hW.c5
  have hlt := hW.lt
  have hs0 : s < w.heap.size := by omega
  have hbs : B ≤ w.heap.size := by omega
  have hiI : (i : Int) < (ds.length : Int) := by omega
  have HD : Hid (ds.drop i = ⟨1, tx, n⟩ :: ([] ++ r)) := hd
  have HD1 : Hid (ds.drop (i + 1) = [] ++ r) := e2
  have HC : Hid (LC B s be bf (some ⟨s, o0, none⟩) ds w) := hC
  have HI : Hid (IntsB B w wa ws) := hI
  have HW : Hid (WS B b (plOf be bf ds.length cap (some ⟨s, o0, none⟩)) l (.slice wa ws.length wc) w) := hW
  have HA : Hid (∀ O : Obj, Below B w (w.alloc O)) := fun O => (Below.refl _ w).alloc hbs O
  clear hC hI hW hd e1 e2
  simp only [List.length_cons, List.length_nil] at hdeep hsz
  go_enter Try.func28, Try.ntmps28
  go_wp2_with fail
  go_region_with (go_at_call 34; refine (wstr (WS.drew (HW.out.alloc _)) hB tx (by omega)).mono ?_; rintro e w2 ⟨⟨z, rfl⟩, h2, hb2⟩)
  all_goals
    go_wp2
    go_ret
    have hB2 : Below B w w2 := (Below.drew (HA.out _)).trans hb2
    exact ⟨⟨rfl, wa, wc, h2, HI.out.below hB2, hwc⟩, hB2⟩
end Go.Proofs.Ytnfhiiefdmjdbaa
