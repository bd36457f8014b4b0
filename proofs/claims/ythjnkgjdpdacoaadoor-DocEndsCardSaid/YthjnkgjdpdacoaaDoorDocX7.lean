/- write, one way. (Made by tools/gen_docx.py.) -/
import Derived.Test.YthjnkgjdpdacoaaDoorDocX
namespace Go.Proofs.YthjnkgjdpdacoaaDoor
open Go Go.RowKit

set_option maxRecDepth 100000 in
set_option maxHeartbeats 4000000 in
theorem write_7 (B b : Nat) (tx : ByteArray) (n : Int) (hn0 : 0 ≤ n) (hn8 : n ≤ 8) (A : List Nd) (tA : List UInt8) (hA : WriteOk B b A tA) : WriteOk B b (⟨7, tx, n⟩ :: A) (dgt n :: 62 :: tA) := by
  intro ds r0 a cap l w hd hN hc hW hl
  generalize hr : A ++ r0 = r
  have HR : Hid (A ++ r0 = r) := hr
  have HRL : Hid (r.length = (A : List Nd).length + r0.length) := (show _ = _ by rw [← hr, List.length_append])
  obtain rfl : ds = ⟨7, tx, n⟩ :: r := by rw [hd, ← hr]; rfl
  clear hd hr
  obtain ⟨b0, o0, ea, hlt, c1, c2, c3⟩ := hN 0 (by simp)
  subst ea
  simp only [List.length_cons] at hc hl ⊢
  have HN1 : Hid (NodsB B w (some ⟨b0, o0 + 3, none⟩) r) := hN.rest
  have HN2 : Hid (cap = 1 → NodsB B w (some ⟨b0, o0, none⟩) r) := fun h => by
    have h1 := hN.slid hc
    rw [if_pos h] at h1
    exact h1
  have HW : Hid (Wr B b l w) := hW
  have hsz := Wr.size hW
  simp only [Nat.zero_mul, Nat.add_zero, List.getElem_cons_zero] at c1 c2 c3
  have hb0 : b0 < w.heap.size := by omega
  have hr1 : (1 : Int) ≤ (r.length : Int) + 1 := by omega
  have HB : Hid (∀ O : Obj, Below B w (w.alloc O).drew) := fun O => Below.drew ((Below.refl B w).alloc hsz O)
  clear hN hW
  go_enter Tryd.func27, Tryd.ntmps27
  go_upto_region 1 with fail
  go_cut [0, 1, 5, 6] (fun t _ p q wx => Opened B b w.heap.size ⟨7, tx, n⟩ r l w t p q wx)
  case first =>
    go_region
    all_goals (go_wp2_with fail)
    all_goals
      go_meet
      refine ⟨rfl, rfl, ⟨_, _, rfl, ?_, by omega⟩, by simp [go_sem], by simp [go_sem], by simp [go_sem], IsB.drew (IsB.alloc HW.out _), HB.out _⟩
      first
        | exact HN1.out.below (HB.out _)
        | exact (HN2.out (by assumption)).below (HB.out _)
        | exact (HN2.out rfl).below (HB.out _)
  case rest =>
    obtain ⟨rfl, rfl, ⟨a', cap', rfl, hn, hc'⟩, e1, e2, e3, hw, hbw⟩ := hcut
    dsimp only at e1 e2 e3
    have HN' : Hid (NodsB B wc a' r) := hn
    have HW' : Hid (Wr B b l wc) := hw
    have HB' : Hid (Below B w wc) := hbw
    clear hn hw hbw
    have HA : Hid (WriteOk B b A tA) := hA
    clear hA
    have HS : Hid ((⟨#[dgt n]⟩ ++ ⟨#[62]⟩ : ByteArray).data.toList = [dgt n, 62]) := (show _ = _ by simp)
    go_upto_region 19 with fail
    go_cut [0, 6] (fun t q wx => t = .pointer (some ⟨b, 0, none⟩) ∧ q = .slice a' r.length cap' ∧ Wr B b (l ++ [dgt n, 62]) wx ∧ Below B wc wx)
    case first =>
      go_region_with (first | (go_at_call 37; refine (itoa_small n hn0 hn8 _).mono ?_; rintro e w' ⟨rfl, rfl⟩) | (go_at_call 35; refine (wstr (w := wc.drew) HW'.out _ [dgt n, 62] HS.out (by simp; omega)).mono ?_; rintro e w2 ⟨⟨z, rfl⟩, h2, hb2⟩))
      all_goals
        go_wp2_with fail
        go_meet
        exact ⟨rfl, rfl, h2, (Below.refl B wc).drew.trans hb2⟩
    case rest =>
      obtain ⟨rfl, rfl, h2, hb2⟩ := hcut
      go_wp2_with fail
      refine (HA.out r r0 _ _ _ _ HR.out.symm (HN'.out.below hb2) hc' h2 (by have q1 := HRL.out; simp; omega)).mono ?_
      rintro e w3 ⟨⟨a3, cap3, rfl, n3, hc3⟩, h3, hb3⟩
      go_wp2
      go_ret
      refine ⟨⟨_, _, rfl, n3, hc3⟩, ?_, HB'.out.trans (hb2.trans hb3)⟩
      simpa using h3
end Go.Proofs.YthjnkgjdpdacoaaDoor
