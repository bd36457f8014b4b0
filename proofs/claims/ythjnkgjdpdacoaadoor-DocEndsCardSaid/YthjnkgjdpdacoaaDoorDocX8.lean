/- write, one way. (Made by tools/gen_docx.py.) -/
import Derived.Test.YthjnkgjdpdacoaaDoorDocX
namespace Go.Proofs.YthjnkgjdpdacoaaDoor
open Go Go.RowKit

set_option maxRecDepth 100000 in
set_option maxHeartbeats 4000000 in
theorem write_8 (B b : Nat) (tx : ByteArray) (n : Int) (A : List Nd) (tA : List UInt8) (hA : WriteOk B b A tA) (htA : tA.length ≤ 22 * A.length) : WriteOk B b (⟨8, tx, n⟩ :: A) (91 :: (tA ++ [93])) := by
  intro ds r0 a cap l w hd hN hc hW hl
  generalize hr : A ++ r0 = r
  have HR : Hid (A ++ r0 = r) := hr
  have HRL : Hid (r.length = (A : List Nd).length + r0.length) := (show _ = _ by rw [← hr, List.length_append])
  obtain rfl : ds = ⟨8, tx, n⟩ :: r := by rw [hd, ← hr]; rfl
  clear hd hr
  obtain ⟨b0, o0, ea, hlt, c1, c2, c3⟩ := hN 0 (by simp)
  subst ea
  simp only [List.length_cons] at hc hl ⊢
  have HN1 : Hid (NodsB B w (some ⟨b0, o0 + 3, none⟩) r) := hN.rest
  have HN2 : Hid (cap = 1 → NodsB B w (some ⟨b0, o0, none⟩) r) := fun h => by
    have h1 := hN.slid hc
    rw [if_pos h] at h1
    exact h1
  have HW : Hid (Wr B b l w) := hW
  have hsz := Wr.size hW
  simp only [Nat.zero_mul, Nat.add_zero, List.getElem_cons_zero] at c1 c2 c3
  have hb0 : b0 < w.heap.size := by omega
  have hr1 : (1 : Int) ≤ (r.length : Int) + 1 := by omega
  have HB : Hid (∀ O : Obj, Below B w (w.alloc O).drew) := fun O => Below.drew ((Below.refl B w).alloc hsz O)
  clear hN hW
  go_enter Tryd.func27, Tryd.ntmps27
  go_upto_region 1 with fail
  go_cut [0, 1, 5, 6] (fun t _ p q wx => Opened B b w.heap.size ⟨8, tx, n⟩ r l w t p q wx)
  case first =>
    go_region
    all_goals (go_wp2_with fail)
    all_goals
      go_meet
      refine ⟨rfl, rfl, ⟨_, _, rfl, ?_, by omega⟩, by simp [go_sem], by simp [go_sem], by simp [go_sem], IsB.drew (IsB.alloc HW.out _), HB.out _⟩
      first
        | exact HN1.out.below (HB.out _)
        | exact (HN2.out (by assumption)).below (HB.out _)
        | exact (HN2.out rfl).below (HB.out _)
  case rest =>
    obtain ⟨rfl, rfl, ⟨a', cap', rfl, hn, hc'⟩, e1, e2, e3, hw, hbw⟩ := hcut
    dsimp only at e1 e2 e3
    have HN' : Hid (NodsB B wc a' r) := hn
    have HW' : Hid (Wr B b l wc) := hw
    have HB' : Hid (Below B w wc) := hbw
    clear hn hw hbw
    have HA : Hid (WriteOk B b A tA) := hA
    clear hA
    go_wp2_with fail
    refine (wbyte HW'.out 91 91 rfl (by have q1 := HRL.out; simp; omega)).mono ?_
    rintro e w2 ⟨rfl, h2, hb2⟩
    go_wp2_with fail
    refine (HA.out r r0 _ _ _ _ HR.out.symm (HN'.out.below hb2) hc' h2 (by have q1 := HRL.out; simp; omega)).mono ?_
    rintro e w3 ⟨⟨a3, cap3, rfl, n3, hc3⟩, h3, hb3⟩
    go_wp2_with fail
    refine (wbyte h3 93 93 rfl (by have q1 := HRL.out; simp; omega)).mono ?_
    rintro e w4 ⟨rfl, h4, hb4⟩
    go_wp2
    go_ret
    refine ⟨⟨_, _, rfl, n3.below hb4, hc3⟩, ?_, HB'.out.trans (hb2.trans (hb3.trans hb4))⟩
    simpa using h4
end Go.Proofs.YthjnkgjdpdacoaaDoor
