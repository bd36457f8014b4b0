/- lay, some ways. (Made by tools/gen_flay.py.) -/
import Derived.Test.YtnfhiiefdmjdbaaLayF
namespace Go.Proofs.Ytnfhiiefdmjdbaa
open Go Go.RowKit

set_option maxRecDepth 100000 in
set_option maxHeartbeats 4000000 in
theorem lnlay_6 (tx : ByteArray) (n : Int) (A C : List Nd) (tA tC : List UInt8) (kA kC : Bool) (hA : LnOk A tA kA) (hC : LnOk C tC kC) (htA : tA.length ≤ 20 * A.length) : LnOk (⟨6, tx, n⟩ :: (A ++ C)) (tA ++ tC) (kA || kC) := by
  intro B b s ds r0 a cap l k w hd hN hsB hsb hc hW hBw hl
  generalize hr : (A ++ C) ++ r0 = r
  have HR : Hid ((A ++ C) ++ r0 = r) := hr
  have HRL : Hid (r.length = ((A ++ C) : List Nd).length + r0.length) := (show _ = _ by rw [← hr, List.length_append])
  obtain rfl : ds = ⟨6, tx, n⟩ :: r := by rw [hd, ← hr]; rfl
  clear hd hr
  obtain ⟨o0, ea, c1, c2, c3⟩ := hN 0 (by simp)
  subst ea
  simp only [List.length_cons] at hc hl ⊢
  have HN1 : Hid (NodsS s w (some ⟨s, o0 + 3, none⟩) r) := hN.rest
  have HN2 : Hid (cap = 1 → NodsS s w (some ⟨s, o0, none⟩) r) := fun h => by
    have h1 := hN.slid hc
    rw [if_pos h] at h1
    exact h1
  have HW : Hid (Ln B b l k w) := hW
  simp only [Nat.zero_mul, Nat.add_zero, List.getElem_cons_zero] at c1 c2 c3
  have hb0 : s < w.heap.size := by omega
  have hr1 : (1 : Int) ≤ (r.length : Int) + 1 := by omega
  have HB : Hid (∀ O : Obj, BelX B b w (w.alloc O).drew) := fun O => BelX.drew ((BelX.refl B b w).alloc hBw O)
  have HK : Hid (∀ O : Obj, Lib.OthersKept 5 (some b) w (w.alloc O).drew) := fun O => ((Lib.OthersKept.refl _ _ w).alloc O).drew
  have HS : Hid (s < B ∧ s ≠ b) := ⟨hsB, hsb⟩
  clear hN hW hsB hsb
  go_enter Try.func20, Try.ntmps20
  go_upto_region 1 with fail
  go_cut [0, 1, 5, 6] (fun t _ p q wx => LOpen B b s w.heap.size ⟨6, tx, n⟩ r l k w t p q wx)
  case first =>
    go_region
    all_goals (go_wp2_with fail)
    all_goals
      go_meet
      refine ⟨rfl, rfl, ⟨_, _, rfl, ?_, by omega⟩, by simp [go_sem], by simp [go_sem], by simp [go_sem], IsX.drew (IsX.alloc HW.out _), HB.out _, HK.out _⟩
      first
        | exact HN1.out.kept ((HB.out _).block s HS.out.1 HS.out.2)
        | exact (HN2.out (by assumption)).kept ((HB.out _).block s HS.out.1 HS.out.2)
        | exact (HN2.out rfl).kept ((HB.out _).block s HS.out.1 HS.out.2)
  case rest =>
    obtain ⟨rfl, rfl, ⟨a', cap', rfl, hn, hc'⟩, e1, e2, e3, hw, hbw, hkw⟩ := hcut
    dsimp only at e1 e2 e3
    have HN' : Hid (NodsS s wc a' r) := hn
    have HW' : Hid (Ln B b l k wc) := hw
    have HB' : Hid (BelX B b w wc) := hbw
    have HK' : Hid (Lib.OthersKept 5 (some b) w wc) := hkw
    have hBc : B ≤ wc.heap.size := Nat.le_trans hBw hbw.size
    clear hn hw hbw hkw
    rw [List.append_assoc] at HR
    generalize hrc : C ++ r0 = rc at HR
    have HRC : Hid (C ++ r0 = rc) := hrc
    have HLC : Hid (rc.length = C.length + r0.length) := (show _ = _ by rw [← hrc, List.length_append])
    have HAC : Hid ((A ++ C).length = A.length + C.length) := (show _ = _ from List.length_append)
    clear hrc
    have HA : Hid (LnOk A tA kA) := hA
    have HC : Hid (LnOk C tC kC) := hC
    clear hA hC
    go_wp2_with fail
    refine (HA.out B b s r rc _ _ l k _ HR.out.symm HN'.out HS.out.1 HS.out.2 hc' HW'.out hBc (by omega)).mono ?_
    rintro e w3 ⟨⟨a3, cap3, rfl, n3, hc3⟩, h3, hb3, hk3⟩
    have hBw3 : B ≤ w3.heap.size := Nat.le_trans hBc hb3.size
    go_wp2_with fail
    refine (HC.out B b s rc r0 _ _ _ _ _ HRC.out.symm n3 HS.out.1 HS.out.2 hc3 h3 hBw3 (by have q1 := HRL.out; have q2 := HLC.out; have q3 := HAC.out; simp; omega)).mono ?_
    rintro e w4 ⟨⟨a4, cap4, rfl, n4, hc4⟩, h4, hb4, hk4⟩
    go_wp2
    go_ret
    rw [← Bool.or_assoc, ← List.append_assoc]
    exact ⟨⟨_, _, rfl, n4, hc4⟩, h4, HB'.out.trans (hb3.trans hb4), HK'.out.trans (hk3.trans hk4)⟩
end Go.Proofs.Ytnfhiiefdmjdbaa
