/- Some texts as one: LayF1, LayF3, LayF6, LayF7, LayF9. -/
import Derived.Test.YtmbeamcjpidnjaaGreatDoorLayF
namespace Go.Proofs.YtmbeamcjpidnjaaGreatDoor
open Go Go.RowKit

set_option maxRecDepth 100000 in
set_option maxHeartbeats 4000000 in
theorem lnlay_1 (tx : ByteArray) (n : Int) (ht : tx.size ≤ 20) : LnOk (⟨1, tx, n⟩ :: []) (tx.data.toList) (false) := by
  intro B b s ds r0 a cap l k w hd hN hsB hsb hc hW hBw hl
  generalize hr : [] ++ r0 = r
  have HR : Hid ([] ++ r0 = r) := hr
  have HRL : Hid (r.length = ([] : List Nd).length + r0.length) := (show _ = _ by rw [← hr, List.length_append])
  obtain rfl : ds = ⟨1, tx, n⟩ :: r := by rw [hd, ← hr]; rfl
  clear hd hr
  obtain ⟨o0, ea, c1, c2, c3⟩ := hN 0 (by simp)
  subst ea
  simp only [List.length_cons] at hc hl ⊢
  have HN1 : Hid (NodsS s w (some ⟨s, o0 + 3, none⟩) r) := hN.rest
  have HN2 : Hid (cap = 1 → NodsS s w (some ⟨s, o0, none⟩) r) := fun h => by
    have h1 := hN.slid hc
    rw [if_pos h] at h1
    exact h1
  have HW : Hid (Ln B b l k w) := hW
  simp only [Nat.zero_mul, Nat.add_zero, List.getElem_cons_zero] at c1 c2 c3
  have hb0 : s < w.heap.size := by omega
  have hr1 : (1 : Int) ≤ (r.length : Int) + 1 := by omega
  have HB : Hid (∀ O : Obj, BelX B b w (w.alloc O).drew) := fun O => BelX.drew ((BelX.refl B b w).alloc hBw O)
  have HK : Hid (∀ O : Obj, Lib.OthersKept 5 (some b) w (w.alloc O).drew) := fun O => ((Lib.OthersKept.refl _ _ w).alloc O).drew
  have HS : Hid (s < B ∧ s ≠ b) := ⟨hsB, hsb⟩
  clear hN hW hsB hsb
  go_enter Tryz.func54, Tryz.ntmps54
  go_upto_region 1 with fail
  go_cut [0, 1, 5, 6] (fun t _ p q wx => LOpen B b s w.heap.size ⟨1, tx, n⟩ r l k w t p q wx)
  case first =>
    go_region
    all_goals (go_wp2_with fail)
    all_goals
      go_meet
      refine ⟨rfl, rfl, ⟨_, _, rfl, ?_, by omega⟩, by simp [go_sem], by simp [go_sem], by simp [go_sem], IsX.drew (IsX.alloc HW.out _), HB.out _, HK.out _⟩
      first
        | exact HN1.out.kept ((HB.out _).block s HS.out.1 HS.out.2)
        | exact (HN2.out (by assumption)).kept ((HB.out _).block s HS.out.1 HS.out.2)
        | exact (HN2.out rfl).kept ((HB.out _).block s HS.out.1 HS.out.2)
  case rest =>
    obtain ⟨rfl, rfl, ⟨a', cap', rfl, hn, hc'⟩, e1, e2, e3, hw, hbw, hkw⟩ := hcut
    dsimp only at e1 e2 e3
    have HN' : Hid (NodsS s wc a' r) := hn
    have HW' : Hid (Ln B b l k wc) := hw
    have HB' : Hid (BelX B b w wc) := hbw
    have HK' : Hid (Lib.OthersKept 5 (some b) w wc) := hkw
    have hBc : B ≤ wc.heap.size := Nat.le_trans hBw hbw.size
    clear hn hw hbw hkw
    go_wp2_with fail
    go_region_with (go_at_call 63; refine (lstr (w := wc.drew) HW'.out hBc tx (by omega)).mono ?_; rintro e w2 ⟨⟨z, rfl⟩, h2, hb2, hk2⟩)
    all_goals
      go_wp2
      go_ret
      obtain rfl : r0 = r := HR.out
      rw [Bool.or_false]
      exact ⟨⟨_, _, rfl, NodsS.kept (w := wc.drew) HN'.out (hb2.block s HS.out.1 HS.out.2), hc'⟩, h2, HB'.out.drew.trans hb2, HK'.out.drew.trans hk2⟩

set_option maxRecDepth 100000 in
set_option maxHeartbeats 4000000 in
theorem lnlay_2 (tx : ByteArray) (n : Int) : LnOk (⟨2, tx, n⟩ :: []) ([32]) (false) := by
  intro B b s ds r0 a cap l k w hd hN hsB hsb hc hW hBw hl
  generalize hr : [] ++ r0 = r
  have HR : Hid ([] ++ r0 = r) := hr
  have HRL : Hid (r.length = ([] : List Nd).length + r0.length) := (show _ = _ by rw [← hr, List.length_append])
  obtain rfl : ds = ⟨2, tx, n⟩ :: r := by rw [hd, ← hr]; rfl
  clear hd hr
  obtain ⟨o0, ea, c1, c2, c3⟩ := hN 0 (by simp)
  subst ea
  simp only [List.length_cons] at hc hl ⊢
  have HN1 : Hid (NodsS s w (some ⟨s, o0 + 3, none⟩) r) := hN.rest
  have HN2 : Hid (cap = 1 → NodsS s w (some ⟨s, o0, none⟩) r) := fun h => by
    have h1 := hN.slid hc
    rw [if_pos h] at h1
    exact h1
  have HW : Hid (Ln B b l k w) := hW
  simp only [Nat.zero_mul, Nat.add_zero, List.getElem_cons_zero] at c1 c2 c3
  have hb0 : s < w.heap.size := by omega
  have hr1 : (1 : Int) ≤ (r.length : Int) + 1 := by omega
  have HB : Hid (∀ O : Obj, BelX B b w (w.alloc O).drew) := fun O => BelX.drew ((BelX.refl B b w).alloc hBw O)
  have HK : Hid (∀ O : Obj, Lib.OthersKept 5 (some b) w (w.alloc O).drew) := fun O => ((Lib.OthersKept.refl _ _ w).alloc O).drew
  have HS : Hid (s < B ∧ s ≠ b) := ⟨hsB, hsb⟩
  clear hN hW hsB hsb
  go_enter Tryz.func54, Tryz.ntmps54
  go_upto_region 1 with fail
  go_cut [0, 1, 5, 6] (fun t _ p q wx => LOpen B b s w.heap.size ⟨2, tx, n⟩ r l k w t p q wx)
  case first =>
    go_region
    all_goals (go_wp2_with fail)
    all_goals
      go_meet
      refine ⟨rfl, rfl, ⟨_, _, rfl, ?_, by omega⟩, by simp [go_sem], by simp [go_sem], by simp [go_sem], IsX.drew (IsX.alloc HW.out _), HB.out _, HK.out _⟩
      first
        | exact HN1.out.kept ((HB.out _).block s HS.out.1 HS.out.2)
        | exact (HN2.out (by assumption)).kept ((HB.out _).block s HS.out.1 HS.out.2)
        | exact (HN2.out rfl).kept ((HB.out _).block s HS.out.1 HS.out.2)
  case rest =>
    obtain ⟨rfl, rfl, ⟨a', cap', rfl, hn, hc'⟩, e1, e2, e3, hw, hbw, hkw⟩ := hcut
    dsimp only at e1 e2 e3
    have HN' : Hid (NodsS s wc a' r) := hn
    have HW' : Hid (Ln B b l k wc) := hw
    have HB' : Hid (BelX B b w wc) := hbw
    have HK' : Hid (Lib.OthersKept 5 (some b) w wc) := hkw
    have hBc : B ≤ wc.heap.size := Nat.le_trans hBw hbw.size
    clear hn hw hbw hkw
    go_wp2_with fail
    refine (lbyte HW'.out hBc 32 32 rfl (by omega)).mono ?_
    rintro e w2 ⟨rfl, h2, hb2, hk2⟩
    go_wp2
    go_ret
    obtain rfl : r0 = r := HR.out
    rw [Bool.or_false]
    exact ⟨⟨_, _, rfl, HN'.out.kept (hb2.block s HS.out.1 HS.out.2), hc'⟩, h2, HB'.out.trans hb2, HK'.out.trans hk2⟩
end Go.Proofs.YtmbeamcjpidnjaaGreatDoor
namespace Go.Proofs.YtmbeamcjpidnjaaGreatDoor
open Go Go.RowKit

set_option maxRecDepth 100000 in
set_option maxHeartbeats 4000000 in
theorem lnlay_3 (tx : ByteArray) (n : Int) : LnOk (⟨3, tx, n⟩ :: []) ([]) (false) := by
  intro B b s ds r0 a cap l k w hd hN hsB hsb hc hW hBw hl
  generalize hr : [] ++ r0 = r
  have HR : Hid ([] ++ r0 = r) := hr
  have HRL : Hid (r.length = ([] : List Nd).length + r0.length) := (show _ = _ by rw [← hr, List.length_append])
  obtain rfl : ds = ⟨3, tx, n⟩ :: r := by rw [hd, ← hr]; rfl
  clear hd hr
  obtain ⟨o0, ea, c1, c2, c3⟩ := hN 0 (by simp)
  subst ea
  simp only [List.length_cons] at hc hl ⊢
  have HN1 : Hid (NodsS s w (some ⟨s, o0 + 3, none⟩) r) := hN.rest
  have HN2 : Hid (cap = 1 → NodsS s w (some ⟨s, o0, none⟩) r) := fun h => by
    have h1 := hN.slid hc
    rw [if_pos h] at h1
    exact h1
  have HW : Hid (Ln B b l k w) := hW
  simp only [Nat.zero_mul, Nat.add_zero, List.getElem_cons_zero] at c1 c2 c3
  have hb0 : s < w.heap.size := by omega
  have hr1 : (1 : Int) ≤ (r.length : Int) + 1 := by omega
  have HB : Hid (∀ O : Obj, BelX B b w (w.alloc O).drew) := fun O => BelX.drew ((BelX.refl B b w).alloc hBw O)
  have HK : Hid (∀ O : Obj, Lib.OthersKept 5 (some b) w (w.alloc O).drew) := fun O => ((Lib.OthersKept.refl _ _ w).alloc O).drew
  have HS : Hid (s < B ∧ s ≠ b) := ⟨hsB, hsb⟩
  clear hN hW hsB hsb
  go_enter Tryz.func54, Tryz.ntmps54
  go_upto_region 1 with fail
  go_cut [0, 1, 5, 6] (fun t _ p q wx => LOpen B b s w.heap.size ⟨3, tx, n⟩ r l k w t p q wx)
  case first =>
    go_region
    all_goals (go_wp2_with fail)
    all_goals
      go_meet
      refine ⟨rfl, rfl, ⟨_, _, rfl, ?_, by omega⟩, by simp [go_sem], by simp [go_sem], by simp [go_sem], IsX.drew (IsX.alloc HW.out _), HB.out _, HK.out _⟩
      first
        | exact HN1.out.kept ((HB.out _).block s HS.out.1 HS.out.2)
        | exact (HN2.out (by assumption)).kept ((HB.out _).block s HS.out.1 HS.out.2)
        | exact (HN2.out rfl).kept ((HB.out _).block s HS.out.1 HS.out.2)
  case rest =>
    obtain ⟨rfl, rfl, ⟨a', cap', rfl, hn, hc'⟩, e1, e2, e3, hw, hbw, hkw⟩ := hcut
    dsimp only at e1 e2 e3
    have HN' : Hid (NodsS s wc a' r) := hn
    have HW' : Hid (Ln B b l k wc) := hw
    have HB' : Hid (BelX B b w wc) := hbw
    have HK' : Hid (Lib.OthersKept 5 (some b) w wc) := hkw
    have hBc : B ≤ wc.heap.size := Nat.le_trans hBw hbw.size
    clear hn hw hbw hkw
    go_wp2
    go_ret
    obtain rfl : r0 = r := HR.out
    rw [Bool.or_false, List.append_nil]
    exact ⟨⟨_, _, rfl, HN'.out, hc'⟩, HW'.out, HB'.out, HK'.out⟩

set_option maxRecDepth 100000 in
set_option maxHeartbeats 4000000 in
theorem lnlay_5 (tx : ByteArray) (n : Int) : LnOk (⟨5, tx, n⟩ :: []) ([]) (false) := by
  intro B b s ds r0 a cap l k w hd hN hsB hsb hc hW hBw hl
  generalize hr : [] ++ r0 = r
  have HR : Hid ([] ++ r0 = r) := hr
  have HRL : Hid (r.length = ([] : List Nd).length + r0.length) := (show _ = _ by rw [← hr, List.length_append])
  obtain rfl : ds = ⟨5, tx, n⟩ :: r := by rw [hd, ← hr]; rfl
  clear hd hr
  obtain ⟨o0, ea, c1, c2, c3⟩ := hN 0 (by simp)
  subst ea
  simp only [List.length_cons] at hc hl ⊢
  have HN1 : Hid (NodsS s w (some ⟨s, o0 + 3, none⟩) r) := hN.rest
  have HN2 : Hid (cap = 1 → NodsS s w (some ⟨s, o0, none⟩) r) := fun h => by
    have h1 := hN.slid hc
    rw [if_pos h] at h1
    exact h1
  have HW : Hid (Ln B b l k w) := hW
  simp only [Nat.zero_mul, Nat.add_zero, List.getElem_cons_zero] at c1 c2 c3
  have hb0 : s < w.heap.size := by omega
  have hr1 : (1 : Int) ≤ (r.length : Int) + 1 := by omega
  have HB : Hid (∀ O : Obj, BelX B b w (w.alloc O).drew) := fun O => BelX.drew ((BelX.refl B b w).alloc hBw O)
  have HK : Hid (∀ O : Obj, Lib.OthersKept 5 (some b) w (w.alloc O).drew) := fun O => ((Lib.OthersKept.refl _ _ w).alloc O).drew
  have HS : Hid (s < B ∧ s ≠ b) := ⟨hsB, hsb⟩
  clear hN hW hsB hsb
  go_enter Tryz.func54, Tryz.ntmps54
  go_upto_region 1 with fail
  go_cut [0, 1, 5, 6] (fun t _ p q wx => LOpen B b s w.heap.size ⟨5, tx, n⟩ r l k w t p q wx)
  case first =>
    go_region
    all_goals (go_wp2_with fail)
    all_goals
      go_meet
      refine ⟨rfl, rfl, ⟨_, _, rfl, ?_, by omega⟩, by simp [go_sem], by simp [go_sem], by simp [go_sem], IsX.drew (IsX.alloc HW.out _), HB.out _, HK.out _⟩
      first
        | exact HN1.out.kept ((HB.out _).block s HS.out.1 HS.out.2)
        | exact (HN2.out (by assumption)).kept ((HB.out _).block s HS.out.1 HS.out.2)
        | exact (HN2.out rfl).kept ((HB.out _).block s HS.out.1 HS.out.2)
  case rest =>
    obtain ⟨rfl, rfl, ⟨a', cap', rfl, hn, hc'⟩, e1, e2, e3, hw, hbw, hkw⟩ := hcut
    dsimp only at e1 e2 e3
    have HN' : Hid (NodsS s wc a' r) := hn
    have HW' : Hid (Ln B b l k wc) := hw
    have HB' : Hid (BelX B b w wc) := hbw
    have HK' : Hid (Lib.OthersKept 5 (some b) w wc) := hkw
    have hBc : B ≤ wc.heap.size := Nat.le_trans hBw hbw.size
    clear hn hw hbw hkw
    go_wp2
    go_ret
    obtain rfl : r0 = r := HR.out
    rw [Bool.or_false, List.append_nil]
    exact ⟨⟨_, _, rfl, HN'.out, hc'⟩, HW'.out, HB'.out, HK'.out⟩

set_option maxRecDepth 100000 in
set_option maxHeartbeats 4000000 in
theorem lnlay_4 (tx : ByteArray) (n : Int) : LnOk (⟨4, tx, n⟩ :: []) ([]) (true) := by
  intro B b s ds r0 a cap l k w hd hN hsB hsb hc hW hBw hl
  generalize hr : [] ++ r0 = r
  have HR : Hid ([] ++ r0 = r) := hr
  have HRL : Hid (r.length = ([] : List Nd).length + r0.length) := (show _ = _ by rw [← hr, List.length_append])
  obtain rfl : ds = ⟨4, tx, n⟩ :: r := by rw [hd, ← hr]; rfl
  clear hd hr
  obtain ⟨o0, ea, c1, c2, c3⟩ := hN 0 (by simp)
  subst ea
  simp only [List.length_cons] at hc hl ⊢
  have HN1 : Hid (NodsS s w (some ⟨s, o0 + 3, none⟩) r) := hN.rest
  have HN2 : Hid (cap = 1 → NodsS s w (some ⟨s, o0, none⟩) r) := fun h => by
    have h1 := hN.slid hc
    rw [if_pos h] at h1
    exact h1
  have HW : Hid (Ln B b l k w) := hW
  simp only [Nat.zero_mul, Nat.add_zero, List.getElem_cons_zero] at c1 c2 c3
  have hb0 : s < w.heap.size := by omega
  have hr1 : (1 : Int) ≤ (r.length : Int) + 1 := by omega
  have HB : Hid (∀ O : Obj, BelX B b w (w.alloc O).drew) := fun O => BelX.drew ((BelX.refl B b w).alloc hBw O)
  have HK : Hid (∀ O : Obj, Lib.OthersKept 5 (some b) w (w.alloc O).drew) := fun O => ((Lib.OthersKept.refl _ _ w).alloc O).drew
  have HS : Hid (s < B ∧ s ≠ b) := ⟨hsB, hsb⟩
  clear hN hW hsB hsb
  go_enter Tryz.func54, Tryz.ntmps54
  go_upto_region 1 with fail
  go_cut [0, 1, 5, 6] (fun t _ p q wx => LOpen B b s w.heap.size ⟨4, tx, n⟩ r l k w t p q wx)
  case first =>
    go_region
    all_goals (go_wp2_with fail)
    all_goals
      go_meet
      refine ⟨rfl, rfl, ⟨_, _, rfl, ?_, by omega⟩, by simp [go_sem], by simp [go_sem], by simp [go_sem], IsX.drew (IsX.alloc HW.out _), HB.out _, HK.out _⟩
      first
        | exact HN1.out.kept ((HB.out _).block s HS.out.1 HS.out.2)
        | exact (HN2.out (by assumption)).kept ((HB.out _).block s HS.out.1 HS.out.2)
        | exact (HN2.out rfl).kept ((HB.out _).block s HS.out.1 HS.out.2)
  case rest =>
    obtain ⟨rfl, rfl, ⟨a', cap', rfl, hn, hc'⟩, e1, e2, e3, hw, hbw, hkw⟩ := hcut
    dsimp only at e1 e2 e3
    have HN' : Hid (NodsS s wc a' r) := hn
    have HW' : Hid (Ln B b l k wc) := hw
    have HB' : Hid (BelX B b w wc) := hbw
    have HK' : Hid (Lib.OthersKept 5 (some b) w wc) := hkw
    have hBc : B ≤ wc.heap.size := Nat.le_trans hBw hbw.size
    clear hn hw hbw hkw
    have g1 := HW'.out.cell
    have g2 := HW'.out.frozen
    go_wp2
    go_ret
    obtain rfl : r0 = r := HR.out
    rw [Bool.or_true, List.append_nil]
    refine ⟨⟨_, _, rfl, HN'.out.kept (Below.heap_setCell _ _ _ _ HS.out.2), hc'⟩, HW'.out.stored true, HB'.out.setCell (.inl rfl) _, HK'.out.setCell _ rfl _⟩
end Go.Proofs.YtmbeamcjpidnjaaGreatDoor
namespace Go.Proofs.YtmbeamcjpidnjaaGreatDoor
open Go Go.RowKit

set_option maxRecDepth 100000 in
set_option maxHeartbeats 4000000 in
theorem lnlay_6 (tx : ByteArray) (n : Int) (A C : List Nd) (tA tC : List UInt8) (kA kC : Bool) (hA : LnOk A tA kA) (hC : LnOk C tC kC) (htA : tA.length ≤ 20 * A.length) : LnOk (⟨6, tx, n⟩ :: (A ++ C)) (tA ++ tC) (kA || kC) := by
  intro B b s ds r0 a cap l k w hd hN hsB hsb hc hW hBw hl
  generalize hr : (A ++ C) ++ r0 = r
  have HR : Hid ((A ++ C) ++ r0 = r) := hr
  have HRL : Hid (r.length = ((A ++ C) : List Nd).length + r0.length) := (show _ = _ by rw [← hr, List.length_append])
  obtain rfl : ds = ⟨6, tx, n⟩ :: r := by rw [hd, ← hr]; rfl
  clear hd hr
  obtain ⟨o0, ea, c1, c2, c3⟩ := hN 0 (by simp)
  subst ea
  simp only [List.length_cons] at hc hl ⊢
  have HN1 : Hid (NodsS s w (some ⟨s, o0 + 3, none⟩) r) := hN.rest
  have HN2 : Hid (cap = 1 → NodsS s w (some ⟨s, o0, none⟩) r) := fun h => by
    have h1 := hN.slid hc
    rw [if_pos h] at h1
    exact h1
  have HW : Hid (Ln B b l k w) := hW
  simp only [Nat.zero_mul, Nat.add_zero, List.getElem_cons_zero] at c1 c2 c3
  have hb0 : s < w.heap.size := by omega
  have hr1 : (1 : Int) ≤ (r.length : Int) + 1 := by omega
  have HB : Hid (∀ O : Obj, BelX B b w (w.alloc O).drew) := fun O => BelX.drew ((BelX.refl B b w).alloc hBw O)
  have HK : Hid (∀ O : Obj, Lib.OthersKept 5 (some b) w (w.alloc O).drew) := fun O => ((Lib.OthersKept.refl _ _ w).alloc O).drew
  have HS : Hid (s < B ∧ s ≠ b) := ⟨hsB, hsb⟩
  clear hN hW hsB hsb
  go_enter Tryz.func54, Tryz.ntmps54
  go_upto_region 1 with fail
  go_cut [0, 1, 5, 6] (fun t _ p q wx => LOpen B b s w.heap.size ⟨6, tx, n⟩ r l k w t p q wx)
  case first =>
    go_region
    all_goals (go_wp2_with fail)
    all_goals
      go_meet
      refine ⟨rfl, rfl, ⟨_, _, rfl, ?_, by omega⟩, by simp [go_sem], by simp [go_sem], by simp [go_sem], IsX.drew (IsX.alloc HW.out _), HB.out _, HK.out _⟩
      first
        | exact HN1.out.kept ((HB.out _).block s HS.out.1 HS.out.2)
        | exact (HN2.out (by assumption)).kept ((HB.out _).block s HS.out.1 HS.out.2)
        | exact (HN2.out rfl).kept ((HB.out _).block s HS.out.1 HS.out.2)
  case rest =>
    obtain ⟨rfl, rfl, ⟨a', cap', rfl, hn, hc'⟩, e1, e2, e3, hw, hbw, hkw⟩ := hcut
    dsimp only at e1 e2 e3
    have HN' : Hid (NodsS s wc a' r) := hn
    have HW' : Hid (Ln B b l k wc) := hw
    have HB' : Hid (BelX B b w wc) := hbw
    have HK' : Hid (Lib.OthersKept 5 (some b) w wc) := hkw
    have hBc : B ≤ wc.heap.size := Nat.le_trans hBw hbw.size
    clear hn hw hbw hkw
    rw [List.append_assoc] at HR
    generalize hrc : C ++ r0 = rc at HR
    have HRC : Hid (C ++ r0 = rc) := hrc
    have HLC : Hid (rc.length = C.length + r0.length) := (show _ = _ by rw [← hrc, List.length_append])
    have HAC : Hid ((A ++ C).length = A.length + C.length) := (show _ = _ from List.length_append)
    clear hrc
    have HA : Hid (LnOk A tA kA) := hA
    have HC : Hid (LnOk C tC kC) := hC
    clear hA hC
    go_wp2_with fail
    refine (HA.out B b s r rc _ _ l k _ HR.out.symm HN'.out HS.out.1 HS.out.2 hc' HW'.out hBc (by omega)).mono ?_
    rintro e w3 ⟨⟨a3, cap3, rfl, n3, hc3⟩, h3, hb3, hk3⟩
    have hBw3 : B ≤ w3.heap.size := Nat.le_trans hBc hb3.size
    go_wp2_with fail
    refine (HC.out B b s rc r0 _ _ _ _ _ HRC.out.symm n3 HS.out.1 HS.out.2 hc3 h3 hBw3 (by have q1 := HRL.out; have q2 := HLC.out; have q3 := HAC.out; simp; omega)).mono ?_
    rintro e w4 ⟨⟨a4, cap4, rfl, n4, hc4⟩, h4, hb4, hk4⟩
    go_wp2
    go_ret
    rw [← Bool.or_assoc, ← List.append_assoc]
    exact ⟨⟨_, _, rfl, n4, hc4⟩, h4, HB'.out.trans (hb3.trans hb4), HK'.out.trans (hk3.trans hk4)⟩
end Go.Proofs.YtmbeamcjpidnjaaGreatDoor
namespace Go.Proofs.YtmbeamcjpidnjaaGreatDoor
open Go Go.RowKit

set_option maxRecDepth 100000 in
set_option maxHeartbeats 4000000 in
theorem lnlay_7 (tx : ByteArray) (n : Int) (A : List Nd) (tA : List UInt8) (kA : Bool) (hA : LnOk A tA kA) : LnOk (⟨7, tx, n⟩ :: A) (tA) (kA) := by
  intro B b s ds r0 a cap l k w hd hN hsB hsb hc hW hBw hl
  generalize hr : A ++ r0 = r
  have HR : Hid (A ++ r0 = r) := hr
  have HRL : Hid (r.length = (A : List Nd).length + r0.length) := (show _ = _ by rw [← hr, List.length_append])
  obtain rfl : ds = ⟨7, tx, n⟩ :: r := by rw [hd, ← hr]; rfl
  clear hd hr
  obtain ⟨o0, ea, c1, c2, c3⟩ := hN 0 (by simp)
  subst ea
  simp only [List.length_cons] at hc hl ⊢
  have HN1 : Hid (NodsS s w (some ⟨s, o0 + 3, none⟩) r) := hN.rest
  have HN2 : Hid (cap = 1 → NodsS s w (some ⟨s, o0, none⟩) r) := fun h => by
    have h1 := hN.slid hc
    rw [if_pos h] at h1
    exact h1
  have HW : Hid (Ln B b l k w) := hW
  simp only [Nat.zero_mul, Nat.add_zero, List.getElem_cons_zero] at c1 c2 c3
  have hb0 : s < w.heap.size := by omega
  have hr1 : (1 : Int) ≤ (r.length : Int) + 1 := by omega
  have HB : Hid (∀ O : Obj, BelX B b w (w.alloc O).drew) := fun O => BelX.drew ((BelX.refl B b w).alloc hBw O)
  have HK : Hid (∀ O : Obj, Lib.OthersKept 5 (some b) w (w.alloc O).drew) := fun O => ((Lib.OthersKept.refl _ _ w).alloc O).drew
  have HS : Hid (s < B ∧ s ≠ b) := ⟨hsB, hsb⟩
  clear hN hW hsB hsb
  go_enter Tryz.func54, Tryz.ntmps54
  go_upto_region 1 with fail
  go_cut [0, 1, 5, 6] (fun t _ p q wx => LOpen B b s w.heap.size ⟨7, tx, n⟩ r l k w t p q wx)
  case first =>
    go_region
    all_goals (go_wp2_with fail)
    all_goals
      go_meet
      refine ⟨rfl, rfl, ⟨_, _, rfl, ?_, by omega⟩, by simp [go_sem], by simp [go_sem], by simp [go_sem], IsX.drew (IsX.alloc HW.out _), HB.out _, HK.out _⟩
      first
        | exact HN1.out.kept ((HB.out _).block s HS.out.1 HS.out.2)
        | exact (HN2.out (by assumption)).kept ((HB.out _).block s HS.out.1 HS.out.2)
        | exact (HN2.out rfl).kept ((HB.out _).block s HS.out.1 HS.out.2)
  case rest =>
    obtain ⟨rfl, rfl, ⟨a', cap', rfl, hn, hc'⟩, e1, e2, e3, hw, hbw, hkw⟩ := hcut
    dsimp only at e1 e2 e3
    have HN' : Hid (NodsS s wc a' r) := hn
    have HW' : Hid (Ln B b l k wc) := hw
    have HB' : Hid (BelX B b w wc) := hbw
    have HK' : Hid (Lib.OthersKept 5 (some b) w wc) := hkw
    have hBc : B ≤ wc.heap.size := Nat.le_trans hBw hbw.size
    clear hn hw hbw hkw
    have HA : Hid (LnOk A tA kA) := hA
    clear hA
    go_wp2_with fail
    refine (HA.out B b s r r0 _ _ l k _ HR.out.symm HN'.out HS.out.1 HS.out.2 hc' HW'.out hBc (by omega)).mono ?_
    rintro e w3 ⟨⟨a3, cap3, rfl, n3, hc3⟩, h3, hb3, hk3⟩
    go_wp2
    go_ret
    exact ⟨⟨_, _, rfl, n3, hc3⟩, h3, HB'.out.trans hb3, HK'.out.trans hk3⟩

set_option maxRecDepth 100000 in
set_option maxHeartbeats 4000000 in
theorem lnlay_8 (tx : ByteArray) (n : Int) (A : List Nd) (tA : List UInt8) (kA : Bool) (hA : LnOk A tA kA) : LnOk (⟨8, tx, n⟩ :: A) (tA) (kA) := by
  intro B b s ds r0 a cap l k w hd hN hsB hsb hc hW hBw hl
  generalize hr : A ++ r0 = r
  have HR : Hid (A ++ r0 = r) := hr
  have HRL : Hid (r.length = (A : List Nd).length + r0.length) := (show _ = _ by rw [← hr, List.length_append])
  obtain rfl : ds = ⟨8, tx, n⟩ :: r := by rw [hd, ← hr]; rfl
  clear hd hr
  obtain ⟨o0, ea, c1, c2, c3⟩ := hN 0 (by simp)
  subst ea
  simp only [List.length_cons] at hc hl ⊢
  have HN1 : Hid (NodsS s w (some ⟨s, o0 + 3, none⟩) r) := hN.rest
  have HN2 : Hid (cap = 1 → NodsS s w (some ⟨s, o0, none⟩) r) := fun h => by
    have h1 := hN.slid hc
    rw [if_pos h] at h1
    exact h1
  have HW : Hid (Ln B b l k w) := hW
  simp only [Nat.zero_mul, Nat.add_zero, List.getElem_cons_zero] at c1 c2 c3
  have hb0 : s < w.heap.size := by omega
  have hr1 : (1 : Int) ≤ (r.length : Int) + 1 := by omega
  have HB : Hid (∀ O : Obj, BelX B b w (w.alloc O).drew) := fun O => BelX.drew ((BelX.refl B b w).alloc hBw O)
  have HK : Hid (∀ O : Obj, Lib.OthersKept 5 (some b) w (w.alloc O).drew) := fun O => ((Lib.OthersKept.refl _ _ w).alloc O).drew
  have HS : Hid (s < B ∧ s ≠ b) := ⟨hsB, hsb⟩
  clear hN hW hsB hsb
  go_enter Tryz.func54, Tryz.ntmps54
  go_upto_region 1 with fail
  go_cut [0, 1, 5, 6] (fun t _ p q wx => LOpen B b s w.heap.size ⟨8, tx, n⟩ r l k w t p q wx)
  case first =>
    go_region
    all_goals (go_wp2_with fail)
    all_goals
      go_meet
      refine ⟨rfl, rfl, ⟨_, _, rfl, ?_, by omega⟩, by simp [go_sem], by simp [go_sem], by simp [go_sem], IsX.drew (IsX.alloc HW.out _), HB.out _, HK.out _⟩
      first
        | exact HN1.out.kept ((HB.out _).block s HS.out.1 HS.out.2)
        | exact (HN2.out (by assumption)).kept ((HB.out _).block s HS.out.1 HS.out.2)
        | exact (HN2.out rfl).kept ((HB.out _).block s HS.out.1 HS.out.2)
  case rest =>
    obtain ⟨rfl, rfl, ⟨a', cap', rfl, hn, hc'⟩, e1, e2, e3, hw, hbw, hkw⟩ := hcut
    dsimp only at e1 e2 e3
    have HN' : Hid (NodsS s wc a' r) := hn
    have HW' : Hid (Ln B b l k wc) := hw
    have HB' : Hid (BelX B b w wc) := hbw
    have HK' : Hid (Lib.OthersKept 5 (some b) w wc) := hkw
    have hBc : B ≤ wc.heap.size := Nat.le_trans hBw hbw.size
    clear hn hw hbw hkw
    have HA : Hid (LnOk A tA kA) := hA
    clear hA
    go_wp2_with fail
    refine (HA.out B b s r r0 _ _ l k _ HR.out.symm HN'.out HS.out.1 HS.out.2 hc' HW'.out hBc (by omega)).mono ?_
    rintro e w3 ⟨⟨a3, cap3, rfl, n3, hc3⟩, h3, hb3, hk3⟩
    go_wp2
    go_ret
    exact ⟨⟨_, _, rfl, n3, hc3⟩, h3, HB'.out.trans hb3, HK'.out.trans hk3⟩
end Go.Proofs.YtmbeamcjpidnjaaGreatDoor
namespace Go.Proofs.YtmbeamcjpidnjaaGreatDoor
open Go Go.RowKit

set_option maxRecDepth 100000 in
set_option maxHeartbeats 4000000 in
theorem lnlay_9 (tx : ByteArray) (n : Int) (A C : List Nd) (tA tC : List UInt8) (kA kC : Bool) (hA : LnOk A tA kA) (hC : LnOk C tC kC) : LnOk (⟨9, tx, n⟩ :: (A ++ C)) (tA) (kA) := by
  intro B b s ds r0 a cap l k w hd hN hsB hsb hc hW hBw hl
  generalize hr : (A ++ C) ++ r0 = r
  have HR : Hid ((A ++ C) ++ r0 = r) := hr
  have HRL : Hid (r.length = ((A ++ C) : List Nd).length + r0.length) := (show _ = _ by rw [← hr, List.length_append])
  obtain rfl : ds = ⟨9, tx, n⟩ :: r := by rw [hd, ← hr]; rfl
  clear hd hr
  obtain ⟨o0, ea, c1, c2, c3⟩ := hN 0 (by simp)
  subst ea
  simp only [List.length_cons] at hc hl ⊢
  have HN1 : Hid (NodsS s w (some ⟨s, o0 + 3, none⟩) r) := hN.rest
  have HN2 : Hid (cap = 1 → NodsS s w (some ⟨s, o0, none⟩) r) := fun h => by
    have h1 := hN.slid hc
    rw [if_pos h] at h1
    exact h1
  have HW : Hid (Ln B b l k w) := hW
  simp only [Nat.zero_mul, Nat.add_zero, List.getElem_cons_zero] at c1 c2 c3
  have hb0 : s < w.heap.size := by omega
  have hr1 : (1 : Int) ≤ (r.length : Int) + 1 := by omega
  have HB : Hid (∀ O : Obj, BelX B b w (w.alloc O).drew) := fun O => BelX.drew ((BelX.refl B b w).alloc hBw O)
  have HK : Hid (∀ O : Obj, Lib.OthersKept 5 (some b) w (w.alloc O).drew) := fun O => ((Lib.OthersKept.refl _ _ w).alloc O).drew
  have HS : Hid (s < B ∧ s ≠ b) := ⟨hsB, hsb⟩
  clear hN hW hsB hsb
  go_enter Tryz.func54, Tryz.ntmps54
  go_upto_region 1 with fail
  go_cut [0, 1, 5, 6] (fun t _ p q wx => LOpen B b s w.heap.size ⟨9, tx, n⟩ r l k w t p q wx)
  case first =>
    go_region
    all_goals (go_wp2_with fail)
    all_goals
      go_meet
      refine ⟨rfl, rfl, ⟨_, _, rfl, ?_, by omega⟩, by simp [go_sem], by simp [go_sem], by simp [go_sem], IsX.drew (IsX.alloc HW.out _), HB.out _, HK.out _⟩
      first
        | exact HN1.out.kept ((HB.out _).block s HS.out.1 HS.out.2)
        | exact (HN2.out (by assumption)).kept ((HB.out _).block s HS.out.1 HS.out.2)
        | exact (HN2.out rfl).kept ((HB.out _).block s HS.out.1 HS.out.2)
  case rest =>
    obtain ⟨rfl, rfl, ⟨a', cap', rfl, hn, hc'⟩, e1, e2, e3, hw, hbw, hkw⟩ := hcut
    dsimp only at e1 e2 e3
    have HN' : Hid (NodsS s wc a' r) := hn
    have HW' : Hid (Ln B b l k wc) := hw
    have HB' : Hid (BelX B b w wc) := hbw
    have HK' : Hid (Lib.OthersKept 5 (some b) w wc) := hkw
    have hBc : B ≤ wc.heap.size := Nat.le_trans hBw hbw.size
    clear hn hw hbw hkw
    rw [List.append_assoc] at HR
    generalize hrc : C ++ r0 = rc at HR
    have HRC : Hid (C ++ r0 = rc) := hrc
    have HLC : Hid (rc.length = C.length + r0.length) := (show _ = _ by rw [← hrc, List.length_append])
    have HAC : Hid ((A ++ C).length = A.length + C.length) := (show _ = _ from List.length_append)
    clear hrc
    have HA : Hid (LnOk A tA kA) := hA
    have HC : Hid (LnOk C tC kC) := hC
    clear hA hC
    go_wp2_with fail
    refine (HA.out B b s r rc _ _ l k _ HR.out.symm (HN'.out.kept (Below.heap_alloc _ _ _ (by have := HS.out; omega))) HS.out.1 HS.out.2 hc' (IsX.alloc HW'.out _) (by simp; omega) (by omega)).mono ?_
    rintro e w3 ⟨⟨a3, cap3, rfl, n3, hc3⟩, h3, hb3, hk3⟩
    have hbc : b < wc.heap.size := IsX.lt HW'.out
    have hx := hk3 wc.heap.size _ (heap_alloc_new wc _) (by simp; omega) (by intro c fz h; cases h)
    have hsz := hb3.size
    have hsz2 : wc.heap.size + 1 ≤ w3.heap.size := by simpa using hsz
    have HX : Hid (w3.heap[wc.heap.size]? = _) := hx
    clear hsz hx
    go_wp2_with fail
    refine (HC.out w3.heap.size wc.heap.size s rc r0 _ _ [] false _ HRC.out.symm n3 (by have := HS.out; omega) (by have := HS.out; omega) hc3 (IsX.unused _ _ _ _ _ HX.out) (Nat.le_refl _) (by have q1 := HRL.out; have q2 := HLC.out; have q3 := HAC.out; simp; omega)).mono ?_
    rintro e w4 ⟨⟨a4, cap4, rfl, n4, hc4⟩, h4, hb4, hk4⟩
    go_wp2
    go_ret
    refine ⟨⟨_, _, rfl, n4, hc4⟩, IsX.far h3 hb4 (by omega) HX.out (by decide), (HB'.out.trans (((BelX.refl _ _ _).alloc hBc _).trans hb3)).trans (hb4.weak (by omega) hBc), ?_⟩
    exact kept_off (HK'.out.trans (((Lib.OthersKept.refl _ _ _).alloc _).trans hk3)) hk4 HB'.out.size
end Go.Proofs.YtmbeamcjpidnjaaGreatDoor
