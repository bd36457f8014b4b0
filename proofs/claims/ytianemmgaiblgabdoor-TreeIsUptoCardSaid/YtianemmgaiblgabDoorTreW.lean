/- Package tree: Kids. -/
import Derived.Test.YtianemmgaiblgabDoorTreZ
namespace Go.Proofs.YtianemmgaiblgabDoor
open Go Go.RowKit

set_option maxRecDepth 100000 in
set_option maxHeartbeats 4000000 in
theorem tKids_far (ds : List Td) (a : Option Addr) (cap : Nat) (i : Int) (w : World) (hc : ds.length ≤ cap) (hN : Tds w a ds) (hsz : Few9 ds) : Calls Tryd.prog 24 #[.slice a ds.length cap, .int .i64 i] w fun e w' => KidsFar ds i w.heap.size e w' ∧ Below w.heap.size w w' := by
  have HC : Hid (Calls Tryd.prog 21 #[.slice a ds.length cap] w fun e w' => e = .returned (errN (treeF ds)) ∧ Below w.heap.size w w') := tCheck_nine ds a cap w hc hN hsz
  have HN : Hid (Tds w a ds) := hN
  clear hN hsz
  by_cases h0 : treeF ds = 0
  · have H0 : Hid (treeF ds = 0) := h0
    have hl := (treeF_zero h0).1
    by_cases h1 : i < 0
    · have HE : Hid (kidE ds i = 1) := by show kidE ds i = 1; rw [kidE, if_neg (by simp [h0]), if_pos (.inl h1)]
      clear h0
      go_enter Tryd.func24, Tryd.ntmps24
      go_wp2_with fail
      refine HC.out.mono ?_
      rintro e w2 ⟨rfl, b2⟩
      rw [H0.out, errN_0]
      go_wp2
      go_ret2
      exact ⟨.inl ⟨by rw [HE.out]; decide, by rw [HE.out]; rfl⟩, b2⟩
    by_cases h2 : (ds.length : Int) ≤ i
    · have HE : Hid (kidE ds i = 1) := by show kidE ds i = 1; rw [kidE, if_neg (by simp [h0]), if_pos (.inr h2)]
      clear h0
      go_enter Tryd.func24, Tryd.ntmps24
      go_wp2_with fail
      refine HC.out.mono ?_
      rintro e w2 ⟨rfl, b2⟩
      rw [H0.out, errN_0]
      go_wp2
      go_ret2
      exact ⟨.inl ⟨by rw [HE.out]; decide, by rw [HE.out]; rfl⟩, b2⟩
    · have HE : Hid (kidE ds i = 0) := by show kidE ds i = 0; rw [kidE, if_neg (by simp [h0]), if_neg (by omega)]
      obtain ⟨k, rfl⟩ : ∃ k : Nat, i = k := ⟨i.toNat, by omega⟩
      have hk : k < ds.length := by omega
      have HALL : Hid (∀ x ∈ ds, nodT x = 0) := (treeF_zero h0).2.1
      have hd1 : decide ((k : Int) < 0) = false := decide_eq_false h1
      have hd2 : decide ((ds.length : Int) ≤ (k : Int)) = false := decide_eq_false h2
      have hd3 : decide (ds.length ≤ k) = false := decide_eq_false (by omega)
      have hkd := kdT_le (HALL.out _ (List.getElem_mem hk))
      obtain ⟨b, o, ea, hb, c1, c2, c3⟩ := HN.out k hk
      subst ea
      have HKD : Hid (∀ W : World, Calls Tryd.prog 46 #[.agg #[.int .i64 ds[k].op, .string ds[k].tx, .int .i64 ds[k].n]] W fun e w' => e = .returned (.int .i64 (kdT ds[k] : Int)) ∧ Below W.heap.size W w') := fun W => tMany_ok _ (HALL.out _ (List.getElem_mem hk)) W
      have HSTEP : Hid (∀ q, q < kdT ds[k] → endT ds (kidAt ds k q) 1 = some (kidAt ds k (q + 1)) ∧ kidAt ds k q < ds.length) := fun q h => by
        obtain ⟨_, _, rfl, _, h5, _⟩ := kid_some H0.out hk (Nat.le_of_lt h)
        exact ⟨kid_next H0.out hk h, h5 h⟩
      have HFIN : Hid (kidsTo ds k (kdT ds[k]) = kidsL ds k ∧ (kidsL ds k).length = kdT ds[k]) := ⟨kidsTo_all hk, by rw [← kidsTo_all hk, kidsTo_len]⟩
      have HCE : Hid (∀ W : World, Below w.heap.size w W → W.cell? ⟨b, o + k * 3, none⟩ = some (.int .i64 ds[k].op) ∧ W.cell? ⟨b, o + k * 3 + 1, none⟩ = some (.string ds[k].tx) ∧ W.cell? ⟨b, o + k * 3 + 2, none⟩ = some (.int .i64 ds[k].n)) := fun W h => ⟨((bcell h).1 _ _ hb).trans c1, ((bcell h).1 _ _ hb).trans c2, ((bcell h).1 _ _ hb).trans c3⟩
      clear h0 c1 c2 c3
      generalize kdT ds[k] = p at hkd HKD HSTEP HFIN
      generalize ds[k].op = xo at HKD HCE
      generalize ds[k].tx = xt at HKD HCE
      generalize ds[k].n = xn at HKD HCE
      go_enter Tryd.func24, Tryd.ntmps24
      go_wp2_with fail
      refine HC.out.mono ?_
      rintro e w1 ⟨rfl, b1⟩
      rw [H0.out, errN_0]
      obtain ⟨c1, c2, c3⟩ := HCE.out _ b1
      have HB1 : Hid (Below w.heap.size w w1) := b1
      clear b1
      go_wp2_with fail
      refine (HKD.out _).mono ?_
      rintro e w2 ⟨rfl, b2⟩
      have HB2 : Hid (Below w.heap.size w w2) := belowT HB1.out (Nat.le_refl _) b2
      clear b2 c1 c2 c3
      go_wp2_with fail
      go_loopw [7, 8, 30] (fun x at_ j wr => ∃ (q : Nat) (A : Option Addr) (c : Nat), q ≤ p ∧ x = .slice A q c ∧ at_ = .int .i64 ((kidAt ds k q : Nat) : Int) ∧ j = .int .i64 (q : Int) ∧ KlInv ds k w2 q A c wr) (fun _ _ j _ => p - (intOf j).toNat)
      case atStart => exact ⟨0, none, 0, Nat.zero_le _, rfl, by rw [kid_zero]; go_num, rfl, KlInv.start ds k w2⟩
      case round =>
        obtain ⟨q, A, c, hq, rfl, rfl, rfl, hI⟩ := hrel
        have HI : Hid (KlInv ds k w2 q A c wr) := hI
        have HBR : Hid (Below w.heap.size w wr) := belowT HB2.out (Nat.le_refl _) hI.b
        have hsr := hI.b.size
        clear hI
        by_cases hlt : q < p
        · obtain ⟨hend, hat⟩ := HSTEP.out q hlt
          have hqi : (q : Int) < (p : Int) := by omega
          have HEN : Hid (endT ds (kidAt ds k q) 1 = some (kidAt ds k (q + 1))) := hend
          obtain ⟨i0, hi0, hz0, hz1, hz2⟩ := info_parts intInf
          clear hend HSTEP HFIN
          go_wp2_with (at_builtin; refine wpList_append_lies _ rfl _ _ 23 rfl w2.heap.size 3 i0 _ 1 8 Tryd.underlying23 hi0 hz0 hz1 hz2 rfl (by decide) _ _ _ rfl (World.ownsRow.alloc HI.out.o _) ⟨wr.heap.size, 0, none⟩ 1 1 [.int .i64 ((kidAt ds k q : Nat) : Int)] rfl rfl (cell_one_new wr _ _) (by intro u hu; simp at hu; subst hu; rfl) (by decide) (by unfold maxLen; omega) (by omega) (by simp; omega) (wr.heap.size + 1) (by simp) ?_)
          intro g4 cap4 w4 hown4 hgrow4 hat4 hlt4
          have HI4 : Hid (KlInv ds k w2 (q + 1) (some ⟨g4, 0, none⟩) cap4 w4) := HI.out.next hown4 hgrow4
          have HEO : Hid (Calls Tryd.prog 47 #[.slice (some ⟨b, o, none⟩) ds.length cap, .int .i64 ((kidAt ds k q : Nat) : Int)] w4 fun e w' => e = .returned (.tuple #[.int .i64 ((kidAt ds k (q + 1) : Nat) : Int), .bool true]) ∧ Below w4.heap.size w4 w') := tEndOf_some hl HALL.out (Nat.le_of_lt hat) (HN.out.below (belowT HB2.out (Nat.le_refl _) HI4.out.b)) HEN.out
          clear hown4 hgrow4 hat4 hlt4
          go_wp2_with fail
          refine HEO.out.mono ?_
          rintro e w5 ⟨rfl, b5⟩
          have HI5 : Hid (KlInv ds k w2 (q + 1) (some ⟨g4, 0, none⟩) cap4 w5) := HI4.out.later b5
          clear b5
          go_wp2
          go_roundw
          case rel => exact ⟨q + 1, some ⟨g4, 0, none⟩, cap4, by omega, rfl, rfl, by go_num, HI5.out⟩
          case measure => simp [intOf]; omega
        · have hqp : q = p := by omega
          subst hqp
          have HF : Hid (IntsF w.heap.size wr A (kidsL ds k)) := by
            have h1 := HI.out.far.down HB2.out.size
            rw [HFIN.out.1] at h1
            exact h1
          have HF2 : Hid ((kidsL ds k).length = q) := HFIN.out.2
          have hqi : ¬ (q : Int) < (q : Int) := by omega
          clear HSTEP HFIN
          go_wp2
          go_ret2
          exact ⟨.inr ⟨HE.out, A, c, by rw [Int.toNat_natCast, HF2.out]; rfl, HF.out⟩, HBR.out⟩
  · have HE : Hid (kidE ds i = treeF ds) := by show kidE ds i = treeF ds; rw [kidE, if_pos h0]
    have HNZ : Hid (treeF ds ≠ 0) := h0
    have HER : Hid (errN (treeF ds) = .iface 24 (.int .i64 (treeF ds))) := errN_ne h0
    clear h0
    go_enter Tryd.func24, Tryd.ntmps24
    go_wp2_with fail
    refine HC.out.mono ?_
    rintro e w2 ⟨rfl, b2⟩
    rw [HER.out]
    go_wp2
    go_ret2
    exact ⟨.inl ⟨by rw [HE.out]; exact HNZ.out, by rw [HE.out, HER.out]; rfl⟩, b2⟩
theorem tKids_nine (ds : List Td) (a : Option Addr) (cap : Nat) (i : Int) (w : World) (hc : ds.length ≤ cap) (hN : Tds w a ds) (hsz : Few9 ds) : Calls Tryd.prog 24 #[.slice a ds.length cap, .int .i64 i] w fun e w' => KidsRes ds i e w' ∧ Below w.heap.size w w' :=
  (tKids_far ds a cap i w hc hN hsz).mono fun _ _ h => ⟨h.1.res, h.2⟩
theorem tKids_any (ds : List Td) (a : Option Addr) (cap : Nat) (i : Int) (w : World) (hc : ds.length ≤ cap) (hN : Tds w a ds) (hsz : Few8 ds) : Calls Tryd.prog 24 #[.slice a ds.length cap, .int .i64 i] w fun e w' => KidsRes ds i e w' ∧ Below w.heap.size w w' :=
  (tKids_far ds a cap i w hc hN hsz.nine).mono fun _ _ h => ⟨h.1.res, h.2⟩
end Go.Proofs.YtianemmgaiblgabDoor
