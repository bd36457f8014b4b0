/- The walk of the law TreeIs. (Made by tools/gen_treeis.py.) -/
import Derived.Test.YtianemmgaiblgabDoorTreW
import Derived.Test.YtianemmgaiblgabDoorTreA
import Derived.Test.YtianemmgaiblgabDoorTreG
import Derived.Test.YtianemmgaiblgabDoorSamI
import Derived.Test.YtianemmgaiblgabDoorAsT
namespace Go.Proofs.YtianemmgaiblgabDoor
open Go Go.RowKit

set_option maxRecDepth 100000 in
set_option maxHeartbeats 8000000 in
theorem treeIs_bad (ds : List Td) (a : Option Addr) (cap : Nat) (i : Int) (ps : List (List Td)) (pa : Option Addr) (pcap : Nat) (w : World) (hc : ds.length ≤ cap) (hpc : ps.length ≤ pcap) (hN : Tds w a ds) (hP : Prg w pa ps) (hsz : Few8 ds) (hsp : ∀ t ∈ ps, Few8 t) (hg : Hnd w) (h : treeF ds ≠ 0) :
    Calls Tryd.prog 7 #[.slice a ds.length cap, .int .i64 i, .slice pa ps.length pcap] w fun e w' => e = .returned (.bool true) ∧ Below w.heap.size w w' := by
  have HG : Hid (Hnd w) := hg
  have HN : Hid (Tds w a ds) := hN
  have HTF : Hid (∀ W : World, Below w.heap.size w W → Calls Tryd.prog 20 #[.slice a ds.length cap] W fun e w' => e = .returned (.int .i64 (treeF ds)) ∧ Below W.heap.size W w') := fun W h => rTreeFault_any ds a cap W (hN.below h) hsz
  have HCH : Hid (∀ W : World, Below w.heap.size w W → Calls Tryd.prog 21 #[.slice a ds.length cap] W fun e w' => e = .returned (errN (treeF ds)) ∧ Below W.heap.size W w') := fun W h => tCheck_any ds a cap W hc (hN.below h) hsz
  have HKI : Hid (∀ W : World, Below w.heap.size w W → Calls Tryd.prog 24 #[.slice a ds.length cap, .int .i64 i] W fun e w' => KidsRes ds i e w' ∧ Below W.heap.size W w') := fun W h => tKids_any ds a cap i W hc (hN.below h) hsz
  have HPF : Hid (∀ W : World, Below w.heap.size w W → Calls Tryd.prog 25 #[.slice pa ps.length pcap] W fun e w' => e = .returned (.tuple #[.int .i64 ((progF ps).1 : Int), .int .i64 (progF ps).2]) ∧ Below W.heap.size W w') := fun W h => rProgram_any ps pa pcap W (hP.below h) hsp
  have HAL : Hid (∀ W : World, Below w.heap.size w W → Calls Tryd.prog 26 #[.slice pa ps.length pcap] W fun e w' => e = .returned (.tuple #[.int .i64 ((progF ps).1 : Int), errN (progF ps).2]) ∧ Below W.heap.size W w') := fun W h => tAll_any ps pa pcap W hpc (hP.below h) hsp
  have hkk : ((((progF ps).1 : Nat) : Int) == (((progF ps).1 : Nat) : Int)) = true := by simp
  have hee : ((progF ps).2 == (progF ps).2) = true := by simp
  generalize (progF ps).1 = K at HPF HAL hkk
  generalize (progF ps).2 = PE at HPF HAL hee
  clear hg hN hP hsz hsp
  have HKE : Hid (kidE ds i = treeF ds) := by show kidE ds i = _; rw [kidE, if_pos h]
  have HNE : Hid (treeF ds ≠ 0) := h
  have HZ : Hid (treeF ds = treeF ds) := rfl
  have h0 : (treeF ds == 0) = false := by simp [h]
  have h1 : (treeF ds == treeF ds) = true := by simp
  generalize treeF ds = E at HTF HCH HKE HNE HZ h0 h1
  clear h
  go_enter Tryd.func7, Tryd.ntmps7
  go_wp2_with fail
  refine (HTF.out _ (Below.refl _ _)).mono ?_
  rintro e w1 ⟨rfl, b1⟩
  go_wp2_with fail
  refine (HCH.out _ b1).mono ?_
  rintro e w2 ⟨rfl, b2⟩
  have B2 := belowT b1 (Nat.le_refl _) b2
  go_wp2_with fail
  refine (serr_any E E _ (HG.out.below B2)).mono ?_
  rintro e w3 ⟨rfl, b3⟩
  have B3 := belowT B2 (Nat.le_refl _) b3
  clear b1 b2 b3 B2
  go_wp2_with fail
  refine (HKI.out _ B3).mono ?_
  rintro e w4 ⟨⟨_, rfl⟩ | ⟨h4, _⟩, b4⟩
  · rw [HKE.out]
    have B4 := belowT B3 (Nat.le_refl _) b4
    go_wp2_with fail
    refine (serr_any E E _ (HG.out.below B4)).mono ?_
    rintro e w5 ⟨rfl, b5⟩
    have B5 := belowT B4 (Nat.le_refl _) b5
    go_wp2_with fail
    refine (sints_at 0 [] rfl none none 0 0 _ (fun i hi => by simp at hi) (fun i hi => by simp at hi) (by simp)).mono ?_
    rintro e w6 ⟨rfl, q6, hq6⟩
    have B6 : Below w.heap.size w w6 := by rw [hq6]; exact belDraw B5 q6
    clear hq6
    go_wp2_with fail
    refine (HPF.out _ B6).mono ?_
    rintro e wa ⟨rfl, ba⟩
    have Ba := belowT B6 (Nat.le_refl _) ba
    go_wp2_with fail
    refine (HAL.out _ Ba).mono ?_
    rintro e wb ⟨rfl, bb⟩
    have Bb := belowT Ba (Nat.le_refl _) bb
    go_wp2_with fail
    refine (serr_any PE PE _ (HG.out.below Bb)).mono ?_
    rintro e wd ⟨rfl, bd'⟩
    have Bd := belowT Bb (Nat.le_refl _) bd'
    go_wp2
    go_ret
    exact ⟨by rfl, Bd⟩
  · exact absurd h4 (by rw [HKE.out]; exact HNE.out)

set_option maxRecDepth 100000 in
set_option maxHeartbeats 8000000 in
theorem treeIs_neg (ds : List Td) (a : Option Addr) (cap : Nat) (i : Int) (ps : List (List Td)) (pa : Option Addr) (pcap : Nat) (w : World) (hc : ds.length ≤ cap) (hpc : ps.length ≤ pcap) (hN : Tds w a ds) (hP : Prg w pa ps) (hsz : Few8 ds) (hsp : ∀ t ∈ ps, Few8 t) (hg : Hnd w) (h : treeF ds = 0) (hi : i < 0) :
    Calls Tryd.prog 7 #[.slice a ds.length cap, .int .i64 i, .slice pa ps.length pcap] w fun e w' => e = .returned (.bool true) ∧ Below w.heap.size w w' := by
  have HG : Hid (Hnd w) := hg
  have HN : Hid (Tds w a ds) := hN
  have HTF : Hid (∀ W : World, Below w.heap.size w W → Calls Tryd.prog 20 #[.slice a ds.length cap] W fun e w' => e = .returned (.int .i64 (treeF ds)) ∧ Below W.heap.size W w') := fun W h => rTreeFault_any ds a cap W (hN.below h) hsz
  have HCH : Hid (∀ W : World, Below w.heap.size w W → Calls Tryd.prog 21 #[.slice a ds.length cap] W fun e w' => e = .returned (errN (treeF ds)) ∧ Below W.heap.size W w') := fun W h => tCheck_any ds a cap W hc (hN.below h) hsz
  have HKI : Hid (∀ W : World, Below w.heap.size w W → Calls Tryd.prog 24 #[.slice a ds.length cap, .int .i64 i] W fun e w' => KidsRes ds i e w' ∧ Below W.heap.size W w') := fun W h => tKids_any ds a cap i W hc (hN.below h) hsz
  have HPF : Hid (∀ W : World, Below w.heap.size w W → Calls Tryd.prog 25 #[.slice pa ps.length pcap] W fun e w' => e = .returned (.tuple #[.int .i64 ((progF ps).1 : Int), .int .i64 (progF ps).2]) ∧ Below W.heap.size W w') := fun W h => rProgram_any ps pa pcap W (hP.below h) hsp
  have HAL : Hid (∀ W : World, Below w.heap.size w W → Calls Tryd.prog 26 #[.slice pa ps.length pcap] W fun e w' => e = .returned (.tuple #[.int .i64 ((progF ps).1 : Int), errN (progF ps).2]) ∧ Below W.heap.size W w') := fun W h => tAll_any ps pa pcap W hpc (hP.below h) hsp
  have hkk : ((((progF ps).1 : Nat) : Int) == (((progF ps).1 : Nat) : Int)) = true := by simp
  have hee : ((progF ps).2 == (progF ps).2) = true := by simp
  generalize (progF ps).1 = K at HPF HAL hkk
  generalize (progF ps).2 = PE at HPF HAL hee
  clear hg hN hP hsz hsp
  have HKE : Hid (kidE ds i = 1) := by show kidE ds i = 1; rw [kidE, if_neg (by simp [h]), if_pos (by omega)]
  have HNE : Hid ((1 : Int) ≠ 0) := by show (1 : Int) ≠ 0; decide
  have HZ : Hid (treeF ds = 0) := h
  clear h
  go_enter Tryd.func7, Tryd.ntmps7
  go_wp2_with fail
  refine (HTF.out _ (Below.refl _ _)).mono ?_
  rintro e w1 ⟨rfl, b1⟩
  rw [HZ.out]
  go_wp2_with fail
  refine (HCH.out _ b1).mono ?_
  rintro e w2 ⟨rfl, b2⟩
  rw [HZ.out]
  have B2 := belowT b1 (Nat.le_refl _) b2
  go_wp2_with fail
  refine (serr_any 0 0 _ (HG.out.below B2)).mono ?_
  rintro e w3 ⟨rfl, b3⟩
  have B3 := belowT B2 (Nat.le_refl _) b3
  clear b1 b2 b3 B2
  go_wp2_with fail
  refine (HKI.out _ B3).mono ?_
  rintro e w4 ⟨⟨_, rfl⟩ | ⟨h4, _⟩, b4⟩
  · rw [HKE.out]
    have B4 := belowT B3 (Nat.le_refl _) b4
    go_wp2_with fail
    refine (serr_any 1 1 _ (HG.out.below B4)).mono ?_
    rintro e w5 ⟨rfl, b5⟩
    have B5 := belowT B4 (Nat.le_refl _) b5
    go_wp2_with fail
    refine (sints_at 0 [] rfl none none 0 0 _ (fun i hi => by simp at hi) (fun i hi => by simp at hi) (by simp)).mono ?_
    rintro e w6 ⟨rfl, q6, hq6⟩
    have B6 : Below w.heap.size w w6 := by rw [hq6]; exact belDraw B5 q6
    clear hq6
    go_wp2_with fail
    refine (HPF.out _ B6).mono ?_
    rintro e wa ⟨rfl, ba⟩
    have Ba := belowT B6 (Nat.le_refl _) ba
    go_wp2_with fail
    refine (HAL.out _ Ba).mono ?_
    rintro e wb ⟨rfl, bb⟩
    have Bb := belowT Ba (Nat.le_refl _) bb
    go_wp2_with fail
    refine (serr_any PE PE _ (HG.out.below Bb)).mono ?_
    rintro e wd ⟨rfl, bd'⟩
    have Bd := belowT Bb (Nat.le_refl _) bd'
    go_wp2
    go_ret
    exact ⟨by rfl, Bd⟩
  · exact absurd h4 (by rw [HKE.out]; exact HNE.out)

set_option maxRecDepth 100000 in
set_option maxHeartbeats 8000000 in
theorem treeIs_far (ds : List Td) (a : Option Addr) (cap : Nat) (i : Int) (ps : List (List Td)) (pa : Option Addr) (pcap : Nat) (w : World) (hc : ds.length ≤ cap) (hpc : ps.length ≤ pcap) (hN : Tds w a ds) (hP : Prg w pa ps) (hsz : Few8 ds) (hsp : ∀ t ∈ ps, Few8 t) (hg : Hnd w) (h : treeF ds = 0) (hi : (ds.length : Int) ≤ i) :
    Calls Tryd.prog 7 #[.slice a ds.length cap, .int .i64 i, .slice pa ps.length pcap] w fun e w' => e = .returned (.bool true) ∧ Below w.heap.size w w' := by
  have HG : Hid (Hnd w) := hg
  have HN : Hid (Tds w a ds) := hN
  have HTF : Hid (∀ W : World, Below w.heap.size w W → Calls Tryd.prog 20 #[.slice a ds.length cap] W fun e w' => e = .returned (.int .i64 (treeF ds)) ∧ Below W.heap.size W w') := fun W h => rTreeFault_any ds a cap W (hN.below h) hsz
  have HCH : Hid (∀ W : World, Below w.heap.size w W → Calls Tryd.prog 21 #[.slice a ds.length cap] W fun e w' => e = .returned (errN (treeF ds)) ∧ Below W.heap.size W w') := fun W h => tCheck_any ds a cap W hc (hN.below h) hsz
  have HKI : Hid (∀ W : World, Below w.heap.size w W → Calls Tryd.prog 24 #[.slice a ds.length cap, .int .i64 i] W fun e w' => KidsRes ds i e w' ∧ Below W.heap.size W w') := fun W h => tKids_any ds a cap i W hc (hN.below h) hsz
  have HPF : Hid (∀ W : World, Below w.heap.size w W → Calls Tryd.prog 25 #[.slice pa ps.length pcap] W fun e w' => e = .returned (.tuple #[.int .i64 ((progF ps).1 : Int), .int .i64 (progF ps).2]) ∧ Below W.heap.size W w') := fun W h => rProgram_any ps pa pcap W (hP.below h) hsp
  have HAL : Hid (∀ W : World, Below w.heap.size w W → Calls Tryd.prog 26 #[.slice pa ps.length pcap] W fun e w' => e = .returned (.tuple #[.int .i64 ((progF ps).1 : Int), errN (progF ps).2]) ∧ Below W.heap.size W w') := fun W h => tAll_any ps pa pcap W hpc (hP.below h) hsp
  have hkk : ((((progF ps).1 : Nat) : Int) == (((progF ps).1 : Nat) : Int)) = true := by simp
  have hee : ((progF ps).2 == (progF ps).2) = true := by simp
  generalize (progF ps).1 = K at HPF HAL hkk
  generalize (progF ps).2 = PE at HPF HAL hee
  clear hg hN hP hsz hsp
  have HKE : Hid (kidE ds i = 1) := by show kidE ds i = 1; rw [kidE, if_neg (by simp [h]), if_pos (by omega)]
  have HNE : Hid ((1 : Int) ≠ 0) := by show (1 : Int) ≠ 0; decide
  have HZ : Hid (treeF ds = 0) := h
  have hn : ¬ i < 0 := by omega
  clear h
  go_enter Tryd.func7, Tryd.ntmps7
  go_wp2_with fail
  refine (HTF.out _ (Below.refl _ _)).mono ?_
  rintro e w1 ⟨rfl, b1⟩
  rw [HZ.out]
  go_wp2_with fail
  refine (HCH.out _ b1).mono ?_
  rintro e w2 ⟨rfl, b2⟩
  rw [HZ.out]
  have B2 := belowT b1 (Nat.le_refl _) b2
  go_wp2_with fail
  refine (serr_any 0 0 _ (HG.out.below B2)).mono ?_
  rintro e w3 ⟨rfl, b3⟩
  have B3 := belowT B2 (Nat.le_refl _) b3
  clear b1 b2 b3 B2
  go_wp2_with fail
  refine (HKI.out _ B3).mono ?_
  rintro e w4 ⟨⟨_, rfl⟩ | ⟨h4, _⟩, b4⟩
  · rw [HKE.out]
    have B4 := belowT B3 (Nat.le_refl _) b4
    go_wp2_with fail
    refine (serr_any 1 1 _ (HG.out.below B4)).mono ?_
    rintro e w5 ⟨rfl, b5⟩
    have B5 := belowT B4 (Nat.le_refl _) b5
    go_wp2_with fail
    refine (sints_at 0 [] rfl none none 0 0 _ (fun i hi => by simp at hi) (fun i hi => by simp at hi) (by simp)).mono ?_
    rintro e w6 ⟨rfl, q6, hq6⟩
    have B6 : Below w.heap.size w w6 := by rw [hq6]; exact belDraw B5 q6
    clear hq6
    go_wp2_with fail
    refine (HPF.out _ B6).mono ?_
    rintro e wa ⟨rfl, ba⟩
    have Ba := belowT B6 (Nat.le_refl _) ba
    go_wp2_with fail
    refine (HAL.out _ Ba).mono ?_
    rintro e wb ⟨rfl, bb⟩
    have Bb := belowT Ba (Nat.le_refl _) bb
    go_wp2_with fail
    refine (serr_any PE PE _ (HG.out.below Bb)).mono ?_
    rintro e wd ⟨rfl, bd'⟩
    have Bd := belowT Bb (Nat.le_refl _) bd'
    go_wp2
    go_ret
    exact ⟨by rfl, Bd⟩
  · exact absurd h4 (by rw [HKE.out]; exact HNE.out)

set_option maxRecDepth 100000 in
set_option maxHeartbeats 8000000 in
theorem treeIs_ok (ds : List Td) (a : Option Addr) (cap : Nat) (i : Int) (ps : List (List Td)) (pa : Option Addr) (pcap : Nat) (w : World) (hc : ds.length ≤ cap) (hpc : ps.length ≤ pcap) (hN : Tds w a ds) (hP : Prg w pa ps) (hsz : Few8 ds) (hsp : ∀ t ∈ ps, Few8 t) (hg : Hnd w) (h : treeF ds = 0) (k : Nat) (hik : i = k) (hk : k < ds.length) :
    Calls Tryd.prog 7 #[.slice a ds.length cap, .int .i64 i, .slice pa ps.length pcap] w fun e w' => e = .returned (.bool true) ∧ Below w.heap.size w w' := by
  have HG : Hid (Hnd w) := hg
  have HN : Hid (Tds w a ds) := hN
  have HTF : Hid (∀ W : World, Below w.heap.size w W → Calls Tryd.prog 20 #[.slice a ds.length cap] W fun e w' => e = .returned (.int .i64 (treeF ds)) ∧ Below W.heap.size W w') := fun W h => rTreeFault_any ds a cap W (hN.below h) hsz
  have HCH : Hid (∀ W : World, Below w.heap.size w W → Calls Tryd.prog 21 #[.slice a ds.length cap] W fun e w' => e = .returned (errN (treeF ds)) ∧ Below W.heap.size W w') := fun W h => tCheck_any ds a cap W hc (hN.below h) hsz
  have HKI : Hid (∀ W : World, Below w.heap.size w W → Calls Tryd.prog 24 #[.slice a ds.length cap, .int .i64 i] W fun e w' => KidsRes ds i e w' ∧ Below W.heap.size W w') := fun W h => tKids_any ds a cap i W hc (hN.below h) hsz
  have HPF : Hid (∀ W : World, Below w.heap.size w W → Calls Tryd.prog 25 #[.slice pa ps.length pcap] W fun e w' => e = .returned (.tuple #[.int .i64 ((progF ps).1 : Int), .int .i64 (progF ps).2]) ∧ Below W.heap.size W w') := fun W h => rProgram_any ps pa pcap W (hP.below h) hsp
  have HAL : Hid (∀ W : World, Below w.heap.size w W → Calls Tryd.prog 26 #[.slice pa ps.length pcap] W fun e w' => e = .returned (.tuple #[.int .i64 ((progF ps).1 : Int), errN (progF ps).2]) ∧ Below W.heap.size W w') := fun W h => tAll_any ps pa pcap W hpc (hP.below h) hsp
  have hkk : ((((progF ps).1 : Nat) : Int) == (((progF ps).1 : Nat) : Int)) = true := by simp
  have hee : ((progF ps).2 == (progF ps).2) = true := by simp
  generalize (progF ps).1 = K at HPF HAL hkk
  generalize (progF ps).2 = PE at HPF HAL hee
  clear hg hN hP hsz hsp
  subst hik
  have HKE : Hid (kidE ds k = 0) := by show kidE ds k = 0; rw [kidE, if_neg (by simp [h]), if_neg (by omega)]
  have HZ : Hid (treeF ds = 0) := h
  have hl := (treeF_zero h).1
  have HALL : Hid (∀ x ∈ ds, nodT x = 0) := (treeF_zero h).2.1
  have hn0 : ¬ (k : Int) < 0 := by omega
  have hn1 : ¬ (ds.length : Int) ≤ (k : Int) := by omega
  have hd1 : decide ((k : Int) < 0) = false := decide_eq_false hn0
  have hd2 : decide ((ds.length : Int) ≤ (k : Int)) = false := decide_eq_false hn1
  have hd3 : decide (ds.length ≤ k) = false := decide_eq_false (by omega)
  clear h
  go_enter Tryd.func7, Tryd.ntmps7
  go_wp2_with fail
  refine (HTF.out _ (Below.refl _ _)).mono ?_
  rintro e w1 ⟨rfl, b1⟩
  rw [HZ.out]
  go_wp2_with fail
  refine (HCH.out _ b1).mono ?_
  rintro e w2 ⟨rfl, b2⟩
  rw [HZ.out]
  have B2 := belowT b1 (Nat.le_refl _) b2
  go_wp2_with fail
  refine (serr_any 0 0 _ (HG.out.below B2)).mono ?_
  rintro e w3 ⟨rfl, b3⟩
  have B3 := belowT B2 (Nat.le_refl _) b3
  clear b1 b2 b3 B2
  have HB3 : Hid (Below w.heap.size w w3) := B3
  go_wp2
  go_loopw [9, 10, 11] (fun x at_ j wr => ∃ (q : Nat) (A : Option Addr) (c : Nat), q ≤ kdT ds[k] ∧ x = .slice A q c ∧ at_ = .int .i64 ((kidAt ds k q : Nat) : Int) ∧ j = .int .i64 (q : Int) ∧ KlInv ds k w3 q A c wr) (fun _ _ j _ => kdT ds[k] - (intOf j).toNat)
  case atStart => exact ⟨0, none, 0, Nat.zero_le _, rfl, by rw [kid_zero]; go_num, rfl, KlInv.start ds k w3⟩
  case round =>
    obtain ⟨q, A, c, hq, rfl, rfl, rfl, hI⟩ := hrel
    have HI : Hid (KlInv ds k w3 q A c wr) := hI
    have HBR : Hid (Below w.heap.size w wr) := belowT HB3.out (Nat.le_refl _) hI.b
    clear hI
    obtain ⟨b, o, ea, hb, c1, c2, c3⟩ := (HN.out.below HBR.out) k hk
    subst ea
    have hkd := kdT_le (HALL.out _ (List.getElem_mem hk))
    have HKZ : Hid (kdZ ds[k] = (kdT ds[k] : Int)) := kdZ_ok (HALL.out _ (List.getElem_mem hk))
    have HKD : Hid (∀ W : World, Calls Tryd.prog 22 #[.agg #[.int .i64 ds[k].op, .string ds[k].tx, .int .i64 ds[k].n]] W fun e w' => e = .returned (.int .i64 (kdT ds[k] : Int)) ∧ Below W.heap.size W w') := fun W => by
      have := r2Kids_any ds[k] W
      rw [HKZ.out] at this
      exact this
    have HSTEP : Hid (q < kdT ds[k] → endT ds (kidAt ds k q) 1 = some (kidAt ds k (q + 1)) ∧ kidAt ds k q < ds.length) := fun h => by
      obtain ⟨_, _, rfl, _, h5, _⟩ := kid_some HZ.out hk (Nat.le_of_lt h)
      exact ⟨kid_next HZ.out hk h, h5 h⟩
    have HFIN : Hid (q = kdT ds[k] → Ints wr A (kidsL ds k) ∧ (kidsL ds k).length = q) := fun h => by
      subst h
      have h1 := HI.out.ints
      rw [kidsTo_all hk] at h1
      exact ⟨h1, by rw [← kidsTo_all hk, kidsTo_len]⟩
    clear HKZ
    generalize kdT ds[k] = p at hq hkd HKD HSTEP HFIN
    generalize ds[k].op = xo at c1 HKD
    generalize ds[k].tx = xt at c2 HKD
    generalize ds[k].n = xn at c3 HKD
    by_cases hlt : q < p
    · obtain ⟨hend, hat⟩ := HSTEP.out hlt
      have hqi : (q : Int) < (p : Int) := by omega
      have HEN : Hid (endT ds (kidAt ds k q) 1 = some (kidAt ds k (q + 1))) := hend
      obtain ⟨i0, hi0, hz0, hz1, hz2⟩ := info_parts intInf
      clear hend HSTEP HFIN
      go_wp2_with fail
      refine (HKD.out _).mono ?_
      rintro e w4 ⟨rfl, b4⟩
      have HI3 : Hid (KlInv ds k w3 q A c w4) := HI.out.later b4
      have hs3 := HI3.out.b.size
      clear b4
      go_wp2_with (at_builtin; refine wpList_append_lies _ rfl _ _ 23 rfl w3.heap.size 3 i0 _ 1 8 Tryd.underlying23 hi0 hz0 hz1 hz2 rfl (by decide) _ _ _ rfl (World.ownsRow.alloc HI3.out.o _) ⟨w4.heap.size, 0, none⟩ 1 1 [.int .i64 ((kidAt ds k q : Nat) : Int)] rfl rfl (cell_one_new w4 _ _) (by intro u hu; simp at hu; subst hu; rfl) (by decide) (by unfold maxLen; omega) (by omega) (by simp; omega) (w4.heap.size + 1) (by simp) ?_)
      intro g4 cap4 w5 hown4 hgrow4 hat4 hlt4
      have HI4 : Hid (KlInv ds k w3 (q + 1) (some ⟨g4, 0, none⟩) cap4 w5) := HI3.out.next hown4 hgrow4
      have HEO : Hid (Calls Tryd.prog 23 #[.slice (some ⟨b, o, none⟩) ds.length cap, .int .i64 ((kidAt ds k q : Nat) : Int)] w5 fun e w' => e = .returned (.int .i64 ((kidAt ds k (q + 1) : Nat) : Int)) ∧ Below w5.heap.size w5 w') := by
        have h := r2EndOf_any ds (some ⟨b, o, none⟩) cap (by omega) HALL.out (ds.length + 1) (kidAt ds k q) w5 (HN.out.below (belowT HB3.out (Nat.le_refl _) HI4.out.b)) (by omega) (by omega)
        rw [HEN.out] at h
        exact h
      clear hown4 hgrow4 hat4 hlt4
      go_wp2_with fail
      refine HEO.out.mono ?_
      rintro e w6 ⟨rfl, b6⟩
      have HI5 : Hid (KlInv ds k w3 (q + 1) (some ⟨g4, 0, none⟩) cap4 w6) := HI4.out.later b6
      clear b6
      go_wp2
      go_roundw
      case rel => exact ⟨q + 1, some ⟨g4, 0, none⟩, cap4, by omega, rfl, rfl, by go_num, HI5.out⟩
      case measure => simp [intOf]; omega
    · obtain ⟨f1, f2⟩ := HFIN.out (by omega)
      have HF1 : Hid (Ints wr A (kidsL ds k)) := f1
      have HF2 : Hid ((kidsL ds k).length = q) := f2
      have hqi : ¬ (q : Int) < (p : Int) := by omega
      clear f1 f2 HSTEP HFIN
      go_wp2_with fail
      refine (HKD.out _).mono ?_
      rintro e w4 ⟨rfl, b4⟩
      have HF3 : Hid (Ints w4 A (kidsL ds k)) := HF1.out.below b4
      have B4 : Below w.heap.size w w4 := belowT HBR.out (Nat.le_refl _) b4
      clear b4
      go_wp2_with fail
      refine (HKI.out _ B4).mono ?_
      rintro e w5 ⟨⟨h5, _⟩ | ⟨_, A5, c5, rfl, hI5⟩, b5⟩
      · exact absurd HKE.out h5
      · rw [Int.toNat_natCast] at hI5 ⊢
        have HF5 : Hid (Ints w5 A5 (kidsL ds k) ∧ Ints w5 A (kidsL ds k)) := ⟨hI5, HF3.out.below b5⟩
        have B5 := belowT B4 (Nat.le_refl _) b5
        rw [HF2.out]
        clear hI5 b5
        go_wp2_with fail
        refine (serr_any 0 0 _ (HG.out.below B5)).mono ?_
        rintro e w6 ⟨rfl, b6⟩
        have B6 := belowT B5 (Nat.le_refl _) b6
        have HF6 : Hid (Ints w6 A5 (kidsL ds k) ∧ Ints w6 A (kidsL ds k)) := ⟨HF5.out.1.below b6, HF5.out.2.below b6⟩
        clear b6
        go_wp2_with fail
        refine (sints_at q (kidsL ds k) HF2.out A5 A c5 c _ HF6.out.1 HF6.out.2 (by rw [HF2.out]; omega)).mono ?_
        rintro e w7 ⟨rfl, q7, hq7⟩
        have B7 : Below w.heap.size w w7 := by rw [hq7]; exact belDraw B6 q7
        clear hq7
        go_wp2_with fail
        refine (HPF.out _ B7).mono ?_
        rintro e wa ⟨rfl, ba⟩
        have Ba := belowT B7 (Nat.le_refl _) ba
        go_wp2_with fail
        refine (HAL.out _ Ba).mono ?_
        rintro e wb ⟨rfl, bb⟩
        have Bb := belowT Ba (Nat.le_refl _) bb
        go_wp2_with fail
        refine (serr_any PE PE _ (HG.out.below Bb)).mono ?_
        rintro e wd ⟨rfl, bd'⟩
        have Bd := belowT Bb (Nat.le_refl _) bd'
        go_wp2
        go_ret
        exact ⟨by rfl, Bd⟩

theorem treeIs_any (ds : List Td) (a : Option Addr) (cap : Nat) (i : Int) (ps : List (List Td)) (pa : Option Addr) (pcap : Nat) (w : World) (hc : ds.length ≤ cap) (hpc : ps.length ≤ pcap) (hN : Tds w a ds) (hP : Prg w pa ps) (hsz : Few8 ds) (hsp : ∀ t ∈ ps, Few8 t) (hg : Hnd w) :
    Calls Tryd.prog 7 #[.slice a ds.length cap, .int .i64 i, .slice pa ps.length pcap] w fun e w' => e = .returned (.bool true) ∧ Below w.heap.size w w' := by
  by_cases h : treeF ds = 0
  · by_cases h1 : i < 0
    · exact treeIs_neg ds a cap i ps pa pcap w hc hpc hN hP hsz hsp hg h h1
    by_cases h2 : (ds.length : Int) ≤ i
    · exact treeIs_far ds a cap i ps pa pcap w hc hpc hN hP hsz hsp hg h h2
    · exact treeIs_ok ds a cap i ps pa pcap w hc hpc hN hP hsz hsp hg h i.toNat (by omega) (by omega)
  · exact treeIs_bad ds a cap i ps pa pcap w hc hpc hN hP hsz hsp hg h
end Go.Proofs.YtianemmgaiblgabDoor
