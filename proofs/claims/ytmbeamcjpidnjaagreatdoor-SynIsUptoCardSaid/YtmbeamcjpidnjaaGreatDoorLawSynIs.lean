/- The walk of the law SynIs. -/
import Derived.Test.YtmbeamcjpidnjaaGreatDoorSyW
import Derived.Test.YtmbeamcjpidnjaaGreatDoorSyBs
import Derived.Test.YtmbeamcjpidnjaaGreatDoorSynXs
import Derived.Test.YtmbeamcjpidnjaaGreatDoorRdQ
import Derived.Test.YtmbeamcjpidnjaaGreatDoorTreG
import Derived.Test.YtmbeamcjpidnjaaGreatDoorTrS
import Derived.Test.YtmbeamcjpidnjaaGreatDoorAsT
namespace Go.Proofs.YtmbeamcjpidnjaaGreatDoor
open Go Go.RowKit

set_option maxRecDepth 100000 in
set_option maxHeartbeats 4000000 in
theorem synIs_any (ps : List (List Td)) (a : Option Addr) (cap : Nat) (s : ByteArray) (w : World) (hc : ps.length ≤ cap) (hP : Prg w a ps) (hsz : ∀ t ∈ ps, Few8 t) (hg : Hnd w) (ht : Tabs w) :
    Calls Tryz.prog 3 #[.slice a ps.length cap, .string s] w fun e w' => e = .returned (.bool true) ∧ Below w.heap.size w w' := by
  have HG : Hid (Hnd w) := hg
  have HPF : Hid (∀ W : World, Below w.heap.size w W → Calls Tryz.prog 7 #[.slice a ps.length cap] W fun e w' => e = .returned (.tuple #[.int .i64 ((progF ps).1 : Int), .int .i64 (progF ps).2]) ∧ Below W.heap.size W w') := fun W h => rProgram_any ps a cap W (hP.below h) hsz
  have HSP : Hid (∀ W : World, Below w.heap.size w W → Calls Tryz.prog 9 #[.slice a ps.length cap] W fun e w' => e = .returned (.tuple #[.string (prnS ps), errN (progF ps).2]) ∧ Below W.heap.size W w') := fun W h => synPrint_nine ps a cap W hc (hP.below h) (fun t ht => (hsz t ht).nine) (ht.below h)
  have HPO : Hid (∀ W : World, Calls Tryz.prog 11 #[.string s] W fun e w' => ParRes s W e w') := fun W => parseOf_any s W
  have HSY : Hid (∀ W : World, Below w.heap.size w W → Calls Tryz.prog 12 #[.string s] W fun e w' => ParOut s W e w') := fun W h => synParse_any s W (ht.below h)
  have hee : ((progF ps).2 == (progF ps).2) = true := by simp
  by_cases h0 : (progF ps).2 = 0
  · obtain ⟨h1, h2⟩ := prog_ok h0
    have HR : Hid (∀ W : World, Below w.heap.size w W → Calls Tryz.prog 8 #[.slice a ps.length cap] W fun e w' => e = .returned (.string (wbS (prgTx ps))) ∧ Below W.heap.size W w') := fun W h => print_any ps a cap W (hP.below h) (okP_all ps 0 h2) h1
    rw [prnS_ok h0] at HSP
    rw [h0] at HPF HSP
    generalize wbS (prgTx ps) = T at HR HSP
    generalize (progF ps).1 = K at HPF
    have ht1 : (T.toList == T.toList) = true := by simp
    have ht2 : (T.toList != T.toList) = false := by simp
    clear hP hsz h0 h2 hg hee ht
    go_enter Tryz.func3, Tryz.ntmps3
    go_wp2_with fail
    refine (HPF.out _ (Below.refl _ _)).mono ?_
    rintro e w1 ⟨rfl, b1⟩
    go_wp2_with fail
    refine (HR.out _ b1).mono ?_
    rintro e w2 ⟨rfl, b2⟩
    have B2 := belowT b1 (Nat.le_refl _) b2
    go_wp2_with fail
    refine (HSP.out _ B2).mono ?_
    rintro e w3 ⟨rfl, b3⟩
    have B3 := belowT B2 (Nat.le_refl _) b3
    clear b1 b2 b3 B2
    go_wp2_with fail
    refine (serr_any 0 0 _ (HG.out.below B3)).mono ?_
    rintro e w4 ⟨rfl, b4⟩
    have B4 := belowT B3 (Nat.le_refl _) b4
    clear b4 B3
    go_wp2_with fail
    refine (HPO.out _).mono ?_
    rintro e w5 ⟨qs, k, f, A, c, rfl, hR, hQ, _, hqc, b5⟩
    have B5 := belowT B4 (Nat.le_refl _) b5
    have HRR : Hid (ParR s qs k f) := hR
    have HQ : Hid (Prg w5 A qs) := hQ
    clear hR hQ b5 B4
    go_wp2_with fail
    refine (HSY.out _ B5).mono ?_
    rintro e w6 ⟨qs2, k2, f2, A2, c2, rfl, hR2, hQ2, hqc2, b6⟩
    obtain ⟨rfl, rfl, rfl⟩ := parR_det HRR.out hR2
    have B6 := belowT B5 (Nat.le_refl _) b6
    have HQ6 : Hid (Prg w6 A qs) := HQ.out.below b6
    have HQ2 : Hid (Prg w6 A2 qs) := hQ2
    have hff : (f == f) = true := by simp
    have hkk : (k == k) = true := by simp
    clear hR2 hQ2 b6 B5 HQ
    go_wp2_with fail
    refine (serr_any f f _ (HG.out.below B6)).mono ?_
    rintro e w7 ⟨rfl, b7⟩
    have B7 := belowT B6 (Nat.le_refl _) b7
    have HSM : Hid (Calls Tryz.prog 13 #[.slice A2 qs.length c2, .slice A qs.length c] w7 fun e w' => e = .returned (.bool true) ∧ ∃ q, w' = w7.drewN q) := by
      have h1 := parR_len HRR.out
      exact sprogs_any qs qs A2 A c2 c (by omega) (fun t ht => by have := h1.2 t ht; omega) true (by simp) w7 (HQ2.out.below b7) (HQ6.out.below b7)
    clear b7 B6 HQ6 HQ2
    go_wp2_with fail
    refine HSM.out.mono ?_
    rintro e w8 ⟨rfl, q8, rfl⟩
    have B8 := belDraw B7 q8
    go_wp2
    go_ret
    exact ⟨rfl, B8⟩
  · have HNE : Hid ((progF ps).2 ≠ 0) := h0
    have he0 : ((progF ps).2 == 0) = false := by simp [h0]
    rw [prnS_no h0] at HSP
    generalize (progF ps).2 = E at HPF HSP hee HNE he0
    generalize (progF ps).1 = K at HPF
    clear hP hsz h0 hg ht
    go_enter Tryz.func3, Tryz.ntmps3
    go_wp2_with fail
    refine (HPF.out _ (Below.refl _ _)).mono ?_
    rintro e w1 ⟨rfl, b1⟩
    go_wp2_with fail
    refine (HSP.out _ b1).mono ?_
    rintro e w3 ⟨rfl, b3⟩
    have B3 := belowT b1 (Nat.le_refl _) b3
    clear b1 b3
    go_wp2_with fail
    refine (serr_any E E _ (HG.out.below B3)).mono ?_
    rintro e w4 ⟨rfl, b4⟩
    have B4 := belowT B3 (Nat.le_refl _) b4
    clear b4 B3
    go_wp2_with fail
    refine (HPO.out _).mono ?_
    rintro e w5 ⟨qs, k, f, A, c, rfl, hR, hQ, _, hqc, b5⟩
    have B5 := belowT B4 (Nat.le_refl _) b5
    have HRR : Hid (ParR s qs k f) := hR
    have HQ : Hid (Prg w5 A qs) := hQ
    clear hR hQ b5 B4
    go_wp2_with fail
    refine (HSY.out _ B5).mono ?_
    rintro e w6 ⟨qs2, k2, f2, A2, c2, rfl, hR2, hQ2, hqc2, b6⟩
    obtain ⟨rfl, rfl, rfl⟩ := parR_det HRR.out hR2
    have B6 := belowT B5 (Nat.le_refl _) b6
    have HQ6 : Hid (Prg w6 A qs) := HQ.out.below b6
    have HQ2 : Hid (Prg w6 A2 qs) := hQ2
    have hff : (f == f) = true := by simp
    have hkk : (k == k) = true := by simp
    clear hR2 hQ2 b6 B5 HQ
    go_wp2_with fail
    refine (serr_any f f _ (HG.out.below B6)).mono ?_
    rintro e w7 ⟨rfl, b7⟩
    have B7 := belowT B6 (Nat.le_refl _) b7
    have HSM : Hid (Calls Tryz.prog 13 #[.slice A2 qs.length c2, .slice A qs.length c] w7 fun e w' => e = .returned (.bool true) ∧ ∃ q, w' = w7.drewN q) := by
      have h1 := parR_len HRR.out
      exact sprogs_any qs qs A2 A c2 c (by omega) (fun t ht => by have := h1.2 t ht; omega) true (by simp) w7 (HQ2.out.below b7) (HQ6.out.below b7)
    clear b7 B6 HQ6 HQ2
    go_wp2_with fail
    refine HSM.out.mono ?_
    rintro e w8 ⟨rfl, q8, rfl⟩
    have B8 := belDraw B7 q8
    go_wp2
    go_ret
    exact ⟨rfl, B8⟩
end Go.Proofs.YtmbeamcjpidnjaaGreatDoor
