/- The walk of the law LexIs. -/
import Derived.Test.YtlogepdifapciabDoorLexW
import Derived.Test.YtlogepdifapciabDoorFilT
import Derived.Test.YtlogepdifapciabDoorSamI
import Derived.Test.YtlogepdifapciabDoorAsT
namespace Go.Proofs.YtlogepdifapciabDoor
open Go Go.RowKit

set_option maxRecDepth 100000 in
set_option maxHeartbeats 4000000 in
theorem lexIs_bad (s : ByteArray) (w : World) (hg : Hnd w) (h : lexE (btL s) ≠ 0) : Calls Tryd.prog 4 #[.string s] w fun e w' => e = .returned (.bool true) ∧ Below w.heap.size w w' := by
  have H : Hid (lexE (btL s) ≠ 0) := h
  have HG : Hid (Hnd w) := hg
  have hkk : ((lexK (btL s) : Int) == (lexK (btL s) : Int)) = true := by simp
  have hee : (lexE (btL s) == lexE (btL s)) = true := by simp
  clear h hg
  go_enter Tryd.func4, Tryd.ntmps4
  go_wp2_with fail
  refine (lexOf_all s _).mono ?_
  rintro e w1 ⟨⟨_, rfl⟩ | ⟨h1, _⟩, b1⟩
  · go_wp2_with fail
    refine (words_any s _).mono ?_
    rintro e w2 ⟨⟨_, rfl⟩ | ⟨h1, _⟩, b2⟩
    · have B2 := belowT b1 (Nat.le_refl _) b2
      generalize lexK (btL s) = K at hkk
      generalize lexE (btL s) = E at hee
      go_wp2_with fail
      refine (serr_any E E _ (HG.out.below B2)).mono ?_
      rintro e w3 ⟨rfl, b3⟩
      have B3 := belowT B2 (Nat.le_refl _) b3
      go_wp2_with fail
      refine (stexts_same [] none none 0 0 _ (WdsB.nil _ _ _) (WdsB.nil _ _ _) (by simp)).mono ?_
      rintro e w4 ⟨rfl, q, hq⟩
      have B4 : Below w.heap.size w w4 := by rw [hq]; exact belDraw B3 q
      clear hq
      go_wp2_with fail
      refine (sints_at 0 [] rfl none none 0 0 _ (fun i hi => by simp at hi) (fun i hi => by simp at hi) (by simp)).mono ?_
      rintro e w5 ⟨rfl, q, hq⟩
      have B5 : Below w.heap.size w w5 := by rw [hq]; exact belDraw B4 q
      clear hq
      go_wp2
      go_ret
      exact ⟨by rfl, B5⟩
    · exact absurd h1 H.out
  · exact absurd h1 H.out

set_option maxRecDepth 100000 in
set_option maxHeartbeats 4000000 in
theorem lexIs_ok (s : ByteArray) (w : World) (hg : Hnd w) (h : lexE (btL s) = 0) : Calls Tryd.prog 4 #[.string s] w fun e w' => e = .returned (.bool true) ∧ Below w.heap.size w w' := by
  have H : Hid (lexE (btL s) = 0) := h
  have HG : Hid (Hnd w) := hg
  have hfew := lex_few h
  clear h hg
  go_enter Tryd.func4, Tryd.ntmps4
  go_wp2_with fail
  refine (lexOf_all s _).mono ?_
  rintro e w1 ⟨⟨h1, _⟩ | ⟨_, A, P, ac, pc, rfl, h1, h2⟩, b1⟩
  · exact absurd H.out h1
  · have HT : Hid (TwoR (btL s) A P ac pc w1) := twoR_of h1 h2
    clear h1 h2
    go_wp2_with fail
    refine (words_any s _).mono ?_
    rintro e w2 ⟨⟨h1, _⟩ | ⟨_, A', P', ac', pc', rfl, hT⟩, b2⟩
    · exact absurd H.out h1
    · have HT' : Hid (TwoR (btL s) A' P' ac' pc' w2) := hT
      have B2 := belowT b1 (Nat.le_refl _) b2
      have HT2 : Hid (TwoR (btL s) A P ac pc w2) := HT.out.below b2
      generalize hn : (wdsL (btL s)).length = n at hfew
      have HN : Hid ((wdsL (btL s)).length = n) := hn
      clear hT hn
      go_wp2_with fail
      refine (serr_any 0 0 _ (HG.out.below B2)).mono ?_
      rintro e w3 ⟨rfl, b3⟩
      have B3 := belowT B2 (Nat.le_refl _) b3
      have b3' : Below w2.heap.size w2 w3 := b3
      have HT3 : Hid (TwoR (btL s) A P ac pc w3) := HT2.out.below b3'
      have HT3' : Hid (TwoR (btL s) A' P' ac' pc' w3) := HT'.out.below b3'
      go_wp2_with fail
      refine (stexts_at n (wdsS (btL s)) (by rw [wdsS_len, HN.out]) A' A ac' ac _ HT3'.out.ws HT3.out.ws (by rw [wdsS_len, HN.out]; omega)).mono ?_
      rintro e w4 ⟨rfl, q, hq⟩
      have b4 : Below w3.heap.size w3 w4 := by rw [hq]; exact belDraw (Below.refl _ _) q
      have B4 := belowT B3 (Nat.le_refl _) b4
      have HT4 : Hid (TwoR (btL s) A P ac pc w4) := HT3.out.below b4
      have HT4' : Hid (TwoR (btL s) A' P' ac' pc' w4) := HT3'.out.below b4
      clear hq
      go_wp2_with fail
      refine (sints_at n (plcZ (btL s)) (by rw [plcZ_len, HN.out]) P' P pc' pc _ HT4'.out.ps HT4.out.ps (by rw [plcZ_len, HN.out]; omega)).mono ?_
      rintro e w5 ⟨rfl, q, hq⟩
      have B5 : Below w.heap.size w w5 := by rw [hq]; exact belDraw B4 q
      clear hq
      go_wp2
      go_ret
      exact ⟨by rfl, B5⟩
theorem lexIs_any (s : ByteArray) (w : World) (hg : Hnd w) : Calls Tryd.prog 4 #[.string s] w fun e w' => e = .returned (.bool true) ∧ Below w.heap.size w w' := by
  by_cases h : lexE (btL s) = 0
  · exact lexIs_ok s w hg h
  · exact lexIs_bad s w hg h
end Go.Proofs.YtlogepdifapciabDoor
