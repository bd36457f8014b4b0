/- Check of package doc. -/
import Derived.Test.YtfabfclbnekleaaDocB
namespace Go.Proofs.Ytfabfclbnekleaa
open Go Go.RowKit

set_option maxRecDepth 100000 in
set_option maxHeartbeats 2000000 in
theorem dcheck_any (ds : List Nd) (a : Option Addr) (cap : Nat) (w : World) (hN : Nods w a ds) :
    Calls Try.prog 24 #[.slice a ds.length cap] w fun e w' => e = .returned (errN (docF ds)) ∧ Below w.heap.size w w' := by
  have HN : Hid (Nods w a ds) := hN
  clear hN
  by_cases h4 : 400 < (ds.length : Int)
  · rw [docF_full (by omega), errN_3]
    go_enter Try.func24, Try.ntmps24
    go_wp2
    go_ret
    exact ⟨rfl, Below.refl _ _⟩
  · have hl : ds.length ≤ 400 := by omega
    go_enter Try.func24, Try.ntmps24
    go_wp2
    go_loopw [14] (fun i wr => Below w.heap.size w wr ∧ ∃ k : Nat, k ≤ ds.length ∧ i = .int .i64 k ∧ ∀ x ∈ ds.take k, nodeF x = 0) (fun i _ => ds.length - (intOf i).toNat)
    case atStart => exact ⟨Below.refl _ _, 0, Nat.zero_le _, rfl, by simp⟩
    case round =>
      obtain ⟨hB, k, hk, rfl, hall⟩ := hrel
      have HA : Hid (∀ x ∈ ds.take k, nodeF x = 0) := hall
      have HM : Hid (Nods wr a ds) := HN.out.below hB
      clear hall
      by_cases hlt : k < ds.length
      · obtain ⟨b, o, ea, hb, c1, c2, c3⟩ := HM.out k hlt
        subst ea
        by_cases h0 : nodeF ds[k] = 0
        · have H0 : Hid (nodeF ds[k] = 0) := h0
          clear h0
          go_wp2_with fail
          refine (checkNode_any ds[k] _).mono ?_
          rintro e w2 ⟨rfl, hb2⟩
          rw [H0.out, errN_0]
          have hB2 := belowA hB (Nat.le_refl _) hb2
          clear hb2
          go_wp2
          go_roundw
          case rel => exact ⟨hB2, k + 1, by omega, by go_num, take_more hlt HA.out H0.out⟩
          case measure => simp [intOf]; omega
        · have H0 : Hid (nodeF ds[k] ≠ 0) := h0
          clear h0
          go_wp2_with fail
          refine (checkNode_any ds[k] _).mono ?_
          rintro e w2 ⟨rfl, hb2⟩
          rw [errN_ne H0.out]
          have hB2 := belowA hB (Nat.le_refl _) hb2
          clear hb2
          go_wp2
          go_ret
          refine ⟨?_, hB2⟩
          rw [docF_node hl hlt HA.out H0.out, errN_ne H0.out]
          rfl
      · have HF : Hid (docF ds = if endAt ds 0 1 = some ds.length then 0 else 2) := docF_end hl (take_all hlt HA.out)
        cases he : endAt ds 0 1 with
        | none =>
          have HE : Hid (endAt ds 0 1 = none) := he
          clear he
          go_wp2_with fail
          refine (dendOf_none a cap _ HM.out hl (Nat.zero_le _) HE.out).mono ?_
          rintro e w2 ⟨rfl, rfl⟩
          go_wp2
          go_ret
          refine ⟨?_, hB⟩
          rw [HF.out, HE.out, if_neg (by simp), errN_2]
          rfl
        | some j =>
          have HE : Hid (endAt ds 0 1 = some j) := he
          clear he
          by_cases hj : j = ds.length
          · subst hj
            go_wp2_with fail
            refine (dendOf_some a cap _ HM.out hl (Nat.zero_le _) HE.out).mono ?_
            rintro e w2 ⟨rfl, rfl⟩
            go_wp2
            go_ret
            refine ⟨?_, hB⟩
            rw [HF.out, HE.out, if_pos rfl, errN_0]
            rfl
          · have hj' : ((j : Int) != (ds.length : Int)) = true := by simp; omega
            go_wp2_with fail
            refine (dendOf_some a cap _ HM.out hl (Nat.zero_le _) HE.out).mono ?_
            rintro e w2 ⟨rfl, rfl⟩
            go_wp2
            go_ret
            refine ⟨?_, hB⟩
            rw [HF.out, HE.out, if_neg (by simp [hj]), errN_2]
            rfl
end Go.Proofs.Ytfabfclbnekleaa
