/- Check and End of package doc; DocFault of the document. -/
import Derived.Test.YthjnkgjdpdacoaaDoorDocB
namespace Go.Proofs.YthjnkgjdpdacoaaDoor
open Go Go.RowKit

theorem docF_full {ds : List Nd} (h : 400 < ds.length) : docF ds = 3 := by rw [docF, if_pos h]
theorem docF_node {ds : List Nd} {k : Nat} (hl : ds.length ≤ 400) (hk : k < ds.length) (ha : ∀ x ∈ ds.take k, nodeF x = 0) (h : nodeF ds[k] ≠ 0) : docF ds = nodeF ds[k] := by
  have e := firstF_at ds k hk ha h
  rw [docF, if_neg (by omega), if_neg (by rw [e]; exact h), e]
theorem docF_end {ds : List Nd} (hl : ds.length ≤ 400) (ha : ∀ x ∈ ds, nodeF x = 0) : docF ds = if endAt ds 0 1 = some ds.length then 0 else 2 := by
  rw [docF, if_neg (by omega), if_pos (firstF_all ds ha)]
theorem take_all {ds : List Nd} {k : Nat} (h : ¬ k < ds.length) (ha : ∀ x ∈ ds.take k, nodeF x = 0) : ∀ x ∈ ds, nodeF x = 0 := by
  rw [List.take_of_length_le (by omega)] at ha; exact ha
theorem take_more {ds : List Nd} {k : Nat} (h : k < ds.length) (ha : ∀ x ∈ ds.take k, nodeF x = 0) (h0 : nodeF ds[k] = 0) : ∀ x ∈ ds.take (k + 1), nodeF x = 0 := by
  intro x hx
  rw [List.take_succ_eq_append_getElem h] at hx
  rcases List.mem_append.1 hx with hx | hx
  · exact ha x hx
  · simp at hx; subst hx; exact h0

set_option maxRecDepth 100000 in
set_option maxHeartbeats 2000000 in
theorem dcheck_any (ds : List Nd) (a : Option Addr) (cap : Nat) (w : World) (hN : Nods w a ds) :
    Calls Tryd.prog 14 #[.slice a ds.length cap] w fun e w' => e = .returned (errN (docF ds)) ∧ Below w.heap.size w w' := by
  have HN : Hid (Nods w a ds) := hN
  clear hN
  by_cases h4 : 400 < (ds.length : Int)
  · rw [docF_full (by omega), errN_3]
    go_enter Tryd.func14, Tryd.ntmps14
    go_wp2
    go_ret
    exact ⟨rfl, Below.refl _ _⟩
  · have hl : ds.length ≤ 400 := by omega
    go_enter Tryd.func14, Tryd.ntmps14
    go_wp2
    go_loopw [14] (fun i wr => Below w.heap.size w wr ∧ ∃ k : Nat, k ≤ ds.length ∧ i = .int .i64 k ∧ ∀ x ∈ ds.take k, nodeF x = 0) (fun i _ => ds.length - (intOf i).toNat)
    case atStart => exact ⟨Below.refl _ _, 0, Nat.zero_le _, rfl, by simp⟩
    case round =>
      obtain ⟨hB, k, hk, rfl, hall⟩ := hrel
      have HA : Hid (∀ x ∈ ds.take k, nodeF x = 0) := hall
      have HM : Hid (Nods wr a ds) := HN.out.below hB
      clear hall
      by_cases hlt : k < ds.length
      · obtain ⟨b, o, ea, hb, c1, c2, c3⟩ := HM.out k hlt
        subst ea
        by_cases h0 : nodeF ds[k] = 0
        · have H0 : Hid (nodeF ds[k] = 0) := h0
          clear h0
          go_wp2_with fail
          refine (checkNode_any ds[k] _).mono ?_
          rintro e w2 ⟨rfl, hb2⟩
          rw [H0.out, errN_0]
          have hB2 := belowA hB (Nat.le_refl _) hb2
          clear hb2
          go_wp2
          go_roundw
          case rel => exact ⟨hB2, k + 1, by omega, by go_num, take_more hlt HA.out H0.out⟩
          case measure => simp [intOf]; omega
        · have H0 : Hid (nodeF ds[k] ≠ 0) := h0
          clear h0
          go_wp2_with fail
          refine (checkNode_any ds[k] _).mono ?_
          rintro e w2 ⟨rfl, hb2⟩
          rw [errN_ne H0.out]
          have hB2 := belowA hB (Nat.le_refl _) hb2
          clear hb2
          go_wp2
          go_ret
          refine ⟨?_, hB2⟩
          rw [docF_node hl hlt HA.out H0.out, errN_ne H0.out]
          rfl
      · have HF : Hid (docF ds = if endAt ds 0 1 = some ds.length then 0 else 2) := docF_end hl (take_all hlt HA.out)
        cases he : endAt ds 0 1 with
        | none =>
          have HE : Hid (endAt ds 0 1 = none) := he
          clear he
          go_wp2_with fail
          refine (dendOf_none a cap _ HM.out hl (Nat.zero_le _) HE.out).mono ?_
          rintro e w2 ⟨rfl, rfl⟩
          go_wp2
          go_ret
          refine ⟨?_, hB⟩
          rw [HF.out, HE.out, if_neg (by simp), errN_2]
          rfl
        | some j =>
          have HE : Hid (endAt ds 0 1 = some j) := he
          clear he
          by_cases hj : j = ds.length
          · subst hj
            go_wp2_with fail
            refine (dendOf_some a cap _ HM.out hl (Nat.zero_le _) HE.out).mono ?_
            rintro e w2 ⟨rfl, rfl⟩
            go_wp2
            go_ret
            refine ⟨?_, hB⟩
            rw [HF.out, HE.out, if_pos rfl, errN_0]
            rfl
          · have hj' : ((j : Int) != (ds.length : Int)) = true := by simp; omega
            go_wp2_with fail
            refine (dendOf_some a cap _ HM.out hl (Nat.zero_le _) HE.out).mono ?_
            rintro e w2 ⟨rfl, rfl⟩
            go_wp2
            go_ret
            refine ⟨?_, hB⟩
            rw [HF.out, HE.out, if_neg (by simp [hj]), errN_2]
            rfl

/-- End: the error's number, and the place. -/
def endF (ds : List Nd) (i : Int) : Int := if docF ds = 0 then (if i < 0 ∨ (ds.length : Int) ≤ i then 1 else 0) else docF ds
def endX (ds : List Nd) (i : Int) : Int := if endF ds i = 0 then endZ (endAt ds i.toNat 1) else 0

set_option maxRecDepth 100000 in
set_option maxHeartbeats 2000000 in
theorem dend_any (ds : List Nd) (a : Option Addr) (cap : Nat) (i : Int) (w : World) (hN : Nods w a ds) :
    Calls Tryd.prog 18 #[.slice a ds.length cap, .int .i64 i] w fun e w' => e = .returned (.tuple #[.int .i64 (endX ds i), errN (endF ds i)]) ∧ Below w.heap.size w w' := by
  have HN : Hid (Nods w a ds) := hN
  clear hN
  by_cases h0 : docF ds = 0
  · have H0 : Hid (docF ds = 0) := h0
    obtain ⟨hl, _, he⟩ := docF_zero h0
    have HE : Hid (endAt ds 0 1 = some ds.length) := he
    clear h0 he
    by_cases h1 : i < 0
    · have e1 : endF ds i = 1 := by simp [endF, H0.out, h1]
      have e2 : endX ds i = 0 := by simp [endX, e1]
      rw [e1, e2, errN_1]
      clear e1 e2
      go_enter Tryd.func18, Tryd.ntmps18
      go_wp2_with fail
      refine (dcheck_any ds a cap _ HN.out).mono ?_
      rintro e w2 ⟨rfl, hB⟩
      rw [H0.out, errN_0]
      go_wp2
      go_ret2
      exact ⟨rfl, hB⟩
    by_cases h2 : (ds.length : Int) ≤ i
    · have e1 : endF ds i = 1 := by simp [endF, H0.out, h2]
      have e2 : endX ds i = 0 := by simp [endX, e1]
      rw [e1, e2, errN_1]
      clear e1 e2
      go_enter Tryd.func18, Tryd.ntmps18
      go_wp2_with fail
      refine (dcheck_any ds a cap _ HN.out).mono ?_
      rintro e w2 ⟨rfl, hB⟩
      rw [H0.out, errN_0]
      go_wp2
      go_ret2
      exact ⟨rfl, hB⟩
    · obtain ⟨j, hj, _, _⟩ := endAt_mid HE.out (show i.toNat < ds.length by omega)
      have HJ : Hid (endAt ds i.toNat 1 = some j) := hj
      have e1 : endF ds i = 0 := by simp [endF, H0.out, h1]; omega
      have e2 : endX ds i = j := by rw [endX, if_pos e1, hj]; rfl
      rw [e1, e2, errN_0]
      clear e1 e2 hj
      obtain ⟨n, rfl⟩ : ∃ n : Nat, i = n := ⟨i.toNat, by omega⟩
      rw [Int.toNat_natCast] at HJ
      go_enter Tryd.func18, Tryd.ntmps18
      go_wp2_with fail
      refine (dcheck_any ds a cap _ HN.out).mono ?_
      rintro e w2 ⟨rfl, hB⟩
      rw [H0.out, errN_0]
      go_wp2_with fail
      refine (dendOf_some a cap _ (HN.out.below hB) hl (by omega) HJ.out).mono ?_
      rintro e w3 ⟨rfl, rfl⟩
      go_wp2
      go_ret2
      exact ⟨rfl, hB⟩
  · have H0 : Hid (docF ds ≠ 0) := h0
    have e1 : endF ds i = docF ds := by simp [endF, h0]
    have e2 : endX ds i = 0 := by simp [endX, e1, h0]
    rw [e1, e2, errN_ne h0]
    clear h0 e1 e2
    go_enter Tryd.func18, Tryd.ntmps18
    go_wp2_with fail
    refine (dcheck_any ds a cap _ HN.out).mono ?_
    rintro e w2 ⟨rfl, hB⟩
    rw [errN_ne H0.out]
    go_wp2
    go_ret2
    exact ⟨rfl, hB⟩
end Go.Proofs.YthjnkgjdpdacoaaDoor
