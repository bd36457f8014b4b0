/- Some texts as one: FlatF, LayZ. -/
import Derived.Test.YtmbeamcjpidnjaaGreatDoorLayFZ
import Derived.Test.YtmbeamcjpidnjaaGreatDoorFlatS
import Derived.Test.YtmbeamcjpidnjaaGreatDoorDocs
import Derived.Test.YtmbeamcjpidnjaaGreatDoorLayO
import Derived.Test.YtmbeamcjpidnjaaGreatDoorWayQ
import Derived.Test.YtmbeamcjpidnjaaGreatDoorLexPs
namespace Go.Proofs.YtmbeamcjpidnjaaGreatDoor
open Go Go.RowKit

set_option maxRecDepth 100000 in
set_option maxHeartbeats 2000000 in
theorem flat_bad (ds : List Nd) (a : Option Addr) (cap : Nat) (w : World) (hN : Nods w a ds) (h : docF ds ≠ 0) :
    Calls Tryz.prog 22 #[.slice a ds.length cap] w fun e w' => e = .returned (.tuple #[.string ⟨#[]⟩, .bool false, errN (docF ds)]) ∧ Below w.heap.size w w' := by
  have HN : Hid (Nods w a ds) := hN
  have H : Hid (docF ds ≠ 0) := h
  rw [errN_ne h]
  clear hN h
  go_enter Tryz.func22, Tryz.ntmps22
  go_wp2_with fail
  refine (dcheck_any ds a cap _ HN.out).mono ?_
  rintro e w2 ⟨rfl, hB⟩
  rw [errN_ne H.out]
  go_wp2
  go_ret3
  exact ⟨rfl, hB⟩

set_option maxRecDepth 100000 in
set_option maxHeartbeats 2000000 in
theorem flat_ok (ds : List Nd) (t : Tr) (hd : ds = t.nodes) (ht : t.Wf) (hl : ds.length ≤ 400) (a : Option Addr) (cap : Nat) (hc : ds.length ≤ cap) (w : World) (hN : Nods w a ds) :
    Calls Tryz.prog 22 #[.slice a ds.length cap] w fun e w' => e = .returned (.tuple #[.string t.line, .bool t.isFlat, .nilIface]) ∧ Below w.heap.size w w' := by
  have HN : Hid (Nods w a ds) := hN
  have H : Hid (docF ds = 0) := (show docF ds = 0 by rw [hd]; exact tree_doc ht (by rw [← hd]; exact hl))
  have HD : Hid (ds = t.nodes) := hd
  have H0 : Hid (ds ≠ []) := (show ds ≠ [] by have := t.pos; rw [← hd] at this; exact List.length_pos_iff.1 this)
  clear hN hd
  cases hk : t.brk
  case' true => obtain ⟨q1, q2⟩ := laid_none hk
  case' false => obtain ⟨q1, q2⟩ := laid_line hk
  all_goals
    rw [q1, q2]
    have HK := (show Hid (t.brk = _) from hk)
    clear hk q1 q2
    go_enter Tryz.func22, Tryz.ntmps22
    go_wp2_with fail
    refine (dcheck_any ds a cap _ HN.out).mono ?_
    rintro e w2 ⟨rfl, hB⟩
    rw [H.out, errN_0]
    have HB : Hid (Below w.heap.size w w2) := hB
    obtain ⟨s, hs, hns⟩ := (HN.out.below hB).s H0.out
    have HM : Hid (NodsS s w2 a ds) := hns
    clear hB hns
    go_wp2_with fail
    refine (lnlay_any t ht w2.heap.size w2.heap.size s ds [] a cap [] false _ (by rw [HD.out]; simp) (HM.out.kept (Below.heap_alloc _ _ _ hs)) hs (by omega) hc (IsX.fresh 100 w2 [.bool false]) (by simp) (by simp; omega)).mono ?_
    rintro e w3 ⟨⟨a3, cap3, rfl, _, _⟩, hw3, hb3, _⟩
    have hB3 : Below w.heap.size w w3 := HB.out.trans ((((Below.refl _ w2).alloc (Nat.le_refl _) _).trans (hb3.below (Nat.le_refl _))).mono HB.out.size)
    rw [Bool.false_or, List.nil_append] at hw3
    have HW3 : Hid (Ln w2.heap.size w2.heap.size t.laid t.brk w3) := hw3
    have g1 := hw3.cell
    rw [HK.out] at g1
    clear hw3
  · go_wp2_with fail
    refine (xout_any 100 w2.heap.size w2.heap.size t.laid [.bool t.brk] w3 HW3.out).mono ?_
    rintro e w4 ⟨rfl, hb4⟩
    go_wp2
    go_ret3
    exact ⟨rfl, hB3.trans (hb4.mono HB.out.size)⟩
  · go_wp2
    go_ret3
    exact ⟨rfl, hB3⟩

theorem flat_any (ds : List Nd) (a : Option Addr) (cap : Nat) (hc : ds.length ≤ cap) (w : World) (hN : Nods w a ds) :
    Calls Tryz.prog 22 #[.slice a ds.length cap] w fun e w' => e = .returned (.tuple #[.string (flS ds), .bool (flB ds), errN (docF ds)]) ∧ Below w.heap.size w w' := by
  by_cases h : docF ds = 0
  · obtain ⟨hl, _, _⟩ := docF_zero h
    obtain ⟨e0, e1, e2⟩ := fl_tree (docT_wf h) (docT_nodes h) hl
    rw [e1, e2, h, errN_0]
    exact flat_ok ds _ (docT_nodes h) (docT_wf h) hl a cap hc w hN
  · obtain ⟨e1, e2⟩ := fl_bad h
    rw [e1, e2]
    exact flat_bad ds a cap w hN h
end Go.Proofs.YtmbeamcjpidnjaaGreatDoor
namespace Go.Proofs.YtmbeamcjpidnjaaGreatDoor
open Go Go.RowKit

theorem lay_ok {t : List Td} (h : layE t = 0) : treeF t = 0 ∧ opT t ≠ 9 ∧ layD t = (stDoc t).nodes ∧ (stDoc t).nodes.length ≤ 400 := by
  have h' := h
  unfold layE at h
  split at h
  · rename_i h0; exact absurd h h0
  · rename_i h0
    split at h
    · cases h
    · rename_i h9
      split at h
      · cases h
      · rename_i hm
        exact ⟨by simpa using h0, h9, by rw [layD, if_pos h'], by omega⟩
theorem lay_line {t : List Td} (h : layE t = 0) : docF (layD t) = 0 ∧ flS (layD t) = wbS (stTx t) ∧ flB (layD t) = true := by
  obtain ⟨h0, h9, hd, hl⟩ := lay_ok h
  have ho := doc_ok h0 h9
  obtain ⟨a1, a2, a3⟩ := fl_tree ho.w hd (by rw [hd]; exact hl)
  refine ⟨a1, ?_, ?_⟩
  · rw [a2, Tr.line, ho.f]; rfl
  · rw [a3, Tr.isFlat, ho.f]; rfl
theorem lay_show {t : List Td} (h : layE t = 0) (ws : List Int) : showD (layD t) ws = (stDoc t).show ws := by
  obtain ⟨h0, h9, hd, hl⟩ := lay_ok h
  exact showD_tree (doc_ok h0 h9).w hd (by rw [hd]; exact hl)
/-- A text without blanks and new lines. -/
def dnS (s : ByteArray) : ByteArray := wbS ((btL s).filter dnB)
theorem lay_den {t : List Td} (h : layE t = 0) {ws : List Int} {r : List UInt8} (hs : (stDoc t).show ws = .ok r) : dnS (wbS r) = dnS (wbS (stTx t)) ∧ r.length ≤ 2000000 := by
  obtain ⟨h0, h9, hd, hl⟩ := lay_ok h
  have ho := doc_ok h0 h9
  refine ⟨?_, ?_⟩
  · show wbS (r.filter dnB) = wbS ((stTx t).filter dnB)
    rw [doc_dense h0 h9 hs]
  · unfold Tr.show at hs
    split at hs
    · cases hy : (stDoc t).lay 0 ws with
      | error e => rw [hy] at hs; cases hs
      | ok p =>
        obtain ⟨r', ws'⟩ := p
        rw [hy] at hs
        have h1 := lay_len _ 0 ws r' ws' ho.w hy (by omega)
        cases ws' with
        | nil =>
          cases hs
          have : 4000 * (stDoc t).nodes.length ≤ 2000000 := by omega
          omega
        | cons a b => cases hs
    · cases hs
theorem wbS_app2 (a b : List UInt8) : wbS a ++ wbS b = wbS (a ++ b) := by
  apply ByteArray.ext
  simp [wbS]
theorem c32 {c : UInt8} (h : (c.toNat : Int) = 32) : c = 32 := by
  apply UInt8.toNat_inj.1
  show c.toNat = 32
  omega
theorem c10 {c : UInt8} (h : (c.toNat : Int) = 10) : c = 10 := by
  apply UInt8.toNat_inj.1
  show c.toNat = 10
  omega
theorem den_step {s : ByteArray} {k : Nat} (h : k < s.size) : ((btL s).take (k + 1)).filter dnB = ((btL s).take k).filter dnB ++ (if dnB s[k] = true then [s[k]] else []) := by
  have hl : k < (btL s).length := by rw [btL_len]; exact h
  rw [List.take_succ_eq_append_getElem hl, List.filter_append]
  congr 1
  have e : (btL s)[k] = s[k] := rfl
  rw [e]
  by_cases hd : dnB s[k] = true
  · rw [if_pos hd]; simp [hd]
  · rw [if_neg hd]; simp [hd]
set_option maxRecDepth 100000 in
set_option maxHeartbeats 2000000 in
theorem ldense_any (s : ByteArray) (w : World) (hs : s.size ≤ 4000000) : Calls Tryz.prog 24 #[.string s] w fun e w' => e = .returned (.string (dnS s)) ∧ Below w.heap.size w w' := by
  go_enter Tryz.func24, Tryz.ntmps24
  go_wp2
  go_loopw [3, 4] (fun o i wr => Below w.heap.size w wr ∧ ∃ k : Nat, k ≤ s.size ∧ i = .int .i64 (k : Int) ∧ o = .string (wbS (((btL s).take k).filter dnB))) (fun _ i _ => s.size - (intOf i).toNat)
  case atStart => exact ⟨Below.refl _ _, 0, Nat.zero_le _, rfl, rfl⟩
  case round =>
    obtain ⟨hbr, k, hk, rfl, rfl⟩ := hrel
    have HBR : Hid (Below w.heap.size w wr) := hbr
    clear hbr
    by_cases hlt : k < s.size
    · have hki : (k : Int) < (s.size : Int) := by omega
      have HST := (show Hid (_ = _) from den_step hlt)
      have hol : (wbS (((btL s).take k).filter dnB)).size ≤ 4000000 := by
        have h1 := List.length_filter_le dnB ((btL s).take k)
        rw [List.length_take] at h1
        have h2 : (wbS (((btL s).take k).filter dnB)).size = (((btL s).take k).filter dnB).length := by rw [← btL_len]; rfl
        omega
      have HCAT : Hid (dnB s[k] = true → wbS (((btL s).take k).filter dnB) ++ s.extract k (k + 1) = wbS (((btL s).take (k + 1)).filter dnB)) := fun hd => by
        rw [HST.out, if_pos hd]
        have e : s.extract k (k + 1) = wbS [s[k]] := by
          rw [wbS_ext, btL_drop hlt]
          congr 1
          rw [show k + 1 - k = 1 by omega]; rfl
        rw [e]
        exact wbS_app2 _ _
      have HKEEP : Hid (dnB s[k] = false → wbS (((btL s).take k).filter dnB) = wbS (((btL s).take (k + 1)).filter dnB)) := fun hd => by
        rw [HST.out, if_neg (by simp [hd])]; simp
      generalize wbS (((btL s).take k).filter dnB) = T at hol HCAT HKEEP
      have c1 : (0 : Int) ≤ (k : Int) + 1 := by omega
      have c2 : (k : Int) + 1 ≤ (s.size : Int) := by omega
      clear HST
      by_cases h32 : s[k] = 32
      · have HE := (show Hid (_ = _) from HKEEP.out (by rw [h32]; decide))
        have hb : (s[k].toNat : Int) = 32 := by rw [h32]; rfl
        clear HCAT HKEEP h32
        go_wp2
        go_roundw
        case rel => exact ⟨HBR.out, k + 1, by omega, by go_num, by rw [← HE.out]⟩
        case measure => simp [intOf]; omega
      · by_cases h10 : s[k] = 10
        · have HE := (show Hid (_ = _) from HKEEP.out (by rw [h10]; decide))
          have hb : (s[k].toNat : Int) = 10 := by rw [h10]; rfl
          clear HCAT HKEEP h10
          go_wp2
          exact ⟨⟨HBR.out, k + 1, by omega, by go_num, by rw [← HE.out]⟩, by simp [intOf]; omega⟩
        · have HE := (show Hid (_ = _) from HCAT.out (by simp [dnB, h32, h10]))
          have hb1 : ¬ (s[k].toNat : Int) = 32 := fun e => h32 (c32 e)
          have hb2 : ¬ (s[k].toNat : Int) = 10 := fun e => h10 (c10 e)
          have hex : (s.extract k (k + 1)).size = 1 := by rw [ByteArray.size_extract]; omega
          have hb3 : ((s[k].toNat : Int) != 32) = true := by simp [hb1]
          have hb4 : ((s[k].toNat : Int) != 10) = true := by simp [hb2]
          have hsl : ∀ W : World, (Instr.slice 9 (.string s) (some (.int .i64 (k : Int))) (some (.int .i64 ((k : Int) + 1))) none).run Tryz.prog W = .ok (.string (s.extract k (k + 1))) W := fun W => by
            have h := run_slice_string (P := Tryz.prog) (w := W) 9 s .i64 .i64 (k : Int) ((k : Int) + 1) Tryz.underlying9 (by omega) (by omega) (by omega)
            rw [Int.toNat_natCast, show ((k : Int) + 1).toNat = k + 1 by omega] at h
            exact h
          generalize s.extract k (k + 1) = Y at HE hex hsl
          have g1 : ¬ 9223372036854775807 < T.size + Y.size := by omega
          clear HCAT HKEEP h10 h32
          go_wp2
          exact ⟨⟨HBR.out, k + 1, by omega, by go_num, by rw [← HE.out]⟩, by simp [intOf]; omega⟩
    · have hki : ¬ (k : Int) < (s.size : Int) := by omega
      obtain rfl : k = s.size := by omega
      have HE : Hid (wbS (((btL s).take s.size).filter dnB) = dnS s) := by
        show _ = _
        rw [dnS, List.take_of_length_le (by rw [btL_len]; exact Nat.le_refl _)]
      go_wp2
      go_ret
      exact ⟨by rw [← HE.out]; rfl, HBR.out⟩
end Go.Proofs.YtmbeamcjpidnjaaGreatDoor
