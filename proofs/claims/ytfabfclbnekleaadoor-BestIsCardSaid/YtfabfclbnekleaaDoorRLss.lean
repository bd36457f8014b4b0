/- Some texts as one: RLs, RCst. -/
import Derived.Test.YtfabfclbnekleaaDoorBase
import Derived.Test.YtfabfclbnekleaaDoorBstPs
import Derived.Test.YtfabfclbnekleaaDoorPlainRs
namespace Go.Proofs.YtfabfclbnekleaaDoor
open Go Go.RowKit

/-- Less, of two costs. -/
def lessZ (a b : Int × Int) : Bool := if a.1 != b.1 then decide (a.1 < b.1) else decide (a.2 < b.2)
set_option maxRecDepth 100000 in
set_option maxHeartbeats 1000000 in
theorem rlessZ_any (a b : Int × Int) (w : World) :
    Calls Tryd.prog 11 #[.agg #[.int .i64 a.1, .int .i64 a.2], .agg #[.int .i64 b.1, .int .i64 b.2]] w fun e w' => e = .returned (.bool (lessZ a b)) ∧ Below w.heap.size w w' := by
  by_cases h : a.1 = b.1
  · have hl : lessZ a b = decide (a.2 < b.2) := by simp [lessZ, h]
    rw [hl]
    have h' : (a.1 != b.1) = false := by simp [h]
    clear h hl
    go_enter Tryd.func11, Tryd.ntmps11
    go_wp2
    go_ret
    exact ⟨rfl, ((Below.refl _ _).alloc (Nat.le_refl _) _).alloc (by simp) _⟩
  · have hl : lessZ a b = decide (a.1 < b.1) := by simp [lessZ, h]
    rw [hl]
    have h' : (a.1 != b.1) = true := by simp [h]
    clear h hl
    go_enter Tryd.func11, Tryd.ntmps11
    go_wp2
    go_ret
    exact ⟨rfl, ((Below.refl _ _).alloc (Nat.le_refl _) _).alloc (by simp) _⟩
/-- .. is what is cheaper. -/
theorem lessZ_C (a b : Nat × Nat) : lessZ ((a.1 : Int), (a.2 : Int)) ((b.1 : Int), (b.2 : Int)) = decide (lessC a b) := by
  rw [Bool.eq_iff_iff, decide_eq_true_eq]
  unfold lessZ lessC
  dsimp only
  split
  · rename_i h
    have h' : (a.1 : Int) ≠ b.1 := bne_iff_ne.1 h
    rw [decide_eq_true_eq]
    omega
  · rename_i h
    have h' : (a.1 : Int) = b.1 := by simpa using h
    rw [decide_eq_true_eq]
    omega
theorem rless_nat (a b : Nat × Nat) (w : World) :
    Calls Tryd.prog 11 #[.agg #[.int .i64 (a.1 : Int), .int .i64 (a.2 : Int)], .agg #[.int .i64 (b.1 : Int), .int .i64 (b.2 : Int)]] w fun e w' => e = .returned (.bool (decide (lessC a b))) ∧ Below w.heap.size w w' := by
  have := rlessZ_any ((a.1 : Int), (a.2 : Int)) ((b.1 : Int), (b.2 : Int)) w
  rw [lessZ_C] at this
  exact this
end Go.Proofs.YtfabfclbnekleaaDoor
namespace Go.Proofs.YtfabfclbnekleaaDoor
open Go Go.RowKit

theorem isB10 {b : UInt8} (h : (((b.toNat : Nat) : Int) == 10) = true) : b = 10 := by
  have h' : ((b.toNat : Nat) : Int) = 10 := beq_iff_eq.1 h
  exact UInt8.toNat_inj.1 (by simpa using (by omega : b.toNat = 10))
theorem isB10' {b : UInt8} (h : (((b.toNat : Nat) : Int) == 10) = false) : ¬ b = 10 := by
  rintro rfl
  simp at h

set_option maxRecDepth 100000 in
set_option maxHeartbeats 2000000 in
/-- The document's CostOf, of a text however long (as far as a doc's goes). -/
theorem rcost_any (s : ByteArray) (wd : Int) (w : World) (hs : s.size ≤ 2000000000) :
    Calls Tryd.prog 15 #[.string s, .int .i64 wd] w fun e w' => e = .returned (.agg #[.int .i64 (stL wd s.data.toList).1, .int .i64 (stL wd s.data.toList).2.1]) ∧ Below w.heap.size w w' := by
  go_enter Tryd.func15, Tryd.ntmps15
  go_wp2
  go_loopw [6, 7] (fun c i wr => ∃ k : Nat, k ≤ s.size ∧ i = .int .i64 k ∧ c = .int .i64 (stL wd (s.data.toList.take k)).2.2 ∧ Below w.heap.size w wr
      ∧ wr.cell? ⟨w.heap.size, 0, none⟩ = some (.int .i64 0) ∧ wr.cell? ⟨w.heap.size, 1, none⟩ = some (.int .i64 0) ∧ wr.frozen? ⟨w.heap.size, 0, none⟩ = false ∧ wr.frozen? ⟨w.heap.size, 1, none⟩ = false
      ∧ wr.cell? ⟨w.heap.size + 1, 0, none⟩ = some (.int .i64 (stL wd (s.data.toList.take k)).1) ∧ wr.cell? ⟨w.heap.size + 1, 1, none⟩ = some (.int .i64 (stL wd (s.data.toList.take k)).2.1) ∧ wr.frozen? ⟨w.heap.size + 1, 0, none⟩ = false ∧ wr.frozen? ⟨w.heap.size + 1, 1, none⟩ = false)
    (fun _ i _ => s.size - (intOf i).toNat)
  case atStart =>
    exact ⟨0, Nat.zero_le _, rfl, rfl, ((Below.refl _ _).alloc (Nat.le_refl _) _).alloc (by simp) _, by simp [go_sem], by simp [go_sem], by simp [go_sem], by simp [go_sem], by simp [go_sem, stL], by simp [go_sem, stL], by simp [go_sem], by simp [go_sem]⟩
  case round =>
    obtain ⟨k, hk, rfl, rfl, hB, r0, r1, f0, f1, k0, k1, g0, g1⟩ := hrel
    obtain ⟨⟨b1, b2⟩, ⟨b3, b4⟩, ⟨b5, b6⟩⟩ := stL_bd wd (s.data.toList.take k)
    have bl : ((s.data.toList.take k).length : Int) ≤ 2000000000 := by have := List.length_take_le k s.data.toList; omega
    generalize hS : stL wd (s.data.toList.take k) = S at b1 b2 b3 b4 b5 b6 k0 k1 ⊢
    have b2' : S.1 ≤ 2000000000 := by omega
    have b4' : S.2.1 ≤ 2000000000 := by omega
    have b6' : S.2.2 ≤ 2000000000 := by omega
    clear b2 b4 b6 bl
    have HS : Hid (stL wd (s.data.toList.take k) = S) := hS
    clear hS
    by_cases hlt : k < s.size
    · have HN : Hid (stL wd (s.data.toList.take (k + 1)) = stp wd S s[k]) := by
        have h := stL_snoc wd (s.data.toList.take k) s[k]
        rw [← take_snoc s k hlt, HS.out] at h
        exact h
      cases hb : (((s[k].toNat : Nat) : Int) == 10) with
      | true =>
        have hb' : s[k] = 10 := isB10 hb
        have HE : Hid (stL wd (s.data.toList.take (k + 1)) = (S.1, S.2.1 + 1, 0)) := by rw [stp, if_pos hb'] at HN; exact HN
        clear hb' HN
        go_wp2
        go_roundw
        case rel =>
          refine ⟨k + 1, by omega, by go_num, by rw [HE.out], hB.setCell (p := ⟨w.heap.size + 1, 1, none⟩) (by simp) _, (cso (by omega)).trans r0, (cso (by omega)).trans r1, csf.trans f0, csf.trans f1, ?_, ?_, csf.trans g0, csf.trans g1⟩
          · rw [HE.out]; exact (cso (by omega)).trans k0
          · rw [HE.out]; exact css k1
        case measure => simp [intOf]; omega
      | false =>
        have hb' : ¬ s[k] = 10 := isB10' hb
        by_cases hw : wd < S.2.2 + 1
        · have HE : Hid (stL wd (s.data.toList.take (k + 1)) = (S.1 + 1, S.2.1, S.2.2 + 1)) := by rw [stp, if_neg hb', if_pos hw] at HN; exact HN
          clear hb' HN
          go_wp2
          go_roundw
          case rel =>
            refine ⟨k + 1, by omega, by go_num, by rw [HE.out], hB.setCell (p := ⟨w.heap.size + 1, 0, none⟩) (by simp) _, (cso (by omega)).trans r0, (cso (by omega)).trans r1, csf.trans f0, csf.trans f1, ?_, ?_, csf.trans g0, csf.trans g1⟩
            · rw [HE.out]; exact css k0
            · rw [HE.out]; exact (cso (by omega)).trans k1
          case measure => simp [intOf]; omega
        · have HE : Hid (stL wd (s.data.toList.take (k + 1)) = (S.1, S.2.1, S.2.2 + 1)) := by rw [stp, if_neg hb', if_neg hw] at HN; exact HN
          clear hb' HN
          go_wp2
          go_roundw
          case rel =>
            refine ⟨k + 1, by omega, by go_num, by rw [HE.out], hB, r0, r1, f0, f1, ?_, ?_, g0, g1⟩
            · rw [HE.out]; exact k0
            · rw [HE.out]; exact k1
          case measure => simp [intOf]; omega
    · have hkk : s.data.toList.take k = s.data.toList := List.take_of_length_le (by rw [← Lib.size_eq]; omega)
      have hT := HS.out
      rw [hkk] at hT
      rw [← hT] at k0 k1
      clear hT hkk
      go_wp2
      exact bodyPost_ret (v := .agg #[.int .i64 (stL wd s.data.toList).1, .int .i64 (stL wd s.data.toList).2.1]) (by simp [results, Tryd.results15, go_sem, r0, r1]) rfl ⟨rfl, (hB.setCell (p := ⟨w.heap.size, 0, none⟩) (by simp) _).setCell (p := ⟨w.heap.size, 1, none⟩) (by simp) _⟩
end Go.Proofs.YtfabfclbnekleaaDoor
