/- The document's answers on costs: CostFault, Less, CostOf; and pargetrysame.Error. -/
import Derived.Test.YtppdaldobmlooaaDoorTold
import Derived.Test.YtppdaldobmlooaaDoorAny
import Derived.Test.YtppdaldobmlooaaDoorPlainR
namespace Go.Proofs.YtppdaldobmlooaaDoor
open Go Go.RowKit

def faultN (c : Int × Int) : Int := if okC c = true then 0 else 1
theorem faultN_cases (c : Int × Int) : (okC c = true ∧ faultN c = 0) ∨ (okC c = false ∧ faultN c = 1) := by
  cases h : okC c with
  | true => left; simp [faultN, h]
  | false => right; simp [faultN, h]

theorem okC_false {c : Int × Int} (h : okC c = false) : c.1 < 0 ∨ (0 ≤ c.1 ∧ 1000000 < c.1) ∨ (0 ≤ c.1 ∧ c.1 ≤ 1000000 ∧ c.2 < 0) ∨ (0 ≤ c.1 ∧ c.1 ≤ 1000000 ∧ 0 ≤ c.2 ∧ 1000000 < c.2) := by
  simp [okC, fitB] at h
  omega

set_option maxRecDepth 100000 in
set_option maxHeartbeats 1000000 in
theorem fault_any (c : Int × Int) (w : World) :
    Calls Tryd.prog 4 #[costV c] w fun e w' => e = .returned (.int .i64 (faultN c)) ∧ Below w.heap.size w w' := by
  rcases faultN_cases c with ⟨h1, h2⟩ | ⟨h1, h2⟩
  · obtain ⟨⟨p1, p2⟩, ⟨p3, p4⟩⟩ := okC_bd h1
    rw [h2]
    clear h1 h2
    go_enter Tryd.func4, Tryd.ntmps4
    go_wp2
    go_ret
    exact ⟨rfl, (Below.refl _ _).alloc (Nat.le_refl _) _⟩
  · rw [h2]
    rcases okC_false h1 with q | ⟨q1, q2⟩ | ⟨q1, q2, q3⟩ | ⟨q1, q2, q3, q4⟩
    all_goals
      clear h1 h2
      go_enter Tryd.func4, Tryd.ntmps4
      go_wp2
      go_ret
      exact ⟨rfl, (Below.refl _ _).alloc (Nat.le_refl _) _⟩

set_option maxRecDepth 100000 in
set_option maxHeartbeats 1000000 in
theorem rless_any (a b : Int × Int) (w : World) :
    Calls Tryd.prog 5 #[costV a, costV b] w fun e w' => e = .returned (.bool (lessB a b)) ∧ Below w.heap.size w w' := by
  by_cases h : a.1 = b.1
  · have hl : lessB a b = decide (a.2 < b.2) := by simp [lessB, h]
    rw [hl]
    have h' : (a.1 != b.1) = false := by simp [h]
    clear h hl
    go_enter Tryd.func5, Tryd.ntmps5
    go_wp2
    go_ret
    exact ⟨rfl, ((Below.refl _ _).alloc (Nat.le_refl _) _).alloc (by simp) _⟩
  · have hl : lessB a b = decide (a.1 < b.1) := by simp [lessB, h]
    rw [hl]
    have h' : (a.1 != b.1) = true := by simp [h]
    clear h hl
    go_enter Tryd.func5, Tryd.ntmps5
    go_wp2
    go_ret
    exact ⟨rfl, ((Below.refl _ _).alloc (Nat.le_refl _) _).alloc (by simp) _⟩

theorem byte10 {b : UInt8} (h : (((b.toNat : Nat) : Int) == 10) = true) : b = 10 := by
  have h' : ((b.toNat : Nat) : Int) = 10 := beq_iff_eq.1 h
  exact UInt8.toNat_inj.1 (by simpa using (by omega : b.toNat = 10))
theorem byte10' {b : UInt8} (h : (((b.toNat : Nat) : Int) == 10) = false) : ¬ b = 10 := by
  rintro rfl
  simp at h

set_option maxRecDepth 100000 in
set_option maxHeartbeats 2000000 in
theorem costOf_any (s : ByteArray) (wd : Int) (w : World) (hs : s.size ≤ 60000) (hw0 : 0 ≤ wd) :
    Calls Tryd.prog 9 #[.string s, .int .i64 wd] w fun e w' => e = .returned (.agg #[.int .i64 (costOver s wd), .int .i64 (costLines s)]) ∧ Below w.heap.size w w' := by
  have HC : Hid ((stL wd s.data.toList).1 = costOver s wd ∧ (stL wd s.data.toList).2.1 = costLines s) := st_cost s wd hw0
  go_enter Tryd.func9, Tryd.ntmps9
  go_wp2
  go_loopw [6, 7] (fun c i wr => ∃ k : Nat, k ≤ s.size ∧ i = .int .i64 k ∧ c = .int .i64 (stL wd (s.data.toList.take k)).2.2 ∧ Below w.heap.size w wr
      ∧ wr.cell? ⟨w.heap.size, 0, none⟩ = some (.int .i64 0) ∧ wr.cell? ⟨w.heap.size, 1, none⟩ = some (.int .i64 0) ∧ wr.frozen? ⟨w.heap.size, 0, none⟩ = false ∧ wr.frozen? ⟨w.heap.size, 1, none⟩ = false
      ∧ wr.cell? ⟨w.heap.size + 1, 0, none⟩ = some (.int .i64 (stL wd (s.data.toList.take k)).1) ∧ wr.cell? ⟨w.heap.size + 1, 1, none⟩ = some (.int .i64 (stL wd (s.data.toList.take k)).2.1) ∧ wr.frozen? ⟨w.heap.size + 1, 0, none⟩ = false ∧ wr.frozen? ⟨w.heap.size + 1, 1, none⟩ = false)
    (fun _ i _ => s.size - (intOf i).toNat)
  case atStart =>
    exact ⟨0, Nat.zero_le _, rfl, rfl, ((Below.refl _ _).alloc (Nat.le_refl _) _).alloc (by simp) _, by simp [go_sem], by simp [go_sem], by simp [go_sem], by simp [go_sem], by simp [go_sem, stL], by simp [go_sem, stL], by simp [go_sem], by simp [go_sem]⟩
  case round =>
    obtain ⟨k, hk, rfl, rfl, hB, r0, r1, f0, f1, k0, k1, g0, g1⟩ := hrel
    obtain ⟨⟨b1, b2⟩, ⟨b3, b4⟩, ⟨b5, b6⟩⟩ := stL_bd wd (s.data.toList.take k)
    have bl : ((s.data.toList.take k).length : Int) ≤ 60000 := by have := List.length_take_le k s.data.toList; omega
    generalize hS : stL wd (s.data.toList.take k) = S at b1 b2 b3 b4 b5 b6 k0 k1 ⊢
    have b2' : S.1 ≤ 60000 := by omega
    have b4' : S.2.1 ≤ 60000 := by omega
    have b6' : S.2.2 ≤ 60000 := by omega
    clear b2 b4 b6 bl
    have HS : Hid (stL wd (s.data.toList.take k) = S) := hS
    clear hS
    by_cases hlt : k < s.size
    · have HN : Hid (stL wd (s.data.toList.take (k + 1)) = stp wd S s[k]) := by
        have h := stL_snoc wd (s.data.toList.take k) s[k]
        rw [← take_snoc s k hlt, HS.out] at h
        exact h
      cases hb : (((s[k].toNat : Nat) : Int) == 10) with
      | true =>
        have hb' : s[k] = 10 := byte10 hb
        have HE : Hid (stL wd (s.data.toList.take (k + 1)) = (S.1, S.2.1 + 1, 0)) := by rw [stp, if_pos hb'] at HN; exact HN
        clear hb' HN
        go_wp2
        go_roundw
        case rel =>
          refine ⟨k + 1, by omega, by go_num, by rw [HE.out], hB.setCell (p := ⟨w.heap.size + 1, 1, none⟩) (by simp) _, (cso (by omega)).trans r0, (cso (by omega)).trans r1, csf.trans f0, csf.trans f1, ?_, ?_, csf.trans g0, csf.trans g1⟩
          · rw [HE.out]; exact (cso (by omega)).trans k0
          · rw [HE.out]; exact css k1
        case measure => simp [intOf]; omega
      | false =>
        have hb' : ¬ s[k] = 10 := byte10' hb
        by_cases hw : wd < S.2.2 + 1
        · have HE : Hid (stL wd (s.data.toList.take (k + 1)) = (S.1 + 1, S.2.1, S.2.2 + 1)) := by rw [stp, if_neg hb', if_pos hw] at HN; exact HN
          clear hb' HN
          go_wp2
          go_roundw
          case rel =>
            refine ⟨k + 1, by omega, by go_num, by rw [HE.out], hB.setCell (p := ⟨w.heap.size + 1, 0, none⟩) (by simp) _, (cso (by omega)).trans r0, (cso (by omega)).trans r1, csf.trans f0, csf.trans f1, ?_, ?_, csf.trans g0, csf.trans g1⟩
            · rw [HE.out]; exact css k0
            · rw [HE.out]; exact (cso (by omega)).trans k1
          case measure => simp [intOf]; omega
        · have HE : Hid (stL wd (s.data.toList.take (k + 1)) = (S.1, S.2.1, S.2.2 + 1)) := by rw [stp, if_neg hb', if_neg hw] at HN; exact HN
          clear hb' HN
          go_wp2
          go_roundw
          case rel =>
            refine ⟨k + 1, by omega, by go_num, by rw [HE.out], hB, r0, r1, f0, f1, ?_, ?_, g0, g1⟩
            · rw [HE.out]; exact k0
            · rw [HE.out]; exact k1
          case measure => simp [intOf]; omega
    · have hkk : s.data.toList.take k = s.data.toList := List.take_of_length_le (by rw [← Lib.size_eq]; omega)
      have hT := HS.out
      rw [hkk] at hT
      obtain ⟨q1, q2⟩ := HC.out
      rw [hT] at q1 q2
      rw [q1] at k0
      rw [q2] at k1
      clear hT hkk q1 q2
      go_wp2
      exact bodyPost_ret (v := .agg #[.int .i64 (costOver s wd), .int .i64 (costLines s)]) (by simp [results, Tryd.results9, go_sem, r0, r1]) rfl ⟨rfl, (hB.setCell (p := ⟨w.heap.size, 0, none⟩) (by simp) _).setCell (p := ⟨w.heap.size, 1, none⟩) (by simp) _⟩
end Go.Proofs.YtppdaldobmlooaaDoor
