/- Package tree, the small ones: a note's words, cut between blanks. (Made by tools/gen_trey.py.) -/
import Derived.Test.YtianemmgaiblgabDoorTreX
import Derived.Test.YtianemmgaiblgabDoorIxB
import Derived.Test.YtianemmgaiblgabDoorFilK
import Derived.Test.YtianemmgaiblgabDoorRowO
namespace Go.Proofs.YtianemmgaiblgabDoor
open Go Go.RowKit

set_option maxRecDepth 100000 in
set_option maxHeartbeats 1000000 in
theorem sidx32_any (s : ByteArray) (w : World) :
    Calls Tryd.prog 84 #[.string s, .string ⟨#[32]⟩] w fun e w' => e = .returned (.int .i64 (Lib.indexByte s.data.toList 32)) ∧ w = w' := by
  go_enter Tryd.func84, Tryd.ntmps84
  go_wp2_with (go_at_call 70; refine (indexByte_any _ _ _).mono ?_; rintro e w' ⟨rfl, rfl⟩)
  · have h : ([32] == s.toList) = true := by assumption
    go_ret
    refine ⟨?_, rfl⟩
    have e : s.data.toList = [32] := by rw [← Lib.toList_data]; exact (beq_iff_eq.1 h).symm
    rw [e]
    simp [Lib.indexByte]
  · go_ret
    exact ⟨rfl, rfl⟩
set_option maxRecDepth 100000 in
theorem idx32_any (s : ByteArray) (w : World) :
    Calls Tryd.prog 99 #[.string s, .string ⟨#[32]⟩] w fun e w' => e = .returned (.int .i64 (Lib.indexByte s.data.toList 32)) ∧ w = w' := by
  go_enter Tryd.func99, Tryd.ntmps99
  go_wp2_with fail
  refine (sidx32_any _ _).mono ?_
  rintro e w2 ⟨rfl, rfl⟩
  go_wp2
  go_ret
  exact ⟨rfl, rfl⟩

set_option maxHeartbeats 4000000 in
set_option maxRecDepth 1000000 in
theorem gsplit_any (s : ByteArray) (N : Nat) (w : World) (hs : s.size ≤ 140737488351232) (hN : N = min 61 (s.size + 1)) :
    Calls Tryd.prog 88 #[.string s, .string ⟨#[32]⟩, .int .i64 0, .int .i64 61] w fun e w' =>
      e = .returned (.slice (some ⟨w.heap.size, 0, none⟩) (spK (N - 1) s).length N) ∧ w' = w.alloc (.cells (Lib.cellsOf (spK (N - 1) s) N) 9) := by
  have eN' : min (61 : Int) ((s.size : Int) + 1) = (N : Int) := by omega
  have hNs : (N : Int) ≤ (s.size : Int) + 1 := by omega
  have hN1 : (1 : Int) ≤ (N : Int) := by omega
  have hN6 : N ≤ 61 := by omega
  clear hN
  by_cases h61 : (s.size : Int) + 1 < 61
  · have hzN : ((N : Nat) : Int) = (s.size : Int) + 1 := by omega
    have hmk := run_make_row' (P := Tryd.prog) 22 9 (.string ByteArray.empty) 16 Tryd.underlying22 strInf rfl .i64 .i64 N (by omega) (by omega)
    rw [hzN] at hmk
    go_enter Tryd.func88, Tryd.ntmps88
    go_wp2_with fail
    clear hmk eN'
    go_loopw [0, 10] (fun s0 i wr => ∃ (done : List ByteArray) (rest : ByteArray), s0 = .string rest ∧ i = .int .i64 (done.length : Nat) ∧ done.length ≤ N - 1 ∧ rest.size ≤ s.size ∧
        wr = w.alloc (.cells (Lib.cellsOf done N) 9) ∧ done ++ spK (N - 1 - done.length) rest = spK (N - 1) s) (fun _ i _ => N - 1 - (intOf i).toNat)
    case atStart => exact ⟨[], s, rfl, rfl, Nat.zero_le _, Nat.le_refl _, by rw [Lib.cellsOf_nil], rfl⟩
    case round =>
      obtain ⟨done, rest, rfl, rfl, hd, hrs, rfl, hsp⟩ := hrel
      have hnext : (Lib.cellsOf done N)[done.length]? = some (.string ByteArray.empty) := Lib.cellsOf_next (by omega)
      have HS : Hid (done ++ spK (N - 1 - done.length) rest = spK (N - 1) s) := hsp
      clear hsp
      have fin : spK (N - 1 - done.length) rest = [rest] → (spK (N - 1) s).length = done.length + 1 ∧ (Lib.cellsOf done N).setIfInBounds done.length (.string rest) = Lib.cellsOf (spK (N - 1) s) N := fun h => by
        have e := HS.out
        rw [h] at e
        rw [← e]
        exact ⟨by simp, Lib.cellsOf_set (by omega) rest⟩
      by_cases hlt : done.length < N - 1
      · have hltz : ((done.length : Nat) : Int) < (s.size : Int) := by omega
        rcases sp_cases rest with hix | ⟨i, hix, hroom⟩
        · obtain ⟨f1, f2⟩ := fin (spK_miss _ hix)
          have F1 : Hid ((spK (N - 1) s).length = done.length + 1) := f1
          have F2 := (show Hid (_ = _) from f2)
          clear f1 f2 fin
          go_wp2_with fail
          refine (idx32_any rest _).mono ?_
          rintro e w2 ⟨rfl, rfl⟩
          rw [hix]
          go_wp2
          go_ret
          rw [F1.out, ← F2.out]
          exact ⟨by first | rfl | (congr 2 <;> omega), rfl⟩
        · have c0 : ¬ ((i : Int) < 0) := by omega
          have c1 : (0 : Int) ≤ ↑i := by omega
          have c2 : (↑i : Int) ≤ ↑rest.size := by omega
          have c3 : (0 : Int) ≤ ↑i + 1 := by omega
          have c4 : (↑i + 1 : Int) ≤ ↑rest.size := by omega
          have HR : Hid (done ++ [rest.extract 0 i] ++ spK (N - 1 - (done.length + 1)) (rest.extract (i + 1) rest.size) = spK (N - 1) s) := by
            show _ = _
            rw [← HS.out, show N - 1 - done.length = (N - 1 - (done.length + 1)) + 1 by omega, spK_hit _ hix]
            simp
          clear fin
          go_wp2_with fail
          refine (idx32_any rest _).mono ?_
          rintro e w2 ⟨rfl, rfl⟩
          rw [hix]
          go_wp2
          go_roundw
          case rel => exact ⟨done ++ [rest.extract 0 i], rest.extract (i + 1) rest.size, rfl, by simp, by simp; omega, by rw [ByteArray.size_extract]; omega, by rw [← Lib.cellsOf_set (by omega)], by rw [List.length_append]; exact HR.out⟩
          case measure => simp [intOf]; omega
      · have hltz : ¬ (((done.length : Nat) : Int) < (s.size : Int)) := by omega
        obtain ⟨f1, f2⟩ := fin (by rw [show N - 1 - done.length = 0 by omega]; rfl)
        have F1 : Hid ((spK (N - 1) s).length = done.length + 1) := f1
        have F2 := (show Hid (_ = _) from f2)
        clear f1 f2 fin
        go_wp2
        go_ret
        rw [F1.out, ← F2.out]
        exact ⟨by first | rfl | (congr 2 <;> omega), rfl⟩
  · have hzN : ((N : Nat) : Int) = 61 := by omega
    have hmk := run_make_row' (P := Tryd.prog) 22 9 (.string ByteArray.empty) 16 Tryd.underlying22 strInf rfl .i64 .i64 N (by omega) (by omega)
    rw [hzN] at hmk
    go_enter Tryd.func88, Tryd.ntmps88
    go_wp2_with fail
    clear hmk eN'
    go_loopw [0, 10] (fun s0 i wr => ∃ (done : List ByteArray) (rest : ByteArray), s0 = .string rest ∧ i = .int .i64 (done.length : Nat) ∧ done.length ≤ N - 1 ∧ rest.size ≤ s.size ∧
        wr = w.alloc (.cells (Lib.cellsOf done N) 9) ∧ done ++ spK (N - 1 - done.length) rest = spK (N - 1) s) (fun _ i _ => N - 1 - (intOf i).toNat)
    case atStart => exact ⟨[], s, rfl, rfl, Nat.zero_le _, Nat.le_refl _, by rw [Lib.cellsOf_nil], rfl⟩
    case round =>
      obtain ⟨done, rest, rfl, rfl, hd, hrs, rfl, hsp⟩ := hrel
      have hnext : (Lib.cellsOf done N)[done.length]? = some (.string ByteArray.empty) := Lib.cellsOf_next (by omega)
      have HS : Hid (done ++ spK (N - 1 - done.length) rest = spK (N - 1) s) := hsp
      clear hsp
      have fin : spK (N - 1 - done.length) rest = [rest] → (spK (N - 1) s).length = done.length + 1 ∧ (Lib.cellsOf done N).setIfInBounds done.length (.string rest) = Lib.cellsOf (spK (N - 1) s) N := fun h => by
        have e := HS.out
        rw [h] at e
        rw [← e]
        exact ⟨by simp, Lib.cellsOf_set (by omega) rest⟩
      by_cases hlt : done.length < N - 1
      · have hltz : ((done.length : Nat) : Int) < 60 := by omega
        rcases sp_cases rest with hix | ⟨i, hix, hroom⟩
        · obtain ⟨f1, f2⟩ := fin (spK_miss _ hix)
          have F1 : Hid ((spK (N - 1) s).length = done.length + 1) := f1
          have F2 := (show Hid (_ = _) from f2)
          clear f1 f2 fin
          go_wp2_with fail
          refine (idx32_any rest _).mono ?_
          rintro e w2 ⟨rfl, rfl⟩
          rw [hix]
          go_wp2
          go_ret
          rw [F1.out, ← F2.out]
          exact ⟨by first | rfl | (congr 2 <;> omega), rfl⟩
        · have c0 : ¬ ((i : Int) < 0) := by omega
          have c1 : (0 : Int) ≤ ↑i := by omega
          have c2 : (↑i : Int) ≤ ↑rest.size := by omega
          have c3 : (0 : Int) ≤ ↑i + 1 := by omega
          have c4 : (↑i + 1 : Int) ≤ ↑rest.size := by omega
          have HR : Hid (done ++ [rest.extract 0 i] ++ spK (N - 1 - (done.length + 1)) (rest.extract (i + 1) rest.size) = spK (N - 1) s) := by
            show _ = _
            rw [← HS.out, show N - 1 - done.length = (N - 1 - (done.length + 1)) + 1 by omega, spK_hit _ hix]
            simp
          clear fin
          go_wp2_with fail
          refine (idx32_any rest _).mono ?_
          rintro e w2 ⟨rfl, rfl⟩
          rw [hix]
          go_wp2
          go_roundw
          case rel => exact ⟨done ++ [rest.extract 0 i], rest.extract (i + 1) rest.size, rfl, by simp, by simp; omega, by rw [ByteArray.size_extract]; omega, by rw [← Lib.cellsOf_set (by omega)], by rw [List.length_append]; exact HR.out⟩
          case measure => simp [intOf]; omega
      · have hltz : ¬ (((done.length : Nat) : Int) < 60) := by omega
        obtain ⟨f1, f2⟩ := fin (by rw [show N - 1 - done.length = 0 by omega]; rfl)
        have F1 : Hid ((spK (N - 1) s).length = done.length + 1) := f1
        have F2 := (show Hid (_ = _) from f2)
        clear f1 f2 fin
        go_wp2
        go_ret
        rw [F1.out, ← F2.out]
        exact ⟨by first | rfl | (congr 2 <;> omega), rfl⟩

set_option maxRecDepth 100000 in
theorem splitN_any (s : ByteArray) (N : Nat) (w : World) (hs : s.size ≤ 140737488351232) (hN : N = min 61 (s.size + 1)) :
    Calls Tryd.prog 77 #[.string s, .string ⟨#[32]⟩, .int .i64 61] w fun e w' =>
      e = .returned (.slice (some ⟨w.heap.size, 0, none⟩) (spK (N - 1) s).length N) ∧ w' = w.alloc (.cells (Lib.cellsOf (spK (N - 1) s) N) 9) := by
  have HN : Hid (N = min 61 (s.size + 1)) := hN
  clear hN
  go_enter Tryd.func77, Tryd.ntmps77
  go_wp2_with fail
  refine (gsplit_any s N _ hs HN.out).mono ?_
  rintro e w2 ⟨rfl, rfl⟩
  go_wp2
  go_ret
  exact ⟨rfl, rfl⟩
theorem cells_at {ws : List ByteArray} {N i : Nat} (h : i < ws.length) : (Lib.cellsOf ws N)[i]? = some (.string ws[i]) := by
  unfold Lib.cellsOf
  rw [List.getElem?_toArray, List.getElem?_append_left (by rw [List.length_map]; exact h), List.getElem?_map, List.getElem?_eq_getElem h]
  rfl
theorem cells_wds (w : World) (ws : List ByteArray) (N : Nat) : Wds (w.alloc (.cells (Lib.cellsOf ws N) 9)) (some ⟨w.heap.size, 0, none⟩) ws := by
  intro i hi
  refine ⟨w.heap.size, 0, rfl, by rw [World.size_alloc]; omega, ?_⟩
  have h : (w.alloc (.cells (Lib.cellsOf ws N) 9)).heap[w.heap.size]? = some (.cells (Lib.cellsOf ws N) 9) := by
    show (w.heap.push _)[w.heap.size]? = _
    simp
  simp only [World.cell?, Option.isSome_none, Bool.false_eq_true, if_false, h, Nat.zero_add]
  exact cells_at hi
theorem size_ne {t : ByteArray} (h0 : 0 < (t.size : Int)) : (t.toList == []) = false := by
  rw [Lib.toList_data]
  have := (show t.data.toList.length = t.size from btL_len t)
  cases h : t.data.toList with
  | nil => rw [h] at this; simp at this; omega
  | cons a b => rfl
theorem size_eq0 {t : ByteArray} (h0 : ¬ 0 < (t.size : Int)) : t = ⟨#[]⟩ := by
  obtain ⟨d⟩ := t
  have h1 : d.size = 0 := by
    have : (d.size : Int) = ((⟨d⟩ : ByteArray).size : Int) := rfl
    omega
  rw [Array.eq_empty_of_size_eq_zero h1]

set_option maxRecDepth 100000 in
set_option maxHeartbeats 1000000 in
theorem tWords_any (s : ByteArray) (w : World) (hs : s.size ≤ 140737488351232) : Calls Tryd.prog 59 #[.string s] w fun e w' => ∃ (A : Option Addr) (ws : List ByteArray) (c : Nat), e = .returned (.slice A ws.length c) ∧ Wds w' A ws ∧ wordsF ws = noteF s ∧ Below w.heap.size w w' := by
  by_cases h0 : 0 < (s.size : Int)
  · have h1 := size_ne h0
    have HN : Hid (wordsF (spK (min 61 (s.size + 1) - 1) s) = noteF s) := note_spK (by omega) _ (by omega)
    go_enter Tryd.func59, Tryd.ntmps59
    go_wp2_with fail
    refine (splitN_any s _ _ hs rfl).mono ?_
    rintro e w2 ⟨rfl, rfl⟩
    generalize spK (min 61 (s.size + 1) - 1) s = ws at HN ⊢
    generalize min 61 (s.size + 1) = N
    go_wp2
    go_ret
    exact ⟨_, ws, N, rfl, cells_wds w ws N, HN.out, (Below.refl _ _).alloc (Nat.le_refl _) _⟩
  · have HZ : Hid (noteF s = 0) := note_none (by omega)
    have e := size_eq0 h0
    subst e
    clear h0
    go_enter Tryd.func59, Tryd.ntmps59
    go_wp2
    go_ret
    exact ⟨none, [], 0, rfl, fun i hi => by simp at hi, by rw [HZ.out]; rfl, Below.refl _ _⟩

end Go.Proofs.YtianemmgaiblgabDoor
