/- Some texts as one: IxB, FilK, TreV, TreY. -/
import Derived.WalkKit
import Derived.OwnWalkIn
import Derived.TacticsInMore
import Derived.Lib.Bytealg
import Derived.Lib.Strings
import Derived.Lib.IndexBytes
import Derived.Shelf.RegionOpen
import Derived.Test.YtmbeamcjpidnjaaGreatDoorProg
import Derived.Test.YtmbeamcjpidnjaaGreatDoorMems
import Derived.Test.YtmbeamcjpidnjaaGreatDoorFilPs
import Derived.Test.YtmbeamcjpidnjaaGreatDoorTrePs
namespace Go.Proofs.YtmbeamcjpidnjaaGreatDoor
open Go Go.RowKit Go.Lib Go.Shelf

set_option maxRecDepth 100000 in
set_option maxHeartbeats 1000000 in
theorem indexByte_any (s : ByteArray) (c : Int) (w : World) :
    Calls Tryz.prog 108 #[.string s, .int .u8 c] w fun e w' => e = .returned (.int .i64 (Lib.indexByte s.data.toList c.toNat.toUInt8)) ∧ w' = w := by
  go_enter Tryz.func108, Tryz.ntmps108
  go_wp2
  rw [run_callFunc_extern Tryz.func148 (by kernel_rfl) (by kernel_rfl) (by kernel_rfl) (e := Extern.BytealgIndexByte.indexByte) (by kernel_rfl), Lib.run_indexByteString]
  simp only [Result.andThen]
  rw [Oper.upon_value]
  go_wp2
  go_ret
  exact ⟨rfl, rfl⟩
end Go.Proofs.YtmbeamcjpidnjaaGreatDoor
namespace Go.Proofs.YtmbeamcjpidnjaaGreatDoor
open Go Go.RowKit

set_option maxRecDepth 100000 in
set_option maxHeartbeats 1000000 in
theorem xIsWord_any (s : ByteArray) (w : World) : Calls Tryz.prog 153 #[.string s] w fun e w' => e = .returned (.bool (okW s)) ∧ w = w' := by
  by_cases h1 : (s.size : Int) < 1
  · have e : okW s = false := by simp [okW]; omega
    rw [e]
    clear e
    go_enter Tryz.func153, Tryz.ntmps153
    go_wp2
    go_ret
    exact ⟨rfl, rfl⟩
  by_cases h2 : 20 < (s.size : Int)
  · have e : okW s = false := by simp [okW]; omega
    rw [e]
    clear e
    go_enter Tryz.func153, Tryz.ntmps153
    go_wp2
    go_ret
    exact ⟨rfl, rfl⟩
  go_enter Tryz.func153, Tryz.ntmps153
  go_wp2
  go_loopw [14] (fun i wr => wr = w ∧ ∃ k : Nat, k ≤ s.size ∧ i = .int .i64 k ∧ ∀ j (h : j < s.size), j < k → wByte s[j] = true) (fun i _ => s.size - (intOf i).toNat)
  case atStart => exact ⟨rfl, 0, Nat.zero_le _, rfl, fun j _ hj => by omega⟩
  case round =>
    obtain ⟨rfl, k, hk, rfl, hall⟩ := hrel
    have HA : Hid (∀ j (h : j < s.size), j < k → wByte s[j] = true) := hall
    clear hall
    by_cases hlt : k < s.size
    · cases hb : wByte s[k] with
      | false =>
        have HE : Hid (okW s = false) := okW_not hlt hb
        have hc := wByte_false hb
        clear hb
        rcases hc with hc | ⟨hc, hd⟩
        · go_wp2
          go_ret
          exact ⟨by rw [HE.out]; rfl, rfl⟩
        · go_wp2
          go_ret
          exact ⟨by rw [HE.out]; rfl, rfl⟩
      | true =>
        have HB : Hid (wByte s[k] = true) := hb
        obtain ⟨hc, hd⟩ := wByte_true hb
        clear hb
        go_wp2
        go_roundw
        case rel =>
          refine ⟨by trivial, k + 1, by omega, by go_num, ?_⟩
          intro j h hj
          by_cases hjk : j = k
          · subst hjk; exact HB.out
          · exact HA.out j h (by omega)
        case measure => simp [intOf]; omega
    · have HE : Hid (okW s = true) := okW_take (by omega) (by omega) fun j h => HA.out j h (by omega)
      go_wp2
      go_ret
      exact ⟨by rw [HE.out]; rfl, rfl⟩

set_option maxRecDepth 100000 in
set_option maxHeartbeats 1000000 in
theorem xCheck_any (ws : List ByteArray) (a : Option Addr) (cap : Nat) (w : World) (hW : Wds w a ws) :
    Calls Tryz.prog 116 #[.slice a ws.length cap] w fun e w' => e = .returned (errN (wordsF ws)) ∧ w = w' := by
  have HW : Hid (Wds w a ws) := hW
  clear hW
  by_cases h1 : 60 < (ws.length : Int)
  · have HE : Hid (wordsF ws = 3) := wordsF_full (by omega)
    go_enter Tryz.func116, Tryz.ntmps116
    go_wp2
    go_ret
    exact ⟨by rw [HE.out]; rfl, rfl⟩
  go_enter Tryz.func116, Tryz.ntmps116
  go_wp2
  go_loopw [11] (fun i wr => wr = w ∧ ∃ k : Nat, k ≤ ws.length ∧ i = .int .i64 k ∧ ∀ j (h : j < ws.length), j < k → okW ws[j] = true) (fun i _ => ws.length - (intOf i).toNat)
  case atStart => exact ⟨rfl, 0, Nat.zero_le _, rfl, fun j _ hj => by omega⟩
  case round =>
    obtain ⟨rfl, k, hk, rfl, hall⟩ := hrel
    have HA : Hid (∀ j (h : j < ws.length), j < k → okW ws[j] = true) := hall
    clear hall
    by_cases hlt : k < ws.length
    · obtain ⟨b0, o0, ea, hb0, c0⟩ := HW.out k hlt
      subst ea
      cases hb : okW ws[k] with
      | false =>
        have HE : Hid (wordsF ws = 5) := wordsF_not (by omega) hlt hb
        have HB : Hid (okW ws[k] = false) := hb
        generalize ws[k] = x at c0 HB
        clear hb
        go_wp2_with fail
        refine (xIsWord_any _ _).mono ?_
        rintro e w2 ⟨rfl, rfl⟩
        rw [HB.out]
        go_wp2
        go_ret
        exact ⟨by rw [HE.out]; rfl, rfl⟩
      | true =>
        have HB : Hid (okW ws[k] = true) := hb
        have HA' : Hid (∀ j (h : j < ws.length), j < k + 1 → okW ws[j] = true) := fun j h hj => by
          by_cases hjk : j = k
          · subst hjk; exact hb
          · exact HA.out j h (by omega)
        generalize ws[k] = x at c0 HB
        clear hb
        go_wp2_with fail
        refine (xIsWord_any _ _).mono ?_
        rintro e w2 ⟨rfl, rfl⟩
        rw [HB.out]
        go_wp2
        go_roundw
        case rel => exact ⟨by trivial, k + 1, by omega, by go_num, HA'.out⟩
        case measure => simp [intOf]; omega
    · have HE : Hid (wordsF ws = 0) := wordsF_all (by omega) fun j h => HA.out j h (by omega)
      go_wp2
      go_ret
      exact ⟨by rw [HE.out]; rfl, rfl⟩
end Go.Proofs.YtmbeamcjpidnjaaGreatDoor
namespace Go.Proofs.YtmbeamcjpidnjaaGreatDoor
open Go Go.RowKit

set_option maxRecDepth 100000 in
set_option maxHeartbeats 1000000 in
theorem sidx32_any (s : ByteArray) (w : World) :
    Calls Tryz.prog 149 #[.string s, .string ⟨#[32]⟩] w fun e w' => e = .returned (.int .i64 (Lib.indexByte s.data.toList 32)) ∧ w = w' := by
  go_enter Tryz.func149, Tryz.ntmps149
  go_wp2_with (go_at_call 108; refine (indexByte_any _ _ _).mono ?_; rintro e w' ⟨rfl, rfl⟩)
  · have h : ([32] == s.toList) = true := by assumption
    go_ret
    refine ⟨?_, rfl⟩
    have e : s.data.toList = [32] := by rw [← Lib.toList_data]; exact (beq_iff_eq.1 h).symm
    rw [e]
    simp [Lib.indexByte]
  · go_ret
    exact ⟨rfl, rfl⟩
set_option maxRecDepth 100000 in
theorem idx32_any (s : ByteArray) (w : World) :
    Calls Tryz.prog 196 #[.string s, .string ⟨#[32]⟩] w fun e w' => e = .returned (.int .i64 (Lib.indexByte s.data.toList 32)) ∧ w = w' := by
  go_enter Tryz.func196, Tryz.ntmps196
  go_wp2_with fail
  refine (sidx32_any _ _).mono ?_
  rintro e w2 ⟨rfl, rfl⟩
  go_wp2
  go_ret
  exact ⟨rfl, rfl⟩

set_option maxHeartbeats 4000000 in
set_option maxRecDepth 1000000 in
theorem gsplit_any (s : ByteArray) (N : Nat) (w : World) (hs : s.size ≤ 140737488351232) (hN : N = min 61 (s.size + 1)) :
    Calls Tryz.prog 176 #[.string s, .string ⟨#[32]⟩, .int .i64 0, .int .i64 61] w fun e w' =>
      e = .returned (.slice (some ⟨w.heap.size, 0, none⟩) (spK (N - 1) s).length N) ∧ w' = w.alloc (.cells (Lib.cellsOf (spK (N - 1) s) N) 9) := by
  have eN' : min (61 : Int) ((s.size : Int) + 1) = (N : Int) := by omega
  have hNs : (N : Int) ≤ (s.size : Int) + 1 := by omega
  have hN1 : (1 : Int) ≤ (N : Int) := by omega
  have hN6 : N ≤ 61 := by omega
  clear hN
  by_cases h61 : (s.size : Int) + 1 < 61
  · have hzN : ((N : Nat) : Int) = (s.size : Int) + 1 := by omega
    have hmk := run_make_row' (P := Tryz.prog) 41 9 (.string ByteArray.empty) 16 Tryz.underlying41 strInf rfl .i64 .i64 N (by omega) (by omega)
    rw [hzN] at hmk
    go_enter Tryz.func176, Tryz.ntmps176
    go_wp2_with fail
    clear hmk eN'
    go_loopw [0, 10] (fun s0 i wr => ∃ (done : List ByteArray) (rest : ByteArray), s0 = .string rest ∧ i = .int .i64 (done.length : Nat) ∧ done.length ≤ N - 1 ∧ rest.size ≤ s.size ∧
        wr = w.alloc (.cells (Lib.cellsOf done N) 9) ∧ done ++ spK (N - 1 - done.length) rest = spK (N - 1) s) (fun _ i _ => N - 1 - (intOf i).toNat)
    case atStart => exact ⟨[], s, rfl, rfl, Nat.zero_le _, Nat.le_refl _, by rw [Lib.cellsOf_nil], rfl⟩
    case round =>
      obtain ⟨done, rest, rfl, rfl, hd, hrs, rfl, hsp⟩ := hrel
      have hnext : (Lib.cellsOf done N)[done.length]? = some (.string ByteArray.empty) := Lib.cellsOf_next (by omega)
      have HS : Hid (done ++ spK (N - 1 - done.length) rest = spK (N - 1) s) := hsp
      clear hsp
      have fin : spK (N - 1 - done.length) rest = [rest] → (spK (N - 1) s).length = done.length + 1 ∧ (Lib.cellsOf done N).setIfInBounds done.length (.string rest) = Lib.cellsOf (spK (N - 1) s) N := fun h => by
        have e := HS.out
        rw [h] at e
        rw [← e]
        exact ⟨by simp, Lib.cellsOf_set (by omega) rest⟩
      by_cases hlt : done.length < N - 1
      · have hltz : ((done.length : Nat) : Int) < (s.size : Int) := by omega
        rcases spw_cases rest with hix | ⟨i, hix, hroom⟩
        · obtain ⟨f1, f2⟩ := fin (spK_miss _ hix)
          have F1 : Hid ((spK (N - 1) s).length = done.length + 1) := f1
          have F2 := (show Hid (_ = _) from f2)
          clear f1 f2 fin
          go_wp2_with fail
          refine (idx32_any rest _).mono ?_
          rintro e w2 ⟨rfl, rfl⟩
          rw [hix]
          go_wp2
          go_ret
          rw [F1.out, ← F2.out]
          exact ⟨by first | rfl | (congr 2 <;> omega), rfl⟩
        · have c0 : ¬ ((i : Int) < 0) := by omega
          have c1 : (0 : Int) ≤ ↑i := by omega
          have c2 : (↑i : Int) ≤ ↑rest.size := by omega
          have c3 : (0 : Int) ≤ ↑i + 1 := by omega
          have c4 : (↑i + 1 : Int) ≤ ↑rest.size := by omega
          have HR : Hid (done ++ [rest.extract 0 i] ++ spK (N - 1 - (done.length + 1)) (rest.extract (i + 1) rest.size) = spK (N - 1) s) := by
            show _ = _
            rw [← HS.out, show N - 1 - done.length = (N - 1 - (done.length + 1)) + 1 by omega, spK_hit _ hix]
            simp
          clear fin
          go_wp2_with fail
          refine (idx32_any rest _).mono ?_
          rintro e w2 ⟨rfl, rfl⟩
          rw [hix]
          go_wp2
          go_roundw
          case rel => exact ⟨done ++ [rest.extract 0 i], rest.extract (i + 1) rest.size, rfl, by simp, by simp; omega, by rw [ByteArray.size_extract]; omega, by rw [← Lib.cellsOf_set (by omega)], by rw [List.length_append]; exact HR.out⟩
          case measure => simp [intOf]; omega
      · have hltz : ¬ (((done.length : Nat) : Int) < (s.size : Int)) := by omega
        obtain ⟨f1, f2⟩ := fin (by rw [show N - 1 - done.length = 0 by omega]; rfl)
        have F1 : Hid ((spK (N - 1) s).length = done.length + 1) := f1
        have F2 := (show Hid (_ = _) from f2)
        clear f1 f2 fin
        go_wp2
        go_ret
        rw [F1.out, ← F2.out]
        exact ⟨by first | rfl | (congr 2 <;> omega), rfl⟩
  · have hzN : ((N : Nat) : Int) = 61 := by omega
    have hmk := run_make_row' (P := Tryz.prog) 41 9 (.string ByteArray.empty) 16 Tryz.underlying41 strInf rfl .i64 .i64 N (by omega) (by omega)
    rw [hzN] at hmk
    go_enter Tryz.func176, Tryz.ntmps176
    go_wp2_with fail
    clear hmk eN'
    go_loopw [0, 10] (fun s0 i wr => ∃ (done : List ByteArray) (rest : ByteArray), s0 = .string rest ∧ i = .int .i64 (done.length : Nat) ∧ done.length ≤ N - 1 ∧ rest.size ≤ s.size ∧
        wr = w.alloc (.cells (Lib.cellsOf done N) 9) ∧ done ++ spK (N - 1 - done.length) rest = spK (N - 1) s) (fun _ i _ => N - 1 - (intOf i).toNat)
    case atStart => exact ⟨[], s, rfl, rfl, Nat.zero_le _, Nat.le_refl _, by rw [Lib.cellsOf_nil], rfl⟩
    case round =>
      obtain ⟨done, rest, rfl, rfl, hd, hrs, rfl, hsp⟩ := hrel
      have hnext : (Lib.cellsOf done N)[done.length]? = some (.string ByteArray.empty) := Lib.cellsOf_next (by omega)
      have HS : Hid (done ++ spK (N - 1 - done.length) rest = spK (N - 1) s) := hsp
      clear hsp
      have fin : spK (N - 1 - done.length) rest = [rest] → (spK (N - 1) s).length = done.length + 1 ∧ (Lib.cellsOf done N).setIfInBounds done.length (.string rest) = Lib.cellsOf (spK (N - 1) s) N := fun h => by
        have e := HS.out
        rw [h] at e
        rw [← e]
        exact ⟨by simp, Lib.cellsOf_set (by omega) rest⟩
      by_cases hlt : done.length < N - 1
      · have hltz : ((done.length : Nat) : Int) < 60 := by omega
        rcases spw_cases rest with hix | ⟨i, hix, hroom⟩
        · obtain ⟨f1, f2⟩ := fin (spK_miss _ hix)
          have F1 : Hid ((spK (N - 1) s).length = done.length + 1) := f1
          have F2 := (show Hid (_ = _) from f2)
          clear f1 f2 fin
          go_wp2_with fail
          refine (idx32_any rest _).mono ?_
          rintro e w2 ⟨rfl, rfl⟩
          rw [hix]
          go_wp2
          go_ret
          rw [F1.out, ← F2.out]
          exact ⟨by first | rfl | (congr 2 <;> omega), rfl⟩
        · have c0 : ¬ ((i : Int) < 0) := by omega
          have c1 : (0 : Int) ≤ ↑i := by omega
          have c2 : (↑i : Int) ≤ ↑rest.size := by omega
          have c3 : (0 : Int) ≤ ↑i + 1 := by omega
          have c4 : (↑i + 1 : Int) ≤ ↑rest.size := by omega
          have HR : Hid (done ++ [rest.extract 0 i] ++ spK (N - 1 - (done.length + 1)) (rest.extract (i + 1) rest.size) = spK (N - 1) s) := by
            show _ = _
            rw [← HS.out, show N - 1 - done.length = (N - 1 - (done.length + 1)) + 1 by omega, spK_hit _ hix]
            simp
          clear fin
          go_wp2_with fail
          refine (idx32_any rest _).mono ?_
          rintro e w2 ⟨rfl, rfl⟩
          rw [hix]
          go_wp2
          go_roundw
          case rel => exact ⟨done ++ [rest.extract 0 i], rest.extract (i + 1) rest.size, rfl, by simp, by simp; omega, by rw [ByteArray.size_extract]; omega, by rw [← Lib.cellsOf_set (by omega)], by rw [List.length_append]; exact HR.out⟩
          case measure => simp [intOf]; omega
      · have hltz : ¬ (((done.length : Nat) : Int) < 60) := by omega
        obtain ⟨f1, f2⟩ := fin (by rw [show N - 1 - done.length = 0 by omega]; rfl)
        have F1 : Hid ((spK (N - 1) s).length = done.length + 1) := f1
        have F2 := (show Hid (_ = _) from f2)
        clear f1 f2 fin
        go_wp2
        go_ret
        rw [F1.out, ← F2.out]
        exact ⟨by first | rfl | (congr 2 <;> omega), rfl⟩

set_option maxRecDepth 100000 in
theorem splitN_any (s : ByteArray) (N : Nat) (w : World) (hs : s.size ≤ 140737488351232) (hN : N = min 61 (s.size + 1)) :
    Calls Tryz.prog 154 #[.string s, .string ⟨#[32]⟩, .int .i64 61] w fun e w' =>
      e = .returned (.slice (some ⟨w.heap.size, 0, none⟩) (spK (N - 1) s).length N) ∧ w' = w.alloc (.cells (Lib.cellsOf (spK (N - 1) s) N) 9) := by
  have HN : Hid (N = min 61 (s.size + 1)) := hN
  clear hN
  go_enter Tryz.func154, Tryz.ntmps154
  go_wp2_with fail
  refine (gsplit_any s N _ hs HN.out).mono ?_
  rintro e w2 ⟨rfl, rfl⟩
  go_wp2
  go_ret
  exact ⟨rfl, rfl⟩
theorem cells_at {ws : List ByteArray} {N i : Nat} (h : i < ws.length) : (Lib.cellsOf ws N)[i]? = some (.string ws[i]) := by
  unfold Lib.cellsOf
  rw [List.getElem?_toArray, List.getElem?_append_left (by rw [List.length_map]; exact h), List.getElem?_map, List.getElem?_eq_getElem h]
  rfl
theorem cells_wds (w : World) (ws : List ByteArray) (N : Nat) : Wds (w.alloc (.cells (Lib.cellsOf ws N) 9)) (some ⟨w.heap.size, 0, none⟩) ws := by
  intro i hi
  refine ⟨w.heap.size, 0, rfl, by rw [World.size_alloc]; omega, ?_⟩
  have h : (w.alloc (.cells (Lib.cellsOf ws N) 9)).heap[w.heap.size]? = some (.cells (Lib.cellsOf ws N) 9) := by
    show (w.heap.push _)[w.heap.size]? = _
    simp
  simp only [World.cell?, Option.isSome_none, Bool.false_eq_true, if_false, h, Nat.zero_add]
  exact cells_at hi
theorem sizew_ne {t : ByteArray} (h0 : 0 < (t.size : Int)) : (t.toList == []) = false := by
  rw [Lib.toList_data]
  have := (show t.data.toList.length = t.size from btL_len t)
  cases h : t.data.toList with
  | nil => rw [h] at this; simp at this; omega
  | cons a b => rfl
theorem sizew_eq0 {t : ByteArray} (h0 : ¬ 0 < (t.size : Int)) : t = ⟨#[]⟩ := by
  obtain ⟨d⟩ := t
  have h1 : d.size = 0 := by
    have : (d.size : Int) = ((⟨d⟩ : ByteArray).size : Int) := rfl
    omega
  rw [Array.eq_empty_of_size_eq_zero h1]

set_option maxRecDepth 100000 in
set_option maxHeartbeats 1000000 in
theorem tWords_any (s : ByteArray) (w : World) (hs : s.size ≤ 140737488351232) : Calls Tryz.prog 117 #[.string s] w fun e w' => ∃ (A : Option Addr) (ws : List ByteArray) (c : Nat), e = .returned (.slice A ws.length c) ∧ Wds w' A ws ∧ wordsF ws = noteF s ∧ Below w.heap.size w w' := by
  by_cases h0 : 0 < (s.size : Int)
  · have h1 := sizew_ne h0
    have HN : Hid (wordsF (spK (min 61 (s.size + 1) - 1) s) = noteF s) := note_spK (by omega) _ (by omega)
    go_enter Tryz.func117, Tryz.ntmps117
    go_wp2_with fail
    refine (splitN_any s _ _ hs rfl).mono ?_
    rintro e w2 ⟨rfl, rfl⟩
    generalize spK (min 61 (s.size + 1) - 1) s = ws at HN ⊢
    generalize min 61 (s.size + 1) = N
    go_wp2
    go_ret
    exact ⟨_, ws, N, rfl, cells_wds w ws N, HN.out, (Below.refl _ _).alloc (Nat.le_refl _) _⟩
  · have HZ : Hid (noteF s = 0) := note_none (by omega)
    have e := sizew_eq0 h0
    subst e
    clear h0
    go_enter Tryz.func117, Tryz.ntmps117
    go_wp2
    go_ret
    exact ⟨none, [], 0, rfl, fun i hi => by simp at hi, by rw [HZ.out]; rfl, Below.refl _ _⟩

end Go.Proofs.YtmbeamcjpidnjaaGreatDoor
namespace Go.Proofs.YtmbeamcjpidnjaaGreatDoor
open Go Go.RowKit

set_option maxRecDepth 100000 in
set_option maxHeartbeats 1000000 in
theorem tIsName_any (s : ByteArray) (w : World) : Calls Tryz.prog 119 #[.string s] w fun e w' => e = .returned (.bool (nameT s)) ∧ w = w' := by
  by_cases h1 : (s.size : Int) < 1
  · have HE : Hid (nameT s = false) := nameT_short (by omega)
    go_enter Tryz.func119, Tryz.ntmps119
    go_wp2
    go_ret
    exact ⟨by rw [HE.out]; rfl, rfl⟩
  by_cases h2 : 8 < (s.size : Int)
  · have HE : Hid (nameT s = false) := nameT_long (by omega)
    go_enter Tryz.func119, Tryz.ntmps119
    go_wp2
    go_ret
    exact ⟨by rw [HE.out]; rfl, rfl⟩
  by_cases h3 : s = ⟨#[108, 101, 116]⟩
  · subst h3
    go_enter Tryz.func119, Tryz.ntmps119
    go_wp2
    go_ret
    exact ⟨by rfl, rfl⟩
  have HL : Hid (¬ s = ⟨#[108, 101, 116]⟩) := h3
  have hnb : ¬ s.toList = [108, 101, 116] := by
    rw [ByteArray.toList_eq]
    intro e
    exact h3 (let_eq.1 e)
  have hnc : (s.toList == [108, 101, 116]) = false := beq_false_of_ne hnb
  clear h3
  go_enter Tryz.func119, Tryz.ntmps119
  go_wp2_with fail
  go_loopw [18] (fun i wr => wr = w ∧ ∃ k : Nat, k ≤ s.size ∧ i = .int .i64 k ∧ ∀ j (h : j < s.size), j < k → lowB s[j] = true) (fun i _ => s.size - (intOf i).toNat)
  case atStart => exact ⟨rfl, 0, Nat.zero_le _, rfl, fun j _ hj => by omega⟩
  case round =>
    obtain ⟨rfl, k, hk, rfl, hall⟩ := hrel
    have HA : Hid (∀ j (h : j < s.size), j < k → lowB s[j] = true) := hall
    clear hall
    by_cases hlt : k < s.size
    · cases hb : lowB s[k] with
      | false =>
        have HE : Hid (nameT s = false) := nameT_not hlt hb
        by_cases hc : (s[k].toNat : Int) < 97
        · clear hb
          go_wp2
          go_ret
          exact ⟨by rw [HE.out]; rfl, rfl⟩
        · have hd : (122 : Int) < (s[k].toNat : Int) := by
            simp [lowB] at hb
            omega
          clear hb
          go_wp2
          go_ret
          exact ⟨by rw [HE.out]; rfl, rfl⟩
      | true =>
        have HA' : Hid (∀ j (h : j < s.size), j < k + 1 → lowB s[j] = true) := fun j h hj => by
          by_cases hjk : j = k
          · subst hjk; exact hb
          · exact HA.out j h (by omega)
        have hc : ¬ (s[k].toNat : Int) < 97 ∧ ¬ (122 : Int) < (s[k].toNat : Int) := by
          simp [lowB] at hb
          omega
        obtain ⟨hc, hd⟩ := hc
        clear hb
        go_wp2
        go_roundw
        case rel => exact ⟨by trivial, k + 1, by omega, by go_num, HA'.out⟩
        case measure => simp [intOf]; omega
    · have HE : Hid (nameT s = true) := nameT_all (by omega) (by omega) HL.out fun j h => HA.out j h (by omega)
      go_wp2
      go_ret
      exact ⟨by rw [HE.out]; rfl, rfl⟩

/-- The greatest number that a node may have, and whether it has one. -/
def grM (op : Int) : Int := if op = 1 then 999999 else if op = 3 ∨ op = 4 then 6 else 0
def grH (op : Int) : Bool := decide (op = 1 ∨ op = 3 ∨ op = 4)
set_option maxRecDepth 100000 in
theorem tGreat_any (op M : Int) (H : Bool) (hM : grM op = M) (hH : grH op = H) (w : World) : Calls Tryz.prog 115 #[.int .i64 op] w fun e w' => e = .returned (.tuple #[.int .i64 M, .bool H]) ∧ w = w' := by
  subst hM hH
  by_cases h1 : op = 1
  · subst h1
    go_enter Tryz.func115, Tryz.ntmps115
    go_wp2
    go_ret2
    exact ⟨rfl, rfl⟩
  by_cases h3 : op = 3
  · subst h3
    go_enter Tryz.func115, Tryz.ntmps115
    go_wp2
    go_ret2
    exact ⟨rfl, rfl⟩
  by_cases h4 : op = 4
  · subst h4
    go_enter Tryz.func115, Tryz.ntmps115
    go_wp2
    go_ret2
    exact ⟨rfl, rfl⟩
  have HM : Hid (grM op = 0) := by show grM op = 0; simp [grM, h1, h3, h4]
  have HH : Hid (grH op = false) := by show grH op = false; simp [grH, h1, h3, h4]
  have g1 : (op == 1) = false := by simp [h1]
  have g3 : (op == 3) = false := by simp [h3]
  have g4 : (op == 4) = false := by simp [h4]
  clear h1 h3 h4
  go_enter Tryz.func115, Tryz.ntmps115
  go_wp2
  go_ret2
  exact ⟨by rw [HM.out, HH.out]; rfl, rfl⟩
def namB (op : Int) : Bool := op == 2 || op == 3 || op == 7
set_option maxRecDepth 100000 in
theorem tNamed_any (op : Int) (H : Bool) (hH : namB op = H) (w : World) : Calls Tryz.prog 118 #[.int .i64 op] w fun e w' => e = .returned (.bool H) ∧ w = w' := by
  subst hH
  by_cases h2 : op = 2
  · subst h2
    go_enter Tryz.func118, Tryz.ntmps118
    go_wp2
    go_ret
    exact ⟨rfl, rfl⟩
  by_cases h3 : op = 3
  · subst h3
    go_enter Tryz.func118, Tryz.ntmps118
    go_wp2
    go_ret
    exact ⟨rfl, rfl⟩
  by_cases h7 : op = 7
  · subst h7
    go_enter Tryz.func118, Tryz.ntmps118
    go_wp2
    go_ret
    exact ⟨rfl, rfl⟩
  have HH : Hid (namB op = false) := by show namB op = false; simp [namB, h2, h3, h7]
  have g1 : (op == 2) = false := by simp [h2]
  have g3 : (op == 3) = false := by simp [h3]
  have g4 : (op == 7) = false := by simp [h7]
  clear h2 h3 h7
  go_enter Tryz.func118, Tryz.ntmps118
  go_wp2
  go_ret
  exact ⟨by rw [HH.out]; rfl, rfl⟩
def exB (op : Int) : Bool := decide (1 ≤ op) && decide (op ≤ 6)
set_option maxRecDepth 100000 in
theorem tExpr_any (op : Int) (w : World) : Calls Tryz.prog 120 #[.int .i64 op] w fun e w' => e = .returned (.bool (exB op)) ∧ w = w' := by
  by_cases h1 : 1 ≤ op
  · by_cases h6 : op ≤ 6
    · have HH : Hid (exB op = true) := by show exB op = true; simp [exB, h1, h6]
      go_enter Tryz.func120, Tryz.ntmps120
      go_wp2
      go_ret
      exact ⟨by rw [HH.out]; rfl, rfl⟩
    · have HH : Hid (exB op = false) := by show exB op = false; simp [exB, h6]
      go_enter Tryz.func120, Tryz.ntmps120
      go_wp2
      go_ret
      exact ⟨by rw [HH.out]; rfl, rfl⟩
  · have HH : Hid (exB op = false) := by show exB op = false; simp [exB, h1]
    go_enter Tryz.func120, Tryz.ntmps120
    go_wp2
    go_ret
    exact ⟨by rw [HH.out]; rfl, rfl⟩

set_option maxRecDepth 100000 in
set_option maxHeartbeats 8000000 in
theorem tNode_any (x : Td) (w : World) (hs : x.tx.size ≤ 140737488351232) : Calls Tryz.prog 82 #[tdV x] w fun e w' => e = .returned (errN (nodT x)) ∧ Below w.heap.size w w' := by
  obtain ⟨op, tx, n⟩ := x
  have hs : tx.size ≤ 140737488351232 := hs
  have hb : ∀ O : Obj, Below w.heap.size w (w.alloc O) := fun O => (Below.refl _ w).alloc (Nat.le_refl _) O
  by_cases h0 : op < 1
  · have HE : Hid (nodT ⟨op, tx, n⟩ = 1) := nodT_0 h0
    have hg1 : grM op = 0 := by unfold grM; rw [if_neg (by omega), if_neg (by omega)]
    have hg2 : grH op = false := decide_eq_false (by omega)
    go_enter Tryz.func82, Tryz.ntmps82
    go_wp2_with fail
    refine (tGreat_any op 0 false hg1 hg2 _).mono ?_
    rintro e w2 ⟨rfl, rfl⟩
    go_wp2
    go_ret
    exact ⟨by rw [HE.out]; rfl, hb _⟩
  by_cases h1 : 9 < op
  · have HE : Hid (nodT ⟨op, tx, n⟩ = 1) := nodT_1 h0 h1
    have hg1 : grM op = 0 := by unfold grM; rw [if_neg (by omega), if_neg (by omega)]
    have hg2 : grH op = false := decide_eq_false (by omega)
    go_enter Tryz.func82, Tryz.ntmps82
    go_wp2_with fail
    refine (tGreat_any op 0 false hg1 hg2 _).mono ?_
    rintro e w2 ⟨rfl, rfl⟩
    go_wp2
    go_ret
    exact ⟨by rw [HE.out]; rfl, hb _⟩
  have hop : op = 1 ∨ op = 2 ∨ op = 3 ∨ op = 4 ∨ op = 5 ∨ op = 6 ∨ op = 7 ∨ op = 8 ∨ op = 9 := by omega
  clear h0 h1
  rcases hop with rfl | rfl | rfl | rfl | rfl | rfl | rfl | rfl | rfl
  · by_cases h0 : n < 0
    · have HE : Hid (nodT ⟨1, tx, n⟩ = 1) := nodT_2 h0
      go_enter Tryz.func82, Tryz.ntmps82
      go_wp2_with fail
      refine (tGreat_any 1 999999 true rfl rfl _).mono ?_
      rintro e w2 ⟨rfl, rfl⟩
      go_wp2
      go_ret
      exact ⟨by rw [HE.out]; rfl, hb _⟩
    · by_cases h1 : 999999 < n
      · have HE : Hid (nodT ⟨1, tx, n⟩ = 1) := nodT_3 h0 h1
        go_enter Tryz.func82, Tryz.ntmps82
        go_wp2_with fail
        refine (tGreat_any 1 999999 true rfl rfl _).mono ?_
        rintro e w2 ⟨rfl, rfl⟩
        go_wp2
        go_ret
        exact ⟨by rw [HE.out]; rfl, hb _⟩
      · by_cases h2 : 0 < (tx.size : Int)
        · have HE : Hid (nodT ⟨1, tx, n⟩ = 2) := nodT_4 h0 h1 h2
          have q1 := sizew_ne h2
          have q2 : (tx.toList != []) = true := by simp [bne, q1]
          go_enter Tryz.func82, Tryz.ntmps82
          go_wp2_with fail
          refine (tGreat_any 1 999999 true rfl rfl _).mono ?_
          rintro e w2 ⟨rfl, rfl⟩
          go_wp2_with fail
          refine (tNamed_any 1 false rfl _).mono ?_
          rintro e w2 ⟨rfl, rfl⟩
          go_wp2
          go_ret
          exact ⟨by rw [HE.out]; rfl, hb _⟩
        · have HE : Hid (nodT ⟨1, tx, n⟩ = 0) := nodT_5 h0 h1 h2
          have e0 := sizew_eq0 h2
          subst e0
          go_enter Tryz.func82, Tryz.ntmps82
          go_wp2_with fail
          refine (tGreat_any 1 999999 true rfl rfl _).mono ?_
          rintro e w2 ⟨rfl, rfl⟩
          go_wp2_with fail
          refine (tNamed_any 1 false rfl _).mono ?_
          rintro e w2 ⟨rfl, rfl⟩
          go_wp2_with fail
          refine (tNamed_any 1 false rfl _).mono ?_
          rintro e w2 ⟨rfl, rfl⟩
          go_wp2
          go_ret
          exact ⟨by rw [HE.out]; rfl, hb _⟩
  · by_cases h0 : n = 0
    · cases h1 : nameT tx with
      | true =>
        have HE : Hid (nodT ⟨2, tx, n⟩ = 0) := nodT_7 h0 h1
        subst h0
        have HM : Hid (nameT tx = true) := h1
        clear h1
        go_enter Tryz.func82, Tryz.ntmps82
        go_wp2_with fail
        refine (tGreat_any 2 0 false rfl rfl _).mono ?_
        rintro e w2 ⟨rfl, rfl⟩
        go_wp2_with fail
        refine (tNamed_any 2 true rfl _).mono ?_
        rintro e w2 ⟨rfl, rfl⟩
        go_wp2_with fail
        refine (tNamed_any 2 true rfl _).mono ?_
        rintro e w2 ⟨rfl, rfl⟩
        go_wp2_with fail
        refine (tIsName_any tx _).mono ?_
        rintro e w2 ⟨rfl, rfl⟩
        rw [HM.out]
        go_wp2
        go_ret
        exact ⟨by rw [HE.out]; rfl, hb _⟩
      | false =>
        have HE : Hid (nodT ⟨2, tx, n⟩ = 5) := nodT_8 h0 h1
        subst h0
        have HM : Hid (nameT tx = false) := h1
        clear h1
        go_enter Tryz.func82, Tryz.ntmps82
        go_wp2_with fail
        refine (tGreat_any 2 0 false rfl rfl _).mono ?_
        rintro e w2 ⟨rfl, rfl⟩
        go_wp2_with fail
        refine (tNamed_any 2 true rfl _).mono ?_
        rintro e w2 ⟨rfl, rfl⟩
        go_wp2_with fail
        refine (tNamed_any 2 true rfl _).mono ?_
        rintro e w2 ⟨rfl, rfl⟩
        go_wp2_with fail
        refine (tIsName_any tx _).mono ?_
        rintro e w2 ⟨rfl, rfl⟩
        rw [HM.out]
        go_wp2
        go_ret
        exact ⟨by rw [HE.out]; rfl, hb _⟩
    · have HE : Hid (nodT ⟨2, tx, n⟩ = 2) := nodT_6 h0
      have q3 : (n == 0) = false := by simp [h0]
      have q4 : (n != 0) = true := by simp [h0]
      go_enter Tryz.func82, Tryz.ntmps82
      go_wp2_with fail
      refine (tGreat_any 2 0 false rfl rfl _).mono ?_
      rintro e w2 ⟨rfl, rfl⟩
      go_wp2
      go_ret
      exact ⟨by rw [HE.out]; rfl, hb _⟩
  · by_cases h0 : n < 0
    · have HE : Hid (nodT ⟨3, tx, n⟩ = 1) := nodT_9 h0
      go_enter Tryz.func82, Tryz.ntmps82
      go_wp2_with fail
      refine (tGreat_any 3 6 true rfl rfl _).mono ?_
      rintro e w2 ⟨rfl, rfl⟩
      go_wp2
      go_ret
      exact ⟨by rw [HE.out]; rfl, hb _⟩
    · by_cases h1 : 6 < n
      · have HE : Hid (nodT ⟨3, tx, n⟩ = 1) := nodT_10 h0 h1
        go_enter Tryz.func82, Tryz.ntmps82
        go_wp2_with fail
        refine (tGreat_any 3 6 true rfl rfl _).mono ?_
        rintro e w2 ⟨rfl, rfl⟩
        go_wp2
        go_ret
        exact ⟨by rw [HE.out]; rfl, hb _⟩
      · cases h2 : nameT tx with
        | true =>
          have HE : Hid (nodT ⟨3, tx, n⟩ = 0) := nodT_11 h0 h1 h2
          have HM : Hid (nameT tx = true) := h2
          clear h2
          go_enter Tryz.func82, Tryz.ntmps82
          go_wp2_with fail
          refine (tGreat_any 3 6 true rfl rfl _).mono ?_
          rintro e w2 ⟨rfl, rfl⟩
          go_wp2_with fail
          refine (tNamed_any 3 true rfl _).mono ?_
          rintro e w2 ⟨rfl, rfl⟩
          go_wp2_with fail
          refine (tNamed_any 3 true rfl _).mono ?_
          rintro e w2 ⟨rfl, rfl⟩
          go_wp2_with fail
          refine (tIsName_any tx _).mono ?_
          rintro e w2 ⟨rfl, rfl⟩
          rw [HM.out]
          go_wp2
          go_ret
          exact ⟨by rw [HE.out]; rfl, hb _⟩
        | false =>
          have HE : Hid (nodT ⟨3, tx, n⟩ = 5) := nodT_12 h0 h1 h2
          have HM : Hid (nameT tx = false) := h2
          clear h2
          go_enter Tryz.func82, Tryz.ntmps82
          go_wp2_with fail
          refine (tGreat_any 3 6 true rfl rfl _).mono ?_
          rintro e w2 ⟨rfl, rfl⟩
          go_wp2_with fail
          refine (tNamed_any 3 true rfl _).mono ?_
          rintro e w2 ⟨rfl, rfl⟩
          go_wp2_with fail
          refine (tNamed_any 3 true rfl _).mono ?_
          rintro e w2 ⟨rfl, rfl⟩
          go_wp2_with fail
          refine (tIsName_any tx _).mono ?_
          rintro e w2 ⟨rfl, rfl⟩
          rw [HM.out]
          go_wp2
          go_ret
          exact ⟨by rw [HE.out]; rfl, hb _⟩
  · by_cases h0 : n < 0
    · have HE : Hid (nodT ⟨4, tx, n⟩ = 1) := nodT_13 h0
      go_enter Tryz.func82, Tryz.ntmps82
      go_wp2_with fail
      refine (tGreat_any 4 6 true rfl rfl _).mono ?_
      rintro e w2 ⟨rfl, rfl⟩
      go_wp2
      go_ret
      exact ⟨by rw [HE.out]; rfl, hb _⟩
    · by_cases h1 : 6 < n
      · have HE : Hid (nodT ⟨4, tx, n⟩ = 1) := nodT_14 h0 h1
        go_enter Tryz.func82, Tryz.ntmps82
        go_wp2_with fail
        refine (tGreat_any 4 6 true rfl rfl _).mono ?_
        rintro e w2 ⟨rfl, rfl⟩
        go_wp2
        go_ret
        exact ⟨by rw [HE.out]; rfl, hb _⟩
      · by_cases h2 : 0 < (tx.size : Int)
        · have HE : Hid (nodT ⟨4, tx, n⟩ = 2) := nodT_15 h0 h1 h2
          have q1 := sizew_ne h2
          have q2 : (tx.toList != []) = true := by simp [bne, q1]
          go_enter Tryz.func82, Tryz.ntmps82
          go_wp2_with fail
          refine (tGreat_any 4 6 true rfl rfl _).mono ?_
          rintro e w2 ⟨rfl, rfl⟩
          go_wp2_with fail
          refine (tNamed_any 4 false rfl _).mono ?_
          rintro e w2 ⟨rfl, rfl⟩
          go_wp2
          go_ret
          exact ⟨by rw [HE.out]; rfl, hb _⟩
        · have HE : Hid (nodT ⟨4, tx, n⟩ = 0) := nodT_16 h0 h1 h2
          have e0 := sizew_eq0 h2
          subst e0
          go_enter Tryz.func82, Tryz.ntmps82
          go_wp2_with fail
          refine (tGreat_any 4 6 true rfl rfl _).mono ?_
          rintro e w2 ⟨rfl, rfl⟩
          go_wp2_with fail
          refine (tNamed_any 4 false rfl _).mono ?_
          rintro e w2 ⟨rfl, rfl⟩
          go_wp2_with fail
          refine (tNamed_any 4 false rfl _).mono ?_
          rintro e w2 ⟨rfl, rfl⟩
          go_wp2
          go_ret
          exact ⟨by rw [HE.out]; rfl, hb _⟩
  · by_cases h0 : n = 0
    · by_cases h1 : 0 < (tx.size : Int)
      · have HE : Hid (nodT ⟨5, tx, n⟩ = 2) := nodT_18 h0 h1
        subst h0
        have q1 := sizew_ne h1
        have q2 : (tx.toList != []) = true := by simp [bne, q1]
        go_enter Tryz.func82, Tryz.ntmps82
        go_wp2_with fail
        refine (tGreat_any 5 0 false rfl rfl _).mono ?_
        rintro e w2 ⟨rfl, rfl⟩
        go_wp2_with fail
        refine (tNamed_any 5 false rfl _).mono ?_
        rintro e w2 ⟨rfl, rfl⟩
        go_wp2
        go_ret
        exact ⟨by rw [HE.out]; rfl, hb _⟩
      · have HE : Hid (nodT ⟨5, tx, n⟩ = 0) := nodT_19 h0 h1
        subst h0
        have e0 := sizew_eq0 h1
        subst e0
        go_enter Tryz.func82, Tryz.ntmps82
        go_wp2_with fail
        refine (tGreat_any 5 0 false rfl rfl _).mono ?_
        rintro e w2 ⟨rfl, rfl⟩
        go_wp2_with fail
        refine (tNamed_any 5 false rfl _).mono ?_
        rintro e w2 ⟨rfl, rfl⟩
        go_wp2_with fail
        refine (tNamed_any 5 false rfl _).mono ?_
        rintro e w2 ⟨rfl, rfl⟩
        go_wp2
        go_ret
        exact ⟨by rw [HE.out]; rfl, hb _⟩
    · have HE : Hid (nodT ⟨5, tx, n⟩ = 2) := nodT_17 h0
      have q3 : (n == 0) = false := by simp [h0]
      have q4 : (n != 0) = true := by simp [h0]
      go_enter Tryz.func82, Tryz.ntmps82
      go_wp2_with fail
      refine (tGreat_any 5 0 false rfl rfl _).mono ?_
      rintro e w2 ⟨rfl, rfl⟩
      go_wp2
      go_ret
      exact ⟨by rw [HE.out]; rfl, hb _⟩
  · by_cases h0 : n = 0
    · by_cases h1 : 0 < (tx.size : Int)
      · have HE : Hid (nodT ⟨6, tx, n⟩ = 2) := nodT_21 h0 h1
        subst h0
        have q1 := sizew_ne h1
        have q2 : (tx.toList != []) = true := by simp [bne, q1]
        go_enter Tryz.func82, Tryz.ntmps82
        go_wp2_with fail
        refine (tGreat_any 6 0 false rfl rfl _).mono ?_
        rintro e w2 ⟨rfl, rfl⟩
        go_wp2_with fail
        refine (tNamed_any 6 false rfl _).mono ?_
        rintro e w2 ⟨rfl, rfl⟩
        go_wp2
        go_ret
        exact ⟨by rw [HE.out]; rfl, hb _⟩
      · have HE : Hid (nodT ⟨6, tx, n⟩ = 0) := nodT_22 h0 h1
        subst h0
        have e0 := sizew_eq0 h1
        subst e0
        go_enter Tryz.func82, Tryz.ntmps82
        go_wp2_with fail
        refine (tGreat_any 6 0 false rfl rfl _).mono ?_
        rintro e w2 ⟨rfl, rfl⟩
        go_wp2_with fail
        refine (tNamed_any 6 false rfl _).mono ?_
        rintro e w2 ⟨rfl, rfl⟩
        go_wp2_with fail
        refine (tNamed_any 6 false rfl _).mono ?_
        rintro e w2 ⟨rfl, rfl⟩
        go_wp2
        go_ret
        exact ⟨by rw [HE.out]; rfl, hb _⟩
    · have HE : Hid (nodT ⟨6, tx, n⟩ = 2) := nodT_20 h0
      have q3 : (n == 0) = false := by simp [h0]
      have q4 : (n != 0) = true := by simp [h0]
      go_enter Tryz.func82, Tryz.ntmps82
      go_wp2_with fail
      refine (tGreat_any 6 0 false rfl rfl _).mono ?_
      rintro e w2 ⟨rfl, rfl⟩
      go_wp2
      go_ret
      exact ⟨by rw [HE.out]; rfl, hb _⟩
  · by_cases h0 : n = 0
    · cases h1 : nameT tx with
      | true =>
        have HE : Hid (nodT ⟨7, tx, n⟩ = 0) := nodT_24 h0 h1
        subst h0
        have HM : Hid (nameT tx = true) := h1
        clear h1
        go_enter Tryz.func82, Tryz.ntmps82
        go_wp2_with fail
        refine (tGreat_any 7 0 false rfl rfl _).mono ?_
        rintro e w2 ⟨rfl, rfl⟩
        go_wp2_with fail
        refine (tNamed_any 7 true rfl _).mono ?_
        rintro e w2 ⟨rfl, rfl⟩
        go_wp2_with fail
        refine (tNamed_any 7 true rfl _).mono ?_
        rintro e w2 ⟨rfl, rfl⟩
        go_wp2_with fail
        refine (tIsName_any tx _).mono ?_
        rintro e w2 ⟨rfl, rfl⟩
        rw [HM.out]
        go_wp2
        go_ret
        exact ⟨by rw [HE.out]; rfl, hb _⟩
      | false =>
        have HE : Hid (nodT ⟨7, tx, n⟩ = 5) := nodT_25 h0 h1
        subst h0
        have HM : Hid (nameT tx = false) := h1
        clear h1
        go_enter Tryz.func82, Tryz.ntmps82
        go_wp2_with fail
        refine (tGreat_any 7 0 false rfl rfl _).mono ?_
        rintro e w2 ⟨rfl, rfl⟩
        go_wp2_with fail
        refine (tNamed_any 7 true rfl _).mono ?_
        rintro e w2 ⟨rfl, rfl⟩
        go_wp2_with fail
        refine (tNamed_any 7 true rfl _).mono ?_
        rintro e w2 ⟨rfl, rfl⟩
        go_wp2_with fail
        refine (tIsName_any tx _).mono ?_
        rintro e w2 ⟨rfl, rfl⟩
        rw [HM.out]
        go_wp2
        go_ret
        exact ⟨by rw [HE.out]; rfl, hb _⟩
    · have HE : Hid (nodT ⟨7, tx, n⟩ = 2) := nodT_23 h0
      have q3 : (n == 0) = false := by simp [h0]
      have q4 : (n != 0) = true := by simp [h0]
      go_enter Tryz.func82, Tryz.ntmps82
      go_wp2_with fail
      refine (tGreat_any 7 0 false rfl rfl _).mono ?_
      rintro e w2 ⟨rfl, rfl⟩
      go_wp2
      go_ret
      exact ⟨by rw [HE.out]; rfl, hb _⟩
  · by_cases h0 : n = 0
    · by_cases h1 : 0 < (tx.size : Int)
      · have HE : Hid (nodT ⟨8, tx, n⟩ = 2) := nodT_27 h0 h1
        subst h0
        have q1 := sizew_ne h1
        have q2 : (tx.toList != []) = true := by simp [bne, q1]
        go_enter Tryz.func82, Tryz.ntmps82
        go_wp2_with fail
        refine (tGreat_any 8 0 false rfl rfl _).mono ?_
        rintro e w2 ⟨rfl, rfl⟩
        go_wp2_with fail
        refine (tNamed_any 8 false rfl _).mono ?_
        rintro e w2 ⟨rfl, rfl⟩
        go_wp2
        go_ret
        exact ⟨by rw [HE.out]; rfl, hb _⟩
      · have HE : Hid (nodT ⟨8, tx, n⟩ = 0) := nodT_28 h0 h1
        subst h0
        have e0 := sizew_eq0 h1
        subst e0
        go_enter Tryz.func82, Tryz.ntmps82
        go_wp2_with fail
        refine (tGreat_any 8 0 false rfl rfl _).mono ?_
        rintro e w2 ⟨rfl, rfl⟩
        go_wp2_with fail
        refine (tNamed_any 8 false rfl _).mono ?_
        rintro e w2 ⟨rfl, rfl⟩
        go_wp2_with fail
        refine (tNamed_any 8 false rfl _).mono ?_
        rintro e w2 ⟨rfl, rfl⟩
        go_wp2
        go_ret
        exact ⟨by rw [HE.out]; rfl, hb _⟩
    · have HE : Hid (nodT ⟨8, tx, n⟩ = 2) := nodT_26 h0
      have q3 : (n == 0) = false := by simp [h0]
      have q4 : (n != 0) = true := by simp [h0]
      go_enter Tryz.func82, Tryz.ntmps82
      go_wp2_with fail
      refine (tGreat_any 8 0 false rfl rfl _).mono ?_
      rintro e w2 ⟨rfl, rfl⟩
      go_wp2
      go_ret
      exact ⟨by rw [HE.out]; rfl, hb _⟩
  · by_cases h0 : n = 0
    · have HE : Hid (nodT ⟨9, tx, n⟩ = noteF tx) := by
        show _ = _
        by_cases h : noteF tx = 0
        · rw [nodT_30 h0 h, h]
        · exact nodT_31 h0 h
      subst h0
      go_enter Tryz.func82, Tryz.ntmps82
      go_wp2_with fail
      refine (tGreat_any 9 0 false rfl rfl _).mono ?_
      rintro e w2 ⟨rfl, rfl⟩
      go_wp2_with fail
      refine (tWords_any tx _ hs).mono ?_
      rintro e w2 ⟨A, ws, c, rfl, hW, hE, b2⟩
      have B2 : Below w.heap.size w w2 := belowA (Below.refl _ _) (Nat.le_refl _) b2
      clear b2
      go_wp2_with fail
      refine (xCheck_any ws A c _ hW).mono ?_
      rintro e w3 ⟨rfl, rfl⟩
      rw [hE, ← HE.out]
      go_wp2
      go_ret
      exact ⟨rfl, B2⟩
    · have HE : Hid (nodT ⟨9, tx, n⟩ = 2) := nodT_29 h0
      have q3 : (n == 0) = false := by simp [h0]
      have q4 : (n != 0) = true := by simp [h0]
      go_enter Tryz.func82, Tryz.ntmps82
      go_wp2_with fail
      refine (tGreat_any 9 0 false rfl rfl _).mono ?_
      rintro e w2 ⟨rfl, rfl⟩
      go_wp2
      go_ret
      exact ⟨by rw [HE.out]; rfl, hb _⟩
end Go.Proofs.YtmbeamcjpidnjaaGreatDoor
