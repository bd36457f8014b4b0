/- The iterator over a text's lines: for every loop body. -/
import Derived.RangeFuncNested
import Derived.RangeFuncBound
import Derived.RangeFuncCalls
import Derived.RangeFuncLeaves
import Derived.Shelf.Abstract
import Derived.Shelf.RegionOpen
import Derived.WalkKit
import Derived.OwnWalkIn
import Derived.TacticsInMore
import Derived.LoopNIn
import Derived.LoopIn
import Derived.Test.YtppdaldobmlooaaDoorCutA
import Derived.Test.YtppdaldobmlooaaDoorPlain
namespace Go.Proofs.YtppdaldobmlooaaDoor
open Go Go.RowKit Go.Shelf
attribute [local go_sem] Oper.semAt_some

set_option maxRecDepth 100000 in
set_option maxHeartbeats 1000000 in
theorem cut_miss (s : ByteArray) (w : World) (h : Lib.indexByte s.data.toList 10 = -1) :
    Calls Tryd.prog 17 #[.string s, .string ⟨#[10]⟩] w fun e w' => e = .returned (.tuple #[.string s, .string ⟨#[]⟩, .bool false]) ∧ ∃ n, w' = w.drewN n := by
  go_enter Tryd.func17, Tryd.ntmps17
  go_wp2_with (go_at_call 22; refine (cut12_miss _ _ h).mono ?_; rintro e w' ⟨rfl, n, rfl⟩)
  go_ret3
  exact ⟨rfl, n, rfl⟩

set_option maxRecDepth 100000 in
set_option maxHeartbeats 1000000 in
theorem cut_hit (s : ByteArray) (w : World) (i : Nat) (h : Lib.indexByte s.data.toList 10 = i) (hi : i + 1 ≤ s.size) (hb : s.size ≤ 100000000) :
    Calls Tryd.prog 17 #[.string s, .string ⟨#[10]⟩] w fun e w' => e = .returned (.tuple #[.string (s.extract 0 i), .string (s.extract (i + 1) s.size), .bool true]) ∧ ∃ n, w' = w.drewN n := by
  go_enter Tryd.func17, Tryd.ntmps17
  go_wp2_with (go_at_call 22; refine (cut12_hit _ _ _ h hi hb).mono ?_; rintro e w' ⟨rfl, n, rfl⟩)
  go_ret3
  exact ⟨rfl, n, rfl⟩

/-- A line: a string that is not too long. -/
abbrev LnT := { x : ByteArray // x.size ≤ 100000000 }
abbrev lnEnc (x : LnT) : Array Value := #[.string x.1]

/-- What is left to do, by the loop's variables. -/
def lft : Value → Value → Nat
  | .string q, .bool true => q.size + 1
  | _, _ => 0

theorem grown_drewN (w : World) (n : Nat) (row : Option Nat) : w.grownBy (w.drewN n) row := ⟨rfl, rfl, rfl, Nat.le_refl _, fun _ _ _ => rfl⟩

set_option maxRecDepth 100000 in
set_option maxHeartbeats 2000000 in
theorem lines1_in (F : Fence) (n : Nat) (hF : ∀ f, F.fn f) (hro : F.round = none) (hn : 1 ≤ n)
    (hmiss : ∀ s w, Lib.indexByte s.data.toList 10 = -1 → CallsIn F (n - 1) Tryd.prog 17 #[.string s, .string ⟨#[10]⟩] w fun e w' => e = .returned (.tuple #[.string s, .string ⟨#[]⟩, .bool false]) ∧ ∃ n, w' = w.drewN n)
    (hhit : ∀ (s : ByteArray) w (i : Nat), Lib.indexByte s.data.toList 10 = i → i + 1 ≤ s.size → s.size ≤ 100000000 → CallsIn F (n - 1) Tryd.prog 17 #[.string s, .string ⟨#[10]⟩] w fun e w' => e = .returned (.tuple #[.string (s.extract 0 i), .string (s.extract (i + 1) s.size), .bool true]) ∧ ∃ n, w' = w.drewN n)
    (l Bn n₀ : Nat) (s : ByteArray) (hs : s.size ≤ 100000000) (J Jx : List LnT → World → Prop)
    (W : World) (hJ : AbidesFrom W.heap.size J)
    (hY : ∀ pre x W1, J pre W1 → pre.length < (lnsB s).length → YieldAt F (n - 1) Tryd.prog l (lnEnc x) W1 fun e W' =>
      (e = .returned (.bool true) ∧ J (pre ++ [x]) W' ∧ Below n₀ W1 W') ∨ (e = .returned (.bool false) ∧ Jx (pre ++ [x]) W'))
    (hBn : W.cell? ⟨Bn, 0, none⟩ = some (.string s)) (h0 : J [] W) :
    CallsIn F n Tryd.prog 16 #[.func (.yield l) #[] #[], .pointer (some ⟨Bn, 0, none⟩)] W fun e W' => (∃ v, e = .returned v) ∧
      ((∃ ys : List LnT, ys.map (·.1) = lnsB s ∧ J ys W') ∨ (∃ pre : List LnT, pre.map (·.1) <+: lnsB s ∧ Jx pre W')) := by
  refine callsIn_of_wp Tryd.func16 rfl (hF 16) ?_ hro
  simp only [Tryd.ntmps16, List.size_toArray, List.length_cons, List.length_nil, Nat.reduceAdd, Nat.reduceSub, Array.replicate_succ, Array.replicate_zero, List.push_toArray, List.append_toArray, List.nil_append, List.cons_append]
  gi_wp2
  gi_loopw [3, 4] (fun r f wr => ∃ (pre : List LnT) (q : ByteArray) (b : Bool), r = .string q ∧ f = .bool b ∧ q.size ≤ 100000000 ∧ lnsB s = pre.map (·.1) ++ (if b then lnsB q else []) ∧ J pre wr ∧ W.heap.size ≤ wr.heap.size)
    (fun r f _ => lft r f)
  case atStart =>
    exact ⟨[], s, true, rfl, rfl, hs, by simp, h0, Nat.le_refl _⟩
  case round =>
    obtain ⟨pre, q, b, rfl, rfl, hq, hx, hJs, hsz⟩ := hrel
    cases b with
    | false =>
      gi_wp2
      go_end0
      exact ⟨⟨_, rfl⟩, .inl ⟨pre, by simpa using hx.symm, hJs⟩⟩
    | true =>
      simp only [if_true] at hx
      rcases ib_cases q.data.toList with hi | ⟨i, hi⟩
      · have hl := lnsB_miss q hi
        have HX : Hid (lnsB s = pre.map (·.1) ++ [q]) := by rw [← hl]; exact hx
        clear hx hl
        gi_wp2_with fail
        refine (hmiss q wr hi).mono ?_
        rintro e w1 ⟨rfl, k, rfl⟩
        have hJ2 : J pre (wr.drewN k) := hJ _ _ _ none hJs (grown_drewN _ _ _) (by simp)
        obtain ⟨fn, tmps, assign, body, hy, hR⟩ := hY pre ⟨q, hq⟩ _ hJ2 (by rw [HX.out]; simp)
        dsimp only [lnEnc] at hy
        gi_wp2
        refine hR.mono ?_
        rintro e W3 (⟨rfl, hJ3, hk3⟩ | ⟨rfl, hJx3⟩)
        · gi_wp2
          go_roundw
          case rel => exact ⟨pre ++ [⟨q, hq⟩], ⟨#[]⟩, false, rfl, rfl, Nat.zero_le _, by rw [HX.out]; simp, hJ3, Nat.le_trans hsz hk3.size⟩
          case measure => simp [lft]
        · gi_wp2
          refine bodyPost_ret (results_none rfl _ _ _) rfl ?_
          exact ⟨⟨_, rfl⟩, .inr ⟨pre ++ [⟨q, hq⟩], by rw [HX.out]; simp, hJx3⟩⟩
      · obtain ⟨hi1, hl⟩ := lnsB_hit q i hi
        have HX : Hid (lnsB s = pre.map (·.1) ++ (q.extract 0 i :: lnsB (q.extract (i + 1) q.size))) := by rw [← hl]; exact hx
        clear hx hl
        have hq1 : (q.extract 0 i).size ≤ 100000000 := by simp; omega
        have hq2 : (q.extract (i + 1) q.size).size ≤ 100000000 := by simp; omega
        have hm : (q.extract (i + 1) q.size).size < q.size := by simp; omega
        gi_wp2_with fail
        refine (hhit q wr i hi hi1 hq).mono ?_
        rintro e w1 ⟨rfl, k, rfl⟩
        have hJ2 : J pre (wr.drewN k) := hJ _ _ _ none hJs (grown_drewN _ _ _) (by simp)
        obtain ⟨fn, tmps, assign, body, hy, hR⟩ := hY pre ⟨q.extract 0 i, hq1⟩ _ hJ2 (by rw [HX.out]; simp)
        dsimp only [lnEnc] at hy
        gi_wp2
        refine hR.mono ?_
        rintro e W3 (⟨rfl, hJ3, hk3⟩ | ⟨rfl, hJx3⟩)
        · gi_wp2
          go_roundw
          case rel => exact ⟨pre ++ [⟨q.extract 0 i, hq1⟩], q.extract (i + 1) q.size, true, rfl, rfl, hq2, by rw [HX.out]; simp, hJ3, Nat.le_trans hsz hk3.size⟩
          case measure => simp only [lft]; omega
        · gi_wp2
          refine bodyPost_ret (results_none rfl _ _ _) rfl ?_
          exact ⟨⟨_, rfl⟩, .inr ⟨pre ++ [⟨q.extract 0 i, hq1⟩], by rw [HX.out]; exact ⟨lnsB (q.extract (i + 1) q.size), by simp⟩, hJx3⟩⟩

theorem lines_stops (n : Nat) (hn : 1 ≤ n) (Bn n₀ : Nat) (s : ByteArray) (hs : s.size ≤ 100000000) (w : World) (hBn : Bn < w.heap.size) (hc : w.cell? ⟨Bn, 0, none⟩ = some (.string s)) :
    SeqStopsK Fence.wide n Tryd.prog 16 #[.pointer (some ⟨Bn, 0, none⟩)] lnEnc (Below n₀) (fun ys => ys.map (·.1) = lnsB s) (fun pre => pre.map (·.1) <+: lnsB s) (lnsB s).length w := fun l J Jx W hW hJ _ hY h0 =>
  lines1_in Fence.wide n (fun _ => trivial) rfl hn (fun s w h => callsIn_wide.2 (cut_miss s w h)) (fun s w i h1 h2 h3 => callsIn_wide.2 (cut_hit s w i h1 h2 h3)) l Bn n₀ s hs J Jx W hJ hY ((hW.cell (p := ⟨Bn, 0, none⟩) hBn).trans hc) h0

set_option maxRecDepth 100000 in
theorem lines_any (s : ByteArray) (w : World) :
    Calls Tryd.prog 13 #[.string s] w fun e w' => e = .returned (.func (.func 16) #[] #[.pointer (some ⟨w.heap.size, 0, none⟩)]) ∧ w' = w.alloc (.cells #[.string s] 9) := by
  go_enter Tryd.func13, Tryd.ntmps13
  go_wp2
  go_ret
  exact ⟨rfl, rfl⟩
end Go.Proofs.YtppdaldobmlooaaDoor
