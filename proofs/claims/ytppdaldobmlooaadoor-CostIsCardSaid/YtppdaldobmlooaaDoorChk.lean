/- check, Less and Add: what they hand back. -/
import Derived.Test.YtppdaldobmlooaaDoorBase
namespace Go.Proofs.YtppdaldobmlooaaDoor
open Go Go.RowKit

/-- A number that may be part of a cost. -/
def fitB (n : Int) : Bool := decide (0 ≤ n) && decide (n ≤ 1000000)
def okC (c : Int × Int) : Bool := fitB c.1 && fitB c.2

theorem fitB_true {n : Int} (h : fitB n = true) : 0 ≤ n ∧ n ≤ 1000000 := by simpa [fitB] using h
theorem fitB_false {n : Int} (h : fitB n = false) : n < 0 ∨ (0 ≤ n ∧ 1000000 < n) := by
  simp [fitB] at h
  omega

set_option maxRecDepth 100000 in
theorem fits_any (n : Int) (w : World) : Calls Tryd.prog 14 #[.int .i64 n] w fun e w' => e = .returned (.bool (fitB n)) ∧ w = w' := by
  cases h : fitB n with
  | true =>
    obtain ⟨h1, h2⟩ := fitB_true h
    clear h
    go_enter Tryd.func14, Tryd.ntmps14
    go_wp2
    go_ret
    exact ⟨rfl, rfl⟩
  | false =>
    rcases fitB_false h with h1 | ⟨h1, h2⟩
    · have h1' : ¬ 0 ≤ n := by omega
      clear h
      go_enter Tryd.func14, Tryd.ntmps14
      go_wp2
      go_ret
      exact ⟨rfl, rfl⟩
    · have h2' : ¬ n ≤ 1000000 := by omega
      clear h
      go_enter Tryd.func14, Tryd.ntmps14
      go_wp2
      go_ret
      exact ⟨rfl, rfl⟩

set_option maxRecDepth 100000 in
set_option maxHeartbeats 1000000 in
theorem check_any (cs : List (Int × Int)) (B : Nat) (w : World) (hB : B < w.heap.size) (hlen : cs.length ≤ 2)
    (hc : ∀ j (h : j < cs.length), w.cell? ⟨B, j * 2, none⟩ = some (.int .i64 cs[j].1) ∧ w.cell? ⟨B, j * 2 + 1, none⟩ = some (.int .i64 cs[j].2)) :
    Calls Tryd.prog 11 #[.slice (some ⟨B, 0, none⟩) cs.length cs.length] w fun e w' => ((∃ c ∈ cs, okC c = false) ∧ e = .returned (.iface 24 (.int .i64 1)) ∨ (∀ c ∈ cs, okC c = true) ∧ e = .returned .nilIface) ∧ Below w.heap.size w w' := by
  go_enter Tryd.func11, Tryd.ntmps11
  go_wp2
  go_loopw [7] (fun i wr => ∃ k : Nat, k ≤ cs.length ∧ i = .int .i64 k ∧ (∀ c ∈ cs.take k, okC c = true) ∧ Below w.heap.size w wr) (fun i _ => cs.length - (intOf i).toNat)
  case atStart => exact ⟨0, Nat.zero_le _, rfl, by simp, Below.refl _ _⟩
  case round =>
    obtain ⟨k, hk, rfl, hall, hb⟩ := hrel
    by_cases hlt : k < cs.length
    · have c1 := (hc k hlt).1
      have c2 := (hc k hlt).2
      have d1 : wr.cell? ⟨B, k * 2, none⟩ = some (.int .i64 cs[k].1) := (hb.cell (p := ⟨B, k * 2, none⟩) hB).trans c1
      have d2 : wr.cell? ⟨B, k * 2 + 1, none⟩ = some (.int .i64 cs[k].2) := (hb.cell (p := ⟨B, k * 2 + 1, none⟩) hB).trans c2
      clear c1 c2 hc
      have hbw : w.heap.size ≤ wr.heap.size := hb.size
      have hbx : Below w.heap.size w (wr.alloc (.cells #[.int .i64 cs[k].1, .int .i64 cs[k].2] 23)) := hb.alloc hbw _
      cases f1 : fitB cs[k].1 with
      | false =>
        go_wp2_with (go_at_call 14; refine (fits_any _ _).mono ?_; rintro e w' ⟨rfl, rfl⟩)
        go_ret
        exact ⟨.inl ⟨⟨cs[k], List.getElem_mem hlt, by simp [okC, f1]⟩, rfl⟩, hbx⟩
      | true =>
        cases f2 : fitB cs[k].2 with
        | false =>
          go_wp2_with (go_at_call 14; refine (fits_any _ _).mono ?_; rintro e w' ⟨rfl, rfl⟩)
          go_ret
          exact ⟨.inl ⟨⟨cs[k], List.getElem_mem hlt, by simp [okC, f2]⟩, rfl⟩, hbx⟩
        | true =>
          go_wp2_with (go_at_call 14; refine (fits_any _ _).mono ?_; rintro e w' ⟨rfl, rfl⟩)
          go_roundw
          case rel =>
            refine ⟨k + 1, by omega, by go_num, ?_, hbx⟩
            intro c hcm
            rw [List.take_succ_eq_append_getElem hlt] at hcm
            rcases List.mem_append.1 hcm with h | h
            · exact hall c h
            · simp at h; subst h; simp [okC, f1, f2]
          case measure => simp [intOf]; omega
    · go_wp2
      go_ret
      exact ⟨.inr ⟨fun c hcm => hall c (by rw [List.take_of_length_le (by omega)]; exact hcm), rfl⟩, hb⟩

theorem check2_ok (a b : Int × Int) (B : Nat) (w : World) (hB : B < w.heap.size) (ha : okC a = true) (hb : okC b = true)
    (h0 : w.cell? ⟨B, 0, none⟩ = some (.int .i64 a.1)) (h1 : w.cell? ⟨B, 1, none⟩ = some (.int .i64 a.2)) (h2 : w.cell? ⟨B, 2, none⟩ = some (.int .i64 b.1)) (h3 : w.cell? ⟨B, 3, none⟩ = some (.int .i64 b.2)) :
    Calls Tryd.prog 11 #[.slice (some ⟨B, 0, none⟩) 2 2] w fun e w' => e = .returned .nilIface ∧ Below w.heap.size w w' := by
  refine (check_any [a, b] B w hB (by simp) ?_).mono ?_
  · intro j hj
    match j, hj with
    | 0, _ => exact ⟨h0, h1⟩
    | 1, _ => exact ⟨h2, h3⟩
  · rintro e w' ⟨⟨⟨c, hc, hf⟩, he⟩ | ⟨_, he⟩, hB⟩
    · simp at hc
      rcases hc with rfl | rfl
      · rw [ha] at hf; cases hf
      · rw [hb] at hf; cases hf
    · exact ⟨he, hB⟩

theorem check2_no (a b : Int × Int) (B : Nat) (w : World) (hB : B < w.heap.size) (hn : (okC a && okC b) = false)
    (h0 : w.cell? ⟨B, 0, none⟩ = some (.int .i64 a.1)) (h1 : w.cell? ⟨B, 1, none⟩ = some (.int .i64 a.2)) (h2 : w.cell? ⟨B, 2, none⟩ = some (.int .i64 b.1)) (h3 : w.cell? ⟨B, 3, none⟩ = some (.int .i64 b.2)) :
    Calls Tryd.prog 11 #[.slice (some ⟨B, 0, none⟩) 2 2] w fun e w' => e = .returned (.iface 24 (.int .i64 1)) ∧ Below w.heap.size w w' := by
  refine (check_any [a, b] B w hB (by simp) ?_).mono ?_
  · intro j hj
    match j, hj with
    | 0, _ => exact ⟨h0, h1⟩
    | 1, _ => exact ⟨h2, h3⟩
  · rintro e w' ⟨⟨_, he⟩ | ⟨hall, he⟩, hB⟩
    · exact ⟨he, hB⟩
    · rw [hall a (by simp), hall b (by simp)] at hn; cases hn

theorem check1_ok (a : Int × Int) (B : Nat) (w : World) (hB : B < w.heap.size) (ha : okC a = true)
    (h0 : w.cell? ⟨B, 0, none⟩ = some (.int .i64 a.1)) (h1 : w.cell? ⟨B, 1, none⟩ = some (.int .i64 a.2)) :
    Calls Tryd.prog 11 #[.slice (some ⟨B, 0, none⟩) 1 1] w fun e w' => e = .returned .nilIface ∧ Below w.heap.size w w' := by
  refine (check_any [a] B w hB (by simp) ?_).mono ?_
  · intro j hj
    match j, hj with
    | 0, _ => exact ⟨h0, h1⟩
  · rintro e w' ⟨⟨⟨c, hc, hf⟩, he⟩ | ⟨_, he⟩, hB⟩
    · simp at hc
      subst hc
      rw [ha] at hf; cases hf
    · exact ⟨he, hB⟩

theorem check1_no (a : Int × Int) (B : Nat) (w : World) (hB : B < w.heap.size) (hn : okC a = false)
    (h0 : w.cell? ⟨B, 0, none⟩ = some (.int .i64 a.1)) (h1 : w.cell? ⟨B, 1, none⟩ = some (.int .i64 a.2)) :
    Calls Tryd.prog 11 #[.slice (some ⟨B, 0, none⟩) 1 1] w fun e w' => e = .returned (.iface 24 (.int .i64 1)) ∧ Below w.heap.size w w' := by
  refine (check_any [a] B w hB (by simp) ?_).mono ?_
  · intro j hj
    match j, hj with
    | 0, _ => exact ⟨h0, h1⟩
  · rintro e w' ⟨⟨_, he⟩ | ⟨hall, he⟩, hB⟩
    · exact ⟨he, hB⟩
    · rw [hall a (by simp)] at hn; cases hn

abbrev costV (a : Int × Int) : Value := .agg #[.int .i64 a.1, .int .i64 a.2]

/-- One cost is less than another one. -/
def lessB (a b : Int × Int) : Bool := if a.1 = b.1 then decide (a.2 < b.2) else decide (a.1 < b.1)


theorem below3 {w w1 : World} {A B C : Obj} (hb : Below (((w.alloc A).alloc B).alloc C).heap.size (((w.alloc A).alloc B).alloc C) w1) : Below w.heap.size w w1 :=
  ((((Below.refl _ _).alloc (Nat.le_refl _) _).alloc (by simp) _).alloc (by simp; omega) _).trans (hb.mono (by simp; omega))

set_option maxRecDepth 100000 in
set_option maxHeartbeats 1000000 in
theorem less_no (a b : Int × Int) (w : World) (hn : (okC a && okC b) = false) :
    Calls Tryd.prog 6 #[costV a, costV b] w fun e w' => e = .returned (.tuple #[.bool false, .iface 24 (.int .i64 1)]) ∧ Below w.heap.size w w' := by
  have HN : Hid ((okC a && okC b) = false) := hn
  clear hn
  go_enter Tryd.func6, Tryd.ntmps6
  go_wp2_with fail
  refine (check2_no a b (w.heap.size + 1 + 1) _ (by simp) HN.out (by simp [go_sem]) (by simp [go_sem]) (by simp [go_sem]) (by simp [go_sem])).mono ?_
  rintro e w1 ⟨rfl, hb1⟩
  have hbw := below3 hb1
  clear hb1
  go_wp2
  go_ret2
  exact ⟨rfl, hbw⟩

set_option maxRecDepth 100000 in
set_option maxHeartbeats 1000000 in
theorem less_ok (a b : Int × Int) (w : World) (ha : okC a = true) (hb : okC b = true) :
    Calls Tryd.prog 6 #[costV a, costV b] w fun e w' => e = .returned (.tuple #[.bool (lessB a b), .nilIface]) ∧ Below w.heap.size w w' := by
  have HA : Hid (okC a = true) := ha
  have HB : Hid (okC b = true) := hb
  clear ha hb
  by_cases h : a.1 = b.1
  · have hl : lessB a b = decide (a.2 < b.2) := by simp [lessB, h]
    rw [hl]
    have h' : (a.1 != b.1) = false := by simp [h]
    clear h hl
    go_enter Tryd.func6, Tryd.ntmps6
    go_wp2_with fail
    refine (check2_ok a b (w.heap.size + 1 + 1) _ (by simp) HA.out HB.out (by simp [go_sem]) (by simp [go_sem]) (by simp [go_sem]) (by simp [go_sem])).mono ?_
    rintro e w1 ⟨rfl, hb1⟩
    have hbw := below3 hb1
    obtain ⟨hc, _⟩ := bcell hb1
    clear hb1
    go_wp2
    go_ret2
    exact ⟨rfl, hbw⟩
  · have hl : lessB a b = decide (a.1 < b.1) := by simp [lessB, h]
    rw [hl]
    have h' : (a.1 != b.1) = true := by simp [h]
    clear h hl
    go_enter Tryd.func6, Tryd.ntmps6
    go_wp2_with fail
    refine (check2_ok a b (w.heap.size + 1 + 1) _ (by simp) HA.out HB.out (by simp [go_sem]) (by simp [go_sem]) (by simp [go_sem]) (by simp [go_sem])).mono ?_
    rintro e w1 ⟨rfl, hb1⟩
    have hbw := below3 hb1
    obtain ⟨hc, _⟩ := bcell hb1
    clear hb1
    go_wp2
    go_ret2
    exact ⟨rfl, hbw⟩
end Go.Proofs.YtppdaldobmlooaaDoor
