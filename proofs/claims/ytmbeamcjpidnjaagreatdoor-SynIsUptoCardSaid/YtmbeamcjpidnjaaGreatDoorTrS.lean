/- Two statements compared; two programs. -/
import Derived.Test.YtmbeamcjpidnjaaGreatDoorMems
import Derived.BigQuiet
import Derived.Deep.QuietTactic
import Derived.Outline
namespace Go.Proofs.YtmbeamcjpidnjaaGreatDoor
open Go Go.RowKit

theorem Td.ext2 {x y : Td} (h1 : x.op = y.op) (h2 : x.tx = y.tx) (h3 : x.n = y.n) : x = y := by
  cases x; cases y; simp_all
theorem bytes_inj2 {s t : ByteArray} (h : s.data.toList = t.data.toList) : s = t := by
  apply ByteArray.ext
  exact Array.toList_inj.1 h
theorem tds_drew {w : World} {a : Option Addr} {ds : List Td} (h : Tds w a ds) (q : Nat) : Tds (w.drewN q) a ds := h
theorem prg_drew {w : World} {a : Option Addr} {ps : List (List Td)} (h : Prg w a ps) (q : Nat) : Prg (w.drewN q) a ps := h

set_option maxRecDepth 100000 in
set_option maxHeartbeats 2000000 in
theorem strees_any (ds es : List Td) (a o : Option Addr) (cap cap2 : Nat) (hl : ds.length ≤ 4611686018427387904) (r : Bool) (hr : r = true ↔ ds = es) (w : World) (hN : Tds w a ds) (hM : Tds w o es) :
    Calls Tryz.prog 37 #[.slice a ds.length cap, .slice o es.length cap2] w fun e w' => e = .returned (.bool r) ∧ ∃ q, w' = w.drewN q := by
  have HN : Hid (Tds w a ds) := hN
  have HM : Hid (Tds w o es) := hM
  have HNO : Hid (ds ≠ es → r = false) := fun h => by
    cases r with
    | false => rfl
    | true => exact absurd (hr.1 rfl) h
  have HYES : Hid (ds = es → r = true) := hr.2
  clear hN hM hr
  by_cases hle : ds.length = es.length
  · go_enter Tryz.func37, Tryz.ntmps37
    have h0 : ((ds.length : Int) != (es.length : Int)) = false := by simp [hle]
    have HL : Hid (ds.length = es.length) := hle
    have hle1 : (ds.length : Int) ≤ (es.length : Int) := by omega
    clear hle
    go_wp2
    go_loopw [5] (fun i wr => (∃ q : Nat, wr = w.drewN q) ∧ ∃ k : Nat, k ≤ ds.length ∧ i = .int .i64 k ∧ ds.take k = es.take k) (fun i _ => ds.length - (intOf i).toNat)
    case atStart => exact ⟨⟨0, rfl⟩, 0, Nat.zero_le _, rfl, by simp⟩
    case round =>
      obtain ⟨⟨q, rfl⟩, k, hk, rfl, hall⟩ := hrel
      have HA : Hid (ds.take k = es.take k) := hall
      clear hall
      by_cases hlt : k < ds.length
      · have hlt2 : k < es.length := by have := HL.out; omega
        have hi1 : (k : Int) < (ds.length : Int) := by omega
        have hi2 : (k : Int) < (es.length : Int) := by omega
        obtain ⟨b, of, ea, hb, c1, c2, c3⟩ := HN.out k hlt
        obtain ⟨b', of', ea', hb', c1', c2', c3'⟩ := HM.out k hlt2
        subst ea ea'
        by_cases hx : ds[k] = es[k]
        · have HX : Hid (ds.take (k + 1) = es.take (k + 1)) := (show _ = _ by
            rw [List.take_succ_eq_append_getElem hlt, List.take_succ_eq_append_getElem hlt2, HA.out, hx])
          rw [← hx] at c1' c2' c3'
          clear hx
          go_wp2_with fail
          go_quiet (fail)
          go_wp2
          go_roundw
          case rel => exact ⟨⟨_, rfl⟩, k + 1, by omega, by go_num, HX.out⟩
          case measure => simp [intOf]; omega
        · have HX : Hid (r = false) := HNO.out fun h => hx (by subst h; rfl)
          have hc : ds[k].op ≠ es[k].op ∨ (ds[k].op = es[k].op ∧ ds[k].tx ≠ es[k].tx) ∨ (ds[k].op = es[k].op ∧ ds[k].tx = es[k].tx ∧ ds[k].n ≠ es[k].n) := by
            by_cases h1 : ds[k].op = es[k].op
            · by_cases h2 : ds[k].tx = es[k].tx
              · by_cases h3 : ds[k].n = es[k].n
                · exact absurd (Td.ext2 h1 h2 h3) hx
                · exact .inr (.inr ⟨h1, h2, h3⟩)
              · exact .inr (.inl ⟨h1, h2⟩)
            · exact .inl h1
          clear hx
          generalize ds[k] = x at c1 c2 c3 hc
          generalize es[k] = y at c1' c2' c3' hc
          rcases hc with hc | ⟨e1, hc⟩ | ⟨e1, e2, hc⟩
          · have g1 : (x.op == y.op) = false := by simp [hc]
            have g2 : (x.op != y.op) = true := by simp [hc]
            clear hc
            go_wp2_with fail
            go_quiet (fail)
            go_wp2
            go_ret
            exact ⟨by rw [HX.out]; rfl, _, World.drewN_drewN _ _ _⟩
          · rw [← e1] at c1'
            have g2 : (x.tx.toList == y.tx.toList) = false := by
              rw [ByteArray.toList_eq, ByteArray.toList_eq]
              simp only [beq_eq_false_iff_ne, ne_eq]
              exact fun h => hc (bytes_inj2 h)
            clear e1 hc
            go_wp2_with fail
            go_quiet (fail)
            go_wp2
            go_ret
            exact ⟨by rw [HX.out]; rfl, _, World.drewN_drewN _ _ _⟩
          · rw [← e1] at c1'
            rw [← e2] at c2'
            have g1 : (x.n == y.n) = false := by simp [hc]
            have g2 : (x.n != y.n) = true := by simp [hc]
            clear e1 e2 hc
            go_wp2_with fail
            go_quiet (fail)
            go_wp2
            go_ret
            exact ⟨by rw [HX.out]; rfl, _, World.drewN_drewN _ _ _⟩
      · have HX : Hid (r = true) := HYES.out (by
          have h1 := HA.out
          rw [List.take_of_length_le (by omega), List.take_of_length_le (by have := HL.out; omega)] at h1
          exact h1)
        go_wp2
        go_ret
        exact ⟨by rw [HX.out]; rfl, q, rfl⟩
  · have h0 : ((ds.length : Int) != (es.length : Int)) = true := by simp; omega
    have HX : Hid (r = false) := HNO.out fun h => hle (by rw [h])
    clear hle
    go_enter Tryz.func37, Tryz.ntmps37
    go_wp2
    go_ret
    exact ⟨by rw [HX.out]; rfl, 0, rfl⟩

set_option maxRecDepth 100000 in
set_option maxHeartbeats 2000000 in
theorem sprogs_any (ps qs : List (List Td)) (a o : Option Addr) (cap cap2 : Nat) (hl : ps.length ≤ 4611686018427387904) (hlp : ∀ t ∈ ps, t.length ≤ 4611686018427387904) (r : Bool) (hr : r = true ↔ ps = qs) (w : World) (hN : Prg w a ps) (hM : Prg w o qs) :
    Calls Tryz.prog 13 #[.slice a ps.length cap, .slice o qs.length cap2] w fun e w' => e = .returned (.bool r) ∧ ∃ q, w' = w.drewN q := by
  have HN : Hid (Prg w a ps) := hN
  have HM : Hid (Prg w o qs) := hM
  have HLP : Hid (∀ t ∈ ps, t.length ≤ 4611686018427387904) := hlp
  have HNO : Hid (ps ≠ qs → r = false) := fun h => by
    cases r with
    | false => rfl
    | true => exact absurd (hr.1 rfl) h
  have HYES : Hid (ps = qs → r = true) := hr.2
  clear hN hM hlp hr
  by_cases hle : ps.length = qs.length
  · go_enter Tryz.func13, Tryz.ntmps13
    have h0 : ((ps.length : Int) != (qs.length : Int)) = false := by simp [hle]
    have HL : Hid (ps.length = qs.length) := hle
    have hle1 : (ps.length : Int) ≤ (qs.length : Int) := by omega
    clear hle
    go_wp2
    go_loopw [5] (fun i wr => (∃ q : Nat, wr = w.drewN q) ∧ ∃ k : Nat, k ≤ ps.length ∧ i = .int .i64 k ∧ ps.take k = qs.take k) (fun i _ => ps.length - (intOf i).toNat)
    case atStart => exact ⟨⟨0, rfl⟩, 0, Nat.zero_le _, rfl, by simp⟩
    case round =>
      obtain ⟨⟨q, hwr⟩, k, hk, rfl, hall⟩ := hrel
      have HWR : Hid (wr = w.drewN q) := hwr
      have HNr : Hid (Prg wr a ps) := (show Prg wr a ps by rw [hwr]; exact HN.out)
      have HMr : Hid (Prg wr o qs) := (show Prg wr o qs by rw [hwr]; exact HM.out)
      have HA : Hid (ps.take k = qs.take k) := hall
      clear hall hwr
      by_cases hlt : k < ps.length
      · have hlt2 : k < qs.length := by have := HL.out; omega
        have hki : (k : Int) < (ps.length : Int) := by omega
        have hki2 : (k : Int) < (qs.length : Int) := by omega
        obtain ⟨b, of, a1, c1, ea, hb, d1, _, hT1⟩ := HNr.out k hlt
        obtain ⟨b', of', a2, c2, ea', hb', d2, _, hT2⟩ := HMr.out k hlt2
        subst ea ea'
        have hxl := HLP.out _ (List.getElem_mem hlt)
        by_cases heq : ps[k] = qs[k]
        · have HS : Hid (∀ n, Calls Tryz.prog 37 #[.slice a1 ps[k].length c1, .slice a2 qs[k].length c2] (wr.drewN n) fun e w' => e = .returned (.bool true) ∧ ∃ m, w' = (wr.drewN n).drewN m) := fun n => strees_any _ _ a1 a2 c1 c2 hxl true (by simp [heq]) (wr.drewN n) (tds_drew hT1 n) (tds_drew hT2 n)
          have HY : Hid (ps.take (k + 1) = qs.take (k + 1)) := (show _ = _ by
            rw [List.take_succ_eq_append_getElem hlt, List.take_succ_eq_append_getElem hlt2, HA.out, heq])
          clear hT1 hT2 heq hxl
          generalize ps[k].length = n1 at d1 HS
          generalize qs[k].length = n2 at d2 HS
          go_wp2_with fail
          go_quiet ((go_at_call 37; exact Calls.quiet_of (HS.out _)))
          go_wp2
          go_roundw
          case rel => exact ⟨⟨_, by rw [HWR.out, World.drewN_drewN]⟩, k + 1, by omega, by go_num, HY.out⟩
          case measure => simp [intOf]; omega
        · have HS : Hid (∀ n, Calls Tryz.prog 37 #[.slice a1 ps[k].length c1, .slice a2 qs[k].length c2] (wr.drewN n) fun e w' => e = .returned (.bool false) ∧ ∃ m, w' = (wr.drewN n).drewN m) := fun n => strees_any _ _ a1 a2 c1 c2 hxl false (by simp [heq]) (wr.drewN n) (tds_drew hT1 n) (tds_drew hT2 n)
          have HX : Hid (r = false) := HNO.out fun h => heq (by subst h; rfl)
          clear hT1 hT2 heq hxl
          generalize ps[k].length = n1 at d1 HS
          generalize qs[k].length = n2 at d2 HS
          go_wp2_with fail
          go_quiet ((go_at_call 37; exact Calls.quiet_of (HS.out _)))
          go_wp2
          go_ret
          exact ⟨by rw [HX.out]; rfl, _, by rw [HWR.out, World.drewN_drewN]⟩
      · have HX : Hid (r = true) := HYES.out (by
          have h1 := HA.out
          rw [List.take_of_length_le (by omega), List.take_of_length_le (by have := HL.out; omega)] at h1
          exact h1)
        go_wp2
        go_ret
        exact ⟨by rw [HX.out]; rfl, q, HWR.out⟩
  · have h0 : ((ps.length : Int) != (qs.length : Int)) = true := by simp; omega
    have HX : Hid (r = false) := HNO.out fun h => hle (by rw [h])
    clear hle
    go_enter Tryz.func13, Tryz.ntmps13
    go_wp2
    go_ret
    exact ⟨by rw [HX.out]; rfl, 0, rfl⟩
end Go.Proofs.YtmbeamcjpidnjaaGreatDoor
