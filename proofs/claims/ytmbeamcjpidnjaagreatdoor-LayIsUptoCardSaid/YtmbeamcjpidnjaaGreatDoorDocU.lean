/- Two docs compared. -/
import Derived.Test.YtmbeamcjpidnjaaGreatDoorDocL
import Derived.BigQuiet
import Derived.Deep.QuietTactic
namespace Go.Proofs.YtmbeamcjpidnjaaGreatDoor
open Go Go.RowKit

theorem belowN {B : Nat} {w wr : World} (h : Below B w wr) (n : Nat) : Below B w (wr.drewN n) := h.trans ⟨rfl, rfl, rfl, Nat.le_refl _, fun _ _ => rfl⟩

set_option maxRecDepth 100000 in
set_option maxHeartbeats 2000000 in
theorem docs_any (ds es : List Nd) (a o : Option Addr) (cap cap2 : Nat) (hl : ds.length ≤ 400) (w : World) (hN : Nods w a ds) (hM : Nods w o es) :
    Calls Tryz.prog 19 #[.slice a ds.length cap, .slice o es.length cap2] w fun e w' => ((ds = es ∧ e = .returned (.bool true)) ∨ (ds ≠ es ∧ e = .returned (.bool false))) ∧ Below w.heap.size w w' := by
  have HN : Hid (Nods w a ds) := hN
  have HM : Hid (Nods w o es) := hM
  clear hN hM
  by_cases hle : ds.length = es.length
  · go_enter Tryz.func19, Tryz.ntmps19
    have h0 : ((ds.length : Int) != (es.length : Int)) = false := by simp [hle]
    have HL : Hid (ds.length = es.length) := hle
    clear hle
    go_wp2
    go_loopw [5] (fun i wr => Below w.heap.size w wr ∧ ∃ k : Nat, k ≤ ds.length ∧ i = .int .i64 k ∧ ds.take k = es.take k) (fun i _ => ds.length - (intOf i).toNat)
    case atStart => exact ⟨Below.refl _ _, 0, Nat.zero_le _, rfl, by simp⟩
    case round =>
      obtain ⟨hB, k, hk, rfl, hall⟩ := hrel
      have HA : Hid (ds.take k = es.take k) := hall
      clear hall
      have HN' : Hid (Nods wr a ds) := HN.out.below hB
      have HM' : Hid (Nods wr o es) := HM.out.below hB
      by_cases hlt : k < ds.length
      · have hlt2 : k < es.length := by have := HL.out; omega
        obtain ⟨b, of, ea, hb, c1, c2, c3⟩ := HN'.out k hlt
        obtain ⟨b', of', ea', hb', c1', c2', c3'⟩ := HM'.out k hlt2
        subst ea ea'
        by_cases hx : ds[k] = es[k]
        · have HX : Hid (ds.take (k + 1) = es.take (k + 1)) := (show _ = _ by
            rw [List.take_succ_eq_append_getElem hlt, List.take_succ_eq_append_getElem hlt2, HA.out, hx])
          rw [← hx] at c1' c2' c3'
          clear hx
          go_wp2_with fail
          go_quiet (fail)
          go_wp2
          go_roundw
          case rel => exact ⟨belowN hB _, k + 1, by omega, by go_num, HX.out⟩
          case measure => simp [intOf]; omega
        · have HX : Hid (ds ≠ es) := fun h => hx (by subst h; rfl)
          have hc : ds[k].op ≠ es[k].op ∨ (ds[k].op = es[k].op ∧ ds[k].tx ≠ es[k].tx) ∨ (ds[k].op = es[k].op ∧ ds[k].tx = es[k].tx ∧ ds[k].n ≠ es[k].n) := by
            by_cases h1 : ds[k].op = es[k].op
            · by_cases h2 : ds[k].tx = es[k].tx
              · by_cases h3 : ds[k].n = es[k].n
                · exact absurd (Nd.ext' h1 h2 h3) hx
                · exact .inr (.inr ⟨h1, h2, h3⟩)
              · exact .inr (.inl ⟨h1, h2⟩)
            · exact .inl h1
          clear hx
          generalize ds[k] = x at c1 c2 c3 hc
          generalize es[k] = y at c1' c2' c3' hc
          rcases hc with hc | ⟨e1, hc⟩ | ⟨e1, e2, hc⟩
          · have g1 : (x.op == y.op) = false := by simp [hc]
            have g2 : (x.op != y.op) = true := by simp [hc]
            clear hc
            go_wp2_with fail
            go_quiet (fail)
            go_wp2
            go_ret
            exact ⟨.inr ⟨HX.out, rfl⟩, belowN hB _⟩
          · rw [← e1] at c1'
            have g2 : (x.tx.toList == y.tx.toList) = false := by
              rw [ByteArray.toList_eq, ByteArray.toList_eq]
              simp only [beq_eq_false_iff_ne, ne_eq]
              exact fun h => hc (bytes_inj h)
            clear e1 hc
            go_wp2_with fail
            go_quiet (fail)
            go_wp2
            go_ret
            exact ⟨.inr ⟨HX.out, rfl⟩, belowN hB _⟩
          · rw [← e1] at c1'
            rw [← e2] at c2'
            have g1 : (x.n == y.n) = false := by simp [hc]
            have g2 : (x.n != y.n) = true := by simp [hc]
            clear e1 e2 hc
            go_wp2_with fail
            go_quiet (fail)
            go_wp2
            go_ret
            exact ⟨.inr ⟨HX.out, rfl⟩, belowN hB _⟩
      · have HX : Hid (ds = es) := (show ds = es by
          have h1 := HA.out
          rw [List.take_of_length_le (by omega), List.take_of_length_le (by have := HL.out; omega)] at h1
          exact h1)
        go_wp2
        go_ret
        exact ⟨.inl ⟨HX.out, rfl⟩, hB⟩
  · have h0 : ((ds.length : Int) != (es.length : Int)) = true := by simp; omega
    have HL : Hid (ds.length ≠ es.length) := hle
    clear hle
    go_enter Tryz.func19, Tryz.ntmps19
    go_wp2
    go_ret
    exact ⟨.inr ⟨fun h => HL.out (by rw [h]), rfl⟩, Below.refl _ _⟩
end Go.Proofs.YtmbeamcjpidnjaaGreatDoor
