/- Two docs compared; a doc searched for quotes. -/
import Derived.Test.YthjnkgjdpdacoaaDoorDocC
import Derived.BigQuiet
import Derived.Deep.QuietTactic
namespace Go.Proofs.YthjnkgjdpdacoaaDoor
open Go Go.RowKit

def quoB (s : ByteArray) : Bool := s.data.toList.any (· == 34)
def quo (ds : List Nd) : Bool := ds.any fun x => quoB x.tx

theorem quo_true {ds : List Nd} {k : Nat} (h : k < ds.length) (hq : quoB ds[k].tx = true) : quo ds = true :=
  List.any_eq_true.2 ⟨ds[k], List.getElem_mem h, hq⟩
theorem quo_false {ds : List Nd} (h : ∀ x ∈ ds, quoB x.tx = false) : quo ds = false := by
  rw [quo, List.any_eq_false]
  intro x hx
  simp [h x hx]
theorem quoB_true {s : ByteArray} {k : Nat} (h : k < s.size) (hq : s[k] = 34) : quoB s = true :=
  List.any_eq_true.2 ⟨s[k], List.getElem_mem (by rw [size_list]; exact h), by simp [hq]⟩
theorem quoB_false {s : ByteArray} (h : ∀ k (h : k < s.size), s[k] ≠ 34) : quoB s = false := by
  rw [quoB, List.any_eq_false]
  intro b hb
  obtain ⟨i, hi, rfl⟩ := List.getElem_of_mem hb
  have h1 := h i (by rw [← size_list]; exact hi)
  exact fun hc => h1 (beq_iff_eq.1 hc)
theorem quo_noQ {t : Tr} (h : quo t.nodes = false) : t.noQ := by
  refine noQ_of t fun x hx b hb hq => ?_
  rw [quo, List.any_eq_false] at h
  have h1 := h x hx
  apply h1
  exact List.any_eq_true.2 ⟨b, hb, by simp [hq]⟩
theorem byte34 {b : UInt8} (h : (((b.toNat : Nat) : Int) == 34) = true) : b = 34 := by
  have h' : ((b.toNat : Nat) : Int) = 34 := beq_iff_eq.1 h
  exact UInt8.toNat_inj.1 (by simpa using (by omega : b.toNat = 34))
theorem byte34' {b : UInt8} (h : (((b.toNat : Nat) : Int) == 34) = false) : b ≠ 34 := by
  rintro rfl
  simp at h

set_option maxRecDepth 100000 in
set_option maxHeartbeats 2000000 in
theorem quoted_any (ds : List Nd) (a : Option Addr) (cap : Nat) (hl : ds.length ≤ 400) (hs : ∀ x ∈ ds, x.tx.size ≤ 20) (w : World) (hN : Nods w a ds) :
    Calls Tryd.prog 20 #[.slice a ds.length cap] w fun e w' => e = .returned (.bool (quo ds)) ∧ w = w' := by
  have HN : Hid (Nods w a ds) := hN
  have HS : Hid (∀ x ∈ ds, x.tx.size ≤ 20) := hs
  clear hN hs
  go_enter Tryd.func20, Tryd.ntmps20
  go_wp2
  go_loopw [3] (fun i wr => wr = w ∧ ∃ k : Nat, k ≤ ds.length ∧ i = .int .i64 k ∧ ∀ x ∈ ds.take k, quoB x.tx = false) (fun i _ => ds.length - (intOf i).toNat)
  case atStart => exact ⟨rfl, 0, Nat.zero_le _, rfl, by simp⟩
  case round =>
    obtain ⟨rfl, k, hk, rfl, hall⟩ := hrel
    have HA : Hid (∀ x ∈ ds.take k, quoB x.tx = false) := hall
    clear hall
    by_cases hlt : k < ds.length
    · obtain ⟨b, o, ea, hb, c1, c2, c3⟩ := HN.out k hlt
      subst ea
      have hs20 := HS.out ds[k] (List.getElem_mem hlt)
      have HBad : Hid (quoB ds[k].tx = true → quo ds = true) := fun h => quo_true hlt h
      have HGood : Hid (quoB ds[k].tx = false → ∀ x ∈ ds.take (k + 1), quoB x.tx = false) := fun h x hx => by
        rw [List.take_succ_eq_append_getElem hlt] at hx
        rcases List.mem_append.1 hx with hx | hx
        · exact HA.out x hx
        · simp at hx; subst hx; exact h
      generalize ds[k].tx = tx at c2 hs20 HBad HGood
      clear c1 c3
      go_wp2
      go_loopw [4] (fun i wr2 => wr2 = wr ∧ ∃ q : Nat, q ≤ tx.size ∧ i = .int .i64 q ∧ ∀ j (h : j < tx.size), j < q → tx[j] ≠ 34) (fun i _ => tx.size - (intOf i).toNat)
      case atStart => exact ⟨rfl, 0, Nat.zero_le _, rfl, fun j _ hj => by omega⟩
      case round =>
        obtain ⟨rfl, q, hq, rfl, hq2⟩ := hrel
        have HQ : Hid (∀ j (h : j < tx.size), j < q → tx[j] ≠ 34) := hq2
        clear hq2
        by_cases hlq : q < tx.size
        · cases hwb : (((tx[q].toNat : Nat) : Int) == 34) with
          | true =>
            have HF : Hid (quo ds = true) := HBad.out (quoB_true hlq (byte34 hwb))
            go_wp2
            go_ret
            exact ⟨by rw [HF.out]; rfl, rfl⟩
          | false =>
            have HB : Hid (tx[q] ≠ 34) := byte34' hwb
            go_wp2
            go_roundw
            case rel =>
              refine ⟨by trivial, q + 1, by omega, by go_num, ?_⟩
              intro j h hj
              by_cases hjk : j = q
              · subst hjk; exact HB.out
              · exact HQ.out j h (by omega)
            case measure => simp [intOf]; omega
        · have HG : Hid (∀ x ∈ ds.take (k + 1), quoB x.tx = false) := HGood.out (quoB_false fun j h => HQ.out j h (by omega))
          go_wp2
          go_roundw
          case rel => exact ⟨by trivial, k + 1, by omega, by go_num, HG.out⟩
          case measure => simp [intOf]; omega
    · have HF : Hid (quo ds = false) := quo_false (by have h := HA.out; rw [List.take_of_length_le (by omega)] at h; exact h)
      go_wp2
      go_ret
      exact ⟨by rw [HF.out]; rfl, rfl⟩

theorem belowN {B : Nat} {w wr : World} (h : Below B w wr) (n : Nat) : Below B w (wr.drewN n) := h.trans ⟨rfl, rfl, rfl, Nat.le_refl _, fun _ _ => rfl⟩

set_option maxRecDepth 100000 in
set_option maxHeartbeats 2000000 in
theorem docs_any (ds es : List Nd) (a o : Option Addr) (cap cap2 : Nat) (hl : ds.length ≤ 400) (w : World) (hN : Nods w a ds) (hM : Nods w o es) :
    Calls Tryd.prog 19 #[.slice a ds.length cap, .slice o es.length cap2] w fun e w' => ((ds = es ∧ e = .returned (.bool true)) ∨ (ds ≠ es ∧ e = .returned (.bool false))) ∧ Below w.heap.size w w' := by
  have HN : Hid (Nods w a ds) := hN
  have HM : Hid (Nods w o es) := hM
  clear hN hM
  by_cases hle : ds.length = es.length
  · go_enter Tryd.func19, Tryd.ntmps19
    have h0 : ((ds.length : Int) != (es.length : Int)) = false := by simp [hle]
    have HL : Hid (ds.length = es.length) := hle
    clear hle
    go_wp2
    go_loopw [5] (fun i wr => Below w.heap.size w wr ∧ ∃ k : Nat, k ≤ ds.length ∧ i = .int .i64 k ∧ ds.take k = es.take k) (fun i _ => ds.length - (intOf i).toNat)
    case atStart => exact ⟨Below.refl _ _, 0, Nat.zero_le _, rfl, by simp⟩
    case round =>
      obtain ⟨hB, k, hk, rfl, hall⟩ := hrel
      have HA : Hid (ds.take k = es.take k) := hall
      clear hall
      have HN' : Hid (Nods wr a ds) := HN.out.below hB
      have HM' : Hid (Nods wr o es) := HM.out.below hB
      by_cases hlt : k < ds.length
      · have hlt2 : k < es.length := by have := HL.out; omega
        obtain ⟨b, of, ea, hb, c1, c2, c3⟩ := HN'.out k hlt
        obtain ⟨b', of', ea', hb', c1', c2', c3'⟩ := HM'.out k hlt2
        subst ea ea'
        by_cases hx : ds[k] = es[k]
        · have HX : Hid (ds.take (k + 1) = es.take (k + 1)) := (show _ = _ by
            rw [List.take_succ_eq_append_getElem hlt, List.take_succ_eq_append_getElem hlt2, HA.out, hx])
          rw [← hx] at c1' c2' c3'
          clear hx
          go_wp2_with fail
          go_quiet (fail)
          go_wp2
          go_roundw
          case rel => exact ⟨belowN hB _, k + 1, by omega, by go_num, HX.out⟩
          case measure => simp [intOf]; omega
        · have HX : Hid (ds ≠ es) := fun h => hx (by subst h; rfl)
          have hc : ds[k].op ≠ es[k].op ∨ (ds[k].op = es[k].op ∧ ds[k].tx ≠ es[k].tx) ∨ (ds[k].op = es[k].op ∧ ds[k].tx = es[k].tx ∧ ds[k].n ≠ es[k].n) := by
            by_cases h1 : ds[k].op = es[k].op
            · by_cases h2 : ds[k].tx = es[k].tx
              · by_cases h3 : ds[k].n = es[k].n
                · exact absurd (Nd.ext' h1 h2 h3) hx
                · exact .inr (.inr ⟨h1, h2, h3⟩)
              · exact .inr (.inl ⟨h1, h2⟩)
            · exact .inl h1
          clear hx
          generalize ds[k] = x at c1 c2 c3 hc
          generalize es[k] = y at c1' c2' c3' hc
          rcases hc with hc | ⟨e1, hc⟩ | ⟨e1, e2, hc⟩
          · have g1 : (x.op == y.op) = false := by simp [hc]
            have g2 : (x.op != y.op) = true := by simp [hc]
            clear hc
            go_wp2_with fail
            go_quiet (fail)
            go_wp2
            go_ret
            exact ⟨.inr ⟨HX.out, rfl⟩, belowN hB _⟩
          · rw [← e1] at c1'
            have g2 : (x.tx.toList == y.tx.toList) = false := by
              rw [ByteArray.toList_eq, ByteArray.toList_eq]
              simp only [beq_eq_false_iff_ne, ne_eq]
              exact fun h => hc (bytes_inj h)
            clear e1 hc
            go_wp2_with fail
            go_quiet (fail)
            go_wp2
            go_ret
            exact ⟨.inr ⟨HX.out, rfl⟩, belowN hB _⟩
          · rw [← e1] at c1'
            rw [← e2] at c2'
            have g1 : (x.n == y.n) = false := by simp [hc]
            have g2 : (x.n != y.n) = true := by simp [hc]
            clear e1 e2 hc
            go_wp2_with fail
            go_quiet (fail)
            go_wp2
            go_ret
            exact ⟨.inr ⟨HX.out, rfl⟩, belowN hB _⟩
      · have HX : Hid (ds = es) := (show ds = es by
          have h1 := HA.out
          rw [List.take_of_length_le (by omega), List.take_of_length_le (by have := HL.out; omega)] at h1
          exact h1)
        go_wp2
        go_ret
        exact ⟨.inl ⟨HX.out, rfl⟩, hB⟩
  · have h0 : ((ds.length : Int) != (es.length : Int)) = true := by simp; omega
    have HL : Hid (ds.length ≠ es.length) := hle
    clear hle
    go_enter Tryd.func19, Tryd.ntmps19
    go_wp2
    go_ret
    exact ⟨.inr ⟨fun h => HL.out (by rw [h]), rfl⟩, Below.refl _ _⟩
end Go.Proofs.YthjnkgjdpdacoaaDoor
