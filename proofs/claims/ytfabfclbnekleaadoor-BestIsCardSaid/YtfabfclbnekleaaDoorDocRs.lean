/- Some texts as one: DocA1, DocR, DocD. -/
import Derived.Test.YtfabfclbnekleaaDoorDocA0
import Derived.Test.YtfabfclbnekleaaDoorDocL
namespace Go.Proofs.YtfabfclbnekleaaDoor
open Go Go.RowKit

set_option maxRecDepth 100000 in
theorem rparts_any (op : Int) (w : World) : Calls Tryd.prog 25 #[.int .i64 op] w fun e w' => e = .returned (.int .i64 (pts op)) ∧ w = w' := by
  by_cases h6 : op = 6
  · subst h6
    go_enter Tryd.func25, Tryd.ntmps25
    go_wp2
    go_ret
    exact ⟨rfl, rfl⟩
  by_cases h9 : op = 9
  · subst h9
    go_enter Tryd.func25, Tryd.ntmps25
    go_wp2
    go_ret
    exact ⟨rfl, rfl⟩
  by_cases h7 : op = 7
  · subst h7
    go_enter Tryd.func25, Tryd.ntmps25
    go_wp2
    go_ret
    exact ⟨rfl, rfl⟩
  by_cases h8 : op = 8
  · subst h8
    go_enter Tryd.func25, Tryd.ntmps25
    go_wp2
    go_ret
    exact ⟨rfl, rfl⟩
  have e : pts op = 0 := by simp [pts, h6, h7, h8, h9]
  rw [e]
  have g6 : (op == 6) = false := by simp [h6]
  have g7 : (op == 7) = false := by simp [h7]
  have g8 : (op == 8) = false := by simp [h8]
  have g9 : (op == 9) = false := by simp [h9]
  clear e h6 h7 h8 h9
  go_enter Tryd.func25, Tryd.ntmps25
  go_wp2
  go_ret
  exact ⟨rfl, rfl⟩

end Go.Proofs.YtfabfclbnekleaaDoor
namespace Go.Proofs.YtfabfclbnekleaaDoor
open Go Go.RowKit

set_option maxRecDepth 100000 in
set_option maxHeartbeats 1000000 in
theorem rendOf_any (ds : List Nd) (a : Option Addr) (cap : Nat) (hl : ds.length ≤ 400) : ∀ (f i : Nat) (w : World), Nods w a ds → ds.length - i < f →  i ≤ 1000 →
    Calls Tryd.prog 21 #[.slice a ds.length cap, .int .i64 i] w fun e w' => e = .returned (.int .i64 (endZ (endAt ds i 1))) ∧ w = w' := by
  intro f
  induction f with
  | zero => intro i w _ h; omega
  | succ f ih =>
    intro i w hN hf hi
    have HN : Hid (Nods w a ds) := hN
    have IH : Hid (∀ (i : Nat) (w : World), Nods w a ds → ds.length - i < f → i ≤ 1000 →
      Calls Tryd.prog 21 #[.slice a ds.length cap, .int .i64 i] w fun e w' => e = .returned (.int .i64 (endZ (endAt ds i 1))) ∧ w = w') := ih
    clear hN ih
    by_cases hlt : i < ds.length
    · obtain ⟨b, o, ea, hb, c1, c2, c3⟩ := HN.out i hlt
      have HS : Hid (endAt ds i 1 = endAt ds (i + 1) (pts ds[i].op)) := endAt_step _ _ 0 hlt
      have hp := pts_le ds[i].op
      generalize hpp : pts ds[i].op = p at HS hp
      have HP : Hid (pts ds[i].op = p) := hpp
      subst ea
      clear c2 c3 hpp
      go_enter Tryd.func21, Tryd.ntmps21
      go_wp2_with (go_at_call 25; refine (rparts_any _ _).mono ?_; rintro e w' ⟨rfl, rfl⟩; rw [HP.out])
      go_loopw [1, 5] (fun z m wr => wr = w ∧ ∃ q : Nat, q ≤ 2 ∧ m = .int .i64 q ∧ ((∃ k : Nat, i < k ∧ k ≤ ds.length ∧ z = .int .i64 k ∧ endAt ds i 1 = endAt ds k q) ∨ (z = .int .i64 (-1) ∧ endAt ds i 1 = none))) (fun _ m _ => (intOf m).toNat)
      case atStart => exact ⟨rfl, p, hp, rfl, .inl ⟨i + 1, by omega, by omega, by go_num, HS.out⟩⟩
      case round =>
        obtain ⟨rfl, q, hq, rfl, ⟨k, hk1, hk2, rfl, he⟩ | ⟨rfl, he⟩⟩ := hrel
        · have HE : Hid (endAt ds i 1 = endAt ds k q) := he
          clear he
          by_cases h0 : q = 0
          · subst h0
            have HE' : Hid (endAt ds i 1 = some k) := HE.out.trans (endAt_zero _ _)
            go_wp2
            go_ret
            exact ⟨by rw [HE'.out]; rfl, rfl⟩
          · obtain ⟨q', rfl⟩ : ∃ q', q = q' + 1 := ⟨q - 1, by omega⟩
            have HA : Hid (endAt ds i 1 = (endAt ds k 1).bind fun j => endAt ds j q') := HE.out.trans (by rw [Nat.add_comm q' 1, endAt_add])
            clear h0
            go_wp2_with (go_at_call 21; refine (IH.out k _ HN.out (by omega) (by omega)).mono ?_; rintro e w' ⟨rfl, rfl⟩)
            go_roundw
            case rel =>
              refine ⟨by trivial, q', by omega, by go_num, ?_⟩
              cases hj : endAt ds k 1 with
              | none => exact .inr ⟨rfl, by rw [HA.out, hj]; rfl⟩
              | some j =>
                have hjb := endAt_bd hj
                exact .inl ⟨j, by omega, by omega, rfl, by rw [HA.out, hj]; rfl⟩
            case measure => simp [intOf]
        · have HE : Hid (endAt ds i 1 = none) := he
          clear he
          by_cases h0 : q = 0
          · subst h0
            go_wp2
            go_ret
            exact ⟨by rw [HE.out]; rfl, rfl⟩
          · go_wp2
            go_ret
            exact ⟨by rw [HE.out]; rfl, rfl⟩
    · have HE : Hid (endAt ds i 1 = none) := endAt_out _ _ _ (by omega)
      go_enter Tryd.func21, Tryd.ntmps21
      go_wp2
      go_ret
      exact ⟨by rw [HE.out]; rfl, rfl⟩
end Go.Proofs.YtfabfclbnekleaaDoor
namespace Go.Proofs.YtfabfclbnekleaaDoor
open Go Go.RowKit

theorem nodeF_low {op n : Int} {tx : ByteArray} (h : op < 1) : nodeF ⟨op, tx, n⟩ = 1 := by simp [nodeF, h]
theorem nodeF_high {op n : Int} {tx : ByteArray} (h : 9 < op) : nodeF ⟨op, tx, n⟩ = 1 := by simp [nodeF, h]
theorem nodeF_text {op n : Int} {tx : ByteArray} (h1 : ¬ op < 1) (h2 : ¬ 9 < op) (h : op ≠ 1) (hs : tx.size ≠ 0) : nodeF ⟨op, tx, n⟩ = 2 := by
  simp only [nodeF]; rw [if_neg (by omega), if_pos (.inl ⟨h, hs⟩)]
theorem nodeF_num {op n : Int} {tx : ByteArray} (h1 : ¬ op < 1) (h2 : ¬ 9 < op) (h : op ≠ 7) (hs : n ≠ 0) : nodeF ⟨op, tx, n⟩ = 2 := by
  simp only [nodeF]; rw [if_neg (by omega), if_pos (.inr ⟨h, hs⟩)]
theorem nodeF_word {tx : ByteArray} : nodeF ⟨1, tx, 0⟩ = if isW tx = true then 0 else 5 := by
  cases h : isW tx <;> simp [nodeF, h]
theorem nodeF_deep {tx : ByteArray} {n : Int} (hs : tx.size = 0) : nodeF ⟨7, tx, n⟩ = if n < 0 ∨ 8 < n then 1 else 0 := by
  simp [nodeF, hs]
theorem nodeF_other {op : Int} {tx : ByteArray} (h1 : ¬ op < 1) (h2 : ¬ 9 < op) (h : op ≠ 1) (h7 : op ≠ 7) (hs : tx.size = 0) : nodeF ⟨op, tx, 0⟩ = 0 := by
  simp only [nodeF]; rw [if_neg (by omega), if_neg (by simp [hs]), if_neg (by simp [h]), if_neg (by simp [h7])]

set_option maxRecDepth 100000 in
set_option maxHeartbeats 4000000 in
theorem rfault_any (ds : List Nd) (a : Option Addr) (cap : Nat) (w : World) (hN : Nods w a ds) :
    Calls Tryd.prog 17 #[.slice a ds.length cap] w fun e w' => e = .returned (.int .i64 (docF ds)) ∧ Below w.heap.size w w' := by
  have HN : Hid (Nods w a ds) := hN
  clear hN
  by_cases h4 : 400 < (ds.length : Int)
  · rw [docF_full (by omega)]
    go_enter Tryd.func17, Tryd.ntmps17
    go_wp2
    go_ret
    exact ⟨rfl, Below.refl _ _⟩
  · have hl : ds.length ≤ 400 := by omega
    go_enter Tryd.func17, Tryd.ntmps17
    go_wp2
    go_loopw [3] (fun i wr => Below w.heap.size w wr ∧ ∃ k : Nat, k ≤ ds.length ∧ i = .int .i64 k ∧ ∀ x ∈ ds.take k, nodeF x = 0) (fun i _ => ds.length - (intOf i).toNat)
    case atStart => exact ⟨Below.refl _ _, 0, Nat.zero_le _, rfl, by simp⟩
    case round =>
      obtain ⟨hB, k, hk, rfl, hall⟩ := hrel
      have HA : Hid (∀ x ∈ ds.take k, nodeF x = 0) := hall
      have HM : Hid (Nods wr a ds) := HN.out.below hB
      have hbw := hB.size
      clear hall
      by_cases hlt : k < ds.length
      · obtain ⟨b, o, ea, hb, c1, c2, c3⟩ := HM.out k hlt
        subst ea
        have HBad : Hid (nodeF ds[k] ≠ 0 → docF ds = nodeF ds[k]) := fun h => docF_node hl hlt HA.out h
        have HGood : Hid (nodeF ds[k] = 0 → ∀ x ∈ ds.take (k + 1), nodeF x = 0) := fun h => take_more hlt HA.out h
        generalize ds[k] = x at c1 c2 c3 HBad HGood
        obtain ⟨op, tx, n⟩ := x
        have HBx : Hid (∀ O : Obj, Below w.heap.size w (wr.alloc O)) := fun O => hB.alloc hbw O
        dsimp only at c1 c2 c3
        by_cases h1 : op < 1
        · have HF : Hid (docF ds = 1) := by have e := nodeF_low (n := n) (tx := tx) h1; exact (HBad.out (by rw [e]; decide)).trans e
          go_wp2
          go_ret
          exact ⟨by rw [HF.out]; rfl, HBx.out _⟩
        by_cases h2 : 9 < op
        · have HF : Hid (docF ds = 1) := by have e := nodeF_high (n := n) (tx := tx) h2; exact (HBad.out (by rw [e]; decide)).trans e
          go_wp2
          go_ret
          exact ⟨by rw [HF.out]; rfl, HBx.out _⟩
        by_cases h3 : op = 1
        · subst h3
          by_cases h5 : n = 0
          · subst h5
            have HW := nodeF_word (tx := tx)
            by_cases s1 : (tx.size : Int) < 1
            · have HF : Hid (docF ds = 5) := by
                have e : isW tx = false := by simp [isW]; omega
                have e5 : nodeF ⟨1, tx, 0⟩ = 5 := by rw [HW, e]; rfl
                exact (HBad.out (by rw [e5]; decide)).trans e5
              clear HW
              go_wp2
              go_ret
              exact ⟨by rw [HF.out]; rfl, HBx.out _⟩
            by_cases s2 : 20 < (tx.size : Int)
            · have HF : Hid (docF ds = 5) := by
                have e : isW tx = false := by simp [isW]; omega
                have e5 : nodeF ⟨1, tx, 0⟩ = 5 := by rw [HW, e]; rfl
                exact (HBad.out (by rw [e5]; decide)).trans e5
              clear HW
              go_wp2
              go_ret
              exact ⟨by rw [HF.out]; rfl, HBx.out _⟩
            have HWord : Hid (nodeF ⟨1, tx, 0⟩ = if isW tx = true then 0 else 5) := HW
            clear HW
            go_wp2
            go_loopw [5] (fun i wr2 => wr2 = wr.alloc (.cells #[.int .i64 1, .string tx, .int .i64 0] 48) ∧ ∃ q : Nat, q ≤ tx.size ∧ i = .int .i64 q ∧ ∀ j (h : j < tx.size), j < q → wordB tx[j] = true) (fun i _ => tx.size - (intOf i).toNat)
            case atStart => exact ⟨rfl, 0, Nat.zero_le _, rfl, fun j _ hj => by omega⟩
            case round =>
              obtain ⟨rfl, q, hq, rfl, hq2⟩ := hrel
              have HQ : Hid (∀ j (h : j < tx.size), j < q → wordB tx[j] = true) := hq2
              clear hq2
              by_cases hlq : q < tx.size
              · cases hwb : wordB tx[q] with
                | false =>
                  have HF : Hid (docF ds = 5) := by
                    have e := HWord.out; rw [isW_not hlq hwb] at e; rw [if_neg (by decide)] at e; exact (HBad.out (by rw [e]; decide)).trans e
                  have hc := wordB_false hwb
                  clear hwb
                  rcases hc with hc | ⟨hc, hd⟩
                  · go_wp2
                    go_ret
                    exact ⟨by rw [HF.out]; rfl, HBx.out _⟩
                  · go_wp2
                    go_ret
                    exact ⟨by rw [HF.out]; rfl, HBx.out _⟩
                | true =>
                  have HB : Hid (wordB tx[q] = true) := hwb
                  obtain ⟨hc, hd⟩ := wordB_true hwb
                  clear hwb
                  go_wp2
                  go_roundw
                  case rel =>
                    refine ⟨by trivial, q + 1, by omega, by go_num, ?_⟩
                    intro j h hj
                    by_cases hjk : j = q
                    · subst hjk; exact HB.out
                    · exact HQ.out j h (by omega)
                  case measure => simp [intOf]; omega
              · have HG : Hid (∀ x ∈ ds.take (k + 1), nodeF x = 0) := HGood.out (by
                  rw [HWord.out, isW_take (by omega) (by omega) fun j h => HQ.out j h (by omega), if_pos rfl])
                go_wp2
                go_roundw
                case rel => exact ⟨HBx.out _, k + 1, by omega, by go_num, HG.out⟩
                case measure => simp [intOf]; omega
          · have HF : Hid (docF ds = 2) := by have e := nodeF_num (tx := tx) h1 h2 (by decide) h5; exact (HBad.out (by rw [e]; decide)).trans e
            have h5' : (n != 0) = true := by simp [h5]
            clear h5
            go_wp2
            go_ret
            exact ⟨by rw [HF.out]; rfl, HBx.out _⟩
        have g1 : (op != 1) = true := by simp [h3]
        have g2 : (op == 1) = false := by simp [h3]
        by_cases hs : tx.size = 0
        · obtain rfl := size_zero hs
          by_cases h7 : op = 7
          · subst h7
            have HD := nodeF_deep (n := n) hs
            by_cases n1 : n < 0
            · have HF : Hid (docF ds = 1) := by rw [if_pos (.inl n1)] at HD; exact (HBad.out (by rw [HD]; decide)).trans HD
              clear HD hs h3
              go_wp2
              go_ret
              exact ⟨by rw [HF.out]; rfl, HBx.out _⟩
            by_cases n2 : 8 < n
            · have HF : Hid (docF ds = 1) := by rw [if_pos (.inr n2)] at HD; exact (HBad.out (by rw [HD]; decide)).trans HD
              clear HD hs h3
              go_wp2
              go_ret
              exact ⟨by rw [HF.out]; rfl, HBx.out _⟩
            · have HG : Hid (∀ x ∈ ds.take (k + 1), nodeF x = 0) := HGood.out (by rw [HD, if_neg (by omega)])
              clear HD hs h3
              go_wp2
              go_roundw
              case rel => exact ⟨HBx.out _, k + 1, by omega, by go_num, HG.out⟩
              case measure => simp [intOf]; omega
          · have g3 : (op != 7) = true := by simp [h7]
            by_cases h5 : n = 0
            · subst h5
              have HG : Hid (∀ x ∈ ds.take (k + 1), nodeF x = 0) := HGood.out (nodeF_other h1 h2 h3 h7 hs)
              clear hs h3 h7
              go_wp2
              go_roundw
              case rel => exact ⟨HBx.out _, k + 1, by omega, by go_num, HG.out⟩
              case measure => simp [intOf]; omega
            · have HF : Hid (docF ds = 2) := by have e := nodeF_num (tx := ⟨#[]⟩) h1 h2 h7 h5; exact (HBad.out (by rw [e]; decide)).trans e
              have h5' : (n != 0) = true := by simp [h5]
              clear h5 hs h3 h7
              go_wp2
              go_ret
              exact ⟨by rw [HF.out]; rfl, HBx.out _⟩
        · have hs' : 0 < tx.size := by omega
          have hs2 : ¬ tx = ByteArray.empty := by rintro rfl; exact hs rfl
          have HF : Hid (docF ds = 2) := by have e := nodeF_text (n := n) h1 h2 h3 hs; exact (HBad.out (by rw [e]; decide)).trans e
          clear hs h3
          go_wp2
          go_ret
          exact ⟨by rw [HF.out]; rfl, HBx.out _⟩
      · have HF : Hid (docF ds = if endAt ds 0 1 = some ds.length then 0 else 2) := docF_end hl (take_all hlt HA.out)
        have HE := rendOf_any ds a cap hl (ds.length + 1) 0 wr HM.out (by omega) (by omega)
        cases he : endAt ds 0 1 with
        | none =>
          have H2 : Hid (docF ds = 2) := (show docF ds = 2 by rw [HF.out, he, if_neg (by simp)])
          rw [he] at HE
          have hz : ((-1 : Int) != (ds.length : Int)) = true := by simp <;> omega
          have HE' : Hid (Calls Tryd.prog 21 #[.slice a ds.length cap, .int .i64 (0 : Nat)] wr fun e w' => e = .returned (.int .i64 (-1)) ∧ wr = w') := HE
          clear HE he
          go_wp2_with fail
          refine HE'.out.mono ?_
          rintro e w2 ⟨rfl, rfl⟩
          go_wp2
          go_ret
          exact ⟨by rw [H2.out]; rfl, hB⟩
        | some j =>
          rw [he] at HE
          have HE' : Hid (Calls Tryd.prog 21 #[.slice a ds.length cap, .int .i64 (0 : Nat)] wr fun e w' => e = .returned (.int .i64 j) ∧ wr = w') := HE
          have hj0 := endAt_bd he
          by_cases hj : j = ds.length
          · subst hj
            have H2 : Hid (docF ds = 0) := (show docF ds = 0 by rw [HF.out, he, if_pos rfl])
            have hz : ((ds.length : Int) == 0) = false := beq_eq_false_iff_ne.2 (by omega)
            clear HE he
            go_wp2_with fail
            refine HE'.out.mono ?_
            rintro e w2 ⟨rfl, rfl⟩
            go_wp2
            go_ret
            exact ⟨by rw [H2.out]; rfl, hB⟩
          · have H2 : Hid (docF ds = 2) := (show docF ds = 2 by rw [HF.out, he, if_neg (by simp [hj])])
            have hz : ((j : Int) != (ds.length : Int)) = true := by simp <;> omega
            clear HE he
            go_wp2_with fail
            refine HE'.out.mono ?_
            rintro e w2 ⟨rfl, rfl⟩
            go_wp2
            go_ret
            exact ⟨by rw [H2.out]; rfl, hB⟩
end Go.Proofs.YtfabfclbnekleaaDoor
