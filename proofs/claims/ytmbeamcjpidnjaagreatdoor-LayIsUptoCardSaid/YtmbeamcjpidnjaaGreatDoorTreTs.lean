/- Some texts as one: RWds, TreT. -/
import Derived.Test.YtmbeamcjpidnjaaGreatDoorMems
import Derived.Test.YtmbeamcjpidnjaaGreatDoorFilPs
import Derived.Test.YtmbeamcjpidnjaaGreatDoorTreRs
import Derived.Test.YtmbeamcjpidnjaaGreatDoorTrePs
namespace Go.Proofs.YtmbeamcjpidnjaaGreatDoor
open Go Go.RowKit

set_option maxRecDepth 100000 in
set_option maxHeartbeats 2000000 in
theorem rWords_any (ws : List ByteArray) (a : Option Addr) (cap : Nat) (w : World) (hW : Wds w a ws) :
    Calls Tryz.prog 41 #[.slice a ws.length cap] w fun e w' => e = .returned (.int .i64 (wordsF ws)) ∧ w = w' := by
  have HW : Hid (Wds w a ws) := hW
  clear hW
  by_cases h1 : 60 < (ws.length : Int)
  · have HE : Hid (wordsF ws = 3) := wordsF_full (by omega)
    go_enter Tryz.func41, Tryz.ntmps41
    go_wp2
    go_ret
    exact ⟨by rw [HE.out]; rfl, rfl⟩
  go_enter Tryz.func41, Tryz.ntmps41
  go_wp2
  go_loopw [3] (fun i wr => wr = w ∧ ∃ k : Nat, k ≤ ws.length ∧ i = .int .i64 k ∧ ∀ j (h : j < ws.length), j < k → okW ws[j] = true) (fun i _ => ws.length - (intOf i).toNat)
  case atStart => exact ⟨rfl, 0, Nat.zero_le _, rfl, fun j _ hj => by omega⟩
  case round =>
    obtain ⟨rfl, k, hk, rfl, hall⟩ := hrel
    have HA : Hid (∀ j (h : j < ws.length), j < k → okW ws[j] = true) := hall
    clear hall
    by_cases hlt : k < ws.length
    · obtain ⟨b0, o0, ea, hb0, c0⟩ := HW.out k hlt
      subst ea
      have hki : (k : Int) < (ws.length : Int) := by omega
      have HOK : Hid (okW ws[k] = true → ∀ j (h : j < ws.length), j < k + 1 → okW ws[j] = true) := fun hb j h hj => by
        by_cases hjk : j = k
        · subst hjk; exact hb
        · exact HA.out j h (by omega)
      have HNO : Hid (okW ws[k] = false → wordsF ws = 5) := fun hb => wordsF_not (by omega) hlt hb
      generalize ws[k] = s at c0 HOK HNO
      by_cases g1 : (s.size : Int) < 1
      · have HE : Hid (wordsF ws = 5) := HNO.out (by simp [okW]; omega)
        go_wp2
        go_ret
        exact ⟨by rw [HE.out]; rfl, rfl⟩
      by_cases g2 : 20 < (s.size : Int)
      · have HE : Hid (wordsF ws = 5) := HNO.out (by simp [okW]; omega)
        go_wp2
        go_ret
        exact ⟨by rw [HE.out]; rfl, rfl⟩
      go_wp2
      go_loopw [4] (fun i wx => wx = wr ∧ ∃ m : Nat, m ≤ s.size ∧ i = .int .i64 m ∧ ∀ j (h : j < s.size), j < m → wByte s[j] = true) (fun i _ => s.size - (intOf i).toNat)
      case atStart => exact ⟨rfl, 0, Nat.zero_le _, rfl, fun j _ hj => by omega⟩
      case round =>
        obtain ⟨rfl, m, hm, rfl, hall2⟩ := hrel
        have HA2 : Hid (∀ j (h : j < s.size), j < m → wByte s[j] = true) := hall2
        clear hall2
        by_cases hlt2 : m < s.size
        · have hmi : (m : Int) < (s.size : Int) := by omega
          cases hb : wByte s[m] with
          | false =>
            have HE : Hid (wordsF ws = 5) := HNO.out (okW_not hlt2 hb)
            have hc := wByte_false hb
            clear hb
            rcases hc with hc | ⟨hc, hd⟩
            · go_wp2
              go_ret
              exact ⟨by rw [HE.out]; rfl, rfl⟩
            · go_wp2
              go_ret
              exact ⟨by rw [HE.out]; rfl, rfl⟩
          | true =>
            have HB : Hid (wByte s[m] = true) := hb
            obtain ⟨hc, hd⟩ := wByte_true hb
            clear hb
            go_wp2
            go_roundw
            case rel =>
              refine ⟨by trivial, m + 1, by omega, by go_num, ?_⟩
              intro j h hj
              by_cases hjk : j = m
              · subst hjk; exact HB.out
              · exact HA2.out j h (by omega)
            case measure => simp [intOf]; omega
        · have HE : Hid (∀ j (h : j < ws.length), j < k + 1 → okW ws[j] = true) := HOK.out (okW_take (by omega) (by omega) fun j h => HA2.out j h (by omega))
          go_wp2
          go_roundw
          case rel => exact ⟨by trivial, k + 1, by omega, by go_num, HE.out⟩
          case measure => simp [intOf]; omega
    · have HE : Hid (wordsF ws = 0) := wordsF_all (by omega) fun j h => HA.out j h (by omega)
      go_wp2
      go_ret
      exact ⟨by rw [HE.out]; rfl, rfl⟩
end Go.Proofs.YtmbeamcjpidnjaaGreatDoor
namespace Go.Proofs.YtmbeamcjpidnjaaGreatDoor
open Go Go.RowKit

set_option maxRecDepth 100000 in
set_option maxHeartbeats 16000000 in
theorem rTreeFault_any (ds : List Td) (a : Option Addr) (cap : Nat) (w : World) (hN : Tds w a ds) (hsz : ∀ x ∈ ds, x.tx.size ≤ 1000000000000) : Calls Tryz.prog 15 #[.slice a ds.length cap] w fun e w' => e = .returned (.int .i64 (treeF ds)) ∧ Below w.heap.size w w' := by
  have HN : Hid (Tds w a ds) := hN
  have HSZ : Hid (∀ x ∈ ds, x.tx.size ≤ 1000000000000) := hsz
  clear hN hsz
  by_cases h40 : 40 < (ds.length : Int)
  · have HE : Hid (treeF ds = 3) := treeF_long (by omega)
    go_enter Tryz.func15, Tryz.ntmps15
    go_wp2
    go_ret
    exact ⟨by rw [HE.out]; rfl, Below.refl _ _⟩
  go_enter Tryz.func15, Tryz.ntmps15
  go_wp2
  go_loopw [3] (fun i wr => Below w.heap.size w wr ∧ ∃ k : Nat, k ≤ ds.length ∧ i = .int .i64 k ∧ ∀ x ∈ ds.take k, nodT x = 0) (fun i _ => ds.length - (intOf i).toNat)
  case atStart => exact ⟨Below.refl _ _, 0, Nat.zero_le _, rfl, fun x hx => by simp at hx⟩
  case round =>
    obtain ⟨hbr, k, hk, rfl, hall⟩ := hrel
    have HA : Hid (∀ x ∈ ds.take k, nodT x = 0) := hall
    have HBR : Hid (Below w.heap.size w wr) := hbr
    have hsr := hbr.size
    clear hall hbr
    by_cases hlt : k < ds.length
    · obtain ⟨b, o, ea, hb, c1, c2, c3⟩ := (HN.out.below HBR.out) k hlt
      have hki : (k : Int) < (ds.length : Int) := by omega
      have HZ : Hid (nodT ds[k] ≠ 0 → treeF ds = nodT ds[k]) := fun h => treeF_node (by omega) hlt HA.out h
      have HY : Hid (nodT ds[k] = 0 → ∀ x ∈ ds.take (k + 1), nodT x = 0) := fun h => take_moreT hlt HA.out h
      have htx : ds[k].tx.size ≤ 1000000000000 := HSZ.out _ (List.getElem_mem hlt)
      have HAL : Hid (∀ O : Obj, Below w.heap.size w (wr.alloc O)) := fun O => HBR.out.alloc hsr O
      subst ea
      generalize ds[k] = x at c1 c2 c3 HZ HY htx
      obtain ⟨op, tx, n⟩ := x
      simp only at c1 c2 c3 htx
      by_cases h0 : op < 1
      · skip
        have HE : Hid (treeF ds = 1) := by
          show treeF ds = 1
          have e := nodT_0 (tx := tx) (n := n) h0
          rw [HZ.out (by rw [e]; decide), e]
        clear HZ HY
        go_wp2
        go_ret
        exact ⟨by rw [HE.out]; rfl, HAL.out _⟩
      by_cases h1 : 9 < op
      · skip
        have HE : Hid (treeF ds = 1) := by
          show treeF ds = 1
          have e := nodT_1 (tx := tx) (n := n) h0 h1
          rw [HZ.out (by rw [e]; decide), e]
        clear HZ HY
        go_wp2
        go_ret
        exact ⟨by rw [HE.out]; rfl, HAL.out _⟩
      have hop : op = 1 ∨ op = 2 ∨ op = 3 ∨ op = 4 ∨ op = 5 ∨ op = 6 ∨ op = 7 ∨ op = 8 ∨ op = 9 := by omega
      clear h0 h1
      rcases hop with rfl | rfl | rfl | rfl | rfl | rfl | rfl | rfl | rfl
      · skip
        by_cases h0 : n < 0
        · skip
          have HE : Hid (treeF ds = 1) := by
            show treeF ds = 1
            have e := nodT_2 (tx := tx) (n := n) h0
            rw [HZ.out (by rw [e]; decide), e]
          clear HZ HY
          go_wp2
          go_ret
          exact ⟨by rw [HE.out]; rfl, HAL.out _⟩
        · skip
          by_cases h1 : 999999 < n
          · skip
            have HE : Hid (treeF ds = 1) := by
              show treeF ds = 1
              have e := nodT_3 (tx := tx) (n := n) h0 h1
              rw [HZ.out (by rw [e]; decide), e]
            clear HZ HY
            go_wp2
            go_ret
            exact ⟨by rw [HE.out]; rfl, HAL.out _⟩
          · skip
            by_cases h2 : 0 < (tx.size : Int)
            · skip
              have HE : Hid (treeF ds = 2) := by
                show treeF ds = 2
                have e := nodT_4 (tx := tx) (n := n) h0 h1 h2
                rw [HZ.out (by rw [e]; decide), e]
              clear HZ HY
              go_wp2
              go_ret
              exact ⟨by rw [HE.out]; rfl, HAL.out _⟩
            · skip
              have HE := (show Hid (_) from HY.out (nodT_5 (tx := tx) (n := n) h0 h1 h2))
              clear HZ HY
              go_wp2
              go_roundw
              case rel => exact ⟨HAL.out _, k + 1, by omega, by go_num, HE.out⟩
              case measure => simp [intOf]; omega
      · skip
        by_cases h0 : n = 0
        · skip
          cases h1 : nameT tx with
          | true =>
            have HE := (show Hid (_) from HY.out (nodT_7 (tx := tx) (n := n) h0 h1))
            have HB : Hid (nameT tx = true) := h1
            clear HZ HY h1
            go_wp2_with (go_at_call 33; refine (rIsName_any _ _).mono ?_; rintro e w2 ⟨rfl, rfl⟩; rw [HB.out])
            go_roundw
            case rel => exact ⟨HAL.out _, k + 1, by omega, by go_num, HE.out⟩
            case measure => simp [intOf]; omega
          | false =>
            have HE : Hid (treeF ds = 5) := by
              show treeF ds = 5
              have e := nodT_8 (tx := tx) (n := n) h0 h1
              rw [HZ.out (by rw [e]; decide), e]
            have HB : Hid (nameT tx = false) := h1
            clear HZ HY h1
            go_wp2_with (go_at_call 33; refine (rIsName_any _ _).mono ?_; rintro e w2 ⟨rfl, rfl⟩; rw [HB.out])
            go_ret
            exact ⟨by rw [HE.out]; rfl, HAL.out _⟩
        · skip
          have HE : Hid (treeF ds = 2) := by
            show treeF ds = 2
            have e := nodT_6 (tx := tx) (n := n) h0
            rw [HZ.out (by rw [e]; decide), e]
          clear HZ HY
          go_wp2
          go_ret
          exact ⟨by rw [HE.out]; rfl, HAL.out _⟩
      · skip
        by_cases h0 : n < 0
        · skip
          have HE : Hid (treeF ds = 1) := by
            show treeF ds = 1
            have e := nodT_9 (tx := tx) (n := n) h0
            rw [HZ.out (by rw [e]; decide), e]
          clear HZ HY
          go_wp2
          go_ret
          exact ⟨by rw [HE.out]; rfl, HAL.out _⟩
        · skip
          by_cases h1 : 6 < n
          · skip
            have HE : Hid (treeF ds = 1) := by
              show treeF ds = 1
              have e := nodT_10 (tx := tx) (n := n) h0 h1
              rw [HZ.out (by rw [e]; decide), e]
            clear HZ HY
            go_wp2
            go_ret
            exact ⟨by rw [HE.out]; rfl, HAL.out _⟩
          · skip
            cases h2 : nameT tx with
            | true =>
              have HE := (show Hid (_) from HY.out (nodT_11 (tx := tx) (n := n) h0 h1 h2))
              have HB : Hid (nameT tx = true) := h2
              clear HZ HY h2
              go_wp2_with (go_at_call 33; refine (rIsName_any _ _).mono ?_; rintro e w2 ⟨rfl, rfl⟩; rw [HB.out])
              go_roundw
              case rel => exact ⟨HAL.out _, k + 1, by omega, by go_num, HE.out⟩
              case measure => simp [intOf]; omega
            | false =>
              have HE : Hid (treeF ds = 5) := by
                show treeF ds = 5
                have e := nodT_12 (tx := tx) (n := n) h0 h1 h2
                rw [HZ.out (by rw [e]; decide), e]
              have HB : Hid (nameT tx = false) := h2
              clear HZ HY h2
              go_wp2_with (go_at_call 33; refine (rIsName_any _ _).mono ?_; rintro e w2 ⟨rfl, rfl⟩; rw [HB.out])
              go_ret
              exact ⟨by rw [HE.out]; rfl, HAL.out _⟩
      · skip
        by_cases h0 : n < 0
        · skip
          have HE : Hid (treeF ds = 1) := by
            show treeF ds = 1
            have e := nodT_13 (tx := tx) (n := n) h0
            rw [HZ.out (by rw [e]; decide), e]
          clear HZ HY
          go_wp2
          go_ret
          exact ⟨by rw [HE.out]; rfl, HAL.out _⟩
        · skip
          by_cases h1 : 6 < n
          · skip
            have HE : Hid (treeF ds = 1) := by
              show treeF ds = 1
              have e := nodT_14 (tx := tx) (n := n) h0 h1
              rw [HZ.out (by rw [e]; decide), e]
            clear HZ HY
            go_wp2
            go_ret
            exact ⟨by rw [HE.out]; rfl, HAL.out _⟩
          · skip
            by_cases h2 : 0 < (tx.size : Int)
            · skip
              have HE : Hid (treeF ds = 2) := by
                show treeF ds = 2
                have e := nodT_15 (tx := tx) (n := n) h0 h1 h2
                rw [HZ.out (by rw [e]; decide), e]
              clear HZ HY
              go_wp2
              go_ret
              exact ⟨by rw [HE.out]; rfl, HAL.out _⟩
            · skip
              have HE := (show Hid (_) from HY.out (nodT_16 (tx := tx) (n := n) h0 h1 h2))
              clear HZ HY
              go_wp2
              go_roundw
              case rel => exact ⟨HAL.out _, k + 1, by omega, by go_num, HE.out⟩
              case measure => simp [intOf]; omega
      · skip
        by_cases h0 : n = 0
        · skip
          by_cases h1 : 0 < (tx.size : Int)
          · skip
            have HE : Hid (treeF ds = 2) := by
              show treeF ds = 2
              have e := nodT_18 (tx := tx) (n := n) h0 h1
              rw [HZ.out (by rw [e]; decide), e]
            clear HZ HY
            go_wp2
            go_ret
            exact ⟨by rw [HE.out]; rfl, HAL.out _⟩
          · skip
            have HE := (show Hid (_) from HY.out (nodT_19 (tx := tx) (n := n) h0 h1))
            clear HZ HY
            go_wp2
            go_roundw
            case rel => exact ⟨HAL.out _, k + 1, by omega, by go_num, HE.out⟩
            case measure => simp [intOf]; omega
        · skip
          have HE : Hid (treeF ds = 2) := by
            show treeF ds = 2
            have e := nodT_17 (tx := tx) (n := n) h0
            rw [HZ.out (by rw [e]; decide), e]
          clear HZ HY
          go_wp2
          go_ret
          exact ⟨by rw [HE.out]; rfl, HAL.out _⟩
      · skip
        by_cases h0 : n = 0
        · skip
          by_cases h1 : 0 < (tx.size : Int)
          · skip
            have HE : Hid (treeF ds = 2) := by
              show treeF ds = 2
              have e := nodT_21 (tx := tx) (n := n) h0 h1
              rw [HZ.out (by rw [e]; decide), e]
            clear HZ HY
            go_wp2
            go_ret
            exact ⟨by rw [HE.out]; rfl, HAL.out _⟩
          · skip
            have HE := (show Hid (_) from HY.out (nodT_22 (tx := tx) (n := n) h0 h1))
            clear HZ HY
            go_wp2
            go_roundw
            case rel => exact ⟨HAL.out _, k + 1, by omega, by go_num, HE.out⟩
            case measure => simp [intOf]; omega
        · skip
          have HE : Hid (treeF ds = 2) := by
            show treeF ds = 2
            have e := nodT_20 (tx := tx) (n := n) h0
            rw [HZ.out (by rw [e]; decide), e]
          clear HZ HY
          go_wp2
          go_ret
          exact ⟨by rw [HE.out]; rfl, HAL.out _⟩
      · skip
        by_cases h0 : n = 0
        · skip
          cases h1 : nameT tx with
          | true =>
            have HE := (show Hid (_) from HY.out (nodT_24 (tx := tx) (n := n) h0 h1))
            have HB : Hid (nameT tx = true) := h1
            clear HZ HY h1
            go_wp2_with (go_at_call 33; refine (rIsName_any _ _).mono ?_; rintro e w2 ⟨rfl, rfl⟩; rw [HB.out])
            go_roundw
            case rel => exact ⟨HAL.out _, k + 1, by omega, by go_num, HE.out⟩
            case measure => simp [intOf]; omega
          | false =>
            have HE : Hid (treeF ds = 5) := by
              show treeF ds = 5
              have e := nodT_25 (tx := tx) (n := n) h0 h1
              rw [HZ.out (by rw [e]; decide), e]
            have HB : Hid (nameT tx = false) := h1
            clear HZ HY h1
            go_wp2_with (go_at_call 33; refine (rIsName_any _ _).mono ?_; rintro e w2 ⟨rfl, rfl⟩; rw [HB.out])
            go_ret
            exact ⟨by rw [HE.out]; rfl, HAL.out _⟩
        · skip
          have HE : Hid (treeF ds = 2) := by
            show treeF ds = 2
            have e := nodT_23 (tx := tx) (n := n) h0
            rw [HZ.out (by rw [e]; decide), e]
          clear HZ HY
          go_wp2
          go_ret
          exact ⟨by rw [HE.out]; rfl, HAL.out _⟩
      · skip
        by_cases h0 : n = 0
        · skip
          by_cases h1 : 0 < (tx.size : Int)
          · skip
            have HE : Hid (treeF ds = 2) := by
              show treeF ds = 2
              have e := nodT_27 (tx := tx) (n := n) h0 h1
              rw [HZ.out (by rw [e]; decide), e]
            clear HZ HY
            go_wp2
            go_ret
            exact ⟨by rw [HE.out]; rfl, HAL.out _⟩
          · skip
            have HE := (show Hid (_) from HY.out (nodT_28 (tx := tx) (n := n) h0 h1))
            clear HZ HY
            go_wp2
            go_roundw
            case rel => exact ⟨HAL.out _, k + 1, by omega, by go_num, HE.out⟩
            case measure => simp [intOf]; omega
        · skip
          have HE : Hid (treeF ds = 2) := by
            show treeF ds = 2
            have e := nodT_26 (tx := tx) (n := n) h0
            rw [HZ.out (by rw [e]; decide), e]
          clear HZ HY
          go_wp2
          go_ret
          exact ⟨by rw [HE.out]; rfl, HAL.out _⟩
      · skip
        by_cases h0 : n = 0
        · skip
          by_cases h1 : noteF tx = 0
          · skip
            have HE := (show Hid (_) from HY.out (nodT_30 (tx := tx) (n := n) h0 h1))
            have HB : Hid (noteF tx = 0) := h1
            clear HZ HY h1
            have HNF : Hid (wordsF ((noteW (btL tx)).map wbS) = noteF tx) := rfl
            generalize noteF tx = nf at *
            go_wp2_with fail
            refine (rNoteWords_any tx _ htx).mono ?_
            rintro e w2 ⟨⟨A2, c2', rfl, hO2⟩, b2⟩
            have B2 : Below w.heap.size w w2 := (HAL.out _).trans (b2.mono (by simp; omega))
            have HW2 : Hid (Wds w2 A2 ((noteW (btL tx)).map wbS)) := strsO_wds hO2
            have hnl : (noteW (btL tx)).length = ((noteW (btL tx)).map wbS).length := by rw [List.length_map]
            rw [hnl]
            clear hO2 hnl b2
            generalize (noteW (btL tx)).map wbS = ws at HW2 HNF ⊢
            go_wp2_with fail
            refine (rWords_any ws A2 c2' _ HW2.out).mono ?_
            rintro e w3 ⟨rfl, rfl⟩
            rw [HNF.out]
            rw [HB.out]
            go_wp2
            go_roundw
            case rel => exact ⟨B2, k + 1, by omega, by go_num, HE.out⟩
            case measure => simp [intOf]; omega
          · skip
            have HE : Hid (treeF ds = noteF tx) := by
              show treeF ds = noteF tx
              have e := nodT_31 (tx := tx) (n := n) h0 h1
              rw [HZ.out (by rw [e]; exact h1), e]
            have hnz : (noteF tx != 0) = true := by simp [h1]
            clear HZ HY h1
            have HNF : Hid (wordsF ((noteW (btL tx)).map wbS) = noteF tx) := rfl
            generalize noteF tx = nf at *
            go_wp2_with fail
            refine (rNoteWords_any tx _ htx).mono ?_
            rintro e w2 ⟨⟨A2, c2', rfl, hO2⟩, b2⟩
            have B2 : Below w.heap.size w w2 := (HAL.out _).trans (b2.mono (by simp; omega))
            have HW2 : Hid (Wds w2 A2 ((noteW (btL tx)).map wbS)) := strsO_wds hO2
            have hnl : (noteW (btL tx)).length = ((noteW (btL tx)).map wbS).length := by rw [List.length_map]
            rw [hnl]
            clear hO2 hnl b2
            generalize (noteW (btL tx)).map wbS = ws at HW2 HNF ⊢
            go_wp2_with fail
            refine (rWords_any ws A2 c2' _ HW2.out).mono ?_
            rintro e w3 ⟨rfl, rfl⟩
            rw [HNF.out]
            go_wp2
            go_ret
            exact ⟨by rw [HE.out]; rfl, B2⟩
        · skip
          have HE : Hid (treeF ds = 2) := by
            show treeF ds = 2
            have e := nodT_29 (tx := tx) (n := n) h0
            rw [HZ.out (by rw [e]; decide), e]
          clear HZ HY
          go_wp2
          go_ret
          exact ⟨by rw [HE.out]; rfl, HAL.out _⟩
    · obtain rfl : k = ds.length := by omega
      have HALL : Hid (∀ x ∈ ds, nodT x = 0) := by
        have h := HA.out
        rw [List.take_length] at h
        exact h
      have hki : ¬ (ds.length : Int) < (ds.length : Int) := by omega
      by_cases hz : ds.length = 0
      · have HE : Hid (treeF ds = 2) := by
          show treeF ds = 2
          rw [treeF_end (by omega) HALL.out, endT_out ds 0 0 (by omega), if_neg (by simp)]
        have hzi : ((ds.length : Int) == 0) = true := beq_iff_eq.2 (by omega)
        clear hz
        go_wp2
        go_ret
        exact ⟨by rw [HE.out]; rfl, HBR.out⟩
      · have hzi : ((ds.length : Int) == 0) = false := beq_false_of_ne (by omega)
        have HEO : Hid (Calls Tryz.prog 42 #[.slice a ds.length cap, .int .i64 0] wr fun e w' => e = .returned (.int .i64 (endTZ (endT ds 0 1))) ∧ Below wr.heap.size wr w') := r2EndOf_any ds a cap (by omega) HALL.out (ds.length + 1) 0 wr (HN.out.below HBR.out) (by omega) (by omega)
        by_cases he : endT ds 0 1 = some ds.length
        · have HEZ : Hid (endTZ (endT ds 0 1) = (ds.length : Int)) := by show endTZ _ = _; rw [he]; rfl
          have HT : Hid (treeF ds = if topT ds = true then 0 else 2) := by
            show treeF ds = _
            rw [treeF_end (by omega) HALL.out]
            simp only [he, true_and]
          have hnn : ((ds.length : Int) != (ds.length : Int)) = false := by simp
          clear he hz
          go_wp2_with fail
          refine HEO.out.mono ?_
          rintro e w2 ⟨rfl, b2⟩
          rw [HEZ.out]
          have HB2 : Hid (Below w.heap.size w w2) := belowT HBR.out (Nat.le_refl _) b2
          clear b2
          go_wp2
          go_loopw [8] (fun i wx => wx = w2 ∧ ∃ k : Nat, k ≤ ds.length ∧ i = .int .i64 (k : Int) ∧ ∀ j (h : j < ds.length), j < k → decide (7 ≤ ds[j].op) = decide (j = 0)) (fun i _ => ds.length - (intOf i).toNat)
          case atStart => exact ⟨rfl, 0, Nat.zero_le _, rfl, fun j _ h => by omega⟩
          case round =>
            obtain ⟨rfl, k, hk, rfl, hall⟩ := hrel
            have HA2 : Hid (∀ j (h : j < ds.length), j < k → decide (7 ≤ ds[j].op) = decide (j = 0)) := hall
            clear hall
            by_cases hlt : k < ds.length
            · obtain ⟨b, o, ea, hb, c1, _, _⟩ := (HN.out.below HB2.out) k hlt
              have hkl : (k : Int) < (ds.length : Int) := by omega
              subst ea
              have HYES : Hid (decide (7 ≤ ds[k].op) = decide (k = 0) → ∀ j (h : j < ds.length), j < k + 1 → decide (7 ≤ ds[j].op) = decide (j = 0)) := fun hsame j h hj => by
                by_cases hjk : j = k
                · subst hjk; exact hsame
                · exact HA2.out j h (by omega)
              have HNO : Hid (¬ decide (7 ≤ ds[k].op) = decide (k = 0) → treeF ds = 2) := fun hsame => by
                rw [HT.out, if_neg]
                intro h
                exact hsame (topT_iff.1 h k hlt)
              generalize ds[k].op = op at c1 HYES HNO
              by_cases h7 : 7 ≤ op
              · by_cases hk0 : k = 0
                · have HE := (show Hid (_) from HYES.out (by simp [h7, hk0]))
                  have hkb : ((k : Int) == 0) = true := beq_iff_eq.2 (by omega)
                  clear hk0 HYES HNO
                  go_wp2
                  go_roundw
                  case rel => exact ⟨by trivial, k + 1, by omega, by go_num, HE.out⟩
                  case measure => simp [intOf]; omega
                · have HE := (show Hid (_) from HNO.out (by simp [h7, hk0]))
                  have hkb : ((k : Int) == 0) = false := beq_false_of_ne (by omega)
                  clear hk0 HYES HNO
                  go_wp2
                  go_ret
                  exact ⟨by rw [HE.out]; rfl, HB2.out⟩
              · by_cases hk0 : k = 0
                · have HE := (show Hid (_) from HNO.out (by simp [h7, hk0]))
                  have hkb : ((k : Int) == 0) = true := beq_iff_eq.2 (by omega)
                  clear hk0 HYES HNO
                  go_wp2
                  go_ret
                  exact ⟨by rw [HE.out]; rfl, HB2.out⟩
                · have HE := (show Hid (_) from HYES.out (by simp [h7, hk0]))
                  have hkb : ((k : Int) == 0) = false := beq_false_of_ne (by omega)
                  clear hk0 HYES HNO
                  go_wp2
                  go_roundw
                  case rel => exact ⟨by trivial, k + 1, by omega, by go_num, HE.out⟩
                  case measure => simp [intOf]; omega
            · have HE : Hid (treeF ds = 0) := by
                show treeF ds = 0
                rw [HT.out, if_pos (topT_iff.2 fun j h => HA2.out j h (by omega))]
              have hkl : ¬ (k : Int) < (ds.length : Int) := by omega
              go_wp2
              go_ret
              exact ⟨by rw [HE.out]; rfl, HB2.out⟩
        · have HE : Hid (treeF ds = 2) := by
            show treeF ds = 2
            rw [treeF_end (by omega) HALL.out, if_neg (fun h => he h.1)]
          have hne : (endTZ (endT ds 0 1) != (ds.length : Int)) = true := by
            cases h : endT ds 0 1 with
            | none =>
              simp only [endTZ, bne_iff_ne, ne_eq]
              omega
            | some j =>
              rw [h] at he
              have hj : j ≠ ds.length := fun e => he (by rw [e])
              simp only [endTZ, bne_iff_ne, ne_eq]
              omega
          generalize endTZ (endT ds 0 1) = z at HEO hne
          clear he hz
          go_wp2_with fail
          refine HEO.out.mono ?_
          rintro e w2 ⟨rfl, b2⟩
          have B2 := belowT HBR.out (Nat.le_refl _) b2
          go_wp2
          go_ret
          exact ⟨by rw [HE.out]; rfl, B2⟩
end Go.Proofs.YtmbeamcjpidnjaaGreatDoor
