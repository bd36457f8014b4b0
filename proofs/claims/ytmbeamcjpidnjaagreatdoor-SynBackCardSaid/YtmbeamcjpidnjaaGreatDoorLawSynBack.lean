/- The walk of the law SynBack. -/
import Derived.Test.YtmbeamcjpidnjaaGreatDoorSyW
import Derived.Test.YtmbeamcjpidnjaaGreatDoorSyBs
import Derived.Test.YtmbeamcjpidnjaaGreatDoorSynPs
import Derived.Test.YtmbeamcjpidnjaaGreatDoorLexYs
import Derived.Test.YtmbeamcjpidnjaaGreatDoorTrS
import Derived.Test.YtmbeamcjpidnjaaGreatDoorAsT
namespace Go.Proofs.YtmbeamcjpidnjaaGreatDoor
open Go Go.RowKit

abbrev fxA : Array Value := #[.int .i64 7, .string ⟨#[97]⟩, .int .i64 0, .int .i64 6, .string ⟨#[]⟩, .int .i64 0, .int .i64 5, .string ⟨#[]⟩, .int .i64 0, .int .i64 1, .string ⟨#[]⟩, .int .i64 1, .int .i64 2, .string ⟨#[98]⟩, .int .i64 0, .int .i64 1, .string ⟨#[]⟩, .int .i64 2]
abbrev fxO : Obj := .cells fxA 39
theorem fxO_cell (w : World) {k : Nat} {v : Value} (h : fxA[k]? = some v) : (w.alloc fxO).cell? ⟨w.heap.size, k, none⟩ = some v := by
  have h1 : (w.alloc fxO).heap[w.heap.size]? = some fxO := by
    show (w.heap.push fxO)[w.heap.size]? = _
    simp
  simp only [World.cell?, Option.isSome_none, Bool.false_eq_true, if_false, h1]
  exact h
theorem fxO_tds (w : World) : Tds (w.alloc fxO) (some ⟨w.heap.size, 0, none⟩) fxS := by
  intro i hi
  have hi' : i < 6 := hi
  refine ⟨w.heap.size, 0, rfl, by rw [World.size_alloc]; omega, ?_⟩
  rw [Nat.zero_add]
  match i, hi' with
  | 0, _ => exact ⟨fxO_cell w rfl, fxO_cell w rfl, fxO_cell w rfl⟩
  | 1, _ => exact ⟨fxO_cell w rfl, fxO_cell w rfl, fxO_cell w rfl⟩
  | 2, _ => exact ⟨fxO_cell w rfl, fxO_cell w rfl, fxO_cell w rfl⟩
  | 3, _ => exact ⟨fxO_cell w rfl, fxO_cell w rfl, fxO_cell w rfl⟩
  | 4, _ => exact ⟨fxO_cell w rfl, fxO_cell w rfl, fxO_cell w rfl⟩
  | 5, _ => exact ⟨fxO_cell w rfl, fxO_cell w rfl, fxO_cell w rfl⟩
abbrev fxW (w : World) : World := (w.alloc fxO).alloc (.cells #[.slice (some ⟨w.heap.size, 0, none⟩) 6 6] 40)
theorem fxW_prg (w : World) : Prg (fxW w) (some ⟨w.heap.size + 1, 0, none⟩) [fxS] := by
  intro i hi
  have hi0 : i = 0 := by simp at hi; exact hi
  subst hi0
  refine ⟨w.heap.size + 1, 0, some ⟨w.heap.size, 0, none⟩, 6, rfl, by rw [World.size_alloc, World.size_alloc]; omega, ?_, (show fxS.length ≤ 6 by decide), (fxO_tds w).alloc _⟩
  have h1 : (fxW w).heap[w.heap.size + 1]? = some (.cells #[.slice (some ⟨w.heap.size, 0, none⟩) 6 6] 40) := by
    show ((w.alloc fxO).heap.push _)[w.heap.size + 1]? = _
    have : (w.alloc fxO).heap.size = w.heap.size + 1 := World.size_alloc _ _
    have key : ∀ (H : Array Obj) (o : Obj), (H.push o)[H.size]? = some o := fun H o => by simp
    rw [← this]
    exact key _ _
  simp only [World.cell?, Option.isSome_none, Bool.false_eq_true, if_false, h1, Nat.zero_add]
  rfl
theorem fx_print (w : World) (ht : Tabs w) : Calls Tryz.prog 9 #[.slice (some ⟨w.heap.size + 1, 0, none⟩) 1 1] (fxW w) fun e w' => e = .returned (.tuple #[.string ⟨#[108, 101, 116, 32, 97, 32, 61, 32, 40, 49, 32, 43, 32, 98, 41, 32, 42, 32, 50, 59, 10]⟩, .nilIface]) ∧ Below w.heap.size w w' := by
  refine (synPrint_nine [fxS] _ 1 (fxW w) (by decide) (fxW_prg w) (fun t ht x hx => Nat.le_trans (prg_small (ps := [fxS]) (by rw [fxS_ok]) t ht x hx) (by decide)) ((ht.below (belA w _)).below (belA _ _))).mono ?_
  rintro e w' ⟨rfl, hb⟩
  have e1 : prnS [fxS] = wbS (prgTx [fxS]) := prnS_ok (by rw [fxS_ok])
  rw [e1, fxS_tx, fxS_ok]
  refine ⟨rfl, ?_⟩
  have hb0 : Below w.heap.size w (fxW w) := ((Below.refl _ _).alloc (Nat.le_refl _) _).alloc (by rw [World.size_alloc]; omega) _
  exact hb0.trans (hb.mono (by rw [World.size_alloc, World.size_alloc]; omega))

set_option maxRecDepth 100000 in
set_option maxHeartbeats 8000000 in
theorem synBack_any (ps : List (List Td)) (a : Option Addr) (cap : Nat) (s : ByteArray) (w : World) (hc : ps.length ≤ cap) (hP : Prg w a ps) (hsz : ∀ t ∈ ps, Few9 t) (hg : Hnd w) (ht : Tabs w) :
    Calls Tryz.prog 4 #[.slice a ps.length cap, .string s] w fun e w' => e = .returned (.bool true) ∧ Below w.heap.size w w' := by
  have HG : Hid (Hnd w) := hg
  have HPP : Hid (Prg w a ps) := hP
  have HFX : Hid (Calls Tryz.prog 9 #[.slice (some ⟨w.heap.size + 1, 0, none⟩) 1 1] (fxW w) fun e w' => e = .returned (.tuple #[.string ⟨#[108, 101, 116, 32, 97, 32, 61, 32, 40, 49, 32, 43, 32, 98, 41, 32, 42, 32, 50, 59, 10]⟩, .nilIface]) ∧ Below w.heap.size w w') := fx_print w ht
  have HSP : Hid (∀ W : World, Below w.heap.size w W → Calls Tryz.prog 9 #[.slice a ps.length cap] W fun e w' => e = .returned (.tuple #[.string (prnS ps), errN (progF ps).2]) ∧ Below W.heap.size W w') := fun W h => synPrint_nine ps a cap W hc (hP.below h) hsz (ht.below h)
  have HSY : Hid (∀ (u : ByteArray) (W : World), Below w.heap.size w W → Calls Tryz.prog 12 #[.string u] W fun e w' => ParOut u W e w') := fun u W h => synParse_any u W (ht.below h)
  have HTB : Hid (Tabs w) := ht
  clear hg hP hsz ht
  by_cases h0 : (progF ps).2 = 0
  · obtain ⟨h1, h2⟩ := prog_ok h0
    have HL40 : Hid (∀ t ∈ ps, t.length ≤ 40) := fun t ht => (treeF_zero (okP_all ps 0 h2 t ht)).1
    have HPB : Hid (∀ {qs : List (List Td)} {k f : Int}, ParR (wbS (prgTx ps)) qs k f → (f = 0 ∧ qs = ps ∧ lexE (prgTx ps) = 0) ∨ (f = 3 ∧ qs = [] ∧ lexE (prgTx ps) = 3)) := fun h => parR_print h0 h
    have HLW : Hid (∀ W : World, Calls Tryz.prog 14 #[.string (wbS (prgTx ps))] W fun e w' => WordsRes (wbS (prgTx ps)) e w' ∧ Below W.heap.size W w') := fun W => words_any _ W
    rw [prnS_ok h0, h0] at HSP
    clear h0 h2
    go_enter Tryz.func4, Tryz.ntmps4
    go_wp2_with fail
    refine HFX.out.mono ?_
    rintro e w1 ⟨rfl, b1⟩
    have HB1 : Hid (Below w.heap.size w w1) := b1
    clear b1 HFX
    go_wp2_with fail
    refine (HSP.out _ HB1.out).mono ?_
    rintro e w2 ⟨rfl, b2⟩
    have HB2 : Hid (Below w.heap.size w w2) := belowT HB1.out (Nat.le_refl _) b2
    clear b2 HB1 HSP
    rw [errN_0]
    go_wp2_with fail
    refine (HSY.out _ _ HB2.out).mono ?_
    rintro e w3 ⟨qs, k, f, A, c, rfl, hR, hQ, hqc, b3⟩
    have HB3 : Hid (Below w.heap.size w w3) := belowT HB2.out (Nat.le_refl _) b3
    have HQ : Hid (Prg w3 A qs) := hQ
    have hlq := parR_len hR
    have HCS := (show Hid (_) from HPB.out hR)
    clear b3 hR hQ HB2
    rcases HCS.out with ⟨rfl, rfl, hle⟩ | ⟨rfl, rfl, hle⟩
    · have HLE : Hid (lexE (prgTx qs) = 0) := hle
      clear hle HCS
      go_wp2_with fail
      refine (serr_any 0 3 _ (HG.out.below HB3.out)).mono ?_
      rintro e w4 ⟨rfl, b4⟩
      rw [errN_0]
      have HB4 : Hid (Below w.heap.size w w4) := belowT HB3.out (Nat.le_refl _) b4
      have HSM : Hid (Calls Tryz.prog 13 #[.slice A qs.length c, .slice a qs.length cap] w4 fun e w' => e = .returned (.bool true) ∧ ∃ q, w' = w4.drewN q) := sprogs_any qs qs A a c cap (by omega) (fun t ht => by have := HL40.out t ht; omega) true (by simp) w4 (HQ.out.below b4) (HPP.out.below HB4.out)
      clear b4 HB3 HQ
      go_wp2_with fail
      refine HSM.out.mono ?_
      rintro e w5 ⟨rfl, q5, rfl⟩
      have HB5 : Hid (Below w.heap.size w (w4.drewN q5)) := belDraw HB4.out q5
      generalize w4.drewN q5 = w5 at HB5 ⊢
      clear HSM HB4
      go_wp2_with fail
      refine (HLW.out _).mono ?_
      rintro e w6 ⟨hres, b6⟩
      have HB6 : Hid (Below w.heap.size w w6) := belowT HB5.out (Nat.le_refl _) b6
      clear b6 HB5
      rcases hres with ⟨hx, rfl⟩ | ⟨_, A6, P6, a6, p6, rfl, _⟩
      · exact absurd HLE.out hx
      generalize (wdsL (btL (wbS (prgTx qs)))).length = nw
      go_wp2_with fail
      refine (HSY.out _ _ HB6.out).mono ?_
      rintro e w7 ⟨qs7, k7, f7, A7, c7, rfl, hR7, hQ7, hc7, b7⟩
      have HB7 : Hid (Below w.heap.size w w7) := belowT HB6.out (Nat.le_refl _) b7
      have HQ7 : Hid (Prg w7 A7 qs7) := hQ7
      have HR7 : Hid (ParR s qs7 k7 f7) := hR7
      clear hQ7 b7 hR7 HB6
      by_cases hf7 : f7 = 0
      · subst hf7
        obtain ⟨hpf, hag⟩ := parR_again HR7.out
        have HAG : Hid (∀ {q' : List (List Td)} {k' f' : Int}, ParR (wbS (prgTx qs7)) q' k' f' → f' = 0 ∧ q' = qs7) := fun h => hag h
        have HL7 := (show Hid (_) from parR_len HR7.out)
        have HS7 : Hid (Calls Tryz.prog 9 #[.slice A7 qs7.length c7] w7 fun e w' => e = .returned (.tuple #[.string (wbS (prgTx qs7)), .nilIface]) ∧ Below w7.heap.size w7 w') := by
          have h1 := synPrint_nine qs7 A7 c7 w7 hc7 HQ7.out (fun t ht x hx => Nat.le_trans (prg_small hpf t ht x hx) (by decide)) (HTB.out.below HB7.out)
          rw [prnS_ok hpf, hpf, errN_0] at h1
          exact h1
        rw [errN_0]
        clear hag hpf hc7 HR7
        go_wp2_with fail
        refine HS7.out.mono ?_
        rintro e w8 ⟨rfl, b8⟩
        have HB8 : Hid (Below w.heap.size w w8) := belowT HB7.out (Nat.le_refl _) b8
        have HQ8 : Hid (Prg w8 A7 qs7) := HQ7.out.below b8
        clear b8 HB7 HQ7 HS7
        go_wp2_with fail
        refine (HSY.out _ _ HB8.out).mono ?_
        rintro e w9 ⟨qs9, k9, f9, A9, c9, rfl, hR9, hQ9, hc9, b9⟩
        obtain ⟨rfl, rfl⟩ := HAG.out hR9
        have HB9 : Hid (Below w.heap.size w w9) := belowT HB8.out (Nat.le_refl _) b9
        have HSM9 : Hid (Calls Tryz.prog 13 #[.slice A9 qs9.length c9, .slice A7 qs9.length c7] w9 fun e w' => e = .returned (.bool true) ∧ ∃ q, w' = w9.drewN q) := sprogs_any qs9 qs9 A9 A7 c9 c7 (by have := HL7.out.1; omega) (fun t ht => by have := HL7.out.2 t ht; omega) true (by simp) w9 hQ9 (HQ8.out.below b9)
        rw [errN_0]
        clear hR9 hQ9 hc9 b9 HB8 HQ8
        go_wp2_with fail
        refine HSM9.out.mono ?_
        rintro e w10 ⟨rfl, q10, rfl⟩
        have HB10 : Hid (Below w.heap.size w (w9.drewN q10)) := belDraw HB9.out q10
        go_wp2
        go_ret
        exact ⟨rfl, HB10.out⟩
      · have HN7 := (show Hid (_ = _) from errN_ne hf7)
        rw [HN7.out]
        clear HR7 HQ7
        go_wp2
        go_ret
        exact ⟨rfl, HB7.out⟩
    · have HLE : Hid (lexE (prgTx ps) = 3) := hle
      clear hle HCS
      go_wp2_with fail
      refine (serr_any 3 3 _ (HG.out.below HB3.out)).mono ?_
      rintro e w4 ⟨rfl, b4⟩
      rw [errN_3]
      have HB4 : Hid (Below w.heap.size w w4) := belowT HB3.out (Nat.le_refl _) b4
      obtain ⟨rr, hrr⟩ : ∃ r : Bool, r = true ↔ ([] : List (List Td)) = ps := by
        by_cases e : ([] : List (List Td)) = ps
        · exact ⟨true, by simp [e]⟩
        · exact ⟨false, by simp [e]⟩
      have HSM : Hid (Calls Tryz.prog 13 #[.slice A 0 c, .slice a ps.length cap] w4 fun e w' => e = .returned (.bool rr) ∧ ∃ q, w' = w4.drewN q) := sprogs_any [] ps A a c cap (by decide) (fun t ht => by cases ht) rr hrr w4 (Prg.nil _ _) (HPP.out.below HB4.out)
      clear b4 HB3 HQ hrr
      go_wp2_with fail
      refine HSM.out.mono ?_
      rintro e w5 ⟨rfl, q5, rfl⟩
      have HB5 : Hid (Below w.heap.size w (w4.drewN q5)) := belDraw HB4.out q5
      generalize w4.drewN q5 = w5 at HB5 ⊢
      clear HSM HB4
      go_wp2_with fail
      refine (HLW.out _).mono ?_
      rintro e w6 ⟨hres, b6⟩
      have HB6 : Hid (Below w.heap.size w w6) := belowT HB5.out (Nat.le_refl _) b6
      clear b6 HB5
      rcases hres with ⟨_, rfl⟩ | ⟨hx, _⟩
      · have e3 : lexE (btL (wbS (prgTx ps))) = 3 := HLE.out
        rw [e3, errN_3]
        generalize ((lexK (btL (wbS (prgTx ps))) : Nat) : Int) = kk
        go_wp2_with fail
        refine (HSY.out _ _ HB6.out).mono ?_
        rintro e w7 ⟨qs7, k7, f7, A7, c7, rfl, hR7, hQ7, hc7, b7⟩
        have HB7 : Hid (Below w.heap.size w w7) := belowT HB6.out (Nat.le_refl _) b7
        have HQ7 : Hid (Prg w7 A7 qs7) := hQ7
        have HR7 : Hid (ParR s qs7 k7 f7) := hR7
        clear hQ7 b7 hR7 HB6
        by_cases hf7 : f7 = 0
        · subst hf7
          obtain ⟨hpf, hag⟩ := parR_again HR7.out
          have HAG : Hid (∀ {q' : List (List Td)} {k' f' : Int}, ParR (wbS (prgTx qs7)) q' k' f' → f' = 0 ∧ q' = qs7) := fun h => hag h
          have HL7 := (show Hid (_) from parR_len HR7.out)
          have HS7 : Hid (Calls Tryz.prog 9 #[.slice A7 qs7.length c7] w7 fun e w' => e = .returned (.tuple #[.string (wbS (prgTx qs7)), .nilIface]) ∧ Below w7.heap.size w7 w') := by
            have h1 := synPrint_nine qs7 A7 c7 w7 hc7 HQ7.out (fun t ht x hx => Nat.le_trans (prg_small hpf t ht x hx) (by decide)) (HTB.out.below HB7.out)
            rw [prnS_ok hpf, hpf, errN_0] at h1
            exact h1
          rw [errN_0]
          clear hag hpf hc7 HR7
          go_wp2_with fail
          refine HS7.out.mono ?_
          rintro e w8 ⟨rfl, b8⟩
          have HB8 : Hid (Below w.heap.size w w8) := belowT HB7.out (Nat.le_refl _) b8
          have HQ8 : Hid (Prg w8 A7 qs7) := HQ7.out.below b8
          clear b8 HB7 HQ7 HS7
          go_wp2_with fail
          refine (HSY.out _ _ HB8.out).mono ?_
          rintro e w9 ⟨qs9, k9, f9, A9, c9, rfl, hR9, hQ9, hc9, b9⟩
          obtain ⟨rfl, rfl⟩ := HAG.out hR9
          have HB9 : Hid (Below w.heap.size w w9) := belowT HB8.out (Nat.le_refl _) b9
          have HSM9 : Hid (Calls Tryz.prog 13 #[.slice A9 qs9.length c9, .slice A7 qs9.length c7] w9 fun e w' => e = .returned (.bool true) ∧ ∃ q, w' = w9.drewN q) := sprogs_any qs9 qs9 A9 A7 c9 c7 (by have := HL7.out.1; omega) (fun t ht => by have := HL7.out.2 t ht; omega) true (by simp) w9 hQ9 (HQ8.out.below b9)
          rw [errN_0]
          clear hR9 hQ9 hc9 b9 HB8 HQ8
          go_wp2_with fail
          refine HSM9.out.mono ?_
          rintro e w10 ⟨rfl, q10, rfl⟩
          have HB10 : Hid (Below w.heap.size w (w9.drewN q10)) := belDraw HB9.out q10
          go_wp2
          go_ret
          exact ⟨rfl, HB10.out⟩
        · have HN7 := (show Hid (_ = _) from errN_ne hf7)
          rw [HN7.out]
          clear HR7 HQ7
          go_wp2
          go_ret
          exact ⟨rfl, HB7.out⟩
      · have e3 : lexE (btL (wbS (prgTx ps))) = 3 := HLE.out
        rw [e3] at hx
        cases hx
  · have HNE : Hid (errN (progF ps).2 = .iface 23 (.int .i64 (progF ps).2)) := errN_ne h0
    rw [prnS_no h0] at HSP
    generalize (progF ps).2 = E at HSP HNE
    clear h0
    go_enter Tryz.func4, Tryz.ntmps4
    go_wp2_with fail
    refine HFX.out.mono ?_
    rintro e w1 ⟨rfl, b1⟩
    have HB1 : Hid (Below w.heap.size w w1) := b1
    clear b1 HFX
    go_wp2_with fail
    refine (HSP.out _ HB1.out).mono ?_
    rintro e w6 ⟨rfl, b2⟩
    have HB6 : Hid (Below w.heap.size w w6) := belowT HB1.out (Nat.le_refl _) b2
    clear b2 HB1 HSP
    rw [HNE.out]
    go_wp2_with fail
    refine (HSY.out _ _ HB6.out).mono ?_
    rintro e w7 ⟨qs7, k7, f7, A7, c7, rfl, hR7, hQ7, hc7, b7⟩
    have HB7 : Hid (Below w.heap.size w w7) := belowT HB6.out (Nat.le_refl _) b7
    have HQ7 : Hid (Prg w7 A7 qs7) := hQ7
    have HR7 : Hid (ParR s qs7 k7 f7) := hR7
    clear hQ7 b7 hR7 HB6
    by_cases hf7 : f7 = 0
    · subst hf7
      obtain ⟨hpf, hag⟩ := parR_again HR7.out
      have HAG : Hid (∀ {q' : List (List Td)} {k' f' : Int}, ParR (wbS (prgTx qs7)) q' k' f' → f' = 0 ∧ q' = qs7) := fun h => hag h
      have HL7 := (show Hid (_) from parR_len HR7.out)
      have HS7 : Hid (Calls Tryz.prog 9 #[.slice A7 qs7.length c7] w7 fun e w' => e = .returned (.tuple #[.string (wbS (prgTx qs7)), .nilIface]) ∧ Below w7.heap.size w7 w') := by
        have h1 := synPrint_nine qs7 A7 c7 w7 hc7 HQ7.out (fun t ht x hx => Nat.le_trans (prg_small hpf t ht x hx) (by decide)) (HTB.out.below HB7.out)
        rw [prnS_ok hpf, hpf, errN_0] at h1
        exact h1
      rw [errN_0]
      clear hag hpf hc7 HR7
      go_wp2_with fail
      refine HS7.out.mono ?_
      rintro e w8 ⟨rfl, b8⟩
      have HB8 : Hid (Below w.heap.size w w8) := belowT HB7.out (Nat.le_refl _) b8
      have HQ8 : Hid (Prg w8 A7 qs7) := HQ7.out.below b8
      clear b8 HB7 HQ7 HS7
      go_wp2_with fail
      refine (HSY.out _ _ HB8.out).mono ?_
      rintro e w9 ⟨qs9, k9, f9, A9, c9, rfl, hR9, hQ9, hc9, b9⟩
      obtain ⟨rfl, rfl⟩ := HAG.out hR9
      have HB9 : Hid (Below w.heap.size w w9) := belowT HB8.out (Nat.le_refl _) b9
      have HSM9 : Hid (Calls Tryz.prog 13 #[.slice A9 qs9.length c9, .slice A7 qs9.length c7] w9 fun e w' => e = .returned (.bool true) ∧ ∃ q, w' = w9.drewN q) := sprogs_any qs9 qs9 A9 A7 c9 c7 (by have := HL7.out.1; omega) (fun t ht => by have := HL7.out.2 t ht; omega) true (by simp) w9 hQ9 (HQ8.out.below b9)
      rw [errN_0]
      clear hR9 hQ9 hc9 b9 HB8 HQ8
      go_wp2_with fail
      refine HSM9.out.mono ?_
      rintro e w10 ⟨rfl, q10, rfl⟩
      have HB10 : Hid (Below w.heap.size w (w9.drewN q10)) := belDraw HB9.out q10
      go_wp2
      go_ret
      exact ⟨rfl, HB10.out⟩
    · have HN7 := (show Hid (_ = _) from errN_ne hf7)
      rw [HN7.out]
      clear HR7 HQ7
      go_wp2
      go_ret
      exact ⟨rfl, HB7.out⟩
end Go.Proofs.YtmbeamcjpidnjaaGreatDoor
