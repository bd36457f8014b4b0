/- Package lay: Doc, Note. -/
import Derived.Test.YtmbeamcjpidnjaaGreatDoorLayO
import Derived.Test.YtmbeamcjpidnjaaGreatDoorLyBs
import Derived.Test.YtmbeamcjpidnjaaGreatDoorTreZs
import Derived.Test.YtmbeamcjpidnjaaGreatDoorSyQ
import Derived.Test.YtmbeamcjpidnjaaGreatDoorSyM
namespace Go.Proofs.YtmbeamcjpidnjaaGreatDoor
open Go Go.RowKit

theorem szW_few : ∀ W : List Wd, (∀ w ∈ W, w.length ≤ 20) → szW W ≤ 21 * W.length
  | [], _ => Nat.le_refl _
  | x :: r, h => by
    have h1 := szW_few r fun w hw => h w (by simp [hw])
    have h2 := h x (by simp)
    rw [szW_cons, List.length_cons]
    omega
/-- The words of a note that may be, as strings.Fields has them. -/
theorem note_fld {tx : ByteArray} (h : noteF tx = 0) : Lib.fields (btL tx) = noteW (btL tx) ∧ (btL tx).length ≤ 2000 ∧ ∀ b ∈ btL tx, b.toNat < 128 := by
  obtain ⟨h1, h2⟩ := note_ok h
  by_cases hne : btL tx = []
  · rw [hne]
    exact ⟨rfl, by simp, fun b hb => by cases hb⟩
  · have e2 : noteW (btL tx) = splB (btL tx) := by rw [noteW, if_neg hne]
    rw [e2] at h1 h2 ⊢
    have hj := jb_spl (btL tx)
    have hpr : ∀ b ∈ btL tx, prB b = true := by
      intro b hb
      rw [← hj] at hb
      refine jb_bytes (p := prB) rfl (splB (btL tx)) (fun w hw b hb => ?_) b hb
      have h3 := (h2 w hw).2.2 b hb
      simp only [wByte, Bool.and_eq_true, decide_eq_true_eq] at h3
      simp only [prB, Bool.and_eq_true, decide_eq_true_eq]
      omega
    refine ⟨?_, ?_, fun b hb => ?_⟩
    · rw [fields_spl fun b hb hs => pr_sp (hpr b hb) hs, List.filter_eq_self]
      intro w hw
      have := (h2 w hw).1
      cases w with
      | nil => exact absurd rfl this
      | cons => rfl
    · have q1 := jb_sz (splB (btL tx))
      have q2 := szW_few (splB (btL tx)) fun w hw => (h2 w hw).2.1
      rw [hj] at q1
      omega
    · have := hpr b hb
      simp only [prB, Bool.and_eq_true, decide_eq_true_eq] at this
      omega
theorem lfields_any {tx : ByteArray} (h : noteF tx = 0) (w : World) (ht : Tabs w) : Calls Tryz.prog 52 #[.string tx] w fun e w' => (∃ g, e = .returned (.slice (some ⟨g, 0, none⟩) (noteW (btL tx)).length (noteW (btL tx)).length) ∧ Wds w' (some ⟨g, 0, none⟩) ((noteW (btL tx)).map wbS)) ∧ Below w.heap.size w w' := by
  obtain ⟨h1, h2, h3⟩ := note_fld h
  rw [← h1]
  rw [btL_len] at h2
  refine (fields_sh tx w (by omega) (fun j c hj => h3 c (List.mem_of_getElem? hj)) ht.spc).mono ?_
  rintro e w' ⟨rfl, rfl⟩
  refine ⟨⟨w.heap.size, rfl, ?_⟩, belA w _⟩
  intro i hi
  have hi2 : i < (Lib.fields (btL tx)).length := by simpa using hi
  refine ⟨w.heap.size, 0, rfl, by rw [World.size_alloc]; omega, ?_⟩
  rw [Nat.zero_add]
  have hk := heap_alloc_new w (.cells ((Lib.fields (btL tx)).map fun l => Value.string ⟨l.toArray⟩).toArray 9)
  rw [Lib.cell_of_heap hk]
  show ((Lib.fields (btL tx)).map fun l => Value.string ⟨l.toArray⟩).toArray[i]? = _
  rw [List.getElem?_toArray, List.getElem?_map, show (Lib.fields (btL tx))[i]? = some (Lib.fields (btL tx))[i] from List.getElem?_eq_getElem hi2]
  simp [wbS]
theorem op_cell {t : List Td} {a : Option Addr} {w : World} (h : treeF t = 0) (hN : Tds w a t) : 0 < t.length ∧ ∃ b o, a = some ⟨b, o, none⟩ ∧ b < w.heap.size ∧ w.cell? ⟨b, o, none⟩ = some (.int .i64 (opT t)) ∧ w.cell? ⟨b, o + 1, none⟩ = some (.string (txT t)) := by
  have hpos := treeF_ne h
  obtain ⟨b, o, e, hb, c1, c2, _⟩ := hN 0 hpos
  refine ⟨hpos, b, o, e, hb, ?_, ?_⟩
  · rw [opT_get hpos]; simpa using c1
  · cases t with
    | nil => simp at hpos
    | cons x r => simpa [txT] using c2
set_option maxRecDepth 100000 in
theorem lisNote_any {b o cap n : Nat} {op : Int} {w : World} (hn : 0 < n) (h : w.cell? ⟨b, o, none⟩ = some (.int .i64 op)) : Calls Tryz.prog 50 #[.slice (some ⟨b, o, none⟩) n cap] w fun e w' => e = .returned (.bool (op == 9)) ∧ w = w' := by
  have hpi : (0 : Int) < (n : Int) := by omega
  go_enter Tryz.func50, Tryz.ntmps50
  go_wp2
  go_ret
  exact ⟨rfl, rfl⟩
set_option maxRecDepth 100000 in
set_option maxHeartbeats 2000000 in
theorem layDoc_any (t : List Td) (a : Option Addr) (cap : Nat) (w : World) (ht : TabP w) (hc : t.length ≤ cap) (hN : Tds w a t) (hsz : Few9 t) : Calls Tryz.prog 18 #[.slice a t.length cap] w fun e w' => DocOut t e w' ∧ Below w.heap.size w w' := by
  have HC : Hid (Calls Tryz.prog 49 #[.slice a t.length cap] w fun e w' => e = .returned (errN (treeF t)) ∧ Below w.heap.size w w') := tCheck_nine t a cap w hc hN hsz
  have HN : Hid (Tds w a t) := hN
  have HT : Hid (TabP w) := ht
  clear hN hsz ht
  by_cases h0 : treeF t = 0
  · obtain ⟨hpos, b, o, rfl, hb, c1, c2⟩ := op_cell h0 HN.out
    have HI : Hid (∀ W : World, Below w.heap.size w W → Calls Tryz.prog 50 #[.slice (some ⟨b, o, none⟩) t.length cap] W fun e w' => e = .returned (.bool (opT t == 9)) ∧ W = w') := fun W h => lisNote_any hpos (((bcell h).1 _ _ hb).trans c1)
    rw [h0] at HC
    clear c1 c2
    by_cases h9 : opT t = 9
    · obtain ⟨e1, e2, _, _⟩ := lay_note h0 h9
      have HO : Hid (∀ W, DocOut t (.returned (.tuple #[.slice none 0 0, errN 2])) W) := fun W => ⟨none, 0, by rw [e1, e2]; rfl, by rw [e2]; exact fun i hi => by simp at hi, by rw [e2]; exact Nat.le_refl _⟩
      rw [show (opT t == 9) = true by simp [h9]] at HI
      clear h0 h9 e1 e2
      go_enter Tryz.func18, Tryz.ntmps18
      go_wp2_with fail
      refine HC.out.mono ?_
      rintro e w1 ⟨rfl, b1⟩
      rw [errN_0]
      have HB1 : Hid (Below w.heap.size w w1) := b1
      clear b1
      go_wp2_with fail
      refine (HI.out _ HB1.out).mono ?_
      rintro e w2 ⟨rfl, rfl⟩
      go_wp2
      go_ret2
      exact ⟨HO.out _, HB1.out⟩
    · have HLD : Hid (∀ W : World, Below w.heap.size w W → Calls Tryz.prog 51 #[.slice (some ⟨b, o, none⟩) t.length cap] W fun e w' => (∃ A c, e = .returned (.tuple #[.slice A (layD t).length c, errN (layE t)]) ∧ Nods w' A (layD t) ∧ (layD t).length ≤ c) ∧ Below W.heap.size W w') := fun W h => llaid_any t _ cap W (HT.out.below h) h0 h9 hc (HN.out.below h)
      have HO : Hid (∀ A c W, Nods W A (layD t) → (layD t).length ≤ c → DocOut t (.returned (.tuple #[.slice A (layD t).length c, errN (layE t)])) W) := fun A c W h h2 => ⟨A, c, rfl, h, h2⟩
      rw [show (opT t == 9) = false by simp [h9]] at HI
      generalize layD t = xs at HLD HO
      generalize errN (layE t) = er at HLD HO
      clear h0 h9
      go_enter Tryz.func18, Tryz.ntmps18
      go_wp2_with fail
      refine HC.out.mono ?_
      rintro e w1 ⟨rfl, b1⟩
      rw [errN_0]
      have HB1 : Hid (Below w.heap.size w w1) := b1
      clear b1
      go_wp2_with fail
      refine (HI.out _ HB1.out).mono ?_
      rintro e w2 ⟨rfl, rfl⟩
      go_wp2_with fail
      refine (HLD.out _ HB1.out).mono ?_
      rintro e w3 ⟨⟨A, c, rfl, hO, hl⟩, b3⟩
      have HB3 : Hid (Below w.heap.size w w3) := belowT HB1.out (Nat.le_refl _) b3
      have HN3 := (show Hid (_) from HO.out A c w3 hO hl)
      clear hO hl b3
      generalize xs.length = nx at HN3 ⊢
      go_wp2
      go_ret2
      exact ⟨HN3.out, HB3.out⟩
  · obtain ⟨e1, e2, _, _⟩ := lay_bad h0
    have HE : Hid (errN (treeF t) = .iface 23 (.int .i64 (treeF t))) := errN_ne h0
    have HO : Hid (∀ W, DocOut t (.returned (.tuple #[.slice none 0 0, errN (treeF t)])) W) := fun W => ⟨none, 0, by rw [e1, e2]; rfl, by rw [e2]; exact fun i hi => by simp at hi, by rw [e2]; exact Nat.le_refl _⟩
    clear e1 e2 h0
    go_enter Tryz.func18, Tryz.ntmps18
    go_wp2_with fail
    refine HC.out.mono ?_
    rintro e w1 ⟨rfl, b1⟩
    rw [HE.out]
    go_wp2
    go_ret2
    exact ⟨by have := HO.out w1; rw [HE.out] at this; exact this, b1⟩
theorem note_of {t : List Td} (h : treeF t = 0) (h9 : opT t = 9) : noteF (txT t) = 0 := by
  rcases st_cases h with ⟨x, rfl, _, _, hf⟩ | ⟨x, F, rfl, _, _, _, hx⟩
  · exact hf
  · exfalso
    have e : opT (x :: F.nodes) = x.op := rfl
    rcases hx with ⟨ho, _⟩ | ⟨ho, _⟩ <;> omega
set_option maxRecDepth 100000 in
set_option maxHeartbeats 2000000 in
theorem layNote_any (t : List Td) (a : Option Addr) (cap : Nat) (w : World) (ht : Tabs w) (hc : t.length ≤ cap) (hN : Tds w a t) (hsz : Few9 t) : Calls Tryz.prog 20 #[.slice a t.length cap] w fun e w' => NoteOut t e w' ∧ Below w.heap.size w w' := by
  have HC : Hid (Calls Tryz.prog 49 #[.slice a t.length cap] w fun e w' => e = .returned (errN (treeF t)) ∧ Below w.heap.size w w') := tCheck_nine t a cap w hc hN hsz
  have HN : Hid (Tds w a t) := hN
  have HT : Hid (Tabs w) := ht
  clear hN hsz ht
  by_cases h0 : treeF t = 0
  · obtain ⟨hpos, b, o, rfl, hb, c1, c2⟩ := op_cell h0 HN.out
    have HI : Hid (∀ W : World, Below w.heap.size w W → Calls Tryz.prog 50 #[.slice (some ⟨b, o, none⟩) t.length cap] W fun e w' => e = .returned (.bool (opT t == 9)) ∧ W = w') := fun W h => lisNote_any hpos (((bcell h).1 _ _ hb).trans c1)
    have HCE : Hid (∀ W : World, Below w.heap.size w W → W.cell? ⟨b, o + 1, none⟩ = some (.string (txT t))) := fun W h => ((bcell h).1 _ _ hb).trans c2
    rw [h0] at HC
    have hpi : (0 : Int) < (t.length : Int) := by omega
    clear c1 c2
    by_cases h9 : opT t = 9
    · obtain ⟨_, _, e1, e2⟩ := lay_note h0 h9
      have hnf := note_of h0 h9
      have htz : (txT t).size ≤ 2000 := by rw [← btL_len]; exact (note_fld hnf).2.1
      have HCL : Hid (∀ W : World, Calls Tryz.prog 40 #[.string (txT t)] W fun e w' => e = .returned (.string (txT t)) ∧ Below W.heap.size W w') := fun W => lClone_any _ W (by omega)
      have HNW : Hid (∀ W : World, Below w.heap.size w W → Calls Tryz.prog 52 #[.string (txT t)] W fun e w' => (∃ g, e = .returned (.slice (some ⟨g, 0, none⟩) (noteW (btL (txT t))).length (noteW (btL (txT t))).length) ∧ Wds w' (some ⟨g, 0, none⟩) ((noteW (btL (txT t))).map wbS)) ∧ Below W.heap.size W w') := fun W h => lfields_any hnf W (HT.out.below h)
      have HO : Hid (∀ A c W, Wds W A ((noteW (btL (txT t))).map wbS) → NoteOut t (.returned (.tuple #[.slice A (noteW (btL (txT t))).length c, errN 0])) W) := fun A c W h => ⟨A, c, by rw [e1, e2, List.length_map], by rw [e2]; exact h⟩
      rw [show (opT t == 9) = true by simp [h9]] at HI
      generalize noteW (btL (txT t)) = ws at HNW HO
      generalize txT t = tx at HNW HCE HCL
      clear h0 h9 e1 e2 htz hnf
      go_enter Tryz.func20, Tryz.ntmps20
      go_wp2_with fail
      refine HC.out.mono ?_
      rintro e w1 ⟨rfl, b1⟩
      rw [errN_0]
      have c2 := HCE.out w1 b1
      have HB1 : Hid (Below w.heap.size w w1) := b1
      clear b1
      go_wp2_with fail
      refine (HI.out _ HB1.out).mono ?_
      rintro e w2 ⟨rfl, rfl⟩
      go_wp2_with fail
      refine (HCL.out _).mono ?_
      rintro e w3 ⟨rfl, b3⟩
      have HB3 : Hid (Below w.heap.size w w3) := belowT HB1.out (Nat.le_refl _) b3
      clear b3
      go_wp2_with fail
      refine (HNW.out _ HB3.out).mono ?_
      rintro e w4 ⟨⟨g, rfl, hS⟩, b4⟩
      have HB4 : Hid (Below w.heap.size w w4) := belowT HB3.out (Nat.le_refl _) b4
      have HN4 := (show Hid (_) from HO.out _ ws.length w4 hS)
      clear hS b4 c2
      generalize ws.length = nw at HN4 ⊢
      go_wp2
      go_ret2
      exact ⟨HN4.out, HB4.out⟩
    · have HO : Hid (∀ W, NoteOut t (.returned (.tuple #[.slice none 0 0, errN 2])) W) := fun W => by
        have e1 : layF t = 2 := by rw [layF, if_neg (by simp [h0]), if_neg h9]
        have e2 : layW t = [] := by rw [layW, if_neg (by rw [e1]; decide)]
        exact ⟨none, 0, by rw [e1, e2]; rfl, by rw [e2]; exact fun i hi => by simp at hi⟩
      rw [show (opT t == 9) = false by simp [h9]] at HI
      clear h0 h9 HCE
      go_enter Tryz.func20, Tryz.ntmps20
      go_wp2_with fail
      refine HC.out.mono ?_
      rintro e w1 ⟨rfl, b1⟩
      rw [errN_0]
      have HB1 : Hid (Below w.heap.size w w1) := b1
      clear b1
      go_wp2_with fail
      refine (HI.out _ HB1.out).mono ?_
      rintro e w2 ⟨rfl, rfl⟩
      go_wp2
      go_ret2
      exact ⟨HO.out _, HB1.out⟩
  · obtain ⟨_, _, e1, e2⟩ := lay_bad h0
    have HE : Hid (errN (treeF t) = .iface 23 (.int .i64 (treeF t))) := errN_ne h0
    have HO : Hid (∀ W, NoteOut t (.returned (.tuple #[.slice none 0 0, errN (treeF t)])) W) := fun W => ⟨none, 0, by rw [e1, e2]; rfl, by rw [e2]; exact fun i hi => by simp at hi⟩
    clear e1 e2 h0
    go_enter Tryz.func20, Tryz.ntmps20
    go_wp2_with fail
    refine HC.out.mono ?_
    rintro e w1 ⟨rfl, b1⟩
    rw [HE.out]
    go_wp2
    go_ret2
    exact ⟨by have := HO.out w1; rw [HE.out] at this; exact this, b1⟩
end Go.Proofs.YtmbeamcjpidnjaaGreatDoor
