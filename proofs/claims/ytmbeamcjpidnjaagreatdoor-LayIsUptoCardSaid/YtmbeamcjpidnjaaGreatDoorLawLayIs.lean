/- The walk of the law LayIs. (Made by tools/gen_lawlay.py.) -/
import Derived.Test.YtmbeamcjpidnjaaGreatDoorLayX
import Derived.Test.YtmbeamcjpidnjaaGreatDoorTreTs
import Derived.Test.YtmbeamcjpidnjaaGreatDoorDocU
import Derived.Test.YtmbeamcjpidnjaaGreatDoorFilT
import Derived.Test.YtmbeamcjpidnjaaGreatDoorAsT
namespace Go.Proofs.YtmbeamcjpidnjaaGreatDoor
open Go Go.RowKit

theorem layD_len (t : List Td) : (layD t).length ≤ 400 := by
  unfold layD
  split
  · rename_i h
    unfold layE at h
    split at h
    · rename_i h0; exact absurd h h0
    · split at h
      · cases h
      · split at h
        · cases h
        · omega
  · simp
theorem docs_same (D : List Nd) (n : Nat) (hn : D.length = n) (a o : Option Addr) (ca co : Nat) (hl : n ≤ 400) (w : World) (hN : Nods w a D) (hM : Nods w o D) : Calls Tryz.prog 19 #[.slice a n ca, .slice o n co] w fun e w' => e = .returned (.bool true) ∧ Below w.heap.size w w' := by
  subst hn
  refine (docs_any D D a o ca co hl w hN hM).mono ?_
  rintro e w' ⟨⟨_, h⟩ | ⟨h, _⟩, hb⟩
  · exact ⟨h, hb⟩
  · exact absurd rfl h

set_option maxRecDepth 100000 in
set_option maxHeartbeats 8000000 in
theorem layIs_bad (t : List Td) (a : Option Addr) (cap : Nat) (w : World) (hc : t.length ≤ cap) (hN : Tds w a t) (hsz : Few8 t) (hg : Hnd w) (ht : Tabs w) (h : treeF t ≠ 0) :
    Calls Tryz.prog 5 #[.slice a t.length cap] w fun e w' => e = .returned (.bool true) ∧ Below w.heap.size w w' := by
  have HG : Hid (Hnd w) := hg
  have HTF : Hid (Calls Tryz.prog 15 #[.slice a t.length cap] w fun e w' => e = .returned (.int .i64 (treeF t)) ∧ Below w.heap.size w w') := rTreeFault_any t a cap w hN hsz
  have htz : (txT t).size ≤ 1000000000000 := by
    cases t with
    | nil => decide
    | cons x r => exact hsz x (by simp)
  have HLD : Hid (∀ W : World, Below w.heap.size w W → Calls Tryz.prog 18 #[.slice a t.length cap] W fun e w' => (∃ A c, e = .returned (.tuple #[.slice A (layD t).length c, errN (layE t)]) ∧ Nods w' A (layD t) ∧ (layD t).length ≤ c) ∧ Below W.heap.size W w') := fun W h => layDoc_any t a cap W (ht.below h).pow hc (hN.below h) hsz.nine
  have HLN : Hid (∀ W : World, Below w.heap.size w W → Calls Tryz.prog 20 #[.slice a t.length cap] W fun e w' => (∃ A c, e = .returned (.tuple #[.slice A (layW t).length c, errN (layF t)]) ∧ Wds w' A (layW t)) ∧ Below W.heap.size W w') := fun W h => layNote_any t a cap W (ht.below h) hc (hN.below h) hsz.nine
  obtain ⟨e1, e2, e3, e4⟩ := lay_bad h
  rw [e1, e2] at HLD
  rw [e3, e4] at HLN
  have h0 : (treeF t == 0) = false := by simp [h]
  have h1 : (treeF t == treeF t) = true := by simp
  generalize treeF t = E at HTF HLD HLN h0 h1
  clear hN hsz hg ht htz e1 e2 e3 e4 h
  go_enter Tryz.func5, Tryz.ntmps5
  go_wp2_with fail
  refine HTF.out.mono ?_
  rintro e w1 ⟨rfl, b1⟩
  have HB1 : Hid (Below w.heap.size w w1) := b1
  clear b1
  have HW0 : Hid (Nods w1 none ([] : List Nd)) := fun i hi => by simp at hi
  have HX0 : Hid (Wds w1 none ([] : List ByteArray)) := fun i hi => by simp at hi
  go_wp2_with fail
  refine (HLD.out _ HB1.out).mono ?_
  rintro e wa ⟨⟨Aa, ca, rfl, hNa, _⟩, ba⟩
  have HBa : Hid (Below w.heap.size w wa) := belowT HB1.out (Nat.le_refl _) ba
  have HNa : Hid (Nods wa Aa ([] : List Nd)) := hNa
  have HWa : Hid (Nods wa none ([] : List Nd)) := HW0.out.below ba
  have HXa : Hid (Wds wa none ([] : List ByteArray)) := HX0.out.below ba
  clear hNa ba
  go_wp2_with fail
  refine (serr_any E E _ (HG.out.below HBa.out)).mono ?_
  rintro e wb ⟨rfl, bb⟩
  have HBb : Hid (Below w.heap.size w wb) := belowT HBa.out (Nat.le_refl _) bb
  have HXb : Hid (Wds wb none ([] : List ByteArray)) := HXa.out.below bb
  have HSD : Hid (Calls Tryz.prog 19 #[.slice Aa 0 ca, .slice none 0 0] wb fun e w' => e = .returned (.bool true) ∧ Below wb.heap.size wb w') := docs_same ([] : List Nd) 0 rfl Aa none ca 0 (by decide) wb (HNa.out.below bb) (HWa.out.below bb)
  clear bb HNa HWa HBa HXa
  go_wp2_with fail
  refine HSD.out.mono ?_
  rintro e wc ⟨rfl, bc⟩
  have HBc : Hid (Below w.heap.size w wc) := belowT HBb.out (Nat.le_refl _) bc
  have HXc : Hid (Wds wc none ([] : List ByteArray)) := HXb.out.below bc
  clear bc HBb HXb HSD
  go_wp2_with fail
  refine (HLN.out _ HBc.out).mono ?_
  rintro e wd ⟨⟨Ad, cd, rfl, hWd⟩, bd⟩
  have HBd : Hid (Below w.heap.size w wd) := belowT HBc.out (Nat.le_refl _) bd
  have HYd : Hid (Wds wd Ad ([] : List ByteArray)) := hWd
  have HXd : Hid (Wds wd none ([] : List ByteArray)) := HXc.out.below bd
  clear hWd bd HBc HXc
  go_wp2_with fail
  refine (serr_any E E _ (HG.out.below HBd.out)).mono ?_
  rintro e we ⟨rfl, be⟩
  have HBe : Hid (Below w.heap.size w we) := belowT HBd.out (Nat.le_refl _) be
  have HST : Hid (Calls Tryz.prog 21 #[.slice Ad 0 cd, .slice none 0 0] we fun e w' => e = .returned (.bool true) ∧ ∃ q, w' = we.drewN q) := stexts_at 0 ([] : List ByteArray) rfl Ad none cd 0 we (HYd.out.below be) (HXd.out.below be) (by decide)
  clear be HYd HXd HBd
  go_wp2_with fail
  refine HST.out.mono ?_
  rintro e wf ⟨rfl, q, rfl⟩
  have HBf : Hid (Below w.heap.size w (we.drewN q)) := belDraw HBe.out q
  go_wp2
  go_ret
  exact ⟨rfl, HBf.out⟩

set_option maxRecDepth 100000 in
set_option maxHeartbeats 8000000 in
theorem layIs_note (t : List Td) (a : Option Addr) (cap : Nat) (w : World) (hc : t.length ≤ cap) (hN : Tds w a t) (hsz : Few8 t) (hg : Hnd w) (ht : Tabs w) (h : treeF t = 0) (h9 : opT t = 9) :
    Calls Tryz.prog 5 #[.slice a t.length cap] w fun e w' => e = .returned (.bool true) ∧ Below w.heap.size w w' := by
  have HG : Hid (Hnd w) := hg
  have HTF : Hid (Calls Tryz.prog 15 #[.slice a t.length cap] w fun e w' => e = .returned (.int .i64 (treeF t)) ∧ Below w.heap.size w w') := rTreeFault_any t a cap w hN hsz
  have htz : (txT t).size ≤ 1000000000000 := by
    cases t with
    | nil => decide
    | cons x r => exact hsz x (by simp)
  have HLD : Hid (∀ W : World, Below w.heap.size w W → Calls Tryz.prog 18 #[.slice a t.length cap] W fun e w' => (∃ A c, e = .returned (.tuple #[.slice A (layD t).length c, errN (layE t)]) ∧ Nods w' A (layD t) ∧ (layD t).length ≤ c) ∧ Below W.heap.size W w') := fun W h => layDoc_any t a cap W (ht.below h).pow hc (hN.below h) hsz.nine
  have HLN : Hid (∀ W : World, Below w.heap.size w W → Calls Tryz.prog 20 #[.slice a t.length cap] W fun e w' => (∃ A c, e = .returned (.tuple #[.slice A (layW t).length c, errN (layF t)]) ∧ Wds w' A (layW t)) ∧ Below W.heap.size W w') := fun W h => layNote_any t a cap W (ht.below h) hc (hN.below h) hsz.nine
  obtain ⟨e1, e2, e3, e4⟩ := lay_note h h9
  rw [e1, e2] at HLD
  rw [e3, e4, List.length_map] at HLN
  have HNW : Hid (∀ W : World, Calls Tryz.prog 16 #[.string (txT t)] W fun e w' => (∃ A c, e = .returned (.slice A (noteW (btL (txT t))).length c) ∧ StrsO W.heap.size (.slice A (noteW (btL (txT t))).length c) ((noteW (btL (txT t))).map wbS) w') ∧ Below W.heap.size W w') := fun W => rNoteWords_any (txT t) W htz
  have hWl : (noteW (btL (txT t))).length ≤ 1000000000001 := by
    unfold noteW
    split
    · simp
    · have := splB_len (btL (txT t))
      rw [btL_len] at this
      omega
  obtain ⟨hpos, b, o, rfl, hb, c1, c2⟩ := op_cell h hN
  have hpi : (0 : Int) < (t.length : Int) := by omega
  have HCE : Hid (∀ W : World, Below w.heap.size w W → W.cell? ⟨b, o, none⟩ = some (.int .i64 (opT t)) ∧ W.cell? ⟨b, o + 1, none⟩ = some (.string (txT t))) := fun W h => ⟨((bcell h).1 _ _ hb).trans c1, ((bcell h).1 _ _ hb).trans c2⟩
  clear c1 c2
  rw [h9] at HCE
  rw [h] at HTF
  have HML : Hid (((noteW (btL (txT t))).map wbS).length = (noteW (btL (txT t))).length) := List.length_map ..
  generalize (noteW (btL (txT t))).map wbS = WD at HNW HLN HML
  generalize (noteW (btL (txT t))).length = nW at HNW HLN HML hWl
  generalize txT t = tx at HNW HCE
  clear hN hsz hg ht htz e1 e2 e3 e4 h h9
  go_enter Tryz.func5, Tryz.ntmps5
  go_wp2_with fail
  refine HTF.out.mono ?_
  rintro e w1 ⟨rfl, b1⟩
  have HB1 : Hid (Below w.heap.size w w1) := b1
  obtain ⟨c1, c2⟩ := HCE.out w1 b1
  clear b1
  go_wp2_with fail
  refine (HNW.out _).mono ?_
  rintro e w2 ⟨⟨Ax, cx, rfl, hS⟩, b2⟩
  have HB2 : Hid (Below w.heap.size w w2) := belowT HB1.out (Nat.le_refl _) b2
  have HX0 : Hid (Wds w2 Ax WD) := strsO_wds hS
  clear hS b2 c1 c2 HB1
  have HW0 : Hid (Nods w2 none ([] : List Nd)) := fun i hi => by simp at hi
  go_wp2_with fail
  refine (HLD.out _ HB2.out).mono ?_
  rintro e wa ⟨⟨Aa, ca, rfl, hNa, _⟩, ba⟩
  have HBa : Hid (Below w.heap.size w wa) := belowT HB2.out (Nat.le_refl _) ba
  have HNa : Hid (Nods wa Aa ([] : List Nd)) := hNa
  have HWa : Hid (Nods wa none ([] : List Nd)) := HW0.out.below ba
  have HXa : Hid (Wds wa Ax WD) := HX0.out.below ba
  clear hNa ba
  go_wp2_with fail
  refine (serr_any 2 2 _ (HG.out.below HBa.out)).mono ?_
  rintro e wb ⟨rfl, bb⟩
  have HBb : Hid (Below w.heap.size w wb) := belowT HBa.out (Nat.le_refl _) bb
  have HXb : Hid (Wds wb Ax WD) := HXa.out.below bb
  have HSD : Hid (Calls Tryz.prog 19 #[.slice Aa 0 ca, .slice none 0 0] wb fun e w' => e = .returned (.bool true) ∧ Below wb.heap.size wb w') := docs_same ([] : List Nd) 0 rfl Aa none ca 0 (by decide) wb (HNa.out.below bb) (HWa.out.below bb)
  clear bb HNa HWa HBa HXa
  go_wp2_with fail
  refine HSD.out.mono ?_
  rintro e wc ⟨rfl, bc⟩
  have HBc : Hid (Below w.heap.size w wc) := belowT HBb.out (Nat.le_refl _) bc
  have HXc : Hid (Wds wc Ax WD) := HXb.out.below bc
  clear bc HBb HXb HSD
  go_wp2_with fail
  refine (HLN.out _ HBc.out).mono ?_
  rintro e wd ⟨⟨Ad, cd, rfl, hWd⟩, bd⟩
  have HBd : Hid (Below w.heap.size w wd) := belowT HBc.out (Nat.le_refl _) bd
  have HYd : Hid (Wds wd Ad WD) := hWd
  have HXd : Hid (Wds wd Ax WD) := HXc.out.below bd
  clear hWd bd HBc HXc
  go_wp2_with fail
  refine (serr_any 0 0 _ (HG.out.below HBd.out)).mono ?_
  rintro e we ⟨rfl, be⟩
  have HBe : Hid (Below w.heap.size w we) := belowT HBd.out (Nat.le_refl _) be
  have HST : Hid (Calls Tryz.prog 21 #[.slice Ad nW cd, .slice Ax nW cx] we fun e w' => e = .returned (.bool true) ∧ ∃ q, w' = we.drewN q) := stexts_at nW WD HML.out Ad Ax cd cx we (HYd.out.below be) (HXd.out.below be) (by rw [HML.out]; omega)
  clear be HYd HXd HBd
  go_wp2_with fail
  refine HST.out.mono ?_
  rintro e wf ⟨rfl, q, rfl⟩
  have HBf : Hid (Below w.heap.size w (we.drewN q)) := belDraw HBe.out q
  go_wp2
  go_ret
  exact ⟨rfl, HBf.out⟩

set_option maxRecDepth 100000 in
set_option maxHeartbeats 8000000 in
theorem layIs_many (t : List Td) (a : Option Addr) (cap : Nat) (w : World) (hc : t.length ≤ cap) (hN : Tds w a t) (hsz : Few8 t) (hg : Hnd w) (ht : Tabs w) (h : treeF t = 0) (h9 : opT t ≠ 9) (hm : 400 < (stDoc t).nodes.length) :
    Calls Tryz.prog 5 #[.slice a t.length cap] w fun e w' => e = .returned (.bool true) ∧ Below w.heap.size w w' := by
  have HG : Hid (Hnd w) := hg
  have HTF : Hid (Calls Tryz.prog 15 #[.slice a t.length cap] w fun e w' => e = .returned (.int .i64 (treeF t)) ∧ Below w.heap.size w w') := rTreeFault_any t a cap w hN hsz
  have htz : (txT t).size ≤ 1000000000000 := by
    cases t with
    | nil => decide
    | cons x r => exact hsz x (by simp)
  have HLD : Hid (∀ W : World, Below w.heap.size w W → Calls Tryz.prog 18 #[.slice a t.length cap] W fun e w' => (∃ A c, e = .returned (.tuple #[.slice A (layD t).length c, errN (layE t)]) ∧ Nods w' A (layD t) ∧ (layD t).length ≤ c) ∧ Below W.heap.size W w') := fun W h => layDoc_any t a cap W (ht.below h).pow hc (hN.below h) hsz.nine
  have HLN : Hid (∀ W : World, Below w.heap.size w W → Calls Tryz.prog 20 #[.slice a t.length cap] W fun e w' => (∃ A c, e = .returned (.tuple #[.slice A (layW t).length c, errN (layF t)]) ∧ Wds w' A (layW t)) ∧ Below W.heap.size W w') := fun W h => layNote_any t a cap W (ht.below h) hc (hN.below h) hsz.nine
  obtain ⟨e1, e2, e3, e4⟩ := lay_many h h9 hm
  rw [e1, e2] at HLD
  rw [e3, e4] at HLN
  obtain ⟨hpos, b, o, rfl, hb, c1, c2⟩ := op_cell h hN
  have hpi : (0 : Int) < (t.length : Int) := by omega
  have HCE : Hid (∀ W : World, Below w.heap.size w W → W.cell? ⟨b, o, none⟩ = some (.int .i64 (opT t)) ∧ W.cell? ⟨b, o + 1, none⟩ = some (.string (txT t))) := fun W h => ⟨((bcell h).1 _ _ hb).trans c1, ((bcell h).1 _ _ hb).trans c2⟩
  clear c1 c2
  have HSD0 : Hid (∀ W : World, Below w.heap.size w W → Calls Tryz.prog 17 #[.slice (some ⟨b, o, none⟩) t.length cap, .int .i64 0] W fun e w' => NdR W (stDoc t).nodes e w') := fun W hh => st_doc h h9 W (hN.below hh)
  have hn9 := (doc_ok h h9).n
  have h9b : (opT t == 9) = false := by simp [h9]
  rw [h] at HTF
  generalize (stDoc t).nodes = xs at HSD0 hm hn9
  generalize opT t = op0 at HCE h9b
  have hmi : (400 : Int) < (xs.length : Int) := by omega
  clear hN hsz hg ht htz e1 e2 e3 e4 h h9
  go_enter Tryz.func5, Tryz.ntmps5
  go_wp2_with fail
  refine HTF.out.mono ?_
  rintro e w1 ⟨rfl, b1⟩
  have HB1 : Hid (Below w.heap.size w w1) := b1
  obtain ⟨c1, c2⟩ := HCE.out w1 b1
  clear b1
  go_wp2_with fail
  refine (HSD0.out _ HB1.out).mono ?_
  rintro e w2 ⟨Aw, cw, rfl, hO, b2⟩
  have HB2 : Hid (Below w.heap.size w w2) := belowT HB1.out (Nat.le_refl _) b2
  clear hO b2 c1 c2 HB1
  have HW0 : Hid (Nods w2 none ([] : List Nd)) := fun i hi => by simp at hi
  have HX0 : Hid (Wds w2 none ([] : List ByteArray)) := fun i hi => by simp at hi
  go_wp2_with fail
  refine (HLD.out _ HB2.out).mono ?_
  rintro e wa ⟨⟨Aa, ca, rfl, hNa, _⟩, ba⟩
  have HBa : Hid (Below w.heap.size w wa) := belowT HB2.out (Nat.le_refl _) ba
  have HNa : Hid (Nods wa Aa ([] : List Nd)) := hNa
  have HWa : Hid (Nods wa none ([] : List Nd)) := HW0.out.below ba
  have HXa : Hid (Wds wa none ([] : List ByteArray)) := HX0.out.below ba
  clear hNa ba
  go_wp2_with fail
  refine (serr_any 3 3 _ (HG.out.below HBa.out)).mono ?_
  rintro e wb ⟨rfl, bb⟩
  have HBb : Hid (Below w.heap.size w wb) := belowT HBa.out (Nat.le_refl _) bb
  have HXb : Hid (Wds wb none ([] : List ByteArray)) := HXa.out.below bb
  have HSD : Hid (Calls Tryz.prog 19 #[.slice Aa 0 ca, .slice none 0 0] wb fun e w' => e = .returned (.bool true) ∧ Below wb.heap.size wb w') := docs_same ([] : List Nd) 0 rfl Aa none ca 0 (by decide) wb (HNa.out.below bb) (HWa.out.below bb)
  clear bb HNa HWa HBa HXa
  go_wp2_with fail
  refine HSD.out.mono ?_
  rintro e wc ⟨rfl, bc⟩
  have HBc : Hid (Below w.heap.size w wc) := belowT HBb.out (Nat.le_refl _) bc
  have HXc : Hid (Wds wc none ([] : List ByteArray)) := HXb.out.below bc
  clear bc HBb HXb HSD
  go_wp2_with fail
  refine (HLN.out _ HBc.out).mono ?_
  rintro e wd ⟨⟨Ad, cd, rfl, hWd⟩, bd⟩
  have HBd : Hid (Below w.heap.size w wd) := belowT HBc.out (Nat.le_refl _) bd
  have HYd : Hid (Wds wd Ad ([] : List ByteArray)) := hWd
  have HXd : Hid (Wds wd none ([] : List ByteArray)) := HXc.out.below bd
  clear hWd bd HBc HXc
  go_wp2_with fail
  refine (serr_any 2 2 _ (HG.out.below HBd.out)).mono ?_
  rintro e we ⟨rfl, be⟩
  have HBe : Hid (Below w.heap.size w we) := belowT HBd.out (Nat.le_refl _) be
  have HST : Hid (Calls Tryz.prog 21 #[.slice Ad 0 cd, .slice none 0 0] we fun e w' => e = .returned (.bool true) ∧ ∃ q, w' = we.drewN q) := stexts_at 0 ([] : List ByteArray) rfl Ad none cd 0 we (HYd.out.below be) (HXd.out.below be) (by decide)
  clear be HYd HXd HBd
  go_wp2_with fail
  refine HST.out.mono ?_
  rintro e wf ⟨rfl, q, rfl⟩
  have HBf : Hid (Below w.heap.size w (we.drewN q)) := belDraw HBe.out q
  go_wp2
  go_ret
  exact ⟨rfl, HBf.out⟩

set_option maxRecDepth 100000 in
set_option maxHeartbeats 8000000 in
theorem layIs_few (t : List Td) (a : Option Addr) (cap : Nat) (w : World) (hc : t.length ≤ cap) (hN : Tds w a t) (hsz : Few8 t) (hg : Hnd w) (ht : Tabs w) (h : treeF t = 0) (h9 : opT t ≠ 9) (hm : ¬ 400 < (stDoc t).nodes.length) :
    Calls Tryz.prog 5 #[.slice a t.length cap] w fun e w' => e = .returned (.bool true) ∧ Below w.heap.size w w' := by
  have HG : Hid (Hnd w) := hg
  have HTF : Hid (Calls Tryz.prog 15 #[.slice a t.length cap] w fun e w' => e = .returned (.int .i64 (treeF t)) ∧ Below w.heap.size w w') := rTreeFault_any t a cap w hN hsz
  have htz : (txT t).size ≤ 1000000000000 := by
    cases t with
    | nil => decide
    | cons x r => exact hsz x (by simp)
  have HLD : Hid (∀ W : World, Below w.heap.size w W → Calls Tryz.prog 18 #[.slice a t.length cap] W fun e w' => (∃ A c, e = .returned (.tuple #[.slice A (layD t).length c, errN (layE t)]) ∧ Nods w' A (layD t) ∧ (layD t).length ≤ c) ∧ Below W.heap.size W w') := fun W h => layDoc_any t a cap W (ht.below h).pow hc (hN.below h) hsz.nine
  have HLN : Hid (∀ W : World, Below w.heap.size w W → Calls Tryz.prog 20 #[.slice a t.length cap] W fun e w' => (∃ A c, e = .returned (.tuple #[.slice A (layW t).length c, errN (layF t)]) ∧ Wds w' A (layW t)) ∧ Below W.heap.size W w') := fun W h => layNote_any t a cap W (ht.below h) hc (hN.below h) hsz.nine
  obtain ⟨e1, e2, e3, e4⟩ := lay_few h h9 hm
  rw [e1, e2] at HLD
  rw [e3, e4] at HLN
  obtain ⟨hpos, b, o, rfl, hb, c1, c2⟩ := op_cell h hN
  have hpi : (0 : Int) < (t.length : Int) := by omega
  have HCE : Hid (∀ W : World, Below w.heap.size w W → W.cell? ⟨b, o, none⟩ = some (.int .i64 (opT t)) ∧ W.cell? ⟨b, o + 1, none⟩ = some (.string (txT t))) := fun W h => ⟨((bcell h).1 _ _ hb).trans c1, ((bcell h).1 _ _ hb).trans c2⟩
  clear c1 c2
  have HSD0 : Hid (∀ W : World, Below w.heap.size w W → Calls Tryz.prog 17 #[.slice (some ⟨b, o, none⟩) t.length cap, .int .i64 0] W fun e w' => NdR W (stDoc t).nodes e w') := fun W hh => st_doc h h9 W (hN.below hh)
  have hn9 := (doc_ok h h9).n
  have h9b : (opT t == 9) = false := by simp [h9]
  rw [h] at HTF
  generalize (stDoc t).nodes = xs at HSD0 hm hn9 HLD
  generalize opT t = op0 at HCE h9b
  have hmi : ¬ (400 : Int) < (xs.length : Int) := by omega
  have HXL : Hid (xs.length = xs.length) := rfl
  clear hN hsz hg ht htz e1 e2 e3 e4 h h9
  go_enter Tryz.func5, Tryz.ntmps5
  go_wp2_with fail
  refine HTF.out.mono ?_
  rintro e w1 ⟨rfl, b1⟩
  have HB1 : Hid (Below w.heap.size w w1) := b1
  obtain ⟨c1, c2⟩ := HCE.out w1 b1
  clear b1
  go_wp2_with fail
  refine (HSD0.out _ HB1.out).mono ?_
  rintro e w2 ⟨Aw, cw, rfl, hO, b2⟩
  have HB2 : Hid (Below w.heap.size w w2) := belowT HB1.out (Nat.le_refl _) b2
  have HW0 : Hid (Nods w2 Aw xs) := hO.nods
  clear hO b2 c1 c2 HB1
  have HX0 : Hid (Wds w2 none ([] : List ByteArray)) := fun i hi => by simp at hi
  go_wp2_with fail
  refine (HLD.out _ HB2.out).mono ?_
  rintro e wa ⟨⟨Aa, ca, rfl, hNa, _⟩, ba⟩
  have HBa : Hid (Below w.heap.size w wa) := belowT HB2.out (Nat.le_refl _) ba
  have HNa : Hid (Nods wa Aa xs) := hNa
  have HWa : Hid (Nods wa Aw xs) := HW0.out.below ba
  have HXa : Hid (Wds wa none ([] : List ByteArray)) := HX0.out.below ba
  clear hNa ba
  go_wp2_with fail
  refine (serr_any 0 0 _ (HG.out.below HBa.out)).mono ?_
  rintro e wb ⟨rfl, bb⟩
  have HBb : Hid (Below w.heap.size w wb) := belowT HBa.out (Nat.le_refl _) bb
  have HXb : Hid (Wds wb none ([] : List ByteArray)) := HXa.out.below bb
  have HSD : Hid (Calls Tryz.prog 19 #[.slice Aa xs.length ca, .slice Aw xs.length cw] wb fun e w' => e = .returned (.bool true) ∧ Below wb.heap.size wb w') := docs_same xs xs.length rfl Aa Aw ca cw (by omega) wb (HNa.out.below bb) (HWa.out.below bb)
  clear bb HNa HWa HBa HXa
  go_wp2_with fail
  refine HSD.out.mono ?_
  rintro e wc ⟨rfl, bc⟩
  have HBc : Hid (Below w.heap.size w wc) := belowT HBb.out (Nat.le_refl _) bc
  have HXc : Hid (Wds wc none ([] : List ByteArray)) := HXb.out.below bc
  clear bc HBb HXb HSD
  go_wp2_with fail
  refine (HLN.out _ HBc.out).mono ?_
  rintro e wd ⟨⟨Ad, cd, rfl, hWd⟩, bd⟩
  have HBd : Hid (Below w.heap.size w wd) := belowT HBc.out (Nat.le_refl _) bd
  have HYd : Hid (Wds wd Ad ([] : List ByteArray)) := hWd
  have HXd : Hid (Wds wd none ([] : List ByteArray)) := HXc.out.below bd
  clear hWd bd HBc HXc
  go_wp2_with fail
  refine (serr_any 2 2 _ (HG.out.below HBd.out)).mono ?_
  rintro e we ⟨rfl, be⟩
  have HBe : Hid (Below w.heap.size w we) := belowT HBd.out (Nat.le_refl _) be
  have HST : Hid (Calls Tryz.prog 21 #[.slice Ad 0 cd, .slice none 0 0] we fun e w' => e = .returned (.bool true) ∧ ∃ q, w' = we.drewN q) := stexts_at 0 ([] : List ByteArray) rfl Ad none cd 0 we (HYd.out.below be) (HXd.out.below be) (by decide)
  clear be HYd HXd HBd
  go_wp2_with fail
  refine HST.out.mono ?_
  rintro e wf ⟨rfl, q, rfl⟩
  have HBf : Hid (Below w.heap.size w (we.drewN q)) := belDraw HBe.out q
  go_wp2
  go_ret
  exact ⟨rfl, HBf.out⟩

theorem layIs_any (t : List Td) (a : Option Addr) (cap : Nat) (w : World) (hc : t.length ≤ cap) (hN : Tds w a t) (hsz : Few8 t) (hg : Hnd w) (ht : Tabs w) :
    Calls Tryz.prog 5 #[.slice a t.length cap] w fun e w' => e = .returned (.bool true) ∧ Below w.heap.size w w' := by
  by_cases h : treeF t = 0
  · by_cases h9 : opT t = 9
    · exact layIs_note t a cap w hc hN hsz hg ht h h9
    · by_cases hm : 400 < (stDoc t).nodes.length
      · exact layIs_many t a cap w hc hN hsz hg ht h h9 hm
      · exact layIs_few t a cap w hc hN hsz hg ht h h9 hm
  · exact layIs_bad t a cap w hc hN hsz hg ht h
end Go.Proofs.YtmbeamcjpidnjaaGreatDoor
