/- The walk of the law TreeKids. -/
import Derived.Test.YtianemmgaiblgabDoorTreW
import Derived.Test.YtianemmgaiblgabDoorTreN
import Derived.Test.YtianemmgaiblgabDoorSamI
namespace Go.Proofs.YtianemmgaiblgabDoor
open Go Go.RowKit

/-- The law's first statement. -/
def fxT : List Td := [⟨8, ⟨#[]⟩, 0⟩, ⟨5, ⟨#[]⟩, 0⟩, ⟨1, ⟨#[]⟩, 0⟩, ⟨1, ⟨#[]⟩, 0⟩]
theorem fx_ok : treeF fxT = 0 := by decide
theorem fx_kids : kidE fxT 1 = 0 ∧ kidsL fxT 1 = [2, 3] := by
  refine ⟨?_, by decide⟩
  rw [kidE, fx_ok]; rfl
theorem fx_few : Few9 fxT := by
  intro x hx
  simp [fxT] at hx
  rcases hx with rfl | rfl | rfl <;> decide

theorem sints_two (A B : Option Addr) (ca cb : Nat) (xs : List Int) (w : World) (hl : xs.length = 2) (hx : Ints w A xs) (hy : Ints w B xs) : Calls Tryd.prog 19 #[.slice A 2 ca, .slice B 2 cb] w fun e w' => e = .returned (.bool true) ∧ ∃ q, w' = w.drewN q := by
  have := sints_any xs xs A B ca cb w hx hy (by omega)
  rw [hl, decide_eq_true rfl] at this
  exact this
abbrev fxC : Obj := .cells #[.int .i64 8, .string ⟨#[]⟩, .int .i64 0, .int .i64 5, .string ⟨#[]⟩, .int .i64 0, .int .i64 1, .string ⟨#[]⟩, .int .i64 0, .int .i64 1, .string ⟨#[]⟩, .int .i64 0] 52
theorem fx_cell (w : World) {k : Nat} {v : Value} (h : (#[.int .i64 8, .string ⟨#[]⟩, .int .i64 0, .int .i64 5, .string ⟨#[]⟩, .int .i64 0, .int .i64 1, .string ⟨#[]⟩, .int .i64 0, .int .i64 1, .string ⟨#[]⟩, .int .i64 0] : Array Value)[k]? = some v) : (w.alloc fxC).cell? ⟨w.heap.size, k, none⟩ = some v := by
  have h1 : (w.alloc fxC).heap[w.heap.size]? = some fxC := by
    show (w.heap.push fxC)[w.heap.size]? = _
    simp
  simp only [World.cell?, Option.isSome_none, Bool.false_eq_true, if_false, h1]
  exact h
theorem fx_call (w : World) : Calls Tryd.prog 24 #[.slice (some ⟨w.heap.size, 0, none⟩) 4 4, .int .i64 1] (w.alloc fxC) fun e w' => (∃ A c, e = .returned (.tuple #[.slice A 2 c, .nilIface]) ∧ Ints w' A [2, 3]) ∧ Below (w.alloc fxC).heap.size (w.alloc fxC) w' := by
  have hT : Tds (w.alloc fxC) (some ⟨w.heap.size, 0, none⟩) fxT := by
    intro i hi
    have hi' : i < 4 := hi
    refine ⟨w.heap.size, 0, rfl, by rw [World.size_alloc]; omega, ?_⟩
    rw [Nat.zero_add]
    match i, hi' with
    | 0, _ => exact ⟨fx_cell w rfl, fx_cell w rfl, fx_cell w rfl⟩
    | 1, _ => exact ⟨fx_cell w rfl, fx_cell w rfl, fx_cell w rfl⟩
    | 2, _ => exact ⟨fx_cell w rfl, fx_cell w rfl, fx_cell w rfl⟩
    | 3, _ => exact ⟨fx_cell w rfl, fx_cell w rfl, fx_cell w rfl⟩
  refine (tKids_nine fxT (some ⟨w.heap.size, 0, none⟩) 4 1 (w.alloc fxC) (by decide) hT fx_few).mono ?_
  rintro e w' ⟨⟨h1, _⟩ | ⟨_, A, c, rfl, hI⟩, hb⟩
  · exact absurd fx_kids.1 h1
  · have e1 : kidsL fxT (1 : Int).toNat = [2, 3] := fx_kids.2
    rw [e1] at hI ⊢
    exact ⟨⟨A, c, rfl, hI⟩, hb⟩

theorem rcT_le (ds : List Td) (i q x : Nat) : rcT ds i q x ≤ q := by
  have := List.length_filter_le (fun j => endT ds i j == some x) (List.range q)
  rw [List.length_range] at this
  exact this
theorem kcT_le {ds : List Td} (h : ∀ z ∈ ds, nodT z = 0) (x : Nat) : ∀ (n lo : Nat), kcT ds lo n x ≤ 6 * n
  | 0, lo => by simp [kcT]
  | n + 1, lo => by
    have ih := kcT_le h x n (lo + 1)
    have h1 := rcT_le ds (lo + 1) (kdT (ds.getD lo ⟨0, ⟨#[]⟩, 0⟩)) x
    have h2 : kdT (ds.getD lo ⟨0, ⟨#[]⟩, 0⟩) ≤ 6 := by
      by_cases hl : lo < ds.length
      · rw [List.getD_eq_getElem?_getD, List.getElem?_eq_getElem hl]
        exact kdT_le (h _ (List.getElem_mem hl))
      · rw [List.getD_eq_getElem?_getD, List.getElem?_eq_none (by omega)]
        decide
    rw [kcT]
    omega
/-- How often each place is a kid, so far: a row of the law's own. -/
structure CnT (ds : List Td) (w : World) (g : Nat) (f : Nat → Nat) (wr : World) : Prop where
  b : Below w.heap.size w wr
  ge : w.heap.size ≤ g
  row : RowN wr g ds.length
  c : ∀ x, x < ds.length → wr.cell? ⟨g, x, none⟩ = some (.int .i64 ((f x : Nat) : Int))
theorem CnT.later {ds : List Td} {w : World} {g : Nat} {f : Nat → Nat} {wr w' : World} (h : CnT ds w g f wr) (hb : Below wr.heap.size wr w') : CnT ds w g f w' :=
  ⟨belowT h.b (Nat.le_refl _) hb, h.ge, h.row.kept (hb.block g h.row.lt), fun x hx => (hb.cell (p := ⟨g, x, none⟩) h.row.lt).trans (h.c x hx)⟩
theorem CnT.congr {ds : List Td} {w : World} {g : Nat} {f f' : Nat → Nat} {wr : World} (h : CnT ds w g f wr) (e : ∀ x, f x = f' x) : CnT ds w g f' wr :=
  ⟨h.b, h.ge, h.row, fun x hx => by rw [← e x]; exact h.c x hx⟩
theorem CnT.put {ds : List Td} {w : World} {g : Nat} {f : Nat → Nat} {wr : World} (h : CnT ds w g f wr) (y : Nat) (hy : y < ds.length) : CnT ds w g (fun x => f x + if y = x then 1 else 0) (wr.setCell ⟨g, y, none⟩ (.int .i64 ((f y : Nat) + 1 : Int))) := by
  refine ⟨h.b.setCell (p := ⟨g, y, none⟩) h.ge _, h.ge, h.row.set, fun x hx => ?_⟩
  by_cases e : y = x
  · subst e
    rw [css (h.c y hy), if_pos rfl]
    rfl
  · rw [cso (.inr e), if_neg e]
    exact h.c x hx
theorem CnT.made (ds : List Td) (w : World) {w3 : World} (hb : Below w.heap.size w w3) : CnT ds w w3.heap.size (fun _ => 0) (w3.alloc (.cells (madeCells #[.int .i64 0] ds.length) 3)) := by
  have h1 : (w3.alloc (.cells (madeCells #[.int .i64 0] ds.length) 3)).heap[w3.heap.size]? = some (.cells (madeCells #[.int .i64 0] ds.length) 3 (0, 0)) := by
    show (w3.heap.push _)[w3.heap.size]? = _
    simp
  refine ⟨hb.alloc hb.size _, hb.size, ⟨_, _, h1, size_madeCells _ _⟩, fun x hx => ?_⟩
  simp only [World.cell?, Option.isSome_none, Bool.false_eq_true, if_false, h1]
  exact made_zero _ hx
theorem IntsF.put {B : Nat} {w : World} {a : Option Addr} {ws : List Int} (h : IntsF B w a ws) {g y : Nat} (hg : g < B) (v : Value) : IntsF B (w.setCell ⟨g, y, none⟩ v) a ws := by
  intro i hi
  obtain ⟨b, o, e, hB, hlt, c1⟩ := h i hi
  exact ⟨b, o, e, hB, by rw [World.size_setCell]; exact hlt, by rw [cso (.inl (by omega))]; exact c1⟩
theorem kids_row {ds : List Td} (ht : treeF ds = 0) {k q : Nat} (hk : k < ds.length) (hq : q < kdT ds[k]) : ∃ y : Nat, kidAt ds k q = y ∧ k < y ∧ y < ds.length ∧ endT ds (k + 1) q = some y ∧ ∀ (h : q < (kidsL ds k).length), (kidsL ds k)[q] = (y : Int) := by
  obtain ⟨y, y1, rfl, y2, y3, _⟩ := kid_some ht hk (Nat.le_of_lt hq)
  refine ⟨_, rfl, by omega, y3 hq, y1, fun h => ?_⟩
  simp only [kidsL_eq hk, List.getElem_map, List.getElem_range]

set_option maxRecDepth 100000 in
set_option maxHeartbeats 4000000 in
theorem treeKids_any (ds : List Td) (a : Option Addr) (cap : Nat) (w : World) (hc : ds.length ≤ cap) (hN : Tds w a ds) (hsz : Few9 ds) : Calls Tryd.prog 8 #[.slice a ds.length cap] w fun e w' => e = .returned (.bool true) ∧ Below w.heap.size w w' := by
  have HN : Hid (Tds w a ds) := hN
  have HSZ : Hid (Few9 ds) := hsz
  clear hN hsz
  go_enter Tryd.func8, Tryd.ntmps8
  go_wp2_with fail
  refine (fx_call w).mono ?_
  rintro e w1 ⟨⟨A, c, rfl, hI⟩, hb1⟩
  have B1 : Below w.heap.size w w1 := belowA (Below.refl _ _) (Nat.le_refl _) hb1
  have hI1 : Ints (w1.alloc (.cells #[.int .i64 2, .int .i64 3] 3)) A [2, 3] := Ints.below hI ((Below.refl _ _).alloc (Nat.le_refl _) _)
  have hI2 : Ints (w1.alloc (.cells #[.int .i64 2, .int .i64 3] 3)) (some ⟨w1.heap.size, 0, none⟩) [2, 3] := by
    intro j hj
    refine ⟨w1.heap.size, 0, rfl, by simp, ?_⟩
    match j, hj with
    | 0, _ => simp [go_sem]
    | 1, _ => simp [go_sem]
  have HI1 := (show Hid (_) from hI1)
  have HI2 := (show Hid (_) from hI2)
  have HB1 := (show Hid (_) from B1)
  clear hI hb1 hI1 hI2 B1
  go_wp2_with fail
  refine (sints_two A _ c 2 [2, 3] _ rfl HI1.out HI2.out).mono ?_
  rintro e w2 ⟨rfl, q, hq⟩
  have B2 : Below w.heap.size w w2 := by rw [hq]; exact belDraw (HB1.out.alloc HB1.out.size _) q
  have HB2 := (show Hid (_) from B2)
  clear hq HI1 HI2 HB1 B2
  have HC : Hid (Calls Tryd.prog 21 #[.slice a ds.length cap] w2 fun e w' => e = .returned (errN (treeF ds)) ∧ Below w2.heap.size w2 w') := tCheck_nine ds a cap w2 hc (HN.out.below HB2.out) HSZ.out
  by_cases h0 : treeF ds = 0
  · go_wp2_with fail
    refine HC.out.mono ?_
    rintro e w3 ⟨rfl, b3⟩
    rw [h0, errN_0]
    have B3 := belowT HB2.out (Nat.le_refl _) b3
    have hl40 := (treeF_zero h0).1
    have H0 : Hid (treeF ds = 0) := h0
    have hm : ∀ W : World, (Instr.makeSlice 23 (.int .i64 (ds.length : Int)) (.int .i64 (ds.length : Int))).run Tryd.prog W = .ok (.slice (some ⟨W.heap.size, 0, none⟩) ds.length ds.length) (W.alloc (.cells (madeCells #[.int .i64 0] ds.length) 3)) := fun W =>
      run_make_row' 23 3 _ 8 Tryd.underlying23 intInf rfl .i64 .i64 ds.length (by omega) (by omega) W
    have HM : Hid (CnT ds w w3.heap.size (fun _ => 0) (w3.alloc (.cells (madeCells #[.int .i64 0] ds.length) 3))) := CnT.made ds w B3
    have HB3 := (show Hid (_) from B3)
    clear h0 b3 B3 HC
    go_wp2_with fail
    generalize hg : w3.heap.size = g at HM ⊢
    clear hg hm
    go_loopw [7] (fun i wr => ∃ k : Nat, k ≤ ds.length ∧ i = .int .i64 (k : Int) ∧ CnT ds w g (fun x => kcT ds 0 k x) wr) (fun i _ => ds.length - (intOf i).toNat)
    case atStart => exact ⟨0, Nat.zero_le _, rfl, HM.out⟩
    case round =>
      obtain ⟨k, hk, rfl, hI⟩ := hrel
      have HI : Hid (CnT ds w g (fun x => kcT ds 0 k x) wr) := hI
      clear hI
      by_cases hlt : k < ds.length
      · have hki : (k : Int) < (ds.length : Int) := by omega
        have HK : Hid (Calls Tryd.prog 24 #[.slice a ds.length cap, .int .i64 (k : Int)] wr fun e w' => KidsFar ds k wr.heap.size e w' ∧ Below wr.heap.size wr w') := tKids_far ds a cap k wr hc (HN.out.below HI.out.b) HSZ.out
        have HKE : Hid (kidE ds (k : Int) = 0) := by show kidE ds (k : Int) = 0; rw [kidE, if_neg (by simp [H0.out]), if_neg (by omega)]
        go_wp2_with fail
        refine HK.out.mono ?_
        rintro e w4 ⟨⟨h1, _⟩ | ⟨_, A4, c4, rfl, hF⟩, b4⟩
        · exact absurd HKE.out h1
        rw [Int.toNat_natCast] at hF ⊢
        have HI4 : Hid (CnT ds w g (fun x => kcT ds 0 k x) w4) := HI.out.later b4
        have hgw : g < wr.heap.size := HI.out.row.lt
        have hnl : (kidsL ds k).length = kdT ds[k] := by rw [kidsL_eq hlt]; simp
        have hkd6 : kdT ds[k] ≤ 6 := kdT_le ((treeF_zero H0.out).2.1 _ (List.getElem_mem hlt))
        have HF : Hid (IntsF wr.heap.size w4 A4 (kidsL ds k)) := hF
        have HNL : Hid ((kidsL ds k).length = kdT ds[k]) := hnl
        rw [hnl]
        clear hF b4 HK HKE hnl
        generalize hp : kdT ds[k] = p at hkd6 HNL ⊢
        have HP : Hid (kdT ds[k] = p) := hp
        generalize hhz : wr.heap.size = hz at HF hgw
        clear hp hhz HI
        go_wp2_with fail
        go_loopw [10] (fun j wx => ∃ q : Nat, q ≤ p ∧ j = .int .i64 (q : Int) ∧ CnT ds w g (fun x => kcT ds 0 k x + rcT ds (k + 1) q x) wx ∧ IntsF hz wx A4 (kidsL ds k)) (fun j _ => p - (intOf j).toNat)
        case atStart => exact ⟨0, Nat.zero_le _, rfl, HI4.out.congr (fun x => by rw [rcT_zero]; rfl), HF.out⟩
        case round =>
          obtain ⟨q, hq, rfl, hJ, hF⟩ := hrel
          have HJ : Hid (CnT ds w g (fun x => kcT ds 0 k x + rcT ds (k + 1) q x) wr) := hJ
          have HF5 : Hid (IntsF hz wr A4 (kidsL ds k)) := hF
          clear hJ hF
          by_cases hqp : q < p
          · have hqi : (q : Int) < (p : Int) := by omega
            obtain ⟨y, y1, y2, y3, y4, y5⟩ := kids_row H0.out hlt (by rw [HP.out]; exact hqp)
            obtain ⟨b5, o5, rfl, hB5, hl5, c5⟩ := HF5.out q (by rw [HNL.out]; exact hqp)
            rw [y5] at c5
            have c6 := HJ.out.c y y3
            have c7 : wr.frozen? ⟨g, y, none⟩ = false := HJ.out.row.frozen
            have HPUT := (show Hid (_) from HJ.out.put y y3)
            have HFP := (show Hid (_) from HF5.out.put (y := y) hgw (.int .i64 (((kcT ds 0 k y + rcT ds (k + 1) q y : Nat)) + 1 : Int)))
            have HRC : Hid (∀ x, kcT ds 0 k x + rcT ds (k + 1) q x + (if y = x then 1 else 0) = kcT ds 0 k x + rcT ds (k + 1) (q + 1) x) := fun x => by
              rw [rcT_succ, y4, Nat.add_assoc]
              congr 2
              simp
            have hyi : ¬ (y : Int) ≤ (k : Int) := by omega
            have hyl : ¬ (ds.length : Int) ≤ (y : Int) := by omega
            have hyl2 : (y : Int) < (ds.length : Int) := by omega
            have hcb : kcT ds 0 k y + rcT ds (k + 1) q y ≤ 1000 := by
              have e1 := kcT_le (fun z hz => (treeF_zero H0.out).2.1 z hz) y k 0
              have e2 := rcT_le ds (k + 1) q y
              omega
            generalize kcT ds 0 k y + rcT ds (k + 1) q y = m at c6 HPUT HFP hcb
            clear y1 y4 y5
            go_wp2
            exact ⟨⟨q + 1, by omega, by go_num, HPUT.out.congr HRC.out, HFP.out⟩, by simp [intOf]; omega⟩
          · have hqi : ¬ (q : Int) < (p : Int) := by omega
            have HN2 : Hid (CnT ds w g (fun x => kcT ds 0 (k + 1) x) wr) := HJ.out.congr fun x => by
              have e1 : q = p := by omega
              rw [kcT_last, e1, ← HP.out, Nat.zero_add, List.getD_eq_getElem?_getD, List.getElem?_eq_getElem hlt]
              rfl
            go_wp2
            exact ⟨⟨k + 1, by omega, by go_num, HN2.out⟩, by simp [intOf]; omega⟩
      · have hki : ¬ (k : Int) < (ds.length : Int) := by omega
        have HN2 : Hid (CnT ds w g (fun x => if x = 0 then 0 else 1) wr) := by
          have e1 : k = ds.length := by omega
          refine ⟨HI.out.b, HI.out.ge, HI.out.row, fun x hx => ?_⟩
          have h1 := HI.out.c x hx
          rw [e1] at h1
          have h2 := kids_once H0.out x hx
          rw [h2] at h1
          exact h1
        go_wp2_with fail
        go_loopw [11] (fun i wx => wx = wr ∧ ∃ j : Nat, j ≤ ds.length ∧ i = .int .i64 (j : Int)) (fun i _ => ds.length - (intOf i).toNat)
        case atStart => exact ⟨rfl, 0, Nat.zero_le _, rfl⟩
        case round =>
          obtain ⟨rfl, j, hj, rfl⟩ := hrel
          by_cases hjl : j < ds.length
          · have hji : (j : Int) < (ds.length : Int) := by omega
            have c1 := HN2.out.c j hjl
            by_cases hj0 : j = 0
            · subst hj0
              rw [if_pos rfl] at c1
              go_wp2
              exact ⟨⟨by trivial, 1, by omega, rfl⟩, by simp [intOf]; omega⟩
            · rw [if_neg hj0] at c1
              have hj1 : (0 : Int) < (j : Int) := by omega
              go_wp2
              exact ⟨⟨by trivial, j + 1, by omega, by go_num⟩, by simp [intOf]; omega⟩
          · have hji : ¬ (j : Int) < (ds.length : Int) := by omega
            go_wp2
            go_ret
            exact ⟨rfl, HN2.out.b⟩
  · have HER : Hid (errN (treeF ds) = .iface 24 (.int .i64 (treeF ds))) := errN_ne h0
    clear h0
    go_wp2_with fail
    refine HC.out.mono ?_
    rintro e w3 ⟨rfl, b3⟩
    rw [HER.out]
    have B3 := belowT HB2.out (Nat.le_refl _) b3
    generalize treeF ds = E
    go_wp2
    go_ret
    exact ⟨rfl, B3⟩
end Go.Proofs.YtianemmgaiblgabDoor
