/- Some texts as one: Bs1, BstU, BstX. -/
import Derived.Test.YtfabfclbnekleaaDoorSkb
import Derived.Test.YtfabfclbnekleaaDoorPnb
import Derived.Test.YtfabfclbnekleaaDoorShowWs
import Derived.Test.YtfabfclbnekleaaDoorDocs
namespace Go.Proofs.YtfabfclbnekleaaDoor
open Go Go.RowKit

set_option maxRecDepth 100000 in
set_option maxHeartbeats 2000000 in
theorem bshow_any (ds : List Nd) (ws : List Int) (a wa : Option Addr) (cap wc : Nat) (hc : ds.length ≤ cap) (hwc : ws.length ≤ wc) (hl : ws.length ≤ 9223372036854775807) (w : World) (hN : Nods w a ds) (hI : Ints w wa ws) :
    Calls Tryd.prog 57 #[.slice a ds.length cap, .slice wa ws.length wc] w fun e w' => e = .returned (.string (shS (showD ds ws))) ∧ Below w.heap.size w w' := by
  have HC : Hid (Calls Tryd.prog 29 #[.slice a ds.length cap, .slice wa ws.length wc] w fun e w' => e = .returned (.tuple #[.string (shS (showD ds ws)), errN (shE (showD ds ws))]) ∧ Below w.heap.size w w') := wshow_any ds ws a wa cap wc hc hwc hl w hN hI
  clear hN hI hc hwc hl
  generalize shS (showD ds ws) = s at *
  generalize errN (shE (showD ds ws)) = v at *
  go_enter Tryd.func57, Tryd.ntmps57
  go_wp2_with fail
  refine HC.out.mono ?_
  rintro e w2 ⟨rfl, hb⟩
  go_wp2
  go_ret
  exact ⟨rfl, hb⟩

/-- What is wrong with a call of Best. -/
def bE (ds : List Nd) (wd : Int) : Int := if docF ds = 0 then (if wd < 0 ∨ 100 < wd then 1 else 0) else docF ds
open Classical in
/-- The best way of a doc and what it costs. -/
noncomputable def bA (ds : List Nd) (wd : Int) : Crs := if h : docF ds = 0 then (if wd < 0 ∨ 100 < wd then ((0, 0), []) else bs wd.toNat 0 [(0, docT ds h)]) else ((0, 0), [])
/-- Its text. -/
noncomputable def bT (ds : List Nd) (wd : Int) : ByteArray := if bE ds wd = 0 then shS (showD ds (bA ds wd).2) else ⟨#[]⟩
theorem bA_bad {ds : List Nd} {wd : Int} (h : bE ds wd ≠ 0) : bA ds wd = ((0, 0), []) := by
  unfold bE at h
  unfold bA
  split
  · rename_i h0
    rw [if_pos h0] at h
    split at h
    · rename_i h1; rw [if_pos h1]
    · exact absurd rfl h
  · rfl
theorem bA_tree {ds : List Nd} {wd : Nat} {t : Tr} (ht : t.Wf) (e : ds = t.nodes) (hl : ds.length ≤ 400) (hw : wd ≤ 100) : bE ds wd = 0 ∧ bA ds wd = bs wd 0 [(0, t)] := by
  have h : docF ds = 0 := by rw [e]; exact tree_doc ht (by rw [← e]; exact hl)
  have hn : ¬ ((wd : Int) < 0 ∨ (100 : Int) < wd) := by omega
  refine ⟨by rw [bE, if_pos h, if_neg hn], ?_⟩
  rw [bA, dif_pos h, if_neg hn, docT_eq h ht e, Int.toNat_natCast]
theorem vv_root {t : Tr} (ht : t.Wf) (wd : Nat) : vv (plAll t) wd 0 0 = bs wd 0 [(0, t)] := by rw [vv, (sp_root ht).kont]
theorem row_base {w : World} {B B' e size n : Nat} {v : Value} {xs : List Value} (h : w.ownsRow B e size v n xs) (hB : B' ≤ B) : w.ownsRow B' e size v n xs := by
  refine ⟨h.1, ?_⟩
  rcases h.2 with h0 | ⟨g, c, cur, rfl, hb, rest⟩
  · exact .inl h0
  · exact .inr ⟨g, c, cur, rfl, Nat.le_trans hB hb, rest⟩
theorem own_nil (w : World) (B : Nat) : w.ownsRow B 3 1 (.slice none 0 0) 0 (intCells []) := ⟨rfl, .inl ⟨rfl, rfl⟩⟩

/-- What Best hands back. -/
def BestR (ds : List Nd) (wd : Int) (w : World) (e : Ending) (w' : World) : Prop :=
  (∃ wa wc, e = .returned (.tuple #[.string (bT ds wd), .slice wa (bA ds wd).2.length wc, .agg #[.int .i64 (bA ds wd).1.1, .int .i64 (bA ds wd).1.2], errN (bE ds wd)]) ∧ w'.ownsRow w.heap.size 3 1 (.slice wa (bA ds wd).2.length wc) (bA ds wd).2.length (intCells (bA ds wd).2)) ∧ Below w.heap.size w w'

set_option maxRecDepth 100000 in
set_option maxHeartbeats 2000000 in
theorem best_doc (ds : List Nd) (wd : Int) (a : Option Addr) (cap : Nat) (w : World) (hN : Nods w a ds) (h : docF ds ≠ 0) :
    Calls Tryd.prog 35 #[.slice a ds.length cap, .int .i64 wd] w fun e w' => BestR ds wd w e w' := by
  have e0 : bE ds wd = docF ds := by rw [bE, if_neg h]
  have e1 := bA_bad (ds := ds) (wd := wd) (by rw [e0]; exact h)
  have e2 : bT ds wd = ⟨#[]⟩ := by rw [bT, if_neg (by rw [e0]; exact h)]
  have HN : Hid (∀ O, Nods (w.alloc O) a ds) := fun O => hN.below ((Below.refl _ w).alloc (Nat.le_refl _) O)
  have H : Hid (docF ds ≠ 0) := h
  unfold BestR
  rw [e0, e1, e2, errN_ne h]
  clear hN h e0 e1 e2
  go_enter Tryd.func35, Tryd.ntmps35
  go_wp2_with fail
  refine (dcheck_any ds a cap _ (HN.out _)).mono ?_
  rintro e w2 ⟨rfl, hB⟩
  rw [errN_ne H.out]
  obtain ⟨hcl, hfr⟩ := bcell hB
  have k0 : w2.cell? ⟨w.heap.size, 0, none⟩ = some (.int .i64 0) := (hcl _ _ (by simp)).trans (by simp [go_sem])
  have k1 : w2.cell? ⟨w.heap.size, 1, none⟩ = some (.int .i64 0) := (hcl _ _ (by simp)).trans (by simp [go_sem])
  have f0 : w2.frozen? ⟨w.heap.size, 0, none⟩ = false := (hfr _ _ (by simp)).trans (by simp [go_sem])
  have f1 : w2.frozen? ⟨w.heap.size, 1, none⟩ = false := (hfr _ _ (by simp)).trans (by simp [go_sem])
  have hB2 : Below w.heap.size w w2 := ((Below.refl _ w).alloc (Nat.le_refl _) _).trans (hB.mono (by simp))
  clear hcl hfr hB
  go_wp2
  refine bodyPost_ret (v := .tuple #[.string ⟨#[]⟩, .slice none 0 0, .agg #[.int .i64 0, .int .i64 0], .iface 24 (.int .i64 (docF ds))]) (by simp [results, Tryd.results35, go_sem, k0, k1]) rfl ?_
  exact ⟨⟨none, 0, rfl, own_nil _ _⟩, (hB2.setCell (p := ⟨w.heap.size, 0, none⟩) (Nat.le_refl _) _).setCell (p := ⟨w.heap.size, 1, none⟩) (Nat.le_refl _) _⟩

set_option maxRecDepth 100000 in
set_option maxHeartbeats 2000000 in
theorem best_range (ds : List Nd) (wd : Int) (a : Option Addr) (cap : Nat) (w : World) (hN : Nods w a ds) (h : docF ds = 0) (hw : wd < 0 ∨ 100 < wd) :
    Calls Tryd.prog 35 #[.slice a ds.length cap, .int .i64 wd] w fun e w' => BestR ds wd w e w' := by
  have e0 : bE ds wd = 1 := by rw [bE, if_pos h, if_pos hw]
  have e1 := bA_bad (ds := ds) (wd := wd) (by rw [e0]; decide)
  have e2 : bT ds wd = ⟨#[]⟩ := by rw [bT, if_neg (by rw [e0]; decide)]
  have HN : Hid (∀ O, Nods (w.alloc O) a ds) := fun O => hN.below ((Below.refl _ w).alloc (Nat.le_refl _) O)
  have H : Hid (docF ds = 0) := h
  unfold BestR
  rw [e0, e1, e2, errN_1]
  clear hN h e0 e1 e2
  rcases hw with hw | hw
  case' inr => have hw' : ¬ wd < 0 := by omega
  all_goals
    go_enter Tryd.func35, Tryd.ntmps35
    go_wp2_with fail
    refine (dcheck_any ds a cap _ (HN.out _)).mono ?_
    rintro e w2 ⟨rfl, hB⟩
    rw [H.out, errN_0]
    obtain ⟨hcl, hfr⟩ := bcell hB
    have k0 : w2.cell? ⟨w.heap.size, 0, none⟩ = some (.int .i64 0) := (hcl _ _ (by simp)).trans (by simp [go_sem])
    have k1 : w2.cell? ⟨w.heap.size, 1, none⟩ = some (.int .i64 0) := (hcl _ _ (by simp)).trans (by simp [go_sem])
    have f0 : w2.frozen? ⟨w.heap.size, 0, none⟩ = false := (hfr _ _ (by simp)).trans (by simp [go_sem])
    have f1 : w2.frozen? ⟨w.heap.size, 1, none⟩ = false := (hfr _ _ (by simp)).trans (by simp [go_sem])
    have hB2 : Below w.heap.size w w2 := ((Below.refl _ w).alloc (Nat.le_refl _) _).trans (hB.mono (by simp))
    clear hcl hfr hB
    go_wp2
    refine bodyPost_ret (v := .tuple #[.string ⟨#[]⟩, .slice none 0 0, .agg #[.int .i64 0, .int .i64 0], .iface 24 (.int .i64 1)]) (by simp [results, Tryd.results35, go_sem, k0, k1]) rfl ?_
    exact ⟨⟨none, 0, rfl, own_nil _ _⟩, (hB2.setCell (p := ⟨w.heap.size, 0, none⟩) (Nat.le_refl _) _).setCell (p := ⟨w.heap.size, 1, none⟩) (Nat.le_refl _) _⟩

set_option maxRecDepth 100000 in
set_option maxHeartbeats 4000000 in
theorem best_ok (ds : List Nd) (t : Tr) (hd : ds = t.nodes) (ht : t.Wf) (hl : ds.length ≤ 400) (wd : Nat) (hw : wd ≤ 100) (a : Option Addr) (cap : Nat) (hc : ds.length ≤ cap) (w : World) (hN : Nods w a ds) :
    Calls Tryd.prog 35 #[.slice a ds.length cap, .int .i64 wd] w fun e w' => BestR ds wd w e w' := by
  obtain ⟨e0, e1⟩ := bA_tree ht hd hl hw
  have hvv := vv_root ht wd
  have e2 : bT ds wd = shS (showD ds (vv (plAll t) wd 0 0).2) := by rw [bT, if_pos e0, e1, hvv]
  have HR : Hid (BestR ds wd w = fun e w' => (∃ wa wc, e = .returned (.tuple #[.string (shS (showD ds (vv (plAll t) wd 0 0).2)), .slice wa (vv (plAll t) wd 0 0).2.length wc, .agg #[.int .i64 (crs (plAll t) wd 0 0).o, .int .i64 (crs (plAll t) wd 0 0).l], .nilIface]) ∧ w'.ownsRow w.heap.size 3 1 (.slice wa (vv (plAll t) wd 0 0).2.length wc) (vv (plAll t) wd 0 0).2.length (intCells (vv (plAll t) wd 0 0).2)) ∧ Below w.heap.size w w') := by
    show BestR ds wd w = _
    have h3 := (crs_ok (wd := wd) (c := 0) (sp_root ht) (Nat.zero_le _)).1
    funext e w'
    unfold BestR
    rw [e0, e1, e2, errN_0, ← hvv]
    have h4 : ((vv (plAll t) wd 0 0).1.1 : Int) = (crs (plAll t) wd 0 0).o := by rw [h3]
    have h5 : ((vv (plAll t) wd 0 0).1.2 : Int) = (crs (plAll t) wd 0 0).l := by rw [h3]
    rw [h4, h5]
  rw [HR.out]
  have hR0 : 0 < (plAll t).length := by rw [plAll_len]; exact t.pos
  have hRl : (plAll t).length = ds.length := by rw [plAll_len, hd]; rfl
  have h0 : docF ds = 0 := by rw [hd]; exact tree_doc ht (by rw [← hd]; exact hl)
  have hsz : t.sz ≤ 400 := by unfold Tr.sz; rw [← hd]; exact hl
  have hne : ds ≠ [] := by rw [hd]; have := t.pos; exact List.length_pos_iff.1 this
  have HN : Hid (Nods w a ds) := hN
  have H0 : Hid (docF ds = 0) := h0
  have HSK : Hid (∀ sb g mb, SeekP sb g mb wd (plAll t) 0 0) := fun sb g mb => seek_all sb g mb ht hsz hw (plAll t).length 0 0 (by omega) (Nat.zero_le _) (Nat.zero_le _)
  have HCH : Hid (∀ sb g mb (W : World) S, Inv sb g mb wd (plAll t) W S → S 0 0 = true → Calls Tryd.prog 56 #[.pointer (some ⟨sb, 0, none⟩)] W fun e w' => (∃ a cap, e = .returned (.slice a (vv (plAll t) wd 0 0).2.length cap) ∧ w'.ownsRow W.heap.size 3 1 (.slice a (vv (plAll t) wd 0 0).2.length cap) (vv (plAll t) wd 0 0).2.length (intCells (vv (plAll t) wd 0 0).2)) ∧ Below W.heap.size W w') := fun sb g mb W S hI hS => bchoices_any sb g mb ht hsz hw W S hI hS
  have HD : Hid (ds = t.nodes) := hd
  have HRL : Hid ((plAll t).length = ds.length) := hRl
  have HWL : Hid ((vv (plAll t) wd 0 0).2.length ≤ 9223372036854775807) := by
    show (vv (plAll t) wd 0 0).2.length ≤ _
    obtain ⟨a', ha⟩ := best_some t wd
    have hb := best_bst t wd
    rw [bst_bs, ← hvv] at hb
    have h1 := (best_least hb).1
    have h2 := way_len t _ h1
    rw [← hd] at h2
    omega
  have HPN : Hid (∀ (s : Nat) (W : World), NodsS s W a ds → s < W.heap.size → Calls Tryd.prog 54 #[.slice a ds.length cap, .int .i64 wd] W fun e w' => e = .returned (.agg #[.slice (some ⟨W.heap.size + 1, 0, none⟩) ds.length ds.length, .int .i64 wd]) ∧ PR w' (W.heap.size + 1) ds.length (fun j => q2 (plAt (plAll t) j)) ∧ Below W.heap.size W w') := fun s W h1 h2 => bnewPlan_any ds t HD.out ht hl a cap s wd hc W h1 h2
  have hmm := @run_makeMap Tryd.prog
  have hw0 : ¬ (wd : Int) < 0 := by omega
  have hw1 : ¬ (100 : Int) < (wd : Int) := by omega
  clear hN h0 hd hRl e0 e1 e2 hvv HR
  go_enter Tryd.func35, Tryd.ntmps35
  go_wp2_with fail
  refine (dcheck_any ds a cap _ (HN.out.below ((Below.refl _ w).alloc (Nat.le_refl _) _))).mono ?_
  rintro e w2 ⟨rfl, hB⟩
  rw [H0.out, errN_0]
  have hr2 : RowF w2 w.heap.size := RowF.kept ⟨_, _, heap_alloc_new w (.cells #[.int .i64 0, .int .i64 0] 23)⟩ (hB.block _ (by simp))
  have k0 : w2.cell? ⟨w.heap.size, 0, none⟩ = some (.int .i64 0) := ((bcell hB).1 _ _ (by simp)).trans (by simp [go_sem])
  have k1 : w2.cell? ⟨w.heap.size, 1, none⟩ = some (.int .i64 0) := ((bcell hB).1 _ _ (by simp)).trans (by simp [go_sem])
  have HB2 : Hid (Below w.heap.size w w2) := ((Below.refl _ w).alloc (Nat.le_refl _) _).trans (hB.mono (by simp))
  have hs2 : w.heap.size < w2.heap.size := by have := hB.size; simp at this; omega
  have HK2 : Hid (w2.cell? ⟨w.heap.size, 0, none⟩ = some (.int .i64 0) ∧ w2.cell? ⟨w.heap.size, 1, none⟩ = some (.int .i64 0) ∧ RowF w2 w.heap.size) := ⟨k0, k1, hr2⟩
  clear hr2 k0 k1 hB
  obtain ⟨s, hs, hns⟩ := (HN.out.below HB2.out).s hne
  have HNS : Hid (NodsS s w2 a ds) := hns
  clear hns
  go_wp2_with fail
  refine (HPN.out s w2 HNS.out hs).mono ?_
  rintro e w3 ⟨rfl, hpr, hb3⟩
  have HB3 : Hid (Below w.heap.size w w3) := HB2.out.trans (hb3.mono HB2.out.size)
  have hs3 := hb3.size
  have hg3 : w2.heap.size + 1 < w3.heap.size := hpr.row.lt
  have HK3 : Hid (w3.cell? ⟨w.heap.size, 0, none⟩ = some (.int .i64 0) ∧ w3.cell? ⟨w.heap.size, 1, none⟩ = some (.int .i64 0) ∧ RowF w3 w.heap.size) := ⟨(hb3.cell (p := ⟨w.heap.size, 0, none⟩) hs2).trans HK2.out.1, (hb3.cell (p := ⟨w.heap.size, 1, none⟩) hs2).trans HK2.out.2.1, HK2.out.2.2.kept (hb3.block _ hs2)⟩
  have HI4 : Hid (Inv (w3.heap.size + 1) (w2.heap.size + 1) w3.heap.size wd (plAll t) ((w3.alloc (.map #[] 0)).alloc (.cells #[.slice (some ⟨w2.heap.size + 1, 0, none⟩) ds.length ds.length, .int .i64 wd, .map (some w3.heap.size)] 118)) (fun _ _ => false)) := by
    refine ⟨⟨?_, ?_, ?_⟩, ?_, ?_, fun p c h => by cases h⟩
    · rw [HRL.out]; simp [go_sem]
    · simp [go_sem]
    · rw [HRL.out]; exact hpr.kept ((Below.heap_alloc _ _ _ (by simp; omega)).trans (Below.heap_alloc _ _ _ hg3))
    · simp [go_sem]
    · exact (Mem.made w3 _).kept (Below.heap_alloc _ _ _ (by simp))
  have HSE : Hid (∀ W S, Inv (w3.heap.size + 1) (w2.heap.size + 1) w3.heap.size wd (plAll t) W S → Calls Tryd.prog 55 #[.pointer (some ⟨w3.heap.size + 1, 0, none⟩), .agg #[.int .i64 0, .int .i64 0]] W fun e w' => e = .returned (.agg #[.int .i64 (crs (plAll t) wd 0 0).o, .int .i64 (crs (plAll t) wd 0 0).l, .int .i64 (crs (plAll t) wd 0 0).ch, .int .i64 (crs (plAll t) wd 0 0).np, .int .i64 (crs (plAll t) wd 0 0).nc]) ∧ Left (w3.heap.size + 1) (w2.heap.size + 1) w3.heap.size wd (plAll t) S 0 0 0 W w') := fun W S h => by
    have := HSK.out _ _ _ W S h
    rw [if_pos hR0] at this
    exact this
  clear hpr hb3
  go_wp2_with fail
  refine (HSE.out _ _ HI4.out).mono ?_
  rintro e w5 ⟨rfl, hbx, S', hI, _, _, hin⟩
  have hsz4 : ((w3.alloc (.map #[] 0)).alloc (.cells #[.slice (some ⟨w2.heap.size + 1, 0, none⟩) ds.length ds.length, .int .i64 wd, .map (some w3.heap.size)] 118)).heap.size = w3.heap.size + 1 + 1 := by simp
  have hs5 := hbx.size
  rw [hsz4] at hs5
  have hB4 : Below w.heap.size w ((w3.alloc (.map #[] 0)).alloc (.cells #[.slice (some ⟨w2.heap.size + 1, 0, none⟩) ds.length ds.length, .int .i64 wd, .map (some w3.heap.size)] 118)) := belAl (belAl HB3.out _) _
  have HB5 : Hid (Below w.heap.size w w5) := hB4.trans ((hbx.mono (B' := w.heap.size) (by rw [hsz4]; omega)).below (by omega))
  have HK5 : Hid (w5.cell? ⟨w.heap.size, 0, none⟩ = some (.int .i64 0) ∧ w5.cell? ⟨w.heap.size, 1, none⟩ = some (.int .i64 0) ∧ RowF w5 w.heap.size) :=
    ⟨(hbx.cell (p := ⟨w.heap.size, 0, none⟩) (by rw [hsz4]; simp; omega) (by simp; omega)).trans (ka (ka HK3.out.1 _) _), (hbx.cell (p := ⟨w.heap.size, 1, none⟩) (by rw [hsz4]; simp; omega) (by simp; omega)).trans (ka (ka HK3.out.2.1 _) _), HK3.out.2.2.kept ((hbx.block _ (by rw [hsz4]; omega) (by omega)).trans ((Below.heap_alloc _ _ _ (by simp; omega)).trans (Below.heap_alloc _ _ _ (by omega))))⟩
  have HI5 : Hid (Inv (w3.heap.size + 1) (w2.heap.size + 1) w3.heap.size wd (plAll t) w5 S' ∧ S' 0 0 = true) := ⟨hI, hin hR0⟩
  clear hbx hI hin hB4 hsz4 HI4 HSE HSK HPN HB3 HK3 HK2
  generalize hkk : crs (plAll t) wd 0 0 = k at *
  have HKE : Hid (crs (plAll t) wd 0 0 = k) := hkk
  clear hkk
  go_wp2_with fail
  refine (HCH.out _ _ _ _ _ (HI5.out.1.alloc _) HI5.out.2).mono ?_
  rintro e w6 ⟨⟨wa, wc, rfl, hown6⟩, hb6⟩
  obtain ⟨_, _, hwc, hIw, _⟩ := own_ints hown6
  have hB6 : Below w.heap.size w w6 := (belAl HB5.out _).trans (hb6.mono (by have := HB5.out.size; simp; omega))
  have HB6 : Hid (Below w.heap.size w w6) := hB6
  have hlt6 : w5.heap.size < w6.heap.size := by have := hb6.size; simp at this; omega
  have hw5 := HB5.out.size
  have HK6 : Hid (w6.cell? ⟨w.heap.size, 0, none⟩ = some (.int .i64 0) ∧ w6.cell? ⟨w.heap.size, 1, none⟩ = some (.int .i64 0) ∧ RowF w6 w.heap.size) :=
    ⟨(hb6.cell (p := ⟨w.heap.size, 0, none⟩) (by simp; omega)).trans (ka HK5.out.1 _), (hb6.cell (p := ⟨w.heap.size, 1, none⟩) (by simp; omega)).trans (ka HK5.out.2.1 _), HK5.out.2.2.kept ((hb6.block _ (by simp; omega)).trans (Below.heap_alloc _ _ _ (by omega)))⟩
  have u0 : w6.drew.cell? ⟨w5.heap.size, 0, none⟩ = some (.int .i64 k.o) := (hb6.cell (p := ⟨w5.heap.size, 0, none⟩) (by simp)).trans (by simp [go_sem])
  have u1 : w6.drew.cell? ⟨w5.heap.size, 1, none⟩ = some (.int .i64 k.l) := (hb6.cell (p := ⟨w5.heap.size, 1, none⟩) (by simp)).trans (by simp [go_sem])
  have HSH : Hid (Calls Tryd.prog 57 #[.slice a ds.length cap, .slice wa (vv (plAll t) wd 0 0).2.length wc] w6.drew fun e w' => e = .returned (.string (shS (showD ds (vv (plAll t) wd 0 0).2))) ∧ Below w6.drew.heap.size w6.drew w') :=
    bshow_any ds (vv (plAll t) wd 0 0).2 a wa cap wc hc hwc HWL.out w6.drew (HN.out.below hB6.drew) (Ints.below hIw (Below.refl _ w6).drew)
  have HOW : Hid (∀ W : World, (∀ b, w5.heap.size ≤ b → b < w6.heap.size → W.heap[b]? = w6.heap[b]?) → W.ownsRow w.heap.size 3 1 (.slice wa (vv (plAll t) wd 0 0).2.length wc) (vv (plAll t) wd 0 0).2.length (intCells (vv (plAll t) wd 0 0).2)) := fun W hW => by
    have h1 := row_kept (w' := W) hown6 fun b hb => hW b (by have := row_lo hown6 hb; simp at this; omega) (row_type hown6 hb).1
    exact row_base h1 (by simp; omega)
  have HL5 : Hid (w.heap.size < w5.heap.size) := (show w.heap.size < w5.heap.size by omega)
  clear hown6 hIw hB6 hb6 HCH HI5 HK5
  generalize hus : (vv (plAll t) wd 0 0).2 = us at *
  generalize htx : shS (showD ds us) = tx at *
  have HUS : Hid ((vv (plAll t) wd 0 0).2 = us ∧ shS (showD ds us) = tx) := ⟨hus, htx⟩
  clear hus htx
  go_wp2_with fail
  go_region_held3 (fun w' => w'.cell? ⟨w5.heap.size, 0, none⟩ = some (.int .i64 k.o) ∧ w'.cell? ⟨w5.heap.size, 1, none⟩ = some (.int .i64 k.l))
    (first | with_reducible exact ⟨u0, u1⟩ | with_reducible exact ⟨u07, u17⟩ | with_reducible exact ⟨(cso (.inl (Nat.ne_of_lt HL5.out))).trans ((cso (.inl (Nat.ne_of_lt HL5.out))).trans u07), (cso (.inl (Nat.ne_of_lt HL5.out))).trans ((cso (.inl (Nat.ne_of_lt HL5.out))).trans u17)⟩)
    ((go_at_call 57; refine HSH.out.mono ?_; rintro e w7 ⟨rfl, hb7⟩; have u07 := (hb7.cell (p := ⟨w5.heap.size, 0, none⟩) hlt6).trans u0; have u17 := (hb7.cell (p := ⟨w5.heap.size, 1, none⟩) hlt6).trans u1; have k0 := (hb7.cell (p := ⟨w.heap.size, 0, none⟩) (Nat.lt_of_le_of_lt hw5 hlt6)).trans HK6.out.1; have k1 := (hb7.cell (p := ⟨w.heap.size, 1, none⟩) (Nat.lt_of_le_of_lt hw5 hlt6)).trans HK6.out.2.1; have hr7 := HK6.out.2.2.kept (hb7.block w.heap.size (Nat.lt_of_le_of_lt hw5 hlt6)); have f0 : w7.frozen? ⟨w.heap.size, 0, none⟩ = false := hr7.frozen; have f1 : w7.frozen? ⟨w.heap.size, 1, none⟩ = false := hr7.frozen))
  all_goals
    go_wp2
    refine bodyPost_ret (v := .tuple #[.string tx, .slice wa us.length wc, .agg #[.int .i64 k.o, .int .i64 k.l], .nilIface]) (by simp [results, Tryd.results35, go_sem, k0, k1]) rfl ?_
    rw [HUS.out.1, HUS.out.2, HKE.out]
    refine ⟨⟨wa, wc, rfl, HOW.out _ fun b hb1 hb2 => ?_⟩, ?_⟩
    · have h5 := HL5.out
      exact (Below.heap_setCell _ _ _ _ (by simp; omega)).trans ((Below.heap_setCell _ _ _ _ (by simp; omega)).trans (hb7.block b hb2))
    · exact ((HB6.out.drew.trans (hb7.mono HB6.out.size)).setCell (p := ⟨w.heap.size, 0, none⟩) (Nat.le_refl _) _).setCell (p := ⟨w.heap.size, 1, none⟩) (Nat.le_refl _) _

/-- Best, whatever it is given. -/
theorem bbest_any (ds : List Nd) (wd : Int) (a : Option Addr) (cap : Nat) (hc : ds.length ≤ cap) (w : World) (hN : Nods w a ds) :
    Calls Tryd.prog 35 #[.slice a ds.length cap, .int .i64 wd] w fun e w' => BestR ds wd w e w' := by
  by_cases h : docF ds = 0
  · by_cases hw : wd < 0 ∨ 100 < wd
    · exact best_range ds wd a cap w hN h hw
    · obtain ⟨n, rfl⟩ : ∃ n : Nat, wd = n := ⟨wd.toNat, by omega⟩
      exact best_ok ds _ (docT_nodes h) (docT_wf h) (docF_zero h).1 n (by omega) a cap hc w hN
  · exact best_doc ds wd a cap w hN h
end Go.Proofs.YtfabfclbnekleaaDoor
namespace Go.Proofs.YtfabfclbnekleaaDoor

theorem bE_zero {ds : List Nd} {wd : Int} (h : bE ds wd = 0) : docF ds = 0 ∧ ∃ n : Nat, wd = n ∧ n ≤ 100 := by
  unfold bE at h
  split at h
  · rename_i h0
    split at h
    · cases h
    · exact ⟨h0, wd.toNat, by omega, by omega⟩
  · rename_i h0; exact absurd h h0
theorem bE_ok {ds : List Nd} {n : Nat} (h : docF ds = 0) (hn : n ≤ 100) : bE ds n = 0 := by
  rw [bE, if_pos h, if_neg (by omega)]
/-- The doc's tree, and what is best of it. -/
theorem bA_of {ds : List Nd} {wd : Int} (h : bE ds wd = 0) : ∃ (t : Tr) (n : Nat), t.Wf ∧ ds = t.nodes ∧ ds.length ≤ 400 ∧ wd = n ∧ n ≤ 100 ∧ bA ds wd = bs n 0 [(0, t)] ∧ t.best n = some (bA ds wd) := by
  obtain ⟨h0, n, rfl, hn⟩ := bE_zero h
  have e := (bA_tree (docT_wf h0) (docT_nodes h0) (docF_zero h0).1 hn).2
  exact ⟨docT ds h0, n, docT_wf h0, docT_nodes h0, (docF_zero h0).1, rfl, hn, e, by rw [best_bst, bst_bs, e]⟩
theorem bE_len {ds : List Nd} {wd : Int} (h : bE ds wd = 0) : ds.length ≤ 400 ∧ ds ≠ [] := by
  obtain ⟨t, _, _, hd, hl, _⟩ := bA_of h
  exact ⟨hl, by rw [hd]; exact List.length_pos_iff.1 t.pos⟩
theorem bA_le {ds : List Nd} {wd : Int} : (bA ds wd).1.1 ≤ 400000 ∧ (bA ds wd).1.2 ≤ 400000 ∧ (bA ds wd).2.length ≤ 400 := by
  by_cases h : bE ds wd = 0
  · obtain ⟨t, n, ht, hd, hl, rfl, hn, e, hb⟩ := bA_of h
    have h1 := bs_le n 0 t.dsum [(0, t)] (by intro p hp; simp at hp; subst hp; exact ⟨by simp, ht⟩)
    have h2 : lfK [(0, t)] * (21 + t.dsum) ≤ 400000 := by
      simp only [lfK, Nat.add_zero]
      exact most_of (lf_dsum t) (by rw [← hd]; exact hl)
    have h3 := way_len t _ (best_least hb).1
    rw [← hd] at h3
    rw [← e] at h1
    omega
  · rw [bA_bad h]; simp
theorem outsK_both (d : Nat) (x : Nd) (a b : Tr) (ks : List (Nat × Tr)) (h : x.op = 6) : outsK ((d, .two x a b) :: ks) = outsK ((d, a) :: (d, b) :: ks) := by
  rw [outsK, outsK, outsK, Tr.outs, if_pos h, List.flatMap_assoc]
  congr 1
  funext p
  rw [List.flatMap_map, List.map_flatMap]
  congr 1
  funext q
  rw [List.map_map]
  congr 1
  funext z
  simp [Function.comp, List.append_assoc]
/-- Two docs with a new line between. -/
theorem bA_line {ds es : List Nd} {wd : Int} (h1 : bE ds wd = 0) (h2 : bE es wd = 0) (hl : ds.length + es.length + 3 ≤ 400) :
    bE (⟨6, ⟨#[]⟩, 0⟩ :: (ds ++ (⟨6, ⟨#[]⟩, 0⟩ :: ([⟨4, ⟨#[]⟩, 0⟩] ++ es)))) wd = 0 ∧ bA (⟨6, ⟨#[]⟩, 0⟩ :: (ds ++ (⟨6, ⟨#[]⟩, 0⟩ :: ([⟨4, ⟨#[]⟩, 0⟩] ++ es)))) wd = (((bA ds wd).1.1 + (bA es wd).1.1, (bA ds wd).1.2 + (bA es wd).1.2 + 1), (bA ds wd).2 ++ (bA es wd).2) := by
  obtain ⟨t, n, ht, hd, _, rfl, hn, e, _⟩ := bA_of h1
  obtain ⟨t', n', ht', hd', _, hnn, _, e', _⟩ := bA_of h2
  obtain rfl : n = n' := by omega
  have hL : Tr.Wf (.leaf ⟨4, ⟨#[]⟩, 0⟩) := ⟨by decide +kernel, by decide +kernel⟩
  have hw : Tr.Wf (.two ⟨6, ⟨#[]⟩, 0⟩ t (.two ⟨6, ⟨#[]⟩, 0⟩ (.leaf ⟨4, ⟨#[]⟩, 0⟩) t')) := ⟨by decide +kernel, by decide +kernel, ht, by decide +kernel, by decide +kernel, hL, ht'⟩
  have hnd : (⟨6, ⟨#[]⟩, 0⟩ :: (ds ++ (⟨6, ⟨#[]⟩, 0⟩ :: ([⟨4, ⟨#[]⟩, 0⟩] ++ es))) : List Nd) = (Tr.two ⟨6, ⟨#[]⟩, 0⟩ t (.two ⟨6, ⟨#[]⟩, 0⟩ (.leaf ⟨4, ⟨#[]⟩, 0⟩) t')).nodes := by simp [Tr.nodes, hd, hd']
  obtain ⟨g1, g2⟩ := bA_tree hw hnd (by simp; omega) hn
  refine ⟨g1, ?_⟩
  rw [g2, bs_both rfl]
  have hb : bst n 0 ((0, t) :: (0, .two ⟨6, ⟨#[]⟩, 0⟩ (.leaf ⟨4, ⟨#[]⟩, 0⟩) t') :: []) = bst n 0 ((0, t) :: (0, .leaf ⟨4, ⟨#[]⟩, 0⟩) :: [(0, t')]) := by
    unfold bst itemsK
    rw [show outsK ((0, t) :: (0, .two ⟨6, ⟨#[]⟩, 0⟩ (.leaf ⟨4, ⟨#[]⟩, 0⟩) t') :: []) = outsK ((0, t) :: (0, .leaf ⟨4, ⟨#[]⟩, 0⟩) :: [(0, t')]) from by
      rw [outsK, outsK_both 0 ⟨6, ⟨#[]⟩, 0⟩ _ _ _ rfl]; rfl]
  rw [bs, hb, bst_line n 0 0 0 t _ _ ⟨by decide, by decide⟩, bst_bs, bst_bs n 0 ((0, .leaf ⟨4, ⟨#[]⟩, 0⟩) :: [(0, t')]), andC, bs_line ⟨by decide, by decide⟩, e, e']
  simp only [plus, Option.getD_some, Nat.zero_sub, Nat.zero_add, Nat.zero_min, List.nil_append, Prod.mk.injEq, and_true, true_and]
  omega
/-- A column more. -/
theorem bA_wider {ds : List Nd} {wd : Int} (h : bE ds wd = 0) (hw : wd < 100) : bE ds (wd + 1) = 0 ∧ ¬ lessC (bA ds wd).1 (bA ds (wd + 1)).1 := by
  obtain ⟨t, n, ht, hd, hl, rfl, hn, e, _⟩ := bA_of h
  obtain ⟨g1, g2⟩ := bA_tree (wd := n + 1) ht hd hl (by omega)
  have ec : ((n + 1 : Nat) : Int) = (n : Int) + 1 := by omega
  rw [ec] at g1 g2
  refine ⟨g1, ?_⟩
  rw [e, g2]
  exact bst_wider n 0 [(0, t)] _ _ (bst_bs _ _ _) (bst_bs _ _ _)
/-- In a group. -/
theorem bA_group {ds : List Nd} {wd : Int} (h : bE ds wd = 0) (hl : ds.length + 1 ≤ 400) : bE (⟨8, ⟨#[]⟩, 0⟩ :: ds) wd = 0 ∧ ¬ lessC (bA ds wd).1 (bA (⟨8, ⟨#[]⟩, 0⟩ :: ds) wd).1 := by
  obtain ⟨t, n, ht, hd, _, rfl, hn, e, _⟩ := bA_of h
  have hw : Tr.Wf (.one ⟨8, ⟨#[]⟩, 0⟩ t) := ⟨by decide +kernel, by decide +kernel, ht⟩
  obtain ⟨g1, g2⟩ := bA_tree (ds := ⟨8, ⟨#[]⟩, 0⟩ :: ds) hw (by simp [Tr.nodes, hd]) (by simp; omega) hn
  refine ⟨g1, ?_⟩
  rw [e, g2]
  exact bst_in_group n 0 0 ⟨8, ⟨#[]⟩, 0⟩ t [] (by decide) _ _ (bst_bs _ _ _) (bst_bs _ _ _)
/-- One of two. -/
theorem bA_two {ds es : List Nd} {wd : Int} (h1 : bE ds wd = 0) (h2 : bE es wd = 0) (hl : ds.length + es.length + 1 ≤ 400) : bE (⟨9, ⟨#[]⟩, 0⟩ :: (ds ++ es)) wd = 0 ∧ (bA (⟨9, ⟨#[]⟩, 0⟩ :: (ds ++ es)) wd).1 = if lessC (bA es wd).1 (bA ds wd).1 then (bA es wd).1 else (bA ds wd).1 := by
  obtain ⟨t, n, ht, hd, _, rfl, hn, e, _⟩ := bA_of h1
  obtain ⟨t', n', ht', hd', _, hnn, _, e', _⟩ := bA_of h2
  obtain rfl : n = n' := by omega
  have hw : Tr.Wf (.two ⟨9, ⟨#[]⟩, 0⟩ t t') := ⟨by decide +kernel, by decide +kernel, ht, ht'⟩
  obtain ⟨g1, g2⟩ := bA_tree (ds := ⟨9, ⟨#[]⟩, 0⟩ :: (ds ++ es)) hw (by simp [Tr.nodes, hd, hd']) (by simp; omega) hn
  refine ⟨g1, ?_⟩
  rw [e, e', g2]
  exact bst_of_two n 0 0 ⟨9, ⟨#[]⟩, 0⟩ t t' [] (by decide) _ _ _ (bst_bs _ _ _) (bst_bs _ _ _) (bst_bs _ _ _)
end Go.Proofs.YtfabfclbnekleaaDoor
namespace Go.Proofs.YtfabfclbnekleaaDoor
open Go Go.RowKit

/-- A cost in a box. -/
def Bx (w : World) (b : Nat) (o l : Int) : Prop := w.cell? ⟨b, 0, none⟩ = some (.int .i64 o) ∧ w.cell? ⟨b, 1, none⟩ = some (.int .i64 l)
theorem Bx.below {w w' : World} {b : Nat} {o l : Int} (h : Bx w b o l) (hb : Below w.heap.size w w') : Bx w' b o l :=
  ⟨(hb.cell (p := ⟨b, 0, none⟩) (World.block_lt_of_cell? w ⟨b, 0, none⟩ h.1)).trans h.1, (hb.cell (p := ⟨b, 1, none⟩) (World.block_lt_of_cell? w ⟨b, 0, none⟩ h.1)).trans h.2⟩
theorem Bx.alloc {w : World} {b : Nat} {o l : Int} (h : Bx w b o l) (O : Obj) : Bx (w.alloc O) b o l := ⟨ka h.1 O, ka h.2 O⟩
theorem Bx.new (w : World) (o l : Int) (T : TypeId) : Bx (w.alloc (.cells #[.int .i64 o, .int .i64 l] T)) w.heap.size o l := ⟨by simp [go_sem], by simp [go_sem]⟩
theorem Bx.drew {w : World} {b : Nat} {o l : Int} (h : Bx w b o l) : Bx w.drew b o l := h
/-- What Best hands back, of letters. -/
def BestX (T : ByteArray) (A : Crs) (V : Value) (w : World) (e : Ending) (w' : World) : Prop :=
  (∃ wa wc, e = .returned (.tuple #[.string T, .slice wa A.2.length wc, .agg #[.int .i64 A.1.1, .int .i64 A.1.2], V]) ∧ w'.ownsRow w.heap.size 3 1 (.slice wa A.2.length wc) A.2.length (intCells A.2)) ∧ Below w.heap.size w w'
theorem best_x (ds : List Nd) (wd : Int) (a : Option Addr) (cap : Nat) (hc : ds.length ≤ cap) (w : World) (hN : Nods w a ds) :
    Calls Tryd.prog 35 #[.slice a ds.length cap, .int .i64 wd] w fun e w' => BestX (bT ds wd) (bA ds wd) (errN (bE ds wd)) w e w' := bbest_any ds wd a cap hc w hN
theorem row_form {w : World} {B e size n : Nat} {v : Value} {xs : List Value} (h : w.ownsRow B e size v n xs) : ∃ a cap, v = .slice a n cap := by
  rcases h.2 with ⟨hv, h0⟩ | ⟨g, c, cur, hv, _⟩
  · exact ⟨none, 0, by rw [hv, h0]⟩
  · exact ⟨_, c, hv⟩
end Go.Proofs.YtfabfclbnekleaaDoor
