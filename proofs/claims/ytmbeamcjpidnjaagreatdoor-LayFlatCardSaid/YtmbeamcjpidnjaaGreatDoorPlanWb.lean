/- Some texts as one: PlanW3, PlanW4, PlanZ, PlanN. -/
import Derived.Test.YtmbeamcjpidnjaaGreatDoorPlanWa
import Derived.BigRegion
namespace Go.Proofs.YtmbeamcjpidnjaaGreatDoor
open Go Go.RowKit

set_option maxRecDepth 100000 in
set_option maxHeartbeats 4000000 in
theorem learn_6t (bp be bf s o n cap i j : Nat) (x2 : Int) (f2 : Bool) (w : World) (hn : n ≤ 400) (hi : (i : Int) < n) (hi1 : (i : Int) + 1 < n) (hj : (j : Int) < n) (hij : i + 1 < j) (h1 : bp ≠ be) (h2 : bp ≠ bf) (h3 : be ≠ bf) (h4 : s ≠ be) (h5 : s ≠ bf)
    (c0 : w.cell? ⟨bp, 0, none⟩ = some (.slice (some ⟨s, o, none⟩) n cap)) (c1 : w.cell? ⟨bp, 1, none⟩ = some (.slice (some ⟨be, 0, none⟩) n n)) (c2 : w.cell? ⟨bp, 2, none⟩ = some (.slice (some ⟨bf, 0, none⟩) n n))
    (d1 : w.cell? ⟨s, o + i * 3, none⟩ = some (.int .i64 6))
    (e1 : w.cell? ⟨be, i + 1, none⟩ = some (.int .i64 (j : Int)))
    (e2 : w.cell? ⟨be, j, none⟩ = some (.int .i64 x2))
    (e3 : w.cell? ⟨bf, i + 1, none⟩ = some (.bool true))
    (e4 : w.cell? ⟨bf, j, none⟩ = some (.bool f2))
    (y1 y2 : Value) (e5 : w.cell? ⟨be, i, none⟩ = some y1) (e6 : w.cell? ⟨bf, i, none⟩ = some y2) (z1 : w.frozen? ⟨be, i, none⟩ = false) (z2 : w.frozen? ⟨bf, i, none⟩ = false) :
    Calls Tryz.prog 90 #[.pointer (some ⟨bp, 0, none⟩), .int .i64 i] w fun e w' => e = .returned (.tuple #[]) ∧ Put2 be bf i (.int .i64 x2) (.bool f2) w w' := by
  have hw1 := wrapS hn hi
  have hp1 : (0 : Int) ≤ (i : Int) + 1 := by omega
  have hp0 : (0 : Int) ≤ (i : Int) := by omega
  have htn : ((i : Int) + 1).toNat = i + 1 := by omega
  have hpj : (0 : Int) ≤ (j : Int) := by omega
  go_enter Tryz.func90, Tryz.ntmps90
  go_wp2_with fail
  go_region_held3 (fun w' => w'.cell? ⟨bp, 0, none⟩ = some (.slice (some ⟨s, o, none⟩) n cap) ∧ w'.cell? ⟨bp, 1, none⟩ = some (.slice (some ⟨be, 0, none⟩) n n) ∧ w'.cell? ⟨bp, 2, none⟩ = some (.slice (some ⟨bf, 0, none⟩) n n) ∧ w'.cell? ⟨s, o + i * 3, none⟩ = some (.int .i64 6) ∧ w'.cell? ⟨be, i + 1, none⟩ = some (.int .i64 (j : Int)) ∧ w'.cell? ⟨be, j, none⟩ = some (.int .i64 x2) ∧ w'.cell? ⟨bf, i + 1, none⟩ = some (.bool true) ∧ w'.cell? ⟨bf, j, none⟩ = some (.bool f2))
    (first | exact ⟨c0, c1, c2, d1, e1, e2, e3, e4⟩ | exact ⟨(cso (by omega)).trans c0, (cso (by omega)).trans c1, (cso (by omega)).trans c2, (cso (by omega)).trans d1, (cso (by omega)).trans e1, (cso (by omega)).trans e2, (cso (by omega)).trans e3, (cso (by omega)).trans e4⟩ | exact ⟨(cso (by omega)).trans ((cso (by omega)).trans c0), (cso (by omega)).trans ((cso (by omega)).trans c1), (cso (by omega)).trans ((cso (by omega)).trans c2), (cso (by omega)).trans ((cso (by omega)).trans d1), (cso (by omega)).trans ((cso (by omega)).trans e1), (cso (by omega)).trans ((cso (by omega)).trans e2), (cso (by omega)).trans ((cso (by omega)).trans e3), (cso (by omega)).trans ((cso (by omega)).trans e4)⟩) (fail)
  all_goals
    go_wp2
    go_end0
    exact ⟨rfl, rfl, rfl, rfl, rfl⟩

set_option maxRecDepth 100000 in
set_option maxHeartbeats 4000000 in
theorem learn_6f (bp be bf s o n cap i j : Nat) (x2 : Int) (f2 : Bool) (w : World) (hn : n ≤ 400) (hi : (i : Int) < n) (hi1 : (i : Int) + 1 < n) (hj : (j : Int) < n) (_hij : i + 1 < j) (h1 : bp ≠ be) (h2 : bp ≠ bf) (h3 : be ≠ bf) (h4 : s ≠ be) (h5 : s ≠ bf)
    (c0 : w.cell? ⟨bp, 0, none⟩ = some (.slice (some ⟨s, o, none⟩) n cap)) (c1 : w.cell? ⟨bp, 1, none⟩ = some (.slice (some ⟨be, 0, none⟩) n n)) (c2 : w.cell? ⟨bp, 2, none⟩ = some (.slice (some ⟨bf, 0, none⟩) n n))
    (d1 : w.cell? ⟨s, o + i * 3, none⟩ = some (.int .i64 6))
    (e1 : w.cell? ⟨be, i + 1, none⟩ = some (.int .i64 (j : Int)))
    (e2 : w.cell? ⟨be, j, none⟩ = some (.int .i64 x2))
    (e3 : w.cell? ⟨bf, i + 1, none⟩ = some (.bool false))
    (_e4 : w.cell? ⟨bf, j, none⟩ = some (.bool f2))
    (y1 y2 : Value) (e5 : w.cell? ⟨be, i, none⟩ = some y1) (e6 : w.cell? ⟨bf, i, none⟩ = some y2) (z1 : w.frozen? ⟨be, i, none⟩ = false) (z2 : w.frozen? ⟨bf, i, none⟩ = false) :
    Calls Tryz.prog 90 #[.pointer (some ⟨bp, 0, none⟩), .int .i64 i] w fun e w' => e = .returned (.tuple #[]) ∧ Put2 be bf i (.int .i64 x2) (.bool false) w w' := by
  have hw1 := wrapS hn hi
  have hp1 : (0 : Int) ≤ (i : Int) + 1 := by omega
  have hp0 : (0 : Int) ≤ (i : Int) := by omega
  have htn : ((i : Int) + 1).toNat = i + 1 := by omega
  have hpj : (0 : Int) ≤ (j : Int) := by omega
  have q0 := (cso (W := w) (v := .int .i64 x2) (b := be) (o := i) (by omega)).trans c0
  have q1 := (cso (W := w) (v := .int .i64 x2) (b := be) (o := i) (by omega)).trans c1
  have q2 := (cso (W := w) (v := .int .i64 x2) (b := be) (o := i) (by omega)).trans c2
  have q3 := (cso (W := w) (v := .int .i64 x2) (b := be) (o := i) (by omega)).trans e3
  have q6 := (cso (W := w) (v := .int .i64 x2) (b := be) (o := i) (by omega)).trans e6
  have qf := (csf (W := w) (v := .int .i64 x2) (a := ⟨be, i, none⟩)).trans z2
  go_enter Tryz.func90, Tryz.ntmps90
  go_wp2_with fail
  go_region
  all_goals
    go_wp2
    go_end0
    exact ⟨rfl, rfl, rfl, rfl, rfl⟩
end Go.Proofs.YtmbeamcjpidnjaaGreatDoor
namespace Go.Proofs.YtmbeamcjpidnjaaGreatDoor
open Go Go.RowKit

set_option maxRecDepth 100000 in
set_option maxHeartbeats 4000000 in
theorem learn_9 (bp be bf s o n cap i j : Nat) (x2 : Int) (f1 : Bool) (w : World) (hn : n ≤ 400) (hi : (i : Int) < n) (hi1 : (i : Int) + 1 < n) (hj : (j : Int) < n) (hij : i + 1 < j) (h1 : bp ≠ be) (h2 : bp ≠ bf) (h3 : be ≠ bf) (h4 : s ≠ be) (h5 : s ≠ bf)
    (c0 : w.cell? ⟨bp, 0, none⟩ = some (.slice (some ⟨s, o, none⟩) n cap)) (c1 : w.cell? ⟨bp, 1, none⟩ = some (.slice (some ⟨be, 0, none⟩) n n)) (c2 : w.cell? ⟨bp, 2, none⟩ = some (.slice (some ⟨bf, 0, none⟩) n n))
    (d1 : w.cell? ⟨s, o + i * 3, none⟩ = some (.int .i64 9))
    (e1 : w.cell? ⟨be, i + 1, none⟩ = some (.int .i64 (j : Int)))
    (e2 : w.cell? ⟨be, j, none⟩ = some (.int .i64 x2))
    (e3 : w.cell? ⟨bf, i + 1, none⟩ = some (.bool f1))
    (y1 y2 : Value) (e5 : w.cell? ⟨be, i, none⟩ = some y1) (e6 : w.cell? ⟨bf, i, none⟩ = some y2) (z1 : w.frozen? ⟨be, i, none⟩ = false) (z2 : w.frozen? ⟨bf, i, none⟩ = false) :
    Calls Tryz.prog 90 #[.pointer (some ⟨bp, 0, none⟩), .int .i64 i] w fun e w' => e = .returned (.tuple #[]) ∧ Put2 be bf i (.int .i64 x2) (.bool f1) w w' := by
  have hw1 := wrapS hn hi
  have hp1 : (0 : Int) ≤ (i : Int) + 1 := by omega
  have hp0 : (0 : Int) ≤ (i : Int) := by omega
  have htn : ((i : Int) + 1).toNat = i + 1 := by omega
  have hpj : (0 : Int) ≤ (j : Int) := by omega
  go_enter Tryz.func90, Tryz.ntmps90
  go_wp2_with fail
  go_region_held3 (fun w' => w'.cell? ⟨bp, 0, none⟩ = some (.slice (some ⟨s, o, none⟩) n cap) ∧ w'.cell? ⟨bp, 1, none⟩ = some (.slice (some ⟨be, 0, none⟩) n n) ∧ w'.cell? ⟨bp, 2, none⟩ = some (.slice (some ⟨bf, 0, none⟩) n n) ∧ w'.cell? ⟨s, o + i * 3, none⟩ = some (.int .i64 9) ∧ w'.cell? ⟨be, i + 1, none⟩ = some (.int .i64 (j : Int)) ∧ w'.cell? ⟨be, j, none⟩ = some (.int .i64 x2) ∧ w'.cell? ⟨bf, i + 1, none⟩ = some (.bool f1))
    (first | exact ⟨c0, c1, c2, d1, e1, e2, e3⟩ | exact ⟨(cso (by omega)).trans c0, (cso (by omega)).trans c1, (cso (by omega)).trans c2, (cso (by omega)).trans d1, (cso (by omega)).trans e1, (cso (by omega)).trans e2, (cso (by omega)).trans e3⟩ | exact ⟨(cso (by omega)).trans ((cso (by omega)).trans c0), (cso (by omega)).trans ((cso (by omega)).trans c1), (cso (by omega)).trans ((cso (by omega)).trans c2), (cso (by omega)).trans ((cso (by omega)).trans d1), (cso (by omega)).trans ((cso (by omega)).trans e1), (cso (by omega)).trans ((cso (by omega)).trans e2), (cso (by omega)).trans ((cso (by omega)).trans e3)⟩) (fail)
  all_goals
    go_wp2
    go_end0
    exact ⟨rfl, rfl, rfl, rfl, rfl⟩
end Go.Proofs.YtmbeamcjpidnjaaGreatDoor
namespace Go.Proofs.YtmbeamcjpidnjaaGreatDoor
open Go Go.RowKit

/-- A block of so many cells that may be written. -/
def Row (w : World) (b n : Nat) : Prop := ∃ cs T, w.heap[b]? = some (.cells cs T (0, 0)) ∧ cs.size = n
theorem Row.lt {w : World} {b n : Nat} (h : Row w b n) : b < w.heap.size := by
  obtain ⟨cs, T, h, _⟩ := h
  rcases Nat.lt_or_ge b w.heap.size with h' | h'
  · exact h'
  · simp [Array.getElem?_eq_none h'] at h
theorem Row.cell {w : World} {b n i : Nat} (h : Row w b n) (hi : i < n) : ∃ y, w.cell? ⟨b, i, none⟩ = some y := by
  obtain ⟨cs, T, h, hs⟩ := h
  refine ⟨cs[i], ?_⟩
  simp [World.cell?, h]
theorem Row.frozen {w : World} {b n i : Nat} (h : Row w b n) : w.frozen? ⟨b, i, none⟩ = false := by
  obtain ⟨cs, T, h, hs⟩ := h
  simp [World.frozen?, h]
theorem Row.kept {w w' : World} {b n : Nat} (h : Row w b n) (hb : w'.heap[b]? = w.heap[b]?) : Row w' b n := by
  obtain ⟨cs, T, h, hs⟩ := h
  exact ⟨cs, T, hb.trans h, hs⟩
theorem Row.set {w : World} {b n c i : Nat} {v : Value} (h : Row w b n) : Row (w.setCell ⟨c, i, none⟩ v) b n := by
  by_cases e : c = b
  · subst e
    obtain ⟨cs, T, h, hs⟩ := h
    exact ⟨cs.setIfInBounds i v, T, by simp [World.setCell, Array.getElem?_modify, h], by simpa using hs⟩
  · exact h.kept (Below.heap_setCell _ _ _ _ (Ne.symm e))

section
variable {be bf i : Nat} {e f : Value} {w w' : World}
theorem Put2.block (h : Put2 be bf i e f w w') (k : Nat) (h1 : k ≠ be) (h2 : k ≠ bf) : w'.heap[k]? = w.heap[k]? := by
  rw [h.2.2.2, Below.heap_setCell _ _ _ _ h2, Below.heap_setCell _ _ _ _ h1]
theorem Put2.cells (h : Put2 be bf i e f w w') (b o : Nat) : w'.cell? ⟨b, o, none⟩ = ((w.setCell ⟨be, i, none⟩ e).setCell ⟨bf, i, none⟩ f).cell? ⟨b, o, none⟩ := World.cell?_of_block (a := ⟨b, o, none⟩) (by rw [h.2.2.2])
theorem Put2.other (h : Put2 be bf i e f w w') (b o : Nat) (h1 : be ≠ b ∨ i ≠ o) (h2 : bf ≠ b ∨ i ≠ o) : w'.cell? ⟨b, o, none⟩ = w.cell? ⟨b, o, none⟩ := (h.cells b o).trans ((cso h2).trans (cso h1))
theorem Put2.cellE (h : Put2 be bf i e f w w') (hb : be ≠ bf) {y : Value} (hy : w.cell? ⟨be, i, none⟩ = some y) : w'.cell? ⟨be, i, none⟩ = some e := (h.cells be i).trans ((cso (by omega)).trans (css hy))
theorem Put2.cellF (h : Put2 be bf i e f w w') (hb : be ≠ bf) {y : Value} (hy : w.cell? ⟨bf, i, none⟩ = some y) : w'.cell? ⟨bf, i, none⟩ = some f := (h.cells bf i).trans (css ((cso (by omega)).trans hy))
theorem Put2.size (h : Put2 be bf i e f w w') : w'.heap.size = w.heap.size := by rw [h.2.2.2]; simp [World.setCell]
theorem Put2.below (h : Put2 be bf i e f w w') {B : Nat} (h1 : B ≤ be) (h2 : B ≤ bf) : Below B w w' :=
  ⟨h.1, h.2.1, h.2.2.1, Nat.le_of_eq h.size.symm, fun k hk => h.block k (by omega) (by omega)⟩
theorem Put2.row {b n : Nat} (h : Put2 be bf i e f w w') (hr : Row w b n) : Row w' b n := by
  refine (Row.set (c := bf) (i := i) (v := f) (Row.set (c := be) (i := i) (v := e) hr)).kept ?_
  rw [h.2.2.2]
end

/-- From a place on it is known where each doc ends, and whether it is flat. -/
def Known (w : World) (be bf : Nat) (ds : List Nd) (k : Nat) : Prop :=
  ∀ i (t : Tr) (r : List Nd), k ≤ i → t.Wf → ds.drop i = t.nodes ++ r → w.cell? ⟨be, i, none⟩ = some (.int .i64 ((i + t.nodes.length : Nat) : Int)) ∧ w.cell? ⟨bf, i, none⟩ = some (.bool t.isFlat)
theorem Known.kept {w w' : World} {be bf : Nat} {ds : List Nd} {k : Nat} (h : Known w be bf ds k) (h1 : w'.heap[be]? = w.heap[be]?) (h2 : w'.heap[bf]? = w.heap[bf]?) : Known w' be bf ds k := by
  intro i t r hk ht hd
  obtain ⟨c1, c2⟩ := h i t r hk ht hd
  exact ⟨(World.cell?_of_block (w := w) (a := ⟨be, i, none⟩) h1).trans c1, (World.cell?_of_block (w := w) (a := ⟨bf, i, none⟩) h2).trans c2⟩
theorem Known.end {w : World} {be bf : Nat} {ds : List Nd} : Known w be bf ds ds.length := by
  intro i t r hk ht hd
  rw [List.drop_eq_nil_of_le hk] at hd
  have := t.pos
  have h2 := congrArg List.length hd
  rw [List.length_append, List.length_nil] at h2
  omega
theorem Known.step {w w' : World} {be bf : Nat} {ds : List Nd} {i : Nat} {t : Tr} {r : List Nd} {y1 y2 : Value} (h : Known w be bf ds (i + 1)) (ht : t.Wf) (hd : ds.drop i = t.nodes ++ r) (hb : be ≠ bf) (e1 : w.cell? ⟨be, i, none⟩ = some y1) (e2 : w.cell? ⟨bf, i, none⟩ = some y2)
    (hp : Put2 be bf i (.int .i64 ((i + t.nodes.length : Nat) : Int)) (.bool t.isFlat) w w') : Known w' be bf ds i := by
  intro j t' r' hk ht' hd'
  by_cases hj : j = i
  · subst hj
    obtain ⟨rfl, _⟩ := nodes_inj t t' r r' ht ht' (hd.symm.trans hd')
    exact ⟨hp.cellE hb e1, hp.cellF hb e2⟩
  · obtain ⟨c1, c2⟩ := h j t' r' (by omega) ht' hd'
    exact ⟨(hp.other be j (by omega) (by omega)).trans c1, (hp.other bf j (by omega) (by omega)).trans c2⟩

theorem drop_cons {ds A : List Nd} {i : Nat} {x : Nd} (h : ds.drop i = x :: A) : ∃ hi : i < ds.length, ds[i] = x ∧ ds.drop (i + 1) = A := by
  have hi : i < ds.length := by
    rcases Nat.lt_or_ge i ds.length with h' | h'
    · exact h'
    · rw [List.drop_eq_nil_of_le h'] at h; cases h
  rw [List.drop_eq_getElem_cons hi, List.cons.injEq] at h
  exact ⟨hi, h⟩
theorem drop_app {ds A r : List Nd} {i : Nat} (h : ds.drop i = A ++ r) : ds.drop (i + A.length) = r := by
  rw [← List.drop_drop, h, List.drop_left]
theorem drop_lt {ds : List Nd} {i : Nat} {t : Tr} {r : List Nd} (h : ds.drop i = t.nodes ++ r) : i < ds.length := by
  rcases Nat.lt_or_ge i ds.length with h' | h'
  · exact h'
  · have h2 := congrArg List.length h
    have := t.pos
    rw [List.drop_eq_nil_of_le h', List.length_append, List.length_nil] at h2
    omega

theorem learn_any (bp be bf s cap i : Nat) (ds : List Nd) (a : Option Addr) (t : Tr) (r : List Nd) (w : World) (ht : t.Wf) (hd : ds.drop i = t.nodes ++ r) (hl : ds.length ≤ 400) (hN : NodsS s w a ds) (h1 : bp ≠ be) (h2 : bp ≠ bf) (h3 : be ≠ bf) (h4 : s ≠ be) (h5 : s ≠ bf)
    (c0 : w.cell? ⟨bp, 0, none⟩ = some (.slice a ds.length cap)) (c1 : w.cell? ⟨bp, 1, none⟩ = some (.slice (some ⟨be, 0, none⟩) ds.length ds.length)) (c2 : w.cell? ⟨bp, 2, none⟩ = some (.slice (some ⟨bf, 0, none⟩) ds.length ds.length))
    (hE : Row w be ds.length) (hF : Row w bf ds.length) (hK : Known w be bf ds (i + 1)) :
    Calls Tryz.prog 90 #[.pointer (some ⟨bp, 0, none⟩), .int .i64 i] w fun e w' => e = .returned (.tuple #[]) ∧ Put2 be bf i (.int .i64 ((i + t.nodes.length : Nat) : Int)) (.bool t.isFlat) w w' := by
  have hi := drop_lt hd
  obtain ⟨y1, e5⟩ := hE.cell hi
  obtain ⟨y2, e6⟩ := hF.cell hi
  have z1 : w.frozen? ⟨be, i, none⟩ = false := hE.frozen
  have z2 : w.frozen? ⟨bf, i, none⟩ = false := hF.frozen
  obtain ⟨o, ea, d1, _, _⟩ := hN i hi
  subst ea
  have hiI : (i : Int) < ds.length := by omega
  cases t with
  | leaf x =>
    obtain ⟨_, ex, _⟩ := drop_cons (x := x) (A := r) hd
    have en : ((i + (Tr.leaf x).nodes.length : Nat) : Int) = (i : Int) + 1 := rfl
    rw [en]
    rw [ex] at d1
    rcases leaf_op ht.1 ht.2 with e | e | e | e | e
    · have ef : (Tr.leaf x).isFlat = true := by simp [Tr.isFlat, Tr.flat, e]
      rw [ef]; rw [e] at d1
      exact learn_1 bp be bf s o _ cap i w hl hiI h1 h2 h3 h4 h5 c0 c1 c2 d1 y1 y2 e5 e6 z1 z2
    · have ef : (Tr.leaf x).isFlat = true := by simp [Tr.isFlat, Tr.flat, e]
      rw [ef]; rw [e] at d1
      exact learn_2 bp be bf s o _ cap i w hl hiI h1 h2 h3 h4 h5 c0 c1 c2 d1 y1 y2 e5 e6 z1 z2
    · have ef : (Tr.leaf x).isFlat = true := by simp [Tr.isFlat, Tr.flat, e]
      rw [ef]; rw [e] at d1
      exact learn_3 bp be bf s o _ cap i w hl hiI h1 h2 h3 h4 h5 c0 c1 c2 d1 y1 y2 e5 e6 z1 z2
    · have ef : (Tr.leaf x).isFlat = false := by simp [Tr.isFlat, Tr.flat, e]
      rw [ef]; rw [e] at d1
      exact learn_4 bp be bf s o _ cap i w hl hiI h1 h2 h3 h4 h5 c0 c1 c2 d1 y1 y2 e5 e6 z1 z2
    · have ef : (Tr.leaf x).isFlat = true := by simp [Tr.isFlat, Tr.flat, e]
      rw [ef]; rw [e] at d1
      exact learn_5 bp be bf s o _ cap i w hl hiI h1 h2 h3 h4 h5 c0 c1 c2 d1 y1 y2 e5 e6 z1 z2
  | one x a' =>
    obtain ⟨_, ex, hd'⟩ := drop_cons (x := x) (A := a'.nodes ++ r) hd
    have hi1 := drop_lt hd'
    obtain ⟨k1, k2⟩ := hK (i + 1) a' r (Nat.le_refl _) ht.2.2 hd'
    have en : ((i + (Tr.one x a').nodes.length : Nat) : Int) = ((i + 1 + a'.nodes.length : Nat) : Int) := by simp only [Tr.nodes, List.length_cons]; congr 1; omega
    have ef : (Tr.one x a').isFlat = a'.isFlat := rfl
    rw [en, ef]
    rw [ex] at d1
    rcases one_op ht.2.1 with e | e
    · rw [e] at d1
      exact learn_7 bp be bf s o _ cap i _ _ w hl hiI (by omega) h1 h2 h3 h4 h5 c0 c1 c2 d1 k1 k2 y1 y2 e5 e6 z1 z2
    · rw [e] at d1
      exact learn_8 bp be bf s o _ cap i _ _ w hl hiI (by omega) h1 h2 h3 h4 h5 c0 c1 c2 d1 k1 k2 y1 y2 e5 e6 z1 z2
  | two x a' b' =>
    obtain ⟨_, ex, hd0⟩ := drop_cons (x := x) (A := a'.nodes ++ b'.nodes ++ r) hd
    have hd' : ds.drop (i + 1) = a'.nodes ++ (b'.nodes ++ r) := by rw [hd0, List.append_assoc]
    have hd'' := drop_app hd'
    have hi1 := drop_lt hd'
    have hi2 := drop_lt hd''
    have hp := a'.pos
    obtain ⟨k1, k2⟩ := hK (i + 1) a' _ (Nat.le_refl _) ht.2.2.1 hd'
    obtain ⟨k3, k4⟩ := hK _ b' r (by omega) ht.2.2.2 hd''
    have en : ((i + (Tr.two x a' b').nodes.length : Nat) : Int) = ((i + 1 + a'.nodes.length + b'.nodes.length : Nat) : Int) := by simp only [Tr.nodes, List.length_cons, List.length_append]; congr 1; omega
    rw [en]
    rw [ex] at d1
    rcases two_op ht.2.1 with e | e
    · have ef : (Tr.two x a' b').isFlat = (a'.isFlat && b'.isFlat) := (line_both e).2
      rw [ef]
      rw [e] at d1
      cases hf : a'.isFlat with
      | true =>
        rw [hf] at k2
        exact learn_6t bp be bf s o _ cap i _ _ _ w hl hiI (by omega) (by omega) (by omega) h1 h2 h3 h4 h5 c0 c1 c2 d1 k1 k3 k2 k4 y1 y2 e5 e6 z1 z2
      | false =>
        rw [hf] at k2
        exact learn_6f bp be bf s o _ cap i _ _ _ w hl hiI (by omega) (by omega) (by omega) h1 h2 h3 h4 h5 c0 c1 c2 d1 k1 k3 k2 k4 y1 y2 e5 e6 z1 z2
    · have ef : (Tr.two x a' b').isFlat = a'.isFlat := by simp [Tr.isFlat, Tr.flat, e]
      rw [ef]
      rw [e] at d1
      exact learn_9 bp be bf s o _ cap i _ _ _ w hl hiI (by omega) (by omega) (by omega) h1 h2 h3 h4 h5 c0 c1 c2 d1 k1 k3 k2 y1 y2 e5 e6 z1 z2

theorem intInfo : (Tryz.prog.info? 3).map (fun i => (i.zero, i.size, i.bytes)) = some (some (.int .i64 0), 1, 8) := by kernel_rfl
theorem boolInfo : (Tryz.prog.info? 4).map (fun i => (i.zero, i.size, i.bytes)) = some (some (.bool false), 1, 1) := by kernel_rfl

/-- The plan's blocks, behind a world: where it lies, its two lists, and the box of what comes back. -/
structure PlanM (w0 : World) (s bp be bf : Nat) (a : Option Addr) (cap : Nat) (ds : List Nd) (w : World) : Prop where
  b1 : w0.heap.size ≤ bp
  b2 : w0.heap.size + 1 ≤ be
  b3 : w0.heap.size + 1 ≤ bf
  n1 : bp ≠ be
  n2 : bp ≠ bf
  n3 : be ≠ bf
  c0 : w.cell? ⟨bp, 0, none⟩ = some (.slice a ds.length cap)
  c1 : w.cell? ⟨bp, 1, none⟩ = some (.slice (some ⟨be, 0, none⟩) ds.length ds.length)
  c2 : w.cell? ⟨bp, 2, none⟩ = some (.slice (some ⟨bf, 0, none⟩) ds.length ds.length)
  re : Row w be ds.length
  rf : Row w bf ds.length
  rb : w.heap[w0.heap.size]? = some (.cells #[.slice none 0 0, .slice none 0 0, .slice none 0 0] 106 (0, 0))
  bw : Below w0.heap.size w0 w
  nd : NodsS s w a ds

theorem PlanM.put {w0 w w' : World} {s bp be bf cap i : Nat} {a : Option Addr} {ds : List Nd} {e f : Value} (h : PlanM w0 s bp be bf a cap ds w) (hs : s < w0.heap.size) (hp : Put2 be bf i e f w w') : PlanM w0 s bp be bf a cap ds w' where
  b1 := h.b1
  b2 := h.b2
  b3 := h.b3
  n1 := h.n1
  n2 := h.n2
  n3 := h.n3
  c0 := (hp.other bp 0 (.inl h.n1.symm) (.inl h.n2.symm)).trans h.c0
  c1 := (hp.other bp 1 (.inl h.n1.symm) (.inl h.n2.symm)).trans h.c1
  c2 := (hp.other bp 2 (.inl h.n1.symm) (.inl h.n2.symm)).trans h.c2
  re := hp.row h.re
  rf := hp.row h.rf
  rb := (hp.block _ (by have := h.b2; omega) (by have := h.b3; omega)).trans h.rb
  bw := h.bw.trans (hp.below (by have := h.b2; omega) (by have := h.b3; omega))
  nd := h.nd.kept (hp.block s (by have := h.b2; omega) (by have := h.b3; omega))
end Go.Proofs.YtmbeamcjpidnjaaGreatDoor
namespace Go.Proofs.YtmbeamcjpidnjaaGreatDoor
open Go Go.RowKit

theorem madeRow (z : Value) (n : Nat) : (madeCells #[z] n).size = n := by simp [madeCells]

theorem heaps4 (w : World) (O0 O1 O2 O3 : Obj) : ((((w.alloc O0).alloc O1).alloc O2).alloc O3).drew.heap[w.heap.size]? = some O0 ∧ ((((w.alloc O0).alloc O1).alloc O2).alloc O3).drew.heap[w.heap.size + 1]? = some O1
    ∧ ((((w.alloc O0).alloc O1).alloc O2).alloc O3).drew.heap[w.heap.size + 1 + 1]? = some O2 ∧ ((((w.alloc O0).alloc O1).alloc O2).alloc O3).drew.heap[w.heap.size + 1 + 1 + 1]? = some O3 := by
  have s1 : (w.alloc O0).heap.size = w.heap.size + 1 := by simp
  have s2 : ((w.alloc O0).alloc O1).heap.size = w.heap.size + 1 + 1 := by simp
  have s3 : (((w.alloc O0).alloc O1).alloc O2).heap.size = w.heap.size + 1 + 1 + 1 := by simp
  have n0 := heap_alloc_new w O0
  have n1 := heap_alloc_new (w.alloc O0) O1
  have n2 := heap_alloc_new ((w.alloc O0).alloc O1) O2
  have n3 := heap_alloc_new (((w.alloc O0).alloc O1).alloc O2) O3
  rw [s1] at n1
  rw [s2] at n2
  rw [s3] at n3
  refine ⟨?_, ?_, ?_, n3⟩
  · exact (Below.heap_alloc _ _ _ (by omega)).trans ((Below.heap_alloc _ _ _ (by omega)).trans ((Below.heap_alloc _ _ _ (by omega)).trans n0))
  · exact (Below.heap_alloc _ _ _ (by omega)).trans ((Below.heap_alloc _ _ _ (by omega)).trans n1)
  · exact (Below.heap_alloc _ _ _ (by omega)).trans n2
theorem belowP4 (w : World) (O0 O1 O2 O3 : Obj) : Below w.heap.size w ((((w.alloc O0).alloc O1).alloc O2).alloc O3).drew :=
  Below.drew (((((Below.refl _ w).alloc (Nat.le_refl _) _).alloc (by simp) _).alloc (by simp; omega) _).alloc (by simp; omega) _)

theorem planM_of {w W : World} {s bp be bf cap : Nat} {a : Option Addr} {ds : List Nd} (hs : s < w.heap.size) (hN : NodsS s w a ds) (bw : Below w.heap.size w W) (rb : W.heap[w.heap.size]? = some (.cells #[.slice none 0 0, .slice none 0 0, .slice none 0 0] 106 (0, 0)))
    (hp : W.heap[bp]? = some (.cells #[.slice a ds.length cap, .slice (some ⟨be, 0, none⟩) ds.length ds.length, .slice (some ⟨bf, 0, none⟩) ds.length ds.length] 106 (0, 0))) {ce cf : Array Value} {Te Tf : TypeId} (he : W.heap[be]? = some (.cells ce Te (0, 0))) (hce : ce.size = ds.length) (hf : W.heap[bf]? = some (.cells cf Tf (0, 0))) (hcf : cf.size = ds.length)
    (b1 : w.heap.size ≤ bp) (b2 : w.heap.size + 1 ≤ be) (b3 : w.heap.size + 1 ≤ bf) (n1 : bp ≠ be) (n2 : bp ≠ bf) (n3 : be ≠ bf) : PlanM w s bp be bf a cap ds W where
  b1 := b1
  b2 := b2
  b3 := b3
  n1 := n1
  n2 := n2
  n3 := n3
  c0 := by simp [World.cell?, hp]
  c1 := by simp [World.cell?, hp]
  c2 := by simp [World.cell?, hp]
  re := ⟨ce, Te, he, hce⟩
  rf := ⟨cf, Tf, hf, hcf⟩
  rb := rb
  bw := bw
  nd := hN.kept (bw.block s hs)

set_option maxRecDepth 100000 in
set_option maxHeartbeats 4000000 in
theorem newPlan_any (ds : List Nd) (a : Option Addr) (cap s : Nat) (w : World) (h0 : docF ds = 0) (hN : NodsS s w a ds) (hs : s < w.heap.size) :
    Calls Tryz.prog 57 #[.slice a ds.length cap] w fun e w' => (∃ be bf, e = .returned (.agg #[.slice a ds.length cap, .slice (some ⟨be, 0, none⟩) ds.length ds.length, .slice (some ⟨bf, 0, none⟩) ds.length ds.length]) ∧ be < w'.heap.size ∧ bf < w'.heap.size ∧ Known w' be bf ds 0) ∧ Below w.heap.size w w' := by
  obtain ⟨hl, hn0, he⟩ := docF_zero h0
  have hm1 : ∀ W : World, (Instr.makeSlice 42 (.int .i64 (ds.length : Int)) (.int .i64 (ds.length : Int))).run Tryz.prog W = .ok (.slice (some ⟨W.heap.size, 0, none⟩) ds.length ds.length) (W.alloc (.cells (madeCells #[.int .i64 0] ds.length) 3)) := fun W =>
    run_make_row' 42 3 _ 8 Tryz.underlying42 intInfo rfl .i64 .i64 ds.length (by omega) (by omega) W
  have hm2 : ∀ W : World, (Instr.makeSlice 104 (.int .i64 (ds.length : Int)) (.int .i64 (ds.length : Int))).run Tryz.prog W = .ok (.slice (some ⟨W.heap.size, 0, none⟩) ds.length ds.length) (W.alloc (.cells (madeCells #[.bool false] ds.length) 4)) := fun W =>
    run_make_row' 104 4 _ 1 Tryz.underlying104 boolInfo rfl .i64 .i64 ds.length (by omega) (by omega) W
  have HN0 : Hid (∀ x ∈ ds, nodeF x = 0) := hn0
  have HE0 : Hid (endAt ds 0 1 = some ds.length) := he
  have HN : Hid (NodsS s w a ds) := hN
  clear h0 hN hn0 he
  go_enter Tryz.func57, Tryz.ntmps57
  go_upto_region 1 with fail
  go_cut [0, 2, 3] (fun s0 s2 s3 wx => s0 = .slice a ds.length cap ∧ s2 = .pointer (some ⟨w.heap.size, 0, none⟩) ∧ ∃ bp be bf, s3 = .pointer (some ⟨bp, 0, none⟩) ∧ PlanM w s bp be bf a cap ds wx)
  case first =>
    go_region_held3 (fun _ => True) (trivial) (fail)
    all_goals (go_wp2)
    all_goals
      go_meet
      first
        | exact ⟨rfl, rfl, w.heap.size + 1 + 1 + 1, w.heap.size + 1, w.heap.size + 1 + 1, rfl, planM_of hs HN.out (belowP4 w _ _ _ _) (heaps4 w _ _ _ _).1 (heaps4 w _ _ _ _).2.2.2 (heaps4 w _ _ _ _).2.1 (madeRow _ _) (heaps4 w _ _ _ _).2.2.1 (madeRow _ _) (by omega) (by omega) (by omega) (by omega) (by omega) (by omega)⟩
        | exact ⟨rfl, rfl, w.heap.size + 1 + 1, w.heap.size + 1, w.heap.size + 1 + 1 + 1, rfl, planM_of hs HN.out (belowP4 w _ _ _ _) (heaps4 w _ _ _ _).1 (heaps4 w _ _ _ _).2.2.1 (heaps4 w _ _ _ _).2.1 (madeRow _ _) (heaps4 w _ _ _ _).2.2.2 (madeRow _ _) (by omega) (by omega) (by omega) (by omega) (by omega) (by omega)⟩
        | exact ⟨rfl, rfl, w.heap.size + 1 + 1 + 1, w.heap.size + 1 + 1, w.heap.size + 1, rfl, planM_of hs HN.out (belowP4 w _ _ _ _) (heaps4 w _ _ _ _).1 (heaps4 w _ _ _ _).2.2.2 (heaps4 w _ _ _ _).2.2.1 (madeRow _ _) (heaps4 w _ _ _ _).2.1 (madeRow _ _) (by omega) (by omega) (by omega) (by omega) (by omega) (by omega)⟩
        | exact ⟨rfl, rfl, w.heap.size + 1, w.heap.size + 1 + 1, w.heap.size + 1 + 1 + 1, rfl, planM_of hs HN.out (belowP4 w _ _ _ _) (heaps4 w _ _ _ _).1 (heaps4 w _ _ _ _).2.1 (heaps4 w _ _ _ _).2.2.1 (madeRow _ _) (heaps4 w _ _ _ _).2.2.2 (madeRow _ _) (by omega) (by omega) (by omega) (by omega) (by omega) (by omega)⟩
        | exact ⟨rfl, rfl, w.heap.size + 1 + 1, w.heap.size + 1 + 1 + 1, w.heap.size + 1, rfl, planM_of hs HN.out (belowP4 w _ _ _ _) (heaps4 w _ _ _ _).1 (heaps4 w _ _ _ _).2.2.1 (heaps4 w _ _ _ _).2.2.2 (madeRow _ _) (heaps4 w _ _ _ _).2.1 (madeRow _ _) (by omega) (by omega) (by omega) (by omega) (by omega) (by omega)⟩
        | exact ⟨rfl, rfl, w.heap.size + 1, w.heap.size + 1 + 1 + 1, w.heap.size + 1 + 1, rfl, planM_of hs HN.out (belowP4 w _ _ _ _) (heaps4 w _ _ _ _).1 (heaps4 w _ _ _ _).2.1 (heaps4 w _ _ _ _).2.2.2 (madeRow _ _) (heaps4 w _ _ _ _).2.2.1 (madeRow _ _) (by omega) (by omega) (by omega) (by omega) (by omega) (by omega)⟩
  case rest =>
    obtain ⟨rfl, rfl, bp, be, bf, rfl, hP⟩ := hcut
    have HP : Hid (PlanM w s bp be bf a cap ds wc) := hP
    clear hP
    go_wp2
    go_loopw [4] (fun i wr => PlanM w s bp be bf a cap ds wr ∧ ∃ k : Nat, k ≤ ds.length ∧ i = .int .i64 ((k : Int) - 1) ∧ Known wr be bf ds k) (fun i _ => (intOf i + 1).toNat)
    case atStart => exact ⟨HP.out, ds.length, Nat.le_refl _, by go_num, Known.end⟩
    case round =>
      obtain ⟨hp, k, hk, rfl, hK⟩ := hrel
      have HR : Hid (PlanM w s bp be bf a cap ds wr) := hp
      have HK : Hid (Known wr be bf ds k) := hK
      clear hp hK
      by_cases hk0 : k = 0
      · subst hk0
        have hneg : ¬ ((0 : Int) ≤ ((0 : Nat) : Int) - 1) := by omega
        have c0 := HR.out.c0
        have c1 := HR.out.c1
        have c2 := HR.out.c2
        have rb := HR.out.rb
        have r0 : wr.cell? ⟨w.heap.size, 0, none⟩ = some (.slice none 0 0) := by simp [World.cell?, rb]
        have r1 : wr.cell? ⟨w.heap.size, 1, none⟩ = some (.slice none 0 0) := by simp [World.cell?, rb]
        have r2 : wr.cell? ⟨w.heap.size, 2, none⟩ = some (.slice none 0 0) := by simp [World.cell?, rb]
        have f0 : wr.frozen? ⟨w.heap.size, 0, none⟩ = false := by simp [World.frozen?, rb]
        have f1 : wr.frozen? ⟨w.heap.size, 1, none⟩ = false := by simp [World.frozen?, rb]
        have f2 : wr.frozen? ⟨w.heap.size, 2, none⟩ = false := by simp [World.frozen?, rb]
        clear rb
        go_wp2
        refine bodyPost_ret (v := .agg #[.slice a ds.length cap, .slice (some ⟨be, 0, none⟩) ds.length ds.length, .slice (some ⟨bf, 0, none⟩) ds.length ds.length]) (by simp [results, Tryz.results57, go_sem, r0, r1, r2]) rfl ?_
        have hb : ∀ v0 v1 v2, Below w.heap.size wr (((wr.setCell ⟨w.heap.size, 0, none⟩ v0).setCell ⟨w.heap.size, 1, none⟩ v1).setCell ⟨w.heap.size, 2, none⟩ v2) := fun v0 v1 v2 =>
          (((Below.refl _ wr).setCell (p := ⟨w.heap.size, 0, none⟩) (Nat.le_refl _) _).setCell (p := ⟨w.heap.size, 1, none⟩) (Nat.le_refl _) _).setCell (p := ⟨w.heap.size, 2, none⟩) (Nat.le_refl _) _
        have hne := HR.out.b2
        have hnf := HR.out.b3
        have le := HR.out.re.lt
        have lf := HR.out.rf.lt
        have hk : ∀ v0 v1 v2 k, k ≠ w.heap.size → (((wr.setCell ⟨w.heap.size, 0, none⟩ v0).setCell ⟨w.heap.size, 1, none⟩ v1).setCell ⟨w.heap.size, 2, none⟩ v2).heap[k]? = wr.heap[k]? := fun v0 v1 v2 k hk =>
          (Below.heap_setCell _ _ _ _ hk).trans ((Below.heap_setCell _ _ _ _ hk).trans (Below.heap_setCell _ _ _ _ hk))
        exact ⟨⟨be, bf, rfl, Nat.lt_of_lt_of_le le (hb _ _ _).size, Nat.lt_of_lt_of_le lf (hb _ _ _).size, HK.out.kept (hk _ _ _ _ (by omega)) (hk _ _ _ _ (by omega))⟩, HR.out.bw.trans (hb _ _ _)⟩
      · obtain ⟨i, rfl⟩ : ∃ i, k = i + 1 := ⟨k - 1, by omega⟩
        have hki : (((i + 1 : Nat) : Int) - 1) = (i : Int) := by omega
        rw [hki]
        obtain ⟨j, hj, hj1, hj2⟩ := endAt_mid HE0.out (show i < ds.length by omega)
        obtain ⟨t, ht, hd, _⟩ := tree_at HN0.out hj
        have HD : Hid (ds.drop i = t.nodes ++ ds.drop j) := hd
        clear hd hj hki
        go_wp2_with fail
        refine (learn_any bp be bf s cap i ds a t (ds.drop j) _ ht HD.out hl HR.out.nd HR.out.n1 HR.out.n2 HR.out.n3 (by have := HR.out.b2; omega) (by have := HR.out.b3; omega) HR.out.c0 HR.out.c1 HR.out.c2 HR.out.re HR.out.rf HK.out).mono ?_
        rintro e w2 ⟨rfl, hp2⟩
        obtain ⟨y1, e5⟩ := HR.out.re.cell (show i < ds.length by omega)
        obtain ⟨y2, e6⟩ := HR.out.rf.cell (show i < ds.length by omega)
        have HR2 : Hid (PlanM w s bp be bf a cap ds w2) := HR.out.put hs hp2
        have HK2 : Hid (Known w2 be bf ds i) := HK.out.step ht HD.out HR.out.n3 e5 e6 hp2
        clear hp2 e5 e6
        go_wp2
        go_roundw
        case rel => exact ⟨HR2.out, i, by omega, by go_num, HK2.out⟩
        case measure => simp [intOf]
end Go.Proofs.YtmbeamcjpidnjaaGreatDoor
