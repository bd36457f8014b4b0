/- Some texts as one: Pm0, Pm1, Pm2, Pm3. -/
import Derived.Test.YtfabfclbnekleaaDoorBstPs
import Derived.Test.YtfabfclbnekleaaDoorNodS
import Derived.Test.YtfabfclbnekleaaDoorBldXs
import Derived.Deep.RegionHeld3
import Derived.Deep.OwnRows
import Derived.Deep.DeepCutAuto
import Derived.BigQuiet
import Derived.BigRegion
import Derived.Test.YtfabfclbnekleaaDoorChkAdd
namespace Go.Proofs.YtfabfclbnekleaaDoor
open Go Go.RowKit

/-- A place in memory. -/
structure Q where
  op : Int
  tx : ByteArray
  n : Int
  en : Int
  nx : Int
  dp : Int
  lg : Int
def q0 : Q := ⟨0, ⟨#[]⟩, 0, 0, 0, 0, 0⟩
def q1 (r : Pl) : Q := ⟨r.nd.op, r.nd.tx, r.nd.n, r.en, 0, 0, 0⟩
def q2 (r : Pl) : Q := ⟨r.nd.op, r.nd.tx, r.nd.n, r.en, r.nx, r.dp, r.lg⟩
structure PlcAt (w : World) (g j : Nat) (q : Q) : Prop where
  c0 : w.cell? ⟨g, j * 7, none⟩ = some (.int .i64 q.op)
  c1 : w.cell? ⟨g, j * 7 + 1, none⟩ = some (.string q.tx)
  c2 : w.cell? ⟨g, j * 7 + 2, none⟩ = some (.int .i64 q.n)
  c3 : w.cell? ⟨g, j * 7 + 3, none⟩ = some (.int .i64 q.en)
  c4 : w.cell? ⟨g, j * 7 + 4, none⟩ = some (.int .i64 q.nx)
  c5 : w.cell? ⟨g, j * 7 + 5, none⟩ = some (.int .i64 q.dp)
  c6 : w.cell? ⟨g, j * 7 + 6, none⟩ = some (.int .i64 q.lg)
/-- A block that may be written. -/
def RowF (w : World) (b : Nat) : Prop := ∃ cs T, w.heap[b]? = some (.cells cs T (0, 0))
theorem RowF.frozen {w : World} {b i : Nat} (h : RowF w b) : w.frozen? ⟨b, i, none⟩ = false := by
  obtain ⟨cs, T, h⟩ := h
  simp [World.frozen?, h]
theorem RowF.lt {w : World} {b : Nat} (h : RowF w b) : b < w.heap.size := by
  obtain ⟨cs, T, h⟩ := h
  rcases Nat.lt_or_ge b w.heap.size with h' | h'
  · exact h'
  · simp [Array.getElem?_eq_none h'] at h
theorem RowF.kept {w w' : World} {b : Nat} (h : RowF w b) (hb : w'.heap[b]? = w.heap[b]?) : RowF w' b := by
  obtain ⟨cs, T, h⟩ := h
  exact ⟨cs, T, hb.trans h⟩
theorem RowF.set {w : World} {b c i : Nat} {v : Value} (h : RowF w b) : RowF (w.setCell ⟨c, i, none⟩ v) b := by
  by_cases e : c = b
  · subst e
    obtain ⟨cs, T, h⟩ := h
    exact ⟨cs.setIfInBounds i v, T, by simp [World.setCell, Array.getElem?_modify, h]⟩
  · exact h.kept (Below.heap_setCell _ _ _ _ (Ne.symm e))
/-- So many places in memory. -/
structure PR (w : World) (g n : Nat) (F : Nat → Q) : Prop where
  get : ∀ j, j < n → PlcAt w g j (F j)
  row : RowF w g
theorem PlcAt.kept {w w' : World} {g j : Nat} {q : Q} (h : PlcAt w g j q) (hb : w'.heap[g]? = w.heap[g]?) : PlcAt w' g j q := by
  have hc : ∀ k, w'.cell? ⟨g, k, none⟩ = w.cell? ⟨g, k, none⟩ := fun k => World.cell?_of_block (w := w) (a := ⟨g, k, none⟩) hb
  exact ⟨(hc _).trans h.c0, (hc _).trans h.c1, (hc _).trans h.c2, (hc _).trans h.c3, (hc _).trans h.c4, (hc _).trans h.c5, (hc _).trans h.c6⟩
theorem PR.kept {w w' : World} {g n : Nat} {F : Nat → Q} (h : PR w g n F) (hb : w'.heap[g]? = w.heap[g]?) : PR w' g n F := ⟨fun j hj => (h.get j hj).kept hb, h.row.kept hb⟩
theorem PR.congr {w : World} {g n : Nat} {F G : Nat → Q} (h : PR w g n F) (e : ∀ j, j < n → F j = G j) : PR w g n G := ⟨fun j hj => e j hj ▸ h.get j hj, h.row⟩
/-- Another place is not touched. -/
theorem PlcAt.other {w : World} {g j k f : Nat} {q : Q} {v : Value} (h : PlcAt w g k q) (hf : f < 7) (hk : k ≠ j) : PlcAt (w.setCell ⟨g, j * 7 + f, none⟩ v) g k q :=
  ⟨(cso (by omega)).trans h.c0, (cso (by omega)).trans h.c1, (cso (by omega)).trans h.c2, (cso (by omega)).trans h.c3, (cso (by omega)).trans h.c4, (cso (by omega)).trans h.c5, (cso (by omega)).trans h.c6⟩
/-- One place anew. -/
def upd (F : Nat → Q) (j : Nat) (q : Q) : Nat → Q := fun k => if k = j then q else F k
theorem upd_same (F : Nat → Q) (j : Nat) (q : Q) : upd F j q j = q := by simp [upd]
theorem upd_other {F : Nat → Q} {j k : Nat} {q : Q} (h : k ≠ j) : upd F j q k = F k := by simp [upd, h]
theorem PR.put {w : World} {g n j f : Nat} {F : Nat → Q} {v : Value} {q : Q} (h : PR w g n F) (hf : f < 7) (hq : PlcAt (w.setCell ⟨g, j * 7 + f, none⟩ v) g j q) : PR (w.setCell ⟨g, j * 7 + f, none⟩ v) g n (upd F j q) where
  get k hk := by
    by_cases e : k = j
    · subst e; rw [upd_same]; exact hq
    · rw [upd_other e]; exact (h.get k hk).other hf e
  row := h.row.set
section
variable {w : World} {g n j : Nat} {F : Nat → Q}
theorem PR.putOp (h : PR w g n F) (hj : j < n) (x : Int) : PR (w.setCell ⟨g, j * 7, none⟩ (.int .i64 x)) g n (upd F j { F j with op := x }) := by
  have k := h.get j hj
  exact h.put (f := 0) (by omega) ⟨css k.c0, (cso (by omega)).trans k.c1, (cso (by omega)).trans k.c2, (cso (by omega)).trans k.c3, (cso (by omega)).trans k.c4, (cso (by omega)).trans k.c5, (cso (by omega)).trans k.c6⟩
theorem PR.putTx (h : PR w g n F) (hj : j < n) (x : ByteArray) : PR (w.setCell ⟨g, j * 7 + 1, none⟩ (.string x)) g n (upd F j { F j with tx := x }) := by
  have k := h.get j hj
  exact h.put (f := 1) (by omega) ⟨(cso (by omega)).trans k.c0, css k.c1, (cso (by omega)).trans k.c2, (cso (by omega)).trans k.c3, (cso (by omega)).trans k.c4, (cso (by omega)).trans k.c5, (cso (by omega)).trans k.c6⟩
theorem PR.putN (h : PR w g n F) (hj : j < n) (x : Int) : PR (w.setCell ⟨g, j * 7 + 2, none⟩ (.int .i64 x)) g n (upd F j { F j with n := x }) := by
  have k := h.get j hj
  exact h.put (f := 2) (by omega) ⟨(cso (by omega)).trans k.c0, (cso (by omega)).trans k.c1, css k.c2, (cso (by omega)).trans k.c3, (cso (by omega)).trans k.c4, (cso (by omega)).trans k.c5, (cso (by omega)).trans k.c6⟩
theorem PR.putEn (h : PR w g n F) (hj : j < n) (x : Int) : PR (w.setCell ⟨g, j * 7 + 3, none⟩ (.int .i64 x)) g n (upd F j { F j with en := x }) := by
  have k := h.get j hj
  exact h.put (f := 3) (by omega) ⟨(cso (by omega)).trans k.c0, (cso (by omega)).trans k.c1, (cso (by omega)).trans k.c2, css k.c3, (cso (by omega)).trans k.c4, (cso (by omega)).trans k.c5, (cso (by omega)).trans k.c6⟩
theorem PR.putNx (h : PR w g n F) (hj : j < n) (x : Int) : PR (w.setCell ⟨g, j * 7 + 4, none⟩ (.int .i64 x)) g n (upd F j { F j with nx := x }) := by
  have k := h.get j hj
  exact h.put (f := 4) (by omega) ⟨(cso (by omega)).trans k.c0, (cso (by omega)).trans k.c1, (cso (by omega)).trans k.c2, (cso (by omega)).trans k.c3, css k.c4, (cso (by omega)).trans k.c5, (cso (by omega)).trans k.c6⟩
theorem PR.putDp (h : PR w g n F) (hj : j < n) (x : Int) : PR (w.setCell ⟨g, j * 7 + 5, none⟩ (.int .i64 x)) g n (upd F j { F j with dp := x }) := by
  have k := h.get j hj
  exact h.put (f := 5) (by omega) ⟨(cso (by omega)).trans k.c0, (cso (by omega)).trans k.c1, (cso (by omega)).trans k.c2, (cso (by omega)).trans k.c3, (cso (by omega)).trans k.c4, css k.c5, (cso (by omega)).trans k.c6⟩
theorem PR.putLg (h : PR w g n F) (hj : j < n) (x : Int) : PR (w.setCell ⟨g, j * 7 + 6, none⟩ (.int .i64 x)) g n (upd F j { F j with lg := x }) := by
  have k := h.get j hj
  exact h.put (f := 6) (by omega) ⟨(cso (by omega)).trans k.c0, (cso (by omega)).trans k.c1, (cso (by omega)).trans k.c2, (cso (by omega)).trans k.c3, (cso (by omega)).trans k.c4, (cso (by omega)).trans k.c5, css k.c6⟩
end
theorem upd_upd (F : Nat → Q) (j : Nat) (p q : Q) : upd (upd F j p) j q = upd F j q := by
  funext k
  simp only [upd]
  split <;> rfl
theorem ka {w : World} {b o : Nat} {v : Value} (h : w.cell? ⟨b, o, none⟩ = some v) (O : Obj) : (w.alloc O).cell? ⟨b, o, none⟩ = some v :=
  (((Below.refl _ w).alloc (Nat.le_refl _) O).cell (p := ⟨b, o, none⟩) (World.block_lt_of_cell? w _ h)).trans h
theorem kaf {w : World} {b o : Nat} (hb : b < w.heap.size) (h : w.frozen? ⟨b, o, none⟩ = false) (O : Obj) : (w.alloc O).frozen? ⟨b, o, none⟩ = false :=
  (((Below.refl _ w).alloc (Nat.le_refl _) O).frozen (p := ⟨b, o, none⟩) hb).trans h
theorem wrapT {i n : Nat} (hn : n ≤ 400) (hi : (i : Int) < n) : IntKind.i64.wrap ((i : Int) + 1) = (i : Int) + 1 := by
  rw [IntKind.wrap_i64]; omega
end Go.Proofs.YtfabfclbnekleaaDoor
namespace Go.Proofs.YtfabfclbnekleaaDoor
open Go Go.RowKit

set_option maxRecDepth 100000 in
set_option maxHeartbeats 4000000 in
theorem bend_leaf (bp g n i : Nat) (op : Int) (w : World) (hn : n ≤ 400) (hi : (i : Int) < n)
    (c0 : w.cell? ⟨bp, 0, none⟩ = some (.slice (some ⟨g, 0, none⟩) n n)) (d1 : w.cell? ⟨g, i * 7, none⟩ = some (.int .i64 op)) (h6 : (op == 6) = false) (h9 : (op == 9) = false) (h7 : (op == 7) = false) (h8 : (op == 8) = false) :
    Calls Tryd.prog 75 #[.pointer (some ⟨bp, 0, none⟩), .int .i64 i] w fun e w' => e = .returned (.int .i64 ((i : Int) + 1)) ∧ ∃ q, w' = w.drewN q := by
  have hw1 := wrapT hn hi
  have hp0 : (0 : Int) ≤ (i : Int) := by omega
  go_enter Tryd.func75, Tryd.ntmps75
  go_wp2
  go_ret
  exact ⟨rfl, 0, rfl⟩

set_option maxRecDepth 100000 in
set_option maxHeartbeats 4000000 in
theorem bend_one (bp g n i : Nat) (op x : Int) (w : World) (hn : n ≤ 400) (hi : (i : Int) < n) (hi1 : (i : Int) + 1 < n)
    (c0 : w.cell? ⟨bp, 0, none⟩ = some (.slice (some ⟨g, 0, none⟩) n n)) (d1 : w.cell? ⟨g, i * 7, none⟩ = some (.int .i64 op)) (d2 : w.cell? ⟨g, (i + 1) * 7 + 3, none⟩ = some (.int .i64 x)) (hop : op = 7 ∨ op = 8) :
    Calls Tryd.prog 75 #[.pointer (some ⟨bp, 0, none⟩), .int .i64 i] w fun e w' => e = .returned (.int .i64 x) ∧ ∃ q, w' = w.drewN q := by
  have hw1 := wrapT hn hi
  have hp0 : (0 : Int) ≤ (i : Int) := by omega
  have hp1 : (0 : Int) ≤ (i : Int) + 1 := by omega
  have htn : ((i : Int) + 1).toNat = i + 1 := by omega
  rcases hop with rfl | rfl
  all_goals
    go_enter Tryd.func75, Tryd.ntmps75
    go_wp2
    go_ret
    exact ⟨rfl, 0, rfl⟩

set_option maxRecDepth 100000 in
set_option maxHeartbeats 4000000 in
theorem bend_two (bp g n i j : Nat) (op x : Int) (w : World) (hn : n ≤ 400) (hi : (i : Int) < n) (hi1 : (i : Int) + 1 < n) (hj : (j : Int) < n)
    (c0 : w.cell? ⟨bp, 0, none⟩ = some (.slice (some ⟨g, 0, none⟩) n n)) (d1 : w.cell? ⟨g, i * 7, none⟩ = some (.int .i64 op)) (d2 : w.cell? ⟨g, (i + 1) * 7 + 3, none⟩ = some (.int .i64 (j : Int))) (d3 : w.cell? ⟨g, j * 7 + 3, none⟩ = some (.int .i64 x)) (hop : op = 6 ∨ op = 9) :
    Calls Tryd.prog 75 #[.pointer (some ⟨bp, 0, none⟩), .int .i64 i] w fun e w' => e = .returned (.int .i64 x) ∧ ∃ q, w' = w.drewN q := by
  have hw1 := wrapT hn hi
  have hp0 : (0 : Int) ≤ (i : Int) := by omega
  have hp1 : (0 : Int) ≤ (i : Int) + 1 := by omega
  have htn : ((i : Int) + 1).toNat = i + 1 := by omega
  have hpj : (0 : Int) ≤ (j : Int) := by omega
  rcases hop with rfl | rfl
  all_goals
    go_enter Tryd.func75, Tryd.ntmps75
    go_wp2_with fail
    go_quiet (fail)
    go_wp2
    go_ret
    exact ⟨rfl, _, rfl⟩

/-- What tell does to the memory. -/
def PutT (g a b : Nat) (e f : Value) (w w' : World) : Prop :=
  w'.os = w.os ∧ w'.tape = w.tape ∧ w'.output = w.output ∧ w'.heap = ((w.setCell ⟨g, a, none⟩ e).setCell ⟨g, b, none⟩ f).heap
set_option maxRecDepth 100000 in
set_option maxHeartbeats 4000000 in
theorem btell_any (bp g n i : Nat) (x y : Int) (w : World) (hi : (i : Int) < n)
    (c0 : w.cell? ⟨bp, 0, none⟩ = some (.slice (some ⟨g, 0, none⟩) n n)) (y1 y2 : Value) (e5 : w.cell? ⟨g, i * 7 + 4, none⟩ = some y1) (e6 : w.cell? ⟨g, i * 7 + 5, none⟩ = some y2) (z1 : w.frozen? ⟨g, i * 7 + 4, none⟩ = false) (z2 : w.frozen? ⟨g, i * 7 + 5, none⟩ = false) :
    Calls Tryd.prog 92 #[.pointer (some ⟨bp, 0, none⟩), .int .i64 i, .int .i64 x, .int .i64 y] w fun e w' => e = .returned (.tuple #[]) ∧ PutT g (i * 7 + 4) (i * 7 + 5) (.int .i64 x) (.int .i64 y) w w' := by
  have hp0 : (0 : Int) ≤ (i : Int) := by omega
  go_enter Tryd.func92, Tryd.ntmps92
  go_region_held3 (fun w' => w'.cell? ⟨bp, 0, none⟩ = some (.slice (some ⟨g, 0, none⟩) n n))
    (first | exact c0 | exact (cso (by omega)).trans c0 | exact (cso (by omega)).trans ((cso (by omega)).trans c0)) (fail)
  all_goals
    go_wp2
    go_end0
    exact ⟨rfl, rfl, rfl, rfl, rfl⟩
end Go.Proofs.YtfabfclbnekleaaDoor
namespace Go.Proofs.YtfabfclbnekleaaDoor
open Go Go.RowKit

theorem blw3 (w : World) (O1 O2 O3 : Obj) : Below w.heap.size w (((w.alloc O1).alloc O2).alloc O3) := (((Below.refl _ w).alloc (Nat.le_refl _) _).alloc (by simp) _).alloc (by simp; omega) _
set_option maxRecDepth 100000 in
set_option maxHeartbeats 4000000 in
theorem bwrite_any (bp wd p c k : Nat) (w : World) (hw : wd ≤ 100) (hc : c ≤ 100) (hk : k ≤ 20000)
    (c1 : w.cell? ⟨bp, 1, none⟩ = some (.int .i64 wd)) :
    Calls Tryd.prog 116 #[.pointer (some ⟨bp, 0, none⟩), .agg #[.int .i64 p, .int .i64 c], .int .i64 k] w fun e w' => e = .returned (.tuple #[.agg #[.int .i64 p, .int .i64 ((min (c + k) wd : Nat) : Int)], .agg #[.int .i64 ((c + k - wd : Nat) : Int), .int .i64 0]]) ∧ Below w.heap.size w w' := by
  have hw1 : IntKind.i64.wrap ((c : Int) + (k : Int)) = (c : Int) + (k : Int) := by rw [IntKind.wrap_i64]; omega
  have hw2 : IntKind.i64.wrap ((c : Int) + (k : Int) - (wd : Int)) = (c : Int) + (k : Int) - (wd : Int) := by rw [IntKind.wrap_i64]; omega
  have hlt := World.block_lt_of_cell? w ⟨bp, 1, none⟩ c1
  have hb3 := fun O1 O2 O3 => blw3 w O1 O2 O3
  have hk3 : ∀ O1 O2 O3, (((w.alloc O1).alloc O2).alloc O3).cell? ⟨bp, 1, none⟩ = some (.int .i64 wd) := fun O1 O2 O3 => ((hb3 O1 O2 O3).cell (p := ⟨bp, 1, none⟩) hlt).trans c1
  have hk0 : ∀ O2 O3, (((w.alloc (.cells #[.int .i64 p, .int .i64 c] 120)).alloc O2).alloc O3).cell? ⟨w.heap.size, 0, none⟩ = some (.int .i64 p) := fun O2 O3 => by simp [go_sem]
  have e1 : ((min (c + k) wd : Nat) : Int) = min ((c : Int) + k) wd := by omega
  have e2 : ((c + k - wd : Nat) : Int) = max ((c : Int) + k - wd) 0 := by omega
  rw [e1, e2]
  clear e1 e2
  go_enter Tryd.func116, Tryd.ntmps116
  go_wp2_with fail
  go_region_held3 (fun w' => w'.cell? ⟨bp, 1, none⟩ = some (.int .i64 wd) ∧ w'.cell? ⟨w.heap.size, 0, none⟩ = some (.int .i64 p)) (exact ⟨hk3 _ _ _, hk0 _ _⟩) (fail)
  all_goals
    go_wp2
    exact bodyPost_ret (v := .tuple #[.agg #[.int .i64 p, .int .i64 (min ((c : Int) + k) wd)], .agg #[.int .i64 (max ((c : Int) + k - wd) 0), .int .i64 0]]) (by simp [results, Tryd.results116, go_sem]) rfl ⟨rfl, (hb3 _ _ _).drew⟩
theorem bwrite0_any (bp wd p k : Nat) (w : World) (hw : wd ≤ 100) (hk : k ≤ 20000) (c1 : w.cell? ⟨bp, 1, none⟩ = some (.int .i64 wd)) :
    Calls Tryd.prog 116 #[.pointer (some ⟨bp, 0, none⟩), .agg #[.int .i64 p, .int .i64 0], .int .i64 k] w fun e w' => e = .returned (.tuple #[.agg #[.int .i64 p, .int .i64 ((min k wd : Nat) : Int)], .agg #[.int .i64 ((k - wd : Nat) : Int), .int .i64 0]]) ∧ Below w.heap.size w w' := by
  have h := bwrite_any bp wd p 0 k w hw (by omega) hk c1
  rw [Nat.zero_add] at h
  exact h

set_option maxRecDepth 100000 in
set_option maxHeartbeats 2000000 in
theorem bisch_any (op : Int) (tx : ByteArray) (a b c d e : Int) (w : World) :
    Calls Tryd.prog 79 #[.agg #[.int .i64 op, .string tx, .int .i64 a, .int .i64 b, .int .i64 c, .int .i64 d, .int .i64 e]] w fun e w' => e = .returned (.bool (isCh op)) ∧ Below w.heap.size w w' := by
  cases h8 : (op == 8) with
  | true =>
    have e0 : isCh op = true := by simp [isCh, beq_iff_eq.1 h8]
    rw [e0]
    go_enter Tryd.func79, Tryd.ntmps79
    go_wp2
    go_ret
    exact ⟨rfl, (Below.refl _ _).alloc (Nat.le_refl _) _⟩
  | false =>
    cases h9 : (op == 9) with
    | true =>
      have e0 : isCh op = true := by simp [isCh, beq_iff_eq.1 h9]
      rw [e0]
      go_enter Tryd.func79, Tryd.ntmps79
      go_wp2
      go_ret
      exact ⟨rfl, (Below.refl _ _).alloc (Nat.le_refl _) _⟩
    | false =>
      have e0 : isCh op = false := by simp [isCh, beq_eq_false_iff_ne.1 h8, beq_eq_false_iff_ne.1 h9]
      rw [e0]
      go_enter Tryd.func79, Tryd.ntmps79
      go_wp2
      go_ret
      exact ⟨rfl, (Below.refl _ _).alloc (Nat.le_refl _) _⟩

theorem okC_of {a b : Nat} (ha : a ≤ 1000000) (hb : b ≤ 1000000) : okC ((a : Int), (b : Int)) = true := by
  simp [okC, fitB]
  omega
set_option maxRecDepth 100000 in
set_option maxHeartbeats 2000000 in
theorem bless_any (a b c d : Nat) (ha : a ≤ 1000000) (hb : b ≤ 1000000) (hc : c ≤ 1000000) (hd : d ≤ 1000000) (w : World) :
    Calls Tryd.prog 94 #[.agg #[.int .i64 a, .int .i64 b], .agg #[.int .i64 c, .int .i64 d]] w fun e w' => e = .returned (.bool (decide (lessC (a, b) (c, d)))) ∧ Below w.heap.size w w' := by
  have e0 : decide (lessC (a, b) (c, d)) = lessB ((a : Int), (b : Int)) ((c : Int), (d : Int)) := by
    rw [Bool.eq_iff_iff, decide_eq_true_eq]
    unfold lessB lessC
    dsimp only
    split
    · rw [decide_eq_true_eq]; omega
    · rw [decide_eq_true_eq]; omega
  rw [e0]
  have HL : Hid (∀ w, Calls Tryd.prog 12 #[.agg #[.int .i64 a, .int .i64 b], .agg #[.int .i64 c, .int .i64 d]] w fun e w' => e = .returned (.tuple #[.bool (lessB ((a : Int), (b : Int)) ((c : Int), (d : Int))), .nilIface]) ∧ Below w.heap.size w w') := fun w =>
    less_ok ((a : Int), (b : Int)) ((c : Int), (d : Int)) w (okC_of ha hb) (okC_of hc hd)
  clear e0
  generalize lessB ((a : Int), (b : Int)) ((c : Int), (d : Int)) = v at *
  go_enter Tryd.func94, Tryd.ntmps94
  go_wp2_with fail
  refine (HL.out _).mono ?_
  rintro e w2 ⟨rfl, hb2⟩
  go_wp2
  go_ret
  exact ⟨rfl, (((Below.refl _ w).alloc (Nat.le_refl _) _).alloc (by simp) _).trans (hb2.mono (by simp; omega))⟩

set_option maxRecDepth 100000 in
set_option maxHeartbeats 2000000 in
theorem bsum_any (a b c d : Nat) (ha : a ≤ 400000) (hb : b ≤ 400000) (hc : c ≤ 400000) (hd : d ≤ 400000) (w : World) :
    Calls Tryd.prog 106 #[.agg #[.int .i64 a, .int .i64 b], .agg #[.int .i64 c, .int .i64 d]] w fun e w' => e = .returned (.agg #[.int .i64 ((a + c : Nat) : Int), .int .i64 ((b + d : Nat) : Int)]) ∧ Below w.heap.size w w' := by
  have e1 : ((a + c : Nat) : Int) = (a : Int) + c := by omega
  have e2 : ((b + d : Nat) : Int) = (b : Int) + d := by omega
  have hs : okC (sumC ((a : Int), (b : Int)) ((c : Int), (d : Int))) = true := by
    have := okC_of (a := a + c) (b := b + d) (by omega) (by omega)
    rw [e1, e2] at this
    exact this
  rw [e1, e2]
  have HL : Hid (∀ w, Calls Tryd.prog 14 #[.agg #[.int .i64 a, .int .i64 b], .agg #[.int .i64 c, .int .i64 d]] w fun e w' => e = .returned (.tuple #[.agg #[.int .i64 ((a : Int) + c), .int .i64 ((b : Int) + d)], .nilIface]) ∧ Below w.heap.size w w') := fun w =>
    add_ok ((a : Int), (b : Int)) ((c : Int), (d : Int)) w (okC_of (by omega) (by omega)) (okC_of (by omega) (by omega)) hs
  clear e1 e2 hs
  generalize (a : Int) + c = v1 at *
  generalize (b : Int) + d = v2 at *
  go_enter Tryd.func106, Tryd.ntmps106
  go_wp2_with fail
  refine (HL.out _).mono ?_
  rintro e w2 ⟨rfl, hb2⟩
  obtain ⟨hcl, hfr⟩ := bcell hb2
  have hs2 : w.heap.size + 1 + 1 + 1 ≤ w2.heap.size := by have := hb2.size; simpa using this
  have k0 : ∀ O, (w2.alloc O).cell? ⟨w.heap.size + 1 + 1, 0, none⟩ = some (.int .i64 0) := fun O => (((Below.refl _ w2).alloc (Nat.le_refl _) O).cell (p := ⟨w.heap.size + 1 + 1, 0, none⟩) (by simp; omega)).trans ((hcl _ _ (by simp)).trans (by simp [go_sem]))
  have k1 : ∀ O, (w2.alloc O).cell? ⟨w.heap.size + 1 + 1, 1, none⟩ = some (.int .i64 0) := fun O => (((Below.refl _ w2).alloc (Nat.le_refl _) O).cell (p := ⟨w.heap.size + 1 + 1, 1, none⟩) (by simp; omega)).trans ((hcl _ _ (by simp)).trans (by simp [go_sem]))
  have f0 : ∀ O, (w2.alloc O).frozen? ⟨w.heap.size + 1 + 1, 0, none⟩ = false := fun O => (((Below.refl _ w2).alloc (Nat.le_refl _) O).frozen (p := ⟨w.heap.size + 1 + 1, 0, none⟩) (by simp; omega)).trans ((hfr _ _ (by simp)).trans (by simp [go_sem]))
  have f1 : ∀ O, (w2.alloc O).frozen? ⟨w.heap.size + 1 + 1, 1, none⟩ = false := fun O => (((Below.refl _ w2).alloc (Nat.le_refl _) O).frozen (p := ⟨w.heap.size + 1 + 1, 1, none⟩) (by simp; omega)).trans ((hfr _ _ (by simp)).trans (by simp [go_sem]))
  have hB : Below w.heap.size w w2 := (blw3 w _ _ _).trans (hb2.mono (by simp; omega))
  clear hcl hfr hb2
  go_wp2
  exact bodyPost_ret (v := .agg #[.int .i64 v1, .int .i64 v2]) (by simp [results, Tryd.results106, go_sem, k0, k1]) rfl ⟨rfl, ((hB.alloc (by omega) _).setCell (p := ⟨w.heap.size + 1 + 1, 0, none⟩) (by simp; omega) _).setCell (p := ⟨w.heap.size + 1 + 1, 1, none⟩) (by simp; omega) _⟩
end Go.Proofs.YtfabfclbnekleaaDoor
namespace Go.Proofs.YtfabfclbnekleaaDoor
open Go Go.RowKit

theorem blw4 (w : World) (O1 O2 O3 O4 : Obj) : Below w.heap.size w ((((w.alloc O1).alloc O2).alloc O3).alloc O4) := (blw3 w O1 O2 O3).alloc (by simp; omega) _
theorem k3 {w : World} {b o : Nat} {v : Value} (h : w.cell? ⟨b, o, none⟩ = some v) (O1 O2 O3 : Obj) : (((w.alloc O1).alloc O2).alloc O3).cell? ⟨b, o, none⟩ = some v := ka (ka (ka h _) _) _
theorem k4 {w : World} {b o : Nat} {v : Value} (h : w.cell? ⟨b, o, none⟩ = some v) (O1 O2 O3 O4 : Obj) : ((((w.alloc O1).alloc O2).alloc O3).alloc O4).cell? ⟨b, o, none⟩ = some v := ka (k3 h _ _ _) _
theorem k4d {w : World} {b o : Nat} {v : Value} (h : w.cell? ⟨b, o, none⟩ = some v) (O1 O2 O3 O4 : Obj) : ((((w.alloc O1).alloc O2).alloc O3).alloc O4).drew.cell? ⟨b, o, none⟩ = some v := k4 h _ _ _ _

set_option maxRecDepth 100000 in
set_option maxHeartbeats 4000000 in
theorem bmove_word (bp g n wd i c : Nat) (tx : ByteArray) (nn en : Int) (nx dp : Nat) (lg : Int) (ch : Nat) (w : World) (hi : (i : Int) < n) (hw : wd ≤ 100) (hc : c ≤ 100) (hk : tx.size ≤ 20000)
    (c0 : w.cell? ⟨bp, 0, none⟩ = some (.slice (some ⟨g, 0, none⟩) n n)) (c1 : w.cell? ⟨bp, 1, none⟩ = some (.int .i64 wd))
    (d0 : w.cell? ⟨g, i * 7, none⟩ = some (.int .i64 1)) (d1 : w.cell? ⟨g, i * 7 + 1, none⟩ = some (.string tx)) (d2 : w.cell? ⟨g, i * 7 + 2, none⟩ = some (.int .i64 nn)) (d3 : w.cell? ⟨g, i * 7 + 3, none⟩ = some (.int .i64 en)) (d4 : w.cell? ⟨g, i * 7 + 4, none⟩ = some (.int .i64 nx)) (d5 : w.cell? ⟨g, i * 7 + 5, none⟩ = some (.int .i64 dp)) (d6 : w.cell? ⟨g, i * 7 + 6, none⟩ = some (.int .i64 lg)) :
    Calls Tryd.prog 105 #[.pointer (some ⟨bp, 0, none⟩), .agg #[.int .i64 i, .int .i64 c], .int .i64 ch] w fun e w' => e = .returned (.tuple #[.agg #[.int .i64 nx, .int .i64 ((min (c + tx.size) wd : Nat) : Int)], .agg #[.int .i64 ((c + tx.size - wd : Nat) : Int), .int .i64 0]]) ∧ Below w.heap.size w w' := by
  have hp0 : (0 : Int) ≤ (i : Int) := by omega
  have hlt := World.block_lt_of_cell? w ⟨bp, 0, none⟩ c0
  have hltg := World.block_lt_of_cell? w ⟨g, i * 7, none⟩ d0
  have hx0 : ∀ O2 O3, (((w.alloc (.cells #[.int .i64 i, .int .i64 c] 120)).alloc O2).alloc O3).cell? ⟨w.heap.size, 0, none⟩ = some (.int .i64 i) := fun O2 O3 => by simp [go_sem]
  have hx4 : ∀ O2 O3 O4, ((((w.alloc (.cells #[.int .i64 i, .int .i64 c] 120)).alloc O2).alloc O3).alloc O4).cell? ⟨w.heap.size, 0, none⟩ = some (.int .i64 i) := fun O2 O3 O4 => ka (hx0 O2 O3) O4
  go_enter Tryd.func105, Tryd.ntmps105
  go_wp2_with fail
  go_region_held3 (fun w' => w'.cell? ⟨bp, 0, none⟩ = some (.slice (some ⟨g, 0, none⟩) n n) ∧ w'.cell? ⟨w.heap.size, 0, none⟩ = some (.int .i64 i) ∧ w'.cell? ⟨g, i * 7, none⟩ = some (.int .i64 1) ∧ w'.cell? ⟨g, i * 7 + 1, none⟩ = some (.string tx) ∧ w'.cell? ⟨g, i * 7 + 2, none⟩ = some (.int .i64 nn) ∧ w'.cell? ⟨g, i * 7 + 3, none⟩ = some (.int .i64 en) ∧ w'.cell? ⟨g, i * 7 + 4, none⟩ = some (.int .i64 nx) ∧ w'.cell? ⟨g, i * 7 + 5, none⟩ = some (.int .i64 dp) ∧ w'.cell? ⟨g, i * 7 + 6, none⟩ = some (.int .i64 lg))
    (first | exact ⟨k3 c0 _ _ _, hx0 _ _, k3 d0 _ _ _, k3 d1 _ _ _, k3 d2 _ _ _, k3 d3 _ _ _, k3 d4 _ _ _, k3 d5 _ _ _, k3 d6 _ _ _⟩ | exact ⟨k4 c0 _ _ _ _, hx4 _ _ _, k4 d0 _ _ _ _, k4 d1 _ _ _ _, k4 d2 _ _ _ _, k4 d3 _ _ _ _, k4 d4 _ _ _ _, k4 d5 _ _ _ _, k4 d6 _ _ _ _⟩) (fail)
  all_goals
    go_wp2_with fail
    refine (bwrite_any bp wd nx c tx.size _ hw hc hk (k4d c1 _ _ _ _)).mono ?_
    rintro e w2 ⟨rfl, hb2⟩
    obtain ⟨hcl, hfr⟩ := bcell hb2
    have hs2 : w.heap.size + 1 + 1 + 1 + 1 ≤ w2.heap.size := by have := hb2.size; simpa using this
    have a0 : w2.cell? ⟨w.heap.size + 1, 0, none⟩ = some (.int .i64 0) := (hcl _ _ (by simp)).trans (by simp [go_sem])
    have a1 : w2.cell? ⟨w.heap.size + 1, 1, none⟩ = some (.int .i64 0) := (hcl _ _ (by simp)).trans (by simp [go_sem])
    have b0 : w2.cell? ⟨w.heap.size + 1 + 1, 0, none⟩ = some (.int .i64 0) := (hcl _ _ (by simp)).trans (by simp [go_sem])
    have b1 : w2.cell? ⟨w.heap.size + 1 + 1, 1, none⟩ = some (.int .i64 0) := (hcl _ _ (by simp)).trans (by simp [go_sem])
    have f0 : w2.frozen? ⟨w.heap.size + 1, 0, none⟩ = false := (hfr _ _ (by simp)).trans (by simp [go_sem])
    have f1 : w2.frozen? ⟨w.heap.size + 1, 1, none⟩ = false := (hfr _ _ (by simp)).trans (by simp [go_sem])
    have f2 : w2.frozen? ⟨w.heap.size + 1 + 1, 0, none⟩ = false := (hfr _ _ (by simp)).trans (by simp [go_sem])
    have f3 : w2.frozen? ⟨w.heap.size + 1 + 1, 1, none⟩ = false := (hfr _ _ (by simp)).trans (by simp [go_sem])
    have hB : Below w.heap.size w w2 := (blw4 w _ _ _ _).drew.trans (hb2.mono (by simp; omega))
    clear hcl hfr hb2
    go_wp2
    exact bodyPost_ret (v := .tuple #[.agg #[.int .i64 nx, .int .i64 ((min (c + tx.size) wd : Nat) : Int)], .agg #[.int .i64 ((c + tx.size - wd : Nat) : Int), .int .i64 0]]) (by simp [results, Tryd.results105, go_sem, a0, a1, b0, b1]) rfl ⟨rfl, (((hB.setCell (p := ⟨w.heap.size + 1, 0, none⟩) (by simp) _).setCell (p := ⟨w.heap.size + 1, 1, none⟩) (by simp) _).setCell (p := ⟨w.heap.size + 1 + 1, 0, none⟩) (by simp; omega) _).setCell (p := ⟨w.heap.size + 1 + 1, 1, none⟩) (by simp; omega) _⟩

set_option maxRecDepth 100000 in
set_option maxHeartbeats 4000000 in
theorem bmove_flat (bp g n wd i c : Nat) (tx : ByteArray) (nn en : Int) (nx dp : Nat) (lg : Nat) (w : World) (hi : (i : Int) < n) (hw : wd ≤ 100) (hc : c ≤ 100) (hk : lg ≤ 20000)
    (c0 : w.cell? ⟨bp, 0, none⟩ = some (.slice (some ⟨g, 0, none⟩) n n)) (c1 : w.cell? ⟨bp, 1, none⟩ = some (.int .i64 wd))
    (d0 : w.cell? ⟨g, i * 7, none⟩ = some (.int .i64 8)) (d1 : w.cell? ⟨g, i * 7 + 1, none⟩ = some (.string tx)) (d2 : w.cell? ⟨g, i * 7 + 2, none⟩ = some (.int .i64 nn)) (d3 : w.cell? ⟨g, i * 7 + 3, none⟩ = some (.int .i64 en)) (d4 : w.cell? ⟨g, i * 7 + 4, none⟩ = some (.int .i64 nx)) (d5 : w.cell? ⟨g, i * 7 + 5, none⟩ = some (.int .i64 dp)) (d6 : w.cell? ⟨g, i * 7 + 6, none⟩ = some (.int .i64 lg)) :
    Calls Tryd.prog 105 #[.pointer (some ⟨bp, 0, none⟩), .agg #[.int .i64 i, .int .i64 c], .int .i64 0] w fun e w' => e = .returned (.tuple #[.agg #[.int .i64 nx, .int .i64 ((min (c + lg) wd : Nat) : Int)], .agg #[.int .i64 ((c + lg - wd : Nat) : Int), .int .i64 0]]) ∧ Below w.heap.size w w' := by
  have hp0 : (0 : Int) ≤ (i : Int) := by omega
  have hlt := World.block_lt_of_cell? w ⟨bp, 0, none⟩ c0
  have hltg := World.block_lt_of_cell? w ⟨g, i * 7, none⟩ d0
  have hx0 : ∀ O2 O3, (((w.alloc (.cells #[.int .i64 i, .int .i64 c] 120)).alloc O2).alloc O3).cell? ⟨w.heap.size, 0, none⟩ = some (.int .i64 i) := fun O2 O3 => by simp [go_sem]
  have hx4 : ∀ O2 O3 O4, ((((w.alloc (.cells #[.int .i64 i, .int .i64 c] 120)).alloc O2).alloc O3).alloc O4).cell? ⟨w.heap.size, 0, none⟩ = some (.int .i64 i) := fun O2 O3 O4 => ka (hx0 O2 O3) O4
  go_enter Tryd.func105, Tryd.ntmps105
  go_wp2_with fail
  go_region_held3 (fun w' => w'.cell? ⟨bp, 0, none⟩ = some (.slice (some ⟨g, 0, none⟩) n n) ∧ w'.cell? ⟨w.heap.size, 0, none⟩ = some (.int .i64 i) ∧ w'.cell? ⟨g, i * 7, none⟩ = some (.int .i64 8) ∧ w'.cell? ⟨g, i * 7 + 1, none⟩ = some (.string tx) ∧ w'.cell? ⟨g, i * 7 + 2, none⟩ = some (.int .i64 nn) ∧ w'.cell? ⟨g, i * 7 + 3, none⟩ = some (.int .i64 en) ∧ w'.cell? ⟨g, i * 7 + 4, none⟩ = some (.int .i64 nx) ∧ w'.cell? ⟨g, i * 7 + 5, none⟩ = some (.int .i64 dp) ∧ w'.cell? ⟨g, i * 7 + 6, none⟩ = some (.int .i64 lg))
    (first | exact ⟨k3 c0 _ _ _, hx0 _ _, k3 d0 _ _ _, k3 d1 _ _ _, k3 d2 _ _ _, k3 d3 _ _ _, k3 d4 _ _ _, k3 d5 _ _ _, k3 d6 _ _ _⟩ | exact ⟨k4 c0 _ _ _ _, hx4 _ _ _, k4 d0 _ _ _ _, k4 d1 _ _ _ _, k4 d2 _ _ _ _, k4 d3 _ _ _ _, k4 d4 _ _ _ _, k4 d5 _ _ _ _, k4 d6 _ _ _ _⟩) (fail)
  all_goals
    go_wp2_with fail
    refine (bwrite_any bp wd nx c lg _ hw hc hk (k4d c1 _ _ _ _)).mono ?_
    rintro e w2 ⟨rfl, hb2⟩
    obtain ⟨hcl, hfr⟩ := bcell hb2
    have hs2 : w.heap.size + 1 + 1 + 1 + 1 ≤ w2.heap.size := by have := hb2.size; simpa using this
    have a0 : w2.cell? ⟨w.heap.size + 1, 0, none⟩ = some (.int .i64 0) := (hcl _ _ (by simp)).trans (by simp [go_sem])
    have a1 : w2.cell? ⟨w.heap.size + 1, 1, none⟩ = some (.int .i64 0) := (hcl _ _ (by simp)).trans (by simp [go_sem])
    have b0 : w2.cell? ⟨w.heap.size + 1 + 1, 0, none⟩ = some (.int .i64 0) := (hcl _ _ (by simp)).trans (by simp [go_sem])
    have b1 : w2.cell? ⟨w.heap.size + 1 + 1, 1, none⟩ = some (.int .i64 0) := (hcl _ _ (by simp)).trans (by simp [go_sem])
    have f0 : w2.frozen? ⟨w.heap.size + 1, 0, none⟩ = false := (hfr _ _ (by simp)).trans (by simp [go_sem])
    have f1 : w2.frozen? ⟨w.heap.size + 1, 1, none⟩ = false := (hfr _ _ (by simp)).trans (by simp [go_sem])
    have f2 : w2.frozen? ⟨w.heap.size + 1 + 1, 0, none⟩ = false := (hfr _ _ (by simp)).trans (by simp [go_sem])
    have f3 : w2.frozen? ⟨w.heap.size + 1 + 1, 1, none⟩ = false := (hfr _ _ (by simp)).trans (by simp [go_sem])
    have hB : Below w.heap.size w w2 := (blw4 w _ _ _ _).drew.trans (hb2.mono (by simp; omega))
    clear hcl hfr hb2
    go_wp2
    exact bodyPost_ret (v := .tuple #[.agg #[.int .i64 nx, .int .i64 ((min (c + lg) wd : Nat) : Int)], .agg #[.int .i64 ((c + lg - wd : Nat) : Int), .int .i64 0]]) (by simp [results, Tryd.results105, go_sem, a0, a1, b0, b1]) rfl ⟨rfl, (((hB.setCell (p := ⟨w.heap.size + 1, 0, none⟩) (by simp) _).setCell (p := ⟨w.heap.size + 1, 1, none⟩) (by simp) _).setCell (p := ⟨w.heap.size + 1 + 1, 0, none⟩) (by simp; omega) _).setCell (p := ⟨w.heap.size + 1 + 1, 1, none⟩) (by simp; omega) _⟩
end Go.Proofs.YtfabfclbnekleaaDoor
