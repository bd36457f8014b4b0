/- Some texts as one: Pn1, Pn2, Pn3. -/
import Derived.Test.YtfabfclbnekleaaDoorPma
import Derived.Test.YtfabfclbnekleaaDoorFlatFG
namespace Go.Proofs.YtfabfclbnekleaaDoor
open Go Go.RowKit

set_option maxRecDepth 100000 in
set_option maxHeartbeats 2000000 in
theorem blong_any (ds : List Nd) (t : Tr) (hd : ds = t.nodes) (ht : t.Wf) (hl : ds.length ≤ 400) (a : Option Addr) (cap : Nat) (hc : ds.length ≤ cap) (w : World) (hN : Nods w a ds) :
    Calls Tryd.prog 77 #[.slice a ds.length cap] w fun e w' => e = .returned (.int .i64 (lgF t.flat)) ∧ Below w.heap.size w w' := by
  obtain ⟨e0, e1, e2⟩ := fl_tree ht hd hl
  have hcall := flong_any ds a cap hc w hN
  rw [e0, e1, e2, errN_0] at hcall
  cases hf : t.flat with
  | none =>
    have e3 : t.isFlat = false := by simp [Tr.isFlat, hf]
    rw [e3] at hcall
    have HC : Hid (Calls Tryd.prog 28 #[.slice a ds.length cap] w fun e w' => e = .returned (.tuple #[.int .i64 t.line.size, .bool false, .nilIface]) ∧ Below w.heap.size w w') := hcall
    clear hcall hN e0 e1 e2 e3 hd hf
    rw [lgF]
    go_enter Tryd.func77, Tryd.ntmps77
    go_wp2_with fail
    refine HC.out.mono ?_
    rintro e w2 ⟨rfl, hb⟩
    go_wp2
    go_ret
    exact ⟨rfl, hb⟩
  | some s =>
    have e3 : t.isFlat = true := by simp [Tr.isFlat, hf]
    have e4 : t.line.size = s.length := by rw [line_size, hf]; rfl
    rw [e3, e4] at hcall
    have HC : Hid (Calls Tryd.prog 28 #[.slice a ds.length cap] w fun e w' => e = .returned (.tuple #[.int .i64 s.length, .bool true, .nilIface]) ∧ Below w.heap.size w w') := hcall
    clear hcall hN e0 e1 e2 e3 e4 hd hf
    rw [lgF]
    go_enter Tryd.func77, Tryd.ntmps77
    go_wp2_with fail
    refine HC.out.mono ?_
    rintro e w2 ⟨rfl, hb⟩
    go_wp2
    go_ret
    exact ⟨rfl, hb⟩

theorem PutT.pr {g n j : Nat} {F : Nat → Q} {x y : Int} {w w' : World} (h : PutT g (j * 7 + 4) (j * 7 + 5) (.int .i64 x) (.int .i64 y) w w') (hp : PR w g n F) (hj : j < n) : PR w' g n (upd F j { F j with nx := x, dp := y }) := by
  have h1 := (hp.putNx hj x).putDp hj y
  rw [upd_upd, upd_same] at h1
  exact h1.kept (by rw [h.2.2.2])
theorem PutT.belX {g a b : Nat} {e f : Value} {w w' : World} (h : PutT g a b e f w w') (B : Nat) : BelX B g w w' :=
  ⟨h.1, h.2.1, h.2.2.1, by rw [h.2.2.2]; simp [World.setCell], fun k _ hk => by rw [h.2.2.2, Below.heap_setCell _ _ _ _ hk, Below.heap_setCell _ _ _ _ hk]⟩
theorem btell_pr (bp g n i : Nat) (x y : Int) (F : Nat → Q) (w : World) (hi : i < n) (c0 : w.cell? ⟨bp, 0, none⟩ = some (.slice (some ⟨g, 0, none⟩) n n)) (hp : PR w g n F) :
    Calls Tryd.prog 92 #[.pointer (some ⟨bp, 0, none⟩), .int .i64 i, .int .i64 x, .int .i64 y] w fun e w' => e = .returned (.tuple #[]) ∧ PR w' g n (upd F i { F i with nx := x, dp := y }) ∧ BelX w.heap.size g w w' := by
  have k := hp.get i hi
  refine (btell_any bp g n i x y w (by omega) c0 _ _ k.c4 k.c5 hp.row.frozen hp.row.frozen).mono ?_
  rintro e w2 ⟨rfl, h⟩
  exact ⟨rfl, h.pr hp hi, h.belX _⟩
end Go.Proofs.YtfabfclbnekleaaDoor
namespace Go.Proofs.YtfabfclbnekleaaDoor
open Go Go.RowKit

set_option maxRecDepth 100000 in
set_option maxHeartbeats 2000000 in
theorem btp_leaf (bp g n i : Nat) (F : Nat → Q) (w : World) (hi : i < n) (c0 : w.cell? ⟨bp, 0, none⟩ = some (.slice (some ⟨g, 0, none⟩) n n)) (hp : PR w g n F)
    (h6 : ((F i).op == 6) = false) (h9 : ((F i).op == 9) = false) (h7 : ((F i).op == 7) = false) (h8 : ((F i).op == 8) = false) :
    Calls Tryd.prog 76 #[.pointer (some ⟨bp, 0, none⟩), .int .i64 i] w fun e w' => e = .returned (.tuple #[]) ∧ PR w' g n F ∧ BelX w.heap.size g w w' := by
  obtain ⟨d0, d1, d2, d3, d4, d5, d6⟩ := hp.get i hi
  have hiI : (i : Int) < n := by omega
  have hp0 : (0 : Int) ≤ (i : Int) := by omega
  have HP : Hid (PR w g n F) := hp
  clear hp hi
  generalize F i = q at *
  go_enter Tryd.func76, Tryd.ntmps76
  go_wp2
  go_end0
  have hb : Below w.heap.size w (w.alloc (.cells #[.int .i64 q.op, .string q.tx, .int .i64 q.n, .int .i64 q.en, .int .i64 q.nx, .int .i64 q.dp, .int .i64 q.lg] 146)) := (Below.refl _ _).alloc (Nat.le_refl _) _
  exact ⟨rfl, HP.out.kept (hb.block g HP.out.row.lt), BelX.of hb⟩

/-- The box of a place. -/
abbrev plBox (q : Q) : Obj := .cells #[.int .i64 q.op, .string q.tx, .int .i64 q.n, .int .i64 q.en, .int .i64 q.nx, .int .i64 q.dp, .int .i64 q.lg] 146
set_option maxRecDepth 100000 in
set_option maxHeartbeats 2000000 in
theorem btp_one (bp g n i : Nat) (F : Nat → Q) (w : World) (hn : n ≤ 400) (hi1 : i + 1 < n) (c0 : w.cell? ⟨bp, 0, none⟩ = some (.slice (some ⟨g, 0, none⟩) n n)) (hp : PR w g n F)
    (hop : (F i).op = 7 ∨ (F i).op = 8) (x : Int) (hx : IntKind.i64.wrap ((F i).dp + (F i).n) = x) :
    Calls Tryd.prog 76 #[.pointer (some ⟨bp, 0, none⟩), .int .i64 i] w fun e w' => e = .returned (.tuple #[]) ∧ PR w' g n (upd F (i + 1) { F (i + 1) with nx := (F i).nx, dp := x }) ∧ BelX w.heap.size g w w' := by
  obtain ⟨d0, d1, d2, d3, d4, d5, d6⟩ := hp.get i (by omega)
  have hiI : (i : Int) < n := by omega
  have hp0 : (0 : Int) ≤ (i : Int) := by omega
  have hw1 := wrapT hn hiI
  have HP : Hid (PR w g n F) := hp
  have HC : Hid (w.cell? ⟨bp, 0, none⟩ = some (.slice (some ⟨g, 0, none⟩) n n)) := c0
  have HF : Hid (∃ q, F i = q) := ⟨_, rfl⟩
  clear hp
  generalize F i = q at *
  have hlt : g < w.heap.size := HP.out.row.lt
  rcases hop with e | e
  all_goals
    rw [e] at d0
    go_enter Tryd.func76, Tryd.ntmps76
    go_wp2_with fail
    refine (btell_pr bp g n (i + 1) q.nx x F _ hi1 (ka HC.out _) (HP.out.kept (Below.heap_alloc _ _ _ hlt))).mono ?_
    rintro e w2 ⟨rfl, h2, hb2⟩
    go_wp2
    go_end0
    exact ⟨rfl, h2, (BelX.of ((Below.refl _ w).alloc (Nat.le_refl _) _)).trans (hb2.mono (by simp))⟩

set_option maxRecDepth 100000 in
set_option maxHeartbeats 2000000 in
theorem btp_six (bp g n i j : Nat) (F : Nat → Q) (w : World) (hn : n ≤ 400) (hi1 : i + 1 < n) (hj : j < n) (hbg : bp ≠ g) (c0 : w.cell? ⟨bp, 0, none⟩ = some (.slice (some ⟨g, 0, none⟩) n n)) (hp : PR w g n F)
    (hop : (F i).op = 6) (hen : (F (i + 1)).en = (j : Int)) :
    Calls Tryd.prog 76 #[.pointer (some ⟨bp, 0, none⟩), .int .i64 i] w fun e w' => e = .returned (.tuple #[]) ∧ PR w' g n (upd (upd F (i + 1) { F (i + 1) with nx := j, dp := (F i).dp }) j { upd F (i + 1) { F (i + 1) with nx := j, dp := (F i).dp } j with nx := (F i).nx, dp := (F i).dp }) ∧ BelX w.heap.size g w w' := by
  obtain ⟨d0, d1, d2, d3, d4, d5, d6⟩ := hp.get i (by omega)
  have k3 := (hp.get (i + 1) hi1).c3
  rw [hen] at k3
  have hiI : (i : Int) < n := by omega
  have hi1I : (i : Int) + 1 < n := by omega
  have hp0 : (0 : Int) ≤ (i : Int) := by omega
  have hp1 : (0 : Int) ≤ (i : Int) + 1 := by omega
  have htn : ((i : Int) + 1).toNat = i + 1 := by omega
  have hw1 := wrapT hn hiI
  have HP : Hid (PR w g n F) := hp
  have hlt : g < w.heap.size := HP.out.row.lt
  have hltb : bp < w.heap.size := World.block_lt_of_cell? w ⟨bp, 0, none⟩ c0
  have HC : Hid (w.cell? ⟨bp, 0, none⟩ = some (.slice (some ⟨g, 0, none⟩) n n)) := c0
  have k3' : ∀ O, (w.alloc O).cell? ⟨g, (i + 1) * 7 + 3, none⟩ = some (.int .i64 (j : Int)) := fun O => ka k3 O
  have c0' : ∀ O, (w.alloc O).cell? ⟨bp, 0, none⟩ = some (.slice (some ⟨g, 0, none⟩) n n) := fun O => ka c0 O
  rw [hop] at d0
  have HE : Hid ((F (i + 1)).en = (j : Int)) := hen
  clear hp hen k3 hop
  generalize F i = q at *
  go_enter Tryd.func76, Tryd.ntmps76
  go_wp2_with fail
  refine (btell_pr bp g n (i + 1) j q.dp F _ hi1 (c0' _) (HP.out.kept (Below.heap_alloc _ _ _ hlt))).mono ?_
  rintro e w2 ⟨rfl, h2, hb2⟩
  have b4 : w2.cell? ⟨w.heap.size, 4, none⟩ = some (.int .i64 q.nx) := (hb2.cell (p := ⟨w.heap.size, 4, none⟩) (by simp) (by simp; omega)).trans (by simp [go_sem])
  have b5 : w2.cell? ⟨w.heap.size, 5, none⟩ = some (.int .i64 q.dp) := (hb2.cell (p := ⟨w.heap.size, 5, none⟩) (by simp) (by simp; omega)).trans (by simp [go_sem])
  have c2 : w2.cell? ⟨bp, 0, none⟩ = some (.slice (some ⟨g, 0, none⟩) n n) := (hb2.cell (p := ⟨bp, 0, none⟩) (by simp; omega) hbg).trans (c0' _)
  have HP2 : Hid (PR w2 g n (upd F (i + 1) { F (i + 1) with nx := j, dp := q.dp })) := h2
  have HB2 : Hid (BelX w.heap.size g w w2) := (BelX.of ((Below.refl _ w).alloc (Nat.le_refl _) _)).trans (hb2.mono (by simp))
  clear h2 hb2
  go_wp2_with fail
  refine (btell_pr bp g n j q.nx q.dp _ _ hj c2 HP2.out).mono ?_
  rintro e w3 ⟨rfl, h3, hb3⟩
  go_wp2
  go_end0
  exact ⟨rfl, h3, HB2.out.trans (hb3.mono HB2.out.size)⟩

set_option maxRecDepth 100000 in
set_option maxHeartbeats 4000000 in
theorem btp_nine (bp g n i j : Nat) (F : Nat → Q) (w : World) (hn : n ≤ 400) (hi1 : i + 1 < n) (hj : j < n) (hbg : bp ≠ g) (c0 : w.cell? ⟨bp, 0, none⟩ = some (.slice (some ⟨g, 0, none⟩) n n)) (hp : PR w g n F)
    (hop : (F i).op = 9) (hen : (F (i + 1)).en = (j : Int)) :
    Calls Tryd.prog 76 #[.pointer (some ⟨bp, 0, none⟩), .int .i64 i] w fun e w' => e = .returned (.tuple #[]) ∧ PR w' g n (upd (upd F (i + 1) { F (i + 1) with nx := (F i).nx, dp := (F i).dp }) j { upd F (i + 1) { F (i + 1) with nx := (F i).nx, dp := (F i).dp } j with nx := (F i).nx, dp := (F i).dp }) ∧ BelX w.heap.size g w w' := by
  obtain ⟨d0, d1, d2, d3, d4, d5, d6⟩ := hp.get i (by omega)
  have hiI : (i : Int) < n := by omega
  have hi1I : (i : Int) + 1 < n := by omega
  have hp0 : (0 : Int) ≤ (i : Int) := by omega
  have hp1 : (0 : Int) ≤ (i : Int) + 1 := by omega
  have htn : ((i : Int) + 1).toNat = i + 1 := by omega
  have hw1 := wrapT hn hiI
  have HP : Hid (PR w g n F) := hp
  have hlt : g < w.heap.size := HP.out.row.lt
  have hltb : bp < w.heap.size := World.block_lt_of_cell? w ⟨bp, 0, none⟩ c0
  have c0' : ∀ O, (w.alloc O).cell? ⟨bp, 0, none⟩ = some (.slice (some ⟨g, 0, none⟩) n n) := fun O => ka c0 O
  rw [hop] at d0
  have HE : Hid ((F (i + 1)).en = (j : Int)) := hen
  clear hp hen hop
  generalize F i = q at *
  go_enter Tryd.func76, Tryd.ntmps76
  go_wp2_with fail
  refine (btell_pr bp g n (i + 1) q.nx q.dp F _ hi1 (c0' _) (HP.out.kept (Below.heap_alloc _ _ _ hlt))).mono ?_
  rintro e w2 ⟨rfl, h2, hb2⟩
  have b4 : w2.cell? ⟨w.heap.size, 4, none⟩ = some (.int .i64 q.nx) := (hb2.cell (p := ⟨w.heap.size, 4, none⟩) (by simp) (by simp; omega)).trans (by simp [go_sem])
  have b5 : w2.cell? ⟨w.heap.size, 5, none⟩ = some (.int .i64 q.dp) := (hb2.cell (p := ⟨w.heap.size, 5, none⟩) (by simp) (by simp; omega)).trans (by simp [go_sem])
  have c2 : w2.cell? ⟨bp, 0, none⟩ = some (.slice (some ⟨g, 0, none⟩) n n) := (hb2.cell (p := ⟨bp, 0, none⟩) (by simp; omega) hbg).trans (c0' _)
  have k3 : w2.cell? ⟨g, (i + 1) * 7 + 3, none⟩ = some (.int .i64 (j : Int)) := by
    have := (h2.get (i + 1) hi1).c3
    rw [upd_same] at this
    rw [← HE.out]
    exact this
  have HP2 : Hid (PR w2 g n (upd F (i + 1) { F (i + 1) with nx := q.nx, dp := q.dp })) := h2
  have HB2 : Hid (BelX w.heap.size g w w2) := (BelX.of ((Below.refl _ w).alloc (Nat.le_refl _) _)).trans (hb2.mono (by simp))
  have hs2 : w.heap.size < w2.heap.size := by have := hb2.size; simp at this; omega
  have hKb : ∀ w3, BelX w2.drew.heap.size g w2.drew w3 → w3.cell? ⟨bp, 0, none⟩ = some (.slice (some ⟨g, 0, none⟩) n n) := fun w3 h => (h.cell (p := ⟨bp, 0, none⟩) (by simp; omega) hbg).trans c2
  have hK4 : ∀ w3, BelX w2.drew.heap.size g w2.drew w3 → w3.cell? ⟨w.heap.size, 4, none⟩ = some (.int .i64 q.nx) := fun w3 h => (h.cell (p := ⟨w.heap.size, 4, none⟩) hs2 (by simp; omega)).trans b4
  have hK5 : ∀ w3, BelX w2.drew.heap.size g w2.drew w3 → w3.cell? ⟨w.heap.size, 5, none⟩ = some (.int .i64 q.dp) := fun w3 h => (h.cell (p := ⟨w.heap.size, 5, none⟩) hs2 (by simp; omega)).trans b5
  have hK3 : ∀ w3, PR w3 g n (upd (upd F (i + 1) { F (i + 1) with nx := q.nx, dp := q.dp }) j { upd F (i + 1) { F (i + 1) with nx := q.nx, dp := q.dp } j with nx := q.nx, dp := q.dp }) → w3.cell? ⟨g, (i + 1) * 7 + 3, none⟩ = some (.int .i64 (j : Int)) := fun w3 h => by
    have := (h.get (i + 1) hi1).c3
    rw [← HE.out]
    by_cases e : i + 1 = j
    · subst e
      rw [upd_same, upd_same] at this
      exact this
    · rw [upd_other e, upd_same] at this
      exact this
  clear h2 hb2
  go_wp2_with fail
  go_region_held3 (fun w' => w'.cell? ⟨bp, 0, none⟩ = some (.slice (some ⟨g, 0, none⟩) n n) ∧ w'.cell? ⟨g, (i + 1) * 7 + 3, none⟩ = some (.int .i64 (j : Int)) ∧ w'.cell? ⟨w.heap.size, 4, none⟩ = some (.int .i64 q.nx) ∧ w'.cell? ⟨w.heap.size, 5, none⟩ = some (.int .i64 q.dp))
    (first | exact ⟨c2, k3, b4, b5⟩ | exact ⟨hKb _ hb3, hK3 _ h3, hK4 _ hb3, hK5 _ hb3⟩) ((go_at_call 92; refine (btell_pr bp g n j q.nx q.dp _ w2.drew hj c2 (HP2.out.kept rfl)).mono ?_; rintro e w3 ⟨rfl, h3, hb3⟩))
  all_goals
    go_wp2
    go_end0
    exact ⟨rfl, h3, HB2.out.drew.trans (hb3.mono HB2.out.size)⟩
end Go.Proofs.YtfabfclbnekleaaDoor
namespace Go.Proofs.YtfabfclbnekleaaDoor
open Go Go.RowKit

/-- From a place on it is known where each doc ends. -/
def F1 (R : List Pl) (k : Nat) : Nat → Q := fun j => if k ≤ j then q1 (plAt R j) else q0
theorem F1_step {R : List Pl} {i : Nat} : upd (F1 R (i + 1)) i (q1 (plAt R i)) = F1 R i := by
  funext j
  simp only [upd, F1]
  by_cases e : j = i
  · subst e; simp
  · by_cases h : i + 1 ≤ j
    · rw [if_neg e, if_pos h, if_pos (by omega)]
    · rw [if_neg e, if_neg h, if_neg (by omega)]
/-- Up to a place all is told. -/
structure Tl (R : List Pl) (L M i : Nat) (F : Nat → Q) : Prop where
  op : ∀ j, j < R.length → (F j).op = (plAt R j).nd.op
  tx : ∀ j, j < R.length → (F j).tx = (plAt R j).nd.tx
  n : ∀ j, j < R.length → (F j).n = (plAt R j).nd.n
  en : ∀ j, j < R.length → (F j).en = (plAt R j).en
  nx : ∀ j, j < R.length → (j = 0 ∨ ∃ p, p < i ∧ Part R L M p j) → (F j).nx = (plAt R j).nx
  dp : ∀ j, j < R.length → (j = 0 ∨ ∃ p, p < i ∧ Part R L M p j) → (F j).dp = (plAt R j).dp
  lg : ∀ j, j < R.length → j < i → (F j).lg = (plAt R j).lg
  l0 : ∀ j, j < R.length → i ≤ j → (F j).lg = 0
/-- A place is told what is so. -/
theorem Tl.tell {R : List Pl} {L M i j : Nat} {F : Nat → Q} {x y : Int} (h : Tl R L M i F) (hx : x = (plAt R j).nx) (hy : y = (plAt R j).dp) : Tl R L M i (upd F j { F j with nx := x, dp := y }) where
  op k hk := by by_cases e : k = j; subst e; rw [upd_same]; exact h.op k hk; rw [upd_other e]; exact h.op k hk
  tx k hk := by by_cases e : k = j; subst e; rw [upd_same]; exact h.tx k hk; rw [upd_other e]; exact h.tx k hk
  n k hk := by by_cases e : k = j; subst e; rw [upd_same]; exact h.n k hk; rw [upd_other e]; exact h.n k hk
  en k hk := by by_cases e : k = j; subst e; rw [upd_same]; exact h.en k hk; rw [upd_other e]; exact h.en k hk
  nx k hk hp := by by_cases e : k = j; subst e; rw [upd_same]; exact hx; rw [upd_other e]; exact h.nx k hk hp
  dp k hk hp := by by_cases e : k = j; subst e; rw [upd_same]; exact hy; rw [upd_other e]; exact h.dp k hk hp
  lg k hk hp := by by_cases e : k = j; subst e; rw [upd_same]; exact h.lg k hk hp; rw [upd_other e]; exact h.lg k hk hp
  l0 k hk hp := by by_cases e : k = j; subst e; rw [upd_same]; exact h.l0 k hk hp; rw [upd_other e]; exact h.l0 k hk hp
/-- The parts of a place are told: one more place is through, but how long it is. -/
theorem Tl.next {R : List Pl} {L M i : Nat} {F : Nat → Q} (h : Tl R L M i F) (hp : ∀ j, j < R.length → Part R L M i j → (F j).nx = (plAt R j).nx ∧ (F j).dp = (plAt R j).dp) (hl : (F i).lg = (plAt R i).lg) : Tl R L M (i + 1) F where
  op := h.op
  tx := h.tx
  n := h.n
  en := h.en
  nx k hk hq := by
    rcases hq with e | ⟨p, hp1, hp2⟩
    · exact h.nx k hk (.inl e)
    · by_cases e : p = i
      · subst e; exact (hp k hk hp2).1
      · exact h.nx k hk (.inr ⟨p, by omega, hp2⟩)
  dp k hk hq := by
    rcases hq with e | ⟨p, hp1, hp2⟩
    · exact h.dp k hk (.inl e)
    · by_cases e : p = i
      · subst e; exact (hp k hk hp2).2
      · exact h.dp k hk (.inr ⟨p, by omega, hp2⟩)
  lg k hk hq := by
    by_cases e : k = i
    · subst e; exact hl
    · exact h.lg k hk (by omega)
  l0 k hk hq := h.l0 k hk (by omega)
theorem Tl.setLg {R : List Pl} {L M i : Nat} {F : Nat → Q} {x : Int} (h : Tl R L M i F) : Tl R L M i F → ∀ k, k < R.length → (upd F i { F i with lg := x } k).op = (F k).op ∧ (upd F i { F i with lg := x } k).tx = (F k).tx ∧ (upd F i { F i with lg := x } k).n = (F k).n ∧ (upd F i { F i with lg := x } k).en = (F k).en ∧ (upd F i { F i with lg := x } k).nx = (F k).nx ∧ (upd F i { F i with lg := x } k).dp = (F k).dp := by
  intro _ k _
  by_cases e : k = i
  · subst e; rw [upd_same]; exact ⟨rfl, rfl, rfl, rfl, rfl, rfl⟩
  · rw [upd_other e]; exact ⟨rfl, rfl, rfl, rfl, rfl, rfl⟩
/-- .. and how long it is. -/
theorem Tl.nextLg {R : List Pl} {L M i : Nat} {F : Nat → Q} (h : Tl R L M i F) (hp : ∀ j, j < R.length → Part R L M i j → (F j).nx = (plAt R j).nx ∧ (F j).dp = (plAt R j).dp) : Tl R L M (i + 1) (upd F i { F i with lg := (plAt R i).lg }) where
  op k hk := by rw [(h.setLg h k hk).1]; exact h.op k hk
  tx k hk := by rw [(h.setLg h k hk).2.1]; exact h.tx k hk
  n k hk := by rw [(h.setLg h k hk).2.2.1]; exact h.n k hk
  en k hk := by rw [(h.setLg h k hk).2.2.2.1]; exact h.en k hk
  nx k hk hq := by
    rw [(h.setLg h k hk).2.2.2.2.1]
    rcases hq with e | ⟨p, hp1, hp2⟩
    · exact h.nx k hk (.inl e)
    · by_cases e : p = i
      · subst e; exact (hp k hk hp2).1
      · exact h.nx k hk (.inr ⟨p, by omega, hp2⟩)
  dp k hk hq := by
    rw [(h.setLg h k hk).2.2.2.2.2]
    rcases hq with e | ⟨p, hp1, hp2⟩
    · exact h.dp k hk (.inl e)
    · by_cases e : p = i
      · subst e; exact (hp k hk hp2).2
      · exact h.dp k hk (.inr ⟨p, by omega, hp2⟩)
  lg k hk hq := by
    by_cases e : k = i
    · subst e; rw [upd_same]
    · rw [upd_other e]; exact h.lg k hk (by omega)
  l0 k hk hq := by rw [upd_other (by omega)]; exact h.l0 k hk (by omega)
/-- At the end all is known. -/
theorem Tl.all {t : Tr} {F : Nat → Q} (ht : t.Wf) (h : Tl (plAll t) t.lf t.dsum (plAll t).length F) : ∀ j, j < (plAll t).length → F j = q2 (plAt (plAll t) j) := by
  intro j hj
  have hq : j = 0 ∨ ∃ p, p < (plAll t).length ∧ Part (plAll t) t.lf t.dsum p j := by
    rcases Nat.eq_zero_or_pos j with e | e
    · exact .inl e
    · obtain ⟨p, hp, hpp⟩ := parent_at ht e hj
      exact .inr ⟨p, by omega, hpp⟩
  have h1 := h.op j hj
  have h2 := h.tx j hj
  have h3 := h.n j hj
  have h4 := h.en j hj
  have h5 := h.nx j hj hq
  have h6 := h.dp j hj hq
  have h7 := h.lg j hj hj
  unfold q2
  rw [← h1, ← h2, ← h3, ← h4, ← h5, ← h6, ← h7]
/-- Before the first. -/
theorem Tl.start {t : Tr} : Tl (plAll t) t.lf t.dsum 0 (upd (F1 (plAll t) 0) 0 { F1 (plAll t) 0 0 with nx := t.sz }) := by
  have hF : ∀ j, F1 (plAll t) 0 j = q1 (plAt (plAll t) j) := fun j => by simp [F1]
  have e0 : plAt (plAll t) 0 = plHd t 0 t.sz 0 [] := by
    obtain ⟨r, e⟩ := plcs_hd t 0 t.sz 0 []
    rw [plAt, List.getD, plAll, e]
    rfl
  have hk : ∀ (P : Q → Prop) k, (k = 0 → P { F1 (plAll t) 0 0 with nx := t.sz }) → (k ≠ 0 → P (F1 (plAll t) 0 k)) → P (upd (F1 (plAll t) 0) 0 { F1 (plAll t) 0 0 with nx := t.sz } k) := by
    intro P k h1 h2
    by_cases e : k = 0
    · subst e; rw [upd_same]; exact h1 rfl
    · rw [upd_other e]; exact h2 e
  refine ⟨fun j _ => ?_, fun j _ => ?_, fun j _ => ?_, fun j _ => ?_, fun j _ hq => ?_, fun j _ hq => ?_, fun j _ hq => ?_, fun j _ _ => ?_⟩
  · refine hk (fun q => q.op = _) j (fun e => ?_) (fun _ => ?_)
    · subst e; rw [hF]; rfl
    · rw [hF]; rfl
  · refine hk (fun q => q.tx = _) j (fun e => ?_) (fun _ => ?_)
    · subst e; rw [hF]; rfl
    · rw [hF]; rfl
  · refine hk (fun q => q.n = _) j (fun e => ?_) (fun _ => ?_)
    · subst e; rw [hF]; rfl
    · rw [hF]; rfl
  · refine hk (fun q => q.en = _) j (fun e => ?_) (fun _ => ?_)
    · subst e; rw [hF]; rfl
    · rw [hF]; rfl
  · rcases hq with e | ⟨p, hp, _⟩
    · subst e; rw [upd_same, e0]; rfl
    · omega
  · rcases hq with e | ⟨p, hp, _⟩
    · subst e; rw [upd_same, hF, e0]; rfl
    · omega
  · omega
  · refine hk (fun q => q.lg = 0) j (fun e => ?_) (fun _ => ?_)
    · rw [hF]; rfl
    · rw [hF]; rfl

/-- What the parts of the doc at a place are told. -/
theorem btp_any {R : List Pl} {L M i nx dp : Nat} {ks : List (Nat × Tr)} {t : Tr} (bp g : Nat) (F : Nat → Q) (w : World) (hR : R.length ≤ 400) (hM : M ≤ 3200) (h : Sp R L M i t nx dp ks) (hT : Tl R L M i F) (h0 : i = 0 ∨ ∃ p, p < i ∧ Part R L M p i) (hbg : bp ≠ g)
    (c0 : w.cell? ⟨bp, 0, none⟩ = some (.slice (some ⟨g, 0, none⟩) R.length R.length)) (hp : PR w g R.length F) :
    Calls Tryd.prog 76 #[.pointer (some ⟨bp, 0, none⟩), .int .i64 i] w fun e w' => e = .returned (.tuple #[]) ∧ (∃ F', PR w' g R.length F' ∧ Tl R L M i F' ∧ ∀ j, j < R.length → Part R L M i j → (F' j).nx = (plAt R j).nx ∧ (F' j).dp = (plAt R j).dp) ∧ BelX w.heap.size g w w' := by
  have hi := h.lt
  have ha := h.at
  have fop := hT.op i hi
  have fn := hT.n i hi
  have fnx := hT.nx i hi h0
  have fdp := hT.dp i hi h0
  rw [ha] at fop fn fnx fdp
  have hbd := h.bd
  cases t with
  | leaf x =>
    have fop' : (F i).op = x.op := fop
    have hne : ∀ k : Int, k = 6 ∨ k = 9 ∨ k = 7 ∨ k = 8 → ((F i).op == k) = false := fun k hk => beq_eq_false_iff_ne.2 (by
      rw [fop']
      rcases leaf_op h.wf.1 h.wf.2 with e | e | e | e | e <;> omega)
    refine (btp_leaf bp g R.length i F w hi c0 hp (hne 6 (by omega)) (hne 9 (by omega)) (hne 7 (by omega)) (hne 8 (by omega))).mono ?_
    rintro e w2 ⟨rfl, h2, hb⟩
    refine ⟨rfl, ⟨F, h2, hT, fun j hj hpt => ?_⟩, hb⟩
    rcases hpt with ⟨x', a', _, _, _, hs, _⟩ | ⟨x', a', b', _, _, _, hs, _⟩
    · have := hs.at; rw [ha] at this; simp [plHd] at this
    · have := hs.at; rw [ha] at this; simp [plHd] at this
  | one x a =>
    have fop' : (F i).op = x.op := fop
    have fn' : (F i).n = x.n := fn
    have fnx' : (F i).nx = (nx : Int) := fnx
    have fdp' : (F i).dp = (dp : Int) := fdp
    have hs := h.one
    have hn8 : 0 ≤ x.n ∧ x.n ≤ 8 := by have := node_ok h.wf.1; omega
    have ex : IntKind.i64.wrap ((F i).dp + (F i).n) = ((dp + x.n.toNat : Nat) : Int) := by
      rw [fdp', fn', IntKind.wrap_i64]
      omega
    refine (btp_one bp g R.length i F w hR hs.lt c0 hp (by rw [fop']; exact one_op h.wf.2.1) _ ex).mono ?_
    rintro e w2 ⟨rfl, h2, hb⟩
    have e1 : (F i).nx = (plAt R (i + 1)).nx := by rw [fnx', hs.at]; rfl
    have e2 : ((dp + x.n.toNat : Nat) : Int) = (plAt R (i + 1)).dp := by rw [hs.at]; rfl
    refine ⟨rfl, ⟨_, h2, hT.tell e1 e2, fun j hj hpt => ?_⟩, hb⟩
    have hj1 : j = i + 1 := by
      rcases hpt with ⟨x', a', _, _, _, hs', e⟩ | ⟨x', a', b', _, _, _, hs', _⟩
      · exact e
      · have := hs'.at; rw [ha] at this; simp [plHd] at this
    subst hj1
    rw [upd_same]
    exact ⟨e1, e2⟩
  | two x a b =>
    have fop' : (F i).op = x.op := fop
    have fnx' : (F i).nx = (nx : Int) := fnx
    have fdp' : (F i).dp = (dp : Int) := fdp
    have hs2 := h.two2
    have hpart : ∀ j, Part R L M i j → j = i + 1 ∨ j = i + 1 + a.sz := fun j hpt => by
      rcases hpt with ⟨x', a', _, _, _, hs', _⟩ | ⟨x', a', b', _, _, _, hs', e⟩
      · have := hs'.at; rw [ha] at this; simp [plHd] at this
      · have := hs'.at
        rw [ha] at this
        simp only [plHd, Pl.mk.injEq, Tr.two.injEq] at this
        rw [this.2.2.2.2.2.1.2.1]
        exact e
    rcases two_op h.wf.2.1 with e | e
    · have hs := h.both1 e
      have fen : (F (i + 1)).en = ((i + 1 + a.sz : Nat) : Int) := by rw [hT.en _ hs.lt, hs.at]; rfl
      refine (btp_six bp g R.length i (i + 1 + a.sz) F w hR hs.lt hs2.lt hbg c0 hp (by rw [fop', e]) fen).mono ?_
      rintro e w2 ⟨rfl, h2, hb⟩
      have e1 : ((i + 1 + a.sz : Nat) : Int) = (plAt R (i + 1)).nx := by rw [hs.at]; rfl
      have e2 : (F i).dp = (plAt R (i + 1)).dp := by rw [fdp', hs.at]; rfl
      have e3 : (F i).nx = (plAt R (i + 1 + a.sz)).nx := by rw [fnx', hs2.at]; rfl
      have e4 : (F i).dp = (plAt R (i + 1 + a.sz)).dp := by rw [fdp', hs2.at]; rfl
      refine ⟨rfl, ⟨_, h2, (hT.tell e1 e2).tell e3 e4, fun j hj hpt => ?_⟩, hb⟩
      have hp2 := sz_pos a
      rcases hpart j hpt with rfl | rfl
      · rw [upd_other (by omega), upd_same]; exact ⟨e1, e2⟩
      · rw [upd_same]; exact ⟨e3, e4⟩
    · have hs := h.either1 (by omega)
      have fen : (F (i + 1)).en = ((i + 1 + a.sz : Nat) : Int) := by rw [hT.en _ hs.lt, hs.at]; rfl
      refine (btp_nine bp g R.length i (i + 1 + a.sz) F w hR hs.lt hs2.lt hbg c0 hp (by rw [fop', e]) fen).mono ?_
      rintro e w2 ⟨rfl, h2, hb⟩
      have e1 : (F i).nx = (plAt R (i + 1)).nx := by rw [fnx', hs.at]; rfl
      have e2 : (F i).dp = (plAt R (i + 1)).dp := by rw [fdp', hs.at]; rfl
      have e3 : (F i).nx = (plAt R (i + 1 + a.sz)).nx := by rw [fnx', hs2.at]; rfl
      have e4 : (F i).dp = (plAt R (i + 1 + a.sz)).dp := by rw [fdp', hs2.at]; rfl
      refine ⟨rfl, ⟨_, h2, (hT.tell e1 e2).tell e3 e4, fun j hj hpt => ?_⟩, hb⟩
      have hp2 := sz_pos a
      rcases hpart j hpt with rfl | rfl
      · rw [upd_other (by omega), upd_same]; exact ⟨e1, e2⟩
      · rw [upd_same]; exact ⟨e3, e4⟩
end Go.Proofs.YtfabfclbnekleaaDoor
