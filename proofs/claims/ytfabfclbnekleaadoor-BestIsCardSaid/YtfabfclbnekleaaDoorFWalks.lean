/- Some texts as one: Fnd, FWalk, FWalk1, FWalk6, FWalk8. -/
import Derived.Test.YtfabfclbnekleaaDoorPlanWb
import Derived.Test.YtfabfclbnekleaaDoorWayN
import Derived.Test.YtfabfclbnekleaaDoorIntApp
import Derived.Maps.AppendAt
import Derived.Deep.AppendLies
import Derived.BigQuiet
import Derived.Deep.QuietTactic
namespace Go.Proofs.YtfabfclbnekleaaDoor
open Go Go.RowKit

/-- What a call of the finder's keeps: all old blocks but the finder's and the row of its way; that row's block is the old one or a new one. -/
structure FKeep (b : Nat) (g g' : Option Nat) (w w' : World) : Prop where
  os : w'.os = w.os
  tape : w'.tape = w.tape
  output : w'.output = w.output
  size : w.heap.size ≤ w'.heap.size
  block : ∀ k, k < w.heap.size → k ≠ b → some k ≠ g → w'.heap[k]? = w.heap[k]?
  row : g' = g ∨ ∀ k, g' = some k → w.heap.size ≤ k
theorem FKeep.refl (b : Nat) (g : Option Nat) (w : World) : FKeep b g g w w := ⟨rfl, rfl, rfl, Nat.le_refl _, fun _ _ _ _ => rfl, .inl rfl⟩
theorem FKeep.trans {b : Nat} {g g1 g2 : Option Nat} {w w1 w2 : World} (h : FKeep b g g1 w w1) (k : FKeep b g1 g2 w1 w2) : FKeep b g g2 w w2 where
  os := k.os.trans h.os
  tape := k.tape.trans h.tape
  output := k.output.trans h.output
  size := Nat.le_trans h.size k.size
  block := fun i hi hb hg => by
    refine (k.block i (Nat.lt_of_lt_of_le hi h.size) hb ?_).trans (h.block i hi hb hg)
    intro e
    rcases h.row with h1 | h1
    · exact hg (e.trans h1)
    · have := h1 i e.symm; omega
  row := by
    rcases k.row with k1 | k1
    · rw [k1]; exact h.row
    · exact .inr fun i hi => Nat.le_trans h.size (k1 i hi)
theorem FKeep.below {b B : Nat} {g g' : Option Nat} {w w' : World} (h : FKeep b g g' w w') (hb : B ≤ b) (hg : ∀ k, g = some k → B ≤ k) (hB : B ≤ w.heap.size) : Below B w w' :=
  ⟨h.os, h.tape, h.output, h.size, fun k hk => h.block k (by omega) (by omega) (fun e => by have := hg k e.symm; omega)⟩

/-- The finder: the plan's three lists, the way so far, and how many of its choices are made. -/
def FS (B b : Nat) (pl : List Value) (path : List Int) (made : Nat) (g : Option Nat) (w : World) : Prop :=
  ∃ v, w.heap[b]? = some (.cells (pl ++ [v, .int .i64 made]).toArray 108 (0, 0)) ∧ w.ownsRow B 3 1 v path.length (intCells path) ∧ v.ownBlock = g ∧ g ≠ some b
section
variable {B b be bf n cap made : Nat} {a : Option Addr} {path : List Int} {g : Option Nat} {w : World} {v : Value}
abbrev plF (be bf : Nat) (n cap : Nat) (a : Option Addr) : List Value := [.slice a n cap, .slice (some ⟨be, 0, none⟩) n n, .slice (some ⟨bf, 0, none⟩) n n]
theorem fcell (h : w.heap[b]? = some (.cells (plF be bf n cap a ++ [v, .int .i64 made]).toArray 108 (0, 0))) : w.cell? ⟨b, 0, none⟩ = some (.slice a n cap) ∧ w.cell? ⟨b, 1, none⟩ = some (.slice (some ⟨be, 0, none⟩) n n) ∧ w.cell? ⟨b, 2, none⟩ = some (.slice (some ⟨bf, 0, none⟩) n n) ∧ w.cell? ⟨b, 3, none⟩ = some v ∧ w.cell? ⟨b, 4, none⟩ = some (.int .i64 made) ∧ w.frozen? ⟨b, 3, none⟩ = false ∧ w.frozen? ⟨b, 4, none⟩ = false := by
  refine ⟨?_, ?_, ?_, ?_, ?_, ?_, ?_⟩
  all_goals simp [World.cell?, World.frozen?, h]
theorem flt (h : w.heap[b]? = some (.cells (plF be bf n cap a ++ [v, .int .i64 made]).toArray 108 (0, 0))) : b < w.heap.size := by
  rcases Nat.lt_or_ge b w.heap.size with h' | h'
  · exact h'
  · simp [Array.getElem?_eq_none h'] at h
theorem FS.lt (h : FS B b (plF be bf n cap a) path made g w) : b < w.heap.size := by
  obtain ⟨v, h, _⟩ := h
  exact flt h
end

/-- The made choices' number, stored. -/
theorem fs_made {B b be bf n cap made k : Nat} {a : Option Addr} {path : List Int} {g : Option Nat} {w W : World} {v : Value} (hb : w.heap[b]? = some (.cells (plF be bf n cap a ++ [v, .int .i64 made]).toArray 108 (0, 0))) (hown : w.ownsRow B 3 1 v path.length (intCells path)) (hvg : v.ownBlock = g) (hgb : g ≠ some b)
    (h1 : W.os = w.os) (h2 : W.tape = w.tape) (h3 : W.output = w.output) (h4 : W.heap = (w.setCell ⟨b, 4, none⟩ (.int .i64 k)).heap) : FS B b (plF be bf n cap a) path k g W ∧ FKeep b g g w W := by
  have hs : W.heap.size = w.heap.size := by rw [h4]; simp [World.setCell]
  have hk : ∀ j, j ≠ b → W.heap[j]? = w.heap[j]? := fun j hj => by rw [h4]; exact Below.heap_setCell _ _ _ _ hj
  refine ⟨⟨v, ?_, ?_, hvg, hgb⟩, ⟨h1, h2, h3, Nat.le_of_eq hs.symm, fun j _ hj _ => hk j hj, .inl rfl⟩⟩
  · rw [h4]
    simp [World.setCell, Array.getElem?_modify, hb]
  · exact hown.kept (row := some b) ⟨h1, h2, h3, Nat.le_of_eq hs.symm, fun j _ hj => hk j (fun e => hj (by rw [e]))⟩ (.inr (by rw [hvg]; exact hgb))
/-- A longer way, stored. -/
theorem fs_ext {B b be bf n cap made k : Nat} {a : Option Addr} {path' : List Int} {g : Option Nat} {w w1 w2 W : World} {v v' : Value} {O : Obj} (hb : w.heap[b]? = some (.cells (plF be bf n cap a ++ [v, .int .i64 made]).toArray 108 (0, 0))) (hgb : g ≠ some b)
    (hgr : w1.grownBy w2 g) (e1 : w1.os = w.os) (e2 : w1.tape = w.tape) (e3 : w1.output = w.output) (e4 : w1.heap = (w.alloc O).heap) (hown : w2.ownsRow B 3 1 v' path'.length (intCells path')) (hat : v'.ownBlock = g ∨ v'.ownBlock = some w1.heap.size)
    (h1 : W.os = w2.os) (h2 : W.tape = w2.tape) (h3 : W.output = w2.output) (h4 : W.heap = ((w2.setCell ⟨b, 3, none⟩ v').setCell ⟨b, 4, none⟩ (.int .i64 k)).heap) : FS B b (plF be bf n cap a) path' k v'.ownBlock W ∧ FKeep b g v'.ownBlock w W := by
  have hlt := flt hb
  have s1 : w1.heap.size = w.heap.size + 1 := by rw [e4]; simp
  have hs : W.heap.size = w2.heap.size := by rw [h4]; simp [World.setCell]
  have hk : ∀ j, j ≠ b → W.heap[j]? = w2.heap[j]? := fun j hj => by rw [h4]; exact (Below.heap_setCell _ _ _ _ hj).trans (Below.heap_setCell _ _ _ _ hj)
  have k1 : ∀ j, j < w.heap.size → w1.heap[j]? = w.heap[j]? := fun j hj => by rw [e4]; exact Below.heap_alloc _ _ _ hj
  have k2 : ∀ j, j < w.heap.size → some j ≠ g → w2.heap[j]? = w.heap[j]? := fun j hj hg => (hgr.block j (by omega) hg).trans (k1 j hj)
  have hb2 : w2.heap[b]? = some (.cells (plF be bf n cap a ++ [v, .int .i64 made]).toArray 108 (0, 0)) := (k2 b hlt hgb.symm).trans hb
  have hvb : v'.ownBlock ≠ some b := by
    rcases hat with h | h
    · rw [h]; exact hgb
    · rw [h, s1]; intro e; simp at e; omega
  refine ⟨⟨v', ?_, ?_, rfl, hvb⟩, ⟨h1.trans (hgr.os.trans e1), h2.trans (hgr.tape.trans e2), h3.trans (hgr.output.trans e3), by have := hgr.size; omega, fun j hj hjb hjg => (hk j hjb).trans (k2 j hj hjg), ?_⟩⟩
  · rw [h4]
    simp [World.setCell, Array.getElem?_modify, hb2]
  · exact hown.kept (row := some b) ⟨h1, h2, h3, Nat.le_of_eq hs.symm, fun j _ hj => hk j (fun e => hj (by rw [e]))⟩ (.inr hvb)
  · rcases hat with h | h
    · exact .inl h
    · refine .inr fun j hj => ?_
      rw [h, s1] at hj
      simp at hj
      omega

set_option maxRecDepth 100000 in
set_option maxHeartbeats 2000000 in
theorem choose_old (B b be bf n cap : Nat) (a : Option Addr) (path : List Int) (made : Nat) (g : Option Nat) (m : Bool) (w : World) (h : FS B b (plF be bf n cap a) path made g w) (hm : made < path.length) (hl : path.length ≤ 100000) :
    Calls Tryd.prog 74 #[.pointer (some ⟨b, 0, none⟩), .bool m] w fun e w' => e = .returned (.int .i64 (path[made])) ∧ FS B b (plF be bf n cap a) path (made + 1) g w' ∧ FKeep b g g w w' := by
  obtain ⟨v, hb, hown, hvg, hgb⟩ := h
  obtain ⟨av, cv, rfl⟩ : ∃ av cv, v = .slice av path.length cv := by
    rcases hown.2 with ⟨hv, h0⟩ | ⟨g, c, cur, hv, _⟩
    · exact ⟨none, 0, by rw [hv, h0]⟩
    · exact ⟨_, c, hv⟩
  obtain ⟨_, _, _, q3, _⟩ := own_ints hown
  obtain ⟨bv, ov, ea, hbv, x1⟩ := q3 made hm
  subst ea
  obtain ⟨c0, c1, c2, c3, c4, f3, f4⟩ := fcell hb
  have HB : Hid (w.heap[b]? = some (.cells (plF be bf n cap a ++ [Value.slice (some ⟨bv, ov, none⟩) path.length cv, Value.int .i64 made]).toArray 108 (0, 0))) := hb
  have HO : Hid (w.ownsRow B 3 1 (.slice (some ⟨bv, ov, none⟩) path.length cv) path.length (intCells path)) := hown
  have HG : Hid ((Value.slice (some ⟨bv, ov, none⟩) path.length cv).ownBlock = g) := hvg
  have hbb : bv ≠ b := by
    intro e
    subst e
    exact hgb (by rw [← hvg]; rfl)
  have hne : ((made : Int) == (path.length : Int)) = false := beq_eq_false_iff_ne.2 (by omega)
  have hm1 : (made : Int) < (path.length : Int) := by omega
  clear hb hown hvg q3
  go_enter Tryd.func74, Tryd.ntmps74
  go_wp2_with fail
  go_quiet (fail)
  go_wp2_with fail
  go_quiet (fail)
  go_wp2
  go_ret
  refine ⟨rfl, ?_⟩
  exact fs_made (k := made + 1) HB.out HO.out HG.out hgb rfl rfl rfl rfl

set_option maxRecDepth 100000 in
set_option maxHeartbeats 2000000 in
theorem choose_new_t (B b be bf n cap : Nat) (a : Option Addr) (path : List Int) (g : Option Nat) (w : World) (h : FS B b (plF be bf n cap a) path path.length g w) (hl : path.length ≤ 100000) (hB : B ≤ w.heap.size) :
    Calls Tryd.prog 74 #[.pointer (some ⟨b, 0, none⟩), .bool true] w fun e w' => e = .returned (.int .i64 0) ∧ ∃ g', FS B b (plF be bf n cap a) (path ++ [0]) (path.length + 1) g' w' ∧ FKeep b g g' w w' := by
  obtain ⟨i0, hi, hz0, hz1, hz2⟩ := info_parts intInfo
  obtain ⟨v, hb, hown, hvg, hgb⟩ := h
  obtain ⟨av, cv, rfl⟩ : ∃ av cv, v = .slice av path.length cv := by
    rcases hown.2 with ⟨hv, h0⟩ | ⟨g, c, cur, hv, _⟩
    · exact ⟨none, 0, by rw [hv, h0]⟩
    · exact ⟨_, c, hv⟩
  obtain ⟨c0, c1, c2, c3, c4, f3, f4⟩ := fcell hb
  have hlt := flt hb
  have HB : Hid (w.heap[b]? = some (.cells (plF be bf n cap a ++ [Value.slice av path.length cv, Value.int .i64 path.length]).toArray 108 (0, 0))) := hb
  have HO : Hid (w.ownsRow B 3 1 (.slice av path.length cv) path.length (intCells path)) := hown
  have HG : Hid ((Value.slice av path.length cv).ownBlock = g) := hvg
  have heq : ((path.length : Int) == (path.length : Int)) = true := by simp
  clear hb hown hvg
  go_enter Tryd.func74, Tryd.ntmps74
  go_wp2_with fail
  go_quiet (fail)
  go_wp2_with (at_builtin; refine wpList_append_lies _ rfl _ _ 60 rfl B 3 i0 _ 1 8 Tryd.underlying60 hi hz0 hz1 hz2 rfl (by decide) _ _ _ rfl (World.ownsRow.alloc (w := w.drewN nq) HO.out _) ⟨w.heap.size, 0, none⟩ 1 1 [.int .i64 0] rfl rfl ?c1 ?c2 (by decide) ?c3 ?c4 ?c5 (w.heap.size + 1) ?c6 ?_)
  case c1 => exact cell_one_new (w.drewN nq) _ _
  case c2 => intro u hu; simp at hu; subst hu; rfl
  case c3 => unfold maxLen; omega
  case c4 => omega
  case c5 => simp; omega
  case c6 => simp
  intro g2 cap2 w2 hown2 hgrow2 hat2 hlt2
  rw [HG.out] at hgrow2 hat2
  have hb2 : w2.heap[b]? = some (.cells (plF be bf n cap a ++ [Value.slice av path.length cv, Value.int .i64 path.length]).toArray 108 (0, 0)) := (hgrow2.block b (by simp; omega) hgb.symm).trans ((Below.heap_alloc _ _ _ hlt).trans HB.out)
  obtain ⟨_, _, _, e3, e4, k3, k4⟩ := fcell hb2
  have hgb2 : g2 ≠ b := by
    rcases hat2 with h | h
    · intro e; subst e; exact hgb h
    · omega
  have x1 : w2.cell? ⟨g2, path.length, none⟩ = some (.int .i64 0) := by
    have := hown2.cells (g := g2) rfl path.length (.int .i64 0) (by rw [List.getElem?_append_right (by rw [intCells_len]; omega)]; rw [intCells_len]; simp)
    rw [addA, Nat.zero_add] at this
    exact this
  have HO2 : Hid (w2.ownsRow B 3 1 (.slice (some ⟨g2, 0, none⟩) (path.length + 1) cap2) (path ++ [0]).length (intCells (path ++ [0]))) := by
    show w2.ownsRow _ _ _ _ _ _
    rw [intCells_app, List.length_append]
    exact hown2
  have HAT : Hid ((Value.slice (some ⟨g2, 0, none⟩) (path.length + 1) cap2).ownBlock = g ∨ (Value.slice (some ⟨g2, 0, none⟩) (path.length + 1) cap2).ownBlock = some ((w.drewN nq).alloc (.cells #[.int .i64 0] 3)).heap.size) := by
    rcases hat2 with h | h
    · exact .inl h.symm
    · exact .inr (by subst h; simp [Value.ownBlock])
  have HGR : Hid (((w.drewN nq).alloc (.cells #[.int .i64 0] 3)).grownBy w2 g) := hgrow2
  have hl1 : (path.length : Int) < (path.length : Int) + 1 := by omega
  clear hb2 hown2 hgrow2 hat2
  go_wp2_with fail
  go_quiet (fail)
  go_wp2
  go_ret
  exact ⟨rfl, _, fs_ext (k := path.length + 1) HB.out hgb HGR.out rfl rfl rfl rfl HO2.out HAT.out rfl rfl rfl rfl⟩

set_option maxRecDepth 100000 in
set_option maxHeartbeats 2000000 in
theorem choose_new_f (B b be bf n cap : Nat) (a : Option Addr) (path : List Int) (g : Option Nat) (w : World) (h : FS B b (plF be bf n cap a) path path.length g w) (hl : path.length ≤ 100000) (hB : B ≤ w.heap.size) :
    Calls Tryd.prog 74 #[.pointer (some ⟨b, 0, none⟩), .bool false] w fun e w' => e = .returned (.int .i64 1) ∧ ∃ g', FS B b (plF be bf n cap a) (path ++ [1]) (path.length + 1) g' w' ∧ FKeep b g g' w w' := by
  obtain ⟨i0, hi, hz0, hz1, hz2⟩ := info_parts intInfo
  obtain ⟨v, hb, hown, hvg, hgb⟩ := h
  obtain ⟨av, cv, rfl⟩ : ∃ av cv, v = .slice av path.length cv := by
    rcases hown.2 with ⟨hv, h0⟩ | ⟨g, c, cur, hv, _⟩
    · exact ⟨none, 0, by rw [hv, h0]⟩
    · exact ⟨_, c, hv⟩
  obtain ⟨c0, c1, c2, c3, c4, f3, f4⟩ := fcell hb
  have hlt := flt hb
  have HB : Hid (w.heap[b]? = some (.cells (plF be bf n cap a ++ [Value.slice av path.length cv, Value.int .i64 path.length]).toArray 108 (0, 0))) := hb
  have HO : Hid (w.ownsRow B 3 1 (.slice av path.length cv) path.length (intCells path)) := hown
  have HG : Hid ((Value.slice av path.length cv).ownBlock = g) := hvg
  have heq : ((path.length : Int) == (path.length : Int)) = true := by simp
  clear hb hown hvg
  go_enter Tryd.func74, Tryd.ntmps74
  go_wp2_with fail
  go_quiet (fail)
  go_wp2_with (at_builtin; refine wpList_append_lies _ rfl _ _ 60 rfl B 3 i0 _ 1 8 Tryd.underlying60 hi hz0 hz1 hz2 rfl (by decide) _ _ _ rfl (World.ownsRow.alloc (w := w.drewN nq) HO.out _) ⟨w.heap.size, 0, none⟩ 1 1 [.int .i64 1] rfl rfl ?c1 ?c2 (by decide) ?c3 ?c4 ?c5 (w.heap.size + 1) ?c6 ?_)
  case c1 => exact cell_one_new (w.drewN nq) _ _
  case c2 => intro u hu; simp at hu; subst hu; rfl
  case c3 => unfold maxLen; omega
  case c4 => omega
  case c5 => simp; omega
  case c6 => simp
  intro g2 cap2 w2 hown2 hgrow2 hat2 hlt2
  rw [HG.out] at hgrow2 hat2
  have hb2 : w2.heap[b]? = some (.cells (plF be bf n cap a ++ [Value.slice av path.length cv, Value.int .i64 path.length]).toArray 108 (0, 0)) := (hgrow2.block b (by simp; omega) hgb.symm).trans ((Below.heap_alloc _ _ _ hlt).trans HB.out)
  obtain ⟨_, _, _, e3, e4, k3, k4⟩ := fcell hb2
  have hgb2 : g2 ≠ b := by
    rcases hat2 with h | h
    · intro e; subst e; exact hgb h
    · omega
  have x1 : w2.cell? ⟨g2, path.length, none⟩ = some (.int .i64 1) := by
    have := hown2.cells (g := g2) rfl path.length (.int .i64 1) (by rw [List.getElem?_append_right (by rw [intCells_len]; omega)]; rw [intCells_len]; simp)
    rw [addA, Nat.zero_add] at this
    exact this
  have HO2 : Hid (w2.ownsRow B 3 1 (.slice (some ⟨g2, 0, none⟩) (path.length + 1) cap2) (path ++ [1]).length (intCells (path ++ [1]))) := by
    show w2.ownsRow _ _ _ _ _ _
    rw [intCells_app, List.length_append]
    exact hown2
  have HAT : Hid ((Value.slice (some ⟨g2, 0, none⟩) (path.length + 1) cap2).ownBlock = g ∨ (Value.slice (some ⟨g2, 0, none⟩) (path.length + 1) cap2).ownBlock = some ((w.drewN nq).alloc (.cells #[.int .i64 1] 3)).heap.size) := by
    rcases hat2 with h | h
    · exact .inl h.symm
    · exact .inr (by subst h; simp [Value.ownBlock])
  have HGR : Hid (((w.drewN nq).alloc (.cells #[.int .i64 1] 3)).grownBy w2 g) := hgrow2
  have hl1 : (path.length : Int) < (path.length : Int) + 1 := by omega
  clear hb2 hown2 hgrow2 hat2
  go_wp2_with fail
  go_quiet (fail)
  go_wp2
  go_ret
  exact ⟨rfl, _, fs_ext (k := path.length + 1) HB.out hgb HGR.out rfl rfl rfl rfl HO2.out HAT.out rfl rfl rfl rfl⟩

end Go.Proofs.YtfabfclbnekleaaDoor
namespace Go.Proofs.YtfabfclbnekleaaDoor
open Go Go.RowKit

theorem FS.row {B b be bf n cap made : Nat} {a : Option Addr} {path : List Int} {g : Option Nat} {w : World} (h : FS B b (plF be bf n cap a) path made g w) : ∀ k, g = some k → B ≤ k := by
  obtain ⟨v, _, hown, hg, _⟩ := h
  intro k hk
  exact (hown.lt k (hg.trans hk)).1
/-- What the call may lean on: the doc's nodes, and what is known of them. -/
structure FC (s be bf : Nat) (a : Option Addr) (ds : List Nd) (w : World) : Prop where
  nd : NodsS s w a ds
  kn : Known w be bf ds 0
theorem FC.below {B s be bf : Nat} {a : Option Addr} {ds : List Nd} {w w' : World} (h : FC s be bf a ds w) (hB : s < B ∧ be < B ∧ bf < B) (hb : Below B w w') : FC s be bf a ds w' :=
  ⟨h.nd.kept (hb.block s hB.1), h.kn.kept (hb.block be hB.2.1) (hb.block bf hB.2.2)⟩

/-- What walk leaves. -/
def FPost (B b : Nat) (pl : List Value) (pre : List Int) (q : List Int × List Int) (g : Option Nat) (w : World) (e : Ending) (w' : World) : Prop :=
  e = .returned (.tuple #[]) ∧ ∃ g', FS B b pl (pre ++ (q.1 ++ q.2)) (pre.length + q.1.length) g' w' ∧ FKeep b g g' w w'
/-- walk goes such nodes so, wherever they stand, by whatever is settled. -/
def FWalkOk (B b s be bf : Nat) (ds : List Nd) (a : Option Addr) (cap : Nat) (A : List Nd) (f : List Int → List Int × List Int) : Prop :=
  ∀ (i : Nat) (r : List Nd) (pre rest : List Int) (g : Option Nat) (w : World), ds.drop i = A ++ r → FC s be bf a ds w → FS B b (plF be bf ds.length cap a) (pre ++ rest) pre.length g w → pre.length + rest.length + A.length ≤ 100000 → B ≤ w.heap.size →
    Calls Tryd.prog 52 #[.pointer (some ⟨b, 0, none⟩), .int .i64 i] w (FPost B b (plF be bf ds.length cap a) pre (f rest) g w)

theorem go_len : ∀ (t : Tr) (rest : List Int), (t.go rest).1.length + (t.go rest).2.length ≤ rest.length + t.nodes.length
  | .leaf x, rest => by simp [Tr.go]
  | .one x a, rest => by
    simp only [Tr.go, Tr.nodes, List.length_cons]
    split
    · have := go_len a rest; omega
    · cases rest with
      | nil =>
        have := go_len a []
        simp only
        split
        · simp
        · simp only [List.length_cons, List.length_nil] at *; omega
      | cons c r =>
        have := go_len a r
        simp only
        split
        · simp only [List.length_cons] at *; omega
        · simp; omega
  | .two x a b, rest => by
    simp only [Tr.go, Tr.nodes, List.length_cons, List.length_append]
    split
    · have h1 := go_len a rest
      have h2 := go_len b (a.go rest).2
      simp only [List.length_append]
      omega
    · cases rest with
      | nil =>
        have := go_len a []
        simp only [List.length_cons, List.length_nil] at *; omega
      | cons c r =>
        have h1 := go_len a r
        have h2 := go_len b r
        simp only
        split
        · simp only [List.length_cons] at *; omega
        · simp only [List.length_cons] at *; omega

/-- A group, one of two: gone. -/
def goGroup (f : List Int → List Int × List Int) (fl : Bool) : List Int → List Int × List Int
  | [] => if fl = true then ([0], []) else (1 :: (f []).1, (f []).2)
  | c :: r => if c = 1 then (1 :: (f r).1, (f r).2) else ([c], r)
def goEither (f h : List Int → List Int × List Int) : List Int → List Int × List Int
  | [] => (0 :: (f []).1, (f []).2)
  | c :: r => if c = 0 then (0 :: (f r).1, (f r).2) else (c :: (h r).1, (h r).2)
theorem go_group {x : Nd} {a : Tr} (h : x.op = 8) : Tr.go (.one x a) = goGroup a.go a.isFlat := by
  funext rest
  simp only [Tr.go, if_neg (show ¬ x.op = 7 by omega)]
  cases rest <;> rfl
theorem go_either {x : Nd} {a b : Tr} (h : x.op = 9) : Tr.go (.two x a b) = goEither a.go b.go := by
  funext rest
  simp only [Tr.go, if_neg (show ¬ x.op = 6 by omega)]
  cases rest <;> rfl
theorem go_both {x : Nd} {a b : Tr} (h : x.op = 6) : Tr.go (.two x a b) = fun rest => ((a.go rest).1 ++ (b.go (a.go rest).2).1, (b.go (a.go rest).2).2) := by
  funext rest
  simp only [Tr.go, if_pos h]
theorem go_deep {x : Nd} {a : Tr} (h : x.op = 7) : Tr.go (.one x a) = a.go := by
  funext rest
  simp only [Tr.go, if_pos h]
end Go.Proofs.YtfabfclbnekleaaDoor
namespace Go.Proofs.YtfabfclbnekleaaDoor
open Go Go.RowKit

set_option maxRecDepth 100000 in
set_option maxHeartbeats 2000000 in
theorem fwalk_1 (B b s be bf : Nat) (_hb : s < B ∧ be < B ∧ bf < B) (_hB : B ≤ b) (ds : List Nd) (a : Option Addr) (cap : Nat) (_hl : ds.length ≤ 400) (tx : ByteArray) (n : Int) : FWalkOk B b s be bf ds a cap (⟨1, tx, n⟩ :: []) (fun rest => ([], rest)) := by
  intro i r pre rest g w hd hC hF hsz hBw
  obtain ⟨hi, e1, e2⟩ := drop_cons (x := ⟨1, tx, n⟩) (A := [] ++ r) hd
  obtain ⟨o0, ea, d1, _, _⟩ := hC.nd i hi
  subst ea
  rw [e1] at d1
  dsimp only at d1
  have HF : Hid (FS B b (plF be bf ds.length cap (some ⟨s, o0, none⟩)) (pre ++ rest) pre.length g w) := hF
  have hrow := hF.row
  obtain ⟨v, hbk, _, _, _⟩ := hF
  obtain ⟨c0, c1, c2, _, _, _, _⟩ := fcell hbk
  have hiI : (i : Int) < (ds.length : Int) := by omega
  have HC : Hid (FC s be bf (some ⟨s, o0, none⟩) ds w) := hC
  have HD1 : Hid (ds.drop (i + 1) = [] ++ r) := e2
  have HX : Hid (((i + 1 : Nat) : Int) = (i : Int) + 1) := (show _ = _ by omega)
  have HR : Hid (∀ k, g = some k → B ≤ k) := hrow
  clear hC hbk hd e1 e2 hrow
  go_enter Tryd.func52, Tryd.ntmps52
  go_wp2
  go_end0
  exact ⟨rfl, g, HF.out, FKeep.refl _ _ _⟩

set_option maxRecDepth 100000 in
set_option maxHeartbeats 2000000 in
theorem fwalk_2 (B b s be bf : Nat) (_hb : s < B ∧ be < B ∧ bf < B) (_hB : B ≤ b) (ds : List Nd) (a : Option Addr) (cap : Nat) (_hl : ds.length ≤ 400) (tx : ByteArray) (n : Int) : FWalkOk B b s be bf ds a cap (⟨2, tx, n⟩ :: []) (fun rest => ([], rest)) := by
  intro i r pre rest g w hd hC hF hsz hBw
  obtain ⟨hi, e1, e2⟩ := drop_cons (x := ⟨2, tx, n⟩) (A := [] ++ r) hd
  obtain ⟨o0, ea, d1, _, _⟩ := hC.nd i hi
  subst ea
  rw [e1] at d1
  dsimp only at d1
  have HF : Hid (FS B b (plF be bf ds.length cap (some ⟨s, o0, none⟩)) (pre ++ rest) pre.length g w) := hF
  have hrow := hF.row
  obtain ⟨v, hbk, _, _, _⟩ := hF
  obtain ⟨c0, c1, c2, _, _, _, _⟩ := fcell hbk
  have hiI : (i : Int) < (ds.length : Int) := by omega
  have HC : Hid (FC s be bf (some ⟨s, o0, none⟩) ds w) := hC
  have HD1 : Hid (ds.drop (i + 1) = [] ++ r) := e2
  have HX : Hid (((i + 1 : Nat) : Int) = (i : Int) + 1) := (show _ = _ by omega)
  have HR : Hid (∀ k, g = some k → B ≤ k) := hrow
  clear hC hbk hd e1 e2 hrow
  go_enter Tryd.func52, Tryd.ntmps52
  go_wp2
  go_end0
  exact ⟨rfl, g, HF.out, FKeep.refl _ _ _⟩

set_option maxRecDepth 100000 in
set_option maxHeartbeats 2000000 in
theorem fwalk_3 (B b s be bf : Nat) (_hb : s < B ∧ be < B ∧ bf < B) (_hB : B ≤ b) (ds : List Nd) (a : Option Addr) (cap : Nat) (_hl : ds.length ≤ 400) (tx : ByteArray) (n : Int) : FWalkOk B b s be bf ds a cap (⟨3, tx, n⟩ :: []) (fun rest => ([], rest)) := by
  intro i r pre rest g w hd hC hF hsz hBw
  obtain ⟨hi, e1, e2⟩ := drop_cons (x := ⟨3, tx, n⟩) (A := [] ++ r) hd
  obtain ⟨o0, ea, d1, _, _⟩ := hC.nd i hi
  subst ea
  rw [e1] at d1
  dsimp only at d1
  have HF : Hid (FS B b (plF be bf ds.length cap (some ⟨s, o0, none⟩)) (pre ++ rest) pre.length g w) := hF
  have hrow := hF.row
  obtain ⟨v, hbk, _, _, _⟩ := hF
  obtain ⟨c0, c1, c2, _, _, _, _⟩ := fcell hbk
  have hiI : (i : Int) < (ds.length : Int) := by omega
  have HC : Hid (FC s be bf (some ⟨s, o0, none⟩) ds w) := hC
  have HD1 : Hid (ds.drop (i + 1) = [] ++ r) := e2
  have HX : Hid (((i + 1 : Nat) : Int) = (i : Int) + 1) := (show _ = _ by omega)
  have HR : Hid (∀ k, g = some k → B ≤ k) := hrow
  clear hC hbk hd e1 e2 hrow
  go_enter Tryd.func52, Tryd.ntmps52
  go_wp2
  go_end0
  exact ⟨rfl, g, HF.out, FKeep.refl _ _ _⟩

set_option maxRecDepth 100000 in
set_option maxHeartbeats 2000000 in
theorem fwalk_4 (B b s be bf : Nat) (_hb : s < B ∧ be < B ∧ bf < B) (_hB : B ≤ b) (ds : List Nd) (a : Option Addr) (cap : Nat) (_hl : ds.length ≤ 400) (tx : ByteArray) (n : Int) : FWalkOk B b s be bf ds a cap (⟨4, tx, n⟩ :: []) (fun rest => ([], rest)) := by
  intro i r pre rest g w hd hC hF hsz hBw
  obtain ⟨hi, e1, e2⟩ := drop_cons (x := ⟨4, tx, n⟩) (A := [] ++ r) hd
  obtain ⟨o0, ea, d1, _, _⟩ := hC.nd i hi
  subst ea
  rw [e1] at d1
  dsimp only at d1
  have HF : Hid (FS B b (plF be bf ds.length cap (some ⟨s, o0, none⟩)) (pre ++ rest) pre.length g w) := hF
  have hrow := hF.row
  obtain ⟨v, hbk, _, _, _⟩ := hF
  obtain ⟨c0, c1, c2, _, _, _, _⟩ := fcell hbk
  have hiI : (i : Int) < (ds.length : Int) := by omega
  have HC : Hid (FC s be bf (some ⟨s, o0, none⟩) ds w) := hC
  have HD1 : Hid (ds.drop (i + 1) = [] ++ r) := e2
  have HX : Hid (((i + 1 : Nat) : Int) = (i : Int) + 1) := (show _ = _ by omega)
  have HR : Hid (∀ k, g = some k → B ≤ k) := hrow
  clear hC hbk hd e1 e2 hrow
  go_enter Tryd.func52, Tryd.ntmps52
  go_wp2
  go_end0
  exact ⟨rfl, g, HF.out, FKeep.refl _ _ _⟩

set_option maxRecDepth 100000 in
set_option maxHeartbeats 2000000 in
theorem fwalk_5 (B b s be bf : Nat) (_hb : s < B ∧ be < B ∧ bf < B) (_hB : B ≤ b) (ds : List Nd) (a : Option Addr) (cap : Nat) (_hl : ds.length ≤ 400) (tx : ByteArray) (n : Int) : FWalkOk B b s be bf ds a cap (⟨5, tx, n⟩ :: []) (fun rest => ([], rest)) := by
  intro i r pre rest g w hd hC hF hsz hBw
  obtain ⟨hi, e1, e2⟩ := drop_cons (x := ⟨5, tx, n⟩) (A := [] ++ r) hd
  obtain ⟨o0, ea, d1, _, _⟩ := hC.nd i hi
  subst ea
  rw [e1] at d1
  dsimp only at d1
  have HF : Hid (FS B b (plF be bf ds.length cap (some ⟨s, o0, none⟩)) (pre ++ rest) pre.length g w) := hF
  have hrow := hF.row
  obtain ⟨v, hbk, _, _, _⟩ := hF
  obtain ⟨c0, c1, c2, _, _, _, _⟩ := fcell hbk
  have hiI : (i : Int) < (ds.length : Int) := by omega
  have HC : Hid (FC s be bf (some ⟨s, o0, none⟩) ds w) := hC
  have HD1 : Hid (ds.drop (i + 1) = [] ++ r) := e2
  have HX : Hid (((i + 1 : Nat) : Int) = (i : Int) + 1) := (show _ = _ by omega)
  have HR : Hid (∀ k, g = some k → B ≤ k) := hrow
  clear hC hbk hd e1 e2 hrow
  go_enter Tryd.func52, Tryd.ntmps52
  go_wp2
  go_end0
  exact ⟨rfl, g, HF.out, FKeep.refl _ _ _⟩
end Go.Proofs.YtfabfclbnekleaaDoor
namespace Go.Proofs.YtfabfclbnekleaaDoor
open Go Go.RowKit

set_option maxRecDepth 100000 in
set_option maxHeartbeats 2000000 in
theorem fwalk_7 (B b s be bf : Nat) (_hb : s < B ∧ be < B ∧ bf < B) (_hB : B ≤ b) (ds : List Nd) (a : Option Addr) (cap : Nat) (_hl : ds.length ≤ 400) (tx : ByteArray) (n : Int) (A : List Nd) (f : List Int → List Int × List Int) (hA : FWalkOk B b s be bf ds a cap A f) : FWalkOk B b s be bf ds a cap (⟨7, tx, n⟩ :: A) (f) := by
  intro i r pre rest g w hd hC hF hsz hBw
  obtain ⟨hi, e1, e2⟩ := drop_cons (x := ⟨7, tx, n⟩) (A := A ++ r) hd
  obtain ⟨o0, ea, d1, _, _⟩ := hC.nd i hi
  subst ea
  rw [e1] at d1
  dsimp only at d1
  have HF : Hid (FS B b (plF be bf ds.length cap (some ⟨s, o0, none⟩)) (pre ++ rest) pre.length g w) := hF
  have hrow := hF.row
  obtain ⟨v, hbk, _, _, _⟩ := hF
  obtain ⟨c0, c1, c2, _, _, _, _⟩ := fcell hbk
  have hiI : (i : Int) < (ds.length : Int) := by omega
  have HC : Hid (FC s be bf (some ⟨s, o0, none⟩) ds w) := hC
  have HD1 : Hid (ds.drop (i + 1) = A ++ r) := e2
  have HX : Hid (((i + 1 : Nat) : Int) = (i : Int) + 1) := (show _ = _ by omega)
  have HR : Hid (∀ k, g = some k → B ≤ k) := hrow
  clear hC hbk hd e1 e2 hrow
  have HA : Hid (FWalkOk B b s be bf ds (some ⟨s, o0, none⟩) cap A f) := hA
  simp only [List.length_cons] at hsz
  clear hA
  go_enter Tryd.func52, Tryd.ntmps52
  go_wp2_with fail
  rw [← HX.out]
  refine (HA.out (i + 1) r pre rest g _ HD1.out HC.out HF.out (by omega) hBw).mono ?_
  rintro e w2 ⟨rfl, h2⟩
  go_wp2
  go_end0
  exact ⟨rfl, h2⟩

set_option maxRecDepth 100000 in
set_option maxHeartbeats 2000000 in
theorem fwalk_6 (B b s be bf : Nat) (hb : s < B ∧ be < B ∧ bf < B) (hB : B ≤ b) (ds : List Nd) (a : Option Addr) (cap : Nat) (hl : ds.length ≤ 400) (tx : ByteArray) (n : Int) (t : Tr) (ht : t.Wf) (C : List Nd) (f h : List Int → List Int × List Int) (hA : FWalkOk B b s be bf ds a cap t.nodes f) (hG : FWalkOk B b s be bf ds a cap C h) (hp : C ≠ []) (hlen : ∀ rest, (f rest).1.length + (f rest).2.length ≤ rest.length + t.nodes.length) : FWalkOk B b s be bf ds a cap (⟨6, tx, n⟩ :: (t.nodes ++ C)) (fun rest => ((f rest).1 ++ (h (f rest).2).1, (h (f rest).2).2)) := by
  intro i r pre rest g w hd hC hF hsz hBw
  obtain ⟨hi, e1, e2⟩ := drop_cons (x := ⟨6, tx, n⟩) (A := (t.nodes ++ C) ++ r) hd
  obtain ⟨o0, ea, d1, _, _⟩ := hC.nd i hi
  subst ea
  rw [e1] at d1
  dsimp only at d1
  have HF : Hid (FS B b (plF be bf ds.length cap (some ⟨s, o0, none⟩)) (pre ++ rest) pre.length g w) := hF
  have hrow := hF.row
  obtain ⟨v, hbk, _, _, _⟩ := hF
  obtain ⟨c0, c1, c2, _, _, _, _⟩ := fcell hbk
  have hiI : (i : Int) < (ds.length : Int) := by omega
  have HC : Hid (FC s be bf (some ⟨s, o0, none⟩) ds w) := hC
  have HD1 : Hid (ds.drop (i + 1) = (t.nodes ++ C) ++ r) := e2
  have HX : Hid (((i + 1 : Nat) : Int) = (i : Int) + 1) := (show _ = _ by omega)
  have HR : Hid (∀ k, g = some k → B ≤ k) := hrow
  clear hC hbk hd e1 e2 hrow
  have HA : Hid (FWalkOk B b s be bf ds (some ⟨s, o0, none⟩) cap t.nodes f) := hA
  have HG : Hid (FWalkOk B b s be bf ds (some ⟨s, o0, none⟩) cap C h) := hG
  have hd1 := HD1.out
  rw [List.append_assoc] at hd1
  have HD2 : Hid (ds.drop (i + 1) = t.nodes ++ (C ++ r)) := hd1
  have hi1 : (i : Int) + 1 < (ds.length : Int) := by
    have := congrArg List.length hd1
    have h2 := List.length_pos_iff.2 hp
    rw [List.length_drop, List.length_append, List.length_append] at this
    omega
  have hfl := hlen rest
  simp only [List.length_cons, List.length_append] at hsz
  clear hA hG hd1 hlen hp
  go_enter Tryd.func52, Tryd.ntmps52
  go_wp2_with fail
  rw [← HX.out]
  refine (HA.out (i + 1) (C ++ r) pre rest g _ HD2.out HC.out HF.out (by omega) hBw).mono ?_
  rintro e w2 ⟨rfl, g2, h2, k2⟩
  have HF2 : Hid (FS B b (plF be bf ds.length cap (some ⟨s, o0, none⟩)) ((pre ++ (f rest).1) ++ (f rest).2) (pre ++ (f rest).1).length g2 w2) := by
    show FS _ _ _ _ _ _ _
    rw [List.append_assoc, List.length_append]
    exact h2
  have HB2 : Hid (Below B w w2) := k2.below hB HR.out hBw
  have HC2 : Hid (FC s be bf (some ⟨s, o0, none⟩) ds w2) := HC.out.below hb HB2.out
  have HK2 : Hid (FKeep b g g2 w w2) := k2
  obtain ⟨v2, hbk2, _, _, _⟩ := h2
  obtain ⟨_, e1, _, _, _, _, _⟩ := fcell hbk2
  have ge := (HC2.out.kn (i + 1) t (C ++ r) (Nat.zero_le _) ht HD2.out).1
  have hsz2 := HB2.out.size
  clear hbk2 k2
  go_wp2_with fail
  refine (HG.out (i + 1 + t.nodes.length) r (pre ++ (f rest).1) (f rest).2 g2 _ (drop_app HD2.out) HC2.out HF2.out (by rw [List.length_append]; omega) (by omega)).mono ?_
  rintro e w3 ⟨rfl, g3, h3, k3⟩
  go_wp2
  go_end0
  refine ⟨rfl, g3, ?_, HK2.out.trans k3⟩
  have e1 : pre ++ (((f rest).1 ++ (h (f rest).2).1) ++ (h (f rest).2).2) = pre ++ (f rest).1 ++ ((h (f rest).2).1 ++ (h (f rest).2).2) := by simp
  have e2 : pre.length + ((f rest).1 ++ (h (f rest).2).1).length = (pre ++ (f rest).1).length + (h (f rest).2).1.length := by simp; omega
  dsimp only
  rw [e1, e2]
  exact h3
end Go.Proofs.YtfabfclbnekleaaDoor
namespace Go.Proofs.YtfabfclbnekleaaDoor
open Go Go.RowKit

set_option maxRecDepth 100000 in
set_option maxHeartbeats 2000000 in
theorem fw8_1 {b s bf o0 n cap : Nat} (i : Nat) (m : Bool) (c : Int) (w : World) (P Q : World → Prop) (c0 : w.cell? ⟨b, 0, none⟩ = some (.slice (some ⟨s, o0, none⟩) n cap)) (d1 : w.cell? ⟨s, o0 + i * 3, none⟩ = some (.int .i64 8)) (hiI : (i : Int) < (n : Int)) (hn : n ≤ 400) (c2 : w.cell? ⟨b, 2, none⟩ = some (.slice (some ⟨bf, 0, none⟩) n n)) (d2 : w.cell? ⟨bf, i, none⟩ = some (.bool m)) (hc : c = 1) (H1 : Calls Tryd.prog 74 #[.pointer (some ⟨b, 0, none⟩), .bool m] w fun e w' => e = .returned (.int .i64 c) ∧ P w')
    (H2 : ∀ w', P w' → Calls Tryd.prog 52 #[.pointer (some ⟨b, 0, none⟩), .int .i64 ((i : Int) + 1)] w' fun e w'' => e = .returned (.tuple #[]) ∧ Q w'') :
    Calls Tryd.prog 52 #[.pointer (some ⟨b, 0, none⟩), .int .i64 i] w fun e w' => e = .returned (.tuple #[]) ∧ Q w' := by
  have HH1 : Hid (Calls Tryd.prog 74 #[.pointer (some ⟨b, 0, none⟩), .bool m] w fun e w' => e = .returned (.int .i64 c) ∧ P w') := H1
  have HH2 : Hid (∀ w', P w' → Calls Tryd.prog 52 #[.pointer (some ⟨b, 0, none⟩), .int .i64 ((i : Int) + 1)] w' fun e w'' => e = .returned (.tuple #[]) ∧ Q w'') := H2
  clear H1 H2
  subst hc
  go_enter Tryd.func52, Tryd.ntmps52
  go_wp2_with fail
  refine HH1.out.mono ?_
  rintro e w2 ⟨rfl, hp⟩
  have HP : Hid (P w2) := hp
  clear hp
  go_wp2_with fail
  refine (HH2.out _ HP.out).mono ?_
  rintro e w3 ⟨rfl, hq⟩
  go_wp2
  go_end0
  exact ⟨rfl, hq⟩

set_option maxRecDepth 100000 in
set_option maxHeartbeats 2000000 in
theorem fw8_n {b s bf o0 n cap : Nat} (i : Nat) (m : Bool) (c : Int) (w : World) (P Q : World → Prop) (c0 : w.cell? ⟨b, 0, none⟩ = some (.slice (some ⟨s, o0, none⟩) n cap)) (d1 : w.cell? ⟨s, o0 + i * 3, none⟩ = some (.int .i64 8)) (hiI : (i : Int) < (n : Int)) (_hn : n ≤ 400) (c2 : w.cell? ⟨b, 2, none⟩ = some (.slice (some ⟨bf, 0, none⟩) n n)) (d2 : w.cell? ⟨bf, i, none⟩ = some (.bool m)) (hc : c ≠ 1) (H1 : Calls Tryd.prog 74 #[.pointer (some ⟨b, 0, none⟩), .bool m] w fun e w' => e = .returned (.int .i64 c) ∧ P w')
    (H2 : ∀ w', P w' → Q w') :
    Calls Tryd.prog 52 #[.pointer (some ⟨b, 0, none⟩), .int .i64 i] w fun e w' => e = .returned (.tuple #[]) ∧ Q w' := by
  have HH1 : Hid (Calls Tryd.prog 74 #[.pointer (some ⟨b, 0, none⟩), .bool m] w fun e w' => e = .returned (.int .i64 c) ∧ P w') := H1
  have HH2 : Hid (∀ w', P w' → Q w') := H2
  clear H1 H2
  have hc' : (c == 1) = false := beq_eq_false_iff_ne.2 hc
  clear hc
  go_enter Tryd.func52, Tryd.ntmps52
  go_wp2_with fail
  refine HH1.out.mono ?_
  rintro e w2 ⟨rfl, hp⟩
  have HP : Hid (P w2) := hp
  clear hp
  go_wp2
  go_end0
  exact ⟨rfl, HH2.out _ HP.out⟩

set_option maxRecDepth 100000 in
set_option maxHeartbeats 2000000 in
theorem fw9_0 {b s o0 n cap : Nat} (i : Nat) (c : Int) (w : World) (P Q : World → Prop) (c0 : w.cell? ⟨b, 0, none⟩ = some (.slice (some ⟨s, o0, none⟩) n cap)) (d1 : w.cell? ⟨s, o0 + i * 3, none⟩ = some (.int .i64 9)) (hiI : (i : Int) < (n : Int)) (hn : n ≤ 400) (hc : c = 0) (H1 : Calls Tryd.prog 74 #[.pointer (some ⟨b, 0, none⟩), .bool true] w fun e w' => e = .returned (.int .i64 c) ∧ P w')
    (H2 : ∀ w', P w' → Calls Tryd.prog 52 #[.pointer (some ⟨b, 0, none⟩), .int .i64 ((i : Int) + 1)] w' fun e w'' => e = .returned (.tuple #[]) ∧ Q w'') :
    Calls Tryd.prog 52 #[.pointer (some ⟨b, 0, none⟩), .int .i64 i] w fun e w' => e = .returned (.tuple #[]) ∧ Q w' := by
  have HH1 : Hid (Calls Tryd.prog 74 #[.pointer (some ⟨b, 0, none⟩), .bool true] w fun e w' => e = .returned (.int .i64 c) ∧ P w') := H1
  have HH2 : Hid (∀ w', P w' → Calls Tryd.prog 52 #[.pointer (some ⟨b, 0, none⟩), .int .i64 ((i : Int) + 1)] w' fun e w'' => e = .returned (.tuple #[]) ∧ Q w'') := H2
  clear H1 H2
  subst hc
  go_enter Tryd.func52, Tryd.ntmps52
  go_wp2_with fail
  refine HH1.out.mono ?_
  rintro e w2 ⟨rfl, hp⟩
  have HP : Hid (P w2) := hp
  clear hp
  go_wp2_with fail
  refine (HH2.out _ HP.out).mono ?_
  rintro e w3 ⟨rfl, hq⟩
  go_wp2
  go_end0
  exact ⟨rfl, hq⟩

set_option maxRecDepth 100000 in
set_option maxHeartbeats 2000000 in
theorem fw9_n {b s be o0 n cap : Nat} (i j : Nat) (c : Int) (w : World) (P Q : World → Prop) (c0 : w.cell? ⟨b, 0, none⟩ = some (.slice (some ⟨s, o0, none⟩) n cap)) (d1 : w.cell? ⟨s, o0 + i * 3, none⟩ = some (.int .i64 9)) (hiI : (i : Int) < (n : Int)) (hn : n ≤ 400) (hc : c ≠ 0) (hi1 : (i : Int) + 1 < (n : Int)) (hT : ∀ w', P w' → w'.cell? ⟨b, 1, none⟩ = some (.slice (some ⟨be, 0, none⟩) n n) ∧ w'.cell? ⟨be, i + 1, none⟩ = some (.int .i64 (j : Int))) (H1 : Calls Tryd.prog 74 #[.pointer (some ⟨b, 0, none⟩), .bool true] w fun e w' => e = .returned (.int .i64 c) ∧ P w')
    (H2 : ∀ w', P w' → Calls Tryd.prog 52 #[.pointer (some ⟨b, 0, none⟩), .int .i64 (j : Int)] w' fun e w'' => e = .returned (.tuple #[]) ∧ Q w'') :
    Calls Tryd.prog 52 #[.pointer (some ⟨b, 0, none⟩), .int .i64 i] w fun e w' => e = .returned (.tuple #[]) ∧ Q w' := by
  have HH1 : Hid (Calls Tryd.prog 74 #[.pointer (some ⟨b, 0, none⟩), .bool true] w fun e w' => e = .returned (.int .i64 c) ∧ P w') := H1
  have HH2 : Hid (∀ w', P w' → Calls Tryd.prog 52 #[.pointer (some ⟨b, 0, none⟩), .int .i64 (j : Int)] w' fun e w'' => e = .returned (.tuple #[]) ∧ Q w'') := H2
  clear H1 H2
  have hc' : (c == 0) = false := beq_eq_false_iff_ne.2 hc
  have HT : Hid (∀ w', P w' → w'.cell? ⟨b, 1, none⟩ = some (.slice (some ⟨be, 0, none⟩) n n) ∧ w'.cell? ⟨be, i + 1, none⟩ = some (.int .i64 (j : Int))) := hT
  clear hc hT
  go_enter Tryd.func52, Tryd.ntmps52
  go_wp2_with fail
  refine HH1.out.mono ?_
  rintro e w2 ⟨rfl, hp⟩
  have HP : Hid (P w2) := hp
  obtain ⟨t1, t2⟩ := HT.out _ hp
  clear hp
  go_wp2_with fail
  refine (HH2.out _ HP.out).mono ?_
  rintro e w3 ⟨rfl, hq⟩
  go_wp2
  go_end0
  exact ⟨rfl, hq⟩
end Go.Proofs.YtfabfclbnekleaaDoor
