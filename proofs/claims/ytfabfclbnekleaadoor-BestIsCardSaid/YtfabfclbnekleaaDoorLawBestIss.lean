/- Some texts as one: BstO, LawBestIs. -/
import Derived.Test.YtfabfclbnekleaaDoorBss
import Derived.Test.YtfabfclbnekleaaDoorPlainRs
import Derived.Test.YtfabfclbnekleaaDoorRLss
import Derived.Test.YtfabfclbnekleaaDoorWayIss
import Derived.Test.YtfabfclbnekleaaDoorWayLs
import Derived.Test.YtfabfclbnekleaaDoorSamI
import Derived.Test.YtfabfclbnekleaaDoorDocRs
namespace Go.Proofs.YtfabfclbnekleaaDoor
open Go Go.RowKit

/-- Numbers in memory, from a block on. -/
def IntsA (G : Nat) (w : World) (a : Option Addr) (ws : List Int) : Prop :=
  ∀ i (h : i < ws.length), ∃ b o, a = some ⟨b, o, none⟩ ∧ b < w.heap.size ∧ G ≤ b ∧ w.cell? ⟨b, o + i, none⟩ = some (.int .i64 ws[i])
theorem IntsA.ints {G : Nat} {w : World} {a : Option Addr} {ws : List Int} (h : IntsA G w a ws) : Ints w a ws := by
  intro i hi
  obtain ⟨b, o, e, h1, _, c⟩ := h i hi
  exact ⟨b, o, e, h1, c⟩
theorem IntsA.below {G : Nat} {w w' : World} {a : Option Addr} {ws : List Int} (h : IntsA G w a ws) (hb : Below w.heap.size w w') : IntsA G w' a ws := by
  intro i hi
  obtain ⟨b, o, e, h1, h2, c⟩ := h i hi
  exact ⟨b, o, e, Nat.lt_of_lt_of_le h1 hb.size, h2, (hb.cell (p := ⟨b, o + i, none⟩) h1).trans c⟩
theorem IntsA.far2 {G g : Nat} {w : World} {a : Option Addr} {ws : List Int} {v v' : Value} (h : IntsA G w a ws) (hg : g < G) : IntsA G ((w.setCell ⟨g, 0, none⟩ v).setCell ⟨g, 1, none⟩ v') a ws := by
  intro i hi
  obtain ⟨b, o, e, h1, h2, c⟩ := h i hi
  have hs : w.heap.size ≤ ((w.setCell ⟨g, 0, none⟩ v).setCell ⟨g, 1, none⟩ v').heap.size := (((Below.refl 0 w).setCell (p := ⟨g, 0, none⟩) (Nat.zero_le _) v).setCell (p := ⟨g, 1, none⟩) (Nat.zero_le _) v').size
  have hne : g ≠ b := by omega
  exact ⟨b, o, e, Nat.lt_of_lt_of_le h1 hs, h2, (cso (.inl hne)).trans ((cso (.inl hne)).trans c)⟩
theorem IntsA.drew {G : Nat} {w : World} {a : Option Addr} {ws : List Int} (h : IntsA G w a ws) : IntsA G w.drew a ws := h
theorem IntsA.down {G G' : Nat} {w : World} {a : Option Addr} {ws : List Int} (h : IntsA G w a ws) (hg : G' ≤ G) : IntsA G' w a ws := by
  intro i hi
  obtain ⟨b, o, e, h1, h2, c⟩ := h i hi
  exact ⟨b, o, e, h1, Nat.le_trans hg h2, c⟩
/-- Ways in memory, their numbers from a block on. -/
def WaysA (G : Nat) (w : World) (a : Option Addr) (ls : List (List Int)) : Prop :=
  ∀ i (h : i < ls.length), ∃ b o a' c', a = some ⟨b, o, none⟩ ∧ b < w.heap.size ∧ w.cell? ⟨b, o + i, none⟩ = some (.slice a' ls[i].length c') ∧ ls[i].length ≤ c' ∧ IntsA G w a' ls[i]
theorem ways_above {G : Nat} {w : World} {a : Option Addr} {ls : List (List Int)} (h : ∀ g, (∀ k, g = some k → k < G) → WaysN g w a ls) : WaysA G w a ls := by
  intro i hi
  obtain ⟨b, o, a', c', e, h1, _, c, h3, h4, _⟩ := h none (fun _ q => by cases q) i hi
  refine ⟨b, o, a', c', e, h1, c, h3, fun j hj => ?_⟩
  obtain ⟨b', o', e', g1, _, c2⟩ := h4 j hj
  refine ⟨b', o', e', g1, ?_, c2⟩
  apply Nat.le_of_not_lt
  intro hlt
  obtain ⟨b2, o2, a2, c2', e2, _, _, cc, _, h42, _⟩ := h (some b') (fun k q => by cases q; exact hlt) i hi
  rw [e] at e2
  simp only [Option.some.injEq, Addr.mk.injEq, and_true] at e2
  obtain ⟨rfl, rfl⟩ := e2
  rw [c] at cc
  simp only [Option.some.injEq, Value.slice.injEq, true_and] at cc
  obtain ⟨b3, o3, e3, _, n3, _⟩ := h42 j hj
  rw [← cc.1, e'] at e3
  simp only [Option.some.injEq, Addr.mk.injEq, and_true] at e3
  exact n3 (by rw [e3.1])
/-- The best of the first so many ways, in BestOf's letters. -/
def BOk (g : Nat) (t : Tr) (wd k b : Nat) (tx wy : Value) (w : World) : Prop :=
  (k = 0 ∧ tx = .string ⟨#[]⟩ ∧ wy = .slice none 0 0 ∧ Bx w b 0 0) ∨ (∃ u wa wc, fm ((t.ways.take k).map fun u => (t.cst wd u, u)) = some (t.cst wd u, u) ∧ tx = .string (shS (t.show u)) ∧ wy = .slice wa u.length wc ∧ IntsA (g + 1) w wa u ∧ Bx w b (t.cst wd u).1 (t.cst wd u).2)
set_option maxRecDepth 100000 in
set_option maxHeartbeats 2000000 in
/-- AllOf's ways lie out of what was there. -/
theorem allOf_far (t : Tr) (ht : t.Wf) (ds : List Nd) (hd : ds = t.nodes) (hl : ds.length ≤ 400) (a : Option Addr) (cap : Nat) (w : World) (hN : Nods w a ds) :
    Calls Tryd.prog 31 #[.slice a ds.length cap] w fun e w' => ((t.ways.length ≤ 300 ∧ ∃ a' c', e = .returned (.tuple #[.slice a' t.ways.length c', .bool true]) ∧ WaysA w.heap.size w' a' t.ways) ∨ (300 < t.ways.length ∧ e = .returned (.tuple #[.slice none 0 0, .bool false]))) ∧ Below w.heap.size w w' := by
  have ha : ∀ O : Obj, Below w.heap.size w (w.alloc O) := fun O => (Below.refl _ w).alloc (Nat.le_refl _) O
  have HT : Hid (Calls Tryd.prog 50 #[.slice a ds.length cap, .int .i64 0, .slice (some ⟨w.heap.size, 0, none⟩) 1 1, .int .i64 300] (w.alloc (.cells #[.slice none 0 0] 60)) fun e w' => ∃ a' c', e = .returned (.slice a' (t.tl [[]]).length c') ∧ WaysA w.heap.size w' a' (t.tl [[]]) ∧ Below w.heap.size w w') := by
    have hW : ∀ g', (∀ k, g' = some k → k < w.heap.size) → WaysN g' (w.alloc (.cells #[.slice none 0 0] 60)) (some ⟨w.heap.size, 0, none⟩) [[]] := by
      intro g' hg' i hi
      obtain rfl : i = 0 := by simp at hi; omega
      exact ⟨w.heap.size, 0, none, 0, rfl, by simp, fun q => by have := hg' _ q.symm; omega, by simp [go_sem], by simp, fun j hj => by simp at hj, fun _ => ⟨rfl, rfl⟩⟩
    refine (tails_any ds a cap hl t ht (by rw [← hd]; exact hl) 0 [] [[]] (some ⟨w.heap.size, 0, none⟩) 1 0 _ (by rw [← hd]; simp) (hN.below (ha _)) (hW none (fun _ h => by cases h)) (by simp) (by simp) (by simp) (by rw [← hd]; omega)).mono ?_
    rintro e w' ⟨a', c', rfl, _, h3, h4⟩
    exact ⟨a', c', rfl, ways_above fun g hg => h3 g (fun k q => by have := hg k q; simp; omega) (hW g hg), (ha _).trans (h4.mono (by simp))⟩
  have hall := tl_all t
  generalize hL : t.tl [[]] = L at HT hall
  clear hL hd hN ha
  rcases hall with ⟨h1, h2⟩ | ⟨h1, h2⟩
  · subst h2
    have h1' : ¬ (300 : Int) < (t.ways.length : Int) := by omega
    have H1 : Hid (t.ways.length ≤ 300) := h1
    go_enter Tryd.func31, Tryd.ntmps31
    go_wp2_with fail
    refine HT.out.mono ?_
    rintro e w2 ⟨a2, c2, rfl, h3, h4⟩
    have H3 : Hid (WaysA w.heap.size w2 a2 t.ways) := h3
    clear h3
    go_wp2
    go_ret2
    exact ⟨.inl ⟨H1.out, _, _, rfl, H3.out⟩, h4⟩
  · have h2' : (300 : Int) < (L.length : Int) := by omega
    have H1 : Hid (300 < t.ways.length) := h1
    clear h1
    go_enter Tryd.func31, Tryd.ntmps31
    go_wp2_with fail
    refine HT.out.mono ?_
    rintro e w2 ⟨a2, c2, rfl, h3, h4⟩
    clear h3
    go_wp2
    go_ret2
    exact ⟨.inr ⟨H1.out, rfl⟩, h4⟩
/-- What BestOf hands back. -/
def BOR (t : Tr) (wd : Nat) (w : World) (e : Ending) (w' : World) : Prop :=
  ((t.ways.length ≤ 300 ∧ ∃ u wa wc, t.best wd = some (t.cst wd u, u) ∧ e = .returned (.tuple #[.string (shS (t.show u)), .slice wa u.length wc, .agg #[.int .i64 (t.cst wd u).1, .int .i64 (t.cst wd u).2], .bool true]) ∧ IntsA w.heap.size w' wa u) ∨ (300 < t.ways.length ∧ e = .returned (.tuple #[.string ⟨#[]⟩, .slice none 0 0, .agg #[.int .i64 0, .int .i64 0], .bool false]))) ∧ Below w.heap.size w w'
theorem way_cost {t : Tr} (ht : t.Wf) {ds : List Nd} (hd : ds = t.nodes) (hl : ds.length ≤ 400) (wd : Nat) {u : List Int} (hu : u ∈ t.ways) :
    shE (t.show u) = 0 ∧ u.length ≤ 400 ∧ ∀ W : World, Calls Tryd.prog 15 #[.string (shS (t.show u)), .int .i64 wd] W fun e w' => e = .returned (.agg #[.int .i64 (t.cst wd u).1, .int .i64 (t.cst wd u).2]) ∧ Below W.heap.size W w' := by
  obtain ⟨s, hs⟩ := (show_ways t u).2 hu
  have hD : showD ds u = .ok s := by rw [showD_tree ht hd hl, hs]
  obtain ⟨h1, h2⟩ := showD_len hD
  have hx : t.txt u = s := by rw [Tr.txt, hs]
  refine ⟨by rw [hs]; rfl, h2, fun W => ?_⟩
  have e4 : (shS (t.show u)).data.toList = s := by rw [hs]; simp [shS]
  have := rcost_any (shS (t.show u)) wd W (by rw [Lib.size_eq, e4]; omega)
  rw [e4, col_stL] at this
  rw [Tr.cst, hx]
  exact this

set_option maxRecDepth 100000 in
set_option maxHeartbeats 2000000 in
theorem bestOf_any (t : Tr) (ht : t.Wf) (ds : List Nd) (hd : ds = t.nodes) (hl : ds.length ≤ 400) (wd : Nat) (a : Option Addr) (cap : Nat) (w : World) (hN : Nods w a ds) :
    Calls Tryd.prog 34 #[.slice a ds.length cap, .int .i64 wd] w fun e w' => BOR t wd w e w' := by
  have HN : Hid (Nods w a ds) := hN
  have HO : Hid (∀ (W : World), Nods W a ds → Calls Tryd.prog 31 #[.slice a ds.length cap] W _) := fun W h1 => allOf_far t ht ds hd hl a cap W h1
  have HV : Hid (∀ k (h : k < t.ways.length), (∀ (W : World) wa c', t.ways[k].length ≤ c' → Nods W a ds → Ints W wa t.ways[k] → Calls Tryd.prog 30 #[.slice a ds.length cap, .slice wa t.ways[k].length c'] W fun e w' => e = .returned (.tuple #[.string (shS (t.show t.ways[k])), .int .i64 0]) ∧ Below W.heap.size W w')
      ∧ ∀ W : World, Calls Tryd.prog 15 #[.string (shS (t.show t.ways[k])), .int .i64 wd] W fun e w' => e = .returned (.agg #[.int .i64 (t.cst wd t.ways[k]).1, .int .i64 (t.cst wd t.ways[k]).2]) ∧ Below W.heap.size W w') := fun k h => by
    obtain ⟨h1, h2, h3⟩ := way_cost ht hd hl wd (List.getElem_mem h)
    refine ⟨fun W wa c' k1 k2 k3 => ?_, h3⟩
    have := showOf_any t ht ds hd hl a wa cap c' t.ways[k] k1 (by omega) W k2 k3
    rw [h1] at this
    exact this
  have HNE : Hid (0 < t.ways.length) := by
    obtain ⟨b, hb⟩ := best_some t wd
    exact List.length_pos_of_mem (best_least hb).1
  clear hN ht hd hl
  go_enter Tryd.func34, Tryd.ntmps34
  have hr := Bx.new w 0 0 23
  have hf : RowF (w.alloc (.cells #[.int .i64 0, .int .i64 0] 23)) w.heap.size := ⟨_, _, heap_alloc_new w _⟩
  go_wp2_with fail
  refine (HO.out _ (HN.out.below (belAl (Below.refl _ _) _))).mono ?_
  rintro e w1 ⟨h1, b1⟩
  have B1 : Below w.heap.size w w1 := belowA (Below.refl _ _) (Nat.le_refl _) b1
  have hR1 := hr.below b1
  have hF1 : RowF w1 w.heap.size := hf.kept (b1.block _ (by simp))
  have hlt1 : w.heap.size < w1.heap.size := hF1.lt
  clear hr hf b1
  rcases h1 with ⟨hl1, a1, c1, rfl, hw1⟩ | ⟨hl1, rfl⟩
  · have hw1' : WaysA (w.heap.size + 1) w1 a1 t.ways := by simpa using hw1
    have HW1 : Hid (WaysA (w.heap.size + 1) w1 a1 t.ways) := hw1'
    have HR1 : Hid (Bx w1 w.heap.size 0 0 ∧ RowF w1 w.heap.size) := ⟨hR1, hF1⟩
    have HL1 : Hid (t.ways.length ≤ 300) := hl1
    clear hw1 hw1' hR1 hF1
    have hx1 := Bx.new w1 0 0 23
    have hf1 : RowF (w1.alloc (.cells #[.int .i64 0, .int .i64 0] 23)) w1.heap.size := ⟨_, _, heap_alloc_new w1 _⟩
    go_wp2
    go_loopw [10, 11, 13] (fun tx wy i wr => Below w.heap.size w wr ∧ Below w1.heap.size w1 wr ∧ RowF wr w1.heap.size ∧ ∃ k : Nat, k ≤ t.ways.length ∧ i = .int .i64 k ∧ BOk w.heap.size t wd k w1.heap.size tx wy wr) (fun _ _ i _ => t.ways.length - (intOf i).toNat)
    case atStart => exact ⟨belAl B1 _, (Below.refl _ w1).alloc (Nat.le_refl _) _, hf1, 0, Nat.zero_le _, rfl, .inl ⟨rfl, rfl, rfl, hx1⟩⟩
    case round =>
      clear hx1 hf1
      obtain ⟨hB, hB1, hF, k, hk, rfl, hbo⟩ := hrel
      have HBO : Hid (BOk w.heap.size t wd k w1.heap.size _ _ wr) := hbo
      clear hbo
      by_cases hlt : k < t.ways.length
      · obtain ⟨hS, hC⟩ := HV.out k hlt
        obtain ⟨b0, o0, a', c', ea, hb0, cw, hcw, hIw⟩ := HW1.out k hlt
        subst ea
        have cr : wr.cell? ⟨b0, o0 + k, none⟩ = some (.slice a' t.ways[k].length c') := (hB1.cell (p := ⟨b0, o0 + k, none⟩) hb0).trans cw
        have HI : Hid (Ints wr a' t.ways[k]) := hIw.ints.below hB1
        have HI1 : Hid (IntsA (w.heap.size + 1) w1 a' t.ways[k]) := hIw
        have hfm := fm_take (f := fun u => (t.cst wd u, u)) hlt
        clear cw hIw
        generalize t.ways[k] = u at cr hS hC HI HI1 hfm hcw
        generalize hs : shS (t.show u) = s at hS hC
        have HFM : Hid (fm ((t.ways.take (k + 1)).map fun u => (t.cst wd u, u)) = pickO (fm ((t.ways.take k).map fun u => (t.cst wd u, u))) (some (t.cst wd u, u))) := hfm
        clear hfm
        generalize hK : t.cst wd u = K at hC
        have HSK : Hid (shS (t.show u) = s ∧ t.cst wd u = K) := ⟨hs, hK⟩
        have HSC : Hid (∀ (W : World) wa c', u.length ≤ c' → Nods W a ds → Ints W wa u → Calls Tryd.prog 30 #[.slice a ds.length cap, .slice wa u.length c'] W fun e w' => e = .returned (.tuple #[.string s, .int .i64 0]) ∧ Below W.heap.size W w') := hS
        have HCC : Hid (∀ W : World, Calls Tryd.prog 15 #[.string s, .int .i64 wd] W fun e w' => e = .returned (.agg #[.int .i64 K.1, .int .i64 K.2]) ∧ Below W.heap.size W w') := hC
        have hi : (k : Int) < (t.ways.length : Int) := by omega
        have HF : Hid (RowF wr w1.heap.size) := hF
        have hb0r : b0 < wr.heap.size := Nat.lt_of_lt_of_le hb0 hB1.size
        clear hs hK hS hC hF
        rcases HBO.out with ⟨hk0, rfl, rfl, hx⟩ | ⟨u0, wa, wc, hf0, rfl, rfl, hI0, hx⟩
        · have HK0 : Hid (k = 0) := hk0
          have hki : ((k : Int) == 0) = true := by simp [hk0]
          have HX : Hid (Bx wr w1.heap.size 0 0) := hx
          clear hx HBO hk0
          go_wp2_with fail
          refine (HSC.out _ _ _ hcw (HN.out.below hB) HI.out).mono ?_
          rintro e w2 ⟨rfl, b2⟩
          have H2 : Hid (Below wr.heap.size wr w2) := b2
          clear b2
          go_wp2_with fail
          refine (HCC.out _).mono ?_
          rintro e w3 ⟨rfl, b3⟩
          have h3 := belowT H2.out (Nat.le_refl _) b3
          have h4 : Below wr.heap.size wr (w3.alloc (.cells #[.int .i64 K.1, .int .i64 K.2] 23)) := belAl h3 _
          have hF4 : RowF (w3.alloc (.cells #[.int .i64 K.1, .int .i64 K.2] 23)) w1.heap.size := HF.out.kept (h4.block _ HF.out.lt)
          have hlt3 : w1.heap.size < w3.heap.size := Nat.lt_of_lt_of_le HF.out.lt h3.size
          have hX4 := HX.out.below h4
          have hE4 := Bx.new w3 K.1 K.2 23
          have HIb : Hid (Below wr.heap.size wr (w3.alloc (.cells #[.int .i64 K.1, .int .i64 K.2] 23))) := h4
          clear b3 h3 H2
          obtain ⟨y0, y1⟩ := hX4
          obtain ⟨e0, e1⟩ := hE4
          have f0 : (w3.alloc (.cells #[.int .i64 K.1, .int .i64 K.2] 23)).frozen? ⟨w1.heap.size, 0, none⟩ = false := hF4.frozen
          have f1 : (w3.alloc (.cells #[.int .i64 K.1, .int .i64 K.2] 23)).frozen? ⟨w1.heap.size, 1, none⟩ = false := hF4.frozen
          have d4 : (w3.alloc (.cells #[.int .i64 K.1, .int .i64 K.2] 23)).cell? ⟨b0, o0 + k, none⟩ = some (.slice a' u.length c') := (h4.cell (p := ⟨b0, o0 + k, none⟩) hb0r).trans cr
          have HF4 : Hid (RowF (w3.alloc (.cells #[.int .i64 K.1, .int .i64 K.2] 23)) w1.heap.size) := hF4
          have hne3 : w3.heap.size ≠ w1.heap.size := Nat.ne_of_gt hlt3
          clear h4 hF4 cr
          go_upto_region 12 with fail
          generalize w3.alloc (.cells #[.int .i64 K.1, .int .i64 K.2] 23) = w4 at *
          go_wp2
          go_roundw
          case rel =>
            refine ⟨((hB.trans (HIb.out.mono hB.size)).setCell (p := ⟨w1.heap.size, 0, none⟩) (Nat.le_of_lt hlt1) _).setCell (p := ⟨w1.heap.size, 1, none⟩) (Nat.le_of_lt hlt1) _, ((hB1.trans (HIb.out.mono hB1.size)).setCell (p := ⟨w1.heap.size, 0, none⟩) (Nat.le_refl _) _).setCell (p := ⟨w1.heap.size, 1, none⟩) (Nat.le_refl _) _, HF4.out.set.set, k + 1, by omega, by go_num, .inr ⟨u, a', c', ?_, by rw [HSK.out.1], rfl, ?_, ?_⟩⟩
            · rw [HFM.out, HK0.out]; rfl
            · exact HI1.out.below (((hB1.trans (HIb.out.mono hB1.size)).setCell (p := ⟨w1.heap.size, 0, none⟩) (Nat.le_refl _) _).setCell (p := ⟨w1.heap.size, 1, none⟩) (Nat.le_refl _) _)
            · rw [HSK.out.2]; exact ⟨(cso (.inr (by omega))).trans (css y0), css ((cso (.inr (by omega))).trans y1)⟩
          case measure => simp [intOf]; omega
        · have hk0 : k ≠ 0 := by rintro rfl; simp [fm] at hf0
          have hki : ((k : Int) == 0) = false := by simp [hk0]
          have HF0 : Hid (fm ((t.ways.take k).map fun u => (t.cst wd u, u)) = some (t.cst wd u0, u0)) := hf0
          have HI0 : Hid (IntsA (w.heap.size + 1) wr wa u0) := hI0
          generalize hs0 : shS (t.show u0) = s0
          generalize hK0 : t.cst wd u0 = K0 at hx
          have HSK0 : Hid (shS (t.show u0) = s0 ∧ t.cst wd u0 = K0) := ⟨hs0, hK0⟩
          have HX : Hid (Bx wr w1.heap.size K0.1 K0.2) := hx
          clear hx HBO hf0 hI0 hs0 hK0 hk0
          cases hls : decide (lessC K K0)
          all_goals
            have HLS := (show Hid (decide (lessC K K0) = _) from hls)
            have HLE : Hid (∀ W, Calls Tryd.prog 11 #[.agg #[.int .i64 (K.1 : Int), .int .i64 (K.2 : Int)], .agg #[.int .i64 (K0.1 : Int), .int .i64 (K0.2 : Int)]] W fun e w' => e = .returned (.bool _) ∧ Below W.heap.size W w') := fun W => by
              have := rless_nat K K0 W
              rw [hls] at this
              exact this
            clear hls
            go_wp2_with fail
            refine (HSC.out _ _ _ hcw (HN.out.below hB) HI.out).mono ?_
            rintro e w2 ⟨rfl, b2⟩
            have H2 : Hid (Below wr.heap.size wr w2) := b2
            clear b2
            go_wp2_with fail
            refine (HCC.out _).mono ?_
            rintro e w3 ⟨rfl, b3⟩
            have h3 := belowT H2.out (Nat.le_refl _) b3
            have h4 : Below wr.heap.size wr (w3.alloc (.cells #[.int .i64 K.1, .int .i64 K.2] 23)) := belAl h3 _
            have hF4 : RowF (w3.alloc (.cells #[.int .i64 K.1, .int .i64 K.2] 23)) w1.heap.size := HF.out.kept (h4.block _ HF.out.lt)
            have hlt3 : w1.heap.size < w3.heap.size := Nat.lt_of_lt_of_le HF.out.lt h3.size
            have hX4 := HX.out.below h4
            have hE4 := Bx.new w3 K.1 K.2 23
            have HIb : Hid (Below wr.heap.size wr (w3.alloc (.cells #[.int .i64 K.1, .int .i64 K.2] 23))) := h4
            clear b3 h3 H2
            obtain ⟨x0, x1⟩ := hX4
            obtain ⟨e0, e1⟩ := hE4
            go_wp2_with fail
            refine (HLE.out _).mono ?_
            rintro e w5 ⟨rfl, b5⟩
            have h5 := belowT HIb.out (Nat.le_refl _) b5
            have hX5 := HX.out.below h5
            have hE5 := (Bx.new w3 K.1 K.2 23).below b5
            have hF5 : RowF w5 w1.heap.size := HF.out.kept (h5.block _ HF.out.lt)
            have d5 : w5.cell? ⟨b0, o0 + k, none⟩ = some (.slice a' u.length c') := (h5.cell (p := ⟨b0, o0 + k, none⟩) hb0r).trans cr
            obtain ⟨y0, y1⟩ := hX5
            obtain ⟨g0, g1⟩ := hE5
            have f0 : w5.frozen? ⟨w1.heap.size, 0, none⟩ = false := hF5.frozen
            have f1 : w5.frozen? ⟨w1.heap.size, 1, none⟩ = false := hF5.frozen
            have hne3 : w3.heap.size ≠ w1.heap.size := Nat.ne_of_gt hlt3
            have H5 : Hid (Below wr.heap.size wr w5 ∧ RowF w5 w1.heap.size) := ⟨h5, hF5⟩
            clear h4 hF4 cr x0 x1 e0 e1 b5 h5 hF5 HIb
            go_wp2
            go_roundw
          · case rel =>
              refine ⟨hB.trans (H5.out.1.mono hB.size), hB1.trans (H5.out.1.mono hB1.size), H5.out.2, k + 1, by omega, by go_num, .inr ⟨u0, wa, wc, ?_, by rw [HSK0.out.1], rfl, HI0.out.below H5.out.1, by rw [HSK0.out.2]; exact ⟨y0, y1⟩⟩⟩
              rw [HFM.out, HF0.out]
              show some (pick _ _) = _
              rw [pick, if_neg (by rw [HSK.out.2, HSK0.out.2]; exact of_decide_eq_false HLS.out)]
          · case measure => simp [intOf]; omega
          · case rel =>
              refine ⟨((hB.trans (H5.out.1.mono hB.size)).setCell (p := ⟨w1.heap.size, 0, none⟩) (Nat.le_of_lt hlt1) _).setCell (p := ⟨w1.heap.size, 1, none⟩) (Nat.le_of_lt hlt1) _, ((hB1.trans (H5.out.1.mono hB1.size)).setCell (p := ⟨w1.heap.size, 0, none⟩) (Nat.le_refl _) _).setCell (p := ⟨w1.heap.size, 1, none⟩) (Nat.le_refl _) _, H5.out.2.set.set, k + 1, by omega, by go_num, .inr ⟨u, a', c', ?_, by rw [HSK.out.1], rfl, ?_, ?_⟩⟩
              · rw [HFM.out, HF0.out]
                show some (pick _ _) = _
                rw [pick, if_pos (by rw [HSK.out.2, HSK0.out.2]; exact of_decide_eq_true HLS.out)]
              · exact HI1.out.below (((hB1.trans (H5.out.1.mono hB1.size)).setCell (p := ⟨w1.heap.size, 0, none⟩) (Nat.le_refl _) _).setCell (p := ⟨w1.heap.size, 1, none⟩) (Nat.le_refl _) _)
              · rw [HSK.out.2]; exact ⟨(cso (.inr (by omega))).trans (css y0), css ((cso (.inr (by omega))).trans y1)⟩
          · case measure => simp [intOf]; omega
      · have hkn : k = t.ways.length := by omega
        subst hkn
        have hB1' : Hid (Below w1.heap.size w1 wr) := hB1
        have hr := HR1.out.1.below hB1
        have hFr : RowF wr w.heap.size := HR1.out.2.kept (hB1.block _ hlt1)
        have r0 : wr.drew.cell? ⟨w.heap.size, 0, none⟩ = some (.int .i64 0) := hr.1
        have r1 : wr.drew.cell? ⟨w.heap.size, 1, none⟩ = some (.int .i64 0) := hr.2
        have f0 : wr.drew.frozen? ⟨w.heap.size, 0, none⟩ = false := hFr.frozen
        have f1 : wr.drew.frozen? ⟨w.heap.size, 1, none⟩ = false := hFr.frozen
        have r0' : wr.cell? ⟨w.heap.size, 0, none⟩ = some (.int .i64 0) := hr.1
        have r1' : wr.cell? ⟨w.heap.size, 1, none⟩ = some (.int .i64 0) := hr.2
        have f0' : wr.frozen? ⟨w.heap.size, 0, none⟩ = false := hFr.frozen
        have f1' : wr.frozen? ⟨w.heap.size, 1, none⟩ = false := hFr.frozen
        have hne : w.heap.size ≠ w1.heap.size := Nat.ne_of_lt hlt1
        clear hFr hB1 hF hr
        rcases HBO.out with ⟨hk0, _⟩ | ⟨u0, wa, wc, hf0, rfl, rfl, hI0, hx⟩
        · exact absurd hk0 (Nat.ne_of_gt HNE.out)
        · have HU : Hid (t.best wd = some (t.cst wd u0, u0)) := by rw [List.take_length] at hf0; exact hf0
          have HI0 : Hid (IntsA (w.heap.size + 1) wr wa u0) := hI0
          clear hf0 hI0 HBO
          generalize hs : shS (t.show u0) = s
          generalize hK : t.cst wd u0 = K at hx
          have HSK : Hid (shS (t.show u0) = s ∧ t.cst wd u0 = K) := ⟨hs, hK⟩
          have x0 : wr.drew.cell? ⟨w1.heap.size, 0, none⟩ = some (.int .i64 K.1) := hx.1
          have x1 : wr.drew.cell? ⟨w1.heap.size, 1, none⟩ = some (.int .i64 K.2) := hx.2
          have p0 : ((wr.setCell ⟨w.heap.size, 0, none⟩ (.int .i64 K.1)).setCell ⟨w.heap.size, 1, none⟩ (.int .i64 K.2)).drew.cell? ⟨w1.heap.size, 0, none⟩ = some (.int .i64 K.1) := (cso (.inl hne)).trans ((cso (.inl hne)).trans hx.1)
          have p1 : ((wr.setCell ⟨w.heap.size, 0, none⟩ (.int .i64 K.1)).setCell ⟨w.heap.size, 1, none⟩ (.int .i64 K.2)).drew.cell? ⟨w1.heap.size, 1, none⟩ = some (.int .i64 K.2) := (cso (.inl hne)).trans ((cso (.inl hne)).trans hx.2)
          have HB9 : Hid (Below w.heap.size w ((wr.setCell ⟨w.heap.size, 0, none⟩ (.int .i64 K.1)).setCell ⟨w.heap.size, 1, none⟩ (.int .i64 K.2)).drew) := ((hB.setCell (p := ⟨w.heap.size, 0, none⟩) (Nat.le_refl _) _).setCell (p := ⟨w.heap.size, 1, none⟩) (Nat.le_refl _) _).drew
          have HI9 : Hid (IntsA w.heap.size ((wr.setCell ⟨w.heap.size, 0, none⟩ (.int .i64 K.1)).setCell ⟨w.heap.size, 1, none⟩ (.int .i64 K.2)).drew wa u0) := ((HI0.out.far2 (Nat.lt_succ_self _)).drew).down (Nat.le_succ _)
          clear hs hK hx
          go_wp2_with fail
          go_region_held3 (fun w' => w'.cell? ⟨w1.heap.size, 0, none⟩ = some (.int .i64 K.1) ∧ w'.cell? ⟨w1.heap.size, 1, none⟩ = some (.int .i64 K.2))
            (first | with_reducible exact ⟨x0, x1⟩ | with_reducible exact ⟨p0, p1⟩) (fail)
          all_goals
            go_wp2
            refine bodyPost_ret (v := .tuple #[.string s, .slice wa u0.length wc, .agg #[.int .i64 K.1, .int .i64 K.2], .bool true]) (by simp [results, Tryd.results34, go_sem, r0', r1']) rfl ?_
            refine ⟨.inl ⟨HL1.out, u0, wa, wc, HU.out, by rw [HSK.out.1, HSK.out.2], ?_⟩, HB9.out⟩
            exact HI9.out
  · have HL1 : Hid (300 < t.ways.length) := hl1
    obtain ⟨r0, r1⟩ := hR1
    have f0 : w1.frozen? ⟨w.heap.size, 0, none⟩ = false := hF1.frozen
    have f1 : w1.frozen? ⟨w.heap.size, 1, none⟩ = false := hF1.frozen
    clear hF1
    go_wp2
    exact bodyPost_ret (v := .tuple #[.string ⟨#[]⟩, .slice none 0 0, .agg #[.int .i64 0, .int .i64 0], .bool false]) (by simp [results, Tryd.results34, go_sem, r0, r1]) rfl ⟨.inr ⟨HL1.out, rfl⟩, (B1.setCell (p := ⟨w.heap.size, 0, none⟩) (Nat.le_refl _) _).setCell (p := ⟨w.heap.size, 1, none⟩) (Nat.le_refl _) _⟩
end Go.Proofs.YtfabfclbnekleaaDoor
namespace Go.Proofs.YtfabfclbnekleaaDoor
open Go Go.RowKit

/-- BestOf, against Best. -/
theorem bestOf_x (ds : List Nd) (n : Nat) (a : Option Addr) (cap : Nat) (w : World) (hN : Nods w a ds) (h : bE ds n = 0) :
    Calls Tryd.prog 34 #[.slice a ds.length cap, .int .i64 n] w fun e w' => ((∃ wa wc, e = .returned (.tuple #[.string (bT ds n), .slice wa (bA ds n).2.length wc, .agg #[.int .i64 (bA ds n).1.1, .int .i64 (bA ds n).1.2], .bool true]) ∧ IntsA w.heap.size w' wa (bA ds n).2)
      ∨ e = .returned (.tuple #[.string ⟨#[]⟩, .slice none 0 0, .agg #[.int .i64 0, .int .i64 0], .bool false])) ∧ Below w.heap.size w w' := by
  have e1 : bT ds n = shS (showD ds (bA ds n).2) := by rw [bT, if_pos h]
  obtain ⟨t, n', ht, hd, hl, hn, _, _, hb⟩ := bA_of h
  obtain rfl : n = n' := by omega
  refine (bestOf_any t ht ds hd hl n a cap w hN).mono ?_
  rintro e w' ⟨h1, h2⟩
  refine ⟨?_, h2⟩
  rcases h1 with ⟨_, u, wa, wc, k1, k2, k3⟩ | ⟨_, k⟩
  · have k4 : bA ds n = (t.cst n u, u) := Option.some.inj (hb.symm.trans k1)
    refine .inl ⟨wa, wc, ?_, ?_⟩
    · rw [k2, e1, k4, showD_tree ht hd hl]
    · rw [k4]; exact k3
  · exact .inr k

set_option maxRecDepth 100000 in
set_option maxHeartbeats 1200000 in
theorem bestIs_a (ds : List Nd) (a : Option Addr) (cap : Nat) (hc : ds.length ≤ cap) (wd : Int) (w : World) (hN : Nods w a ds) (hg : Hnd w) (h1 : bE ds wd ≠ 0) (h0 : docF ds ≠ 0) :
    Calls Tryd.prog 9 #[.slice a ds.length cap, .int .i64 wd] w fun e w' => e = .returned (.bool true) ∧ Below w.heap.size w w' := by
  have HN : Hid (Nods w a ds) := hN
  have HH : Hid (Hnd w) := hg
  have hE : bE ds wd = docF ds := by rw [bE, if_neg h0]
  have h0' := h0
  have HF : Hid (Calls Tryd.prog 17 #[.slice a ds.length cap] w fun e w' => e = .returned (.int .i64 (docF ds)) ∧ Below w.heap.size w w') := rfault_any ds a cap w hN
  have HB1 : Hid (∀ W, Nods W a ds → Calls Tryd.prog 35 #[.slice a ds.length cap, .int .i64 wd] W fun e w' => (∃ wa wc, e = .returned (.tuple #[.string ⟨#[]⟩, .slice wa 0 wc, .agg #[.int .i64 0, .int .i64 0], .iface 24 (.int .i64 (docF ds))])) ∧ Below W.heap.size W w') := fun W hW => by
    refine (best_x ds wd a cap hc W hW).mono ?_
    rintro e w' ⟨⟨wa, wc, rfl, _⟩, hb⟩
    rw [bT, if_neg h1, bA_bad h1, hE, errN_ne h0']
    exact ⟨⟨wa, wc, rfl⟩, hb⟩
  have HSE : Hid (∀ W, Hnd W → Calls Tryd.prog 13 #[.iface 24 (.int .i64 (docF ds)), .int .i64 (docF ds)] W fun e w' => e = .returned (.bool true) ∧ Below W.heap.size W w') := fun W hW => by
    have := serr_same (docF ds) W hW
    rw [errN_ne h0'] at this
    exact this
  have HSI : Hid (∀ (W : World) (wa : Option Addr) (wc : Nat), Calls Tryd.prog 36 #[.slice wa 0 wc, .slice none 0 0] W fun e w' => e = .returned (.bool true) ∧ ∃ q, w' = W.drewN q) := fun W wa wc => by
    have := sints_any [] [] wa none wc 0 W (fun i hi => by simp at hi) (fun i hi => by simp at hi) (by simp)
    rw [decide_eq_true rfl] at this
    exact this
  clear hN hg
  have hd0 : (docF ds == 0) = false := by simp [h0]
  clear hE h1
  generalize docF ds = df at *
  go_enter Tryd.func9, Tryd.ntmps9
  go_wp2_with fail
  refine HF.out.mono ?_
  rintro e w1 ⟨rfl, B1⟩
  have hx1 := Bx.new w1 0 0 23
  go_wp2_with fail
  refine (HB1.out _ (HN.out.below (belAl B1 _))).mono ?_
  rintro e w2 ⟨⟨a2, c2, rfl⟩, b2⟩
  have B2 : Below w.heap.size w w2 := belowA B1 (Nat.le_refl _) b2
  have HX2 : Hid (Bx w2 w1.heap.size 0 0) := hx1.below b2
  clear hx1 b2 B1
  go_wp2_with fail
  refine (HSE.out _ (HH.out.below (belAl B2 _))).mono ?_
  rintro e w3 ⟨rfl, b3⟩
  have B3 : Below w.heap.size w w3 := belowA B2 (Nat.le_refl _) b3
  have hX3 := (HX2.out.alloc (.cells #[.int .i64 0, .int .i64 0] 23)).below b3
  have hY3 := (Bx.new w2 0 0 23).below b3
  have HX3 : Hid (Bx w3 w1.heap.size 0 0 ∧ Bx w3 w2.heap.size 0 0) := ⟨hX3, hY3⟩
  clear hX3 hY3 b3 B2 HX2
  go_wp2_with fail
  refine (HSI.out _ _ _).mono ?_
  rintro e w4 ⟨rfl, q, rfl⟩
  obtain ⟨⟨x0, x1⟩, y0, y1⟩ := HX3.out
  go_wp2
  go_ret
  exact ⟨rfl, belowQ B3 q⟩

set_option maxRecDepth 100000 in
set_option maxHeartbeats 1200000 in
theorem bestIs_b (ds : List Nd) (a : Option Addr) (cap : Nat) (hc : ds.length ≤ cap) (wd : Int) (w : World) (hN : Nods w a ds) (hg : Hnd w) (h1 : bE ds wd ≠ 0) (h0 : docF ds = 0) (hw : wd < 0) :
    Calls Tryd.prog 9 #[.slice a ds.length cap, .int .i64 wd] w fun e w' => e = .returned (.bool true) ∧ Below w.heap.size w w' := by
  have HN : Hid (Nods w a ds) := hN
  have HH : Hid (Hnd w) := hg
  have hE : bE ds wd = 1 := by rw [bE, if_pos h0, if_pos (by omega)]
  have h0' : (1 : Int) ≠ 0 := by decide
  have HF : Hid (Calls Tryd.prog 17 #[.slice a ds.length cap] w fun e w' => e = .returned (.int .i64 0) ∧ Below w.heap.size w w') := by
    have := rfault_any ds a cap w hN
    rw [h0] at this
    exact this
  have HB1 : Hid (∀ W, Nods W a ds → Calls Tryd.prog 35 #[.slice a ds.length cap, .int .i64 wd] W fun e w' => (∃ wa wc, e = .returned (.tuple #[.string ⟨#[]⟩, .slice wa 0 wc, .agg #[.int .i64 0, .int .i64 0], .iface 24 (.int .i64 1)])) ∧ Below W.heap.size W w') := fun W hW => by
    refine (best_x ds wd a cap hc W hW).mono ?_
    rintro e w' ⟨⟨wa, wc, rfl, _⟩, hb⟩
    rw [bT, if_neg h1, bA_bad h1, hE, errN_ne h0']
    exact ⟨⟨wa, wc, rfl⟩, hb⟩
  have HSE : Hid (∀ W, Hnd W → Calls Tryd.prog 13 #[.iface 24 (.int .i64 1), .int .i64 1] W fun e w' => e = .returned (.bool true) ∧ Below W.heap.size W w') := fun W hW => by
    have := serr_same 1 W hW
    rw [errN_ne h0'] at this
    exact this
  have HSI : Hid (∀ (W : World) (wa : Option Addr) (wc : Nat), Calls Tryd.prog 36 #[.slice wa 0 wc, .slice none 0 0] W fun e w' => e = .returned (.bool true) ∧ ∃ q, w' = W.drewN q) := fun W wa wc => by
    have := sints_any [] [] wa none wc 0 W (fun i hi => by simp at hi) (fun i hi => by simp at hi) (by simp)
    rw [decide_eq_true rfl] at this
    exact this
  clear hN hg
  clear hE h1 h0 h0'
  go_enter Tryd.func9, Tryd.ntmps9
  go_wp2_with fail
  refine HF.out.mono ?_
  rintro e w1 ⟨rfl, B1⟩
  have hx1 := Bx.new w1 0 0 23
  go_wp2_with fail
  refine (HB1.out _ (HN.out.below (belAl B1 _))).mono ?_
  rintro e w2 ⟨⟨a2, c2, rfl⟩, b2⟩
  have B2 : Below w.heap.size w w2 := belowA B1 (Nat.le_refl _) b2
  have HX2 : Hid (Bx w2 w1.heap.size 0 0) := hx1.below b2
  clear hx1 b2 B1
  go_wp2_with fail
  refine (HSE.out _ (HH.out.below (belAl B2 _))).mono ?_
  rintro e w3 ⟨rfl, b3⟩
  have B3 : Below w.heap.size w w3 := belowA B2 (Nat.le_refl _) b3
  have hX3 := (HX2.out.alloc (.cells #[.int .i64 0, .int .i64 0] 23)).below b3
  have hY3 := (Bx.new w2 0 0 23).below b3
  have HX3 : Hid (Bx w3 w1.heap.size 0 0 ∧ Bx w3 w2.heap.size 0 0) := ⟨hX3, hY3⟩
  clear hX3 hY3 b3 B2 HX2
  go_wp2_with fail
  refine (HSI.out _ _ _).mono ?_
  rintro e w4 ⟨rfl, q, rfl⟩
  obtain ⟨⟨x0, x1⟩, y0, y1⟩ := HX3.out
  go_wp2
  go_ret
  exact ⟨rfl, belowQ B3 q⟩

set_option maxRecDepth 100000 in
set_option maxHeartbeats 1200000 in
theorem bestIs_c (ds : List Nd) (a : Option Addr) (cap : Nat) (hc : ds.length ≤ cap) (wd : Int) (w : World) (hN : Nods w a ds) (hg : Hnd w) (h1 : bE ds wd ≠ 0) (h0 : docF ds = 0) (hw0 : ¬ wd < 0) (hw : 100 < wd) :
    Calls Tryd.prog 9 #[.slice a ds.length cap, .int .i64 wd] w fun e w' => e = .returned (.bool true) ∧ Below w.heap.size w w' := by
  have HN : Hid (Nods w a ds) := hN
  have HH : Hid (Hnd w) := hg
  have hE : bE ds wd = 1 := by rw [bE, if_pos h0, if_pos (by omega)]
  have h0' : (1 : Int) ≠ 0 := by decide
  have HF : Hid (Calls Tryd.prog 17 #[.slice a ds.length cap] w fun e w' => e = .returned (.int .i64 0) ∧ Below w.heap.size w w') := by
    have := rfault_any ds a cap w hN
    rw [h0] at this
    exact this
  have HB1 : Hid (∀ W, Nods W a ds → Calls Tryd.prog 35 #[.slice a ds.length cap, .int .i64 wd] W fun e w' => (∃ wa wc, e = .returned (.tuple #[.string ⟨#[]⟩, .slice wa 0 wc, .agg #[.int .i64 0, .int .i64 0], .iface 24 (.int .i64 1)])) ∧ Below W.heap.size W w') := fun W hW => by
    refine (best_x ds wd a cap hc W hW).mono ?_
    rintro e w' ⟨⟨wa, wc, rfl, _⟩, hb⟩
    rw [bT, if_neg h1, bA_bad h1, hE, errN_ne h0']
    exact ⟨⟨wa, wc, rfl⟩, hb⟩
  have HSE : Hid (∀ W, Hnd W → Calls Tryd.prog 13 #[.iface 24 (.int .i64 1), .int .i64 1] W fun e w' => e = .returned (.bool true) ∧ Below W.heap.size W w') := fun W hW => by
    have := serr_same 1 W hW
    rw [errN_ne h0'] at this
    exact this
  have HSI : Hid (∀ (W : World) (wa : Option Addr) (wc : Nat), Calls Tryd.prog 36 #[.slice wa 0 wc, .slice none 0 0] W fun e w' => e = .returned (.bool true) ∧ ∃ q, w' = W.drewN q) := fun W wa wc => by
    have := sints_any [] [] wa none wc 0 W (fun i hi => by simp at hi) (fun i hi => by simp at hi) (by simp)
    rw [decide_eq_true rfl] at this
    exact this
  clear hN hg
  clear hE h1 h0 h0'
  go_enter Tryd.func9, Tryd.ntmps9
  go_wp2_with fail
  refine HF.out.mono ?_
  rintro e w1 ⟨rfl, B1⟩
  have hx1 := Bx.new w1 0 0 23
  go_wp2_with fail
  refine (HB1.out _ (HN.out.below (belAl B1 _))).mono ?_
  rintro e w2 ⟨⟨a2, c2, rfl⟩, b2⟩
  have B2 : Below w.heap.size w w2 := belowA B1 (Nat.le_refl _) b2
  have HX2 : Hid (Bx w2 w1.heap.size 0 0) := hx1.below b2
  clear hx1 b2 B1
  go_wp2_with fail
  refine (HSE.out _ (HH.out.below (belAl B2 _))).mono ?_
  rintro e w3 ⟨rfl, b3⟩
  have B3 : Below w.heap.size w w3 := belowA B2 (Nat.le_refl _) b3
  have hX3 := (HX2.out.alloc (.cells #[.int .i64 0, .int .i64 0] 23)).below b3
  have hY3 := (Bx.new w2 0 0 23).below b3
  have HX3 : Hid (Bx w3 w1.heap.size 0 0 ∧ Bx w3 w2.heap.size 0 0) := ⟨hX3, hY3⟩
  clear hX3 hY3 b3 B2 HX2
  go_wp2_with fail
  refine (HSI.out _ _ _).mono ?_
  rintro e w4 ⟨rfl, q, rfl⟩
  obtain ⟨⟨x0, x1⟩, y0, y1⟩ := HX3.out
  go_wp2
  go_ret
  exact ⟨rfl, belowQ B3 q⟩

set_option maxRecDepth 100000 in
set_option maxHeartbeats 1200000 in
theorem bestIs_d (ds : List Nd) (a : Option Addr) (cap : Nat) (hc : ds.length ≤ cap) (n : Nat) (hn : n ≤ 100) (w : World) (hN : Nods w a ds) (hg : Hnd w) (h1 : bE ds n = 0) (h0 : docF ds = 0) :
    Calls Tryd.prog 9 #[.slice a ds.length cap, .int .i64 n] w fun e w' => e = .returned (.bool true) ∧ Below w.heap.size w w' := by
  have HN : Hid (Nods w a ds) := hN
  have HH : Hid (Hnd w) := hg
  have HF : Hid (Calls Tryd.prog 17 #[.slice a ds.length cap] w fun e w' => e = .returned (.int .i64 0) ∧ Below w.heap.size w w') := by
    have := rfault_any ds a cap w hN
    rw [h0] at this
    exact this
  have HB1 : Hid (∀ W, Nods W a ds → Calls Tryd.prog 35 #[.slice a ds.length cap, .int .i64 n] W fun e w' => BestX (bT ds n) (bA ds n) .nilIface W e w') := fun W hW => by
    have := best_x ds n a cap hc W hW
    rw [h1, errN_0] at this
    exact this
  have HBO : Hid (∀ W, Nods W a ds → Calls Tryd.prog 34 #[.slice a ds.length cap, .int .i64 n] W fun e w' => ((∃ wa wc, e = .returned (.tuple #[.string (bT ds n), .slice wa (bA ds n).2.length wc, .agg #[.int .i64 (bA ds n).1.1, .int .i64 (bA ds n).1.2], .bool true]) ∧ IntsA W.heap.size w' wa (bA ds n).2)
      ∨ e = .returned (.tuple #[.string ⟨#[]⟩, .slice none 0 0, .agg #[.int .i64 0, .int .i64 0], .bool false])) ∧ Below W.heap.size W w') := fun W hW => bestOf_x ds n a cap W hW h1
  have HSE : Hid (∀ W, Hnd W → Calls Tryd.prog 13 #[.nilIface, .int .i64 0] W fun e w' => e = .returned (.bool true) ∧ Below W.heap.size W w') := fun W hW => by
    have := serr_same 0 W hW
    rw [errN_0] at this
    exact this
  have HSI : Hid (∀ (W : World) (wa wb : Option Addr) (c d : Nat), Ints W wa (bA ds n).2 → Ints W wb (bA ds n).2 → Calls Tryd.prog 36 #[.slice wa (bA ds n).2.length c, .slice wb (bA ds n).2.length d] W fun e w' => e = .returned (.bool true) ∧ ∃ q, w' = W.drewN q) := fun W wa wb c d k1 k2 => by
    have := sints_any (bA ds n).2 (bA ds n).2 wa wb c d W k1 k2 (by have := (bA_le (ds := ds) (wd := n)).2.2; omega)
    rw [decide_eq_true rfl] at this
    exact this
  have hw0 : ¬ (n : Int) < 0 := by omega
  have hw1 : ¬ (100 : Int) < (n : Int) := by omega
  generalize bT ds n = T at *
  generalize bA ds n = A1 at *
  clear hN hg h1 h0
  go_enter Tryd.func9, Tryd.ntmps9
  go_wp2_with fail
  refine HF.out.mono ?_
  rintro e w1 ⟨rfl, B1⟩
  have hx1 := Bx.new w1 0 0 23
  have hr1 : RowF (w1.alloc (.cells #[.int .i64 0, .int .i64 0] 23)) w1.heap.size := ⟨_, _, heap_alloc_new w1 _⟩
  go_wp2_with fail
  refine (HBO.out _ (HN.out.below (belAl B1 _))).mono ?_
  rintro e w2 ⟨h2, b2⟩
  have B2 : Below w.heap.size w w2 := belowA B1 (Nat.le_refl _) b2
  rcases h2 with ⟨a2, c2, rfl, i2⟩ | rfl
  · have hlo : w.heap.size ≤ w1.heap.size := B1.size
    have hlt2 : w1.heap.size < w2.heap.size := by have := b2.size; simp at this; omega
    obtain ⟨y0, y1⟩ := (hx1.below b2).alloc (.cells #[.int .i64 A1.1.1, .int .i64 A1.1.2] 23)
    have hR2 : RowF (w2.alloc (.cells #[.int .i64 A1.1.1, .int .i64 A1.1.2] 23)) w1.heap.size := hr1.kept ((Below.heap_alloc _ _ _ hlt2).trans (b2.block _ (by simp)))
    have f0 : (w2.alloc (.cells #[.int .i64 A1.1.1, .int .i64 A1.1.2] 23)).frozen? ⟨w1.heap.size, 0, none⟩ = false := hR2.frozen
    have f1 : (w2.alloc (.cells #[.int .i64 A1.1.1, .int .i64 A1.1.2] 23)).frozen? ⟨w1.heap.size, 1, none⟩ = false := hR2.frozen
    obtain ⟨z0, z1⟩ := Bx.new w2 A1.1.1 A1.1.2 23
    have B3 := belAl B2 (.cells #[.int .i64 A1.1.1, .int .i64 A1.1.2] 23)
    have i2' : IntsA (w1.heap.size + 1) w2 a2 A1.2 := by simpa using i2
    have HI3 : Hid (IntsA (w1.heap.size + 1) (w2.alloc (.cells #[.int .i64 A1.1.1, .int .i64 A1.1.2] 23)) a2 A1.2) := i2'.below ((Below.refl _ w2).alloc (Nat.le_refl _) _)
    have hne : w2.heap.size ≠ w1.heap.size := by omega
    clear hx1 hr1 b2 B1 B2 hR2 i2 i2'
    go_upto_region 9 with fail
    generalize w2.alloc (.cells #[.int .i64 A1.1.1, .int .i64 A1.1.2] 23) = w3 at *
    have HB4 : Hid (Below w.heap.size w ((w3.setCell ⟨w1.heap.size, 0, none⟩ (.int .i64 A1.1.1)).setCell ⟨w1.heap.size, 1, none⟩ (.int .i64 A1.1.2))) := (B3.setCell (p := ⟨w1.heap.size, 0, none⟩) hlo _).setCell (p := ⟨w1.heap.size, 1, none⟩) hlo _
    have HX4 : Hid (Bx ((w3.setCell ⟨w1.heap.size, 0, none⟩ (.int .i64 A1.1.1)).setCell ⟨w1.heap.size, 1, none⟩ (.int .i64 A1.1.2)) w1.heap.size A1.1.1 A1.1.2) := ⟨(cso (.inr (by omega))).trans (css y0), css ((cso (.inr (by omega))).trans y1)⟩
    have HI4 : Hid (Ints ((w3.setCell ⟨w1.heap.size, 0, none⟩ (.int .i64 A1.1.1)).setCell ⟨w1.heap.size, 1, none⟩ (.int .i64 A1.1.2)) a2 A1.2) := (HI3.out.far2 (Nat.lt_succ_self _)).ints
    go_upto_region 14 with fail
    generalize (w3.setCell ⟨w1.heap.size, 0, none⟩ (.int .i64 A1.1.1)).setCell ⟨w1.heap.size, 1, none⟩ (.int .i64 A1.1.2) = w4 at *
    clear y0 y1 f0 f1 z0 z1 hne B3 HI3
    go_wp2_with fail
    refine (HB1.out _ (HN.out.below HB4.out)).mono ?_
    rintro e w5 ⟨⟨a5, c5, rfl, ow5⟩, b5⟩
    have B5 := belowT HB4.out (Nat.le_refl _) b5
    obtain ⟨_, _, _, i5, _⟩ := own_ints ow5
    have HI5 : Hid (Ints w5 a5 A1.2 ∧ Ints w5 a2 A1.2) := ⟨i5, HI4.out.below b5⟩
    have HX5 : Hid (Bx w5 w1.heap.size A1.1.1 A1.1.2) := HX4.out.below b5
    clear ow5 i5 b5 HX4 HI4
    go_wp2_with fail
    refine (HSE.out _ (HH.out.below (belAl B5 _))).mono ?_
    rintro e w6 ⟨rfl, b6⟩
    have B6 : Below w.heap.size w w6 := belowA B5 (Nat.le_refl _) b6
    have h56 : Below w5.heap.size w5 w6 := belowA (Below.refl _ _) (Nat.le_refl _) b6
    have HX6 : Hid (Bx w6 w1.heap.size A1.1.1 A1.1.2 ∧ Bx w6 w5.heap.size A1.1.1 A1.1.2) := ⟨HX5.out.below h56, (Bx.new w5 A1.1.1 A1.1.2 23).below b6⟩
    have HI6 : Hid (Ints w6 a5 A1.2 ∧ Ints w6 a2 A1.2) := ⟨HI5.out.1.below h56, HI5.out.2.below h56⟩
    clear b6 h56 B5 HX5 HI5
    go_wp2_with fail
    refine (HSI.out _ _ _ _ _ HI6.out.1 HI6.out.2).mono ?_
    rintro e w7 ⟨rfl, q, rfl⟩
    obtain ⟨⟨x0, x1⟩, p0, p1⟩ := HX6.out
    go_wp2
    go_ret
    exact ⟨rfl, belowQ B6 q⟩
  · clear hx1 hr1
    go_wp2
    go_ret
    exact ⟨rfl, belAl B2 _⟩

theorem bestIs_any (ds : List Nd) (a : Option Addr) (cap : Nat) (hc : ds.length ≤ cap) (wd : Int) (w : World) (hN : Nods w a ds) (hg : Hnd w) :
    Calls Tryd.prog 9 #[.slice a ds.length cap, .int .i64 wd] w fun e w' => e = .returned (.bool true) ∧ Below w.heap.size w w' := by
  by_cases h0 : docF ds = 0
  · by_cases hw0 : wd < 0
    · exact bestIs_b ds a cap hc wd w hN hg (by rw [bE, if_pos h0, if_pos (.inl hw0)]; decide) h0 hw0
    · by_cases hw : 100 < wd
      · exact bestIs_c ds a cap hc wd w hN hg (by rw [bE, if_pos h0, if_pos (.inr hw)]; decide) h0 hw0 hw
      · obtain ⟨n, rfl⟩ : ∃ n : Nat, wd = n := ⟨wd.toNat, by omega⟩
        exact bestIs_d ds a cap hc n (by omega) w hN hg (bE_ok h0 (by omega)) h0
  · exact bestIs_a ds a cap hc wd w hN hg (by rw [bE, if_neg h0]; exact h0) h0
end Go.Proofs.YtfabfclbnekleaaDoor
