/- way.All: all ways of a doc, or that there are too many. -/
import Derived.Test.YtnfhiiefdmjdbaaFWalkZ
import Derived.Test.YtnfhiiefdmjdbaaTrn
import Derived.Test.YtnfhiiefdmjdbaaCln
import Derived.Test.YtnfhiiefdmjdbaaDocC
namespace Go.Proofs.Ytnfhiiefdmjdbaa
open Go Go.RowKit

theorem intsInfo : (Try.prog.info? 39).map (fun i => (i.zero, i.size, i.bytes)) = some (some (.slice none 0 0), 1, 24) := by kernel_rfl

/-- Ways in memory: the row of lists that the call owns, and each list's own row; none of them is a given block. -/
def Gath (B : Nat) (v : Value) (ls : List (List Int)) (g : Option Nat) (w : World) : Prop :=
  ∃ xs : List Value, w.ownsRow B 39 1 v ls.length xs ∧ ∀ i (h : i < ls.length), ∃ a c, xs[i]? = some (.slice a ls[i].length c) ∧ w.ownsRow B 3 1 (.slice a ls[i].length c) ls[i].length (intCells ls[i]) ∧ (∀ k, (Value.slice a ls[i].length c).ownBlock = some k → g ≠ some k)
theorem Gath.nil (B : Nat) (g : Option Nat) (w : World) : Gath B (.slice none 0 0) [] g w := ⟨[], World.ownsRow_nil _ _ _ _, fun i h => by simp at h⟩
/-- What leaves all blocks but two as they were leaves what is gathered. -/
theorem Gath.kept {B : Nat} {v : Value} {ls : List (List Int)} {g g' : Option Nat} {w w' : World} (h : Gath B v ls g w) (hb : ∀ k, k < w.heap.size → (∃ cur, w.heap[k]? = some (.cells cur 39 (0, 0))) → w'.heap[k]? = w.heap[k]?) (hc : ∀ k, k < w.heap.size → (∃ cur, w.heap[k]? = some (.cells cur 3 (0, 0))) → g ≠ some k → w'.heap[k]? = w.heap[k]? ∧ g' ≠ some k) : Gath B v ls g' w' := by
  obtain ⟨xs, h1, h2⟩ := h
  refine ⟨xs, own_kept h1 fun k hk => ?_, fun i hi => ?_⟩
  · obtain ⟨k1, k2⟩ := own_type h1 hk
    exact hb k k1 k2
  · obtain ⟨a, c, e1, e2, e3⟩ := h2 i hi
    refine ⟨a, c, e1, own_kept e2 fun k hk => ?_, fun k hk => ?_⟩
    · obtain ⟨k1, k2⟩ := own_type e2 hk
      exact (hc k k1 k2 (e3 k hk)).1
    · obtain ⟨k1, k2⟩ := own_type e2 hk
      exact (hc k k1 k2 (e3 k hk)).2
/-- A call of the finder's. -/
theorem Gath.keep {B b be bf n cap made : Nat} {a : Option Addr} {path : List Int} {v : Value} {ls : List (List Int)} {g g' : Option Nat} {w w' : World} (h : Gath B v ls g w) (hF : FS B b (plF be bf n cap a) path made g w) (hk : FKeep b g g' w w') : Gath B v ls g' w' := by
  obtain ⟨fv, hbk, hown, hg, hgb⟩ := hF
  refine h.kept (fun k h1 h2 => hk.block k h1 ?_ ?_) (fun k h1 h2 h3 => ⟨hk.block k h1 ?_ h3.symm, ?_⟩)
  · intro e
    subst e
    obtain ⟨cur, h2⟩ := h2
    rw [hbk] at h2
    cases h2
  · intro e
    obtain ⟨_, cur', h4⟩ := own_type hown (hg.trans e.symm)
    obtain ⟨cur, h2⟩ := h2
    rw [h4] at h2
    cases h2
  · intro e
    subst e
    obtain ⟨cur, h2⟩ := h2
    rw [hbk] at h2
    cases h2
  · rcases hk.row with h5 | h5
    · rw [h5]; exact h3
    · intro e
      have := h5 k e
      omega
theorem Gath.below {B : Nat} {v : Value} {ls : List (List Int)} {g : Option Nat} {w w' : World} (h : Gath B v ls g w) (hb : Below w.heap.size w w') : Gath B v ls g w' :=
  h.kept (fun k h1 _ => hb.block k h1) (fun k h1 _ h3 => ⟨hb.block k h1, h3⟩)
theorem FS.below {B b be bf n cap made : Nat} {a : Option Addr} {path : List Int} {g : Option Nat} {w w' : World} (h : FS B b (plF be bf n cap a) path made g w) (hb : Below w.heap.size w w') : FS B b (plF be bf n cap a) path made g w' := by
  obtain ⟨v, h1, h2, h3, h4⟩ := h
  exact ⟨v, (hb.block b (flt h1)).trans h1, own_kept h2 fun k hk => hb.block k (own_type h2 hk).1, h3, h4⟩

theorem chain_get {R : List Int → List Int → Prop} {E : List Int → Prop} : ∀ {l : List (List Int)} {k : Nat}, chainN R E l → (h : k + 1 < l.length) → R (l[k]'(by omega)) (l[k + 1])
  | [_], _, _, h => by simp at h
  | u :: v :: l, 0, hc, h => hc.1
  | u :: v :: l, k + 1, hc, h => chain_get (l := v :: l) (k := k) hc.2 (by simpa using h)
theorem chain_last {R : List Int → List Int → Prop} {E : List Int → Prop} : ∀ {l : List (List Int)} {k : Nat}, chainN R E l → (h : k + 1 = l.length) → E (l[k]'(by omega))
  | [u], 0, hc, _ => hc
  | u :: v :: l, 0, _, h => by simp at h
  | u :: v :: l, k + 1, hc, h => chain_last (l := v :: l) (k := k) hc.2 (by simpa using h)

theorem turnL_len : ∀ {u p : List Int}, turnL u = some p → p.length ≤ u.length
  | c :: u, p, h => by
    simp only [turnL] at h
    cases h1 : turnL u with
    | some q =>
      rw [h1] at h
      cases h
      have := turnL_len h1
      simp; omega
    | none =>
      rw [h1] at h
      simp only at h
      split at h
      · cases h
      · cases h; simp

/-- What is appended to a row of lists leaves the finder. -/
theorem FS.grown {B b be bf n cap made m : Nat} {a : Option Addr} {path : List Int} {g : Option Nat} {w w' : World} {v : Value} {xs : List Value} (h : FS B b (plF be bf n cap a) path made g w) (hv : w.ownsRow B 39 1 v m xs) (hg : w.grownBy w' v.ownBlock) : FS B b (plF be bf n cap a) path made g w' := by
  obtain ⟨fv, h1, h2, h3, h4⟩ := h
  refine ⟨fv, (hg.block b (flt h1) fun e => ?_).trans h1, own_kept h2 fun k hk => hg.block k (own_type h2 hk).1 fun e => ?_, h3, h4⟩
  · obtain ⟨_, cur, h5⟩ := own_type hv e.symm
    rw [h1] at h5
    cases h5
  · exact own_apart h2 hv (by decide) hk e.symm rfl
/-- One more list. -/
theorem Gath.push {B : Nat} {v v' : Value} {ls : List (List Int)} {l : List Int} {g : Option Nat} {w w' : World} {xs : List Value} {a' : Option Addr} {c' : Nat} (h1 : w.ownsRow B 39 1 v ls.length xs)
    (h2 : ∀ i (h : i < ls.length), ∃ a c, xs[i]? = some (.slice a ls[i].length c) ∧ w.ownsRow B 3 1 (.slice a ls[i].length c) ls[i].length (intCells ls[i]) ∧ (∀ k, (Value.slice a ls[i].length c).ownBlock = some k → g ≠ some k))
    (hl : w.ownsRow B 3 1 (.slice a' l.length c') l.length (intCells l)) (hgl : ∀ k, (Value.slice a' l.length c').ownBlock = some k → g ≠ some k) (hg : w.grownBy w' v.ownBlock) (hown : w'.ownsRow B 39 1 v' (ls.length + 1) (xs ++ [.slice a' l.length c'])) : Gath B v' (ls ++ [l]) g w' := by
  have hx : xs.length = ls.length := by have := h1.1; omega
  have kept : ∀ {a c} {l : List Int}, w.ownsRow B 3 1 (.slice a l.length c) l.length (intCells l) → w'.ownsRow B 3 1 (.slice a l.length c) l.length (intCells l) := fun {a c l} h =>
    own_kept h fun k hk => hg.block k (own_type h hk).1 fun e => own_apart h h1 (by decide) hk e.symm rfl
  refine ⟨xs ++ [.slice a' l.length c'], by rw [List.length_append]; exact hown, fun i hi => ?_⟩
  by_cases hlt : i < ls.length
  · obtain ⟨a, c, e1, e2, e3⟩ := h2 i hlt
    have el : (ls ++ [l])[i] = ls[i] := List.getElem_append_left hlt
    rw [el]
    exact ⟨a, c, by rw [List.getElem?_append_left (by omega)]; exact e1, kept e2, e3⟩
  · have hie : i = ls.length := by simp at hi; omega
    subst hie
    have el : (ls ++ [l])[ls.length] = l := by simp
    rw [el]
    exact ⟨a', c', by rw [List.getElem?_append_right (by omega), hx]; simp, kept hl, hgl⟩
theorem Gath.any {B B' : Nat} {v : Value} {ls : List (List Int)} {g : Option Nat} {w : World} (h : Gath B v ls g w) (hB : B' ≤ B) : Gath B' v ls none w := by
  obtain ⟨xs, h1, h2⟩ := h
  refine ⟨xs, own_base h1 hB, fun i hi => ?_⟩
  obtain ⟨a, c, e1, e2, _⟩ := h2 i hi
  exact ⟨a, c, e1, own_base e2 hB, fun k _ => by simp⟩

def sliceLen : Value → Nat
  | .slice _ n _ => n
  | _ => 0

/-- What the loop of All keeps. -/
def AllInv (B b s be bf cap : Nat) (a : Option Addr) (ds : List Nd) (t : Tr) (w3 : World) (vw vm : Value) (wr : World) : Prop :=
  ∃ (k : Nat) (g : Option Nat) (av : Option Addr) (cv : Nat), vw = .slice av k cv ∧ k ≤ 300 ∧ FC s be bf a ds wr ∧ Below B w3 wr ∧ Gath B (.slice av k cv) (t.ways.take k) g wr ∧
    ((vm = .bool true ∧ ∃ path : List Int, FS B b (plF be bf ds.length cap a) path 0 g wr ∧ path.length ≤ 400 ∧ ∃ hk : k < t.ways.length, t.go path = (t.ways[k], [])) ∨ (vm = .bool false ∧ k = t.ways.length))

/-- The k-th way: how long it is, what comes behind it. -/
theorem way_at {t : Tr} {k : Nat} (hk : k < t.ways.length) : t.ways[k].length ≤ t.nodes.length ∧ t.ways.take (k + 1) = t.ways.take k ++ [t.ways[k]] ∧ (turnL t.ways[k] = none → k + 1 = t.ways.length) ∧ (∀ p, turnL t.ways[k] = some p → p.length ≤ t.nodes.length ∧ ∃ h : k + 1 < t.ways.length, t.go p = (t.ways[k + 1], [])) := by
  have hl := way_len t _ (List.getElem_mem hk)
  have hc := ways_next t
  refine ⟨hl, by rw [List.take_add_one, List.getElem?_eq_getElem hk]; rfl, fun h => ?_, fun p hp => ?_⟩
  · rcases Nat.lt_or_ge (k + 1) t.ways.length with h1 | h1
    · obtain ⟨q, h2, _⟩ := chain_get hc h1
      rw [h] at h2
      cases h2
    · omega
  · refine ⟨Nat.le_trans (turnL_len hp) hl, ?_⟩
    rcases Nat.lt_or_ge (k + 1) t.ways.length with h1 | h1
    · obtain ⟨q, h2, h3⟩ := chain_get hc h1
      rw [hp] at h2
      cases h2
      exact ⟨h1, h3⟩
    · have h2 := chain_last hc (show k + 1 = t.ways.length by omega)
      rw [hp] at h2
      cases h2

set_option maxRecDepth 100000 in
set_option maxHeartbeats 4000000 in
theorem wall_ok (ds : List Nd) (t : Tr) (hd : ds = t.nodes) (ht : t.Wf) (a : Option Addr) (cap : Nat) (w : World) (hN : Nods w a ds) (h : docF ds = 0) :
    Calls Try.prog 12 #[.slice a ds.length cap] w fun e w' => ((t.ways.length ≤ 300 ∧ ∃ a' c', e = .returned (.tuple #[.slice a' t.ways.length c', .nilIface]) ∧ Gath w.heap.size (.slice a' t.ways.length c') t.ways none w') ∨ (300 < t.ways.length ∧ e = .returned (.tuple #[.slice none 0 0, errN 3]))) ∧ Below w.heap.size w w' := by
  have HN : Hid (Nods w a ds) := hN
  have H : Hid (docF ds = 0) := h
  have HT : Hid (t.Wf) := ht
  have HD : Hid (ds = t.nodes) := hd
  obtain ⟨h4, _, _⟩ := docF_zero h
  have H0 : Hid (ds ≠ []) := (show ds ≠ [] by have := t.pos; rw [← hd] at this; exact List.length_pos_iff.1 this)
  clear hN h ht hd
  go_enter Try.func12, Try.ntmps12
  go_wp2_with fail
  refine (dcheck_any ds a cap _ HN.out).mono ?_
  rintro e w2 ⟨rfl, hB⟩
  rw [H.out, errN_0]
  have HB : Hid (Below w.heap.size w w2) := hB
  obtain ⟨s, hs, hns⟩ := (HN.out.below hB).s H0.out
  have HN2 : Hid (NodsS s w2 a ds) := hns
  clear hB hns
  go_wp2_with fail
  refine (newPlan_any ds a cap s _ H.out HN2.out hs).mono ?_
  rintro e w3 ⟨⟨be, bf, rfl, hbe, hbf, hkn⟩, hB3⟩
  have HB3 : Hid (Below w.heap.size w w3) := belowT HB.out (Nat.le_refl _) hB3
  have hs3 : s < w3.heap.size := Nat.lt_of_lt_of_le hs hB3.size
  have HC3 : Hid (FC s be bf a ds w3) := ⟨HN2.out.kept (hB3.block s hs), hkn⟩
  have HA3 : Hid (∀ O : Obj, Below w3.heap.size w3 (w3.alloc O)) := fun O => (Below.refl _ _).alloc (Nat.le_refl _) O
  have HSZ : Hid (w.heap.size ≤ w3.heap.size) := HB3.out.size
  clear hkn hB3
  go_wp2_with fail
  go_loopw [6, 7] (fun vw vm wr => AllInv w3.heap.size w3.heap.size s be bf cap a ds t w3 vw vm wr) (fun vw _ _ => t.ways.length - sliceLen vw)
  case atStart =>
    obtain ⟨g1, l, g2⟩ := go_first t
    refine ⟨0, none, none, 0, rfl, by omega, HC3.out.below ⟨hs3, hbe, hbf⟩ (HA3.out _), HA3.out _, Gath.nil _ _ _, .inl ⟨rfl, [], ⟨.slice none 0 0, heap_alloc_new w3 _, World.ownsRow_nil _ _ _ _, rfl, by simp⟩, by simp, by rw [g2]; simp, ?_⟩⟩
    rw [g1]
    simp only [g2, List.getElem_cons_zero]
  case round =>
    obtain ⟨k, g, av, cv, rfl, hk3, hC, hBr, hG, hm⟩ := hrel
    have HC : Hid (FC s be bf a ds wr) := hC
    have HBR : Hid (Below w3.heap.size w3 wr) := hBr
    have HGA : Hid (Gath w3.heap.size (.slice av k cv) (t.ways.take k) g wr) := hG
    have hsr := hBr.size
    clear hC hBr hG
    rcases hm with ⟨rfl, path, hF, hpl, hkw, hgo⟩ | ⟨rfl, hkw⟩
    · by_cases hk : k = 300
      · subst hk
        go_wp2
        go_ret2
        exact ⟨.inr ⟨hkw, rfl⟩, HB3.out.trans (HBR.out.mono HSZ.out)⟩
      · have hne : ((k : Int) == 300) = false := beq_eq_false_iff_ne.2 (by omega)
        have HF : Hid (FS w3.heap.size w3.heap.size (plF be bf ds.length cap a) path 0 g wr) := hF
        obtain ⟨q1, q2, q3, q4⟩ := way_at hkw
        rw [← HD.out] at q1 q4
        generalize t.ways[k] = l at hgo q1 q2 q3 q4
        have HGO : Hid (t.go path = (l, [])) := hgo
        have HTK : Hid (t.ways.take (k + 1) = t.ways.take k ++ [l]) := q2
        have HNO : Hid (turnL l = none → k + 1 = t.ways.length) := q3
        have HSO : Hid (∀ p, turnL l = some p → p.length ≤ ds.length ∧ ∃ h : k + 1 < t.ways.length, t.go p = (t.ways[k + 1], [])) := q4
        have hll : l.length ≤ 400 := by omega
        have hlk : (t.ways.take k).length = k := by rw [List.length_take]; omega
        have HLK : Hid ((t.ways.take k).length = k) := hlk
        clear hgo q1 q2 q3 q4 hF hlk
        go_wp2_with fail
        refine (fwalk_any w3.heap.size w3.heap.size s be bf ⟨hs3, hbe, hbf⟩ (Nat.le_refl _) ds a cap h4 t HT.out 0 [] [] path g _ (by rw [List.drop_zero, HD.out, List.append_nil]) HC.out HF.out (by rw [← HD.out]; simp; omega) hsr).mono ?_
        rintro e w4 ⟨rfl, g4, hF4, k4⟩
        rw [HGO.out] at hF4
        simp only [List.append_nil, List.nil_append, List.length_nil, Nat.zero_add] at hF4
        have hB4 : Below w3.heap.size w3 w4 := HBR.out.trans (k4.below (Nat.le_refl _) HF.out.row hsr)
        have HF4 : Hid (FS w3.heap.size w3.heap.size (plF be bf ds.length cap a) l l.length g4 w4) := hF4
        have HG4 : Hid (Gath w3.heap.size (.slice av k cv) (t.ways.take k) g4 w4) := HGA.out.keep HF.out k4
        have HB4 : Hid (Below w3.heap.size w3 w4) := hB4
        have hs4 := hB4.size
        obtain ⟨fv, hbk4, hown4, hg4, hgb4⟩ := hF4
        obtain ⟨_, _, _, x3, _, _, _⟩ := fcell hbk4
        have HO4 : Hid (w4.ownsRow w3.heap.size 3 1 fv l.length (intCells l)) := hown4
        have HGL : Hid (∀ j, g4 = some j → j < w4.heap.size) := fun j hj => (own_type hown4 (hg4.trans hj)).1
        clear hbk4 hown4 hg4 hgb4 hB4 k4
        go_wp2_with fail
        refine (clone_any l w3.heap.size fv _ HO4.out (by omega)).mono ?_
        rintro e w5 ⟨a5, c5, rfl, hown5, hb5⟩
        have HF5 : Hid (FS w3.heap.size w3.heap.size (plF be bf ds.length cap a) l l.length g4 w5) := HF4.out.below hb5
        have HB5 : Hid (Below w3.heap.size w3 w5) := HB4.out.trans (hb5.mono hs4)
        obtain ⟨xs, hx, hall⟩ := HG4.out.below hb5
        have HX : Hid (w5.ownsRow w3.heap.size 39 1 (.slice av k cv) (t.ways.take k).length xs) := hx
        have HALL : Hid (∀ i (h : i < (t.ways.take k).length), ∃ a c, xs[i]? = some (.slice a (t.ways.take k)[i].length c) ∧ w5.ownsRow w3.heap.size 3 1 (.slice a (t.ways.take k)[i].length c) (t.ways.take k)[i].length (intCells (t.ways.take k)[i]) ∧ (∀ j, (Value.slice a (t.ways.take k)[i].length c).ownBlock = some j → g4 ≠ some j)) := hall
        have HO5 : Hid (w5.ownsRow w3.heap.size 3 1 (.slice a5 l.length c5) l.length (intCells l)) := own_base hown5 hs4
        have HG5 : Hid (∀ j, (Value.slice a5 l.length c5).ownBlock = some j → g4 ≠ some j) := fun j hj e => by
          have h1 := (hown5.lt j hj).1
          have h2 := HGL.out j e
          omega
        have hs5 := HB5.out.size
        have HXk : Hid (w5.ownsRow w3.heap.size 39 1 (.slice av k cv) k xs) := by
          have := hx
          rw [HLK.out] at this
          exact this
        clear hx hall hown5 hb5 HG4 HO4 HF4 HGL x3
        obtain ⟨i1, hi1, hy0, hy1, hy2⟩ := info_parts intsInfo
        go_wp2_with (at_builtin; refine wpList_append_lies _ rfl _ _ 40 rfl w3.heap.size 39 i1 _ 1 24 Try.underlying40 hi1 hy0 hy1 hy2 rfl (by decide) _ _ _ rfl (HXk.out.alloc _) ⟨w5.heap.size, 0, none⟩ 1 1 [.slice a5 l.length c5] rfl rfl ?c1 ?c2 (by decide) ?c3 ?c4 ?c5 (w5.heap.size + 1) ?c6 ?_)
        case c1 => exact cell_one_new w5 _ _
        case c2 => intro u hu; simp at hu; subst hu; rfl
        case c3 => unfold maxLen; omega
        case c4 => omega
        case c5 => simp; omega
        case c6 => simp
        intro g6 cap6 w6 hown6 hgrow6 hat6 hlt6
        have hA5 : ∀ O : Obj, Below w5.heap.size w5 (w5.alloc O) := fun O => (Below.refl _ _).alloc (Nat.le_refl _) O
        have HF6 : Hid (FS w3.heap.size w3.heap.size (plF be bf ds.length cap a) l l.length g4 w6) := (HF5.out.below (hA5 _)).grown (HXk.out.alloc _) hgrow6
        have HB6 : Hid (Below w3.heap.size w3 w6) := (HB5.out.alloc hs5 _).grown hgrow6 (by simp; omega) (fun j hj => (HXk.out.lt j hj).1)
        have HG6 : Hid (Gath w3.heap.size (.slice (some ⟨g6, 0, none⟩) (k + 1) cap6) (t.ways.take (k + 1)) g4 w6) := by
          show Gath _ _ _ _ _
          rw [HTK.out]
          refine Gath.push (HX.out.alloc _) (fun i hi => ?_) (HO5.out.alloc _) HG5.out hgrow6 (by rw [HLK.out]; exact hown6)
          obtain ⟨a', c', e1, e2, e3⟩ := HALL.out i hi
          exact ⟨a', c', e1, e2.alloc _, e3⟩
        have hs6 := HB6.out.size
        clear hown6 hgrow6 hat6 hA5 HX HXk HALL HO5 HG5 HF5 HB5
        go_wp2_with fail
        refine (turn_any w3.heap.size w3.heap.size be bf ds.length cap a l l.length g4 _ HF6.out (by omega)).mono ?_
        rintro e w7 ⟨h7, k7⟩
        have HB7 : Hid (Below w3.heap.size w3 w7) := HB6.out.trans (k7.below (Nat.le_refl _) HF6.out.row hs6)
        have HG7 : Hid (Gath w3.heap.size (.slice (some ⟨g6, 0, none⟩) (k + 1) cap6) (t.ways.take (k + 1)) g4 w7) := HG6.out.keep HF6.out k7
        have HC7 : Hid (FC s be bf a ds w7) := HC3.out.below ⟨hs3, hbe, hbf⟩ HB7.out
        clear k7
        rcases h7 with ⟨hn, rfl⟩ | ⟨p, hp, rfl, hF7⟩
        · have HE : Hid (k + 1 = t.ways.length) := HNO.out hn
          clear hn
          go_wp2
          go_roundw
          case rel => exact ⟨k + 1, g4, _, _, rfl, by omega, HC7.out, HB7.out, HG7.out, .inr ⟨rfl, HE.out⟩⟩
          case measure => simp [sliceLen]; omega
        · have HP : Hid (p.length ≤ ds.length ∧ ∃ h : k + 1 < t.ways.length, t.go p = (t.ways[k + 1], [])) := HSO.out p hp
          have HF7 : Hid (FS w3.heap.size w3.heap.size (plF be bf ds.length cap a) p 0 g4 w7) := hF7
          clear hp hF7
          go_wp2
          go_roundw
          case rel => exact ⟨k + 1, g4, _, _, rfl, by omega, HC7.out, HB7.out, HG7.out, .inl ⟨rfl, p, HF7.out, Nat.le_trans HP.out.1 h4, HP.out.2⟩⟩
          case measure => simp [sliceLen]; omega
    · subst hkw
      go_wp2
      go_ret2
      exact ⟨.inl ⟨hk3, av, cv, rfl, by have := HGA.out; rw [List.take_length] at this; exact this.any HSZ.out⟩, HB3.out.trans (HBR.out.mono HSZ.out)⟩

set_option maxRecDepth 100000 in
set_option maxHeartbeats 1000000 in
theorem wall_bad (ds : List Nd) (a : Option Addr) (cap : Nat) (w : World) (hN : Nods w a ds) (h : docF ds ≠ 0) :
    Calls Try.prog 12 #[.slice a ds.length cap] w fun e w' => e = .returned (.tuple #[.slice none 0 0, errN (docF ds)]) ∧ Below w.heap.size w w' := by
  have HN : Hid (Nods w a ds) := hN
  have H : Hid (docF ds ≠ 0) := h
  rw [errN_ne h]
  clear hN h
  go_enter Try.func12, Try.ntmps12
  go_wp2_with fail
  refine (dcheck_any ds a cap _ HN.out).mono ?_
  rintro e w2 ⟨rfl, hB⟩
  rw [errN_ne H.out]
  go_wp2
  go_ret2
  exact ⟨rfl, hB⟩

/-- Lists of numbers in memory. -/
def WaysIn (w : World) (a : Option Addr) (ls : List (List Int)) : Prop :=
  ∀ i (h : i < ls.length), ∃ b o a' c', a = some ⟨b, o, none⟩ ∧ b < w.heap.size ∧ w.cell? ⟨b, o + i, none⟩ = some (.slice a' ls[i].length c') ∧ ls[i].length ≤ c' ∧ Ints w a' ls[i]
theorem WaysIn.below {w w' : World} {a : Option Addr} {ls : List (List Int)} (h : WaysIn w a ls) (hb : Below w.heap.size w w') : WaysIn w' a ls := by
  intro i hi
  obtain ⟨b, o, a', c', e, hlt, c1, c2, c3⟩ := h i hi
  exact ⟨b, o, a', c', e, Nat.lt_of_lt_of_le hlt hb.size, ((bcell hb).1 _ _ hlt).trans c1, c2, c3.below hb⟩
theorem Gath.ways {B : Nat} {a : Option Addr} {n c : Nat} {ls : List (List Int)} {g : Option Nat} {w : World} (h : Gath B (.slice a n c) ls g w) : n = ls.length ∧ WaysIn w a ls := by
  obtain ⟨xs, h1, h2⟩ := h
  have hx : xs.length = ls.length := by have := h1.1; omega
  rcases h1.2 with ⟨hv, h0⟩ | ⟨gg, cc, cur, hv, _, hg, hnc, _, hsz, htake⟩
  · simp only [Value.slice.injEq] at hv
    obtain ⟨rfl, rfl, rfl⟩ := hv
    exact ⟨h0.symm, fun i hi => by omega⟩
  · simp only [Value.slice.injEq] at hv
    obtain ⟨rfl, rfl, rfl⟩ := hv
    refine ⟨rfl, fun i hi => ?_⟩
    obtain ⟨a', c', e1, e2, _⟩ := h2 i hi
    obtain ⟨_, _, q2, q3, _⟩ := own_ints e2
    refine ⟨gg, 0, a', c', rfl, (Array.getElem?_eq_some_iff.1 hg).1, ?_, q2, q3⟩
    rw [← htake, List.getElem?_take_of_lt (by omega)] at e1
    rw [Nat.zero_add]
    simp only [World.cell?, hg]
    simpa using e1
end Go.Proofs.Ytnfhiiefdmjdbaa
