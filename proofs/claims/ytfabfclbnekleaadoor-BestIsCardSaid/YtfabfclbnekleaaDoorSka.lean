/- Some texts as one: Mp0, Sk0, Sk1, Sk2, Sk3. -/
import Derived.Test.YtfabfclbnekleaaDoorBstPs
import Derived.Test.YtfabfclbnekleaaDoorBase
import Derived.Maps.OwnSet
import Derived.DeepKeys4
import Derived.Test.YtfabfclbnekleaaDoorPmd
import Derived.Deep.DeepFit
namespace Go.Proofs.YtfabfclbnekleaaDoor
open Go Go.RowKit Go.Maps

theorem mlaidOut : laidOutB Tryd.prog = true := by kernel_rfl
theorem mrow : (120 : TypeId) < Tryd.prog.types.size := of_decide_eq_true (by kernel_rfl)
theorem mkt : Tryd.prog.keyTypeAt 3 120 = true := by kernel_rfl
theorem mlaw : Keyed Tryd.prog 120 := Keyed.of_law (deep_law_laid mlaidOut (m := 3) (by omega) mrow mkt (by rw [Tryd.underlying120]))
theorem mtype : Tryd.prog.keyType 120 = true := by kernel_rfl
theorem mcells : Tryd.prog.cellsOf 120 = 2 := by kernel_rfl
theorem mcells1 : Tryd.prog.cellsOf 3 = 1 := by kernel_rfl
theorem msize : ∃ d, Tryd.prog.types.size = d + 1 := ⟨237 - 1, by kernel_rfl⟩
theorem mzero (w : World) : (zeroValue 122).run Tryd.prog w = .ok (.agg #[.int .i64 0, .int .i64 0, .int .i64 0, .int .i64 0, .int .i64 0]) w := by kernel_rfl

theorem wf64 {n : Nat} (h : n ≤ 1000000) : (Lit.int .i64 (n : Int)).wf = true := WalkArith.wf_i64 (by omega)
theorem mkey {p c : Nat} (hp : p ≤ 1000000) (hc : c ≤ 1000000) : ∃ kl, keyOf Tryd.prog 120 (.agg #[.int .i64 (p : Int), .int .i64 (c : Int)]) = some kl := by
  obtain ⟨d, hd⟩ := msize
  have h1 := wf64 hp
  have h2 := wf64 hc
  have hf : (Value.agg #[.int .i64 (p : Int), .int .i64 (c : Int)]).formed Tryd.prog 120 = true := by
    simp [Value.formed, Tryd.underlying120, mcells]
  refine ⟨.string (keyBytes [.int .i64 p, .int .i64 c]), ?_⟩
  unfold keyOf
  rw [Tryd.underlying120]
  simp only [mtype, hf, Bool.and_self, if_true, hd]
  simp [Program.keyLits, Tryd.underlying120, Tryd.underlying3, mcells, mcells1, Value.cells, h1, h2]

/-- A course as a value. -/
def cvV (k : Cv) : Value := .agg #[.int .i64 k.o, .int .i64 k.l, .int .i64 k.ch, .int .i64 k.np, .int .i64 k.nc]
def zCv : Cv := ⟨0, 0, 0, 0, 0⟩
/-- How an element reads: as itself. -/
def cvR (v : Value) : Option (DataW Value × List MemPlace) := some (.held v, [])
/-- How many spots are known. -/
def cntS (S : Nat → Nat → Bool) : Nat := (List.range 40501).countP fun k => S (k / 101) (k % 101)
theorem cntS_le (S : Nat → Nat → Bool) : cntS S ≤ 40501 := by
  have := List.countP_le_length (p := fun k => S (k / 101) (k % 101)) (l := List.range 40501)
  rw [List.length_range] at this
  exact this
def addS (S : Nat → Nat → Bool) (p c : Nat) : Nat → Nat → Bool := fun p' c' => S p' c' || (decide (p' = p) && decide (c' = c))
theorem countP_add {f g : Nat → Bool} (k : Nat) : ∀ (l : List Nat), k ∈ l → (∀ x, f x = true → g x = true) → f k = false → g k = true → l.countP f + 1 ≤ l.countP g
  | [], h, _, _, _ => by simp at h
  | a :: l, h, h1, h2, h3 => by
    have hm : l.countP f ≤ l.countP g := List.countP_mono_left fun x _ => h1 x
    rw [List.countP_cons, List.countP_cons]
    by_cases e : a = k
    · subst e
      rw [h2, h3]
      simp
      omega
    · have h4 := countP_add k l (by rcases List.mem_cons.1 h with h | h; exact absurd h.symm e; exact h) h1 h2 h3
      cases hf : f a with
      | true => rw [h1 a hf]; omega
      | false => simp only [Bool.false_eq_true, if_false, Nat.add_zero]; exact Nat.le_trans h4 (Nat.le_add_right _ _)
theorem cntS_add {S : Nat → Nat → Bool} {p c : Nat} (hp : p ≤ 400) (hc : c ≤ 100) (h : S p c = false) : cntS S + 1 ≤ cntS (addS S p c) := by
  have e1 : (p * 101 + c) / 101 = p := by omega
  have e2 : (p * 101 + c) % 101 = c := by omega
  refine countP_add (p * 101 + c) _ (List.mem_range.2 (by omega)) (fun x hx => ?_) ?_ ?_
  · simp only [addS, hx, Bool.true_or]
  · rw [e1, e2]; exact h
  · simp [addS, e1, e2]

/-- The courses from the spots of a set are known. -/
def Mem (w : World) (b : Nat) (C : Nat → Nat → Cv) (S : Nat → Nat → Bool) : Prop :=
  ∃ D n, w.ownsMap Tryd.prog 120 cvR b n D ∧ n ≤ cntS S ∧ ∀ p c : Nat, p ≤ 400 → c ≤ 100 → ∀ kl, keyOf Tryd.prog 120 (.agg #[.int .i64 (p : Int), .int .i64 (c : Int)]) = some kl →
    Maps.has D kl = S p c ∧ D.atKey kl (.held (cvV zCv)) = .held (cvV (if S p c = true then C p c else zCv))
section
variable {w w' : World} {b : Nat} {C : Nat → Nat → Cv} {S : Nat → Nat → Bool} {p c : Nat}
theorem Mem.lt (h : Mem w b C S) : b < w.heap.size := by
  obtain ⟨D, n, h, _⟩ := h
  exact h.lt
theorem Mem.kept (h : Mem w b C S) (hb : w'.heap[b]? = w.heap[b]?) : Mem w' b C S := by
  obtain ⟨D, n, ⟨es, clock, h1, h2⟩, h3⟩ := h
  exact ⟨D, n, ⟨es, clock, hb.trans h1, h2⟩, h3⟩
theorem Mem.look (h : Mem w b C S) (hp : p ≤ 400) (hc : c ≤ 100) : (Instr.lookup 116 (.map (some b)) (.agg #[.int .i64 (p : Int), .int .i64 (c : Int)]) false).run Tryd.prog w = .ok (cvV (if S p c = true then C p c else zCv)) w := by
  obtain ⟨D, n, h, _, h2⟩ := h
  obtain ⟨kl, hk⟩ := mkey (p := p) (c := c) (by omega) (by omega)
  obtain ⟨v, ps, hrun, hv⟩ := h.lookup mlaw Tryd.underlying116 (mzero w) (zd := .held (cvV zCv)) (zp := []) rfl hk
  rw [(h2 p c hp hc kl hk).2] at hv
  simp only [cvR, Option.some.injEq, Prod.mk.injEq, DataW.held.injEq] at hv
  rw [hrun, hv.1]
theorem Mem.look_ok (h : Mem w b C S) (hp : p ≤ 400) (hc : c ≤ 100) : (Instr.lookup 116 (.map (some b)) (.agg #[.int .i64 (p : Int), .int .i64 (c : Int)]) true).run Tryd.prog w = .ok (.tuple #[cvV (if S p c = true then C p c else zCv), .bool (S p c)]) w := by
  obtain ⟨D, n, h, _, h2⟩ := h
  obtain ⟨kl, hk⟩ := mkey (p := p) (c := c) (by omega) (by omega)
  obtain ⟨v, ps, hrun, hv⟩ := h.look_ok mlaw Tryd.underlying116 (mzero w) (zd := .held (cvV zCv)) (zp := []) rfl hk
  rw [(h2 p c hp hc kl hk).2] at hv
  simp only [cvR, Option.some.injEq, Prod.mk.injEq, DataW.held.injEq] at hv
  rw [hrun, hv.1, (h2 p c hp hc kl hk).1]
theorem Mem.store (h : Mem w b C S) (hp : p ≤ 400) (hc : c ≤ 100) (hs : S p c = false) :
    ∃ w', (Instr.mapUpdate 116 (.map (some b)) (.agg #[.int .i64 (p : Int), .int .i64 (c : Int)]) (cvV (C p c))).run Tryd.prog w = .ok () w' ∧ Mem w' b C (addS S p c) ∧ w.grownBy w' (some b) := by
  obtain ⟨D, n, h, hn, h2⟩ := h
  obtain ⟨kl, hk⟩ := mkey (p := p) (c := c) (by omega) (by omega)
  obtain ⟨w1, hrun, hown, hg⟩ := h.update mlaw Tryd.underlying116 (by have := cntS_le S; unfold maxLen; omega) hk (d := .held (cvV (C p c))) (ps := []) (val := cvV (C p c)) rfl
  refine ⟨w1, hrun, ⟨_, _, hown, Nat.le_trans (Nat.add_le_add_right hn 1) (cntS_add hp hc hs), fun p' c' hp' hc' kl' hk' => ?_⟩, hg⟩
  by_cases e : p' = p ∧ c' = c
  · obtain ⟨rfl, rfl⟩ := e
    have ek : kl' = kl := by rw [hk] at hk'; exact (Option.some.inj hk').symm
    subst ek
    have ea : addS S p' c' p' c' = true := by simp [addS]
    rw [ea, if_pos rfl]
    exact ⟨has_put_same h.isMap (mlaw.key hk) _, atKey_put_same h.isMap (mlaw.key hk) _ _⟩
  · have ne : kl' ≠ kl := by
      intro ek
      subst ek
      have := mlaw.inj hk' hk
      simp at this
      omega
    have ea : addS S p c p' c' = S p' c' := by
      simp only [addS]
      by_cases e1 : p' = p
      · have e2 : ¬ c' = c := fun e2 => e ⟨e1, e2⟩
        simp [e2]
      · simp [e1]
    rw [ea, has_put_other ne, atKey_put_other ne]
    exact h2 p' c' hp' hc' kl' hk'
end
theorem Mem.made (w : World) (C : Nat → Nat → Cv) : Mem (w.alloc (.map #[] 0)) w.heap.size C (fun _ _ => false) :=
  ⟨.map [], 0, World.ownsMap_made _ _ _ _, Nat.zero_le _, fun _ _ _ _ _ _ => ⟨rfl, rfl⟩⟩
end Go.Proofs.YtfabfclbnekleaaDoor
namespace Go.Proofs.YtfabfclbnekleaaDoor
open Go Go.RowKit

/-- A search in memory; the courses from the spots of a set are known. -/
structure Inv (sb g mb wd : Nat) (R : List Pl) (w : World) (S : Nat → Nat → Bool) : Prop where
  pl : PlanP w sb g wd R
  c2 : w.cell? ⟨sb, 2, none⟩ = some (.map (some mb))
  me : Mem w mb (crs R wd) S
  cl : ∀ p c, S p c = true → p < R.length ∧ c ≤ wd ∧ ((crs R wd p c).np < R.length → S (crs R wd p c).np (crs R wd p c).nc = true)
theorem cell_no_map {w : World} {b o : Nat} {v : Value} {es : Array MapEntry} {cl : Nat} (h : w.cell? ⟨b, o, none⟩ = some v) (h2 : w.heap[b]? = some (.map es cl)) : False := by
  simp [World.cell?, h2] at h
section
variable {sb g mb wd : Nat} {R : List Pl} {w w' : World} {S : Nat → Nat → Bool}
theorem Inv.nb (h : Inv sb g mb wd R w S) : sb ≠ mb := by
  intro e
  subst e
  obtain ⟨D, n, ⟨es, cl, h1, _⟩, _⟩ := h.me
  exact cell_no_map h.c2 h1
theorem Inv.ng (h : Inv sb g mb wd R w S) : g ≠ mb := by
  intro e
  subst e
  obtain ⟨D, n, ⟨es, cl, h1, _⟩, _⟩ := h.me
  obtain ⟨cs, T, h2⟩ := h.pl.pr.row
  rw [h1] at h2
  cases h2
theorem Inv.lt (h : Inv sb g mb wd R w S) : sb < w.heap.size ∧ g < w.heap.size ∧ mb < w.heap.size := ⟨h.pl.ltB, h.pl.ltG, h.me.lt⟩
/-- It stays so while other blocks turn. -/
theorem Inv.kept (h : Inv sb g mb wd R w S) (hb : ∀ k, k < w.heap.size → w'.heap[k]? = w.heap[k]?) : Inv sb g mb wd R w' S :=
  ⟨h.pl.kept (hb _ h.lt.1) (hb _ h.lt.2.1), (World.cell?_of_block (w := w) (a := ⟨sb, 2, none⟩) (hb _ h.lt.1)).trans h.c2, h.me.kept (hb _ h.lt.2.2), h.cl⟩
theorem Inv.kept3 (h : Inv sb g mb wd R w S) (h1 : w'.heap[sb]? = w.heap[sb]?) (h2 : w'.heap[g]? = w.heap[g]?) (h3 : w'.heap[mb]? = w.heap[mb]?) : Inv sb g mb wd R w' S :=
  ⟨h.pl.kept h1 h2, (World.cell?_of_block (w := w) (a := ⟨sb, 2, none⟩) h1).trans h.c2, h.me.kept h3, h.cl⟩
theorem heap5 {wr : World} {b k : Nat} (hk : k ≠ b) (v0 v1 v2 v3 v4 : Value) : (((((wr.setCell ⟨b, 0, none⟩ v0).setCell ⟨b, 1, none⟩ v1).setCell ⟨b, 2, none⟩ v2).setCell ⟨b, 3, none⟩ v3).setCell ⟨b, 4, none⟩ v4).heap[k]? = wr.heap[k]? :=
  (Below.heap_setCell _ _ _ _ hk).trans ((Below.heap_setCell _ _ _ _ hk).trans ((Below.heap_setCell _ _ _ _ hk).trans ((Below.heap_setCell _ _ _ _ hk).trans (Below.heap_setCell _ _ _ _ hk))))
theorem Inv.set5 {b : Nat} (h : Inv sb g mb wd R w S) (h1 : sb ≠ b) (h2 : g ≠ b) (h3 : mb ≠ b) (v0 v1 v2 v3 v4 : Value) : Inv sb g mb wd R (((((w.setCell ⟨b, 0, none⟩ v0).setCell ⟨b, 1, none⟩ v1).setCell ⟨b, 2, none⟩ v2).setCell ⟨b, 3, none⟩ v3).setCell ⟨b, 4, none⟩ v4) S :=
  h.kept3 (heap5 h1 _ _ _ _ _) (heap5 h2 _ _ _ _ _) (heap5 h3 _ _ _ _ _)
theorem Inv.below (h : Inv sb g mb wd R w S) (hb : Below w.heap.size w w') : Inv sb g mb wd R w' S := h.kept fun k hk => hb.block k hk
theorem Inv.alloc (h : Inv sb g mb wd R w S) (O : Obj) : Inv sb g mb wd R (w.alloc O) S := h.kept fun _ hk => Below.heap_alloc _ _ _ hk
/-- One more is known. -/
theorem Inv.more {p c : Nat} (h : Inv sb g mb wd R w S) (hg : w.grownBy w' (some mb)) (hm : Mem w' mb (crs R wd) (addS S p c)) (hp : p < R.length) (hc : c ≤ wd) (hn : (crs R wd p c).np < R.length → S (crs R wd p c).np (crs R wd p c).nc = true) : Inv sb g mb wd R w' (addS S p c) where
  pl := h.pl.kept (hg.block _ h.lt.1 (by intro e; exact h.nb (Option.some.inj e))) (hg.block _ h.lt.2.1 (by intro e; exact h.ng (Option.some.inj e)))
  c2 := (World.cell?_of_block (w := w) (a := ⟨sb, 2, none⟩) (hg.block _ h.lt.1 (by intro e; exact h.nb (Option.some.inj e)))).trans h.c2
  me := hm
  cl p' c' hs := by
    have hor : ∀ a b, S a b = true → addS S p c a b = true := fun a b hab => by simp [addS, hab]
    by_cases e : p' = p ∧ c' = c
    · obtain ⟨rfl, rfl⟩ := e
      exact ⟨hp, hc, fun hl => hor _ _ (hn hl)⟩
    · have hs' : S p' c' = true := by
        simp only [addS, Bool.or_eq_true, Bool.and_eq_true, decide_eq_true_eq] at hs
        rcases hs with hs | hs
        · exact hs
        · exact absurd hs e
      obtain ⟨h1, h2, h3⟩ := h.cl p' c' hs'
      exact ⟨h1, h2, fun hl => hor _ _ (h3 hl)⟩
/-- What a call leaves. -/
def Left (sb g mb wd : Nat) (R : List Pl) (S : Nat → Nat → Bool) (lo p c : Nat) (w w' : World) : Prop :=
  BelX w.heap.size mb w w' ∧ ∃ S', Inv sb g mb wd R w' S' ∧ (∀ a b, S a b = true → S' a b = true) ∧ (∀ a b, S' a b = true → S a b = true ∨ lo ≤ a) ∧ (p < R.length → S' p c = true)
theorem left_quiet {lo p c : Nat} (h : Inv sb g mb wd R w S) (hb : Below w.heap.size w w') (hp : p < R.length → S p c = true) : Left sb g mb wd R S lo p c w w' :=
  ⟨BelX.of hb, S, h.below hb, fun _ _ h => h, fun _ _ h => .inl h, hp⟩
theorem below5 {n b : Nat} {wr : World} (h : Below n w wr) (hb : n ≤ b) (v0 v1 v2 v3 v4 : Value) : Below n w (((((wr.setCell ⟨b, 0, none⟩ v0).setCell ⟨b, 1, none⟩ v1).setCell ⟨b, 2, none⟩ v2).setCell ⟨b, 3, none⟩ v3).setCell ⟨b, 4, none⟩ v4) :=
  ((((h.setCell (p := ⟨b, 0, none⟩) hb _).setCell (p := ⟨b, 1, none⟩) hb _).setCell (p := ⟨b, 2, none⟩) hb _).setCell (p := ⟨b, 3, none⟩) hb _).setCell (p := ⟨b, 4, none⟩) hb _
theorem belX5 {n b m : Nat} {wr : World} (h : BelX n m w wr) (hb : n ≤ b) (v0 v1 v2 v3 v4 : Value) : BelX n m w (((((wr.setCell ⟨b, 0, none⟩ v0).setCell ⟨b, 1, none⟩ v1).setCell ⟨b, 2, none⟩ v2).setCell ⟨b, 3, none⟩ v3).setCell ⟨b, 4, none⟩ v4) :=
  ((((h.setCell (p := ⟨b, 0, none⟩) (.inr hb) _).setCell (p := ⟨b, 1, none⟩) (.inr hb) _).setCell (p := ⟨b, 2, none⟩) (.inr hb) _).setCell (p := ⟨b, 3, none⟩) (.inr hb) _).setCell (p := ⟨b, 4, none⟩) (.inr hb) _
def SeekP (sb g mb wd : Nat) (R : List Pl) (i c : Nat) : Prop := ∀ w S, Inv sb g mb wd R w S →
  Calls Tryd.prog 55 #[.pointer (some ⟨sb, 0, none⟩), .agg #[.int .i64 i, .int .i64 c]] w fun e w' => e = .returned (cvV (if i < R.length then crs R wd i c else zCv)) ∧ Left sb g mb wd R S i i c w w'
def TakeP (sb g mb wd : Nat) (R : List Pl) (i c ch : Nat) : Prop := ∀ w S, Inv sb g mb wd R w S →
  Calls Tryd.prog 93 #[.pointer (some ⟨sb, 0, none⟩), .agg #[.int .i64 i, .int .i64 c], .int .i64 ch] w fun e w' => e = .returned (cvV (tkC R wd i c ch)) ∧ Left sb g mb wd R S (i + 1) (mvAt R wd i c ch).np (mvAt R wd i c ch).nc w w'
def ChooseP (sb g mb wd : Nat) (R : List Pl) (i c : Nat) : Prop := ∀ w S, Inv sb g mb wd R w S →
  Calls Tryd.prog 78 #[.pointer (some ⟨sb, 0, none⟩), .agg #[.int .i64 i, .int .i64 c]] w fun e w' => e = .returned (cvV (crs R wd i c)) ∧ Left sb g mb wd R S (i + 1) (crs R wd i c).np (crs R wd i c).nc w w'
end
end Go.Proofs.YtfabfclbnekleaaDoor
namespace Go.Proofs.YtfabfclbnekleaaDoor
open Go Go.RowKit

theorem belAl {w wr : World} (h : Below w.heap.size w wr) (O : Obj) : Below w.heap.size w (wr.alloc O) := h.alloc h.size O
theorem belowQ {B : Nat} {w wr : World} (h : Below B w wr) (n : Nat) : Below B w (wr.drewN n) := h.trans ⟨rfl, rfl, rfl, Nat.le_refl _, fun _ _ => rfl⟩
set_option maxRecDepth 100000 in
set_option maxHeartbeats 4000000 in
theorem seek_end (sb g mb wd i c : Nat) (R : List Pl) (hi : i = R.length) : SeekP sb g mb wd R i c := by
  intro w S h
  have c0 := h.pl.c0
  have H : Hid (Inv sb g mb wd R w S) := h
  have hlt := h.lt.1
  have heq : ((i : Int) == (R.length : Int)) = true := by rw [hi]; simp
  have hz : (if i < R.length then crs R wd i c else zCv) = zCv := if_neg (by omega)
  rw [hz, cvV, zCv]
  have c0' : ∀ O1 O2, ((w.alloc O1).alloc O2).cell? ⟨sb, 0, none⟩ = some (.slice (some ⟨g, 0, none⟩) R.length R.length) := fun O1 O2 => ka (ka c0 O1) O2
  have HB : Hid (∀ O1 O2, Below w.heap.size w ((w.alloc O1).alloc O2)) := fun O1 O2 => ((Below.refl _ w).alloc (Nat.le_refl _) O1).alloc (by simp) O2
  have HI : Hid (i = R.length) := hi
  clear h c0 hz hi
  go_enter Tryd.func55, Tryd.ntmps55
  go_wp2_with fail
  go_quiet (fail)
  go_wp2
  refine bodyPost_ret (v := .agg #[.int .i64 0, .int .i64 0, .int .i64 0, .int .i64 0, .int .i64 0]) (by simp [results, Tryd.results55, go_sem]) rfl ?_
  exact ⟨rfl, left_quiet H.out (below5 (belowQ (HB.out _ _) nq) (by omega) _ _ _ _ _) (fun h => absurd h (by rw [HI.out]; omega))⟩

/-- The world behind the first test. -/
structure Sk1 (sb g mb wd i c : Nat) (R : List Pl) (S : Nat → Nat → Bool) (w w1 : World) : Prop where
  inv : Inv sb g mb wd R w1 S
  sz : w1.heap.size = w.heap.size + 1 + 1
  a0 : w1.cell? ⟨w.heap.size, 0, none⟩ = some (.int .i64 i)
  a1 : w1.cell? ⟨w.heap.size, 1, none⟩ = some (.int .i64 c)
  r0 : w1.cell? ⟨w.heap.size + 1, 0, none⟩ = some (.int .i64 0)
  r1 : w1.cell? ⟨w.heap.size + 1, 1, none⟩ = some (.int .i64 0)
  r2 : w1.cell? ⟨w.heap.size + 1, 2, none⟩ = some (.int .i64 0)
  r3 : w1.cell? ⟨w.heap.size + 1, 3, none⟩ = some (.int .i64 0)
  r4 : w1.cell? ⟨w.heap.size + 1, 4, none⟩ = some (.int .i64 0)
  fr : RowF w1 (w.heap.size + 1)
  bw : Below w.heap.size w w1
theorem sk1_of {sb g mb wd i c nq : Nat} {R : List Pl} {S : Nat → Nat → Bool} {w : World} (h : Inv sb g mb wd R w S) :
    Sk1 sb g mb wd i c R S w (((w.alloc (.cells #[.int .i64 i, .int .i64 c] 120)).alloc (.cells #[.int .i64 0, .int .i64 0, .int .i64 0, .int .i64 0, .int .i64 0] 122)).drewN nq) := by
  have hb : Below w.heap.size w (((w.alloc (.cells #[.int .i64 i, .int .i64 c] 120)).alloc (.cells #[.int .i64 0, .int .i64 0, .int .i64 0, .int .i64 0, .int .i64 0] 122)).drewN nq) :=
    (((Below.refl _ w).alloc (Nat.le_refl _) _).alloc (by simp) _).trans ⟨rfl, rfl, rfl, Nat.le_refl _, fun _ _ => rfl⟩
  have n1 := heap_alloc_new (w.alloc (.cells #[.int .i64 i, .int .i64 c] 120)) (.cells #[.int .i64 0, .int .i64 0, .int .i64 0, .int .i64 0, .int .i64 0] 122)
  have s1 : (w.alloc (.cells #[.int .i64 i, .int .i64 c] 120)).heap.size = w.heap.size + 1 := by simp
  rw [s1] at n1
  exact ⟨h.below hb, by simp, by simp [go_sem], by simp [go_sem], by simp [go_sem], by simp [go_sem], by simp [go_sem], by simp [go_sem], by simp [go_sem], ⟨_, _, n1⟩, hb⟩

set_option maxRecDepth 100000 in
set_option maxHeartbeats 4000000 in
theorem seek_known (sb g mb wd i c : Nat) (R : List Pl) (hi : i < R.length) (hR : R.length ≤ 400) (hc : c ≤ 100) (w : World) (S : Nat → Nat → Bool) (h : Inv sb g mb wd R w S) (hS : S i c = true) :
    Calls Tryd.prog 55 #[.pointer (some ⟨sb, 0, none⟩), .agg #[.int .i64 i, .int .i64 c]] w fun e w' => e = .returned (cvV (crs R wd i c)) ∧ Left sb g mb wd R S i i c w w' := by
  have c0 := h.pl.c0
  have H : Hid (Inv sb g mb wd R w S) := h
  have hlt := h.lt.1
  have hne : ((i : Int) == (R.length : Int)) = false := beq_eq_false_iff_ne.2 (by omega)
  have c0' : ∀ O1 O2, ((w.alloc O1).alloc O2).cell? ⟨sb, 0, none⟩ = some (.slice (some ⟨g, 0, none⟩) R.length R.length) := fun O1 O2 => ka (ka c0 O1) O2
  have HS : Hid (S i c = true) := hS
  have HLK : Hid (∀ W, Mem W mb (crs R wd) S → (Instr.lookup 116 (.map (some mb)) (.agg #[.int .i64 (i : Int), .int .i64 (c : Int)]) true).run Tryd.prog W = .ok (.tuple #[.agg #[.int .i64 (crs R wd i c).o, .int .i64 (crs R wd i c).l, .int .i64 (crs R wd i c).ch, .int .i64 (crs R wd i c).np, .int .i64 (crs R wd i c).nc], .bool true]) W) := fun W hW => by
    have := hW.look_ok (p := i) (c := c) (by omega) hc
    rw [HS.out, if_pos rfl] at this
    exact this
  rw [cvV]
  clear h c0 hS
  generalize crs R wd i c = k at *
  go_enter Tryd.func55, Tryd.ntmps55
  go_wp2_with fail
  go_quiet (fail)
  go_wp2_with fail
  have hsk := sk1_of (i := i) (c := c) (nq := nq) H.out
  generalize ((w.alloc (.cells #[.int .i64 i, .int .i64 c] 120)).alloc (.cells #[.int .i64 0, .int .i64 0, .int .i64 0, .int .i64 0, .int .i64 0] 122)).drewN nq = w1 at *
  have HK : Hid (Sk1 sb g mb wd i c R S w w1) := hsk
  have c2 := hsk.inv.c2
  obtain ⟨_, hsz, a0, a1, r0, r1, r2, r3, r4, fr, _⟩ := hsk
  have hL0 := HLK.out w1.drew (HK.out.inv.me.kept rfl)
  have hL1 := fun O => HLK.out (w1.alloc O).drew ((HK.out.inv.alloc O).me.kept rfl)
  have q0 := fun O => ka r0 O
  have q1 := fun O => ka r1 O
  have q2 := fun O => ka r2 O
  have q3 := fun O => ka r3 O
  have q4 := fun O => ka r4 O
  have z0 := fun O => kaf (o := 0) (O := O) fr.lt fr.frozen
  have z1 := fun O => kaf (o := 1) (O := O) fr.lt fr.frozen
  have z2 := fun O => kaf (o := 2) (O := O) fr.lt fr.frozen
  have z3 := fun O => kaf (o := 3) (O := O) fr.lt fr.frozen
  have z4 := fun O => kaf (o := 4) (O := O) fr.lt fr.frozen
  have y0 : w1.frozen? ⟨w.heap.size + 1, 0, none⟩ = false := fr.frozen
  have y1 : w1.frozen? ⟨w.heap.size + 1, 1, none⟩ = false := fr.frozen
  have y2 : w1.frozen? ⟨w.heap.size + 1, 2, none⟩ = false := fr.frozen
  have y3 : w1.frozen? ⟨w.heap.size + 1, 3, none⟩ = false := fr.frozen
  have y4 : w1.frozen? ⟨w.heap.size + 1, 4, none⟩ = false := fr.frozen
  clear fr c0'
  go_region_held3 (fun w' => w'.cell? ⟨sb, 2, none⟩ = some (.map (some mb)) ∧ w'.cell? ⟨w.heap.size, 0, none⟩ = some (.int .i64 i) ∧ w'.cell? ⟨w.heap.size, 1, none⟩ = some (.int .i64 c) ∧ (Instr.lookup 116 (.map (some mb)) (.agg #[.int .i64 (i : Int), .int .i64 (c : Int)]) true).run Tryd.prog w' = .ok (.tuple #[.agg #[.int .i64 k.o, .int .i64 k.l, .int .i64 k.ch, .int .i64 k.np, .int .i64 k.nc], .bool true]) w')
    (first | exact ⟨c2, a0, a1, hL0⟩ | exact ⟨ka c2 _, ka a0 _, ka a1 _, hL1 _⟩) (fail)
  all_goals
    go_wp2
    exact bodyPost_ret (v := .agg #[.int .i64 k.o, .int .i64 k.l, .int .i64 k.ch, .int .i64 k.np, .int .i64 k.nc]) (by simp [results, Tryd.results55, go_sem, hsz, r0, r1, r2, r3, r4]) rfl ⟨rfl, left_quiet H.out (Below.drew (belAl (below5 HK.out.bw (by omega) _ _ _ _ _) _)) (fun _ => HS.out)⟩
end Go.Proofs.YtfabfclbnekleaaDoor
namespace Go.Proofs.YtfabfclbnekleaaDoor
open Go Go.RowKit

theorem grown_belX {w w' : World} {m : Nat} (hg : w.grownBy w' (some m)) : BelX w.heap.size m w w' :=
  ⟨hg.os, hg.tape, hg.output, hg.size, fun k hk hne => hg.block k hk (by intro e; exact hne (Option.some.inj e))⟩
/-- seek's boxes in a world: the spot, what comes back, the course. -/
structure SkB (w w2 : World) (i c : Nat) (k : Cv) : Prop where
  a0 : w2.cell? ⟨w.heap.size, 0, none⟩ = some (.int .i64 i)
  a1 : w2.cell? ⟨w.heap.size, 1, none⟩ = some (.int .i64 c)
  r0 : w2.cell? ⟨w.heap.size + 1, 0, none⟩ = some (.int .i64 0)
  r1 : w2.cell? ⟨w.heap.size + 1, 1, none⟩ = some (.int .i64 0)
  r2 : w2.cell? ⟨w.heap.size + 1, 2, none⟩ = some (.int .i64 0)
  r3 : w2.cell? ⟨w.heap.size + 1, 3, none⟩ = some (.int .i64 0)
  r4 : w2.cell? ⟨w.heap.size + 1, 4, none⟩ = some (.int .i64 0)
  t0 : w2.cell? ⟨w.heap.size + 1 + 1, 0, none⟩ = some (.int .i64 k.o)
  t1 : w2.cell? ⟨w.heap.size + 1 + 1, 1, none⟩ = some (.int .i64 k.l)
  t2 : w2.cell? ⟨w.heap.size + 1 + 1, 2, none⟩ = some (.int .i64 k.ch)
  t3 : w2.cell? ⟨w.heap.size + 1 + 1, 3, none⟩ = some (.int .i64 k.np)
  t4 : w2.cell? ⟨w.heap.size + 1 + 1, 4, none⟩ = some (.int .i64 k.nc)
  fr : RowF w2 (w.heap.size + 1)
  ft : RowF w2 (w.heap.size + 1 + 1)
theorem SkB.kept {w w2 w3 : World} {i c m : Nat} {k : Cv} (h : SkB w w2 i c k) (hb : BelX w2.heap.size m w2 w3) (hm : m < w.heap.size) : SkB w w3 i c k := by
  have hlt := h.ft.lt
  have hc : ∀ b o v, b = w.heap.size ∨ b = w.heap.size + 1 ∨ b = w.heap.size + 1 + 1 → w2.cell? ⟨b, o, none⟩ = some v → w3.cell? ⟨b, o, none⟩ = some v := fun b o v he hv => (hb.cell (p := ⟨b, o, none⟩) (by simp; omega) (by simp; omega)).trans hv
  exact ⟨hc _ _ _ (.inl rfl) h.a0, hc _ _ _ (.inl rfl) h.a1, hc _ _ _ (.inr (.inl rfl)) h.r0, hc _ _ _ (.inr (.inl rfl)) h.r1, hc _ _ _ (.inr (.inl rfl)) h.r2, hc _ _ _ (.inr (.inl rfl)) h.r3, hc _ _ _ (.inr (.inl rfl)) h.r4,
    hc _ _ _ (.inr (.inr rfl)) h.t0, hc _ _ _ (.inr (.inr rfl)) h.t1, hc _ _ _ (.inr (.inr rfl)) h.t2, hc _ _ _ (.inr (.inr rfl)) h.t3, hc _ _ _ (.inr (.inr rfl)) h.t4, h.fr.kept (hb.block _ (by omega) (by omega)), h.ft.kept (hb.block _ (by omega) (by omega))⟩
theorem skb_of {sb g mb wd i c : Nat} {R : List Pl} {S : Nat → Nat → Bool} {w w1 : World} (h : Sk1 sb g mb wd i c R S w w1) : SkB w (w1.alloc (.cells #[.int .i64 0, .int .i64 0, .int .i64 0, .int .i64 0, .int .i64 0] 122)).drew i c zCv := by
  have n1 := heap_alloc_new w1 (.cells #[.int .i64 0, .int .i64 0, .int .i64 0, .int .i64 0, .int .i64 0] 122)
  rw [h.sz] at n1
  have hc : ∀ o v, (w1.alloc (.cells #[.int .i64 0, .int .i64 0, .int .i64 0, .int .i64 0, .int .i64 0] 122)).cell? ⟨w.heap.size + 1 + 1, o, none⟩ = v → (w1.alloc (.cells #[.int .i64 0, .int .i64 0, .int .i64 0, .int .i64 0, .int .i64 0] 122)).drew.cell? ⟨w.heap.size + 1 + 1, o, none⟩ = v := fun _ _ h => h
  refine ⟨ka h.a0 _, ka h.a1 _, ka h.r0 _, ka h.r1 _, ka h.r2 _, ka h.r3 _, ka h.r4 _, hc _ _ ?_, hc _ _ ?_, hc _ _ ?_, hc _ _ ?_, hc _ _ ?_, h.fr.kept (Below.heap_alloc _ _ _ h.fr.lt), ⟨_, _, n1⟩⟩
  all_goals simp [World.cell?, n1, zCv]
theorem SkB.put {w w2 : World} {i c : Nat} {k k' : Cv} (h : SkB w w2 i c k) : SkB w (((((w2.setCell ⟨w.heap.size + 1 + 1, 0, none⟩ (.int .i64 k'.o)).setCell ⟨w.heap.size + 1 + 1, 1, none⟩ (.int .i64 k'.l)).setCell ⟨w.heap.size + 1 + 1, 2, none⟩ (.int .i64 k'.ch)).setCell ⟨w.heap.size + 1 + 1, 3, none⟩ (.int .i64 k'.np)).setCell ⟨w.heap.size + 1 + 1, 4, none⟩ (.int .i64 k'.nc)) i c k' := by
  have hc : ∀ b o v v0 v1 v2 v3 v4, b ≠ w.heap.size + 1 + 1 → w2.cell? ⟨b, o, none⟩ = some v → (((((w2.setCell ⟨w.heap.size + 1 + 1, 0, none⟩ v0).setCell ⟨w.heap.size + 1 + 1, 1, none⟩ v1).setCell ⟨w.heap.size + 1 + 1, 2, none⟩ v2).setCell ⟨w.heap.size + 1 + 1, 3, none⟩ v3).setCell ⟨w.heap.size + 1 + 1, 4, none⟩ v4).cell? ⟨b, o, none⟩ = some v :=
    fun b o v v0 v1 v2 v3 v4 hb hv => (cso (.inl hb.symm)).trans ((cso (.inl hb.symm)).trans ((cso (.inl hb.symm)).trans ((cso (.inl hb.symm)).trans ((cso (.inl hb.symm)).trans hv))))
  have t0 := h.t0
  have t1 := h.t1
  have t2 := h.t2
  have t3 := h.t3
  have t4 := h.t4
  refine ⟨hc _ _ _ _ _ _ _ _ (by omega) h.a0, hc _ _ _ _ _ _ _ _ (by omega) h.a1, hc _ _ _ _ _ _ _ _ (by omega) h.r0, hc _ _ _ _ _ _ _ _ (by omega) h.r1, hc _ _ _ _ _ _ _ _ (by omega) h.r2, hc _ _ _ _ _ _ _ _ (by omega) h.r3, hc _ _ _ _ _ _ _ _ (by omega) h.r4, ?_, ?_, ?_, ?_, ?_, ?_, ?_⟩
  · exact (cso (by omega)).trans ((cso (by omega)).trans ((cso (by omega)).trans ((cso (by omega)).trans (css t0))))
  · exact (cso (by omega)).trans ((cso (by omega)).trans ((cso (by omega)).trans (css ((cso (by omega)).trans t1))))
  · exact (cso (by omega)).trans ((cso (by omega)).trans (css ((cso (by omega)).trans ((cso (by omega)).trans t2))))
  · exact (cso (by omega)).trans (css ((cso (by omega)).trans ((cso (by omega)).trans ((cso (by omega)).trans t3))))
  · exact css ((cso (by omega)).trans ((cso (by omega)).trans ((cso (by omega)).trans ((cso (by omega)).trans t4))))
  · exact h.fr.set.set.set.set.set
  · exact h.ft.set.set.set.set.set

set_option maxRecDepth 100000 in
set_option maxHeartbeats 8000000 in
theorem seek_new (sb g mb wd i c : Nat) (R : List Pl) (hi : i < R.length) (hR : R.length ≤ 400) (hc : c ≤ 100) (hcw : c ≤ wd) (hCH : ChooseP sb g mb wd R i c) (w : World) (S : Nat → Nat → Bool) (h : Inv sb g mb wd R w S) (hS : S i c = false) :
    Calls Tryd.prog 55 #[.pointer (some ⟨sb, 0, none⟩), .agg #[.int .i64 i, .int .i64 c]] w fun e w' => e = .returned (cvV (crs R wd i c)) ∧ Left sb g mb wd R S i i c w w' := by
  have c0 := h.pl.c0
  have H : Hid (Inv sb g mb wd R w S) := h
  have HCH : Hid (ChooseP sb g mb wd R i c) := hCH
  have hlt := h.lt
  have hne : ((i : Int) == (R.length : Int)) = false := beq_eq_false_iff_ne.2 (by omega)
  have c0' : ∀ O1 O2, ((w.alloc O1).alloc O2).cell? ⟨sb, 0, none⟩ = some (.slice (some ⟨g, 0, none⟩) R.length R.length) := fun O1 O2 => ka (ka c0 O1) O2
  have HS : Hid (S i c = false) := hS
  have HLK : Hid (∀ W, Mem W mb (crs R wd) S → (Instr.lookup 116 (.map (some mb)) (.agg #[.int .i64 (i : Int), .int .i64 (c : Int)]) true).run Tryd.prog W = .ok (.tuple #[.agg #[.int .i64 0, .int .i64 0, .int .i64 0, .int .i64 0, .int .i64 0], .bool false]) W) := fun W hW => by
    have := hW.look_ok (p := i) (c := c) (by omega) hc
    rw [HS.out, if_neg (by simp)] at this
    exact this
  rw [cvV]
  clear h c0 hS hCH
  go_enter Tryd.func55, Tryd.ntmps55
  go_wp2_with fail
  go_quiet (fail)
  go_wp2_with fail
  have hsk := sk1_of (i := i) (c := c) (nq := nq) H.out
  generalize ((w.alloc (.cells #[.int .i64 i, .int .i64 c] 120)).alloc (.cells #[.int .i64 0, .int .i64 0, .int .i64 0, .int .i64 0, .int .i64 0] 122)).drewN nq = w1 at *
  have HK : Hid (Sk1 sb g mb wd i c R S w w1) := hsk
  have c2 := hsk.inv.c2
  obtain ⟨_, hsz, a0, a1, _, _, _, _, _, _, _⟩ := hsk
  have hL0 := HLK.out w1.drew (HK.out.inv.me.kept rfl)
  have hL1 := fun O => HLK.out (w1.alloc O).drew ((HK.out.inv.alloc O).me.kept rfl)
  have a0' := fun O => ka a0 O
  have a1' := fun O => ka a1 O
  clear c0'
  go_region_held3 (fun w' => w'.cell? ⟨sb, 2, none⟩ = some (.map (some mb)) ∧ w'.cell? ⟨w.heap.size, 0, none⟩ = some (.int .i64 i) ∧ w'.cell? ⟨w.heap.size, 1, none⟩ = some (.int .i64 c) ∧ (Instr.lookup 116 (.map (some mb)) (.agg #[.int .i64 (i : Int), .int .i64 (c : Int)]) true).run Tryd.prog w' = .ok (.tuple #[.agg #[.int .i64 0, .int .i64 0, .int .i64 0, .int .i64 0, .int .i64 0], .bool false]) w')
    (first | exact ⟨c2, a0, a1, hL0⟩ | exact ⟨ka c2 _, ka a0 _, ka a1 _, hL1 _⟩) (fail)
  all_goals
    go_wp2_with fail
    refine (HCH.out (w1.alloc (.cells #[.int .i64 0, .int .i64 0, .int .i64 0, .int .i64 0, .int .i64 0] 122)).drew S ((HK.out.inv.alloc _).kept fun _ _ => rfl)).mono ?_
    rintro e w2 ⟨rfl, hL⟩
    obtain ⟨hbx, S', hI, hmo, hlo, hin⟩ := hL
    have hB := (skb_of HK.out).kept hbx hlt.2.2
    have HBX : Hid (BelX w.heap.size mb w w2) := ((BelX.of (HK.out.bw.alloc HK.out.bw.size _)).drew).trans (hbx.mono (by show w.heap.size ≤ (w1.alloc _).heap.size; simp; omega))
    have HSB : Hid (SkB w w2 i c zCv) := hB
    obtain ⟨_, _, _, _, _, _, _, t0, t1, t2, t3, t4, _, ft⟩ := hB
    have y0 : w2.frozen? ⟨w.heap.size + 1 + 1, 0, none⟩ = false := ft.frozen
    have y1 : w2.frozen? ⟨w.heap.size + 1 + 1, 1, none⟩ = false := ft.frozen
    have y2 : w2.frozen? ⟨w.heap.size + 1 + 1, 2, none⟩ = false := ft.frozen
    have y3 : w2.frozen? ⟨w.heap.size + 1 + 1, 3, none⟩ = false := ft.frozen
    have y4 : w2.frozen? ⟨w.heap.size + 1 + 1, 4, none⟩ = false := ft.frozen
    have HI : Hid (Inv sb g mb wd R w2 S') := hI
    have HM : Hid ((∀ a b, S a b = true → S' a b = true) ∧ (∀ a b, S' a b = true → S a b = true ∨ i + 1 ≤ a) ∧ ((crs R wd i c).np < R.length → S' (crs R wd i c).np (crs R wd i c).nc = true)) := ⟨hmo, hlo, hin⟩
    rw [cvV]
    have HSB3 : Hid (SkB w (((((w2.setCell ⟨w.heap.size + 1 + 1, 0, none⟩ (.int .i64 (crs R wd i c).o)).setCell ⟨w.heap.size + 1 + 1, 1, none⟩ (.int .i64 (crs R wd i c).l)).setCell ⟨w.heap.size + 1 + 1, 2, none⟩ (.int .i64 (crs R wd i c).ch)).setCell ⟨w.heap.size + 1 + 1, 3, none⟩ (.int .i64 (crs R wd i c).np)).setCell ⟨w.heap.size + 1 + 1, 4, none⟩ (.int .i64 (crs R wd i c).nc)) i c (crs R wd i c)) := HSB.out.put
    have HI3 : Hid (Inv sb g mb wd R (((((w2.setCell ⟨w.heap.size + 1 + 1, 0, none⟩ (.int .i64 (crs R wd i c).o)).setCell ⟨w.heap.size + 1 + 1, 1, none⟩ (.int .i64 (crs R wd i c).l)).setCell ⟨w.heap.size + 1 + 1, 2, none⟩ (.int .i64 (crs R wd i c).ch)).setCell ⟨w.heap.size + 1 + 1, 3, none⟩ (.int .i64 (crs R wd i c).np)).setCell ⟨w.heap.size + 1 + 1, 4, none⟩ (.int .i64 (crs R wd i c).nc)) S') := HI.out.set5 (by omega) (by omega) (by omega) _ _ _ _ _
    have HBX3 : Hid (BelX w.heap.size mb w (((((w2.setCell ⟨w.heap.size + 1 + 1, 0, none⟩ (.int .i64 (crs R wd i c).o)).setCell ⟨w.heap.size + 1 + 1, 1, none⟩ (.int .i64 (crs R wd i c).l)).setCell ⟨w.heap.size + 1 + 1, 2, none⟩ (.int .i64 (crs R wd i c).ch)).setCell ⟨w.heap.size + 1 + 1, 3, none⟩ (.int .i64 (crs R wd i c).np)).setCell ⟨w.heap.size + 1 + 1, 4, none⟩ (.int .i64 (crs R wd i c).nc))) := belX5 HBX.out (by omega) _ _ _ _ _
    clear hbx hI hmo hlo hin ft c2 a0 a1 hL0 hL1 a0' a1'
    go_wp2_with fail
    clear t0 t1 t2 t3 t4 y0 y1 y2 y3 y4 HI HBX HSB
    generalize ((((w2.setCell ⟨w.heap.size + 1 + 1, 0, none⟩ (.int .i64 (crs R wd i c).o)).setCell ⟨w.heap.size + 1 + 1, 1, none⟩ (.int .i64 (crs R wd i c).l)).setCell ⟨w.heap.size + 1 + 1, 2, none⟩ (.int .i64 (crs R wd i c).ch)).setCell ⟨w.heap.size + 1 + 1, 3, none⟩ (.int .i64 (crs R wd i c).np)).setCell ⟨w.heap.size + 1 + 1, 4, none⟩ (.int .i64 (crs R wd i c).nc) = w3 at *
    have hS' : S' i c = false := by
      cases e : S' i c with
      | false => rfl
      | true =>
        rcases HM.out.2.1 i c e with e2 | e2
        · rw [HS.out] at e2; cases e2
        · omega
    obtain ⟨w4, hrun, hm4, hg4⟩ := Mem.store (w := w3.drew) (p := i) (c := c) (HI3.out.me.kept rfl) (by omega) hc hS'
    have hbx4 : BelX w3.heap.size mb w3 w4 := ⟨hg4.os, hg4.tape, hg4.output, hg4.size, (grown_belX hg4).block⟩
    have HSB4 : Hid (SkB w w4 i c (crs R wd i c)) := HSB3.out.kept hbx4 hlt.2.2
    have HI4 : Hid (Inv sb g mb wd R w4 (addS S' i c)) := Inv.more (w := w3.drew) (HI3.out.kept fun _ _ => rfl) hg4 hm4 hi hcw HM.out.2.2
    have HBX4 : Hid (BelX w.heap.size mb w w4) := HBX3.out.trans (hbx4.mono HBX3.out.size)
    have c2 := HI3.out.c2
    have c24 := HI4.out.c2
    obtain ⟨a0, a1, _, _, _, _, _, t0, t1, t2, t3, t4, _, _⟩ := HSB3.out
    obtain ⟨b0, b1, r0, r1, r2, r3, r4, u0, u1, u2, u3, u4, fr, _⟩ := HSB4.out
    have y0 : w4.frozen? ⟨w.heap.size + 1, 0, none⟩ = false := fr.frozen
    have y1 : w4.frozen? ⟨w.heap.size + 1, 1, none⟩ = false := fr.frozen
    have y2 : w4.frozen? ⟨w.heap.size + 1, 2, none⟩ = false := fr.frozen
    have y3 : w4.frozen? ⟨w.heap.size + 1, 3, none⟩ = false := fr.frozen
    have y4 : w4.frozen? ⟨w.heap.size + 1, 4, none⟩ = false := fr.frozen
    rw [cvV] at hrun
    clear hm4 hg4 hbx4 fr HSB3 HI3 HBX3 hS'
    go_region_held3 (fun w' => w'.cell? ⟨sb, 2, none⟩ = some (.map (some mb)) ∧ w'.cell? ⟨w.heap.size, 0, none⟩ = some (.int .i64 i) ∧ w'.cell? ⟨w.heap.size, 1, none⟩ = some (.int .i64 c) ∧ w'.cell? ⟨w.heap.size + 1 + 1, 0, none⟩ = some (.int .i64 (crs R wd i c).o) ∧ w'.cell? ⟨w.heap.size + 1 + 1, 1, none⟩ = some (.int .i64 (crs R wd i c).l) ∧ w'.cell? ⟨w.heap.size + 1 + 1, 2, none⟩ = some (.int .i64 (crs R wd i c).ch) ∧ w'.cell? ⟨w.heap.size + 1 + 1, 3, none⟩ = some (.int .i64 (crs R wd i c).np) ∧ w'.cell? ⟨w.heap.size + 1 + 1, 4, none⟩ = some (.int .i64 (crs R wd i c).nc))
      (first | exact ⟨c2, a0, a1, t0, t1, t2, t3, t4⟩ | exact ⟨c24, b0, b1, u0, u1, u2, u3, u4⟩) (fail)
    all_goals
      go_wp2
      refine bodyPost_ret (v := .agg #[.int .i64 (crs R wd i c).o, .int .i64 (crs R wd i c).l, .int .i64 (crs R wd i c).ch, .int .i64 (crs R wd i c).np, .int .i64 (crs R wd i c).nc]) (by simp [results, Tryd.results55, go_sem, r0, r1, r2, r3, r4]) rfl ⟨rfl, belX5 HBX4.out (by omega) _ _ _ _ _, addS S' i c, HI4.out.set5 (by omega) (by omega) (by omega) _ _ _ _ _, fun a b hab => ?_, fun a b hab => ?_, fun _ => by simp [addS]⟩
      · simp [addS, HM.out.1 a b hab]
      · simp only [addS, Bool.or_eq_true, Bool.and_eq_true, decide_eq_true_eq] at hab
        rcases hab with hab | hab
        · rcases HM.out.2.1 a b hab with h | h
          · exact .inl h
          · exact .inr (by omega)
        · exact .inr (by omega)

theorem seek_any (sb g mb wd i c : Nat) (R : List Pl) (hi : i < R.length) (hR : R.length ≤ 400) (hw : wd ≤ 100) (hcw : c ≤ wd) (hCH : ChooseP sb g mb wd R i c) : SeekP sb g mb wd R i c := by
  intro w S h
  rw [if_pos hi]
  cases hS : S i c with
  | true => exact seek_known sb g mb wd i c R hi hR (by omega) w S h hS
  | false => exact seek_new sb g mb wd i c R hi hR (by omega) hcw hCH w S h hS
end Go.Proofs.YtfabfclbnekleaaDoor
namespace Go.Proofs.YtfabfclbnekleaaDoor
open Go Go.RowKit

theorem fieldCost (a b c d e : Value) (w : World) : (Instr.field 122 (.agg #[a, b, c, d, e]) 0).run Tryd.prog w = .ok (.agg #[a, b]) w := by kernel_rfl
theorem fieldChoice (a b c d e : Value) (w : World) : (Instr.field 122 (.agg #[a, b, c, d, e]) 1).run Tryd.prog w = .ok c w := by kernel_rfl
theorem fieldNext (a b c d e : Value) (w : World) : (Instr.field 122 (.agg #[a, b, c, d, e]) 2).run Tryd.prog w = .ok (.agg #[d, e]) w := by kernel_rfl
/-- take's boxes in a world: what comes back, where the move comes to, what it costs. -/
structure TkB (w1 wx : World) (b b7 b8 : Nat) (m : Mv) : Prop where
  p0 : wx.cell? ⟨b7, 0, none⟩ = some (.int .i64 m.np)
  p1 : wx.cell? ⟨b7, 1, none⟩ = some (.int .i64 m.nc)
  o0 : wx.cell? ⟨b8, 0, none⟩ = some (.int .i64 m.o)
  o1 : wx.cell? ⟨b8, 1, none⟩ = some (.int .i64 m.l)
  n7 : b < b7
  n8 : b < b8
  bw : Below (b + 1) w1 wx
theorem bel_alloc {w1 w2 : World} {n : Nat} (h : Below n w1 w2) (hn : n ≤ w1.heap.size) (O : Obj) : Below n w1 (w2.alloc O) := h.alloc (Nat.le_trans hn h.size) O
section
variable {w1 w2 : World} {b : Nat} {m : Mv} {T7 T8 : TypeId}
theorem tk_A1 (h : Below (b + 1) w1 w2) (hb : b + 1 = w1.heap.size) : TkB w1 ((w2.alloc (.cells #[.int .i64 m.np, .int .i64 m.nc] T7)).alloc (.cells #[.int .i64 m.o, .int .i64 m.l] T8)) b w2.heap.size (w2.heap.size + 1) m :=
  have hs := h.size
  ⟨by simp [go_sem], by simp [go_sem], by simp [go_sem], by simp [go_sem], by omega, by omega, bel_alloc (bel_alloc h (by omega) _) (by omega) _⟩
theorem tk_A2 (h : Below (b + 1) w1 w2) (hb : b + 1 = w1.heap.size) : TkB w1 ((w2.alloc (.cells #[.int .i64 m.o, .int .i64 m.l] T8)).alloc (.cells #[.int .i64 m.np, .int .i64 m.nc] T7)) b (w2.heap.size + 1) w2.heap.size m :=
  have hs := h.size
  ⟨by simp [go_sem], by simp [go_sem], by simp [go_sem], by simp [go_sem], by omega, by omega, bel_alloc (bel_alloc h (by omega) _) (by omega) _⟩
/-- Two cells of a box. -/
theorem two_cells {W : World} {a : Nat} {u0 u1 v0 v1 : Value} (h0 : W.cell? ⟨a, 0, none⟩ = some u0) (h1 : W.cell? ⟨a, 1, none⟩ = some u1) : ((W.setCell ⟨a, 0, none⟩ v0).setCell ⟨a, 1, none⟩ v1).cell? ⟨a, 0, none⟩ = some v0 ∧ ((W.setCell ⟨a, 0, none⟩ v0).setCell ⟨a, 1, none⟩ v1).cell? ⟨a, 1, none⟩ = some v1 :=
  ⟨(cso (by omega)).trans (css h0), css ((cso (by omega)).trans h1)⟩
theorem bel_two {n a : Nat} {v0 v1 : Value} (h : Below n w1 w2) (hn : n ≤ a) : Below n w1 ((w2.setCell ⟨a, 0, none⟩ v0).setCell ⟨a, 1, none⟩ v1) := (h.setCell (p := ⟨a, 0, none⟩) hn _).setCell (p := ⟨a, 1, none⟩) hn _
/-- Two boxes, filled. -/
theorem four_cells {W : World} {a d : Nat} {u0 u1 s0 s1 v0 v1 t0 t1 : Value} (had : a ≠ d) (h0 : W.cell? ⟨a, 0, none⟩ = some u0) (h1 : W.cell? ⟨a, 1, none⟩ = some u1) (k0 : W.cell? ⟨d, 0, none⟩ = some s0) (k1 : W.cell? ⟨d, 1, none⟩ = some s1) :
    ((((W.setCell ⟨a, 0, none⟩ v0).setCell ⟨a, 1, none⟩ v1).setCell ⟨d, 0, none⟩ t0).setCell ⟨d, 1, none⟩ t1).cell? ⟨a, 0, none⟩ = some v0 ∧ ((((W.setCell ⟨a, 0, none⟩ v0).setCell ⟨a, 1, none⟩ v1).setCell ⟨d, 0, none⟩ t0).setCell ⟨d, 1, none⟩ t1).cell? ⟨a, 1, none⟩ = some v1 ∧ ((((W.setCell ⟨a, 0, none⟩ v0).setCell ⟨a, 1, none⟩ v1).setCell ⟨d, 0, none⟩ t0).setCell ⟨d, 1, none⟩ t1).cell? ⟨d, 0, none⟩ = some t0 ∧ ((((W.setCell ⟨a, 0, none⟩ v0).setCell ⟨a, 1, none⟩ v1).setCell ⟨d, 0, none⟩ t0).setCell ⟨d, 1, none⟩ t1).cell? ⟨d, 1, none⟩ = some t1 := by
  obtain ⟨e0, e1⟩ := two_cells (v0 := v0) (v1 := v1) h0 h1
  obtain ⟨e2, e3⟩ := two_cells (W := (W.setCell ⟨a, 0, none⟩ v0).setCell ⟨a, 1, none⟩ v1) (v0 := t0) (v1 := t1) ((cso (.inl had)).trans ((cso (.inl had)).trans k0)) ((cso (.inl had)).trans ((cso (.inl had)).trans k1))
  exact ⟨(cso (.inl had.symm)).trans ((cso (.inl had.symm)).trans e0), (cso (.inl had.symm)).trans ((cso (.inl had.symm)).trans e1), e2, e3⟩
theorem tk_B1 {u0 u1 : Value} (h : Below (b + 1) w1 w2) (hb : b + 1 = w1.heap.size) (x0 : w2.cell? ⟨b + 1, 0, none⟩ = some u0) (x1 : w2.cell? ⟨b + 1, 1, none⟩ = some u1) :
    TkB w1 (((((w2.alloc (.cells #[.int .i64 0, .int .i64 0] T8)).setCell ⟨b + 1, 0, none⟩ (.int .i64 m.np)).setCell ⟨b + 1, 1, none⟩ (.int .i64 m.nc)).setCell ⟨w2.heap.size, 0, none⟩ (.int .i64 m.o)).setCell ⟨w2.heap.size, 1, none⟩ (.int .i64 m.l)) b (b + 1) w2.heap.size m := by
  have hlt := World.block_lt_of_cell? w2 ⟨b + 1, 0, none⟩ x0
  have hlt' : b + 1 < w2.heap.size := hlt
  obtain ⟨e0, e1, e2, e3⟩ := four_cells (W := w2.alloc (.cells #[.int .i64 0, .int .i64 0] T8)) (a := b + 1) (d := w2.heap.size) (s0 := .int .i64 0) (s1 := .int .i64 0) (v0 := .int .i64 m.np) (v1 := .int .i64 m.nc) (t0 := .int .i64 m.o) (t1 := .int .i64 m.l) (by omega) (ka x0 _) (ka x1 _) (by simp [go_sem]) (by simp [go_sem])
  exact ⟨e0, e1, e2, e3, by omega, by omega, bel_two (bel_two (bel_alloc h (by omega) _) (by omega)) (by omega)⟩
theorem tk_B2 {u0 u1 : Value} (h : Below (b + 1) w1 w2) (hb : b + 1 = w1.heap.size) (x0 : w2.cell? ⟨b + 1, 0, none⟩ = some u0) (x1 : w2.cell? ⟨b + 1, 1, none⟩ = some u1) :
    TkB w1 (((w2.alloc (.cells #[.int .i64 m.np, .int .i64 m.nc] T7)).setCell ⟨b + 1, 0, none⟩ (.int .i64 m.o)).setCell ⟨b + 1, 1, none⟩ (.int .i64 m.l)) b w2.heap.size (b + 1) m := by
  have hlt := World.block_lt_of_cell? w2 ⟨b + 1, 0, none⟩ x0
  have hlt' : b + 1 < w2.heap.size := hlt
  obtain ⟨e2, e3⟩ := two_cells (W := w2.alloc (.cells #[.int .i64 m.np, .int .i64 m.nc] T7)) (v0 := .int .i64 m.o) (v1 := .int .i64 m.l) (ka x0 _) (ka x1 _)
  exact ⟨(cso (by omega)).trans ((cso (by omega)).trans (by simp [go_sem])), (cso (by omega)).trans ((cso (by omega)).trans (by simp [go_sem])), e2, e3, by omega, by omega, bel_two (bel_alloc h (by omega) _) (by omega)⟩
theorem tk_C {a d : Nat} {u0 u1 s0 s1 : Value} (h : Below (b + 1) w1 w2) (had : a ≠ d) (ha : b < a) (hd : b < d) (h0 : w2.cell? ⟨a, 0, none⟩ = some u0) (h1 : w2.cell? ⟨a, 1, none⟩ = some u1) (k0 : w2.cell? ⟨d, 0, none⟩ = some s0) (k1 : w2.cell? ⟨d, 1, none⟩ = some s1) :
    TkB w1 ((((w2.setCell ⟨a, 0, none⟩ (.int .i64 m.np)).setCell ⟨a, 1, none⟩ (.int .i64 m.nc)).setCell ⟨d, 0, none⟩ (.int .i64 m.o)).setCell ⟨d, 1, none⟩ (.int .i64 m.l)) b a d m := by
  obtain ⟨e0, e1, e2, e3⟩ := four_cells (v0 := .int .i64 m.np) (v1 := .int .i64 m.nc) (t0 := .int .i64 m.o) (t1 := .int .i64 m.l) had h0 h1 k0 k1
  exact ⟨e0, e1, e2, e3, ha, hd, bel_two (bel_two h (by omega)) (by omega)⟩
end
theorem cells5 {W : World} {b b' o : Nat} {v v0 v1 v2 v3 v4 : Value} (hb : b ≠ b') (h : W.cell? ⟨b, o, none⟩ = some v) : (((((W.setCell ⟨b', 0, none⟩ v0).setCell ⟨b', 1, none⟩ v1).setCell ⟨b', 2, none⟩ v2).setCell ⟨b', 3, none⟩ v3).setCell ⟨b', 4, none⟩ v4).cell? ⟨b, o, none⟩ = some v :=
  (cso (.inl hb.symm)).trans ((cso (.inl hb.symm)).trans ((cso (.inl hb.symm)).trans ((cso (.inl hb.symm)).trans ((cso (.inl hb.symm)).trans h))))
/-- take's boxes, all of them. -/
structure TkF (w wx : World) (b7 b8 : Nat) (m : Mv) : Prop where
  p0 : wx.cell? ⟨b7, 0, none⟩ = some (.int .i64 m.np)
  p1 : wx.cell? ⟨b7, 1, none⟩ = some (.int .i64 m.nc)
  o0 : wx.cell? ⟨b8, 0, none⟩ = some (.int .i64 m.o)
  o1 : wx.cell? ⟨b8, 1, none⟩ = some (.int .i64 m.l)
  r0 : wx.cell? ⟨w.heap.size + 1, 0, none⟩ = some (.int .i64 0)
  r1 : wx.cell? ⟨w.heap.size + 1, 1, none⟩ = some (.int .i64 0)
  r2 : wx.cell? ⟨w.heap.size + 1, 2, none⟩ = some (.int .i64 0)
  r3 : wx.cell? ⟨w.heap.size + 1, 3, none⟩ = some (.int .i64 0)
  r4 : wx.cell? ⟨w.heap.size + 1, 4, none⟩ = some (.int .i64 0)
  fr : RowF wx (w.heap.size + 1)
  n7 : w.heap.size + 1 < b7
  n8 : w.heap.size + 1 < b8
theorem TkF.kept {w wx wy : World} {b7 b8 mb : Nat} {m : Mv} (h : TkF w wx b7 b8 m) (hb : BelX wx.heap.size mb wx wy) (hm : mb < w.heap.size) : TkF w wy b7 b8 m := by
  have h7 := h.n7
  have h8 := h.n8
  have hc : ∀ b o v, b ≠ mb → wx.cell? ⟨b, o, none⟩ = some v → wy.cell? ⟨b, o, none⟩ = some v := fun b o v he hv => (hb.cell (p := ⟨b, o, none⟩) (World.block_lt_of_cell? wx ⟨b, o, none⟩ hv) he).trans hv
  exact ⟨hc _ _ _ (by omega) h.p0, hc _ _ _ (by omega) h.p1, hc _ _ _ (by omega) h.o0, hc _ _ _ (by omega) h.o1, hc _ _ _ (by omega) h.r0, hc _ _ _ (by omega) h.r1, hc _ _ _ (by omega) h.r2, hc _ _ _ (by omega) h.r3, hc _ _ _ (by omega) h.r4, h.fr.kept (hb.block _ h.fr.lt (by omega)), h7, h8⟩
theorem tkf_of {sb g mb wd i c b7 b8 : Nat} {R : List Pl} {S : Nat → Nat → Bool} {w w1 wx : World} {m : Mv} (h : Sk1 sb g mb wd i c R S w w1) (hT : TkB w1 wx (w.heap.size + 1) b7 b8 m) : TkF w wx b7 b8 m := by
  have hc : ∀ o v, w1.cell? ⟨w.heap.size + 1, o, none⟩ = some v → wx.cell? ⟨w.heap.size + 1, o, none⟩ = some v := fun o v hv => (hT.bw.cell (p := ⟨w.heap.size + 1, o, none⟩) (by simp)).trans hv
  exact ⟨hT.p0, hT.p1, hT.o0, hT.o1, hc _ _ h.r0, hc _ _ h.r1, hc _ _ h.r2, hc _ _ h.r3, hc _ _ h.r4, h.fr.kept (hT.bw.block _ (by omega)), hT.n7, hT.n8⟩

set_option maxRecDepth 100000 in
set_option maxHeartbeats 8000000 in
theorem take_any {R : List Pl} {L M i nx dp wd c ch : Nat} {ks : List (Nat × Tr)} {t : Tr} (sb g mb : Nat) (hR : R.length ≤ 400) (hsp : Sp R L M i t nx dp ks) (hc : c ≤ wd) (hw : wd ≤ 100) (hL : L ≤ 400) (hM : M ≤ 3200) (hch : ch = 0 ∨ ch = 1) (hh : t.lg = -1 → ch = 1)
    (hSK : SeekP sb g mb wd R (mvAt R wd i c ch).np (mvAt R wd i c ch).nc) (hV : ∃ k : Cv, k = (if (mvAt R wd i c ch).np < R.length then crs R wd (mvAt R wd i c ch).np (mvAt R wd i c ch).nc else zCv) ∧ k.o = (vv R wd (mvAt R wd i c ch).np (mvAt R wd i c ch).nc).1.1 ∧ k.l = (vv R wd (mvAt R wd i c ch).np (mvAt R wd i c ch).nc).1.2 ∧ k.o ≤ 400000 ∧ k.l ≤ 400000) : TakeP sb g mb wd R i c ch := by
  intro w S h
  have H : Hid (Inv sb g mb wd R w S) := h
  have hlt := h.lt
  obtain ⟨k, hk, hko, hkl, hbo, hbl⟩ := hV
  have hm := mv_ok (ch := ch) hsp hc hw hL hM
  have HMV : Hid (∀ W : World, PlanP W sb g wd R → Calls Tryd.prog 105 #[.pointer (some ⟨sb, 0, none⟩), .agg #[.int .i64 i, .int .i64 c], .int .i64 ch] W fun e w' => e = .returned (.tuple #[.agg #[.int .i64 (mvAt R wd i c ch).np, .int .i64 (mvAt R wd i c ch).nc], .agg #[.int .i64 (mvAt R wd i c ch).o, .int .i64 (mvAt R wd i c ch).l]]) ∧ Below W.heap.size W w') := fun W hW => bmove_any sb g W hR hsp hc hw hL hM hch hh hW
  have HSK : Hid (∀ W S, Inv sb g mb wd R W S → Calls Tryd.prog 55 #[.pointer (some ⟨sb, 0, none⟩), .agg #[.int .i64 (mvAt R wd i c ch).np, .int .i64 (mvAt R wd i c ch).nc]] W fun e w' => e = .returned (.agg #[.int .i64 k.o, .int .i64 k.l, .int .i64 k.ch, .int .i64 k.np, .int .i64 k.nc]) ∧ Left sb g mb wd R S (mvAt R wd i c ch).np (mvAt R wd i c ch).np (mvAt R wd i c ch).nc W w') := fun W S hW => by
    have := hSK W S hW
    rw [← hk] at this
    exact this
  have etk : tkC R wd i c ch = ⟨(mvAt R wd i c ch).o + k.o, (mvAt R wd i c ch).l + k.l, ch, (mvAt R wd i c ch).np, (mvAt R wd i c ch).nc⟩ := by rw [tkC, cvOf, hko, hkl]
  rw [etk, cvV]
  dsimp only
  clear hk hko hkl hSK etk h
  generalize mvAt R wd i c ch = m at *
  have HM : Hid (MvOk R wd i m) := hm
  have ho := hm.bo
  have hl' := hm.bl
  clear hm
  go_enter Tryd.func93, Tryd.ntmps93
  go_wp2_with fail
  have hsk : Sk1 sb g mb wd i c R S w ((w.alloc (.cells #[.int .i64 i, .int .i64 c] 120)).alloc (.cells #[.int .i64 0, .int .i64 0, .int .i64 0, .int .i64 0, .int .i64 0] 122)) := sk1_of (nq := 0) H.out
  generalize (w.alloc (.cells #[.int .i64 i, .int .i64 c] 120)).alloc (.cells #[.int .i64 0, .int .i64 0, .int .i64 0, .int .i64 0, .int .i64 0] 122) = w1 at *
  have HK : Hid (Sk1 sb g mb wd i c R S w w1) := hsk
  have a0 := hsk.a0
  have a1 := hsk.a1
  have hs1 := hsk.sz
  clear hsk
  have HA : Hid (∀ W, Below (w.heap.size + 1 + 1) w1 W → W.cell? ⟨w.heap.size, 0, none⟩ = some (.int .i64 i) ∧ W.cell? ⟨w.heap.size, 1, none⟩ = some (.int .i64 c)) := fun W hb =>
    ⟨(hb.cell (p := ⟨w.heap.size, 0, none⟩) (by simp; omega)).trans a0, (hb.cell (p := ⟨w.heap.size, 1, none⟩) (by simp; omega)).trans a1⟩
  have hd0 : Below (w.heap.size + 1 + 1) w1 w1.drew := (Below.refl _ w1).drew
  have hd1 : ∀ O, Below (w.heap.size + 1 + 1) w1 (w1.alloc O).drew := fun O => (bel_alloc (Below.refl _ w1) (by omega) O).drew
  have hd2 : ∀ O1 O2, Below (w.heap.size + 1 + 1) w1 ((w1.alloc O1).alloc O2).drew := fun O1 O2 => (bel_alloc (bel_alloc (Below.refl _ w1) (by omega) O1) (by omega) O2).drew
  have HPL : Hid (∀ W, Below (w.heap.size + 1 + 1) w1 W → PlanP W sb g wd R) := fun W hb => HK.out.inv.pl.kept (hb.block _ (by omega)) (hb.block _ (by omega))
  have HM0 : Hid (Calls Tryd.prog 105 #[.pointer (some ⟨sb, 0, none⟩), .agg #[.int .i64 i, .int .i64 c], .int .i64 ch] w1.drew fun e w' => e = .returned (.tuple #[.agg #[.int .i64 m.np, .int .i64 m.nc], .agg #[.int .i64 m.o, .int .i64 m.l]]) ∧ Below w1.drew.heap.size w1.drew w') := HMV.out _ (HPL.out _ hd0)
  have HM1 : Hid (∀ O, Calls Tryd.prog 105 #[.pointer (some ⟨sb, 0, none⟩), .agg #[.int .i64 i, .int .i64 c], .int .i64 ch] (w1.alloc O).drew fun e w' => e = .returned (.tuple #[.agg #[.int .i64 m.np, .int .i64 m.nc], .agg #[.int .i64 m.o, .int .i64 m.l]]) ∧ Below (w1.alloc O).drew.heap.size (w1.alloc O).drew w') := fun O => HMV.out _ (HPL.out _ (hd1 O))
  have HM2 : Hid (∀ O1 O2, Calls Tryd.prog 105 #[.pointer (some ⟨sb, 0, none⟩), .agg #[.int .i64 i, .int .i64 c], .int .i64 ch] ((w1.alloc O1).alloc O2).drew fun e w' => e = .returned (.tuple #[.agg #[.int .i64 m.np, .int .i64 m.nc], .agg #[.int .i64 m.o, .int .i64 m.l]]) ∧ Below ((w1.alloc O1).alloc O2).drew.heap.size ((w1.alloc O1).alloc O2).drew w') := fun O1 O2 => HMV.out _ (HPL.out _ (hd2 O1 O2))
  have HX0 : Hid (∀ w2, Below w1.drew.heap.size w1.drew w2 → Below (w.heap.size + 1 + 1) w1 w2) := fun w2 hb => hd0.trans (hb.mono (by show _ ≤ w1.heap.size; omega))
  have HX1 : Hid (∀ T w2, Below (w1.alloc (.cells #[.int .i64 0, .int .i64 0] T)).drew.heap.size (w1.alloc (.cells #[.int .i64 0, .int .i64 0] T)).drew w2 → Below (w.heap.size + 1 + 1) w1 w2 ∧ w2.cell? ⟨w.heap.size + 1 + 1, 0, none⟩ = some (.int .i64 0) ∧ w2.cell? ⟨w.heap.size + 1 + 1, 1, none⟩ = some (.int .i64 0) ∧ w2.frozen? ⟨w.heap.size + 1 + 1, 0, none⟩ = false ∧ w2.frozen? ⟨w.heap.size + 1 + 1, 1, none⟩ = false ∧ w.heap.size + 1 + 1 + 1 ≤ w2.heap.size) := fun T w2 hb => by
    obtain ⟨hcl, hfr⟩ := bcell hb
    have hsz : (w1.alloc (.cells #[.int .i64 0, .int .i64 0] T)).drew.heap.size = w.heap.size + 1 + 1 + 1 := by show (w1.alloc (.cells #[.int .i64 0, .int .i64 0] T)).heap.size = _; simp [hs1]
    have hle := hb.size
    rw [hsz] at hle
    refine ⟨(hd1 _).trans (hb.mono (by rw [hsz]; omega)), (hcl _ _ (by rw [hsz]; omega)).trans ?_, (hcl _ _ (by rw [hsz]; omega)).trans ?_, (hfr _ _ (by rw [hsz]; omega)).trans ?_, (hfr _ _ (by rw [hsz]; omega)).trans ?_, hle⟩
    · rw [← hs1]; simp [go_sem]
    · rw [← hs1]; simp [go_sem]
    · rw [← hs1]; simp [go_sem]
    · rw [← hs1]; simp [go_sem]
  have HX2 : Hid (∀ T1 T2 w2, Below ((w1.alloc (.cells #[.int .i64 0, .int .i64 0] T1)).alloc (.cells #[.int .i64 0, .int .i64 0] T2)).drew.heap.size ((w1.alloc (.cells #[.int .i64 0, .int .i64 0] T1)).alloc (.cells #[.int .i64 0, .int .i64 0] T2)).drew w2 → Below (w.heap.size + 1 + 1) w1 w2 ∧ (w2.cell? ⟨w.heap.size + 1 + 1, 0, none⟩ = some (.int .i64 0) ∧ w2.cell? ⟨w.heap.size + 1 + 1, 1, none⟩ = some (.int .i64 0) ∧ w2.frozen? ⟨w.heap.size + 1 + 1, 0, none⟩ = false ∧ w2.frozen? ⟨w.heap.size + 1 + 1, 1, none⟩ = false) ∧ w2.cell? ⟨w.heap.size + 1 + 1 + 1, 0, none⟩ = some (.int .i64 0) ∧ w2.cell? ⟨w.heap.size + 1 + 1 + 1, 1, none⟩ = some (.int .i64 0) ∧ w2.frozen? ⟨w.heap.size + 1 + 1 + 1, 0, none⟩ = false ∧ w2.frozen? ⟨w.heap.size + 1 + 1 + 1, 1, none⟩ = false) := fun T1 T2 w2 hb => by
    obtain ⟨hcl, hfr⟩ := bcell hb
    have hsz : ((w1.alloc (.cells #[.int .i64 0, .int .i64 0] T1)).alloc (.cells #[.int .i64 0, .int .i64 0] T2)).drew.heap.size = w.heap.size + 1 + 1 + 1 + 1 := by show ((w1.alloc (.cells #[.int .i64 0, .int .i64 0] T1)).alloc (.cells #[.int .i64 0, .int .i64 0] T2)).heap.size = _; simp [hs1]
    refine ⟨(hd2 _ _).trans (hb.mono (by rw [hsz]; omega)), ⟨(hcl _ _ (by rw [hsz]; omega)).trans ?_, (hcl _ _ (by rw [hsz]; omega)).trans ?_, (hfr _ _ (by rw [hsz]; omega)).trans ?_, (hfr _ _ (by rw [hsz]; omega)).trans ?_⟩, (hcl _ _ (by rw [hsz]; omega)).trans ?_, (hcl _ _ (by rw [hsz]; omega)).trans ?_, (hfr _ _ (by rw [hsz]; omega)).trans ?_, (hfr _ _ (by rw [hsz]; omega)).trans ?_⟩
    all_goals rw [← hs1]; simp [go_sem]
  have HS1 : Hid (w1.heap.size = w.heap.size + 1 + 1) := hs1
  clear HMV hch hh hsp
  go_cut [0, 2, 6, 7, 8] (fun s0 s2 s6 s7 s8 wx => s0 = .pointer (some ⟨sb, 0, none⟩) ∧ s2 = .int .i64 ch ∧ s6 = .pointer (some ⟨w.heap.size + 1, 0, none⟩) ∧ ∃ b7 b8, s7 = .pointer (some ⟨b7, 0, none⟩) ∧ s8 = .pointer (some ⟨b8, 0, none⟩) ∧ TkB w1 wx (w.heap.size + 1) b7 b8 m)
  case first =>
    go_region_held3 (fun w' => w'.cell? ⟨w.heap.size, 0, none⟩ = some (.int .i64 i) ∧ w'.cell? ⟨w.heap.size, 1, none⟩ = some (.int .i64 c))
      (first | with_reducible exact HA.out _ hd0 | with_reducible exact HA.out _ (hd1 _) | with_reducible exact HA.out _ (hd2 _ _) | with_reducible exact HA.out _ hE2 | with_reducible exact HA.out _ (bel_alloc hE2 (Nat.le_of_eq HS1.out.symm) _) | with_reducible exact HA.out _ (bel_alloc (bel_alloc hE2 (Nat.le_of_eq HS1.out.symm) _) (Nat.le_of_eq HS1.out.symm) _) | with_reducible exact HA.out _ (bel_two hE2 (by omega)) | with_reducible exact HA.out _ (bel_two (bel_two hE2 (by omega)) (by omega)) | with_reducible exact HA.out _ (bel_two (bel_alloc hE2 (Nat.le_of_eq HS1.out.symm) _) (by omega)) | with_reducible exact HA.out _ (bel_two (bel_two (bel_alloc hE2 (Nat.le_of_eq HS1.out.symm) _) (by omega)) (by omega)))
      (first | (go_at_call 105; go_fit HM0.out; rintro e w2 ⟨rfl, hb2⟩; have hE2 := HX0.out _ hb2) | (go_at_call 105; go_fit (HM1.out _); rintro e w2 ⟨rfl, hb2⟩; obtain ⟨hE2, x0, x1, f0, f1, hle⟩ := HX1.out _ _ hb2; have x0' := fun O => ka x0 O; have x1' := fun O => ka x1 O; have f0' := fun O => kaf (Nat.lt_of_succ_le hle) f0 O; have f1' := fun O => kaf (Nat.lt_of_succ_le hle) f1 O) | (go_at_call 105; go_fit (HM2.out _ _); rintro e w2 ⟨rfl, hb2⟩; obtain ⟨hE2, ⟨x0, x1, f0, f1⟩, x2, x3, f2, f3⟩ := HX2.out _ _ _ hb2))
    all_goals
      go_wp2
      go_meet
      first
        | with_reducible exact ⟨rfl, rfl, rfl, w2.heap.size, w2.heap.size + 1, rfl, rfl, tk_A1 (w2 := w2) (b := w.heap.size + 1) (m := m) (T7 := 120) (T8 := 23) hE2 HS1.out.symm⟩
        | with_reducible exact ⟨rfl, rfl, rfl, w2.heap.size + 1, w2.heap.size, rfl, rfl, tk_A2 (w2 := w2) (b := w.heap.size + 1) (m := m) (T7 := 120) (T8 := 23) hE2 HS1.out.symm⟩
        | with_reducible exact ⟨rfl, rfl, rfl, w.heap.size + 1 + 1, w2.heap.size, rfl, rfl, tk_B1 (w2 := w2) (b := w.heap.size + 1) (m := m) (T8 := 23) hE2 HS1.out.symm x0 x1⟩
        | with_reducible exact ⟨rfl, rfl, rfl, w2.heap.size, w.heap.size + 1 + 1, rfl, rfl, tk_B2 (w2 := w2) (b := w.heap.size + 1) (m := m) (T7 := 120) hE2 HS1.out.symm x0 x1⟩
        | with_reducible exact ⟨rfl, rfl, rfl, w.heap.size + 1 + 1, w.heap.size + 1 + 1 + 1, rfl, rfl, tk_C (w2 := w2) (b := w.heap.size + 1) (m := m) (a := w.heap.size + 1 + 1) (d := w.heap.size + 1 + 1 + 1) hE2 (by omega) (by omega) (by omega) x0 x1 x2 x3⟩
        | with_reducible exact ⟨rfl, rfl, rfl, w.heap.size + 1 + 1 + 1, w.heap.size + 1 + 1, rfl, rfl, tk_C (w2 := w2) (b := w.heap.size + 1) (m := m) (a := w.heap.size + 1 + 1 + 1) (d := w.heap.size + 1 + 1) hE2 (by omega) (by omega) (by omega) x2 x3 x0 x1⟩
  case rest =>
    obtain ⟨rfl, rfl, rfl, b7, b8, rfl, rfl, hT⟩ := hcut
    have HTF : Hid (TkF w wc b7 b8 m) := tkf_of HK.out hT
    have HIC : Hid (Inv sb g mb wd R wc.drew S) := HK.out.inv.kept3 (hT.bw.block _ (by omega)) (hT.bw.block _ (by omega)) (hT.bw.block _ (by omega))
    have HBC : Hid (BelX w.heap.size mb w wc.drew) := (BelX.of (HK.out.bw.trans (hT.bw.mono (by omega)))).drew
    have o0 : wc.drew.cell? ⟨b8, 0, none⟩ = some (.int .i64 m.o) := HTF.out.o0
    have o1 : wc.drew.cell? ⟨b8, 1, none⟩ = some (.int .i64 m.l) := HTF.out.o1
    have p0 : wc.drew.cell? ⟨b7, 0, none⟩ = some (.int .i64 m.np) := HTF.out.p0
    have p1 : wc.drew.cell? ⟨b7, 1, none⟩ = some (.int .i64 m.nc) := HTF.out.p1
    have HN7 : Hid (b7 ≠ w.heap.size + 1) := (show b7 ≠ w.heap.size + 1 by have := HTF.out.n7; omega)
    have HN8 : Hid (b8 ≠ w.heap.size + 1) := (show b8 ≠ w.heap.size + 1 by have := HTF.out.n8; omega)
    have HSE : Hid (Calls Tryd.prog 55 #[.pointer (some ⟨sb, 0, none⟩), .agg #[.int .i64 m.np, .int .i64 m.nc]] wc.drew fun e w' => e = .returned (.agg #[.int .i64 k.o, .int .i64 k.l, .int .i64 k.ch, .int .i64 k.np, .int .i64 k.nc]) ∧ TkF w w' b7 b8 m ∧ BelX w.heap.size mb w w' ∧ ∃ S', Inv sb g mb wd R w' S' ∧ (∀ a b, S a b = true → S' a b = true) ∧ (∀ a b, S' a b = true → S a b = true ∨ i + 1 ≤ a) ∧ (m.np < R.length → S' m.np m.nc = true)) := by
      refine (HSK.out wc.drew S HIC.out).mono ?_
      rintro e w6 ⟨rfl, hbx, S', hI, hmo, hlo, hin⟩
      have hnp := HM.out.lo
      refine ⟨rfl, HTF.out.kept (mb := mb) ⟨hbx.os, hbx.tape, hbx.output, hbx.size, hbx.block⟩ hlt.2.2, HBC.out.trans (hbx.mono HBC.out.size), S', hI, hmo, fun a b hab => ?_, hin⟩
      rcases hlo a b hab with h | h
      · exact .inl h
      · exact .inr (by omega)
    have HSU : Hid (∀ W, Calls Tryd.prog 106 #[.agg #[.int .i64 m.o, .int .i64 m.l], .agg #[.int .i64 k.o, .int .i64 k.l]] W fun e w' => e = .returned (.agg #[.int .i64 ((m.o + k.o : Nat) : Int), .int .i64 ((m.l + k.l : Nat) : Int)]) ∧ Below W.heap.size W w') := fun W => bsum_any m.o m.l k.o k.l (by omega) (by omega) hbo hbl W
    clear hT HSK HM0 HM1 HM2 HX0 HX1 HX2 HA HPL hd0 hd1 hd2 a0 a1 hs1
    have hfc := fieldCost
    go_wp2_with fail
    go_region_held3 (fun w' => w'.cell? ⟨b8, 0, none⟩ = some (.int .i64 m.o) ∧ w'.cell? ⟨b8, 1, none⟩ = some (.int .i64 m.l) ∧ w'.cell? ⟨b7, 0, none⟩ = some (.int .i64 m.np) ∧ w'.cell? ⟨b7, 1, none⟩ = some (.int .i64 m.nc))
      (first | with_reducible exact ⟨o0, o1, p0, p1⟩ | with_reducible exact ⟨hF6.o0, hF6.o1, hF6.p0, hF6.p1⟩ | with_reducible exact ⟨hF7.o0, hF7.o1, hF7.p0, hF7.p1⟩ | with_reducible exact ⟨cells5 HN8.out hF7.o0, cells5 HN8.out hF7.o1, cells5 HN7.out hF7.p0, cells5 HN7.out hF7.p1⟩)
      (first | (go_at_call 55; refine HSE.out.mono ?_; rintro e w6 ⟨rfl, hF6, hR6⟩) | (go_at_call 106; refine (HSU.out _).mono ?_; rintro e w7 ⟨rfl, hb7⟩; have hF7 := hF6.kept (BelX.of hb7) hlt.2.2; have r0 := hF7.r0; have r1 := hF7.r1; have r2 := hF7.r2; have r3 := hF7.r3; have r4 := hF7.r4; have y0 : w7.frozen? ⟨w.heap.size + 1, 0, none⟩ = false := hF7.fr.frozen; have y1 : w7.frozen? ⟨w.heap.size + 1, 1, none⟩ = false := hF7.fr.frozen; have y2 : w7.frozen? ⟨w.heap.size + 1, 2, none⟩ = false := hF7.fr.frozen; have y3 : w7.frozen? ⟨w.heap.size + 1, 3, none⟩ = false := hF7.fr.frozen; have y4 : w7.frozen? ⟨w.heap.size + 1, 4, none⟩ = false := hF7.fr.frozen))
    all_goals
      obtain ⟨hbx6, S', hI6, hmo, hlo, hin⟩ := hR6
      go_wp2
      exact bodyPost_ret (v := .agg #[.int .i64 ((m.o : Int) + k.o), .int .i64 ((m.l : Int) + k.l), .int .i64 ch, .int .i64 m.np, .int .i64 m.nc]) (by simp [results, Tryd.results93, go_sem, r0, r1, r2, r3, r4]) rfl ⟨rfl, belX5 (hbx6.trans (BelX.of (hb7.mono hbx6.size))) (by omega) _ _ _ _ _, S', (hI6.below hb7).set5 (by omega) (by omega) (by omega) _ _ _ _ _, hmo, hlo, hin⟩
end Go.Proofs.YtfabfclbnekleaaDoor
