/- What cost.Of hands back: for every text and width. -/
import Derived.Test.YtppdaldobmlooaaIter
import Derived.Test.YtppdaldobmlooaaBase
import Derived.RangeFuncFrom
import Derived.Outline
namespace Go.Proofs.Ytppdaldobmlooaa
open Go Go.RowKit Go.Shelf
attribute [local go_sem] Oper.semAt_some

theorem cell_blk {W : World} {B i : Nat} {xs : Array Value} {t : TypeId} {v : Value} (h : W.heap[B]? = some (.cells xs t (0, 0))) (hi : xs[i]? = some v) : W.cell? ⟨B, i, none⟩ = some v ∧ W.frozen? ⟨B, i, none⟩ = false := by
  constructor <;> simp [World.cell?, World.frozen?, h, hi]
theorem cell_new2 (W : World) (xs : Array Value) (t : TypeId) (i : Nat) (v : Value) (hi : xs[i]? = some v) : (W.alloc (.cells xs t)).cell? ⟨W.heap.size, i, none⟩ = some v ∧ (W.alloc (.cells xs t)).frozen? ⟨W.heap.size, i, none⟩ = false :=
  cell_blk (World.alloc_heap_new W _) hi
theorem cell_alloc_l {W : World} {a : Addr} {v : Value} (o : Obj) (h : W.cell? a = some v) : (W.alloc o).cell? a = some v := cell_kept h (World.grownBy_alloc W o none) (fun r e => by cases e)
theorem frozen_alloc_l {W : World} {a : Addr} {v : Value} (o : Obj) (h : W.cell? a = some v) (hf : W.frozen? a = false) : (W.alloc o).frozen? a = false := (frozen_kept h (World.grownBy_alloc W o none) (fun r e => by cases e)).trans hf

abbrev zeroCost : Value := .agg #[.int .i64 0, .int .i64 0]
abbrev errV (n : Int) : Value := .iface 32 (.int .i64 n)

set_option maxRecDepth 100000 in
set_option maxHeartbeats 1000000 in
theorem of_full (s : ByteArray) (wd : Int) (w : World) (h : 60000 < s.size) :
    Calls Try.prog 4 #[.string s, .int .i64 wd] w fun e w' => e = .returned (.tuple #[zeroCost, errV 3]) ∧ Below w.heap.size w w' := by
  have h' : (60000 : Int) < (s.size : Int) := by omega
  clear h
  go_enter Try.func4, Try.ntmps4
  go_wp2
  exact bodyPost_ret (v := .tuple #[zeroCost, errV 3]) (by simp [results, Try.results4, go_sem]) rfl ⟨rfl, ((Below.refl _ _).alloc (Nat.le_refl _) _).alloc (by simp) _⟩

set_option maxRecDepth 100000 in
set_option maxHeartbeats 1000000 in
theorem of_range (s : ByteArray) (wd : Int) (w : World) (h : s.size ≤ 60000) (hw : wd < 0 ∨ 100 < wd) :
    Calls Try.prog 4 #[.string s, .int .i64 wd] w fun e w' => e = .returned (.tuple #[zeroCost, errV 1]) ∧ Below w.heap.size w w' := by
  have h' : ¬ (60000 : Int) < (s.size : Int) := by omega
  clear h
  rcases hw with hw | hw
  · go_enter Try.func4, Try.ntmps4
    go_wp2
    exact bodyPost_ret (v := .tuple #[zeroCost, errV 1]) (by simp [results, Try.results4, go_sem]) rfl ⟨rfl, ((Below.refl _ _).alloc (Nat.le_refl _) _).alloc (by simp) _⟩
  · have hw' : ¬ wd < 0 := by omega
    go_enter Try.func4, Try.ntmps4
    go_wp2
    exact bodyPost_ret (v := .tuple #[zeroCost, errV 1]) (by simp [results, Try.results4, go_sem]) rfl ⟨rfl, ((Below.refl _ _).alloc (Nat.le_refl _) _).alloc (by simp) _⟩

def ovs (wd : Int) (pre : List LnT) : Int := over wd (pre.map fun x => (x.1.size : Int))
theorem ovs_nil (wd : Int) : ovs wd [] = 0 := rfl
theorem ovs_snoc (wd : Int) (pre : List LnT) (x : LnT) : ovs wd (pre ++ [x]) = ovs wd pre + ovr wd x.1.size := by
  unfold ovs; rw [List.map_append, over_append]; simp [over]
theorem ovs_nonneg (wd : Int) (pre : List LnT) : 0 ≤ ovs wd pre := over_nonneg _ _
theorem ovs_le (wd : Int) (h : 0 ≤ wd) (pre : List LnT) (hp : pre.length ≤ 60001) : ovs wd pre ≤ 6000100000000 := by
  have := over_le wd h (M := 100000000) (pre.map fun x => (x.1.size : Int)) (by
    intro m hm
    obtain ⟨y, _, rfl⟩ := List.mem_map.1 hm
    have := y.2
    omega)
  rw [List.length_map] at this
  unfold ovs
  omega
theorem ovs_done (wd : Int) (s : ByteArray) (ys : List LnT) (h : ys.map (·.1) = lnsB s) : ovs wd ys = costOver s wd ∧ (ys.length : Int) - 1 = costLines s := by
  have e : (ys.map fun x => (x.1.size : Int)) = lens s.data.toList := by
    have e1 : (ys.map fun x => (x.1.size : Int)) = (ys.map (·.1)).map fun b => (b.size : Int) := by rw [List.map_map]; rfl
    rw [e1, h]
    unfold lnsB lens
    rw [List.map_map]
    rfl
  refine ⟨by unfold ovs costOver; rw [e], ?_⟩
  unfold costLines
  rw [← e, List.length_map]

set_option maxRecDepth 100000 in
set_option maxHeartbeats 2000000 in
theorem of_ok_in (n : Nat) (hn : 3 ≤ n) (s : ByteArray) (wd : Int) (w : World) (h : s.size ≤ 60000) (hw0 : 0 ≤ wd) (hw1 : wd ≤ 100) :
    CallsIn Fence.wide n Try.prog 4 #[.string s, .int .i64 wd] w fun e w' => e = .returned (.tuple #[.agg #[.int .i64 (costOver s wd), .int .i64 (costLines s)], .nilIface]) ∧ Below w.heap.size w w' := by
  have h1 : 1 ≤ n := by omega
  have h' : ¬ (60000 : Int) < (s.size : Int) := by omega
  have h2 : ¬ wd < 0 := by omega
  have h3 : ¬ 100 < wd := by omega
  obtain ⟨F, hFe⟩ : ∃ F, F = Fence.wide := ⟨_, rfl⟩
  rw [← hFe]
  have hF : ∀ f, F.fn f := fun f => by rw [hFe]; trivial
  have hro : F.round = none := by rw [hFe]; rfl
  have HFe : Hid (F = Fence.wide) := hFe
  clear hFe
  refine callsIn_of_wp_marks Try.func4 rfl (hF 4) ?_ hro
  simp only [Try.ntmps4, List.size_toArray, List.length_cons, List.length_nil, Nat.reduceAdd, Nat.reduceSub, Array.replicate_succ, Array.replicate_zero, List.push_toArray, List.append_toArray, List.nil_append, List.cons_append]
  gi_wp2_with (gi_at_call 7; rw [HFe.out]; refine (callsIn_wide.2 (lines_any _ _)).mono ?_; rintro e w' ⟨rfl, rfl⟩)
  have c0 := cell_new2 w #[.int .i64 wd] 3 0 (.int .i64 wd) rfl
  have c1 := cell_new2 (w.alloc (.cells #[.int .i64 wd] 3)) #[.int .i64 0, .int .i64 0] 23 0 (.int .i64 0) rfl
  have c2 := cell_new2 (w.alloc (.cells #[.int .i64 wd] 3)) #[.int .i64 0, .int .i64 0] 23 1 (.int .i64 0) rfl
  have c3 := cell_new2 ((w.alloc (.cells #[.int .i64 wd] 3)).alloc (.cells #[.int .i64 0, .int .i64 0] 23)) #[.int .i64 0, .int .i64 (-1)] 23 0 (.int .i64 0) rfl
  have c4 := cell_new2 ((w.alloc (.cells #[.int .i64 wd] 3)).alloc (.cells #[.int .i64 0, .int .i64 0] 23)) #[.int .i64 0, .int .i64 (-1)] 23 1 (.int .i64 (-1)) rfl
  have c5 := cell_new2 (((w.alloc (.cells #[.int .i64 wd] 3)).alloc (.cells #[.int .i64 0, .int .i64 0] 23)).alloc (.cells #[.int .i64 0, .int .i64 (-1)] 23)) #[.string s] 9 0 (.string s) rfl
  simp only [World.size_alloc] at c1 c2 c3 c4 c5
  have hB0 : Below w.heap.size w ((((w.alloc (.cells #[.int .i64 wd] 3)).alloc (.cells #[.int .i64 0, .int .i64 0] 23)).alloc (.cells #[.int .i64 0, .int .i64 (-1)] 23)).alloc (.cells #[.string s] 9)) :=
    ((((Below.refl _ w).alloc (Nat.le_refl _) _).alloc (by simp) _).alloc (by simp; omega) _).alloc (by simp; omega) _
  have hlen : (lnsB s).length ≤ 60001 := by
    have := lns_len s.data.toList
    rw [← Lib.size_eq] at this
    unfold lnsB; simp; omega
  have hseq := lines_stops (n - 1) (by omega) (w.heap.size + 1 + 1 + 1) w.heap.size s (by omega) _ (by simp) c5.1
  rw [← HFe.out] at hseq
  refine wpIn_rangeFunc_ownF hro h1 (gf := 9) (lb := #[.pointer (some ⟨w.heap.size + 1 + 1 + 1, 0, none⟩)]) rfl (hF 9) (enters_of Try.func9 (by kernel_rfl) rfl)
    hseq belowK_t (belowK_b (by simp; omega)) (Below.refl _ _) (fun _ => rfl)
    (fun pre W => (W.cell? ⟨w.heap.size, 0, none⟩ = some (.int .i64 wd) ∧ W.cell? ⟨w.heap.size + 1, 0, none⟩ = some (.int .i64 0) ∧ W.frozen? ⟨w.heap.size + 1, 0, none⟩ = false ∧ W.cell? ⟨w.heap.size + 1, 1, none⟩ = some (.int .i64 0) ∧ W.frozen? ⟨w.heap.size + 1, 1, none⟩ = false
      ∧ W.cell? ⟨w.heap.size + 1 + 1, 0, none⟩ = some (.int .i64 (ovs wd pre)) ∧ W.frozen? ⟨w.heap.size + 1 + 1, 0, none⟩ = false ∧ W.cell? ⟨w.heap.size + 1 + 1, 1, none⟩ = some (.int .i64 ((pre.length : Int) - 1)) ∧ W.frozen? ⟨w.heap.size + 1 + 1, 1, none⟩ = false) ∧ Below w.heap.size w W)
    (fun _ _ _ => False)
    (OwnFrom.and (Own.from (fun s A B row hs hg hr => ⟨cell_kept hs.1 hg hr, cell_kept hs.2.1 hg hr, (frozen_kept hs.2.1 hg hr).trans hs.2.2.1, cell_kept hs.2.2.2.1 hg hr, (frozen_kept hs.2.2.2.1 hg hr).trans hs.2.2.2.2.1,
      cell_kept hs.2.2.2.2.2.1 hg hr, (frozen_kept hs.2.2.2.2.2.1 hg hr).trans hs.2.2.2.2.2.2.1, cell_kept hs.2.2.2.2.2.2.2.1 hg hr, (frozen_kept hs.2.2.2.2.2.2.2.1 hg hr).trans hs.2.2.2.2.2.2.2.2⟩) _) (ownFrom_below (Nat.le_refl _) (by simp; omega)))
    (fun _ _ _ _ _ hs _ _ => hs)
    ⟨⟨cell_alloc_l _ (cell_alloc_l _ (cell_alloc_l _ c0.1)), cell_alloc_l _ (cell_alloc_l _ c1.1), frozen_alloc_l _ (cell_alloc_l _ c1.1) (frozen_alloc_l _ c1.1 c1.2), cell_alloc_l _ (cell_alloc_l _ c2.1), frozen_alloc_l _ (cell_alloc_l _ c2.1) (frozen_alloc_l _ c2.1 c2.2),
      cell_alloc_l _ c3.1, frozen_alloc_l _ c3.1 c3.2, cell_alloc_l _ c4.1, frozen_alloc_l _ c4.1 c4.2⟩, hB0⟩
    (fun x => { tmps := #[.string s, .int .i64 wd, undef, .pointer (some ⟨w.heap.size, 0, none⟩), .pointer (some ⟨w.heap.size + 1, 0, none⟩), .nilIface, .pointer (some ⟨w.heap.size + 1 + 1, 0, none⟩), .string x.1, .string s, .int .i64 s.size, .bool false, undef, undef, .int .i64 wd, .bool false, .bool false, .int .i64 wd, .bool false, .bool false, undef, undef, .agg #[.int .i64 0, .int .i64 (-1)], .string s, .func (.func 9) #[] #[.pointer (some ⟨w.heap.size + 1 + 1 + 1, 0, none⟩)], .string x.1, undef, undef, undef, undef, undef, undef, undef, undef, undef, undef, undef, undef, undef, undef], defers := [] }) ?assign ?body ?done ?stop
  case assign =>
    intro l x W K hK
    gi_wp2
    exact hK
  case body =>
    rintro l pre x W ⟨⟨hw, r0, fr0, r1, fr1, k0, fk0, k1, fk1⟩, hB⟩ hlt
    have hx := x.2
    have b1 := ovs_nonneg wd pre
    have b4 := ovs_le wd hw0 pre (by omega)
    have b5 : ((pre.length : Int)) ≤ 60001 := by omega
    have b6 : (0 : Int) ≤ (pre.length : Int) := by omega
    have b7 : ((x.1.size : Nat) : Int) ≤ 100000000 := by omega
    clear hlt hx hlen c0 c1 c2 c3 c4 c5
    gi_wp2
    all_goals
      refine ⟨(KeepsOthers.setCell _ _ _).trans (KeepsOthers.setCell _ _ _), ((Below.refl w.heap.size W).setCell (p := ⟨w.heap.size + 1 + 1, 1, none⟩) (by simp; omega) _).setCell (p := ⟨w.heap.size + 1 + 1, 0, none⟩) (by simp; omega) _, ⟨?_, ?_, ?_, ?_, ?_, ?_, ?_, ?_, ?_⟩, (hB.setCell (p := ⟨w.heap.size + 1 + 1, 1, none⟩) (by simp; omega) _).setCell (p := ⟨w.heap.size + 1 + 1, 0, none⟩) (by simp; omega) _⟩
      · exact (cso (by omega)).trans ((cso (by omega)).trans hw)
      · exact (cso (by omega)).trans ((cso (by omega)).trans r0)
      · exact csf.trans (csf.trans fr0)
      · exact (cso (by omega)).trans ((cso (by omega)).trans r1)
      · exact csf.trans (csf.trans fr1)
      · refine (css ((cso (by omega)).trans k0)).trans ?_
        rw [ovs_snoc]
        unfold ovr
        refine congrArg (fun z : Int => some (Value.int .i64 z)) ?_
        omega
      · exact csf.trans (csf.trans fk0)
      · refine (cso (by omega)).trans ((css k1).trans ?_)
        refine congrArg (fun z : Int => some (Value.int .i64 z)) ?_
        simp
      · exact csf.trans (csf.trans fk1)
  case done =>
    rintro D ys W hD hys ⟨⟨hw, r0, fr0, r1, fr1, k0, fk0, k1, fk1⟩, hB⟩ hK
    obtain ⟨e1, e2⟩ := ovs_done wd s ys hys
    rw [e1] at k0
    rw [e2] at k1
    clear e1 e2 hys
    gi_wp2
    have hK' := ((KeepsOthers.setCell W ⟨w.heap.size + 1, 0, none⟩ (.int .i64 (costOver s wd))).trans (KeepsOthers.setCell _ ⟨w.heap.size + 1, 1, none⟩ (.int .i64 (costLines s)))).same D _ hK rfl
    refine ⟨by simp, .inl ⟨_, _, rfl, run_takeDeferred hK', ?_⟩⟩
    have q0 : ((W.setCell ⟨w.heap.size + 1, 0, none⟩ (.int .i64 (costOver s wd))).setCell ⟨w.heap.size + 1, 1, none⟩ (.int .i64 (costLines s))).cell? ⟨w.heap.size + 1, 0, none⟩ = some (.int .i64 (costOver s wd)) :=
      (cso (by omega)).trans (css r0)
    have q1 : ((W.setCell ⟨w.heap.size + 1, 0, none⟩ (.int .i64 (costOver s wd))).setCell ⟨w.heap.size + 1, 1, none⟩ (.int .i64 (costLines s))).cell? ⟨w.heap.size + 1, 1, none⟩ = some (.int .i64 (costLines s)) :=
      css ((cso (by omega)).trans r1)
    have q0' := cell_kept q0 (grownBy_putObj' _ D (.deferred none)) (fun r e => by cases e; exact ⟨_, hK', rfl⟩)
    have q1' := cell_kept q1 (grownBy_putObj' _ D (.deferred none)) (fun r e => by cases e; exact ⟨_, hK', rfl⟩)
    refine ⟨.tuple #[.agg #[.int .i64 (costOver s wd), .int .i64 (costLines s)], .nilIface], ?_, rfl, ((hB.setCell (p := ⟨w.heap.size + 1, 0, none⟩) (by simp) _).setCell (p := ⟨w.heap.size + 1, 1, none⟩) (by simp) _).trans (belowK_b (w := w) (Nat.le_refl _) _ D _ _ (by simp at hD; omega) hK' rfl rfl)⟩
    simp [results, Try.results4, go_sem, q0', q1']
  case stop =>
    rintro D c pre W _ _ h _
    exact h.elim

theorem of_ok (s : ByteArray) (wd : Int) (w : World) (h : s.size ≤ 60000) (hw0 : 0 ≤ wd) (hw1 : wd ≤ 100) :
    Calls Try.prog 4 #[.string s, .int .i64 wd] w fun e w' => e = .returned (.tuple #[.agg #[.int .i64 (costOver s wd), .int .i64 (costLines s)], .nilIface]) ∧ Below w.heap.size w w' :=
  callsIn_wide.1 (of_ok_in 3 (Nat.le_refl _) s wd w h hw0 hw1)
end Go.Proofs.Ytppdaldobmlooaa
