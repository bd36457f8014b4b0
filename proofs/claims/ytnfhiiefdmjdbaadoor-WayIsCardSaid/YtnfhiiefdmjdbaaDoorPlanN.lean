/- newPlan of package way, the call. -/
import Derived.Test.YtnfhiiefdmjdbaaDoorPlanZ
namespace Go.Proofs.YtnfhiiefdmjdbaaDoor
open Go Go.RowKit

theorem madeRow (z : Value) (n : Nat) : (madeCells #[z] n).size = n := by simp [madeCells]

theorem heaps4 (w : World) (O0 O1 O2 O3 : Obj) : ((((w.alloc O0).alloc O1).alloc O2).alloc O3).drew.heap[w.heap.size]? = some O0 ∧ ((((w.alloc O0).alloc O1).alloc O2).alloc O3).drew.heap[w.heap.size + 1]? = some O1
    ∧ ((((w.alloc O0).alloc O1).alloc O2).alloc O3).drew.heap[w.heap.size + 1 + 1]? = some O2 ∧ ((((w.alloc O0).alloc O1).alloc O2).alloc O3).drew.heap[w.heap.size + 1 + 1 + 1]? = some O3 := by
  have s1 : (w.alloc O0).heap.size = w.heap.size + 1 := by simp
  have s2 : ((w.alloc O0).alloc O1).heap.size = w.heap.size + 1 + 1 := by simp
  have s3 : (((w.alloc O0).alloc O1).alloc O2).heap.size = w.heap.size + 1 + 1 + 1 := by simp
  have n0 := heap_alloc_new w O0
  have n1 := heap_alloc_new (w.alloc O0) O1
  have n2 := heap_alloc_new ((w.alloc O0).alloc O1) O2
  have n3 := heap_alloc_new (((w.alloc O0).alloc O1).alloc O2) O3
  rw [s1] at n1
  rw [s2] at n2
  rw [s3] at n3
  refine ⟨?_, ?_, ?_, n3⟩
  · exact (Below.heap_alloc _ _ _ (by omega)).trans ((Below.heap_alloc _ _ _ (by omega)).trans ((Below.heap_alloc _ _ _ (by omega)).trans n0))
  · exact (Below.heap_alloc _ _ _ (by omega)).trans ((Below.heap_alloc _ _ _ (by omega)).trans n1)
  · exact (Below.heap_alloc _ _ _ (by omega)).trans n2
theorem below4 (w : World) (O0 O1 O2 O3 : Obj) : Below w.heap.size w ((((w.alloc O0).alloc O1).alloc O2).alloc O3).drew :=
  Below.drew (((((Below.refl _ w).alloc (Nat.le_refl _) _).alloc (by simp) _).alloc (by simp; omega) _).alloc (by simp; omega) _)

theorem planM_of {w W : World} {s bp be bf cap : Nat} {a : Option Addr} {ds : List Nd} (hs : s < w.heap.size) (hN : NodsS s w a ds) (bw : Below w.heap.size w W) (rb : W.heap[w.heap.size]? = some (.cells #[.slice none 0 0, .slice none 0 0, .slice none 0 0] 92 (0, 0)))
    (hp : W.heap[bp]? = some (.cells #[.slice a ds.length cap, .slice (some ⟨be, 0, none⟩) ds.length ds.length, .slice (some ⟨bf, 0, none⟩) ds.length ds.length] 92 (0, 0))) {ce cf : Array Value} {Te Tf : TypeId} (he : W.heap[be]? = some (.cells ce Te (0, 0))) (hce : ce.size = ds.length) (hf : W.heap[bf]? = some (.cells cf Tf (0, 0))) (hcf : cf.size = ds.length)
    (b1 : w.heap.size ≤ bp) (b2 : w.heap.size + 1 ≤ be) (b3 : w.heap.size + 1 ≤ bf) (n1 : bp ≠ be) (n2 : bp ≠ bf) (n3 : be ≠ bf) : PlanM w s bp be bf a cap ds W where
  b1 := b1
  b2 := b2
  b3 := b3
  n1 := n1
  n2 := n2
  n3 := n3
  c0 := by simp [World.cell?, hp]
  c1 := by simp [World.cell?, hp]
  c2 := by simp [World.cell?, hp]
  re := ⟨ce, Te, he, hce⟩
  rf := ⟨cf, Tf, hf, hcf⟩
  rb := rb
  bw := bw
  nd := hN.kept (bw.block s hs)

set_option maxRecDepth 100000 in
set_option maxHeartbeats 4000000 in
theorem newPlan_any (ds : List Nd) (a : Option Addr) (cap s : Nat) (w : World) (h0 : docF ds = 0) (hN : NodsS s w a ds) (hs : s < w.heap.size) :
    Calls Tryd.prog 43 #[.slice a ds.length cap] w fun e w' => (∃ be bf, e = .returned (.agg #[.slice a ds.length cap, .slice (some ⟨be, 0, none⟩) ds.length ds.length, .slice (some ⟨bf, 0, none⟩) ds.length ds.length]) ∧ be < w'.heap.size ∧ bf < w'.heap.size ∧ Known w' be bf ds 0) ∧ Below w.heap.size w w' := by
  obtain ⟨hl, hn0, he⟩ := docF_zero h0
  have hm1 : ∀ W : World, (Instr.makeSlice 60 (.int .i64 (ds.length : Int)) (.int .i64 (ds.length : Int))).run Tryd.prog W = .ok (.slice (some ⟨W.heap.size, 0, none⟩) ds.length ds.length) (W.alloc (.cells (madeCells #[.int .i64 0] ds.length) 3)) := fun W =>
    run_make_row' 60 3 _ 8 Tryd.underlying60 intInfo rfl .i64 .i64 ds.length (by omega) (by omega) W
  have hm2 : ∀ W : World, (Instr.makeSlice 90 (.int .i64 (ds.length : Int)) (.int .i64 (ds.length : Int))).run Tryd.prog W = .ok (.slice (some ⟨W.heap.size, 0, none⟩) ds.length ds.length) (W.alloc (.cells (madeCells #[.bool false] ds.length) 4)) := fun W =>
    run_make_row' 90 4 _ 1 Tryd.underlying90 boolInfo rfl .i64 .i64 ds.length (by omega) (by omega) W
  have HN0 : Hid (∀ x ∈ ds, nodeF x = 0) := hn0
  have HE0 : Hid (endAt ds 0 1 = some ds.length) := he
  have HN : Hid (NodsS s w a ds) := hN
  clear h0 hN hn0 he
  go_enter Tryd.func43, Tryd.ntmps43
  go_upto_region 1 with fail
  go_cut [0, 2, 3] (fun s0 s2 s3 wx => s0 = .slice a ds.length cap ∧ s2 = .pointer (some ⟨w.heap.size, 0, none⟩) ∧ ∃ bp be bf, s3 = .pointer (some ⟨bp, 0, none⟩) ∧ PlanM w s bp be bf a cap ds wx)
  case first =>
    go_region_held3 (fun _ => True) (trivial) (fail)
    all_goals (go_wp2)
    all_goals
      go_meet
      first
        | exact ⟨rfl, rfl, w.heap.size + 1 + 1 + 1, w.heap.size + 1, w.heap.size + 1 + 1, rfl, planM_of hs HN.out (below4 w _ _ _ _) (heaps4 w _ _ _ _).1 (heaps4 w _ _ _ _).2.2.2 (heaps4 w _ _ _ _).2.1 (madeRow _ _) (heaps4 w _ _ _ _).2.2.1 (madeRow _ _) (by omega) (by omega) (by omega) (by omega) (by omega) (by omega)⟩
        | exact ⟨rfl, rfl, w.heap.size + 1 + 1, w.heap.size + 1, w.heap.size + 1 + 1 + 1, rfl, planM_of hs HN.out (below4 w _ _ _ _) (heaps4 w _ _ _ _).1 (heaps4 w _ _ _ _).2.2.1 (heaps4 w _ _ _ _).2.1 (madeRow _ _) (heaps4 w _ _ _ _).2.2.2 (madeRow _ _) (by omega) (by omega) (by omega) (by omega) (by omega) (by omega)⟩
        | exact ⟨rfl, rfl, w.heap.size + 1 + 1 + 1, w.heap.size + 1 + 1, w.heap.size + 1, rfl, planM_of hs HN.out (below4 w _ _ _ _) (heaps4 w _ _ _ _).1 (heaps4 w _ _ _ _).2.2.2 (heaps4 w _ _ _ _).2.2.1 (madeRow _ _) (heaps4 w _ _ _ _).2.1 (madeRow _ _) (by omega) (by omega) (by omega) (by omega) (by omega) (by omega)⟩
        | exact ⟨rfl, rfl, w.heap.size + 1, w.heap.size + 1 + 1, w.heap.size + 1 + 1 + 1, rfl, planM_of hs HN.out (below4 w _ _ _ _) (heaps4 w _ _ _ _).1 (heaps4 w _ _ _ _).2.1 (heaps4 w _ _ _ _).2.2.1 (madeRow _ _) (heaps4 w _ _ _ _).2.2.2 (madeRow _ _) (by omega) (by omega) (by omega) (by omega) (by omega) (by omega)⟩
        | exact ⟨rfl, rfl, w.heap.size + 1 + 1, w.heap.size + 1 + 1 + 1, w.heap.size + 1, rfl, planM_of hs HN.out (below4 w _ _ _ _) (heaps4 w _ _ _ _).1 (heaps4 w _ _ _ _).2.2.1 (heaps4 w _ _ _ _).2.2.2 (madeRow _ _) (heaps4 w _ _ _ _).2.1 (madeRow _ _) (by omega) (by omega) (by omega) (by omega) (by omega) (by omega)⟩
        | exact ⟨rfl, rfl, w.heap.size + 1, w.heap.size + 1 + 1 + 1, w.heap.size + 1 + 1, rfl, planM_of hs HN.out (below4 w _ _ _ _) (heaps4 w _ _ _ _).1 (heaps4 w _ _ _ _).2.1 (heaps4 w _ _ _ _).2.2.2 (madeRow _ _) (heaps4 w _ _ _ _).2.2.1 (madeRow _ _) (by omega) (by omega) (by omega) (by omega) (by omega) (by omega)⟩
  case rest =>
    obtain ⟨rfl, rfl, bp, be, bf, rfl, hP⟩ := hcut
    have HP : Hid (PlanM w s bp be bf a cap ds wc) := hP
    clear hP
    go_wp2
    go_loopw [4] (fun i wr => PlanM w s bp be bf a cap ds wr ∧ ∃ k : Nat, k ≤ ds.length ∧ i = .int .i64 ((k : Int) - 1) ∧ Known wr be bf ds k) (fun i _ => (intOf i + 1).toNat)
    case atStart => exact ⟨HP.out, ds.length, Nat.le_refl _, by go_num, Known.end⟩
    case round =>
      obtain ⟨hp, k, hk, rfl, hK⟩ := hrel
      have HR : Hid (PlanM w s bp be bf a cap ds wr) := hp
      have HK : Hid (Known wr be bf ds k) := hK
      clear hp hK
      by_cases hk0 : k = 0
      · subst hk0
        have hneg : ¬ ((0 : Int) ≤ ((0 : Nat) : Int) - 1) := by omega
        have c0 := HR.out.c0
        have c1 := HR.out.c1
        have c2 := HR.out.c2
        have rb := HR.out.rb
        have r0 : wr.cell? ⟨w.heap.size, 0, none⟩ = some (.slice none 0 0) := by simp [World.cell?, rb]
        have r1 : wr.cell? ⟨w.heap.size, 1, none⟩ = some (.slice none 0 0) := by simp [World.cell?, rb]
        have r2 : wr.cell? ⟨w.heap.size, 2, none⟩ = some (.slice none 0 0) := by simp [World.cell?, rb]
        have f0 : wr.frozen? ⟨w.heap.size, 0, none⟩ = false := by simp [World.frozen?, rb]
        have f1 : wr.frozen? ⟨w.heap.size, 1, none⟩ = false := by simp [World.frozen?, rb]
        have f2 : wr.frozen? ⟨w.heap.size, 2, none⟩ = false := by simp [World.frozen?, rb]
        clear rb
        go_wp2
        refine bodyPost_ret (v := .agg #[.slice a ds.length cap, .slice (some ⟨be, 0, none⟩) ds.length ds.length, .slice (some ⟨bf, 0, none⟩) ds.length ds.length]) (by simp [results, Tryd.results43, go_sem, r0, r1, r2]) rfl ?_
        have hb : ∀ v0 v1 v2, Below w.heap.size wr (((wr.setCell ⟨w.heap.size, 0, none⟩ v0).setCell ⟨w.heap.size, 1, none⟩ v1).setCell ⟨w.heap.size, 2, none⟩ v2) := fun v0 v1 v2 =>
          (((Below.refl _ wr).setCell (p := ⟨w.heap.size, 0, none⟩) (Nat.le_refl _) _).setCell (p := ⟨w.heap.size, 1, none⟩) (Nat.le_refl _) _).setCell (p := ⟨w.heap.size, 2, none⟩) (Nat.le_refl _) _
        have hne := HR.out.b2
        have hnf := HR.out.b3
        have le := HR.out.re.lt
        have lf := HR.out.rf.lt
        have hk : ∀ v0 v1 v2 k, k ≠ w.heap.size → (((wr.setCell ⟨w.heap.size, 0, none⟩ v0).setCell ⟨w.heap.size, 1, none⟩ v1).setCell ⟨w.heap.size, 2, none⟩ v2).heap[k]? = wr.heap[k]? := fun v0 v1 v2 k hk =>
          (Below.heap_setCell _ _ _ _ hk).trans ((Below.heap_setCell _ _ _ _ hk).trans (Below.heap_setCell _ _ _ _ hk))
        exact ⟨⟨be, bf, rfl, Nat.lt_of_lt_of_le le (hb _ _ _).size, Nat.lt_of_lt_of_le lf (hb _ _ _).size, HK.out.kept (hk _ _ _ _ (by omega)) (hk _ _ _ _ (by omega))⟩, HR.out.bw.trans (hb _ _ _)⟩
      · obtain ⟨i, rfl⟩ : ∃ i, k = i + 1 := ⟨k - 1, by omega⟩
        have hki : (((i + 1 : Nat) : Int) - 1) = (i : Int) := by omega
        rw [hki]
        obtain ⟨j, hj, hj1, hj2⟩ := endAt_mid HE0.out (show i < ds.length by omega)
        obtain ⟨t, ht, hd, _⟩ := tree_at HN0.out hj
        have HD : Hid (ds.drop i = t.nodes ++ ds.drop j) := hd
        clear hd hj hki
        go_wp2_with fail
        refine (learn_any bp be bf s cap i ds a t (ds.drop j) _ ht HD.out hl HR.out.nd HR.out.n1 HR.out.n2 HR.out.n3 (by have := HR.out.b2; omega) (by have := HR.out.b3; omega) HR.out.c0 HR.out.c1 HR.out.c2 HR.out.re HR.out.rf HK.out).mono ?_
        rintro e w2 ⟨rfl, hp2⟩
        obtain ⟨y1, e5⟩ := HR.out.re.cell (show i < ds.length by omega)
        obtain ⟨y2, e6⟩ := HR.out.rf.cell (show i < ds.length by omega)
        have HR2 : Hid (PlanM w s bp be bf a cap ds w2) := HR.out.put hs hp2
        have HK2 : Hid (Known w2 be bf ds i) := HK.out.step ht HD.out HR.out.n3 e5 e6 hp2
        clear hp2 e5 e6
        go_wp2
        go_roundw
        case rel => exact ⟨HR2.out, i, by omega, by go_num, HK2.out⟩
        case measure => simp [intOf]
end Go.Proofs.YtnfhiiefdmjdbaaDoor
