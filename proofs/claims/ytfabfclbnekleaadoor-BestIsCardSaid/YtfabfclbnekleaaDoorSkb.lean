/- Some texts as one: Sk4, Sk5, Sk6, Sk7, Sk8. -/
import Derived.Test.YtfabfclbnekleaaDoorSka
import Derived.Test.YtfabfclbnekleaaDoorPna
import Derived.Test.YtfabfclbnekleaaDoorIntApp
import Derived.Deep.AppendLies
namespace Go.Proofs.YtfabfclbnekleaaDoor
open Go Go.RowKit

/-- choose's boxes in a world: the spot, what comes back, the place. -/
structure ChB (w wx : World) (i c : Nat) (q : Q) : Prop where
  a0 : wx.cell? ⟨w.heap.size, 0, none⟩ = some (.int .i64 i)
  a1 : wx.cell? ⟨w.heap.size, 1, none⟩ = some (.int .i64 c)
  r0 : wx.cell? ⟨w.heap.size + 1, 0, none⟩ = some (.int .i64 0)
  r1 : wx.cell? ⟨w.heap.size + 1, 1, none⟩ = some (.int .i64 0)
  r2 : wx.cell? ⟨w.heap.size + 1, 2, none⟩ = some (.int .i64 0)
  r3 : wx.cell? ⟨w.heap.size + 1, 3, none⟩ = some (.int .i64 0)
  r4 : wx.cell? ⟨w.heap.size + 1, 4, none⟩ = some (.int .i64 0)
  fr : RowF wx (w.heap.size + 1)
  q0 : wx.cell? ⟨w.heap.size + 1 + 1, 0, none⟩ = some (.int .i64 q.op)
  q1 : wx.cell? ⟨w.heap.size + 1 + 1, 1, none⟩ = some (.string q.tx)
  q2 : wx.cell? ⟨w.heap.size + 1 + 1, 2, none⟩ = some (.int .i64 q.n)
  q3 : wx.cell? ⟨w.heap.size + 1 + 1, 3, none⟩ = some (.int .i64 q.en)
  q4 : wx.cell? ⟨w.heap.size + 1 + 1, 4, none⟩ = some (.int .i64 q.nx)
  q5 : wx.cell? ⟨w.heap.size + 1 + 1, 5, none⟩ = some (.int .i64 q.dp)
  q6 : wx.cell? ⟨w.heap.size + 1 + 1, 6, none⟩ = some (.int .i64 q.lg)
  lt : w.heap.size + 1 + 1 < wx.heap.size
theorem ChB.kept {w wx wy : World} {i c mb : Nat} {q : Q} (h : ChB w wx i c q) (hb : BelX wx.heap.size mb wx wy) (hm : mb < w.heap.size) : ChB w wy i c q := by
  have hc : ∀ b o v, b ≠ mb → wx.cell? ⟨b, o, none⟩ = some v → wy.cell? ⟨b, o, none⟩ = some v := fun b o v he hv => (hb.cell (p := ⟨b, o, none⟩) (World.block_lt_of_cell? wx ⟨b, o, none⟩ hv) he).trans hv
  exact ⟨hc _ _ _ (by omega) h.a0, hc _ _ _ (by omega) h.a1, hc _ _ _ (by omega) h.r0, hc _ _ _ (by omega) h.r1, hc _ _ _ (by omega) h.r2, hc _ _ _ (by omega) h.r3, hc _ _ _ (by omega) h.r4, h.fr.kept (hb.block _ h.fr.lt (by omega)),
    hc _ _ _ (by omega) h.q0, hc _ _ _ (by omega) h.q1, hc _ _ _ (by omega) h.q2, hc _ _ _ (by omega) h.q3, hc _ _ _ (by omega) h.q4, hc _ _ _ (by omega) h.q5, hc _ _ _ (by omega) h.q6, Nat.lt_of_lt_of_le h.lt hb.size⟩
theorem chb_of {sb g mb wd i c : Nat} {R : List Pl} {S : Nat → Nat → Bool} {w w1 : World} (h : Sk1 sb g mb wd i c R S w w1) (q : Q) : ChB w (w1.alloc (plBox q)).drew i c q := by
  have n1 := heap_alloc_new w1 (plBox q)
  rw [h.sz] at n1
  have hc : ∀ o v, (w1.alloc (plBox q)).cell? ⟨w.heap.size + 1 + 1, o, none⟩ = v → (w1.alloc (plBox q)).drew.cell? ⟨w.heap.size + 1 + 1, o, none⟩ = v := fun _ _ h => h
  refine ⟨ka h.a0 _, ka h.a1 _, ka h.r0 _, ka h.r1 _, ka h.r2 _, ka h.r3 _, ka h.r4 _, h.fr.kept (Below.heap_alloc _ _ _ h.fr.lt), hc _ _ ?_, hc _ _ ?_, hc _ _ ?_, hc _ _ ?_, hc _ _ ?_, hc _ _ ?_, hc _ _ ?_, ?_⟩
  · simp [World.cell?, n1, plBox]
  · simp [World.cell?, n1, plBox]
  · simp [World.cell?, n1, plBox]
  · simp [World.cell?, n1, plBox]
  · simp [World.cell?, n1, plBox]
  · simp [World.cell?, n1, plBox]
  · simp [World.cell?, n1, plBox]
  · show w.heap.size + 1 + 1 < (w1.alloc (plBox q)).heap.size
    simp [h.sz]
end Go.Proofs.YtfabfclbnekleaaDoor
namespace Go.Proofs.YtfabfclbnekleaaDoor
open Go Go.RowKit

set_option maxRecDepth 100000 in
set_option maxHeartbeats 4000000 in
theorem choose_hard {R : List Pl} {L M i nx dp wd c : Nat} {ks : List (Nat × Tr)} {t : Tr} (sb g mb : Nat) (hsp : Sp R L M i t nx dp ks) (hlg : (q2 (plAt R i)).lg = -1) (hT : TakeP sb g mb wd R i c 1) (w : World) (S : Nat → Nat → Bool) (h : Inv sb g mb wd R w S) :
    Calls Tryd.prog 78 #[.pointer (some ⟨sb, 0, none⟩), .agg #[.int .i64 i, .int .i64 c]] w fun e w' => e = .returned (cvV (tkC R wd i c 1)) ∧ Left sb g mb wd R S (i + 1) (tkC R wd i c 1).np (tkC R wd i c 1).nc w w' := by
  have H : Hid (Inv sb g mb wd R w S) := h
  have hlt := h.lt
  have hi : i < R.length := hsp.lt
  have hiI : (i : Int) < (R.length : Int) := by omega
  have hp0 : (0 : Int) ≤ (i : Int) := by omega
  have HQ : Hid (∀ W, PlanP W sb g wd R → PlcAt W g i (q2 (plAt R i))) := fun W hW => hW.pr.get i hi
  have HT : Hid (TakeP sb g mb wd R i c 1) := hT
  have HLG : Hid ((q2 (plAt R i)).lg = -1) := hlg
  clear hT hlg
  rw [cvV]
  clear h hsp
  generalize q2 (plAt R i) = q at *
  go_enter Tryd.func78, Tryd.ntmps78
  go_wp2_with fail
  have hsk : Sk1 sb g mb wd i c R S w ((w.alloc (.cells #[.int .i64 i, .int .i64 c] 120)).alloc (.cells #[.int .i64 0, .int .i64 0, .int .i64 0, .int .i64 0, .int .i64 0] 122)) := sk1_of (nq := 0) H.out
  generalize (w.alloc (.cells #[.int .i64 i, .int .i64 c] 120)).alloc (.cells #[.int .i64 0, .int .i64 0, .int .i64 0, .int .i64 0, .int .i64 0] 122) = w1 at *
  have HK : Hid (Sk1 sb g mb wd i c R S w w1) := hsk
  have hs1 := hsk.sz
  have hS0 : ∀ W : World, W = w1.drew ∨ (∃ O, W = (w1.alloc O).drew) → W.cell? ⟨sb, 0, none⟩ = some (.slice (some ⟨g, 0, none⟩) R.length R.length) ∧ W.cell? ⟨w.heap.size, 0, none⟩ = some (.int .i64 i) ∧ W.cell? ⟨g, i * 7, none⟩ = some (.int .i64 q.op) ∧ W.cell? ⟨g, i * 7 + 1, none⟩ = some (.string q.tx) ∧ W.cell? ⟨g, i * 7 + 2, none⟩ = some (.int .i64 q.n) ∧ W.cell? ⟨g, i * 7 + 3, none⟩ = some (.int .i64 q.en) ∧ W.cell? ⟨g, i * 7 + 4, none⟩ = some (.int .i64 q.nx) ∧ W.cell? ⟨g, i * 7 + 5, none⟩ = some (.int .i64 q.dp) ∧ W.cell? ⟨g, i * 7 + 6, none⟩ = some (.int .i64 q.lg) := by
    intro W hW
    have hPA : PlanP W sb g wd R ∧ W.cell? ⟨w.heap.size, 0, none⟩ = some (.int .i64 i) := by
      rcases hW with rfl | ⟨O, rfl⟩
      · exact ⟨HK.out.inv.pl.kept rfl rfl, HK.out.a0⟩
      · exact ⟨(HK.out.inv.pl.alloc O).kept rfl rfl, ka HK.out.a0 O⟩
    obtain ⟨d0, d1, d2, d3, d4, d5, d6⟩ := HQ.out W hPA.1
    exact ⟨hPA.1.c0, hPA.2, d0, d1, d2, d3, d4, d5, d6⟩
  have hSa := hS0 w1.drew (.inl rfl)
  have hSb := fun O => hS0 (w1.alloc O).drew (.inr ⟨O, rfl⟩)
  have HCB : Hid (ChB w (w1.alloc (plBox q)).drew i c q) := chb_of HK.out q
  have HI1 : Hid (Inv sb g mb wd R (w1.alloc (plBox q)).drew S) := (HK.out.inv.alloc _).kept fun _ _ => rfl
  have HB1 : Hid (BelX w.heap.size mb w (w1.alloc (plBox q)).drew) := (BelX.of (HK.out.bw.alloc HK.out.bw.size _)).drew
  clear hsk hS0
  go_region_held3 (fun w' => w'.cell? ⟨sb, 0, none⟩ = some (.slice (some ⟨g, 0, none⟩) R.length R.length) ∧ w'.cell? ⟨w.heap.size, 0, none⟩ = some (.int .i64 i) ∧ w'.cell? ⟨g, i * 7, none⟩ = some (.int .i64 q.op) ∧ w'.cell? ⟨g, i * 7 + 1, none⟩ = some (.string q.tx) ∧ w'.cell? ⟨g, i * 7 + 2, none⟩ = some (.int .i64 q.n) ∧ w'.cell? ⟨g, i * 7 + 3, none⟩ = some (.int .i64 q.en) ∧ w'.cell? ⟨g, i * 7 + 4, none⟩ = some (.int .i64 q.nx) ∧ w'.cell? ⟨g, i * 7 + 5, none⟩ = some (.int .i64 q.dp) ∧ w'.cell? ⟨g, i * 7 + 6, none⟩ = some (.int .i64 q.lg))
    (first | with_reducible exact hSa | with_reducible exact hSb _) (fail)
  all_goals
    generalize (w1.alloc (.cells #[.int .i64 q.op, .string q.tx, .int .i64 q.n, .int .i64 q.en, .int .i64 q.nx, .int .i64 q.dp, .int .i64 q.lg] 146)).drew = w2 at *
    have a0 := HCB.out.a0
    have a1 := HCB.out.a1
    have q6 := HCB.out.q6
    clear hSa hSb hs1
    rw [HLG.out] at q6
    go_wp2_with fail
    refine (HT.out w2 S HI1.out).mono ?_
    rintro e w3 ⟨rfl, hbx, S', hI, hmo, hlo, hin⟩
    rw [cvV]
    have hCB := HCB.out.kept hbx hlt.2.2
    have r0 := hCB.r0
    have r1 := hCB.r1
    have r2 := hCB.r2
    have r3 := hCB.r3
    have r4 := hCB.r4
    have y0 : w3.frozen? ⟨w.heap.size + 1, 0, none⟩ = false := hCB.fr.frozen
    have y1 : w3.frozen? ⟨w.heap.size + 1, 1, none⟩ = false := hCB.fr.frozen
    have y2 : w3.frozen? ⟨w.heap.size + 1, 2, none⟩ = false := hCB.fr.frozen
    have y3 : w3.frozen? ⟨w.heap.size + 1, 3, none⟩ = false := hCB.fr.frozen
    have y4 : w3.frozen? ⟨w.heap.size + 1, 4, none⟩ = false := hCB.fr.frozen
    have HBX : Hid (BelX w.heap.size mb w w3) := HB1.out.trans (hbx.mono HB1.out.size)
    have HR : Hid (Inv sb g mb wd R w3 S' ∧ (∀ a b, S a b = true → S' a b = true) ∧ (∀ a b, S' a b = true → S a b = true ∨ i + 1 ≤ a) ∧ ((mvAt R wd i c 1).np < R.length → S' (mvAt R wd i c 1).np (mvAt R wd i c 1).nc = true)) := ⟨hI, hmo, hlo, hin⟩
    clear hbx hI hmo hlo hin hCB a0 a1 q6
    go_wp2
    exact bodyPost_ret (v := .agg #[.int .i64 (tkC R wd i c 1).o, .int .i64 (tkC R wd i c 1).l, .int .i64 (tkC R wd i c 1).ch, .int .i64 (tkC R wd i c 1).np, .int .i64 (tkC R wd i c 1).nc]) (by simp [results, Tryd.results78, go_sem, r0, r1, r2, r3, r4]) rfl ⟨rfl, belX5 HBX.out (by omega) _ _ _ _ _, S', HR.out.1.set5 (by omega) (by omega) (by omega) _ _ _ _ _, HR.out.2.1, HR.out.2.2.1, HR.out.2.2.2⟩

set_option maxRecDepth 100000 in
set_option maxHeartbeats 4000000 in
theorem choose_plain {R : List Pl} {L M i nx dp wd c : Nat} {ks : List (Nat × Tr)} {t : Tr} (sb g mb : Nat) (hsp : Sp R L M i t nx dp ks) (hlg : ((q2 (plAt R i)).lg == -1) = false) (hch : isCh (q2 (plAt R i)).op = false) (hT0 : TakeP sb g mb wd R i c 0) (w : World) (S : Nat → Nat → Bool) (h : Inv sb g mb wd R w S) :
    Calls Tryd.prog 78 #[.pointer (some ⟨sb, 0, none⟩), .agg #[.int .i64 i, .int .i64 c]] w fun e w' => e = .returned (cvV (tkC R wd i c 0)) ∧ Left sb g mb wd R S (i + 1) (tkC R wd i c 0).np (tkC R wd i c 0).nc w w' := by
  have H : Hid (Inv sb g mb wd R w S) := h
  have hlt := h.lt
  have hi : i < R.length := hsp.lt
  have hiI : (i : Int) < (R.length : Int) := by omega
  have hp0 : (0 : Int) ≤ (i : Int) := by omega
  have HQ : Hid (∀ W, PlanP W sb g wd R → PlcAt W g i (q2 (plAt R i))) := fun W hW => hW.pr.get i hi
  have HT0 : Hid (TakeP sb g mb wd R i c 0) := hT0
  clear hT0
  rw [cvV]
  clear h hsp
  generalize q2 (plAt R i) = q at *
  go_enter Tryd.func78, Tryd.ntmps78
  go_wp2_with fail
  have hsk : Sk1 sb g mb wd i c R S w ((w.alloc (.cells #[.int .i64 i, .int .i64 c] 120)).alloc (.cells #[.int .i64 0, .int .i64 0, .int .i64 0, .int .i64 0, .int .i64 0] 122)) := sk1_of (nq := 0) H.out
  generalize (w.alloc (.cells #[.int .i64 i, .int .i64 c] 120)).alloc (.cells #[.int .i64 0, .int .i64 0, .int .i64 0, .int .i64 0, .int .i64 0] 122) = w1 at *
  have HK : Hid (Sk1 sb g mb wd i c R S w w1) := hsk
  have hs1 := hsk.sz
  have hS0 : ∀ W : World, W = w1.drew ∨ (∃ O, W = (w1.alloc O).drew) → W.cell? ⟨sb, 0, none⟩ = some (.slice (some ⟨g, 0, none⟩) R.length R.length) ∧ W.cell? ⟨w.heap.size, 0, none⟩ = some (.int .i64 i) ∧ W.cell? ⟨g, i * 7, none⟩ = some (.int .i64 q.op) ∧ W.cell? ⟨g, i * 7 + 1, none⟩ = some (.string q.tx) ∧ W.cell? ⟨g, i * 7 + 2, none⟩ = some (.int .i64 q.n) ∧ W.cell? ⟨g, i * 7 + 3, none⟩ = some (.int .i64 q.en) ∧ W.cell? ⟨g, i * 7 + 4, none⟩ = some (.int .i64 q.nx) ∧ W.cell? ⟨g, i * 7 + 5, none⟩ = some (.int .i64 q.dp) ∧ W.cell? ⟨g, i * 7 + 6, none⟩ = some (.int .i64 q.lg) := by
    intro W hW
    have hPA : PlanP W sb g wd R ∧ W.cell? ⟨w.heap.size, 0, none⟩ = some (.int .i64 i) := by
      rcases hW with rfl | ⟨O, rfl⟩
      · exact ⟨HK.out.inv.pl.kept rfl rfl, HK.out.a0⟩
      · exact ⟨(HK.out.inv.pl.alloc O).kept rfl rfl, ka HK.out.a0 O⟩
    obtain ⟨d0, d1, d2, d3, d4, d5, d6⟩ := HQ.out W hPA.1
    exact ⟨hPA.1.c0, hPA.2, d0, d1, d2, d3, d4, d5, d6⟩
  have hSa := hS0 w1.drew (.inl rfl)
  have hSb := fun O => hS0 (w1.alloc O).drew (.inr ⟨O, rfl⟩)
  have HCB : Hid (ChB w (w1.alloc (plBox q)).drew i c q) := chb_of HK.out q
  have HI1 : Hid (Inv sb g mb wd R (w1.alloc (plBox q)).drew S) := (HK.out.inv.alloc _).kept fun _ _ => rfl
  have HB1 : Hid (BelX w.heap.size mb w (w1.alloc (plBox q)).drew) := (BelX.of (HK.out.bw.alloc HK.out.bw.size _)).drew
  clear hsk hS0
  go_region_held3 (fun w' => w'.cell? ⟨sb, 0, none⟩ = some (.slice (some ⟨g, 0, none⟩) R.length R.length) ∧ w'.cell? ⟨w.heap.size, 0, none⟩ = some (.int .i64 i) ∧ w'.cell? ⟨g, i * 7, none⟩ = some (.int .i64 q.op) ∧ w'.cell? ⟨g, i * 7 + 1, none⟩ = some (.string q.tx) ∧ w'.cell? ⟨g, i * 7 + 2, none⟩ = some (.int .i64 q.n) ∧ w'.cell? ⟨g, i * 7 + 3, none⟩ = some (.int .i64 q.en) ∧ w'.cell? ⟨g, i * 7 + 4, none⟩ = some (.int .i64 q.nx) ∧ w'.cell? ⟨g, i * 7 + 5, none⟩ = some (.int .i64 q.dp) ∧ w'.cell? ⟨g, i * 7 + 6, none⟩ = some (.int .i64 q.lg))
    (first | with_reducible exact hSa | with_reducible exact hSb _) (fail)
  all_goals
    generalize (w1.alloc (.cells #[.int .i64 q.op, .string q.tx, .int .i64 q.n, .int .i64 q.en, .int .i64 q.nx, .int .i64 q.dp, .int .i64 q.lg] 146)).drew = w2 at *
    have a0 := HCB.out.a0
    have a1 := HCB.out.a1
    have q6 := HCB.out.q6
    clear hSa hSb hs1
    go_wp2_with fail
    refine (HT0.out w2 S HI1.out).mono ?_
    rintro e w3 ⟨rfl, hbx, S', hI, hmo, hlo, hin⟩
    rw [cvV]
    have hCB := HCB.out.kept hbx hlt.2.2
    have HBX : Hid (BelX w.heap.size mb w w3) := HB1.out.trans (hbx.mono HB1.out.size)
    have HR : Hid (Inv sb g mb wd R w3 S' ∧ (∀ a b, S a b = true → S' a b = true) ∧ (∀ a b, S' a b = true → S a b = true ∨ i + 1 ≤ a) ∧ ((tkC R wd i c 0).np < R.length → S' (tkC R wd i c 0).np (tkC R wd i c 0).nc = true)) := ⟨hI, hmo, hlo, hin⟩
    have u0 := fun O => ka hCB.q0 O
    have u1 := fun O => ka hCB.q1 O
    have u2 := fun O => ka hCB.q2 O
    have u3 := fun O => ka hCB.q3 O
    have u4 := fun O => ka hCB.q4 O
    have u5 := fun O => ka hCB.q5 O
    have u6 := fun O => ka hCB.q6 O
    have HCB3 : Hid (ChB w w3 i c q) := hCB
    clear hbx hI hmo hlo hin hCB a0 a1 q6
    go_wp2_with fail
    refine (bisch_any q.op q.tx q.n q.en q.nx q.dp q.lg _).mono ?_
    rintro e w4 ⟨rfl, hb4⟩
    rw [hch]
    have hwk : w3.heap.size < w4.heap.size := by have := hb4.size; simp at this; omega
    have HCB4 : Hid (ChB w w4 i c q) := (HCB3.out.kept (mb := mb) (BelX.of ((Below.refl _ w3).alloc (Nat.le_refl _) _)) hlt.2.2).kept (BelX.of hb4) hlt.2.2
    have HI4 : Hid (Inv sb g mb wd R w4 S') := (HR.out.1.alloc _).below hb4
    have HB4 : Hid (BelX w.heap.size mb w w4) := (HBX.out.alloc (by have := HBX.out.size; omega) _).trans (BelX.of (hb4.mono (by have := HBX.out.size; simp; omega)))
    have s0 : w4.cell? ⟨w3.heap.size, 0, none⟩ = some (.int .i64 (tkC R wd i c 0).o) := (hb4.cell (p := ⟨w3.heap.size, 0, none⟩) (by simp)).trans (by simp [go_sem])
    have s1 : w4.cell? ⟨w3.heap.size, 1, none⟩ = some (.int .i64 (tkC R wd i c 0).l) := (hb4.cell (p := ⟨w3.heap.size, 1, none⟩) (by simp)).trans (by simp [go_sem])
    have s2 : w4.cell? ⟨w3.heap.size, 2, none⟩ = some (.int .i64 (tkC R wd i c 0).ch) := (hb4.cell (p := ⟨w3.heap.size, 2, none⟩) (by simp)).trans (by simp [go_sem])
    have s3 : w4.cell? ⟨w3.heap.size, 3, none⟩ = some (.int .i64 (tkC R wd i c 0).np) := (hb4.cell (p := ⟨w3.heap.size, 3, none⟩) (by simp)).trans (by simp [go_sem])
    have s4 : w4.cell? ⟨w3.heap.size, 4, none⟩ = some (.int .i64 (tkC R wd i c 0).nc) := (hb4.cell (p := ⟨w3.heap.size, 4, none⟩) (by simp)).trans (by simp [go_sem])
    have r0 := HCB4.out.r0
    have r1 := HCB4.out.r1
    have r2 := HCB4.out.r2
    have r3 := HCB4.out.r3
    have r4 := HCB4.out.r4
    have y0 : w4.frozen? ⟨w.heap.size + 1, 0, none⟩ = false := HCB4.out.fr.frozen
    have y1 : w4.frozen? ⟨w.heap.size + 1, 1, none⟩ = false := HCB4.out.fr.frozen
    have y2 : w4.frozen? ⟨w.heap.size + 1, 2, none⟩ = false := HCB4.out.fr.frozen
    have y3 : w4.frozen? ⟨w.heap.size + 1, 3, none⟩ = false := HCB4.out.fr.frozen
    have y4 : w4.frozen? ⟨w.heap.size + 1, 4, none⟩ = false := HCB4.out.fr.frozen
    clear u0 u1 u2 u3 u4 u5 u6 hb4
    go_wp2
    exact bodyPost_ret (v := .agg #[.int .i64 (tkC R wd i c 0).o, .int .i64 (tkC R wd i c 0).l, .int .i64 (tkC R wd i c 0).ch, .int .i64 (tkC R wd i c 0).np, .int .i64 (tkC R wd i c 0).nc]) (by simp [results, Tryd.results78, go_sem, r0, r1, r2, r3, r4]) rfl ⟨rfl, belX5 HB4.out (by omega) _ _ _ _ _, S', HI4.out.set5 (by omega) (by omega) (by omega) _ _ _ _ _, HR.out.2.1, HR.out.2.2.1, HR.out.2.2.2⟩
end Go.Proofs.YtfabfclbnekleaaDoor
namespace Go.Proofs.YtfabfclbnekleaaDoor
open Go Go.RowKit

set_option maxRecDepth 100000 in
set_option maxHeartbeats 4000000 in
theorem choose_second {R : List Pl} {L M i nx dp wd c : Nat} {ks : List (Nat × Tr)} {t : Tr} (sb g mb : Nat) (hsp : Sp R L M i t nx dp ks) (hlg : ((q2 (plAt R i)).lg == -1) = false) (hch : isCh (q2 (plAt R i)).op = true) (hT0 : TakeP sb g mb wd R i c 0) (hT1 : TakeP sb g mb wd R i c 1) (hb0 : (tkC R wd i c 0).o ≤ 1000000 ∧ (tkC R wd i c 0).l ≤ 1000000) (hb1 : (tkC R wd i c 1).o ≤ 1000000 ∧ (tkC R wd i c 1).l ≤ 1000000) (hless : decide (lessC ((tkC R wd i c 1).o, (tkC R wd i c 1).l) ((tkC R wd i c 0).o, (tkC R wd i c 0).l)) = true) (w : World) (S : Nat → Nat → Bool) (h : Inv sb g mb wd R w S) :
    Calls Tryd.prog 78 #[.pointer (some ⟨sb, 0, none⟩), .agg #[.int .i64 i, .int .i64 c]] w fun e w' => e = .returned (cvV (tkC R wd i c 1)) ∧ Left sb g mb wd R S (i + 1) (tkC R wd i c 1).np (tkC R wd i c 1).nc w w' := by
  have H : Hid (Inv sb g mb wd R w S) := h
  have hlt := h.lt
  have hi : i < R.length := hsp.lt
  have hiI : (i : Int) < (R.length : Int) := by omega
  have hp0 : (0 : Int) ≤ (i : Int) := by omega
  have HQ : Hid (∀ W, PlanP W sb g wd R → PlcAt W g i (q2 (plAt R i))) := fun W hW => hW.pr.get i hi
  have HT0 : Hid (TakeP sb g mb wd R i c 0) := hT0
  have HT1 : Hid (TakeP sb g mb wd R i c 1) := hT1
  clear hT0 hT1
  rw [cvV]
  clear h hsp
  generalize q2 (plAt R i) = q at *
  go_enter Tryd.func78, Tryd.ntmps78
  go_wp2_with fail
  have hsk : Sk1 sb g mb wd i c R S w ((w.alloc (.cells #[.int .i64 i, .int .i64 c] 120)).alloc (.cells #[.int .i64 0, .int .i64 0, .int .i64 0, .int .i64 0, .int .i64 0] 122)) := sk1_of (nq := 0) H.out
  generalize (w.alloc (.cells #[.int .i64 i, .int .i64 c] 120)).alloc (.cells #[.int .i64 0, .int .i64 0, .int .i64 0, .int .i64 0, .int .i64 0] 122) = w1 at *
  have HK : Hid (Sk1 sb g mb wd i c R S w w1) := hsk
  have hs1 := hsk.sz
  have hS0 : ∀ W : World, W = w1.drew ∨ (∃ O, W = (w1.alloc O).drew) → W.cell? ⟨sb, 0, none⟩ = some (.slice (some ⟨g, 0, none⟩) R.length R.length) ∧ W.cell? ⟨w.heap.size, 0, none⟩ = some (.int .i64 i) ∧ W.cell? ⟨g, i * 7, none⟩ = some (.int .i64 q.op) ∧ W.cell? ⟨g, i * 7 + 1, none⟩ = some (.string q.tx) ∧ W.cell? ⟨g, i * 7 + 2, none⟩ = some (.int .i64 q.n) ∧ W.cell? ⟨g, i * 7 + 3, none⟩ = some (.int .i64 q.en) ∧ W.cell? ⟨g, i * 7 + 4, none⟩ = some (.int .i64 q.nx) ∧ W.cell? ⟨g, i * 7 + 5, none⟩ = some (.int .i64 q.dp) ∧ W.cell? ⟨g, i * 7 + 6, none⟩ = some (.int .i64 q.lg) := by
    intro W hW
    have hPA : PlanP W sb g wd R ∧ W.cell? ⟨w.heap.size, 0, none⟩ = some (.int .i64 i) := by
      rcases hW with rfl | ⟨O, rfl⟩
      · exact ⟨HK.out.inv.pl.kept rfl rfl, HK.out.a0⟩
      · exact ⟨(HK.out.inv.pl.alloc O).kept rfl rfl, ka HK.out.a0 O⟩
    obtain ⟨d0, d1, d2, d3, d4, d5, d6⟩ := HQ.out W hPA.1
    exact ⟨hPA.1.c0, hPA.2, d0, d1, d2, d3, d4, d5, d6⟩
  have hSa := hS0 w1.drew (.inl rfl)
  have hSb := fun O => hS0 (w1.alloc O).drew (.inr ⟨O, rfl⟩)
  have HCB : Hid (ChB w (w1.alloc (plBox q)).drew i c q) := chb_of HK.out q
  have HI1 : Hid (Inv sb g mb wd R (w1.alloc (plBox q)).drew S) := (HK.out.inv.alloc _).kept fun _ _ => rfl
  have HB1 : Hid (BelX w.heap.size mb w (w1.alloc (plBox q)).drew) := (BelX.of (HK.out.bw.alloc HK.out.bw.size _)).drew
  clear hsk hS0
  go_region_held3 (fun w' => w'.cell? ⟨sb, 0, none⟩ = some (.slice (some ⟨g, 0, none⟩) R.length R.length) ∧ w'.cell? ⟨w.heap.size, 0, none⟩ = some (.int .i64 i) ∧ w'.cell? ⟨g, i * 7, none⟩ = some (.int .i64 q.op) ∧ w'.cell? ⟨g, i * 7 + 1, none⟩ = some (.string q.tx) ∧ w'.cell? ⟨g, i * 7 + 2, none⟩ = some (.int .i64 q.n) ∧ w'.cell? ⟨g, i * 7 + 3, none⟩ = some (.int .i64 q.en) ∧ w'.cell? ⟨g, i * 7 + 4, none⟩ = some (.int .i64 q.nx) ∧ w'.cell? ⟨g, i * 7 + 5, none⟩ = some (.int .i64 q.dp) ∧ w'.cell? ⟨g, i * 7 + 6, none⟩ = some (.int .i64 q.lg))
    (first | with_reducible exact hSa | with_reducible exact hSb _) (fail)
  all_goals
    generalize (w1.alloc (.cells #[.int .i64 q.op, .string q.tx, .int .i64 q.n, .int .i64 q.en, .int .i64 q.nx, .int .i64 q.dp, .int .i64 q.lg] 146)).drew = w2 at *
    have a0 := HCB.out.a0
    have a1 := HCB.out.a1
    have q6 := HCB.out.q6
    clear hSa hSb hs1
    go_wp2_with fail
    refine (HT0.out w2 S HI1.out).mono ?_
    rintro e w3 ⟨rfl, hbx, S', hI, hmo, hlo, hin⟩
    rw [cvV]
    have hCB := HCB.out.kept hbx hlt.2.2
    have HBX : Hid (BelX w.heap.size mb w w3) := HB1.out.trans (hbx.mono HB1.out.size)
    have HR : Hid (Inv sb g mb wd R w3 S' ∧ (∀ a b, S a b = true → S' a b = true) ∧ (∀ a b, S' a b = true → S a b = true ∨ i + 1 ≤ a) ∧ ((tkC R wd i c 0).np < R.length → S' (tkC R wd i c 0).np (tkC R wd i c 0).nc = true)) := ⟨hI, hmo, hlo, hin⟩
    have u0 := fun O => ka hCB.q0 O
    have u1 := fun O => ka hCB.q1 O
    have u2 := fun O => ka hCB.q2 O
    have u3 := fun O => ka hCB.q3 O
    have u4 := fun O => ka hCB.q4 O
    have u5 := fun O => ka hCB.q5 O
    have u6 := fun O => ka hCB.q6 O
    have HCB3 : Hid (ChB w w3 i c q) := hCB
    clear hbx hI hmo hlo hin hCB a0 a1 q6
    go_wp2_with fail
    refine (bisch_any q.op q.tx q.n q.en q.nx q.dp q.lg _).mono ?_
    rintro e w4 ⟨rfl, hb4⟩
    rw [hch]
    have hwk : w3.heap.size < w4.heap.size := by have := hb4.size; simp at this; omega
    have HCB4 : Hid (ChB w w4 i c q) := (HCB3.out.kept (mb := mb) (BelX.of ((Below.refl _ w3).alloc (Nat.le_refl _) _)) hlt.2.2).kept (BelX.of hb4) hlt.2.2
    have HI4 : Hid (Inv sb g mb wd R w4 S') := (HR.out.1.alloc _).below hb4
    have HB4 : Hid (BelX w.heap.size mb w w4) := (HBX.out.alloc (by have := HBX.out.size; omega) _).trans (BelX.of (hb4.mono (by have := HBX.out.size; simp; omega)))
    have s0 : w4.cell? ⟨w3.heap.size, 0, none⟩ = some (.int .i64 (tkC R wd i c 0).o) := (hb4.cell (p := ⟨w3.heap.size, 0, none⟩) (by simp)).trans (by simp [go_sem])
    have s1 : w4.cell? ⟨w3.heap.size, 1, none⟩ = some (.int .i64 (tkC R wd i c 0).l) := (hb4.cell (p := ⟨w3.heap.size, 1, none⟩) (by simp)).trans (by simp [go_sem])
    have s2 : w4.cell? ⟨w3.heap.size, 2, none⟩ = some (.int .i64 (tkC R wd i c 0).ch) := (hb4.cell (p := ⟨w3.heap.size, 2, none⟩) (by simp)).trans (by simp [go_sem])
    have s3 : w4.cell? ⟨w3.heap.size, 3, none⟩ = some (.int .i64 (tkC R wd i c 0).np) := (hb4.cell (p := ⟨w3.heap.size, 3, none⟩) (by simp)).trans (by simp [go_sem])
    have s4 : w4.cell? ⟨w3.heap.size, 4, none⟩ = some (.int .i64 (tkC R wd i c 0).nc) := (hb4.cell (p := ⟨w3.heap.size, 4, none⟩) (by simp)).trans (by simp [go_sem])
    have a0 := HCB4.out.a0
    have a1 := HCB4.out.a1
    clear u0 u1 u2 u3 u4 u5 u6 hb4
    go_wp2_with fail
    refine (HT1.out w4 S' HI4.out).mono ?_
    rintro e w5 ⟨rfl, hbx, S2, hI, hmo, hlo, hin⟩
    rw [cvV]
    have HCB5 : Hid (ChB w w5 i c q) := HCB4.out.kept hbx hlt.2.2
    have HB5 : Hid (BelX w.heap.size mb w w5) := HB4.out.trans (hbx.mono HB4.out.size)
    have hne : w3.heap.size ≠ mb := by have := HBX.out.size; omega
    have z0 : w5.cell? ⟨w3.heap.size, 0, none⟩ = some (.int .i64 (tkC R wd i c 0).o) := (hbx.cell (p := ⟨w3.heap.size, 0, none⟩) hwk hne).trans s0
    have z1 : w5.cell? ⟨w3.heap.size, 1, none⟩ = some (.int .i64 (tkC R wd i c 0).l) := (hbx.cell (p := ⟨w3.heap.size, 1, none⟩) hwk hne).trans s1
    have z2 : w5.cell? ⟨w3.heap.size, 2, none⟩ = some (.int .i64 (tkC R wd i c 0).ch) := (hbx.cell (p := ⟨w3.heap.size, 2, none⟩) hwk hne).trans s2
    have z3 : w5.cell? ⟨w3.heap.size, 3, none⟩ = some (.int .i64 (tkC R wd i c 0).np) := (hbx.cell (p := ⟨w3.heap.size, 3, none⟩) hwk hne).trans s3
    have z4 : w5.cell? ⟨w3.heap.size, 4, none⟩ = some (.int .i64 (tkC R wd i c 0).nc) := (hbx.cell (p := ⟨w3.heap.size, 4, none⟩) hwk hne).trans s4
    have v0 := fun O => ka z0 O
    have v1 := fun O => ka z1 O
    have HR5 : Hid (Inv sb g mb wd R w5 S2 ∧ (∀ a b, S' a b = true → S2 a b = true) ∧ (∀ a b, S2 a b = true → S' a b = true ∨ i + 1 ≤ a) ∧ ((tkC R wd i c 1).np < R.length → S2 (tkC R wd i c 1).np (tkC R wd i c 1).nc = true)) := ⟨hI, hmo, hlo, hin⟩
    have hwk5 : w3.heap.size < w5.heap.size := Nat.lt_of_lt_of_le hwk hbx.size
    clear hbx hI hmo hlo hin a0 a1
    go_wp2_with fail
    refine (bless_any (tkC R wd i c 1).o (tkC R wd i c 1).l (tkC R wd i c 0).o (tkC R wd i c 0).l hb1.1 hb1.2 hb0.1 hb0.2 _).mono ?_
    rintro e w6 ⟨rfl, hb6⟩
    rw [hless]
    have hCB6 := (HCB5.out.kept (mb := mb) (BelX.of ((Below.refl _ w5).alloc (Nat.le_refl _) _)) hlt.2.2).kept (BelX.of hb6) hlt.2.2
    have HI6 : Hid (Inv sb g mb wd R w6 S2) := (HR5.out.1.alloc _).below hb6
    have HB6 : Hid (BelX w.heap.size mb w w6) := (HB5.out.alloc (by have := HB5.out.size; omega) _).trans (BelX.of (hb6.mono (by have := HB5.out.size; simp; omega)))
    have r0 := hCB6.r0
    have r1 := hCB6.r1
    have r2 := hCB6.r2
    have r3 := hCB6.r3
    have r4 := hCB6.r4
    have y0 : w6.frozen? ⟨w.heap.size + 1, 0, none⟩ = false := hCB6.fr.frozen
    have y1 : w6.frozen? ⟨w.heap.size + 1, 1, none⟩ = false := hCB6.fr.frozen
    have y2 : w6.frozen? ⟨w.heap.size + 1, 2, none⟩ = false := hCB6.fr.frozen
    have y3 : w6.frozen? ⟨w.heap.size + 1, 3, none⟩ = false := hCB6.fr.frozen
    have y4 : w6.frozen? ⟨w.heap.size + 1, 4, none⟩ = false := hCB6.fr.frozen
    have x0 : w6.cell? ⟨w5.heap.size, 0, none⟩ = some (.int .i64 (tkC R wd i c 1).o) := (hb6.cell (p := ⟨w5.heap.size, 0, none⟩) (by simp)).trans (by simp [go_sem])
    have x1 : w6.cell? ⟨w5.heap.size, 1, none⟩ = some (.int .i64 (tkC R wd i c 1).l) := (hb6.cell (p := ⟨w5.heap.size, 1, none⟩) (by simp)).trans (by simp [go_sem])
    have x2 : w6.cell? ⟨w5.heap.size, 2, none⟩ = some (.int .i64 (tkC R wd i c 1).ch) := (hb6.cell (p := ⟨w5.heap.size, 2, none⟩) (by simp)).trans (by simp [go_sem])
    have x3 : w6.cell? ⟨w5.heap.size, 3, none⟩ = some (.int .i64 (tkC R wd i c 1).np) := (hb6.cell (p := ⟨w5.heap.size, 3, none⟩) (by simp)).trans (by simp [go_sem])
    have x4 : w6.cell? ⟨w5.heap.size, 4, none⟩ = some (.int .i64 (tkC R wd i c 1).nc) := (hb6.cell (p := ⟨w5.heap.size, 4, none⟩) (by simp)).trans (by simp [go_sem])
    clear z0 z1 z2 z3 z4 s0 s1 s2 s3 s4 v0 v1 hb6 hCB6
    go_wp2
    refine bodyPost_ret (v := .agg #[.int .i64 (tkC R wd i c 1).o, .int .i64 (tkC R wd i c 1).l, .int .i64 (tkC R wd i c 1).ch, .int .i64 (tkC R wd i c 1).np, .int .i64 (tkC R wd i c 1).nc]) (by simp [results, Tryd.results78, go_sem, r0, r1, r2, r3, r4]) rfl ⟨rfl, belX5 HB6.out (by omega) _ _ _ _ _, S2, HI6.out.set5 (by omega) (by omega) (by omega) _ _ _ _ _, fun a b hab => HR5.out.2.1 a b (HR.out.2.1 a b hab), fun a b hab => ?_, fun h => HR5.out.2.2.2 h⟩
    rcases HR5.out.2.2.1 a b hab with h | h
    · exact HR.out.2.2.1 a b h
    · exact .inr h

set_option maxRecDepth 100000 in
set_option maxHeartbeats 4000000 in
theorem choose_first {R : List Pl} {L M i nx dp wd c : Nat} {ks : List (Nat × Tr)} {t : Tr} (sb g mb : Nat) (hsp : Sp R L M i t nx dp ks) (hlg : ((q2 (plAt R i)).lg == -1) = false) (hch : isCh (q2 (plAt R i)).op = true) (hT0 : TakeP sb g mb wd R i c 0) (hT1 : TakeP sb g mb wd R i c 1) (hb0 : (tkC R wd i c 0).o ≤ 1000000 ∧ (tkC R wd i c 0).l ≤ 1000000) (hb1 : (tkC R wd i c 1).o ≤ 1000000 ∧ (tkC R wd i c 1).l ≤ 1000000) (hless : decide (lessC ((tkC R wd i c 1).o, (tkC R wd i c 1).l) ((tkC R wd i c 0).o, (tkC R wd i c 0).l)) = false) (w : World) (S : Nat → Nat → Bool) (h : Inv sb g mb wd R w S) :
    Calls Tryd.prog 78 #[.pointer (some ⟨sb, 0, none⟩), .agg #[.int .i64 i, .int .i64 c]] w fun e w' => e = .returned (cvV (tkC R wd i c 0)) ∧ Left sb g mb wd R S (i + 1) (tkC R wd i c 0).np (tkC R wd i c 0).nc w w' := by
  have H : Hid (Inv sb g mb wd R w S) := h
  have hlt := h.lt
  have hi : i < R.length := hsp.lt
  have hiI : (i : Int) < (R.length : Int) := by omega
  have hp0 : (0 : Int) ≤ (i : Int) := by omega
  have HQ : Hid (∀ W, PlanP W sb g wd R → PlcAt W g i (q2 (plAt R i))) := fun W hW => hW.pr.get i hi
  have HT0 : Hid (TakeP sb g mb wd R i c 0) := hT0
  have HT1 : Hid (TakeP sb g mb wd R i c 1) := hT1
  clear hT0 hT1
  rw [cvV]
  clear h hsp
  generalize q2 (plAt R i) = q at *
  go_enter Tryd.func78, Tryd.ntmps78
  go_wp2_with fail
  have hsk : Sk1 sb g mb wd i c R S w ((w.alloc (.cells #[.int .i64 i, .int .i64 c] 120)).alloc (.cells #[.int .i64 0, .int .i64 0, .int .i64 0, .int .i64 0, .int .i64 0] 122)) := sk1_of (nq := 0) H.out
  generalize (w.alloc (.cells #[.int .i64 i, .int .i64 c] 120)).alloc (.cells #[.int .i64 0, .int .i64 0, .int .i64 0, .int .i64 0, .int .i64 0] 122) = w1 at *
  have HK : Hid (Sk1 sb g mb wd i c R S w w1) := hsk
  have hs1 := hsk.sz
  have hS0 : ∀ W : World, W = w1.drew ∨ (∃ O, W = (w1.alloc O).drew) → W.cell? ⟨sb, 0, none⟩ = some (.slice (some ⟨g, 0, none⟩) R.length R.length) ∧ W.cell? ⟨w.heap.size, 0, none⟩ = some (.int .i64 i) ∧ W.cell? ⟨g, i * 7, none⟩ = some (.int .i64 q.op) ∧ W.cell? ⟨g, i * 7 + 1, none⟩ = some (.string q.tx) ∧ W.cell? ⟨g, i * 7 + 2, none⟩ = some (.int .i64 q.n) ∧ W.cell? ⟨g, i * 7 + 3, none⟩ = some (.int .i64 q.en) ∧ W.cell? ⟨g, i * 7 + 4, none⟩ = some (.int .i64 q.nx) ∧ W.cell? ⟨g, i * 7 + 5, none⟩ = some (.int .i64 q.dp) ∧ W.cell? ⟨g, i * 7 + 6, none⟩ = some (.int .i64 q.lg) := by
    intro W hW
    have hPA : PlanP W sb g wd R ∧ W.cell? ⟨w.heap.size, 0, none⟩ = some (.int .i64 i) := by
      rcases hW with rfl | ⟨O, rfl⟩
      · exact ⟨HK.out.inv.pl.kept rfl rfl, HK.out.a0⟩
      · exact ⟨(HK.out.inv.pl.alloc O).kept rfl rfl, ka HK.out.a0 O⟩
    obtain ⟨d0, d1, d2, d3, d4, d5, d6⟩ := HQ.out W hPA.1
    exact ⟨hPA.1.c0, hPA.2, d0, d1, d2, d3, d4, d5, d6⟩
  have hSa := hS0 w1.drew (.inl rfl)
  have hSb := fun O => hS0 (w1.alloc O).drew (.inr ⟨O, rfl⟩)
  have HCB : Hid (ChB w (w1.alloc (plBox q)).drew i c q) := chb_of HK.out q
  have HI1 : Hid (Inv sb g mb wd R (w1.alloc (plBox q)).drew S) := (HK.out.inv.alloc _).kept fun _ _ => rfl
  have HB1 : Hid (BelX w.heap.size mb w (w1.alloc (plBox q)).drew) := (BelX.of (HK.out.bw.alloc HK.out.bw.size _)).drew
  clear hsk hS0
  go_region_held3 (fun w' => w'.cell? ⟨sb, 0, none⟩ = some (.slice (some ⟨g, 0, none⟩) R.length R.length) ∧ w'.cell? ⟨w.heap.size, 0, none⟩ = some (.int .i64 i) ∧ w'.cell? ⟨g, i * 7, none⟩ = some (.int .i64 q.op) ∧ w'.cell? ⟨g, i * 7 + 1, none⟩ = some (.string q.tx) ∧ w'.cell? ⟨g, i * 7 + 2, none⟩ = some (.int .i64 q.n) ∧ w'.cell? ⟨g, i * 7 + 3, none⟩ = some (.int .i64 q.en) ∧ w'.cell? ⟨g, i * 7 + 4, none⟩ = some (.int .i64 q.nx) ∧ w'.cell? ⟨g, i * 7 + 5, none⟩ = some (.int .i64 q.dp) ∧ w'.cell? ⟨g, i * 7 + 6, none⟩ = some (.int .i64 q.lg))
    (first | with_reducible exact hSa | with_reducible exact hSb _) (fail)
  all_goals
    generalize (w1.alloc (.cells #[.int .i64 q.op, .string q.tx, .int .i64 q.n, .int .i64 q.en, .int .i64 q.nx, .int .i64 q.dp, .int .i64 q.lg] 146)).drew = w2 at *
    have a0 := HCB.out.a0
    have a1 := HCB.out.a1
    have q6 := HCB.out.q6
    clear hSa hSb hs1
    go_wp2_with fail
    refine (HT0.out w2 S HI1.out).mono ?_
    rintro e w3 ⟨rfl, hbx, S', hI, hmo, hlo, hin⟩
    rw [cvV]
    have hCB := HCB.out.kept hbx hlt.2.2
    have HBX : Hid (BelX w.heap.size mb w w3) := HB1.out.trans (hbx.mono HB1.out.size)
    have HR : Hid (Inv sb g mb wd R w3 S' ∧ (∀ a b, S a b = true → S' a b = true) ∧ (∀ a b, S' a b = true → S a b = true ∨ i + 1 ≤ a) ∧ ((tkC R wd i c 0).np < R.length → S' (tkC R wd i c 0).np (tkC R wd i c 0).nc = true)) := ⟨hI, hmo, hlo, hin⟩
    have u0 := fun O => ka hCB.q0 O
    have u1 := fun O => ka hCB.q1 O
    have u2 := fun O => ka hCB.q2 O
    have u3 := fun O => ka hCB.q3 O
    have u4 := fun O => ka hCB.q4 O
    have u5 := fun O => ka hCB.q5 O
    have u6 := fun O => ka hCB.q6 O
    have HCB3 : Hid (ChB w w3 i c q) := hCB
    clear hbx hI hmo hlo hin hCB a0 a1 q6
    go_wp2_with fail
    refine (bisch_any q.op q.tx q.n q.en q.nx q.dp q.lg _).mono ?_
    rintro e w4 ⟨rfl, hb4⟩
    rw [hch]
    have hwk : w3.heap.size < w4.heap.size := by have := hb4.size; simp at this; omega
    have HCB4 : Hid (ChB w w4 i c q) := (HCB3.out.kept (mb := mb) (BelX.of ((Below.refl _ w3).alloc (Nat.le_refl _) _)) hlt.2.2).kept (BelX.of hb4) hlt.2.2
    have HI4 : Hid (Inv sb g mb wd R w4 S') := (HR.out.1.alloc _).below hb4
    have HB4 : Hid (BelX w.heap.size mb w w4) := (HBX.out.alloc (by have := HBX.out.size; omega) _).trans (BelX.of (hb4.mono (by have := HBX.out.size; simp; omega)))
    have s0 : w4.cell? ⟨w3.heap.size, 0, none⟩ = some (.int .i64 (tkC R wd i c 0).o) := (hb4.cell (p := ⟨w3.heap.size, 0, none⟩) (by simp)).trans (by simp [go_sem])
    have s1 : w4.cell? ⟨w3.heap.size, 1, none⟩ = some (.int .i64 (tkC R wd i c 0).l) := (hb4.cell (p := ⟨w3.heap.size, 1, none⟩) (by simp)).trans (by simp [go_sem])
    have s2 : w4.cell? ⟨w3.heap.size, 2, none⟩ = some (.int .i64 (tkC R wd i c 0).ch) := (hb4.cell (p := ⟨w3.heap.size, 2, none⟩) (by simp)).trans (by simp [go_sem])
    have s3 : w4.cell? ⟨w3.heap.size, 3, none⟩ = some (.int .i64 (tkC R wd i c 0).np) := (hb4.cell (p := ⟨w3.heap.size, 3, none⟩) (by simp)).trans (by simp [go_sem])
    have s4 : w4.cell? ⟨w3.heap.size, 4, none⟩ = some (.int .i64 (tkC R wd i c 0).nc) := (hb4.cell (p := ⟨w3.heap.size, 4, none⟩) (by simp)).trans (by simp [go_sem])
    have a0 := HCB4.out.a0
    have a1 := HCB4.out.a1
    clear u0 u1 u2 u3 u4 u5 u6 hb4
    go_wp2_with fail
    refine (HT1.out w4 S' HI4.out).mono ?_
    rintro e w5 ⟨rfl, hbx, S2, hI, hmo, hlo, hin⟩
    rw [cvV]
    have HCB5 : Hid (ChB w w5 i c q) := HCB4.out.kept hbx hlt.2.2
    have HB5 : Hid (BelX w.heap.size mb w w5) := HB4.out.trans (hbx.mono HB4.out.size)
    have hne : w3.heap.size ≠ mb := by have := HBX.out.size; omega
    have z0 : w5.cell? ⟨w3.heap.size, 0, none⟩ = some (.int .i64 (tkC R wd i c 0).o) := (hbx.cell (p := ⟨w3.heap.size, 0, none⟩) hwk hne).trans s0
    have z1 : w5.cell? ⟨w3.heap.size, 1, none⟩ = some (.int .i64 (tkC R wd i c 0).l) := (hbx.cell (p := ⟨w3.heap.size, 1, none⟩) hwk hne).trans s1
    have z2 : w5.cell? ⟨w3.heap.size, 2, none⟩ = some (.int .i64 (tkC R wd i c 0).ch) := (hbx.cell (p := ⟨w3.heap.size, 2, none⟩) hwk hne).trans s2
    have z3 : w5.cell? ⟨w3.heap.size, 3, none⟩ = some (.int .i64 (tkC R wd i c 0).np) := (hbx.cell (p := ⟨w3.heap.size, 3, none⟩) hwk hne).trans s3
    have z4 : w5.cell? ⟨w3.heap.size, 4, none⟩ = some (.int .i64 (tkC R wd i c 0).nc) := (hbx.cell (p := ⟨w3.heap.size, 4, none⟩) hwk hne).trans s4
    have v0 := fun O => ka z0 O
    have v1 := fun O => ka z1 O
    have HR5 : Hid (Inv sb g mb wd R w5 S2 ∧ (∀ a b, S' a b = true → S2 a b = true) ∧ (∀ a b, S2 a b = true → S' a b = true ∨ i + 1 ≤ a) ∧ ((tkC R wd i c 1).np < R.length → S2 (tkC R wd i c 1).np (tkC R wd i c 1).nc = true)) := ⟨hI, hmo, hlo, hin⟩
    have hwk5 : w3.heap.size < w5.heap.size := Nat.lt_of_lt_of_le hwk hbx.size
    clear hbx hI hmo hlo hin a0 a1
    go_wp2_with fail
    refine (bless_any (tkC R wd i c 1).o (tkC R wd i c 1).l (tkC R wd i c 0).o (tkC R wd i c 0).l hb1.1 hb1.2 hb0.1 hb0.2 _).mono ?_
    rintro e w6 ⟨rfl, hb6⟩
    rw [hless]
    have hCB6 := (HCB5.out.kept (mb := mb) (BelX.of ((Below.refl _ w5).alloc (Nat.le_refl _) _)) hlt.2.2).kept (BelX.of hb6) hlt.2.2
    have HI6 : Hid (Inv sb g mb wd R w6 S2) := (HR5.out.1.alloc _).below hb6
    have HB6 : Hid (BelX w.heap.size mb w w6) := (HB5.out.alloc (by have := HB5.out.size; omega) _).trans (BelX.of (hb6.mono (by have := HB5.out.size; simp; omega)))
    have r0 := hCB6.r0
    have r1 := hCB6.r1
    have r2 := hCB6.r2
    have r3 := hCB6.r3
    have r4 := hCB6.r4
    have y0 : w6.frozen? ⟨w.heap.size + 1, 0, none⟩ = false := hCB6.fr.frozen
    have y1 : w6.frozen? ⟨w.heap.size + 1, 1, none⟩ = false := hCB6.fr.frozen
    have y2 : w6.frozen? ⟨w.heap.size + 1, 2, none⟩ = false := hCB6.fr.frozen
    have y3 : w6.frozen? ⟨w.heap.size + 1, 3, none⟩ = false := hCB6.fr.frozen
    have y4 : w6.frozen? ⟨w.heap.size + 1, 4, none⟩ = false := hCB6.fr.frozen
    have x0 : w6.cell? ⟨w3.heap.size, 0, none⟩ = some (.int .i64 (tkC R wd i c 0).o) := (hb6.cell (p := ⟨w3.heap.size, 0, none⟩) (by simp; omega)).trans (ka z0 _)
    have x1 : w6.cell? ⟨w3.heap.size, 1, none⟩ = some (.int .i64 (tkC R wd i c 0).l) := (hb6.cell (p := ⟨w3.heap.size, 1, none⟩) (by simp; omega)).trans (ka z1 _)
    have x2 : w6.cell? ⟨w3.heap.size, 2, none⟩ = some (.int .i64 (tkC R wd i c 0).ch) := (hb6.cell (p := ⟨w3.heap.size, 2, none⟩) (by simp; omega)).trans (ka z2 _)
    have x3 : w6.cell? ⟨w3.heap.size, 3, none⟩ = some (.int .i64 (tkC R wd i c 0).np) := (hb6.cell (p := ⟨w3.heap.size, 3, none⟩) (by simp; omega)).trans (ka z3 _)
    have x4 : w6.cell? ⟨w3.heap.size, 4, none⟩ = some (.int .i64 (tkC R wd i c 0).nc) := (hb6.cell (p := ⟨w3.heap.size, 4, none⟩) (by simp; omega)).trans (ka z4 _)
    clear z0 z1 z2 z3 z4 s0 s1 s2 s3 s4 v0 v1 hb6 hCB6
    go_wp2
    refine bodyPost_ret (v := .agg #[.int .i64 (tkC R wd i c 0).o, .int .i64 (tkC R wd i c 0).l, .int .i64 (tkC R wd i c 0).ch, .int .i64 (tkC R wd i c 0).np, .int .i64 (tkC R wd i c 0).nc]) (by simp [results, Tryd.results78, go_sem, r0, r1, r2, r3, r4]) rfl ⟨rfl, belX5 HB6.out (by omega) _ _ _ _ _, S2, HI6.out.set5 (by omega) (by omega) (by omega) _ _ _ _ _, fun a b hab => HR5.out.2.1 a b (HR.out.2.1 a b hab), fun a b hab => ?_, fun h => HR5.out.2.1 _ _ (HR.out.2.2.2 h)⟩
    rcases HR5.out.2.2.1 a b hab with h | h
    · exact HR.out.2.2.1 a b h
    · exact .inr h
end Go.Proofs.YtfabfclbnekleaaDoor
namespace Go.Proofs.YtfabfclbnekleaaDoor
open Go Go.RowKit

theorem seek_all {t : Tr} {wd : Nat} (sb g mb : Nat) (ht : t.Wf) (hn : t.sz ≤ 400) (hw : wd ≤ 100) : ∀ m i c, (plAll t).length - i ≤ m → i ≤ (plAll t).length → c ≤ wd → SeekP sb g mb wd (plAll t) i c := by
  have hlm := lf_dsum t
  have hLM : t.lf * (21 + t.dsum) ≤ 400000 := most_of hlm hn
  have hL : t.lf ≤ 400 := by unfold Tr.sz at hn; omega
  have hM : t.dsum ≤ 3200 := by unfold Tr.sz at hn; omega
  have hR : (plAll t).length ≤ 400 := by rw [plAll_len]; exact hn
  intro m
  induction m with
  | zero => intro i c h1 h2 h3; exact seek_end sb g mb wd i c _ (by omega)
  | succ m ih =>
    intro i c h1 h2 hc
    by_cases hi : i < (plAll t).length
    · obtain ⟨t', nx, dp, ks, hsp⟩ := sp_at ht hi
      refine seek_any sb g mb wd i c _ hi hR hw hc ?_
      have hat := hsp.at
      have hV : ∀ ch, ∃ k : Cv, k = (if (mvAt (plAll t) wd i c ch).np < (plAll t).length then crs (plAll t) wd (mvAt (plAll t) wd i c ch).np (mvAt (plAll t) wd i c ch).nc else zCv) ∧ k.o = (vv (plAll t) wd (mvAt (plAll t) wd i c ch).np (mvAt (plAll t) wd i c ch).nc).1.1 ∧ k.l = (vv (plAll t) wd (mvAt (plAll t) wd i c ch).np (mvAt (plAll t) wd i c ch).nc).1.2 ∧ k.o ≤ 400000 ∧ k.l ≤ 400000 := fun ch => by
        have hm := mv_ok (ch := ch) hsp hc hw hL hM
        refine ⟨_, rfl, ?_⟩
        by_cases hl : (mvAt (plAll t) wd i c ch).np < (plAll t).length
        · rw [if_pos hl]
          obtain ⟨t2, nx2, dp2, ks2, hsp2⟩ := sp_at ht hl
          have h5 := (crs_ok hsp2 hm.cl).1
          have h6 := vv_le (wd := wd) (c := (mvAt (plAll t) wd i c ch).nc) hsp2 hLM
          rw [h5] at h6 ⊢
          exact ⟨rfl, rfl, h6⟩
        · rw [if_neg hl, vv_end (by omega)]
          exact ⟨rfl, rfl, by simp [zCv], by simp [zCv]⟩
      have hTk : ∀ ch, (ch = 0 ∨ ch = 1) → (t'.lg = -1 → ch = 1) → TakeP sb g mb wd (plAll t) i c ch := fun ch h01 hh => by
        have hm := mv_ok (ch := ch) hsp hc hw hL hM
        have := hm.lo
        exact take_any sb g mb hR hsp hc hw hL hM h01 hh (ih _ _ (by omega) hm.hi hm.cl) (hV ch)
      have hbd : ∀ ch, (tkC (plAll t) wd i c ch).o ≤ 1000000 ∧ (tkC (plAll t) wd i c ch).l ≤ 1000000 := fun ch => by
        have hm := mv_ok (ch := ch) hsp hc hw hL hM
        obtain ⟨k, _, h6, h7, h8, h9⟩ := hV ch
        have := hm.bo
        have := hm.bl
        simp only [tkC, cvOf]
        omega
      have e1 : (q2 (plAt (plAll t) i)).lg = t'.lg := by rw [hat]; rfl
      intro w S h
      by_cases hlg : t'.lg = -1
      · have ec : crs (plAll t) wd i c = tkC (plAll t) wd i c 1 := by rw [crs, if_pos (show (plAt (plAll t) i).lg = -1 by rw [hat]; exact hlg)]
        rw [ec]
        exact choose_hard sb g mb hsp (by rw [e1]; exact hlg) (hTk 1 (.inr rfl) fun _ => rfl) w S h
      · have hne : ((q2 (plAt (plAll t) i)).lg == -1) = false := beq_eq_false_iff_ne.2 (by rw [e1]; exact hlg)
        have hT0 := hTk 0 (.inl rfl) fun h => absurd h hlg
        have hT1 := hTk 1 (.inr rfl) fun _ => rfl
        have hl' : ¬ (plAt (plAll t) i).lg = -1 := by rw [hat]; exact hlg
        cases hch : isCh (plAt (plAll t) i).nd.op with
        | false =>
          have ec : crs (plAll t) wd i c = tkC (plAll t) wd i c 0 := by rw [crs, if_neg hl', if_pos hch]
          rw [ec]
          exact choose_plain sb g mb hsp hne hch hT0 w S h
        | true =>
          by_cases hls : lessC ((tkC (plAll t) wd i c 1).o, (tkC (plAll t) wd i c 1).l) ((tkC (plAll t) wd i c 0).o, (tkC (plAll t) wd i c 0).l)
          · have ec : crs (plAll t) wd i c = tkC (plAll t) wd i c 1 := by rw [crs, if_neg hl', if_neg (by rw [hch]; simp), if_pos hls]
            rw [ec]
            exact choose_second sb g mb hsp hne hch hT0 hT1 (hbd 0) (hbd 1) (decide_eq_true hls) w S h
          · have ec : crs (plAll t) wd i c = tkC (plAll t) wd i c 0 := by rw [crs, if_neg hl', if_neg (by rw [hch]; simp), if_neg hls]
            rw [ec]
            exact choose_first sb g mb hsp hne hch hT0 hT1 (hbd 0) (hbd 1) (decide_eq_false hls) w S h
    · exact seek_end sb g mb wd i c _ (by omega)
end Go.Proofs.YtfabfclbnekleaaDoor
namespace Go.Proofs.YtfabfclbnekleaaDoor
open Go Go.RowKit

theorem row_type {w : World} {B e size n k : Nat} {v : Value} {xs : List Value} (h : w.ownsRow B e size v n xs) (hk : v.ownBlock = some k) : k < w.heap.size ∧ ∃ cur, w.heap[k]? = some (.cells cur e (0, 0)) := by
  rcases h.2 with ⟨rfl, _⟩ | ⟨g, c, cur, rfl, _, hg, _⟩
  · simp [Value.ownBlock] at hk
  · simp only [Value.ownBlock, Option.some.injEq] at hk
    subst hk
    exact ⟨(Array.getElem?_eq_some_iff.1 hg).1, cur, hg⟩
theorem row_lo {w : World} {B e size n k : Nat} {v : Value} {xs : List Value} (h : w.ownsRow B e size v n xs) (hk : v.ownBlock = some k) : B ≤ k := by
  rcases h.2 with ⟨rfl, _⟩ | ⟨g, c, cur, rfl, hb, _⟩
  · simp [Value.ownBlock] at hk
  · simp only [Value.ownBlock, Option.some.injEq] at hk
    subst hk
    exact hb
theorem row_kept {w w' : World} {B e size n : Nat} {v : Value} {xs : List Value} (h : w.ownsRow B e size v n xs) (hk : ∀ k, v.ownBlock = some k → w'.heap[k]? = w.heap[k]?) : w'.ownsRow B e size v n xs := by
  refine ⟨h.1, ?_⟩
  rcases h.2 with h0 | ⟨g, c, cur, rfl, hb, hg, rest⟩
  · exact .inl h0
  · exact .inr ⟨g, c, cur, rfl, hb, (hk g rfl).trans hg, rest⟩
/-- The state of the loop. -/
structure ChR (sb g mb wd : Nat) (R : List Pl) (S : Nat → Nat → Bool) (w wr : World) (v3 : Value) (b4 p c : Nat) (us : List Int) : Prop where
  own : wr.ownsRow w.heap.size 3 1 v3 us.length (intCells us)
  box : wr.heap[b4]? = some (.cells #[.int .i64 p, .int .i64 c] 120 (0, 0))
  lo : w.heap.size ≤ b4
  pl : p ≤ R.length
  cl : c ≤ wd
  inS : p < R.length → S p c = true
  way : us ++ (vv R wd p c).2 = (vv R wd 0 0).2
  len : us.length ≤ p
  inv : Inv sb g mb wd R wr S
  bw : Below w.heap.size w wr
section
variable {sb g mb wd b4 p c : Nat} {R : List Pl} {S : Nat → Nat → Bool} {w wr wx : World} {v3 : Value} {us : List Int}
theorem ChR.c0 (h : ChR sb g mb wd R S w wr v3 b4 p c us) : wr.cell? ⟨b4, 0, none⟩ = some (.int .i64 p) := by simp [World.cell?, h.box]
theorem ChR.c1 (h : ChR sb g mb wd R S w wr v3 b4 p c us) : wr.cell? ⟨b4, 1, none⟩ = some (.int .i64 c) := by simp [World.cell?, h.box]
theorem ChR.lt (h : ChR sb g mb wd R S w wr v3 b4 p c us) : b4 < wr.heap.size := World.block_lt_of_cell? wr ⟨b4, 0, none⟩ h.c0
theorem ChR.form (h : ChR sb g mb wd R S w wr v3 b4 p c us) : ∃ a cap, v3 = .slice a us.length cap := by
  rcases h.own.2 with ⟨hv, h0⟩ | ⟨g, c, cur, hv, _⟩
  · exact ⟨none, 0, by rw [hv, h0]⟩
  · exact ⟨_, c, hv⟩
theorem ChR.apart (h : ChR sb g mb wd R S w wr v3 b4 p c us) {k : Nat} (hk : v3.ownBlock = some k) : k ≠ b4 := by
  intro e
  subst e
  obtain ⟨_, cur, h1⟩ := row_type h.own hk
  rw [h.box] at h1
  cases h1
/-- It stays so where nothing is written. -/
theorem ChR.below (h : ChR sb g mb wd R S w wr v3 b4 p c us) (hb : Below wr.heap.size wr wx) : ChR sb g mb wd R S w wx v3 b4 p c us :=
  ⟨row_kept h.own fun k hk => hb.block k (row_type h.own hk).1, (hb.block _ h.lt).trans h.box, h.lo, h.pl, h.cl, h.inS, h.way, h.len, h.inv.below hb, h.bw.trans (hb.mono h.bw.size)⟩
end
/-- How far it is to the end. -/
def chM (n : Nat) (v : Value) (wr : World) : Nat := match v with
  | .pointer (some a) => (match wr.cell? a with | some (.int _ p) => n - p.toNat | _ => 0)
  | _ => 0
theorem chM_of {n b p : Nat} {wr : World} (h : wr.cell? ⟨b, 0, none⟩ = some (.int .i64 (p : Int))) : chM n (.pointer (some ⟨b, 0, none⟩)) wr = n - p := by
  simp [chM, h]

/-- One spot further. -/
theorem chr_next {sb g mb wd p c L M nx dp : Nat} {R : List Pl} {S : Nat → Nat → Bool} {w W : World} {v : Value} {us us' : List Int} {ks : List (Nat × Tr)} {t : Tr} (hsp : Sp R L M p t nx dp ks) (hc : c ≤ wd) (hw : wd ≤ 100) (hL : L ≤ 400) (hM : M ≤ 3200) (hway : us ++ (vv R wd p c).2 = (vv R wd 0 0).2) (hlen : us.length ≤ p) (hS : S p c = true)
    (hus : us' = us ++ (if isCh t.root.op = true then [((crs R wd p c).ch : Int)] else [])) (hown : W.ownsRow w.heap.size 3 1 v us'.length (intCells us')) (hinv : Inv sb g mb wd R W S) (hbw : Below w.heap.size w W) :
    ChR sb g mb wd R S w (W.alloc (.cells #[.int .i64 (crs R wd p c).np, .int .i64 (crs R wd p c).nc] 120)) v W.heap.size (crs R wd p c).np (crs R wd p c).nc us' ∧ p < (crs R wd p c).np := by
  obtain ⟨h1, ch, _, h2⟩ := crs_ok hsp hc
  have hm := mv_ok (ch := ch) hsp hc hw hL hM
  have e1 : (crs R wd p c).np = (mvAt R wd p c ch).np := by rw [h2]; rfl
  have e2 : (crs R wd p c).nc = (mvAt R wd p c ch).nc := by rw [h2]; rfl
  have hlo := hm.lo
  refine ⟨⟨row_kept hown fun k hk => Below.heap_alloc _ _ _ (row_type hown hk).1, heap_alloc_new W _, hbw.size, by rw [e1]; exact hm.hi, by rw [e2]; exact hm.cl, fun hl => (hinv.cl p c hS).2.2 hl, ?_, ?_, hinv.alloc _, hbw.alloc hbw.size _⟩, by rw [e1]; exact hlo⟩
  · rw [h1] at hway
    rw [hus, List.append_assoc]
    exact hway
  · rw [hus, e1]
    split <;> simp <;> omega

set_option maxRecDepth 100000 in
set_option maxHeartbeats 4000000 in
theorem bchoices_any {t : Tr} {wd : Nat} (sb g mb : Nat) (ht : t.Wf) (hn : t.sz ≤ 400) (hw : wd ≤ 100) (w : World) (S : Nat → Nat → Bool) (h : Inv sb g mb wd (plAll t) w S) (h0 : S 0 0 = true) :
    Calls Tryd.prog 56 #[.pointer (some ⟨sb, 0, none⟩)] w fun e w' => (∃ a cap, e = .returned (.slice a (vv (plAll t) wd 0 0).2.length cap) ∧ w'.ownsRow w.heap.size 3 1 (.slice a (vv (plAll t) wd 0 0).2.length cap) (vv (plAll t) wd 0 0).2.length (intCells (vv (plAll t) wd 0 0).2)) ∧ Below w.heap.size w w' := by
  have HI : Hid (Inv sb g mb wd (plAll t) w S) := h
  have H0 : Hid (S 0 0 = true) := h0
  have hlt := h.lt
  have hR : (plAll t).length ≤ 400 := by rw [plAll_len]; exact hn
  have HRD : Hid (∃ R, R = plAll t) := ⟨_, rfl⟩
  have HST : Hid (∀ W : World, W = w.alloc (.cells #[.int .i64 0, .int .i64 0] 120) → ChR sb g mb wd (plAll t) S w W (.slice none 0 0) w.heap.size 0 0 []) := fun W hW => by
    subst hW
    exact ⟨⟨rfl, .inl ⟨rfl, rfl⟩⟩, heap_alloc_new w _, Nat.le_refl _, Nat.zero_le _, Nat.zero_le _, fun _ => H0.out, rfl, Nat.le_refl _, HI.out.alloc _, (Below.refl _ w).alloc (Nat.le_refl _) _⟩
  clear h h0
  go_enter Tryd.func56, Tryd.ntmps56
  go_wp2_with fail
  go_loopw [3, 4] (fun v3 v4 wr => ∃ b4 p c us, v4 = .pointer (some ⟨b4, 0, none⟩) ∧ ChR sb g mb wd (plAll t) S w wr v3 b4 p c us) (fun _ v4 wr => chM (plAll t).length v4 wr)
  case atStart => exact ⟨_, 0, 0, [], rfl, HST.out _ rfl⟩
  case round =>
    obtain ⟨b4, p, c, us, rfl, hC⟩ := hrel
    obtain ⟨a3, cap3, rfl⟩ := hC.form
    have HC : Hid (ChR sb g mb wd (plAll t) S w wr (.slice a3 us.length cap3) b4 p c us) := hC
    have c0 := hC.inv.pl.c0
    have p0 := hC.c0
    by_cases hp : p < (plAll t).length
    · have hpI : (p : Int) < ((plAll t).length : Int) := by omega
      obtain ⟨t', nx, dp, ks, hsp⟩ := sp_at ht hp
      have HSP : Hid (Sp (plAll t) t.lf t.dsum p t' nx dp ks) := hsp
      have hp400 : p ≤ 400 := by omega
      have hc100 : c ≤ 100 := by have := hC.cl; omega
      have HQ : Hid (∀ W, Below wr.heap.size wr W → W.cell? ⟨sb, 0, none⟩ = some (.slice (some ⟨g, 0, none⟩) (plAll t).length (plAll t).length) ∧ W.cell? ⟨b4, 0, none⟩ = some (.int .i64 p) ∧ W.cell? ⟨g, p * 7, none⟩ = some (.int .i64 (q2 (plAt (plAll t) p)).op) ∧ W.cell? ⟨g, p * 7 + 1, none⟩ = some (.string (q2 (plAt (plAll t) p)).tx) ∧ W.cell? ⟨g, p * 7 + 2, none⟩ = some (.int .i64 (q2 (plAt (plAll t) p)).n) ∧ W.cell? ⟨g, p * 7 + 3, none⟩ = some (.int .i64 (q2 (plAt (plAll t) p)).en) ∧ W.cell? ⟨g, p * 7 + 4, none⟩ = some (.int .i64 (q2 (plAt (plAll t) p)).nx) ∧ W.cell? ⟨g, p * 7 + 5, none⟩ = some (.int .i64 (q2 (plAt (plAll t) p)).dp) ∧ W.cell? ⟨g, p * 7 + 6, none⟩ = some (.int .i64 (q2 (plAt (plAll t) p)).lg)) := fun W hW => by
        have hC2 := HC.out.below hW
        obtain ⟨d0, d1, d2, d3, d4, d5, d6⟩ := hC2.inv.pl.pr.get p hp
        exact ⟨hC2.inv.pl.c0, hC2.c0, d0, d1, d2, d3, d4, d5, d6⟩
      have hop : (q2 (plAt (plAll t) p)).op = t'.root.op := by rw [hsp.at]; rfl
      have HLK : Hid (∀ W, Inv sb g mb wd (plAll t) W S → (Instr.lookup 116 (.map (some mb)) (.agg #[.int .i64 (p : Int), .int .i64 (c : Int)]) false).run Tryd.prog W = .ok (.agg #[.int .i64 (crs (plAll t) wd p c).o, .int .i64 (crs (plAll t) wd p c).l, .int .i64 (crs (plAll t) wd p c).ch, .int .i64 (crs (plAll t) wd p c).np, .int .i64 (crs (plAll t) wd p c).nc]) W) := fun W hW => by
        have := hW.me.look (p := p) (c := c) hp400 hc100
        rw [HC.out.inS hp, if_pos rfl] at this
        exact this
      have hfn := fieldNext
      have hfh := fieldChoice
      have hpp : (0 : Int) ≤ (p : Int) := by omega
      have HNX : Hid (∀ (W : World) (v : Value) (us' : List Int), us' = us ++ (if isCh t'.root.op = true then [((crs (plAll t) wd p c).ch : Int)] else []) → W.ownsRow w.heap.size 3 1 v us'.length (intCells us') → Inv sb g mb wd (plAll t) W S → Below w.heap.size w W → ChR sb g mb wd (plAll t) S w (W.alloc (.cells #[.int .i64 (crs (plAll t) wd p c).np, .int .i64 (crs (plAll t) wd p c).nc] 120)) v W.heap.size (crs (plAll t) wd p c).np (crs (plAll t) wd p c).nc us' ∧ p < (crs (plAll t) wd p c).np) := fun W v us' e1 e2 e3 e4 =>
        chr_next HSP.out HC.out.cl hw (by have := lf_dsum t; unfold Tr.sz at hn; omega) (by have := lf_dsum t; unfold Tr.sz at hn; omega) HC.out.way HC.out.len (HC.out.inS hp) e1 e2 e3 e4
      clear hC hsp
      generalize q2 (plAt (plAll t) p) = q at *
      generalize crs (plAll t) wd p c = k at *
      cases hch : isCh q.op with
      | false =>
        have HIS : Hid (∀ W, Calls Tryd.prog 79 #[.agg #[.int .i64 q.op, .string q.tx, .int .i64 q.n, .int .i64 q.en, .int .i64 q.nx, .int .i64 q.dp, .int .i64 q.lg]] W fun e w' => e = .returned (.bool false) ∧ Below W.heap.size W w') := fun W => by have := bisch_any q.op q.tx q.n q.en q.nx q.dp q.lg W; rw [hch] at this; exact this
        have HCH : Hid (isCh t'.root.op = false) := by rw [← hop]; exact hch
        clear hch hop
        go_wp2_with fail
        go_quiet (fail)
        go_wp2_with fail
        have hb1 : Below wr.heap.size wr (wr.drewN nq) := belowQ (Below.refl _ wr) nq
        generalize wr.drewN nq = w1 at *
        have hSa := HQ.out w1.drew hb1.drew
        have HB1 : Hid (Below wr.heap.size wr w1) := hb1
        clear hb1
        go_region_held3 (fun w' => w'.cell? ⟨sb, 0, none⟩ = some (.slice (some ⟨g, 0, none⟩) (plAll t).length (plAll t).length) ∧ w'.cell? ⟨b4, 0, none⟩ = some (.int .i64 p) ∧ w'.cell? ⟨g, p * 7, none⟩ = some (.int .i64 q.op) ∧ w'.cell? ⟨g, p * 7 + 1, none⟩ = some (.string q.tx) ∧ w'.cell? ⟨g, p * 7 + 2, none⟩ = some (.int .i64 q.n) ∧ w'.cell? ⟨g, p * 7 + 3, none⟩ = some (.int .i64 q.en) ∧ w'.cell? ⟨g, p * 7 + 4, none⟩ = some (.int .i64 q.nx) ∧ w'.cell? ⟨g, p * 7 + 5, none⟩ = some (.int .i64 q.dp) ∧ w'.cell? ⟨g, p * 7 + 6, none⟩ = some (.int .i64 q.lg))
          (first | with_reducible exact hSa | with_reducible exact hSb)
          ((go_at_call 79; refine (HIS.out w1.drew).mono ?_; rintro e w2 ⟨rfl, hb2⟩; have hBx : Below wr.heap.size wr w2 := HB1.out.drew.trans (hb2.mono HB1.out.size); have hSb := HQ.out w2 hBx))
        all_goals
          have hC2 := HC.out.below hBx
          have HC2 : Hid (ChR sb g mb wd (plAll t) S w w2 (.slice a3 us.length cap3) b4 p c us) := hC2
          have x0 := hC2.c0
          have x1 := hC2.c1
          have m2 := fun O => ka hC2.inv.c2 O
          have hL := fun O => HLK.out (w2.alloc O).drew ((hC2.inv.alloc O).kept fun _ _ => rfl)
          clear hC2 hb2 hBx hSb hSa c0 p0
          go_wp2_with fail
          go_region
          all_goals
            go_wp2
            go_roundw
            case rel =>
              exact ⟨_, _, _, us, rfl, ((HNX.out w2 _ us (by rw [HCH.out]; simp) HC2.out.own HC2.out.inv HC2.out.bw).1).below (Below.refl _ _).drew⟩
            case measure =>
              have h5 := (HNX.out w2 _ us (by rw [HCH.out]; simp) HC2.out.own HC2.out.inv HC2.out.bw)
              have e5 : chM (plAll t).length (.pointer (some ⟨b4, 0, none⟩)) wr = (plAll t).length - p := chM_of HC.out.c0
              have e6 : chM (plAll t).length (.pointer (some ⟨w2.heap.size, 0, none⟩)) (w2.alloc (.cells #[.int .i64 k.np, .int .i64 k.nc] 120)).drew = (plAll t).length - k.np := chM_of h5.1.c0
              have h6 := h5.2
              rw [e5, e6]
              omega
      | true =>
        have HIS : Hid (∀ W, Calls Tryd.prog 79 #[.agg #[.int .i64 q.op, .string q.tx, .int .i64 q.n, .int .i64 q.en, .int .i64 q.nx, .int .i64 q.dp, .int .i64 q.lg]] W fun e w' => e = .returned (.bool true) ∧ Below W.heap.size W w') := fun W => by have := bisch_any q.op q.tx q.n q.en q.nx q.dp q.lg W; rw [hch] at this; exact this
        have HCH : Hid (isCh t'.root.op = true) := by rw [← hop]; exact hch
        clear hch hop
        go_wp2_with fail
        go_quiet (fail)
        go_wp2_with fail
        have hb1 : Below wr.heap.size wr (wr.drewN nq) := belowQ (Below.refl _ wr) nq
        generalize wr.drewN nq = w1 at *
        have hSa := HQ.out w1.drew hb1.drew
        have HB1 : Hid (Below wr.heap.size wr w1) := hb1
        clear hb1
        go_region_held3 (fun w' => w'.cell? ⟨sb, 0, none⟩ = some (.slice (some ⟨g, 0, none⟩) (plAll t).length (plAll t).length) ∧ w'.cell? ⟨b4, 0, none⟩ = some (.int .i64 p) ∧ w'.cell? ⟨g, p * 7, none⟩ = some (.int .i64 q.op) ∧ w'.cell? ⟨g, p * 7 + 1, none⟩ = some (.string q.tx) ∧ w'.cell? ⟨g, p * 7 + 2, none⟩ = some (.int .i64 q.n) ∧ w'.cell? ⟨g, p * 7 + 3, none⟩ = some (.int .i64 q.en) ∧ w'.cell? ⟨g, p * 7 + 4, none⟩ = some (.int .i64 q.nx) ∧ w'.cell? ⟨g, p * 7 + 5, none⟩ = some (.int .i64 q.dp) ∧ w'.cell? ⟨g, p * 7 + 6, none⟩ = some (.int .i64 q.lg))
          (first | with_reducible exact hSa | with_reducible exact hSb)
          ((go_at_call 79; refine (HIS.out w1.drew).mono ?_; rintro e w2 ⟨rfl, hb2⟩; have hBx : Below wr.heap.size wr w2 := HB1.out.drew.trans (hb2.mono HB1.out.size); have hSb := HQ.out w2 hBx))
        all_goals
          have hC2 := HC.out.below hBx
          have HC2 : Hid (ChR sb g mb wd (plAll t) S w w2 (.slice a3 us.length cap3) b4 p c us) := hC2
          have x0 := hC2.c0
          have x1 := hC2.c1
          have HSS : Hid (∀ W, Inv sb g mb wd (plAll t) W S → W.heap[b4]? = some (.cells #[.int .i64 p, .int .i64 c] 120 (0, 0)) → W.cell? ⟨sb, 2, none⟩ = some (.map (some mb)) ∧ W.cell? ⟨b4, 0, none⟩ = some (.int .i64 p) ∧ W.cell? ⟨b4, 1, none⟩ = some (.int .i64 c) ∧ (Instr.lookup 116 (.map (some mb)) (.agg #[.int .i64 (p : Int), .int .i64 (c : Int)]) false).run Tryd.prog W = .ok (.agg #[.int .i64 k.o, .int .i64 k.l, .int .i64 k.ch, .int .i64 k.np, .int .i64 k.nc]) W) := fun W h1 h2 => ⟨h1.c2, by simp [World.cell?, h2], by simp [World.cell?, h2], HLK.out W h1⟩
          have hbx4 : ∀ O, (w2.alloc O).drew.heap[b4]? = some (.cells #[.int .i64 p, .int .i64 c] 120 (0, 0)) := fun O => (Below.heap_alloc w2 O b4 hC2.lt).trans hC2.box
          have hSc := HSS.out w2.drew (hC2.inv.kept fun _ _ => rfl) hC2.box
          have hSd := fun O => HSS.out (w2.alloc O).drew ((hC2.inv.alloc O).kept fun _ _ => rfl) (hbx4 O)
          have HG5 : Hid (∀ w5, (w2.alloc (.cells #[.int .i64 k.ch] 3)).drew.grownBy w5 (Value.slice a3 us.length cap3).ownBlock → Inv sb g mb wd (plAll t) w5 S ∧ w5.heap[b4]? = some (.cells #[.int .i64 p, .int .i64 c] 120 (0, 0)) ∧ Below w.heap.size w w5) := fun w5 hg => by
            have hsz : w2.heap.size ≤ (w2.alloc (.cells #[.int .i64 k.ch] 3)).drew.heap.size := by show _ ≤ (w2.alloc _).heap.size; simp
            have hbs := HC2.out.bw.size
            have hne : ∀ b, b < w.heap.size → some b ≠ (Value.slice a3 us.length cap3).ownBlock := fun b hb e => by
              have := row_lo HC2.out.own e.symm
              omega
            have hlt2 := HC2.out.inv.lt
            refine ⟨((HC2.out.inv.alloc (.cells #[.int .i64 k.ch] 3)).kept (w' := (w2.alloc (.cells #[.int .i64 k.ch] 3)).drew) fun _ _ => rfl).kept3 (hg.block _ (by omega) (hne _ hlt.1)) (hg.block _ (by omega) (hne _ hlt.2.1)) (hg.block _ (by omega) (hne _ hlt.2.2)), (hg.block b4 (by have := HC2.out.lt; omega) (fun e => HC2.out.apart e.symm rfl)).trans (hbx4 _), ?_⟩
            exact ((HC2.out.bw.alloc hbs (.cells #[.int .i64 k.ch] 3)).drew).trans ⟨hg.os, hg.tape, hg.output, hg.size, fun b hb => hg.block b (by omega) (hne b hb)⟩
          obtain ⟨i0, hi0, hz0, hz1, hz2⟩ := info_parts intInfo
          have hownA : (w2.alloc (.cells #[.int .i64 k.ch] 3)).drew.ownsRow w.heap.size 3 1 (.slice a3 us.length cap3) us.length (intCells us) := row_kept hC2.own fun b hb => Below.heap_alloc w2 _ b (row_type hC2.own hb).1
          have hnews : ∀ j u, [Value.int .i64 (k.ch : Int)][j]? = some u → (w2.alloc (.cells #[.int .i64 k.ch] 3)).drew.cell? ((⟨w2.heap.size, 0, none⟩ : Addr).add j) = some u := World.news_of_block (cs := #[.int .i64 k.ch]) (heap_alloc_new w2 (.cells #[.int .i64 k.ch] 3))
          have hone : ∀ u ∈ [Value.int .i64 (k.ch : Int)], u.oneCell' = true := by intro u hu; simp at hu; subst hu; rfl
          have hl63 : us.length + 1 ≤ maxLen := by have := hC2.len; unfold maxLen; omega
          have hl47 : (us.length + 1) * 8 ≤ 140737488355328 := by have := hC2.len; omega
          have hbs2 : w.heap.size ≤ (w2.alloc (.cells #[.int .i64 k.ch] 3)).drew.heap.size := by show _ ≤ (w2.alloc _).heap.size; have := hC2.bw.size; simp; omega
          have hH2 : (w2.alloc (.cells #[.int .i64 k.ch] 3)).drew.heap.size = w2.heap.size + 1 := by show (w2.alloc _).heap.size = _; simp
          clear hC2 hb2 hBx hSb hSa c0 p0 hbx4 x0 x1
          go_wp2_with fail
          go_region_held3 (fun w' => w'.cell? ⟨sb, 2, none⟩ = some (.map (some mb)) ∧ w'.cell? ⟨b4, 0, none⟩ = some (.int .i64 p) ∧ w'.cell? ⟨b4, 1, none⟩ = some (.int .i64 c) ∧ (Instr.lookup 116 (.map (some mb)) (.agg #[.int .i64 (p : Int), .int .i64 (c : Int)]) false).run Tryd.prog w' = .ok (.agg #[.int .i64 k.o, .int .i64 k.l, .int .i64 k.ch, .int .i64 k.np, .int .i64 k.nc]) w')
            (first | with_reducible exact hSc | with_reducible exact hSd _ | with_reducible exact hSe)
            ((refine step_append_lies _ (by rfl) _ _ 60 (by rfl) w.heap.size 3 i0 _ 1 8 Tryd.underlying60 hi0 hz0 hz1 hz2 rfl (by decide) (.slice a3 us.length cap3) us.length (intCells us) (by rfl) hownA ⟨w2.heap.size, 0, none⟩ 1 1 [.int .i64 k.ch] (by rfl) rfl hnews hone (by decide) hl63 hl47 hbs2 (w2.heap.size + 1) hH2 ?_; intro g3 cap5 w5 hown5 hgrow5 hat5 hlt5; obtain ⟨hI5, hx5, hbw5⟩ := HG5.out w5 hgrow5; have hSe := HSS.out w5 hI5 hx5))
          all_goals
            have HO5 : Hid (w5.ownsRow w.heap.size 3 1 (.slice (some ⟨g3, 0, none⟩) (us.length + 1) cap5) (us ++ [(k.ch : Int)]).length (intCells (us ++ [(k.ch : Int)]))) := by
              show w5.ownsRow _ _ _ _ _ _
              rw [intCells_app, List.length_append]
              exact hown5
            have HI5 : Hid (Inv sb g mb wd (plAll t) w5 S) := hI5
            have HBW5 : Hid (Below w.heap.size w w5) := hbw5
            obtain ⟨_, x0, x1, _⟩ := hSe
            have m2 := fun O => ka hI5.c2 O
            have hL := fun O => HLK.out (w5.alloc O).drew ((hI5.alloc O).kept fun _ _ => rfl)
            clear hSc hSd hown5 hgrow5 hat5 hlt5 hI5 hx5 hbw5 hownA hnews hone hl63 hl47 hbs2 hH2 hi0 hz0 hz1 hz2
            go_wp2_with fail
            go_region
            all_goals
              go_wp2
              go_roundw
              case rel =>
                exact ⟨_, _, _, _, rfl, ((HNX.out w5 _ _ (by rw [HCH.out]; rfl) HO5.out HI5.out HBW5.out).1).below (Below.refl _ _).drew⟩
              case measure =>
                have h5 := (HNX.out w5 _ _ (by rw [HCH.out]; rfl) HO5.out HI5.out HBW5.out)
                have e5 : chM (plAll t).length (.pointer (some ⟨b4, 0, none⟩)) wr = (plAll t).length - p := chM_of HC.out.c0
                have e6 : chM (plAll t).length (.pointer (some ⟨w5.heap.size, 0, none⟩)) (w5.alloc (.cells #[.int .i64 k.np, .int .i64 k.nc] 120)).drew = (plAll t).length - k.np := chM_of h5.1.c0
                have h6 := h5.2
                rw [e5, e6]
                omega
    · have hpI : ¬ (p : Int) < ((plAll t).length : Int) := by omega
      have HE : Hid (us = (vv (plAll t) wd 0 0).2) := by
        have := hC.way
        rw [vv_end (by omega), List.append_nil] at this
        exact this
      clear hC
      go_wp2_with fail
      go_quiet (fail)
      go_wp2
      go_ret
      refine ⟨⟨a3, cap3, ?_, ?_⟩, ?_⟩
      · rw [← HE.out]; rfl
      · rw [← HE.out]; exact row_kept HC.out.own fun _ _ => rfl
      · exact belowQ HC.out.bw _
end Go.Proofs.YtfabfclbnekleaaDoor
