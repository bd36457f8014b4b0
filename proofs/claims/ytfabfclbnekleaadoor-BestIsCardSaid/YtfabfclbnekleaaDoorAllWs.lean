/- Some texts as one: FWalkZ, Trn, Cln, AllW, Sam. -/
import Derived.Test.YtfabfclbnekleaaDoorFWalks
import Derived.BigRegion
import Derived.Deep.DeepCutAuto
import Derived.Test.YtfabfclbnekleaaDoorIntApp
import Derived.Deep.AppendLies
import Derived.Laws.Cover3
import Derived.Test.YtfabfclbnekleaaDoorDocs
import Derived.Test.YtfabfclbnekleaaDoorSamI
import Derived.BigQuiet
import Derived.Deep.QuietTactic
namespace Go.Proofs.YtfabfclbnekleaaDoor
open Go Go.RowKit

/-- FPost, by the world alone. -/
theorem fpost_of {fn : Nat} {args : Array Value} {B b : Nat} {pl : List Value} {pre : List Int} {q : List Int × List Int} {g : Option Nat} {w w0 : World} (h : Calls Tryd.prog fn args w0 fun e w' => e = .returned (.tuple #[]) ∧ ∃ g', FS B b pl (pre ++ (q.1 ++ q.2)) (pre.length + q.1.length) g' w' ∧ FKeep b g g' w w') : Calls Tryd.prog fn args w0 (FPost B b pl pre q g w) := h

theorem fwalk_8 (B b s be bf : Nat) (hb : s < B ∧ be < B ∧ bf < B) (hB : B ≤ b) (ds : List Nd) (a : Option Addr) (cap : Nat) (hl : ds.length ≤ 400) (tx : ByteArray) (n : Int) (t : Tr) (ht : Tr.Wf (.one ⟨8, tx, n⟩ t)) (f : List Int → List Int × List Int) (hA : FWalkOk B b s be bf ds a cap t.nodes f) :
    FWalkOk B b s be bf ds a cap (⟨8, tx, n⟩ :: t.nodes) (goGroup f t.isFlat) := by
  intro i r pre rest g w hd hC hF hsz hBw
  have hdT : ds.drop i = (Tr.one ⟨8, tx, n⟩ t).nodes ++ r := hd
  obtain ⟨hi, e1, e2⟩ := drop_cons (x := ⟨8, tx, n⟩) (A := t.nodes ++ r) hd
  obtain ⟨o0, ea, d1, _, _⟩ := hC.nd i hi
  subst ea
  rw [e1] at d1
  have hrow := hF.row
  have hF0 := hF
  obtain ⟨v, hbk, _, _, _⟩ := hF0
  obtain ⟨c0, c1, c2, _, _, _, _⟩ := fcell hbk
  have hk := (hC.kn i _ r (Nat.zero_le _) ht hdT).2
  have hk : w.cell? ⟨bf, i, none⟩ = some (.bool t.isFlat) := hk
  simp only [List.length_cons] at hsz
  refine fpost_of ?_
  -- the walk behind the choice 1
  have walk1 : ∀ (r1 : List Int) (g1 : Option Nat) (w1 : World), FS B b (plF be bf ds.length cap (some ⟨s, o0, none⟩)) ((pre ++ [1]) ++ r1) (pre ++ [1]).length g1 w1 → FKeep b g g1 w w1 → r1.length ≤ rest.length →
      Calls Tryd.prog 52 #[.pointer (some ⟨b, 0, none⟩), .int .i64 ((i : Int) + 1)] w1 fun e w' => e = .returned (.tuple #[]) ∧ ∃ g', FS B b (plF be bf ds.length cap (some ⟨s, o0, none⟩)) (pre ++ ((1 :: (f r1).1) ++ (f r1).2)) (pre.length + (1 :: (f r1).1).length) g' w' ∧ FKeep b g g' w w' := by
    intro r1 g1 w1 h1 k1 hr1
    have hB1 := k1.below hB hrow hBw
    refine (hA (i + 1) r (pre ++ [1]) r1 g1 w1 e2 (hC.below hb hB1) h1 (by rw [List.length_append]; simp; omega) (by have := hB1.size; omega)).mono ?_
    rintro e w2 ⟨rfl, g2, h2, k2⟩
    refine ⟨rfl, g2, ?_, k1.trans k2⟩
    have q1 : pre ++ ((1 :: (f r1).1) ++ (f r1).2) = pre ++ [1] ++ ((f r1).1 ++ (f r1).2) := by simp
    have q2 : pre.length + (1 :: (f r1).1).length = (pre ++ [1]).length + (f r1).1.length := by simp; omega
    rw [q1, q2]
    exact h2
  cases rest with
  | nil =>
    rw [List.append_nil] at hF
    cases hf : t.isFlat with
    | true =>
      rw [hf] at hk
      refine fw8_n i true 0 w (fun w' => ∃ g', FS B b (plF be bf ds.length cap (some ⟨s, o0, none⟩)) (pre ++ [0]) (pre.length + 1) g' w' ∧ FKeep b g g' w w') _ c0 d1 (by omega) hl c2 hk (by decide) (choose_new_t B b be bf ds.length cap _ pre g w hF (by simp at hsz; omega) hBw) ?_
      rintro w' ⟨g', h1, k1⟩
      exact ⟨g', h1, k1⟩
    | false =>
      rw [hf] at hk
      refine fw8_1 i false 1 w (fun w' => ∃ g', FS B b (plF be bf ds.length cap (some ⟨s, o0, none⟩)) (pre ++ [1]) (pre.length + 1) g' w' ∧ FKeep b g g' w w') _ c0 d1 (by omega) hl c2 hk rfl (choose_new_f B b be bf ds.length cap _ pre g w hF (by simp at hsz; omega) hBw) ?_
      rintro w' ⟨g', h1, k1⟩
      refine walk1 [] g' w' ?_ k1 (Nat.le_refl _)
      rw [List.append_nil, List.length_append]
      exact h1
  | cons c r1 =>
    have hm : pre.length < (pre ++ c :: r1).length := by simp
    have hc := choose_old B b be bf ds.length cap _ (pre ++ c :: r1) pre.length g t.isFlat w hF hm (by simp at hsz ⊢; omega)
    have hg : (pre ++ c :: r1)[pre.length] = c := by simp
    rw [hg] at hc
    by_cases h1 : c = 1
    · subst h1
      have hq : goGroup f t.isFlat (1 :: r1) = (1 :: (f r1).1, (f r1).2) := by simp [goGroup]
      rw [hq]
      refine fw8_1 i t.isFlat 1 w _ _ c0 d1 (by omega) hl c2 hk rfl hc ?_
      rintro w' ⟨h2, k2⟩
      refine walk1 r1 g w' ?_ k2 (by simp)
      have q1 : pre ++ [1] ++ r1 = pre ++ 1 :: r1 := by simp
      rw [q1, List.length_append]
      exact h2
    · have hq : goGroup f t.isFlat (c :: r1) = ([c], r1) := by simp [goGroup, h1]
      rw [hq]
      refine fw8_n i t.isFlat c w _ _ c0 d1 (by omega) hl c2 hk h1 hc ?_
      rintro w' ⟨h2, k2⟩
      exact ⟨g, h2, k2⟩

theorem fwalk_9 (B b s be bf : Nat) (hb : s < B ∧ be < B ∧ bf < B) (hB : B ≤ b) (ds : List Nd) (a : Option Addr) (cap : Nat) (hl : ds.length ≤ 400) (tx : ByteArray) (n : Int) (t t' : Tr) (ht : t.Wf) (f h : List Int → List Int × List Int) (hA : FWalkOk B b s be bf ds a cap t.nodes f) (hG : FWalkOk B b s be bf ds a cap t'.nodes h) :
    FWalkOk B b s be bf ds a cap (⟨9, tx, n⟩ :: (t.nodes ++ t'.nodes)) (goEither f h) := by
  intro i r pre rest g w hd hC hF hsz hBw
  obtain ⟨hi, e1, e0⟩ := drop_cons (x := ⟨9, tx, n⟩) (A := t.nodes ++ t'.nodes ++ r) hd
  have e2 : ds.drop (i + 1) = t.nodes ++ (t'.nodes ++ r) := by rw [e0, List.append_assoc]
  have hi1 := drop_lt e2
  obtain ⟨o0, ea, d1, _, _⟩ := hC.nd i hi
  subst ea
  rw [e1] at d1
  have hrow := hF.row
  have hF0 := hF
  obtain ⟨v, hbk, _, _, _⟩ := hF0
  obtain ⟨c0, c1, c2, _, _, _, _⟩ := fcell hbk
  simp only [List.length_cons, List.length_append] at hsz
  refine fpost_of ?_
  have walk0 : ∀ (r1 : List Int) (g1 : Option Nat) (w1 : World), FS B b (plF be bf ds.length cap (some ⟨s, o0, none⟩)) ((pre ++ [0]) ++ r1) (pre ++ [0]).length g1 w1 → FKeep b g g1 w w1 → r1.length ≤ rest.length →
      Calls Tryd.prog 52 #[.pointer (some ⟨b, 0, none⟩), .int .i64 ((i : Int) + 1)] w1 fun e w' => e = .returned (.tuple #[]) ∧ ∃ g', FS B b (plF be bf ds.length cap (some ⟨s, o0, none⟩)) (pre ++ ((0 :: (f r1).1) ++ (f r1).2)) (pre.length + (0 :: (f r1).1).length) g' w' ∧ FKeep b g g' w w' := by
    intro r1 g1 w1 h1 k1 hr1
    have hB1 := k1.below hB hrow hBw
    refine (hA (i + 1) _ (pre ++ [0]) r1 g1 w1 e2 (hC.below hb hB1) h1 (by rw [List.length_append]; simp; omega) (by have := hB1.size; omega)).mono ?_
    rintro e w2 ⟨rfl, g2, h2, k2⟩
    refine ⟨rfl, g2, ?_, k1.trans k2⟩
    have q1 : pre ++ ((0 :: (f r1).1) ++ (f r1).2) = pre ++ [0] ++ ((f r1).1 ++ (f r1).2) := by simp
    have q2 : pre.length + (0 :: (f r1).1).length = (pre ++ [0]).length + (f r1).1.length := by simp; omega
    rw [q1, q2]
    exact h2
  cases rest with
  | nil =>
    rw [List.append_nil] at hF
    refine fw9_0 i 0 w (fun w' => ∃ g', FS B b (plF be bf ds.length cap (some ⟨s, o0, none⟩)) (pre ++ [0]) (pre.length + 1) g' w' ∧ FKeep b g g' w w') _ c0 d1 (by omega) hl rfl (choose_new_t B b be bf ds.length cap _ pre g w hF (by simp at hsz; omega) hBw) ?_
    rintro w' ⟨g', h1, k1⟩
    refine walk0 [] g' w' ?_ k1 (Nat.le_refl _)
    rw [List.append_nil, List.length_append]
    exact h1
  | cons c r1 =>
    have hm : pre.length < (pre ++ c :: r1).length := by simp
    have hc := choose_old B b be bf ds.length cap _ (pre ++ c :: r1) pre.length g true w hF hm (by simp at hsz ⊢; omega)
    have hg : (pre ++ c :: r1)[pre.length] = c := by simp
    rw [hg] at hc
    by_cases h1 : c = 0
    · subst h1
      have hq : goEither f h (0 :: r1) = (0 :: (f r1).1, (f r1).2) := by simp [goEither]
      rw [hq]
      refine fw9_0 i 0 w _ _ c0 d1 (by omega) hl rfl hc ?_
      rintro w' ⟨h2, k2⟩
      refine walk0 r1 g w' ?_ k2 (by simp)
      have q1 : pre ++ [0] ++ r1 = pre ++ 0 :: r1 := by simp
      rw [q1, List.length_append]
      exact h2
    · have hq : goEither f h (c :: r1) = (c :: (h r1).1, (h r1).2) := by simp [goEither, h1]
      rw [hq]
      refine fw9_n (be := be) i (i + 1 + t.nodes.length) c w _ _ c0 d1 (by omega) hl h1 (by omega) ?_ hc ?_
      · rintro w' ⟨h2, k2⟩
        obtain ⟨v', hbk', _, _, _⟩ := h2
        have hB1 := k2.below hB hrow hBw
        exact ⟨(fcell hbk').2.1, ((hC.below hb hB1).kn (i + 1) t _ (Nat.zero_le _) ht e2).1⟩
      · rintro w' ⟨h2, k2⟩
        have hB1 := k2.below hB hrow hBw
        have q1 : pre ++ c :: r1 = (pre ++ [c]) ++ r1 := by simp
        have q2 : pre.length + 1 = (pre ++ [c]).length := by simp
        rw [q1, q2] at h2
        simp only [List.length_cons] at hsz
        refine (hG (i + 1 + t.nodes.length) r (pre ++ [c]) r1 g w' (drop_app e2) (hC.below hb hB1) h2 (by rw [List.length_append]; simp; omega) (by have := hB1.size; omega)).mono ?_
        rintro e w2 ⟨rfl, g2, h3, k3⟩
        refine ⟨rfl, g2, ?_, k2.trans k3⟩
        have q3 : pre ++ ((c :: (h r1).1) ++ (h r1).2) = pre ++ [c] ++ ((h r1).1 ++ (h r1).2) := by simp
        have q4 : pre.length + (c :: (h r1).1).length = (pre ++ [c]).length + (h r1).1.length := by simp; omega
        rw [q3, q4]
        exact h3

theorem fwalk_any (B b s be bf : Nat) (hb : s < B ∧ be < B ∧ bf < B) (hB : B ≤ b) (ds : List Nd) (a : Option Addr) (cap : Nat) (hl : ds.length ≤ 400) : ∀ t : Tr, t.Wf → FWalkOk B b s be bf ds a cap t.nodes t.go
  | .leaf ⟨op, tx, n⟩, h => by
    rcases leaf_op h.1 h.2 with e | e | e | e | e
    all_goals (simp only at e; subst e)
    · exact fwalk_1 B b s be bf hb hB ds a cap hl tx n
    · exact fwalk_2 B b s be bf hb hB ds a cap hl tx n
    · exact fwalk_3 B b s be bf hb hB ds a cap hl tx n
    · exact fwalk_4 B b s be bf hb hB ds a cap hl tx n
    · exact fwalk_5 B b s be bf hb hB ds a cap hl tx n
  | .one ⟨op, tx, n⟩ a', h => by
    rcases one_op h.2.1 with e | e
    all_goals (simp only at e; subst e)
    · rw [go_deep (x := ⟨7, tx, n⟩) rfl]
      exact fwalk_7 B b s be bf hb hB ds a cap hl tx n _ _ (fwalk_any B b s be bf hb hB ds a cap hl a' h.2.2)
    · rw [go_group (x := ⟨8, tx, n⟩) rfl]
      exact fwalk_8 B b s be bf hb hB ds a cap hl tx n a' h _ (fwalk_any B b s be bf hb hB ds a cap hl a' h.2.2)
  | .two ⟨op, tx, n⟩ a' c, h => by
    rcases two_op h.2.1 with e | e
    all_goals (simp only at e; subst e)
    · rw [go_both (x := ⟨6, tx, n⟩) rfl]
      exact fwalk_6 B b s be bf hb hB ds a cap hl tx n a' h.2.2.1 _ _ _ (fwalk_any B b s be bf hb hB ds a cap hl a' h.2.2.1) (fwalk_any B b s be bf hb hB ds a cap hl c h.2.2.2) (List.length_pos_iff.1 c.pos) (go_len a')
    · rw [go_either (x := ⟨9, tx, n⟩) rfl]
      exact fwalk_9 B b s be bf hb hB ds a cap hl tx n a' c h.2.2.1 _ _ (fwalk_any B b s be bf hb hB ds a cap hl a' h.2.2.1) (fwalk_any B b s be bf hb hB ds a cap hl c h.2.2.2)
end Go.Proofs.YtfabfclbnekleaaDoor
namespace Go.Proofs.YtfabfclbnekleaaDoor
open Go Go.RowKit

theorem turnL_ones : ∀ {u : List Int}, (∀ c ∈ u, c = 1) → turnL u = none
  | [], _ => rfl
  | c :: u, h => by
    have h1 := turnL_ones (u := u) fun d hd => h d (by simp [hd])
    simp only [turnL, h1, if_pos (h c (by simp))]
theorem turnL_at : ∀ {u : List Int} {k : Nat} (hk : k < u.length), u[k] ≠ 1 → (∀ j (hj : j < u.length), k < j → u[j] = 1) → turnL u = some (u.take k ++ [1])
  | c :: u, 0, _, h1, h2 => by
    have h3 : turnL u = none := turnL_ones fun d hd => by
      obtain ⟨j, hj, rfl⟩ := List.getElem_of_mem hd
      exact h2 (j + 1) (by simp; omega) (by omega)
    have h1' : ¬ c = 1 := h1
    simp only [turnL, h3, if_neg h1']
    rfl
  | c :: u, k + 1, hk, h1, h2 => by
    have h3 := turnL_at (u := u) (k := k) (by simpa using hk) h1 (fun j hj hkj => h2 (j + 1) (by simp; omega) (by omega))
    simp only [turnL, h3]
    rfl

/-- A row cut short, its last number stored. -/
theorem own_cut {B k n cap g : Nat} {path : List Int} {w W : World} (h : w.ownsRow B 3 1 (.slice (some ⟨g, 0, none⟩) n cap) n (intCells path)) (hk : k < n) (hW : W.heap[g]? = (w.setCell ⟨g, k, none⟩ (.int .i64 1)).heap[g]?) :
    W.ownsRow B 3 1 (.slice (some ⟨g, 0, none⟩) (k + 1) cap) (path.take k ++ [1]).length (intCells (path.take k ++ [1])) := by
  have hn : path.length = n := by have := h.1; rw [intCells_len] at this; omega
  have hl : (path.take k ++ [1]).length = k + 1 := by simp; omega
  rw [hl]
  rcases h.2 with ⟨hv, _⟩ | ⟨g', c', cur, hv, hb, hg, hnc, hcm, hsz, htake⟩
  · cases hv
  · simp only [Value.slice.injEq, Option.some.injEq, Addr.mk.injEq, and_true, true_and] at hv
    obtain ⟨rfl, rfl⟩ := hv
    refine ⟨by rw [intCells_len, hl], .inr ⟨g, cap, cur.setIfInBounds k (.int .i64 1), rfl, hb, ?_, by omega, hcm, by simpa using hsz, ?_⟩⟩
    · rw [hW]
      simp [World.setCell, Array.getElem?_modify, hg]
    · rw [Array.toList_setIfInBounds, Nat.mul_one, intCells_app]
      have hc : k < cur.toList.length := by simp; omega
      have e1 : (cur.toList.set k (.int .i64 1)).take (k + 1) = (cur.toList.take k) ++ [.int .i64 1] := by
        rw [List.take_add_one, List.getElem?_set_self hc]
        simp [List.take_set_of_le]
      rw [e1]
      congr 1
      have e2 : cur.toList.take k = (cur.toList.take (n * 1)).take k := by rw [List.take_take]; congr 1; omega
      rw [e2, htake]
      simp [intCells, List.map_take]

set_option maxRecDepth 100000 in
set_option maxHeartbeats 2000000 in
theorem turn_any (B b be bf n cap : Nat) (a : Option Addr) (path : List Int) (made : Nat) (g : Option Nat) (w : World) (h : FS B b (plF be bf n cap a) path made g w) (hl : path.length ≤ 100000) :
    Calls Tryd.prog 51 #[.pointer (some ⟨b, 0, none⟩)] w fun e w' => ((turnL path = none ∧ e = .returned (.bool false)) ∨ (∃ p, turnL path = some p ∧ e = .returned (.bool true) ∧ FS B b (plF be bf n cap a) p 0 g w')) ∧ FKeep b g g w w' := by
  obtain ⟨v, hb, hown, hvg, hgb⟩ := h
  obtain ⟨av, cv, rfl⟩ : ∃ av cv, v = .slice av path.length cv := by
    rcases hown.2 with ⟨hv, h0⟩ | ⟨g, c, cur, hv, _⟩
    · exact ⟨none, 0, by rw [hv, h0]⟩
    · exact ⟨_, c, hv⟩
  obtain ⟨c0, c1, c2, c3, c4, f3, f4⟩ := fcell hb
  have HB : Hid (w.heap[b]? = some (.cells (plF be bf n cap a ++ [Value.slice av path.length cv, Value.int .i64 made]).toArray 108 (0, 0))) := hb
  have HO : Hid (w.ownsRow B 3 1 (.slice av path.length cv) path.length (intCells path)) := hown
  have HG : Hid ((Value.slice av path.length cv).ownBlock = g) := hvg
  clear hb hown hvg
  go_enter Tryd.func51, Tryd.ntmps51
  go_wp2
  go_loopw [3] (fun last wr => (∃ q : Nat, wr = w.drewN q) ∧ ∃ k : Nat, k ≤ path.length ∧ last = .int .i64 ((k : Int) - 1) ∧ ∀ j (hj : j < path.length), k ≤ j → path[j] = 1) (fun last _ => (intOf last + 1).toNat)
  case atStart => exact ⟨⟨0, rfl⟩, path.length, Nat.le_refl _, by go_num, fun j hj hk => by omega⟩
  case round =>
    obtain ⟨⟨q, rfl⟩, k, hk, rfl, hall⟩ := hrel
    have HA : Hid (∀ j (hj : j < path.length), k ≤ j → path[j] = 1) := hall
    clear hall
    by_cases hk0 : k = 0
    · subst hk0
      have hneg : decide ((0 : Int) ≤ ((0 : Nat) : Int) - 1) = false := by decide
      go_wp2
      go_ret
      refine ⟨.inl ⟨turnL_ones fun c hc => ?_, rfl⟩, ⟨rfl, rfl, rfl, Nat.le_refl _, fun _ _ _ _ => rfl, .inl rfl⟩⟩
      obtain ⟨j, hj, rfl⟩ := List.getElem_of_mem hc
      exact HA.out j hj (Nat.zero_le _)
    · obtain ⟨l, rfl⟩ : ∃ l, k = l + 1 := ⟨k - 1, by omega⟩
      have hki : (((l + 1 : Nat) : Int) - 1) = (l : Int) := by omega
      rw [hki]
      have hlp : l < path.length := by omega
      have hlI : (l : Int) < (path.length : Int) := by omega
      obtain ⟨gg, cc, hv, _, hgl⟩ := HO.out.form (by omega : 0 < path.length)
      simp only [Value.slice.injEq, true_and] at hv
      obtain ⟨rfl, rfl⟩ := hv
      obtain ⟨_, _, hcv, q3, _⟩ := own_ints HO.out
      obtain ⟨bv, ov, ea, hbv, x1⟩ := q3 l hlp
      simp only [Option.some.injEq, Addr.mk.injEq, and_true] at ea
      obtain ⟨rfl, rfl⟩ := ea
      rw [Nat.zero_add] at x1
      have hgv : g = some gg := HG.out.symm
      have hbb : gg ≠ b := fun e => hgb (by rw [hgv, e])
      have hfz : w.frozen? ⟨gg, l, none⟩ = false := by
        rcases HO.out.2 with ⟨hv, _⟩ | ⟨g', c', cur, hv, _, hg, _⟩
        · cases hv
        · simp only [Value.slice.injEq, Option.some.injEq, Addr.mk.injEq, and_true, true_and] at hv
          obtain ⟨rfl, _⟩ := hv
          simp [World.frozen?, hg]
      clear q3 hki
      by_cases h1 : path[l] = 1
      · have HA' : Hid (∀ j (hj : j < path.length), l ≤ j → path[j] = 1) := fun j hj hlj => by
          by_cases e : j = l
          · subst e; exact h1
          · exact HA.out j hj (by omega)
        rw [h1] at x1
        clear h1
        go_wp2
        go_roundw
        case rel => exact ⟨⟨q, rfl⟩, l, by omega, by go_num, HA'.out⟩
        case measure => simp [intOf]
      · have HT : Hid (turnL path = some (path.take l ++ [1])) := turnL_at hlp h1 (fun j hj hlj => HA.out j hj (by omega))
        generalize path[l] = c at x1 h1
        have hne : (c == 1) = false := beq_eq_false_iff_ne.2 h1
        have hp1 : (0 : Int) ≤ (l : Int) := by omega
        have hw1 : IntKind.i64.wrap ((l : Int) + 1) = (l : Int) + 1 := by rw [IntKind.wrap_i64]; omega
        have hlc : (l : Int) + 1 ≤ (cv : Int) := by omega
        have hln : ((l : Int) + 1).toNat = l + 1 := by omega
        clear h1
        go_wp2
        go_ret
        refine ⟨.inr ⟨_, HT.out, rfl, ⟨.slice (some ⟨gg, 0, none⟩) (l + 1) cv, ?_, ?_, rfl, fun e => hbb (by cases e; rfl)⟩⟩, ⟨rfl, rfl, rfl, by simp [World.setCell, World.drewN], fun j hj hjb hjg => ?_, .inl rfl⟩⟩
        · have hbh := HB.out
          refine (Below.heap_setCell _ _ _ _ hbb.symm).trans ?_
          simp [World.setCell, World.drewN, Array.getElem?_modify, hbh]
        · refine own_cut HO.out hlp ?_
          simp [World.setCell, World.drewN, Array.getElem?_modify, hbb.symm]
        · refine (Below.heap_setCell _ _ _ _ (fun e => hjg (by rw [e]))).trans ((Below.heap_setCell _ _ _ _ hjb).trans (Below.heap_setCell _ _ _ _ hjb))
end Go.Proofs.YtfabfclbnekleaaDoor
namespace Go.Proofs.YtfabfclbnekleaaDoor
open Go Go.RowKit

theorem own_type {w : World} {B e size n k : Nat} {v : Value} {xs : List Value} (h : w.ownsRow B e size v n xs) (hk : v.ownBlock = some k) : k < w.heap.size ∧ ∃ cur, w.heap[k]? = some (.cells cur e (0, 0)) := by
  rcases h.2 with ⟨rfl, _⟩ | ⟨g, c, cur, rfl, _, hg, _⟩
  · simp [Value.ownBlock] at hk
  · simp only [Value.ownBlock, Option.some.injEq] at hk
    subst hk
    exact ⟨(Array.getElem?_eq_some_iff.1 hg).1, cur, hg⟩
theorem own_kept {w w' : World} {B e size n : Nat} {v : Value} {xs : List Value} (h : w.ownsRow B e size v n xs) (hk : ∀ k, v.ownBlock = some k → w'.heap[k]? = w.heap[k]?) : w'.ownsRow B e size v n xs := by
  refine ⟨h.1, ?_⟩
  rcases h.2 with h0 | ⟨g, c, cur, rfl, hb, hg, rest⟩
  · exact .inl h0
  · exact .inr ⟨g, c, cur, rfl, hb, (hk g rfl).trans hg, rest⟩
theorem own_base {w : World} {B B' e size n : Nat} {v : Value} {xs : List Value} (h : w.ownsRow B e size v n xs) (hB : B' ≤ B) : w.ownsRow B' e size v n xs := by
  refine ⟨h.1, ?_⟩
  rcases h.2 with h0 | ⟨g, c, cur, rfl, hb, rest⟩
  · exact .inl h0
  · exact .inr ⟨g, c, cur, rfl, Nat.le_trans hB hb, rest⟩
/-- Rows of two kinds lie in two blocks. -/
theorem own_apart {w : World} {B B' e e' size size' n n' k k' : Nat} {v v' : Value} {xs xs' : List Value} (h : w.ownsRow B e size v n xs) (h' : w.ownsRow B' e' size' v' n' xs') (he : e ≠ e') (hk : v.ownBlock = some k) (hk' : v'.ownBlock = some k') : k ≠ k' := by
  intro e0
  subst e0
  obtain ⟨_, c, h1⟩ := own_type h hk
  obtain ⟨_, c', h2⟩ := own_type h' hk'
  rw [h1] at h2
  cases h2
  exact he rfl

theorem eqlNil (a : Option Addr) (l c : Nat) (W : World) : (binOp .eql 60 (.slice a l c) (.slice none 0 0)).run Tryd.prog W = .ok (.bool a.isNone) W := by
  simp only [binOp]
  simp [run_equal_slice_nil W 60 3 a l c Tryd.underlying60]

set_option maxRecDepth 100000 in
set_option maxHeartbeats 1000000 in
theorem clone_any (path : List Int) (B : Nat) (v : Value) (w : World) (h : w.ownsRow B 3 1 v path.length (intCells path)) (hl : path.length ≤ 100000) :
    Calls Tryd.prog 53 #[v] w fun e w' => ∃ a' c', e = .returned (.slice a' path.length c') ∧ w'.ownsRow w.heap.size 3 1 (.slice a' path.length c') path.length (intCells path) ∧ Below w.heap.size w w' := by
  rcases h.2 with ⟨rfl, h0⟩ | ⟨g, c, cur, rfl, hb, hg, hr⟩
  · have hp : path = [] := List.eq_nil_of_length_eq_zero h0
    subst hp
    have heq : (binOp .eql 60 (.slice none 0 0) (.slice none 0 0)).run Tryd.prog w = .ok (.bool true) w := eqlNil none 0 0 w
    go_enter Tryd.func53, Tryd.ntmps53
    go_wp2
    go_ret
    exact ⟨none, 0, rfl, World.ownsRow_nil _ _ _ _, Below.refl _ _⟩
  · obtain ⟨_, _, _, q3, _⟩ := own_ints h
    have HI : Hid (Ints w (some ⟨g, 0, none⟩) path) := q3
    have HO : Hid ((w.alloc (.cells #[] 3)).ownsRow w.heap.size 3 1 (.slice (some ⟨w.heap.size, 0, none⟩) 0 0) 0 (intCells [])) := World.ownsRow_made w #[] 0 (Nat.le_refl _) (Nat.zero_le _) rfl
    have heq : (binOp .eql 60 (.slice (some ⟨g, 0, none⟩) path.length c) (.slice none 0 0)).run Tryd.prog w = .ok (.bool false) w := eqlNil (some ⟨g, 0, none⟩) path.length c w
    clear h hr hg hb q3
    go_enter Tryd.func53, Tryd.ntmps53
    go_wp2_with (at_builtin; refine wpList_append_ints rfl _ _ rfl w.heap.size _ _ [] rfl HO.out (some ⟨g, 0, none⟩) path c rfl (HI.out.below ((Below.refl _ w).alloc (Nat.le_refl _) _)) (fun h => by cases h) (by omega) (by simp) ?_)
    intro v2 w2 hown2 hgrow2
    have hb2 : Below w.heap.size w w2 := ((Below.refl _ w).alloc (Nat.le_refl _) _).grown hgrow2 (by simp) (fun k hk => by simp only [Value.ownBlock, Option.some.injEq] at hk; omega)
    have HB2 : Hid (Below w.heap.size w w2) := hb2
    obtain ⟨a2, c2, rfl⟩ : ∃ a2 c2, v2 = .slice a2 path.length c2 := by
      rcases hown2.2 with ⟨hv, h0⟩ | ⟨g, c, cur, hv, _⟩
      · exact ⟨none, 0, by rw [hv]; congr 1; omega⟩
      · exact ⟨_, c, by rw [hv]⟩
    have HO2 : Hid (w2.ownsRow w.heap.size 3 1 (.slice a2 path.length c2) path.length (intCells path)) := by
      show w2.ownsRow _ _ _ _ _ _
      simpa using hown2
    clear hown2 hgrow2 hb2 HO
    go_wp2
    go_ret
    exact ⟨_, _, rfl, HO2.out, HB2.out⟩
end Go.Proofs.YtfabfclbnekleaaDoor
namespace Go.Proofs.YtfabfclbnekleaaDoor
open Go Go.RowKit

theorem intsInfo : (Tryd.prog.info? 60).map (fun i => (i.zero, i.size, i.bytes)) = some (some (.slice none 0 0), 1, 24) := by kernel_rfl

/-- Ways in memory: the row of lists that the call owns, and each list's own row; none of them is a given block. -/
def Gath (B : Nat) (v : Value) (ls : List (List Int)) (g : Option Nat) (w : World) : Prop :=
  ∃ xs : List Value, w.ownsRow B 60 1 v ls.length xs ∧ ∀ i (h : i < ls.length), ∃ a c, xs[i]? = some (.slice a ls[i].length c) ∧ w.ownsRow B 3 1 (.slice a ls[i].length c) ls[i].length (intCells ls[i]) ∧ (∀ k, (Value.slice a ls[i].length c).ownBlock = some k → g ≠ some k)
theorem Gath.nil (B : Nat) (g : Option Nat) (w : World) : Gath B (.slice none 0 0) [] g w := ⟨[], World.ownsRow_nil _ _ _ _, fun i h => by simp at h⟩
/-- What leaves all blocks but two as they were leaves what is gathered. -/
theorem Gath.kept {B : Nat} {v : Value} {ls : List (List Int)} {g g' : Option Nat} {w w' : World} (h : Gath B v ls g w) (hb : ∀ k, k < w.heap.size → (∃ cur, w.heap[k]? = some (.cells cur 60 (0, 0))) → w'.heap[k]? = w.heap[k]?) (hc : ∀ k, k < w.heap.size → (∃ cur, w.heap[k]? = some (.cells cur 3 (0, 0))) → g ≠ some k → w'.heap[k]? = w.heap[k]? ∧ g' ≠ some k) : Gath B v ls g' w' := by
  obtain ⟨xs, h1, h2⟩ := h
  refine ⟨xs, own_kept h1 fun k hk => ?_, fun i hi => ?_⟩
  · obtain ⟨k1, k2⟩ := own_type h1 hk
    exact hb k k1 k2
  · obtain ⟨a, c, e1, e2, e3⟩ := h2 i hi
    refine ⟨a, c, e1, own_kept e2 fun k hk => ?_, fun k hk => ?_⟩
    · obtain ⟨k1, k2⟩ := own_type e2 hk
      exact (hc k k1 k2 (e3 k hk)).1
    · obtain ⟨k1, k2⟩ := own_type e2 hk
      exact (hc k k1 k2 (e3 k hk)).2
/-- A call of the finder's. -/
theorem Gath.keep {B b be bf n cap made : Nat} {a : Option Addr} {path : List Int} {v : Value} {ls : List (List Int)} {g g' : Option Nat} {w w' : World} (h : Gath B v ls g w) (hF : FS B b (plF be bf n cap a) path made g w) (hk : FKeep b g g' w w') : Gath B v ls g' w' := by
  obtain ⟨fv, hbk, hown, hg, hgb⟩ := hF
  refine h.kept (fun k h1 h2 => hk.block k h1 ?_ ?_) (fun k h1 h2 h3 => ⟨hk.block k h1 ?_ h3.symm, ?_⟩)
  · intro e
    subst e
    obtain ⟨cur, h2⟩ := h2
    rw [hbk] at h2
    cases h2
  · intro e
    obtain ⟨_, cur', h4⟩ := own_type hown (hg.trans e.symm)
    obtain ⟨cur, h2⟩ := h2
    rw [h4] at h2
    cases h2
  · intro e
    subst e
    obtain ⟨cur, h2⟩ := h2
    rw [hbk] at h2
    cases h2
  · rcases hk.row with h5 | h5
    · rw [h5]; exact h3
    · intro e
      have := h5 k e
      omega
theorem Gath.below {B : Nat} {v : Value} {ls : List (List Int)} {g : Option Nat} {w w' : World} (h : Gath B v ls g w) (hb : Below w.heap.size w w') : Gath B v ls g w' :=
  h.kept (fun k h1 _ => hb.block k h1) (fun k h1 _ h3 => ⟨hb.block k h1, h3⟩)
theorem FS.below {B b be bf n cap made : Nat} {a : Option Addr} {path : List Int} {g : Option Nat} {w w' : World} (h : FS B b (plF be bf n cap a) path made g w) (hb : Below w.heap.size w w') : FS B b (plF be bf n cap a) path made g w' := by
  obtain ⟨v, h1, h2, h3, h4⟩ := h
  exact ⟨v, (hb.block b (flt h1)).trans h1, own_kept h2 fun k hk => hb.block k (own_type h2 hk).1, h3, h4⟩

theorem chain_get {R : List Int → List Int → Prop} {E : List Int → Prop} : ∀ {l : List (List Int)} {k : Nat}, chainN R E l → (h : k + 1 < l.length) → R (l[k]'(by omega)) (l[k + 1])
  | [_], _, _, h => by simp at h
  | u :: v :: l, 0, hc, h => hc.1
  | u :: v :: l, k + 1, hc, h => chain_get (l := v :: l) (k := k) hc.2 (by simpa using h)
theorem chain_last {R : List Int → List Int → Prop} {E : List Int → Prop} : ∀ {l : List (List Int)} {k : Nat}, chainN R E l → (h : k + 1 = l.length) → E (l[k]'(by omega))
  | [u], 0, hc, _ => hc
  | u :: v :: l, 0, _, h => by simp at h
  | u :: v :: l, k + 1, hc, h => chain_last (l := v :: l) (k := k) hc.2 (by simpa using h)

theorem turnL_len : ∀ {u p : List Int}, turnL u = some p → p.length ≤ u.length
  | c :: u, p, h => by
    simp only [turnL] at h
    cases h1 : turnL u with
    | some q =>
      rw [h1] at h
      cases h
      have := turnL_len h1
      simp; omega
    | none =>
      rw [h1] at h
      simp only at h
      split at h
      · cases h
      · cases h; simp

/-- What is appended to a row of lists leaves the finder. -/
theorem FS.grown {B b be bf n cap made m : Nat} {a : Option Addr} {path : List Int} {g : Option Nat} {w w' : World} {v : Value} {xs : List Value} (h : FS B b (plF be bf n cap a) path made g w) (hv : w.ownsRow B 60 1 v m xs) (hg : w.grownBy w' v.ownBlock) : FS B b (plF be bf n cap a) path made g w' := by
  obtain ⟨fv, h1, h2, h3, h4⟩ := h
  refine ⟨fv, (hg.block b (flt h1) fun e => ?_).trans h1, own_kept h2 fun k hk => hg.block k (own_type h2 hk).1 fun e => ?_, h3, h4⟩
  · obtain ⟨_, cur, h5⟩ := own_type hv e.symm
    rw [h1] at h5
    cases h5
  · exact own_apart h2 hv (by decide) hk e.symm rfl
/-- One more list. -/
theorem Gath.push {B : Nat} {v v' : Value} {ls : List (List Int)} {l : List Int} {g : Option Nat} {w w' : World} {xs : List Value} {a' : Option Addr} {c' : Nat} (h1 : w.ownsRow B 60 1 v ls.length xs)
    (h2 : ∀ i (h : i < ls.length), ∃ a c, xs[i]? = some (.slice a ls[i].length c) ∧ w.ownsRow B 3 1 (.slice a ls[i].length c) ls[i].length (intCells ls[i]) ∧ (∀ k, (Value.slice a ls[i].length c).ownBlock = some k → g ≠ some k))
    (hl : w.ownsRow B 3 1 (.slice a' l.length c') l.length (intCells l)) (hgl : ∀ k, (Value.slice a' l.length c').ownBlock = some k → g ≠ some k) (hg : w.grownBy w' v.ownBlock) (hown : w'.ownsRow B 60 1 v' (ls.length + 1) (xs ++ [.slice a' l.length c'])) : Gath B v' (ls ++ [l]) g w' := by
  have hx : xs.length = ls.length := by have := h1.1; omega
  have kept : ∀ {a c} {l : List Int}, w.ownsRow B 3 1 (.slice a l.length c) l.length (intCells l) → w'.ownsRow B 3 1 (.slice a l.length c) l.length (intCells l) := fun {a c l} h =>
    own_kept h fun k hk => hg.block k (own_type h hk).1 fun e => own_apart h h1 (by decide) hk e.symm rfl
  refine ⟨xs ++ [.slice a' l.length c'], by rw [List.length_append]; exact hown, fun i hi => ?_⟩
  by_cases hlt : i < ls.length
  · obtain ⟨a, c, e1, e2, e3⟩ := h2 i hlt
    have el : (ls ++ [l])[i] = ls[i] := List.getElem_append_left hlt
    rw [el]
    exact ⟨a, c, by rw [List.getElem?_append_left (by omega)]; exact e1, kept e2, e3⟩
  · have hie : i = ls.length := by simp at hi; omega
    subst hie
    have el : (ls ++ [l])[ls.length] = l := by simp
    rw [el]
    exact ⟨a', c', by rw [List.getElem?_append_right (by omega), hx]; simp, kept hl, hgl⟩
theorem Gath.any {B B' : Nat} {v : Value} {ls : List (List Int)} {g : Option Nat} {w : World} (h : Gath B v ls g w) (hB : B' ≤ B) : Gath B' v ls none w := by
  obtain ⟨xs, h1, h2⟩ := h
  refine ⟨xs, own_base h1 hB, fun i hi => ?_⟩
  obtain ⟨a, c, e1, e2, _⟩ := h2 i hi
  exact ⟨a, c, e1, own_base e2 hB, fun k _ => by simp⟩

def sliceLen : Value → Nat
  | .slice _ n _ => n
  | _ => 0

/-- What the loop of All keeps. -/
def AllInv (B b s be bf cap : Nat) (a : Option Addr) (ds : List Nd) (t : Tr) (w3 : World) (vw vm : Value) (wr : World) : Prop :=
  ∃ (k : Nat) (g : Option Nat) (av : Option Addr) (cv : Nat), vw = .slice av k cv ∧ k ≤ 300 ∧ FC s be bf a ds wr ∧ Below B w3 wr ∧ Gath B (.slice av k cv) (t.ways.take k) g wr ∧
    ((vm = .bool true ∧ ∃ path : List Int, FS B b (plF be bf ds.length cap a) path 0 g wr ∧ path.length ≤ 400 ∧ ∃ hk : k < t.ways.length, t.go path = (t.ways[k], [])) ∨ (vm = .bool false ∧ k = t.ways.length))

/-- The k-th way: how long it is, what comes behind it. -/
theorem way_at {t : Tr} {k : Nat} (hk : k < t.ways.length) : t.ways[k].length ≤ t.nodes.length ∧ t.ways.take (k + 1) = t.ways.take k ++ [t.ways[k]] ∧ (turnL t.ways[k] = none → k + 1 = t.ways.length) ∧ (∀ p, turnL t.ways[k] = some p → p.length ≤ t.nodes.length ∧ ∃ h : k + 1 < t.ways.length, t.go p = (t.ways[k + 1], [])) := by
  have hl := way_len t _ (List.getElem_mem hk)
  have hc := ways_next t
  refine ⟨hl, by rw [List.take_add_one, List.getElem?_eq_getElem hk]; rfl, fun h => ?_, fun p hp => ?_⟩
  · rcases Nat.lt_or_ge (k + 1) t.ways.length with h1 | h1
    · obtain ⟨q, h2, _⟩ := chain_get hc h1
      rw [h] at h2
      cases h2
    · omega
  · refine ⟨Nat.le_trans (turnL_len hp) hl, ?_⟩
    rcases Nat.lt_or_ge (k + 1) t.ways.length with h1 | h1
    · obtain ⟨q, h2, h3⟩ := chain_get hc h1
      rw [hp] at h2
      cases h2
      exact ⟨h1, h3⟩
    · have h2 := chain_last hc (show k + 1 = t.ways.length by omega)
      rw [hp] at h2
      cases h2

set_option maxRecDepth 100000 in
set_option maxHeartbeats 4000000 in
theorem wall_ok (ds : List Nd) (t : Tr) (hd : ds = t.nodes) (ht : t.Wf) (a : Option Addr) (cap : Nat) (w : World) (hN : Nods w a ds) (h : docF ds = 0) :
    Calls Tryd.prog 32 #[.slice a ds.length cap] w fun e w' => ((t.ways.length ≤ 300 ∧ ∃ a' c', e = .returned (.tuple #[.slice a' t.ways.length c', .nilIface]) ∧ Gath w.heap.size (.slice a' t.ways.length c') t.ways none w') ∨ (300 < t.ways.length ∧ e = .returned (.tuple #[.slice none 0 0, errN 3]))) ∧ Below w.heap.size w w' := by
  have HN : Hid (Nods w a ds) := hN
  have H : Hid (docF ds = 0) := h
  have HT : Hid (t.Wf) := ht
  have HD : Hid (ds = t.nodes) := hd
  obtain ⟨h4, _, _⟩ := docF_zero h
  have H0 : Hid (ds ≠ []) := (show ds ≠ [] by have := t.pos; rw [← hd] at this; exact List.length_pos_iff.1 this)
  clear hN h ht hd
  go_enter Tryd.func32, Tryd.ntmps32
  go_wp2_with fail
  refine (dcheck_any ds a cap _ HN.out).mono ?_
  rintro e w2 ⟨rfl, hB⟩
  rw [H.out, errN_0]
  have HB : Hid (Below w.heap.size w w2) := hB
  obtain ⟨s, hs, hns⟩ := (HN.out.below hB).s H0.out
  have HN2 : Hid (NodsS s w2 a ds) := hns
  clear hB hns
  go_wp2_with fail
  refine (newPlan_any ds a cap s _ H.out HN2.out hs).mono ?_
  rintro e w3 ⟨⟨be, bf, rfl, hbe, hbf, hkn⟩, hB3⟩
  have HB3 : Hid (Below w.heap.size w w3) := belowT HB.out (Nat.le_refl _) hB3
  have hs3 : s < w3.heap.size := Nat.lt_of_lt_of_le hs hB3.size
  have HC3 : Hid (FC s be bf a ds w3) := ⟨HN2.out.kept (hB3.block s hs), hkn⟩
  have HA3 : Hid (∀ O : Obj, Below w3.heap.size w3 (w3.alloc O)) := fun O => (Below.refl _ _).alloc (Nat.le_refl _) O
  have HSZ : Hid (w.heap.size ≤ w3.heap.size) := HB3.out.size
  clear hkn hB3
  go_wp2_with fail
  go_loopw [6, 7] (fun vw vm wr => AllInv w3.heap.size w3.heap.size s be bf cap a ds t w3 vw vm wr) (fun vw _ _ => t.ways.length - sliceLen vw)
  case atStart =>
    obtain ⟨g1, l, g2⟩ := go_first t
    refine ⟨0, none, none, 0, rfl, by omega, HC3.out.below ⟨hs3, hbe, hbf⟩ (HA3.out _), HA3.out _, Gath.nil _ _ _, .inl ⟨rfl, [], ⟨.slice none 0 0, heap_alloc_new w3 _, World.ownsRow_nil _ _ _ _, rfl, by simp⟩, by simp, by rw [g2]; simp, ?_⟩⟩
    rw [g1]
    simp only [g2, List.getElem_cons_zero]
  case round =>
    obtain ⟨k, g, av, cv, rfl, hk3, hC, hBr, hG, hm⟩ := hrel
    have HC : Hid (FC s be bf a ds wr) := hC
    have HBR : Hid (Below w3.heap.size w3 wr) := hBr
    have HGA : Hid (Gath w3.heap.size (.slice av k cv) (t.ways.take k) g wr) := hG
    have hsr := hBr.size
    clear hC hBr hG
    rcases hm with ⟨rfl, path, hF, hpl, hkw, hgo⟩ | ⟨rfl, hkw⟩
    · by_cases hk : k = 300
      · subst hk
        go_wp2
        go_ret2
        exact ⟨.inr ⟨hkw, rfl⟩, HB3.out.trans (HBR.out.mono HSZ.out)⟩
      · have hne : ((k : Int) == 300) = false := beq_eq_false_iff_ne.2 (by omega)
        have HF : Hid (FS w3.heap.size w3.heap.size (plF be bf ds.length cap a) path 0 g wr) := hF
        obtain ⟨q1, q2, q3, q4⟩ := way_at hkw
        rw [← HD.out] at q1 q4
        generalize t.ways[k] = l at hgo q1 q2 q3 q4
        have HGO : Hid (t.go path = (l, [])) := hgo
        have HTK : Hid (t.ways.take (k + 1) = t.ways.take k ++ [l]) := q2
        have HNO : Hid (turnL l = none → k + 1 = t.ways.length) := q3
        have HSO : Hid (∀ p, turnL l = some p → p.length ≤ ds.length ∧ ∃ h : k + 1 < t.ways.length, t.go p = (t.ways[k + 1], [])) := q4
        have hll : l.length ≤ 400 := by omega
        have hlk : (t.ways.take k).length = k := by rw [List.length_take]; omega
        have HLK : Hid ((t.ways.take k).length = k) := hlk
        clear hgo q1 q2 q3 q4 hF hlk
        go_wp2_with fail
        refine (fwalk_any w3.heap.size w3.heap.size s be bf ⟨hs3, hbe, hbf⟩ (Nat.le_refl _) ds a cap h4 t HT.out 0 [] [] path g _ (by rw [List.drop_zero, HD.out, List.append_nil]) HC.out HF.out (by rw [← HD.out]; simp; omega) hsr).mono ?_
        rintro e w4 ⟨rfl, g4, hF4, k4⟩
        rw [HGO.out] at hF4
        simp only [List.append_nil, List.nil_append, List.length_nil, Nat.zero_add] at hF4
        have hB4 : Below w3.heap.size w3 w4 := HBR.out.trans (k4.below (Nat.le_refl _) HF.out.row hsr)
        have HF4 : Hid (FS w3.heap.size w3.heap.size (plF be bf ds.length cap a) l l.length g4 w4) := hF4
        have HG4 : Hid (Gath w3.heap.size (.slice av k cv) (t.ways.take k) g4 w4) := HGA.out.keep HF.out k4
        have HB4 : Hid (Below w3.heap.size w3 w4) := hB4
        have hs4 := hB4.size
        obtain ⟨fv, hbk4, hown4, hg4, hgb4⟩ := hF4
        obtain ⟨_, _, _, x3, _, _, _⟩ := fcell hbk4
        have HO4 : Hid (w4.ownsRow w3.heap.size 3 1 fv l.length (intCells l)) := hown4
        have HGL : Hid (∀ j, g4 = some j → j < w4.heap.size) := fun j hj => (own_type hown4 (hg4.trans hj)).1
        clear hbk4 hown4 hg4 hgb4 hB4 k4
        go_wp2_with fail
        refine (clone_any l w3.heap.size fv _ HO4.out (by omega)).mono ?_
        rintro e w5 ⟨a5, c5, rfl, hown5, hb5⟩
        have HF5 : Hid (FS w3.heap.size w3.heap.size (plF be bf ds.length cap a) l l.length g4 w5) := HF4.out.below hb5
        have HB5 : Hid (Below w3.heap.size w3 w5) := HB4.out.trans (hb5.mono hs4)
        obtain ⟨xs, hx, hall⟩ := HG4.out.below hb5
        have HX : Hid (w5.ownsRow w3.heap.size 60 1 (.slice av k cv) (t.ways.take k).length xs) := hx
        have HALL : Hid (∀ i (h : i < (t.ways.take k).length), ∃ a c, xs[i]? = some (.slice a (t.ways.take k)[i].length c) ∧ w5.ownsRow w3.heap.size 3 1 (.slice a (t.ways.take k)[i].length c) (t.ways.take k)[i].length (intCells (t.ways.take k)[i]) ∧ (∀ j, (Value.slice a (t.ways.take k)[i].length c).ownBlock = some j → g4 ≠ some j)) := hall
        have HO5 : Hid (w5.ownsRow w3.heap.size 3 1 (.slice a5 l.length c5) l.length (intCells l)) := own_base hown5 hs4
        have HG5 : Hid (∀ j, (Value.slice a5 l.length c5).ownBlock = some j → g4 ≠ some j) := fun j hj e => by
          have h1 := (hown5.lt j hj).1
          have h2 := HGL.out j e
          omega
        have hs5 := HB5.out.size
        have HXk : Hid (w5.ownsRow w3.heap.size 60 1 (.slice av k cv) k xs) := by
          have := hx
          rw [HLK.out] at this
          exact this
        clear hx hall hown5 hb5 HG4 HO4 HF4 HGL x3
        obtain ⟨i1, hi1, hy0, hy1, hy2⟩ := info_parts intsInfo
        go_wp2_with (at_builtin; refine wpList_append_lies _ rfl _ _ 61 rfl w3.heap.size 60 i1 _ 1 24 Tryd.underlying61 hi1 hy0 hy1 hy2 rfl (by decide) _ _ _ rfl (HXk.out.alloc _) ⟨w5.heap.size, 0, none⟩ 1 1 [.slice a5 l.length c5] rfl rfl ?c1 ?c2 (by decide) ?c3 ?c4 ?c5 (w5.heap.size + 1) ?c6 ?_)
        case c1 => exact cell_one_new w5 _ _
        case c2 => intro u hu; simp at hu; subst hu; rfl
        case c3 => unfold maxLen; omega
        case c4 => omega
        case c5 => simp; omega
        case c6 => simp
        intro g6 cap6 w6 hown6 hgrow6 hat6 hlt6
        have hA5 : ∀ O : Obj, Below w5.heap.size w5 (w5.alloc O) := fun O => (Below.refl _ _).alloc (Nat.le_refl _) O
        have HF6 : Hid (FS w3.heap.size w3.heap.size (plF be bf ds.length cap a) l l.length g4 w6) := (HF5.out.below (hA5 _)).grown (HXk.out.alloc _) hgrow6
        have HB6 : Hid (Below w3.heap.size w3 w6) := (HB5.out.alloc hs5 _).grown hgrow6 (by simp; omega) (fun j hj => (HXk.out.lt j hj).1)
        have HG6 : Hid (Gath w3.heap.size (.slice (some ⟨g6, 0, none⟩) (k + 1) cap6) (t.ways.take (k + 1)) g4 w6) := by
          show Gath _ _ _ _ _
          rw [HTK.out]
          refine Gath.push (HX.out.alloc _) (fun i hi => ?_) (HO5.out.alloc _) HG5.out hgrow6 (by rw [HLK.out]; exact hown6)
          obtain ⟨a', c', e1, e2, e3⟩ := HALL.out i hi
          exact ⟨a', c', e1, e2.alloc _, e3⟩
        have hs6 := HB6.out.size
        clear hown6 hgrow6 hat6 hA5 HX HXk HALL HO5 HG5 HF5 HB5
        go_wp2_with fail
        refine (turn_any w3.heap.size w3.heap.size be bf ds.length cap a l l.length g4 _ HF6.out (by omega)).mono ?_
        rintro e w7 ⟨h7, k7⟩
        have HB7 : Hid (Below w3.heap.size w3 w7) := HB6.out.trans (k7.below (Nat.le_refl _) HF6.out.row hs6)
        have HG7 : Hid (Gath w3.heap.size (.slice (some ⟨g6, 0, none⟩) (k + 1) cap6) (t.ways.take (k + 1)) g4 w7) := HG6.out.keep HF6.out k7
        have HC7 : Hid (FC s be bf a ds w7) := HC3.out.below ⟨hs3, hbe, hbf⟩ HB7.out
        clear k7
        rcases h7 with ⟨hn, rfl⟩ | ⟨p, hp, rfl, hF7⟩
        · have HE : Hid (k + 1 = t.ways.length) := HNO.out hn
          clear hn
          go_wp2
          go_roundw
          case rel => exact ⟨k + 1, g4, _, _, rfl, by omega, HC7.out, HB7.out, HG7.out, .inr ⟨rfl, HE.out⟩⟩
          case measure => simp [sliceLen]; omega
        · have HP : Hid (p.length ≤ ds.length ∧ ∃ h : k + 1 < t.ways.length, t.go p = (t.ways[k + 1], [])) := HSO.out p hp
          have HF7 : Hid (FS w3.heap.size w3.heap.size (plF be bf ds.length cap a) p 0 g4 w7) := hF7
          clear hp hF7
          go_wp2
          go_roundw
          case rel => exact ⟨k + 1, g4, _, _, rfl, by omega, HC7.out, HB7.out, HG7.out, .inl ⟨rfl, p, HF7.out, Nat.le_trans HP.out.1 h4, HP.out.2⟩⟩
          case measure => simp [sliceLen]; omega
    · subst hkw
      go_wp2
      go_ret2
      exact ⟨.inl ⟨hk3, av, cv, rfl, by have := HGA.out; rw [List.take_length] at this; exact this.any HSZ.out⟩, HB3.out.trans (HBR.out.mono HSZ.out)⟩

set_option maxRecDepth 100000 in
set_option maxHeartbeats 1000000 in
theorem wall_bad (ds : List Nd) (a : Option Addr) (cap : Nat) (w : World) (hN : Nods w a ds) (h : docF ds ≠ 0) :
    Calls Tryd.prog 32 #[.slice a ds.length cap] w fun e w' => e = .returned (.tuple #[.slice none 0 0, errN (docF ds)]) ∧ Below w.heap.size w w' := by
  have HN : Hid (Nods w a ds) := hN
  have H : Hid (docF ds ≠ 0) := h
  rw [errN_ne h]
  clear hN h
  go_enter Tryd.func32, Tryd.ntmps32
  go_wp2_with fail
  refine (dcheck_any ds a cap _ HN.out).mono ?_
  rintro e w2 ⟨rfl, hB⟩
  rw [errN_ne H.out]
  go_wp2
  go_ret2
  exact ⟨rfl, hB⟩

/-- Lists of numbers in memory. -/
def WaysIn (w : World) (a : Option Addr) (ls : List (List Int)) : Prop :=
  ∀ i (h : i < ls.length), ∃ b o a' c', a = some ⟨b, o, none⟩ ∧ b < w.heap.size ∧ w.cell? ⟨b, o + i, none⟩ = some (.slice a' ls[i].length c') ∧ ls[i].length ≤ c' ∧ Ints w a' ls[i]
theorem WaysIn.below {w w' : World} {a : Option Addr} {ls : List (List Int)} (h : WaysIn w a ls) (hb : Below w.heap.size w w') : WaysIn w' a ls := by
  intro i hi
  obtain ⟨b, o, a', c', e, hlt, c1, c2, c3⟩ := h i hi
  exact ⟨b, o, a', c', e, Nat.lt_of_lt_of_le hlt hb.size, ((bcell hb).1 _ _ hlt).trans c1, c2, c3.below hb⟩
theorem Gath.ways {B : Nat} {a : Option Addr} {n c : Nat} {ls : List (List Int)} {g : Option Nat} {w : World} (h : Gath B (.slice a n c) ls g w) : n = ls.length ∧ WaysIn w a ls := by
  obtain ⟨xs, h1, h2⟩ := h
  have hx : xs.length = ls.length := by have := h1.1; omega
  rcases h1.2 with ⟨hv, h0⟩ | ⟨gg, cc, cur, hv, _, hg, hnc, _, hsz, htake⟩
  · simp only [Value.slice.injEq] at hv
    obtain ⟨rfl, rfl, rfl⟩ := hv
    exact ⟨h0.symm, fun i hi => by omega⟩
  · simp only [Value.slice.injEq] at hv
    obtain ⟨rfl, rfl, rfl⟩ := hv
    refine ⟨rfl, fun i hi => ?_⟩
    obtain ⟨a', c', e1, e2, _⟩ := h2 i hi
    obtain ⟨_, _, q2, q3, _⟩ := own_ints e2
    refine ⟨gg, 0, a', c', rfl, (Array.getElem?_eq_some_iff.1 hg).1, ?_, q2, q3⟩
    rw [← htake, List.getElem?_take_of_lt (by omega)] at e1
    rw [Nat.zero_add]
    simp only [World.cell?, hg]
    simpa using e1
end Go.Proofs.YtfabfclbnekleaaDoor
namespace Go.Proofs.YtfabfclbnekleaaDoor
open Go Go.RowKit

set_option maxRecDepth 100000 in
set_option maxHeartbeats 1000000 in
theorem sways_any (xs ys : List (List Int)) (a b : Option Addr) (ca cb : Nat) (w : World) (hx : WaysIn w a xs) (hy : WaysIn w b ys) (hl : xs.length ≤ 1000000) (hlx : ∀ x ∈ xs, x.length ≤ 1000000) :
    Calls Tryd.prog 33 #[.slice a xs.length ca, .slice b ys.length cb] w fun e w' => e = .returned (.bool (decide (xs = ys))) ∧ ∃ q, w' = w.drewN q := by
  have HX : Hid (WaysIn w a xs) := hx
  have HY : Hid (WaysIn w b ys) := hy
  have HLX : Hid (∀ x ∈ xs, x.length ≤ 1000000) := hlx
  clear hx hy hlx
  by_cases hle : xs.length = ys.length
  · have hle' : ((xs.length : Int) != (ys.length : Int)) = false := by simp; omega
    have HLE : Hid (xs.length = ys.length) := hle
    have hle1 : (xs.length : Int) ≤ (ys.length : Int) := by omega
    clear hle
    go_enter Tryd.func33, Tryd.ntmps33
    go_wp2
    go_loopw [5] (fun i wr => (∃ q : Nat, wr = w.drewN q) ∧ ∃ k : Nat, k ≤ xs.length ∧ i = .int .i64 k ∧ ∀ j (h1 : j < xs.length) (h2 : j < ys.length), j < k → xs[j] = ys[j]) (fun i _ => xs.length - (intOf i).toNat)
    case atStart => exact ⟨⟨0, rfl⟩, 0, Nat.zero_le _, rfl, fun j _ _ hj => by omega⟩
    case round =>
      obtain ⟨⟨q, hwr⟩, k, hk, rfl, hall⟩ := hrel
      have HWR : Hid (wr = w.drewN q) := hwr
      have HXr : Hid (WaysIn wr a xs) := (show WaysIn wr a xs by rw [hwr]; exact HX.out)
      have HYr : Hid (WaysIn wr b ys) := (show WaysIn wr b ys by rw [hwr]; exact HY.out)
      clear hwr
      have HA : Hid (∀ j (h1 : j < xs.length) (h2 : j < ys.length), j < k → xs[j] = ys[j]) := hall
      clear hall
      by_cases hlt : k < xs.length
      · have hlt2 : k < ys.length := by have := HLE.out; omega
        have hi1 : (k : Int) < (xs.length : Int) := by omega
        have hi2 : (k : Int) < (ys.length : Int) := by omega
        obtain ⟨b1, o1, a1, d1, ea, _, c1, _, i1⟩ := HXr.out k hlt
        obtain ⟨b2, o2, a2, d2, eb, _, c2, _, i2⟩ := HYr.out k hlt2
        subst ea eb
        have hxl := HLX.out _ (List.getElem_mem hlt)
        have HI : Hid (∀ q, Calls Tryd.prog 36 #[.slice a1 xs[k].length d1, .slice a2 ys[k].length d2] (wr.drewN q) fun e w' => e = .returned (.bool (decide (xs[k] = ys[k]))) ∧ ∃ m, w' = (wr.drewN q).drewN m) := fun q => sints_any _ _ _ _ _ _ (wr.drewN q) i1 i2 (by omega)
        by_cases heq : xs[k] = ys[k]
        · have HA' : Hid (∀ j (h1 : j < xs.length) (h2 : j < ys.length), j < k + 1 → xs[j] = ys[j]) := fun j h1 h2 hj => by
            by_cases e : j = k
            · subst e; exact heq
            · exact HA.out j h1 h2 (by omega)
          have HQ : Hid (decide (xs[k] = ys[k]) = true) := decide_eq_true heq
          clear heq i1 i2 hxl
          have HJ := HI.out
          rw [HQ.out] at HJ
          have HJ' : Hid (∀ n, Calls Tryd.prog 36 #[.slice a1 xs[k].length d1, .slice a2 ys[k].length d2] (wr.drewN n) fun e w' => e = .returned (.bool true) ∧ ∃ m, w' = (wr.drewN n).drewN m) := HJ
          clear HJ HI HQ
          go_wp2_with fail
          go_quiet ((go_at_call 36; exact Calls.quiet_of (HJ'.out _)))
          go_wp2
          go_roundw
          case rel => exact ⟨⟨_, by rw [HWR.out, World.drewN_drewN]⟩, k + 1, by omega, by go_num, HA'.out⟩
          case measure => simp [intOf]; omega
        · have HN : Hid (xs ≠ ys) := fun e => heq (by subst e; rfl)
          have HQ : Hid (decide (xs[k] = ys[k]) = false) := decide_eq_false heq
          clear heq i1 i2 hxl
          have HJ := HI.out
          rw [HQ.out] at HJ
          have HJ' : Hid (∀ n, Calls Tryd.prog 36 #[.slice a1 xs[k].length d1, .slice a2 ys[k].length d2] (wr.drewN n) fun e w' => e = .returned (.bool false) ∧ ∃ m, w' = (wr.drewN n).drewN m) := HJ
          clear HJ HI HQ
          go_wp2_with fail
          go_quiet ((go_at_call 36; exact Calls.quiet_of (HJ'.out _)))
          go_wp2
          go_ret
          exact ⟨by rw [decide_eq_false HN.out]; rfl, _, by rw [HWR.out, World.drewN_drewN]⟩
      · have HE : Hid (xs = ys) := List.ext_getElem HLE.out fun j h1 h2 => HA.out j h1 h2 (by omega)
        go_wp2
        go_ret
        exact ⟨by rw [decide_eq_true HE.out]; rfl, q, HWR.out⟩
  · have hle' : ((xs.length : Int) != (ys.length : Int)) = true := by simp; omega
    have HN : Hid (xs ≠ ys) := fun e => hle (by rw [e])
    clear hle
    go_enter Tryd.func33, Tryd.ntmps33
    go_wp2
    go_ret
    exact ⟨by rw [decide_eq_false HN.out]; rfl, 0, rfl⟩
end Go.Proofs.YtfabfclbnekleaaDoor
