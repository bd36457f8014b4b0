/- (*way.finder).walk, all ways. -/
import Derived.Test.YtnfhiiefdmjdbaaFWalks
namespace Go.Proofs.Ytnfhiiefdmjdbaa
open Go Go.RowKit

/-- FPost, by the world alone. -/
theorem fpost_of {fn : Nat} {args : Array Value} {B b : Nat} {pl : List Value} {pre : List Int} {q : List Int × List Int} {g : Option Nat} {w w0 : World} (h : Calls Try.prog fn args w0 fun e w' => e = .returned (.tuple #[]) ∧ ∃ g', FS B b pl (pre ++ (q.1 ++ q.2)) (pre.length + q.1.length) g' w' ∧ FKeep b g g' w w') : Calls Try.prog fn args w0 (FPost B b pl pre q g w) := h

theorem fwalk_8 (B b s be bf : Nat) (hb : s < B ∧ be < B ∧ bf < B) (hB : B ≤ b) (ds : List Nd) (a : Option Addr) (cap : Nat) (hl : ds.length ≤ 400) (tx : ByteArray) (n : Int) (t : Tr) (ht : Tr.Wf (.one ⟨8, tx, n⟩ t)) (f : List Int → List Int × List Int) (hA : FWalkOk B b s be bf ds a cap t.nodes f) :
    FWalkOk B b s be bf ds a cap (⟨8, tx, n⟩ :: t.nodes) (goGroup f t.isFlat) := by
  intro i r pre rest g w hd hC hF hsz hBw
  have hdT : ds.drop i = (Tr.one ⟨8, tx, n⟩ t).nodes ++ r := hd
  obtain ⟨hi, e1, e2⟩ := drop_cons (x := ⟨8, tx, n⟩) (A := t.nodes ++ r) hd
  obtain ⟨o0, ea, d1, _, _⟩ := hC.nd i hi
  subst ea
  rw [e1] at d1
  have hrow := hF.row
  have hF0 := hF
  obtain ⟨v, hbk, _, _, _⟩ := hF0
  obtain ⟨c0, c1, c2, _, _, _, _⟩ := fcell hbk
  have hk := (hC.kn i _ r (Nat.zero_le _) ht hdT).2
  have hk : w.cell? ⟨bf, i, none⟩ = some (.bool t.isFlat) := hk
  simp only [List.length_cons] at hsz
  refine fpost_of ?_
  -- the walk behind the choice 1
  have walk1 : ∀ (r1 : List Int) (g1 : Option Nat) (w1 : World), FS B b (plF be bf ds.length cap (some ⟨s, o0, none⟩)) ((pre ++ [1]) ++ r1) (pre ++ [1]).length g1 w1 → FKeep b g g1 w w1 → r1.length ≤ rest.length →
      Calls Try.prog 24 #[.pointer (some ⟨b, 0, none⟩), .int .i64 ((i : Int) + 1)] w1 fun e w' => e = .returned (.tuple #[]) ∧ ∃ g', FS B b (plF be bf ds.length cap (some ⟨s, o0, none⟩)) (pre ++ ((1 :: (f r1).1) ++ (f r1).2)) (pre.length + (1 :: (f r1).1).length) g' w' ∧ FKeep b g g' w w' := by
    intro r1 g1 w1 h1 k1 hr1
    have hB1 := k1.below hB hrow hBw
    refine (hA (i + 1) r (pre ++ [1]) r1 g1 w1 e2 (hC.below hb hB1) h1 (by rw [List.length_append]; simp; omega) (by have := hB1.size; omega)).mono ?_
    rintro e w2 ⟨rfl, g2, h2, k2⟩
    refine ⟨rfl, g2, ?_, k1.trans k2⟩
    have q1 : pre ++ ((1 :: (f r1).1) ++ (f r1).2) = pre ++ [1] ++ ((f r1).1 ++ (f r1).2) := by simp
    have q2 : pre.length + (1 :: (f r1).1).length = (pre ++ [1]).length + (f r1).1.length := by simp; omega
    rw [q1, q2]
    exact h2
  cases rest with
  | nil =>
    rw [List.append_nil] at hF
    cases hf : t.isFlat with
    | true =>
      rw [hf] at hk
      refine fw8_n i true 0 w (fun w' => ∃ g', FS B b (plF be bf ds.length cap (some ⟨s, o0, none⟩)) (pre ++ [0]) (pre.length + 1) g' w' ∧ FKeep b g g' w w') _ c0 d1 (by omega) hl c2 hk (by decide) (choose_new_t B b be bf ds.length cap _ pre g w hF (by simp at hsz; omega) hBw) ?_
      rintro w' ⟨g', h1, k1⟩
      exact ⟨g', h1, k1⟩
    | false =>
      rw [hf] at hk
      refine fw8_1 i false 1 w (fun w' => ∃ g', FS B b (plF be bf ds.length cap (some ⟨s, o0, none⟩)) (pre ++ [1]) (pre.length + 1) g' w' ∧ FKeep b g g' w w') _ c0 d1 (by omega) hl c2 hk rfl (choose_new_f B b be bf ds.length cap _ pre g w hF (by simp at hsz; omega) hBw) ?_
      rintro w' ⟨g', h1, k1⟩
      refine walk1 [] g' w' ?_ k1 (Nat.le_refl _)
      rw [List.append_nil, List.length_append]
      exact h1
  | cons c r1 =>
    have hm : pre.length < (pre ++ c :: r1).length := by simp
    have hc := choose_old B b be bf ds.length cap _ (pre ++ c :: r1) pre.length g t.isFlat w hF hm (by simp at hsz ⊢; omega)
    have hg : (pre ++ c :: r1)[pre.length] = c := by simp
    rw [hg] at hc
    by_cases h1 : c = 1
    · subst h1
      have hq : goGroup f t.isFlat (1 :: r1) = (1 :: (f r1).1, (f r1).2) := by simp [goGroup]
      rw [hq]
      refine fw8_1 i t.isFlat 1 w _ _ c0 d1 (by omega) hl c2 hk rfl hc ?_
      rintro w' ⟨h2, k2⟩
      refine walk1 r1 g w' ?_ k2 (by simp)
      have q1 : pre ++ [1] ++ r1 = pre ++ 1 :: r1 := by simp
      rw [q1, List.length_append]
      exact h2
    · have hq : goGroup f t.isFlat (c :: r1) = ([c], r1) := by simp [goGroup, h1]
      rw [hq]
      refine fw8_n i t.isFlat c w _ _ c0 d1 (by omega) hl c2 hk h1 hc ?_
      rintro w' ⟨h2, k2⟩
      exact ⟨g, h2, k2⟩

theorem fwalk_9 (B b s be bf : Nat) (hb : s < B ∧ be < B ∧ bf < B) (hB : B ≤ b) (ds : List Nd) (a : Option Addr) (cap : Nat) (hl : ds.length ≤ 400) (tx : ByteArray) (n : Int) (t t' : Tr) (ht : t.Wf) (f h : List Int → List Int × List Int) (hA : FWalkOk B b s be bf ds a cap t.nodes f) (hG : FWalkOk B b s be bf ds a cap t'.nodes h) :
    FWalkOk B b s be bf ds a cap (⟨9, tx, n⟩ :: (t.nodes ++ t'.nodes)) (goEither f h) := by
  intro i r pre rest g w hd hC hF hsz hBw
  obtain ⟨hi, e1, e0⟩ := drop_cons (x := ⟨9, tx, n⟩) (A := t.nodes ++ t'.nodes ++ r) hd
  have e2 : ds.drop (i + 1) = t.nodes ++ (t'.nodes ++ r) := by rw [e0, List.append_assoc]
  have hi1 := drop_lt e2
  obtain ⟨o0, ea, d1, _, _⟩ := hC.nd i hi
  subst ea
  rw [e1] at d1
  have hrow := hF.row
  have hF0 := hF
  obtain ⟨v, hbk, _, _, _⟩ := hF0
  obtain ⟨c0, c1, c2, _, _, _, _⟩ := fcell hbk
  simp only [List.length_cons, List.length_append] at hsz
  refine fpost_of ?_
  have walk0 : ∀ (r1 : List Int) (g1 : Option Nat) (w1 : World), FS B b (plF be bf ds.length cap (some ⟨s, o0, none⟩)) ((pre ++ [0]) ++ r1) (pre ++ [0]).length g1 w1 → FKeep b g g1 w w1 → r1.length ≤ rest.length →
      Calls Try.prog 24 #[.pointer (some ⟨b, 0, none⟩), .int .i64 ((i : Int) + 1)] w1 fun e w' => e = .returned (.tuple #[]) ∧ ∃ g', FS B b (plF be bf ds.length cap (some ⟨s, o0, none⟩)) (pre ++ ((0 :: (f r1).1) ++ (f r1).2)) (pre.length + (0 :: (f r1).1).length) g' w' ∧ FKeep b g g' w w' := by
    intro r1 g1 w1 h1 k1 hr1
    have hB1 := k1.below hB hrow hBw
    refine (hA (i + 1) _ (pre ++ [0]) r1 g1 w1 e2 (hC.below hb hB1) h1 (by rw [List.length_append]; simp; omega) (by have := hB1.size; omega)).mono ?_
    rintro e w2 ⟨rfl, g2, h2, k2⟩
    refine ⟨rfl, g2, ?_, k1.trans k2⟩
    have q1 : pre ++ ((0 :: (f r1).1) ++ (f r1).2) = pre ++ [0] ++ ((f r1).1 ++ (f r1).2) := by simp
    have q2 : pre.length + (0 :: (f r1).1).length = (pre ++ [0]).length + (f r1).1.length := by simp; omega
    rw [q1, q2]
    exact h2
  cases rest with
  | nil =>
    rw [List.append_nil] at hF
    refine fw9_0 i 0 w (fun w' => ∃ g', FS B b (plF be bf ds.length cap (some ⟨s, o0, none⟩)) (pre ++ [0]) (pre.length + 1) g' w' ∧ FKeep b g g' w w') _ c0 d1 (by omega) hl rfl (choose_new_t B b be bf ds.length cap _ pre g w hF (by simp at hsz; omega) hBw) ?_
    rintro w' ⟨g', h1, k1⟩
    refine walk0 [] g' w' ?_ k1 (Nat.le_refl _)
    rw [List.append_nil, List.length_append]
    exact h1
  | cons c r1 =>
    have hm : pre.length < (pre ++ c :: r1).length := by simp
    have hc := choose_old B b be bf ds.length cap _ (pre ++ c :: r1) pre.length g true w hF hm (by simp at hsz ⊢; omega)
    have hg : (pre ++ c :: r1)[pre.length] = c := by simp
    rw [hg] at hc
    by_cases h1 : c = 0
    · subst h1
      have hq : goEither f h (0 :: r1) = (0 :: (f r1).1, (f r1).2) := by simp [goEither]
      rw [hq]
      refine fw9_0 i 0 w _ _ c0 d1 (by omega) hl rfl hc ?_
      rintro w' ⟨h2, k2⟩
      refine walk0 r1 g w' ?_ k2 (by simp)
      have q1 : pre ++ [0] ++ r1 = pre ++ 0 :: r1 := by simp
      rw [q1, List.length_append]
      exact h2
    · have hq : goEither f h (c :: r1) = (c :: (h r1).1, (h r1).2) := by simp [goEither, h1]
      rw [hq]
      refine fw9_n (be := be) i (i + 1 + t.nodes.length) c w _ _ c0 d1 (by omega) hl h1 (by omega) ?_ hc ?_
      · rintro w' ⟨h2, k2⟩
        obtain ⟨v', hbk', _, _, _⟩ := h2
        have hB1 := k2.below hB hrow hBw
        exact ⟨(fcell hbk').2.1, ((hC.below hb hB1).kn (i + 1) t _ (Nat.zero_le _) ht e2).1⟩
      · rintro w' ⟨h2, k2⟩
        have hB1 := k2.below hB hrow hBw
        have q1 : pre ++ c :: r1 = (pre ++ [c]) ++ r1 := by simp
        have q2 : pre.length + 1 = (pre ++ [c]).length := by simp
        rw [q1, q2] at h2
        simp only [List.length_cons] at hsz
        refine (hG (i + 1 + t.nodes.length) r (pre ++ [c]) r1 g w' (drop_app e2) (hC.below hb hB1) h2 (by rw [List.length_append]; simp; omega) (by have := hB1.size; omega)).mono ?_
        rintro e w2 ⟨rfl, g2, h3, k3⟩
        refine ⟨rfl, g2, ?_, k2.trans k3⟩
        have q3 : pre ++ ((c :: (h r1).1) ++ (h r1).2) = pre ++ [c] ++ ((h r1).1 ++ (h r1).2) := by simp
        have q4 : pre.length + (c :: (h r1).1).length = (pre ++ [c]).length + (h r1).1.length := by simp; omega
        rw [q3, q4]
        exact h3

theorem fwalk_any (B b s be bf : Nat) (hb : s < B ∧ be < B ∧ bf < B) (hB : B ≤ b) (ds : List Nd) (a : Option Addr) (cap : Nat) (hl : ds.length ≤ 400) : ∀ t : Tr, t.Wf → FWalkOk B b s be bf ds a cap t.nodes t.go
  | .leaf ⟨op, tx, n⟩, h => by
    rcases leaf_op h.1 h.2 with e | e | e | e | e
    all_goals (simp only at e; subst e)
    · exact fwalk_1 B b s be bf hb hB ds a cap hl tx n
    · exact fwalk_2 B b s be bf hb hB ds a cap hl tx n
    · exact fwalk_3 B b s be bf hb hB ds a cap hl tx n
    · exact fwalk_4 B b s be bf hb hB ds a cap hl tx n
    · exact fwalk_5 B b s be bf hb hB ds a cap hl tx n
  | .one ⟨op, tx, n⟩ a', h => by
    rcases one_op h.2.1 with e | e
    all_goals (simp only at e; subst e)
    · rw [go_deep (x := ⟨7, tx, n⟩) rfl]
      exact fwalk_7 B b s be bf hb hB ds a cap hl tx n _ _ (fwalk_any B b s be bf hb hB ds a cap hl a' h.2.2)
    · rw [go_group (x := ⟨8, tx, n⟩) rfl]
      exact fwalk_8 B b s be bf hb hB ds a cap hl tx n a' h _ (fwalk_any B b s be bf hb hB ds a cap hl a' h.2.2)
  | .two ⟨op, tx, n⟩ a' c, h => by
    rcases two_op h.2.1 with e | e
    all_goals (simp only at e; subst e)
    · rw [go_both (x := ⟨6, tx, n⟩) rfl]
      exact fwalk_6 B b s be bf hb hB ds a cap hl tx n a' h.2.2.1 _ _ _ (fwalk_any B b s be bf hb hB ds a cap hl a' h.2.2.1) (fwalk_any B b s be bf hb hB ds a cap hl c h.2.2.2) (List.length_pos_iff.1 c.pos) (go_len a')
    · rw [go_either (x := ⟨9, tx, n⟩) rfl]
      exact fwalk_9 B b s be bf hb hB ds a cap hl tx n a' c h.2.2.1 _ _ (fwalk_any B b s be bf hb hB ds a cap hl a' h.2.2.1) (fwalk_any B b s be bf hb hB ds a cap hl c h.2.2.2)
end Go.Proofs.Ytnfhiiefdmjdbaa
