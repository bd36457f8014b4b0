/- (*way.writer).lay, all ways. -/
import Derived.Test.YtfabfclbnekleaaWLays
import Derived.Test.YtfabfclbnekleaaWLay2
import Derived.Test.YtfabfclbnekleaaWLayC
namespace Go.Proofs.Ytfabfclbnekleaa
open Go Go.RowKit

theorem Calls.valued {P : Program} {fn : Nat} {args : Array Value} {w : World} {Q : Value → World → Prop} {R : Ending → World → Prop} (h : Calls P fn args w fun e w' => ∃ v, e = .returned v ∧ Q v w') (hR : ∀ v w', Q v w' → R (.returned v) w') : Calls P fn args w R :=
  h.mono fun _ _ ⟨v, he, hq⟩ => by rw [he]; exact hR v _ hq
/-- What lay leaves, by its value. -/
theorem wlaid_val {B b : Nat} {pl : List Value} {res : Except Int (List UInt8 × List Int)} {l : List UInt8} {e : Ending} {w' : World} (h : WLaid B b pl res l e w') : ∃ v, e = .returned v ∧ WLaid B b pl res l (.returned v) w' := by
  cases res with
  | error er => obtain ⟨h1, rfl⟩ := h; exact ⟨_, rfl, h1, rfl⟩
  | ok p => obtain ⟨rfl, h1⟩ := h; exact ⟨_, rfl, rfl, h1⟩

theorem wchosen_8 (B b s be bf : Nat) (hb : s < B ∧ be < B ∧ bf < B) (hB : B ≤ b) (ds : List Nd) (a : Option Addr) (cap : Nat) (hl : ds.length ≤ 400) (hcap : ds.length ≤ cap) (tx : ByteArray) (n : Int) (t : Tr) (ht : Tr.Wf (.one ⟨8, tx, n⟩ t)) (f : Nat → List Int → Except Int (List UInt8 × List Int)) (hA : WLayOk B b s be bf ds a cap t.nodes f) :
    WCall 50 B b s be bf ds a cap (⟨8, tx, n⟩ :: t.nodes) (layGroup f t.line t.isFlat) := by
  intro i r deep ws wa wc l w hd hC hI hok hwc hW hdeep hsz
  have hdT : ds.drop i = (Tr.one ⟨8, tx, n⟩ t).nodes ++ r := hd
  obtain ⟨hi, e1, e2⟩ := drop_cons (x := ⟨8, tx, n⟩) (A := t.nodes ++ r) hd
  obtain ⟨o0, ea, d1, d2, d3⟩ := hC.nd i hi
  subst ea
  rw [e1] at d1
  have hlt := hW.lt
  have hbs : B ≤ w.heap.size := by omega
  have hSB : ∀ v, Below B w (w.setCell ⟨b, 5, none⟩ v) := fun v => (Below.refl _ _).setCell (p := ⟨b, 5, none⟩) hB _
  simp only [List.length_cons] at hdeep hsz
  cases ws with
  | nil =>
    refine (wch_none i deep w hW.c5).mono ?_
    rintro e w' ⟨rfl, rfl⟩
    exact ⟨⟨by decide, rfl⟩, Below.refl _ _⟩
  | cons c ws =>
    obtain ⟨b0, o1, ea1, hlt1, x1⟩ := hI 0 (by simp)
    subst ea1
    have hS := hI.slid (by simpa using hwc)
    simp only [Nat.add_zero, List.getElem_cons_zero] at x1
    simp only [List.length_cons] at hW hwc
    have hok' : okC01 ws := fun d hd => hok d (by simp [hd])
    have hlw : ws.length ≤ wc - 1 := by omega
    generalize hwa : (if wc = 1 then some (⟨b0, o1, none⟩ : Addr) else some ⟨b0, o1 + 1, none⟩) = wa' at hS
    have hC1 := hC.below hb (hSB (.slice wa' ws.length (wc - 1)))
    have hI1 := hS.below (hSB (.slice wa' ws.length (wc - 1)))
    have hW1 := hW.stored (.slice wa' ws.length (wc - 1))
    rcases hok c (by simp) with hc | hc
    · subst hc
      refine Calls.valued (Q := fun v w' => WLaid B b (plOf be bf ds.length cap (some ⟨s, o0, none⟩)) (layGroup f t.line t.isFlat deep (0 :: ws)) l (.returned v) w' ∧ Below B w w') ?_ (fun v w' h => h)
      refine wch_80 (be := be) i deep ws.length w (by omega) (by omega) (by omega) hl (by omega) hW.c0 d1 hW.c1 hW.c5 hW.f5 hwc x1 _ ?_
      rw [hwa]
      cases hf : t.isFlat with
      | false =>
        refine (wflat_no B b s be bf ds _ cap i (.one ⟨8, tx, n⟩ t) r l _ _ ht hdT hC1 hW1 hf).mono ?_
        rintro e w2 ⟨rfl, hb2⟩
        refine ⟨_, rfl, ⟨?_, rfl⟩, (hSB _).trans hb2⟩
        decide
      | true =>
        refine (wflat_yes B b s be bf hb hB ds _ cap hcap hl i (.one ⟨8, tx, n⟩ t) r l _ _ ht hdT hC1 hW1 hf (by omega)).mono ?_
        rintro e w2 ⟨rfl, h2, hb2⟩
        exact ⟨_, rfl, ⟨rfl, wa', wc - 1, h2, hI1.below hb2, hlw⟩, (hSB _).trans hb2⟩
    · subst hc
      refine Calls.valued (Q := fun v w' => WLaid B b (plOf be bf ds.length cap (some ⟨s, o0, none⟩)) (layGroup f t.line t.isFlat deep (1 :: ws)) l (.returned v) w' ∧ Below B w w') ?_ (fun v w' h => h)
      refine wch_81 (be := be) i deep ws.length w (by omega) (by omega) (by omega) hl (by omega) hW.c0 d1 hW.c1 hW.c5 hW.f5 hwc x1 _ ?_
      rw [hwa]
      refine (hA (i + 1) r deep ws wa' (wc - 1) l _ e2 hC1 hI1 hok' hlw hW1 (by omega) (by omega)).mono ?_
      rintro e w2 ⟨h2, hb2⟩
      obtain ⟨v, rfl, h3⟩ := wlaid_val h2
      exact ⟨v, rfl, h3, (hSB _).trans hb2⟩

theorem wchosen_9 (B b s be bf : Nat) (hb : s < B ∧ be < B ∧ bf < B) (hB : B ≤ b) (ds : List Nd) (a : Option Addr) (cap : Nat) (hl : ds.length ≤ 400) (tx : ByteArray) (n : Int) (t t' : Tr) (ht : t.Wf) (f g : Nat → List Int → Except Int (List UInt8 × List Int)) (hA : WLayOk B b s be bf ds a cap t.nodes f) (hG : WLayOk B b s be bf ds a cap t'.nodes g) :
    WCall 50 B b s be bf ds a cap (⟨9, tx, n⟩ :: (t.nodes ++ t'.nodes)) (layEither f g) := by
  intro i r deep ws wa wc l w hd hC hI hok hwc hW hdeep hsz
  obtain ⟨hi, e1, e0⟩ := drop_cons (x := ⟨9, tx, n⟩) (A := t.nodes ++ t'.nodes ++ r) hd
  have e2 : ds.drop (i + 1) = t.nodes ++ (t'.nodes ++ r) := by rw [e0, List.append_assoc]
  have hi1 := drop_lt e2
  obtain ⟨o0, ea, d1, d2, d3⟩ := hC.nd i hi
  subst ea
  rw [e1] at d1
  have hlt := hW.lt
  have hbs : B ≤ w.heap.size := by omega
  have hSB : ∀ v, Below B w (w.setCell ⟨b, 5, none⟩ v) := fun v => (Below.refl _ _).setCell (p := ⟨b, 5, none⟩) hB _
  have k1 := (hC.kn (i + 1) t _ (Nat.zero_le _) ht e2).1
  simp only [List.length_cons, List.length_append] at hdeep hsz
  cases ws with
  | nil =>
    refine (wch_none i deep w hW.c5).mono ?_
    rintro e w' ⟨rfl, rfl⟩
    exact ⟨⟨by decide, rfl⟩, Below.refl _ _⟩
  | cons c ws =>
    obtain ⟨b0, o1, ea1, hlt1, x1⟩ := hI 0 (by simp)
    subst ea1
    have hS := hI.slid (by simpa using hwc)
    simp only [Nat.add_zero, List.getElem_cons_zero] at x1
    simp only [List.length_cons] at hW hwc
    have hok' : okC01 ws := fun d hd => hok d (by simp [hd])
    have hlw : ws.length ≤ wc - 1 := by omega
    generalize hwa : (if wc = 1 then some (⟨b0, o1, none⟩ : Addr) else some ⟨b0, o1 + 1, none⟩) = wa' at hS
    have hC1 := hC.below hb (hSB (.slice wa' ws.length (wc - 1)))
    have hI1 := hS.below (hSB (.slice wa' ws.length (wc - 1)))
    have hW1 := hW.stored (.slice wa' ws.length (wc - 1))
    rcases hok c (by simp) with hc | hc
    · subst hc
      refine Calls.valued (Q := fun v w' => WLaid B b (plOf be bf ds.length cap (some ⟨s, o0, none⟩)) (layEither f g deep (0 :: ws)) l (.returned v) w' ∧ Below B w w') ?_ (fun v w' h => h)
      refine wch_90 (be := be) i deep ws.length w (by omega) (by omega) (by omega) hl (by omega) hW.c0 d1 hW.c1 hW.c5 hW.f5 hwc x1 _ ?_
      rw [hwa]
      refine (hA (i + 1) _ deep ws wa' (wc - 1) l _ e2 hC1 hI1 hok' hlw hW1 (by omega) (by omega)).mono ?_
      rintro e w2 ⟨h2, hb2⟩
      obtain ⟨v, rfl, h3⟩ := wlaid_val h2
      exact ⟨v, rfl, h3, (hSB _).trans hb2⟩
    · subst hc
      refine Calls.valued (Q := fun v w' => WLaid B b (plOf be bf ds.length cap (some ⟨s, o0, none⟩)) (layEither f g deep (1 :: ws)) l (.returned v) w' ∧ Below B w w') ?_ (fun v w' h => h)
      refine wch_91 (be := be) i deep ws.length w (by omega) (by omega) (by omega) hl (by omega) (by omega) (i + 1 + t.nodes.length) k1 hW.c0 d1 hW.c1 hW.c5 hW.f5 hwc x1 _ ?_
      rw [hwa]
      refine (hG (i + 1 + t.nodes.length) r deep ws wa' (wc - 1) l _ (drop_app e2) hC1 hI1 hok' hlw hW1 (by omega) (by omega)).mono ?_
      rintro e w2 ⟨h2, hb2⟩
      obtain ⟨v, rfl, h3⟩ := wlaid_val h2
      exact ⟨v, rfl, h3, (hSB _).trans hb2⟩

theorem lay_01 {t : Tr} {deep : Nat} {ws : List Int} {u : List UInt8} {v : List Int} (h : okC01 ws) (e : t.lay deep ws = .ok (u, v)) : okC01 v := by
  obtain ⟨p, _, rfl⟩ := lay_ways t deep ws v u h e
  exact fun c hc => h c (by simp [hc])

theorem wlay_any (B b s be bf : Nat) (hb : s < B ∧ be < B ∧ bf < B) (hB : B ≤ b) (ds : List Nd) (a : Option Addr) (cap : Nat) (hl : ds.length ≤ 400) (hcap : ds.length ≤ cap) : ∀ t : Tr, t.Wf → WLayOk B b s be bf ds a cap t.nodes t.lay
  | .leaf ⟨op, tx, n⟩, h => by
    obtain ⟨_, _, _, _, h5, _⟩ := node_ok h.1
    rcases leaf_op h.1 h.2 with e | e | e | e | e
    all_goals (simp only at e; subst e)
    · exact wlay_1 B b s be bf hb hB ds a cap hl tx n (isW_size (h5 rfl)).2
    · exact wlay_2 B b s be bf hb hB ds a cap hl tx n
    · exact wlay_3 B b s be bf hb hB ds a cap hl tx n
    · exact wlay_4 B b s be bf hb hB ds a cap hl tx n
    · exact wlay_5 B b s be bf hb hB ds a cap hl tx n
  | .one ⟨op, tx, n⟩ a', h => by
    obtain ⟨_, _, _, _, _, h6⟩ := node_ok h.1
    rcases one_op h.2.1 with e | e
    all_goals (simp only at e; subst e)
    · exact wlay_7 B b s be bf hb hB ds a cap hl tx n (h6 rfl).1 (h6 rfl).2 _ _ (wlay_any B b s be bf hb hB ds a cap hl hcap a' h.2.2)
    · rw [lay_group (x := ⟨8, tx, n⟩) rfl]
      exact wlay_8 B b s be bf hb hB ds a cap hl tx n _ _ (wchosen_8 B b s be bf hb hB ds a cap hl hcap tx n a' h _ (wlay_any B b s be bf hb hB ds a cap hl hcap a' h.2.2))
  | .two ⟨op, tx, n⟩ a' c, h => by
    rcases two_op h.2.1 with e | e
    all_goals (simp only at e; subst e)
    · rw [lay_two (x := ⟨6, tx, n⟩) rfl]
      exact wlay_6 B b s be bf hb hB ds a cap hl tx n _ _ _ _ (wlay_any B b s be bf hb hB ds a cap hl hcap a' h.2.2.1) (wlay_any B b s be bf hb hB ds a cap hl hcap c h.2.2.2) (fun _ _ _ _ => ⟨a', h.2.2.1, rfl⟩) (List.length_pos_iff.1 c.pos) (fun deep ws u v he hd => lay_len a' deep ws u v h.2.2.1 he hd) (fun deep ws u v h0 he => lay_01 h0 he)
    · rw [lay_either (x := ⟨9, tx, n⟩) rfl]
      exact wlay_9 B b s be bf hb hB ds a cap hl tx n _ _ _ (wchosen_9 B b s be bf hb hB ds a cap hl tx n a' c h.2.2.1 _ _ (wlay_any B b s be bf hb hB ds a cap hl hcap a' h.2.2.1) (wlay_any B b s be bf hb hB ds a cap hl hcap c h.2.2.2))
end Go.Proofs.Ytfabfclbnekleaa
