/- Some texts as one: WLay1, WLay6, WLay7, WLay8. -/
import Derived.Test.YtfabfclbnekleaaWLay
namespace Go.Proofs.Ytfabfclbnekleaa
open Go Go.RowKit

set_option maxRecDepth 100000 in
set_option maxHeartbeats 4000000 in
theorem wlay_5 (B b s be bf : Nat) (_hb : s < B ∧ be < B ∧ bf < B) (hB : B ≤ b) (ds : List Nd) (a : Option Addr) (cap : Nat) (_hl : ds.length ≤ 400) (tx : ByteArray) (n : Int) : WLayOk B b s be bf ds a cap (⟨5, tx, n⟩ :: []) (fun _ ws => .ok ([], ws)) := by
  intro i r deep ws wa wc l w hd hC hI _ hwc hW hdeep hsz
  obtain ⟨hi, e1, e2⟩ := drop_cons (x := ⟨5, tx, n⟩) (A := [] ++ r) hd
  obtain ⟨o0, ea, d1, d2, d3⟩ := hC.nd i hi
  subst ea
  rw [e1] at d1 d2 d3
  dsimp only at d1 d2 d3
  have c0 := hW.c0
  have c1 := hW.c1
  have c2 := hW.c2
  have c5 := hW.c5
  have hlt := hW.lt
  have hs0 : s < w.heap.size := by omega
  have hbs : B ≤ w.heap.size := by omega
  have hiI : (i : Int) < (ds.length : Int) := by omega
  have HD : Hid (ds.drop i = ⟨5, tx, n⟩ :: ([] ++ r)) := hd
  have HD1 : Hid (ds.drop (i + 1) = [] ++ r) := e2
  have HC : Hid (LC B s be bf (some ⟨s, o0, none⟩) ds w) := hC
  have HI : Hid (IntsB B w wa ws) := hI
  have HW : Hid (WS B b (plOf be bf ds.length cap (some ⟨s, o0, none⟩)) l (.slice wa ws.length wc) w) := hW
  have HA : Hid (∀ O : Obj, Below B w (w.alloc O)) := fun O => (Below.refl _ w).alloc hbs O
  clear hC hI hW hd e1 e2
  simp only [List.length_cons, List.length_nil] at hdeep hsz
  go_enter Try.func33, Try.ntmps33
  go_wp2
  go_ret
  exact ⟨⟨rfl, wa, wc, by rw [List.append_nil]; exact HW.out.alloc _, HI.out.below (HA.out _), hwc⟩, HA.out _⟩

set_option maxRecDepth 100000 in
set_option maxHeartbeats 4000000 in
theorem wlay_1 (B b s be bf : Nat) (_hb : s < B ∧ be < B ∧ bf < B) (hB : B ≤ b) (ds : List Nd) (a : Option Addr) (cap : Nat) (_hl : ds.length ≤ 400) (tx : ByteArray) (n : Int) (ht : tx.size ≤ 20) : WLayOk B b s be bf ds a cap (⟨1, tx, n⟩ :: []) (fun _ ws => .ok (tx.data.toList, ws)) := by
  intro i r deep ws wa wc l w hd hC hI _ hwc hW hdeep hsz
  obtain ⟨hi, e1, e2⟩ := drop_cons (x := ⟨1, tx, n⟩) (A := [] ++ r) hd
  obtain ⟨o0, ea, d1, d2, d3⟩ := hC.nd i hi
  subst ea
  rw [e1] at d1 d2 d3
  dsimp only at d1 d2 d3
  have c0 := hW.c0
  have c1 := hW.c1
  have c2 := hW.c2
  have c5 := hW.c5
  have hlt := hW.lt
  have hs0 : s < w.heap.size := by omega
  have hbs : B ≤ w.heap.size := by omega
  have hiI : (i : Int) < (ds.length : Int) := by omega
  have HD : Hid (ds.drop i = ⟨1, tx, n⟩ :: ([] ++ r)) := hd
  have HD1 : Hid (ds.drop (i + 1) = [] ++ r) := e2
  have HC : Hid (LC B s be bf (some ⟨s, o0, none⟩) ds w) := hC
  have HI : Hid (IntsB B w wa ws) := hI
  have HW : Hid (WS B b (plOf be bf ds.length cap (some ⟨s, o0, none⟩)) l (.slice wa ws.length wc) w) := hW
  have HA : Hid (∀ O : Obj, Below B w (w.alloc O)) := fun O => (Below.refl _ w).alloc hbs O
  clear hC hI hW hd e1 e2
  simp only [List.length_cons, List.length_nil] at hdeep hsz
  go_enter Try.func33, Try.ntmps33
  go_wp2_with fail
  go_region_with (go_at_call 44; refine (wstr (WS.drew (HW.out.alloc _)) hB tx (by omega)).mono ?_; rintro e w2 ⟨⟨z, rfl⟩, h2, hb2⟩)
  all_goals
    go_wp2
    go_ret
    have hB2 : Below B w w2 := (Below.drew (HA.out _)).trans hb2
    exact ⟨⟨rfl, wa, wc, h2, HI.out.below hB2, hwc⟩, hB2⟩
end Go.Proofs.Ytfabfclbnekleaa
namespace Go.Proofs.Ytfabfclbnekleaa
open Go Go.RowKit

set_option maxRecDepth 100000 in
set_option maxHeartbeats 4000000 in
theorem wlay_6 (B b s be bf : Nat) (hb : s < B ∧ be < B ∧ bf < B) (hB : B ≤ b) (ds : List Nd) (a : Option Addr) (cap : Nat) (hl : ds.length ≤ 400) (tx : ByteArray) (n : Int) (A C : List Nd) (f g : Nat → List Int → Except Int (List UInt8 × List Int)) (hA : WLayOk B b s be bf ds a cap A f) (hG : WLayOk B b s be bf ds a cap C g) (hE : ∀ i r, ds.drop i = A ++ r → r ≠ [] → ∃ t : Tr, t.Wf ∧ A = t.nodes) (hp : C ≠ []) (hlen : ∀ deep ws u v, f deep ws = .ok (u, v) → deep + 8 * A.length ≤ 3300 → u.length ≤ 4000 * A.length) (h01 : ∀ deep ws u v, okC01 ws → f deep ws = .ok (u, v) → okC01 v) : WLayOk B b s be bf ds a cap (⟨6, tx, n⟩ :: (A ++ C)) (layBoth f g) := by
  intro i r deep ws wa wc l w hd hC hI hok hwc hW hdeep hsz
  obtain ⟨hi, e1, e2⟩ := drop_cons (x := ⟨6, tx, n⟩) (A := (A ++ C) ++ r) hd
  obtain ⟨o0, ea, d1, d2, d3⟩ := hC.nd i hi
  subst ea
  rw [e1] at d1 d2 d3
  dsimp only at d1 d2 d3
  have c0 := hW.c0
  have c1 := hW.c1
  have c2 := hW.c2
  have c5 := hW.c5
  have hlt := hW.lt
  have hs0 : s < w.heap.size := by omega
  have hbs : B ≤ w.heap.size := by omega
  have hiI : (i : Int) < (ds.length : Int) := by omega
  have HD : Hid (ds.drop i = ⟨6, tx, n⟩ :: ((A ++ C) ++ r)) := hd
  have HD1 : Hid (ds.drop (i + 1) = (A ++ C) ++ r) := e2
  have HC : Hid (LC B s be bf (some ⟨s, o0, none⟩) ds w) := hC
  have HI : Hid (IntsB B w wa ws) := hI
  have HW : Hid (WS B b (plOf be bf ds.length cap (some ⟨s, o0, none⟩)) l (.slice wa ws.length wc) w) := hW
  have HA : Hid (∀ O : Obj, Below B w (w.alloc O)) := fun O => (Below.refl _ w).alloc hbs O
  clear hC hI hW hd e1 e2
  simp only [List.length_cons, List.length_append] at hdeep hsz
  have HF : Hid (WLayOk B b s be bf ds (some ⟨s, o0, none⟩) cap A f) := hA
  have HG : Hid (WLayOk B b s be bf ds (some ⟨s, o0, none⟩) cap C g) := hG
  have HX : Hid (((i + 1 : Nat) : Int) = (i : Int) + 1) := (show _ = _ by omega)
  have HOK : Hid (okC01 ws) := hok
  have hd1 := HD1.out
  rw [List.append_assoc] at hd1
  have HD2 : Hid (ds.drop (i + 1) = A ++ (C ++ r)) := hd1
  obtain ⟨t, ht, et⟩ := hE _ _ hd1 (fun h => hp (List.append_eq_nil_iff.1 h).1)
  have HT : Hid (t.Wf ∧ A = t.nodes) := ⟨ht, et⟩
  have hi1 : (i : Int) + 1 < (ds.length : Int) := by
    have := congrArg List.length hd1
    have h2 := List.length_pos_iff.2 hp
    rw [List.length_drop, List.length_append, List.length_append] at this
    omega
  have HL : Hid (∀ deep ws u v, f deep ws = .ok (u, v) → deep + 8 * A.length ≤ 3300 → u.length ≤ 4000 * A.length) := hlen
  have H01 : Hid (∀ deep ws u v, okC01 ws → f deep ws = .ok (u, v) → okC01 v) := h01
  clear hA hG hok hd1 ht et hE hlen h01 hp
  go_enter Try.func33, Try.ntmps33
  go_wp2_with fail
  rw [← HX.out]
  refine (HF.out (i + 1) (C ++ r) deep ws wa wc l _ HD2.out (HC.out.below hb (HA.out _)) (HI.out.below (HA.out _)) HOK.out hwc (HW.out.alloc _) (by omega) (by omega)).mono ?_
  rintro e w2 ⟨h2, hb2⟩
  cases hres0 : f deep ws with
  | error er =>
    rw [hres0] at h2
    obtain ⟨hne, rfl⟩ := h2
    have HN : Hid (er ≠ 0) := hne
    rw [errN_ne hne]
    clear hne
    go_wp2
    go_ret
    refine ⟨?_, (HA.out _).trans hb2⟩
    rw [layBoth, hres0]
    exact ⟨HN.out, by rw [errN_ne HN.out]; rfl⟩
  | ok p =>
    obtain ⟨u0, v0⟩ := p
    rw [hres0] at h2
    obtain ⟨rfl, wa2, wc2, hw2, hi2, hv2⟩ := h2
    have HB2 : Hid (Below B w w2) := (HA.out _).trans hb2
    have HC2 : Hid (LC B s be bf (some ⟨s, o0, none⟩) ds w2) := HC.out.below hb HB2.out
    have HW2 : Hid (WS B b (plOf be bf ds.length cap (some ⟨s, o0, none⟩)) (l ++ u0) (.slice wa2 v0.length wc2) w2) := hw2
    have HI2 : Hid (IntsB B w2 wa2 v0) := hi2
    have g1 := hw2.c1
    have hu0 := HL.out deep ws u0 v0 hres0 (by omega)
    have HOK2 : Hid (okC01 v0) := H01.out deep ws u0 v0 HOK.out hres0
    have ge : w2.cell? ⟨be, i + 1, none⟩ = some (.int .i64 ((i + 1 + A.length : Nat) : Int)) := by
      have hd2 := HD2.out
      rw [HT.out.2] at hd2 ⊢
      exact (HC2.out.kn (i + 1) t (C ++ r) (Nat.zero_le _) HT.out.1 hd2).1
    have hres1 : Hid (f deep ws = .ok (u0, v0)) := hres0
    clear hw2 hi2 hb2 hres0
    go_wp2_with fail
    refine (HG.out (i + 1 + A.length) r deep v0 wa2 wc2 (l ++ u0) _ (drop_app HD2.out) HC2.out HI2.out HOK2.out hv2 HW2.out (by omega) (by rw [List.length_append]; omega)).mono ?_
    rintro e w3 ⟨h2, hb3⟩
    cases hres : g deep v0 with
    | error er =>
      rw [hres] at h2
      obtain ⟨hne, rfl⟩ := h2
      have HN : Hid (er ≠ 0) := hne
      rw [errN_ne hne]
      clear hne
      go_wp2
      go_ret
      refine ⟨?_, (HB2.out.trans hb3)⟩
      rw [layBoth, hres1.out]; dsimp only; rw [hres]
      exact ⟨HN.out, by rw [errN_ne HN.out]; rfl⟩
    | ok p =>
      obtain ⟨u, v⟩ := p
      rw [hres] at h2
      obtain ⟨rfl, h3⟩ := h2
      have H3 : Hid (∃ wa' wc', WS B b (plOf be bf ds.length cap (some ⟨s, o0, none⟩)) ((l ++ u0) ++ u) (.slice wa' v.length wc') w3 ∧ IntsB B w3 wa' v ∧ v.length ≤ wc') := h3
      clear h3
      go_wp2
      go_ret
      refine ⟨?_, (HB2.out.trans hb3)⟩
      rw [layBoth, hres1.out]; dsimp only; rw [hres]
      rw [List.append_assoc] at H3; exact ⟨rfl, H3.out⟩
end Go.Proofs.Ytfabfclbnekleaa
namespace Go.Proofs.Ytfabfclbnekleaa
open Go Go.RowKit

set_option maxRecDepth 100000 in
set_option maxHeartbeats 4000000 in
theorem wlay_7 (B b s be bf : Nat) (hb : s < B ∧ be < B ∧ bf < B) (hB : B ≤ b) (ds : List Nd) (a : Option Addr) (cap : Nat) (hl : ds.length ≤ 400) (tx : ByteArray) (n : Int) (hn0 : 0 ≤ n) (hn8 : n ≤ 8) (A : List Nd) (f : Nat → List Int → Except Int (List UInt8 × List Int)) (hA : WLayOk B b s be bf ds a cap A f) : WLayOk B b s be bf ds a cap (⟨7, tx, n⟩ :: A) (fun deep ws => f (deep + n.toNat) ws) := by
  intro i r deep ws wa wc l w hd hC hI hok hwc hW hdeep hsz
  obtain ⟨hi, e1, e2⟩ := drop_cons (x := ⟨7, tx, n⟩) (A := A ++ r) hd
  obtain ⟨o0, ea, d1, d2, d3⟩ := hC.nd i hi
  subst ea
  rw [e1] at d1 d2 d3
  dsimp only at d1 d2 d3
  have c0 := hW.c0
  have c1 := hW.c1
  have c2 := hW.c2
  have c5 := hW.c5
  have hlt := hW.lt
  have hs0 : s < w.heap.size := by omega
  have hbs : B ≤ w.heap.size := by omega
  have hiI : (i : Int) < (ds.length : Int) := by omega
  have HD : Hid (ds.drop i = ⟨7, tx, n⟩ :: (A ++ r)) := hd
  have HD1 : Hid (ds.drop (i + 1) = A ++ r) := e2
  have HC : Hid (LC B s be bf (some ⟨s, o0, none⟩) ds w) := hC
  have HI : Hid (IntsB B w wa ws) := hI
  have HW : Hid (WS B b (plOf be bf ds.length cap (some ⟨s, o0, none⟩)) l (.slice wa ws.length wc) w) := hW
  have HA : Hid (∀ O : Obj, Below B w (w.alloc O)) := fun O => (Below.refl _ w).alloc hbs O
  clear hC hI hW hd e1 e2
  simp only [List.length_cons] at hdeep hsz
  have HF : Hid (WLayOk B b s be bf ds (some ⟨s, o0, none⟩) cap A f) := hA
  have HX : Hid (((i + 1 : Nat) : Int) = (i : Int) + 1) := (show _ = _ by omega)
  have HY : Hid (((deep + n.toNat : Nat) : Int) = (deep : Int) + n) := (show _ = _ by omega)
  have HOK : Hid (okC01 ws) := hok
  clear hA hok
  go_enter Try.func33, Try.ntmps33
  go_wp2_with fail
  rw [← HX.out, ← HY.out]
  refine (HF.out (i + 1) r (deep + n.toNat) ws wa wc l _ HD1.out (HC.out.below hb (HA.out _)) (HI.out.below (HA.out _)) HOK.out hwc (HW.out.alloc _) (by omega) (by omega)).mono ?_
  rintro e w2 ⟨h2, hb2⟩
  cases hres : f (deep + n.toNat) ws with
  | error er =>
    rw [hres] at h2
    obtain ⟨hne, rfl⟩ := h2
    have HN : Hid (er ≠ 0) := hne
    rw [errN_ne hne]
    clear hne
    go_wp2
    go_ret
    refine ⟨?_, (HA.out _).trans hb2⟩
    rw [hres]
    exact ⟨HN.out, by rw [errN_ne HN.out]; rfl⟩
  | ok p =>
    obtain ⟨u, v⟩ := p
    rw [hres] at h2
    obtain ⟨rfl, h3⟩ := h2
    have H3 : Hid (∃ wa' wc', WS B b (plOf be bf ds.length cap (some ⟨s, o0, none⟩)) (l ++ u) (.slice wa' v.length wc') w2 ∧ IntsB B w2 wa' v ∧ v.length ≤ wc') := h3
    clear h3
    go_wp2
    go_ret
    refine ⟨?_, (HA.out _).trans hb2⟩
    rw [hres]
    exact ⟨rfl, H3.out⟩
end Go.Proofs.Ytfabfclbnekleaa
namespace Go.Proofs.Ytfabfclbnekleaa
open Go Go.RowKit

set_option maxRecDepth 100000 in
set_option maxHeartbeats 4000000 in
theorem wlay_8 (B b s be bf : Nat) (hb : s < B ∧ be < B ∧ bf < B) (hB : B ≤ b) (ds : List Nd) (a : Option Addr) (cap : Nat) (_hl : ds.length ≤ 400) (tx : ByteArray) (n : Int) (A : List Nd) (f : Nat → List Int → Except Int (List UInt8 × List Int)) (hA : WCall 50 B b s be bf ds a cap (⟨8, tx, n⟩ :: A) f) : WLayOk B b s be bf ds a cap (⟨8, tx, n⟩ :: A) (f) := by
  intro i r deep ws wa wc l w hd hC hI hok hwc hW hdeep hsz
  obtain ⟨hi, e1, e2⟩ := drop_cons (x := ⟨8, tx, n⟩) (A := A ++ r) hd
  obtain ⟨o0, ea, d1, d2, d3⟩ := hC.nd i hi
  subst ea
  rw [e1] at d1 d2 d3
  dsimp only at d1 d2 d3
  have c0 := hW.c0
  have c1 := hW.c1
  have c2 := hW.c2
  have c5 := hW.c5
  have hlt := hW.lt
  have hs0 : s < w.heap.size := by omega
  have hbs : B ≤ w.heap.size := by omega
  have hiI : (i : Int) < (ds.length : Int) := by omega
  have HD : Hid (ds.drop i = ⟨8, tx, n⟩ :: (A ++ r)) := hd
  have HD1 : Hid (ds.drop (i + 1) = A ++ r) := e2
  have HC : Hid (LC B s be bf (some ⟨s, o0, none⟩) ds w) := hC
  have HI : Hid (IntsB B w wa ws) := hI
  have HW : Hid (WS B b (plOf be bf ds.length cap (some ⟨s, o0, none⟩)) l (.slice wa ws.length wc) w) := hW
  have HA : Hid (∀ O : Obj, Below B w (w.alloc O)) := fun O => (Below.refl _ w).alloc hbs O
  clear hC hI hW hd e1 e2
  have HF : Hid (WCall 50 B b s be bf ds (some ⟨s, o0, none⟩) cap (⟨8, tx, n⟩ :: A) f) := hA
  have HOK : Hid (okC01 ws) := hok
  clear hA hok
  go_enter Try.func33, Try.ntmps33
  go_wp2_with fail
  refine (HF.out i r deep ws wa wc l _ HD.out (HC.out.below hb (HA.out _)) (HI.out.below (HA.out _)) HOK.out hwc (HW.out.alloc _) hdeep hsz).mono ?_
  rintro e w2 ⟨h2, hb2⟩
  cases hres : f deep ws with
  | error er =>
    rw [hres] at h2
    obtain ⟨hne, rfl⟩ := h2
    have HN : Hid (er ≠ 0) := hne
    rw [errN_ne hne]
    clear hne
    go_wp2
    go_ret
    refine ⟨?_, ((HA.out _).trans hb2)⟩
    rw [hres]
    exact ⟨HN.out, by rw [errN_ne HN.out]; rfl⟩
  | ok p =>
    obtain ⟨u, v⟩ := p
    rw [hres] at h2
    obtain ⟨rfl, h3⟩ := h2
    have H3 : Hid (∃ wa' wc', WS B b (plOf be bf ds.length cap (some ⟨s, o0, none⟩)) (l ++ u) (.slice wa' v.length wc') w2 ∧ IntsB B w2 wa' v ∧ v.length ≤ wc') := h3
    clear h3
    go_wp2
    go_ret
    refine ⟨?_, ((HA.out _).trans hb2)⟩
    rw [hres]
    exact ⟨rfl, H3.out⟩

set_option maxRecDepth 100000 in
set_option maxHeartbeats 4000000 in
theorem wlay_9 (B b s be bf : Nat) (hb : s < B ∧ be < B ∧ bf < B) (hB : B ≤ b) (ds : List Nd) (a : Option Addr) (cap : Nat) (_hl : ds.length ≤ 400) (tx : ByteArray) (n : Int) (A C : List Nd) (f : Nat → List Int → Except Int (List UInt8 × List Int)) (hA : WCall 50 B b s be bf ds a cap (⟨9, tx, n⟩ :: (A ++ C)) f) : WLayOk B b s be bf ds a cap (⟨9, tx, n⟩ :: (A ++ C)) (f) := by
  intro i r deep ws wa wc l w hd hC hI hok hwc hW hdeep hsz
  obtain ⟨hi, e1, e2⟩ := drop_cons (x := ⟨9, tx, n⟩) (A := (A ++ C) ++ r) hd
  obtain ⟨o0, ea, d1, d2, d3⟩ := hC.nd i hi
  subst ea
  rw [e1] at d1 d2 d3
  dsimp only at d1 d2 d3
  have c0 := hW.c0
  have c1 := hW.c1
  have c2 := hW.c2
  have c5 := hW.c5
  have hlt := hW.lt
  have hs0 : s < w.heap.size := by omega
  have hbs : B ≤ w.heap.size := by omega
  have hiI : (i : Int) < (ds.length : Int) := by omega
  have HD : Hid (ds.drop i = ⟨9, tx, n⟩ :: ((A ++ C) ++ r)) := hd
  have HD1 : Hid (ds.drop (i + 1) = (A ++ C) ++ r) := e2
  have HC : Hid (LC B s be bf (some ⟨s, o0, none⟩) ds w) := hC
  have HI : Hid (IntsB B w wa ws) := hI
  have HW : Hid (WS B b (plOf be bf ds.length cap (some ⟨s, o0, none⟩)) l (.slice wa ws.length wc) w) := hW
  have HA : Hid (∀ O : Obj, Below B w (w.alloc O)) := fun O => (Below.refl _ w).alloc hbs O
  clear hC hI hW hd e1 e2
  have HF : Hid (WCall 50 B b s be bf ds (some ⟨s, o0, none⟩) cap (⟨9, tx, n⟩ :: (A ++ C)) f) := hA
  have HOK : Hid (okC01 ws) := hok
  clear hA hok
  go_enter Try.func33, Try.ntmps33
  go_wp2_with fail
  refine (HF.out i r deep ws wa wc l _ HD.out (HC.out.below hb (HA.out _)) (HI.out.below (HA.out _)) HOK.out hwc (HW.out.alloc _) hdeep hsz).mono ?_
  rintro e w2 ⟨h2, hb2⟩
  cases hres : f deep ws with
  | error er =>
    rw [hres] at h2
    obtain ⟨hne, rfl⟩ := h2
    have HN : Hid (er ≠ 0) := hne
    rw [errN_ne hne]
    clear hne
    go_wp2
    go_ret
    refine ⟨?_, ((HA.out _).trans hb2)⟩
    rw [hres]
    exact ⟨HN.out, by rw [errN_ne HN.out]; rfl⟩
  | ok p =>
    obtain ⟨u, v⟩ := p
    rw [hres] at h2
    obtain ⟨rfl, h3⟩ := h2
    have H3 : Hid (∃ wa' wc', WS B b (plOf be bf ds.length cap (some ⟨s, o0, none⟩)) (l ++ u) (.slice wa' v.length wc') w2 ∧ IntsB B w2 wa' v ∧ v.length ≤ wc') := h3
    clear h3
    go_wp2
    go_ret
    refine ⟨?_, ((HA.out _).trans hb2)⟩
    rw [hres]
    exact ⟨rfl, H3.out⟩
end Go.Proofs.Ytfabfclbnekleaa
