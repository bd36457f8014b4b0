/- Some texts as one: SynX, SynY, SynZ, SynM, SynV, SynPr. -/
import Derived.Test.YtmbeamcjpidnjaaGreatDoorSynDs
import Derived.Deep.RegionHeld3
import Derived.Test.YtmbeamcjpidnjaaGreatDoorSynPs
import Derived.Test.YtmbeamcjpidnjaaGreatDoorMems
namespace Go.Proofs.YtmbeamcjpidnjaaGreatDoor
open Go Go.RowKit

abbrev TxAt (ds : List Td) (a : Option Addr) (cap i : Nat) (tx : List UInt8) (W : World) : Prop :=
  Calls Tryz.prog 25 #[.slice a ds.length cap, .int .i64 (i : Int)] W fun e w' => e = .returned (.string (wbS tx)) ∧ Below W.heap.size W w'
set_option maxRecDepth 100000 in
set_option maxHeartbeats 2000000 in
theorem kidText_any {ds : List Td} {a : Option Addr} {cap p i : Nat} (W : World) (hN : Tds W a ds) (hp : p < ds.length) (hi : i < ds.length) (hop : ds[p].op = 5 ∨ ds[p].op = 6) (sec : Bool) (t : Tn) (hx : t.x = ds[i]) (hz : t.tx.length ≤ 1000) (hT : TxAt ds a cap i t.tx W) :
    Calls Tryz.prog 59 #[.slice a ds.length cap, .int .i64 (p : Int), .int .i64 (i : Int), .bool sec] W fun e w' => e = .returned (.string (wbS (brx (lvl ds[p].op sec) t))) ∧ Below W.heap.size W w' := by
  have HN : Hid (Tds W a ds) := hN
  have HT : Hid (TxAt ds a cap i t.tx W) := hT
  have HBD : Hid (∀ W' : World, Calls Tryz.prog 81 #[tdV ds[p], tdV ds[i], .bool sec] W' fun e w' => e = .returned (.bool (decide (prc t.x < lvl ds[p].op sec))) ∧ Below W'.heap.size W' w') := fun W' => by
    have := rBound_any ds[p] ds[i] sec W'
    rw [bnd_prc _ _ _ hop] at this
    rw [hx]
    exact this
  have hpi : (p : Int) < (ds.length : Int) := by omega
  have hii : (i : Int) < (ds.length : Int) := by omega
  have hts : (wbS t.tx).size ≤ 1000 := by rw [wbS_len]; exact hz
  have HY : Hid (prc t.x < lvl ds[p].op sec → (⟨#[40]⟩ : ByteArray) ++ wbS t.tx ++ ⟨#[41]⟩ = wbS (brx (lvl ds[p].op sec) t)) := fun h => by
    rw [brx, if_pos h]
    have e1 : (⟨#[40]⟩ : ByteArray) = wbS [40] := rfl
    have e2 : (⟨#[41]⟩ : ByteArray) = wbS [41] := rfl
    rw [e1, e2, wbS_two, wbS_two]; rfl
  have HNO : Hid (¬ prc t.x < lvl ds[p].op sec → wbS t.tx = wbS (brx (lvl ds[p].op sec) t)) := fun h => by rw [brx, if_neg h]
  have HC : Hid (∀ W', Below W.heap.size W W' → ∃ b o, a = some ⟨b, o, none⟩ ∧ b < W'.heap.size ∧ (W'.cell? ⟨b, o + p * 3, none⟩ = some (.int .i64 ds[p].op) ∧ W'.cell? ⟨b, o + p * 3 + 1, none⟩ = some (.string ds[p].tx) ∧ W'.cell? ⟨b, o + p * 3 + 2, none⟩ = some (.int .i64 ds[p].n)) ∧ (W'.cell? ⟨b, o + i * 3, none⟩ = some (.int .i64 ds[i].op) ∧ W'.cell? ⟨b, o + i * 3 + 1, none⟩ = some (.string ds[i].tx) ∧ W'.cell? ⟨b, o + i * 3 + 2, none⟩ = some (.int .i64 ds[i].n))) := fun W' hb => by
    obtain ⟨bp, op, e1, hbp, p1, p2, p3⟩ := (HN.out.below hb) p hp
    obtain ⟨bi, oi, e2, hbi, i1, i2, i3⟩ := (HN.out.below hb) i hi
    rw [e1] at e2
    simp only [Option.some.injEq, Addr.mk.injEq, and_true] at e2
    obtain ⟨rfl, rfl⟩ := e2
    exact ⟨bp, op, e1, hbp, ⟨p1, p2, p3⟩, ⟨i1, i2, i3⟩⟩
  generalize wbS (brx (lvl ds[p].op sec) t) = R at HY HNO ⊢
  generalize hpl : lvl ds[p].op sec = l at HY HNO HBD
  generalize hwt : wbS t.tx = T at HY HNO hts
  have HWT : Hid (wbS t.tx = T) := hwt
  clear hx hz hN hT hop hpl hwt HN
  generalize ds[p] = xp at HC HBD
  generalize ds[i] = xi at HC HBD
  generalize prc t.x = pr at HY HNO HBD
  obtain ⟨po, pt, pn⟩ := xp
  obtain ⟨io, it, inn⟩ := xi
  by_cases hb : pr < l
  · have HR := (show Hid (_ = _) from HY.out hb)
    have HB1 : Hid (decide (pr < l) = true) := decide_eq_true hb
    clear hb HY HNO
    go_enter Tryz.func59, Tryz.ntmps59
    go_wp2_with fail
    refine HT.out.mono ?_
    rintro e w1 ⟨rfl, b1⟩
    rw [HWT.out]
    obtain ⟨bp, op, rfl, hlb, ⟨p1, p2, p3⟩, i1, i2, i3⟩ := HC.out w1 b1
    have HBD1 : Hid (Calls Tryz.prog 81 #[tdV ⟨po, pt, pn⟩, tdV ⟨io, it, inn⟩, .bool sec] w1.drew fun e w' => e = .returned (.bool (decide (pr < l))) ∧ Below w1.heap.size w1 w') := (HBD.out w1.drew).mono fun _ _ h => ⟨h.1, (Below.refl w1.heap.size w1).drew.trans h.2⟩
    have d1 : w1.drew.cell? ⟨bp, op + p * 3, none⟩ = some (.int .i64 po) := p1
    have d2 : w1.drew.cell? ⟨bp, op + p * 3 + 1, none⟩ = some (.string pt) := p2
    have d3 : w1.drew.cell? ⟨bp, op + p * 3 + 2, none⟩ = some (.int .i64 pn) := p3
    have d4 : w1.drew.cell? ⟨bp, op + i * 3, none⟩ = some (.int .i64 io) := i1
    have d5 : w1.drew.cell? ⟨bp, op + i * 3 + 1, none⟩ = some (.string it) := i2
    have d6 : w1.drew.cell? ⟨bp, op + i * 3 + 2, none⟩ = some (.int .i64 inn) := i3
    have HB1' := (show Hid (_) from b1)
    clear HC HBD HT b1
    go_wp2_with fail
    go_region_held3 (fun w' => w'.cell? ⟨bp, op + p * 3, none⟩ = some (.int .i64 po) ∧ w'.cell? ⟨bp, op + p * 3 + 1, none⟩ = some (.string pt) ∧ w'.cell? ⟨bp, op + p * 3 + 2, none⟩ = some (.int .i64 pn) ∧ w'.cell? ⟨bp, op + i * 3, none⟩ = some (.int .i64 io) ∧ w'.cell? ⟨bp, op + i * 3 + 1, none⟩ = some (.string it) ∧ w'.cell? ⟨bp, op + i * 3 + 2, none⟩ = some (.int .i64 inn))
      (first | with_reducible exact ⟨d1, d2, d3, d4, d5, d6⟩ | with_reducible exact ⟨p1, p2, p3, i1, i2, i3⟩ | with_reducible exact ⟨(hb2.cell (p := ⟨bp, _, none⟩) hlb).trans p1, (hb2.cell (p := ⟨bp, _, none⟩) hlb).trans p2, (hb2.cell (p := ⟨bp, _, none⟩) hlb).trans p3, (hb2.cell (p := ⟨bp, _, none⟩) hlb).trans i1, (hb2.cell (p := ⟨bp, _, none⟩) hlb).trans i2, (hb2.cell (p := ⟨bp, _, none⟩) hlb).trans i3⟩)
      ((go_at_call 81; refine HBD1.out.mono ?_; rintro e w2 ⟨rfl, hb2⟩; rw [HB1.out]))
    all_goals
      go_wp2
      go_ret
      exact ⟨by rw [← HR.out]; rfl, belowT HB1'.out (Nat.le_refl _) hb2⟩
  · have HR := (show Hid (_ = _) from HNO.out hb)
    have HB1 : Hid (decide (pr < l) = false) := decide_eq_false hb
    clear hb HY HNO
    go_enter Tryz.func59, Tryz.ntmps59
    go_wp2_with fail
    refine HT.out.mono ?_
    rintro e w1 ⟨rfl, b1⟩
    rw [HWT.out]
    obtain ⟨bp, op, rfl, hlb, ⟨p1, p2, p3⟩, i1, i2, i3⟩ := HC.out w1 b1
    have HBD1 : Hid (Calls Tryz.prog 81 #[tdV ⟨po, pt, pn⟩, tdV ⟨io, it, inn⟩, .bool sec] w1.drew fun e w' => e = .returned (.bool (decide (pr < l))) ∧ Below w1.heap.size w1 w') := (HBD.out w1.drew).mono fun _ _ h => ⟨h.1, (Below.refl w1.heap.size w1).drew.trans h.2⟩
    have d1 : w1.drew.cell? ⟨bp, op + p * 3, none⟩ = some (.int .i64 po) := p1
    have d2 : w1.drew.cell? ⟨bp, op + p * 3 + 1, none⟩ = some (.string pt) := p2
    have d3 : w1.drew.cell? ⟨bp, op + p * 3 + 2, none⟩ = some (.int .i64 pn) := p3
    have d4 : w1.drew.cell? ⟨bp, op + i * 3, none⟩ = some (.int .i64 io) := i1
    have d5 : w1.drew.cell? ⟨bp, op + i * 3 + 1, none⟩ = some (.string it) := i2
    have d6 : w1.drew.cell? ⟨bp, op + i * 3 + 2, none⟩ = some (.int .i64 inn) := i3
    have HB1' := (show Hid (_) from b1)
    clear HC HBD HT b1
    go_wp2_with fail
    go_region_held3 (fun w' => w'.cell? ⟨bp, op + p * 3, none⟩ = some (.int .i64 po) ∧ w'.cell? ⟨bp, op + p * 3 + 1, none⟩ = some (.string pt) ∧ w'.cell? ⟨bp, op + p * 3 + 2, none⟩ = some (.int .i64 pn) ∧ w'.cell? ⟨bp, op + i * 3, none⟩ = some (.int .i64 io) ∧ w'.cell? ⟨bp, op + i * 3 + 1, none⟩ = some (.string it) ∧ w'.cell? ⟨bp, op + i * 3 + 2, none⟩ = some (.int .i64 inn))
      (first | with_reducible exact ⟨d1, d2, d3, d4, d5, d6⟩ | with_reducible exact ⟨p1, p2, p3, i1, i2, i3⟩ | with_reducible exact ⟨(hb2.cell (p := ⟨bp, _, none⟩) hlb).trans p1, (hb2.cell (p := ⟨bp, _, none⟩) hlb).trans p2, (hb2.cell (p := ⟨bp, _, none⟩) hlb).trans p3, (hb2.cell (p := ⟨bp, _, none⟩) hlb).trans i1, (hb2.cell (p := ⟨bp, _, none⟩) hlb).trans i2, (hb2.cell (p := ⟨bp, _, none⟩) hlb).trans i3⟩)
      ((go_at_call 81; refine HBD1.out.mono ?_; rintro e w2 ⟨rfl, hb2⟩; rw [HB1.out]))
    all_goals
      go_wp2
      go_ret
      exact ⟨by rw [← HR.out]; rfl, belowT HB1'.out (Nat.le_refl _) hb2⟩
end Go.Proofs.YtmbeamcjpidnjaaGreatDoor
namespace Go.Proofs.YtmbeamcjpidnjaaGreatDoor
open Go Go.RowKit

/-- Texts of nodes, wherever they lie. -/
def TxH (ds : List Td) (a : Option Addr) (cap : Nat) (F : Fo) (tx : List UInt8) : Prop := ∀ i r, ds.drop i = F.nodes ++ r → ∀ W : World, Tds W a ds → TxAt ds a cap i tx W
def TxA (ds : List Td) (a : Option Addr) (cap : Nat) : Fo → Prop
  | .nil => True
  | .cons x k n => TxH ds a cap (.cons x k n) (mkTn x k.trs).tx ∧ TxA ds a cap n
set_option maxRecDepth 100000 in
set_option maxHeartbeats 2000000 in
theorem text_leaf {ds : List Td} {a : Option Addr} {cap : Nat} (hs : StIn ds) {x : Td} {k n : Fo} (hok : (Fo.cons x k n).ok) (hx : exN x) (h2 : x.op = 1 ∨ x.op = 2) : TxH ds a cap (.cons x k n) (mkTn x k.trs).tx := by
  intro i r hi W hN
  obtain ⟨hp, e1, _, _, _⟩ := fo_at hi hok
  obtain ⟨b, o, rfl, hb, c1, c2, c3⟩ := hN i hp
  have hl := hs.l
  have hii : (i : Int) < (ds.length : Int) := by omega
  rw [e1] at c1 c2 c3
  have hbw : ∀ o : Obj, Below W.heap.size W (W.alloc o) := fun o => (Below.refl _ _).alloc (Nat.le_refl _) _
  have HBW := (show Hid (_) from hbw)
  rcases exN_cases hx with ⟨ho, htx, hn0, hn1, _⟩ | ⟨ho, _, _, _⟩ | ⟨ho, _⟩ | ⟨ho, _⟩ | ⟨ho, _⟩ | ⟨ho, _⟩
  · have HT : Hid ((mkTn x k.trs).tx = decL x.n.toNat) := by show _ = _; simp [mkTn, txOf, ho]
    obtain ⟨m, hm⟩ : ∃ m : Nat, x.n = (m : Int) := ⟨x.n.toNat, by omega⟩
    rw [ho] at c1
    rw [hm] at c3 HT
    have hm9 : m ≤ 999999 := by omega
    rw [Int.toNat_natCast] at HT
    clear e1 hi hok hx h2 ho htx hm hn0 hn1 hbw hN
    unfold TxAt
    rw [HT.out]
    have HD : Hid (∀ W : World, Calls Tryz.prog 44 #[.int .i64 (m : Int)] W fun e w' => e = .returned (.string (wbS (decL m))) ∧ W = w') := fun W => rDec_any m hm9 W
    generalize wbS (decL m) = T at HD ⊢
    go_enter Tryz.func25, Tryz.ntmps25
    go_wp2_with fail
    refine (HD.out _).mono ?_
    rintro e w2 ⟨rfl, rfl⟩
    go_wp2
    go_ret
    exact ⟨rfl, HBW.out _⟩
  · have HT : Hid (wbS (mkTn x k.trs).tx = x.tx) := by
      show _ = _
      have : (mkTn x k.trs).tx = btL x.tx := by simp [mkTn, txOf, ho]
      rw [this]; rfl
    rw [ho] at c1
    clear e1 hi hok hx h2 ho hbw hN
    unfold TxAt
    rw [HT.out]
    go_enter Tryz.func25, Tryz.ntmps25
    go_wp2
    go_ret
    exact ⟨rfl, HBW.out _⟩
  all_goals (exfalso; omega)
end Go.Proofs.YtmbeamcjpidnjaaGreatDoor
namespace Go.Proofs.YtmbeamcjpidnjaaGreatDoor
open Go Go.RowKit

theorem ns_le : ∀ (F : Fo) (t : Tn), t ∈ F.trs → t.ns.length ≤ F.nodes.length
  | .nil, t, h => by cases h
  | .cons x k n, t, h => by
    rw [Fo.trs] at h
    rcases List.mem_cons.1 h with rfl | h
    · rw [mkTn, trs_nodes]
      simp [Fo.nodes]
    · have := ns_le n t h
      simp [Fo.nodes]; omega
theorem lies_le {ds : List Td} {i : Nat} {F : Fo} {r : List Td} (h : ds.drop i = F.nodes ++ r) : F.nodes.length ≤ ds.length := by
  have := congrArg List.length h
  rw [List.length_drop, List.length_append] at this
  omega
/-- How long texts are. -/
theorem tx_short {ds : List Td} (hs : StIn ds) {i : Nat} {F : Fo} {r : List Td} (h : ds.drop i = F.nodes ++ r) (hok : F.ok) (hex : F.exs) (t : Tn) (ht : t ∈ F.trs) : t.tx.length ≤ 640 := by
  have h1 := tx_len F hok hex t ht
  have h2 := ns_le F t ht
  have h3 := lies_le h
  have := hs.l
  omega
set_option maxRecDepth 100000 in
set_option maxHeartbeats 4000000 in
theorem text_two {ds : List Td} {a : Option Addr} {cap : Nat} (hs : StIn ds) {x : Td} {k n : Fo} (hok : (Fo.cons x k n).ok) (hex : (Fo.cons x k n).exs) (h2 : x.op = 5 ∨ x.op = 6) (hk : TxA ds a cap k) : TxH ds a cap (.cons x k n) (mkTn x k.trs).tx := by
  intro i r hi W hN
  obtain ⟨hp, e1, e2, _, _⟩ := fo_at hi hok
  have hkd : kdT x = 2 := by
    unfold kdT
    rcases h2 with h | h <;> rw [h] <;> rfl
  have hkl : k.len = 2 := hok.1.trans hkd
  have hexk : k.exs := fun y hy => hex y (by simp [Fo.nodes, hy])
  obtain ⟨xa, ka, xb, kb, rfl⟩ : ∃ xa ka xb kb, k = .cons xa ka (.cons xb kb .nil) := by
    match k, hkl with
    | .cons xa ka (.cons xb kb .nil), _ => exact ⟨xa, ka, xb, kb, rfl⟩
  have htr : (Fo.cons xa ka (.cons xb kb .nil)).trs = [mkTn xa ka.trs, mkTn xb kb.trs] := rfl
  have hza := tx_short hs e2 hok.2.1 hexk (mkTn xa ka.trs) (by rw [htr]; simp)
  have hzb := tx_short hs e2 hok.2.1 hexk (mkTn xb kb.trs) (by rw [htr]; simp)
  obtain ⟨hpa, ea, _, ena, eda⟩ := fo_at e2 hok.2.1
  obtain ⟨hpb, eb, _, _, _⟩ := fo_at eda hok.2.1.2.2
  generalize hj : i + 1 + 1 + ka.nodes.length = j at ena eda hpb eb
  have HN : Hid (Tds W a ds) := hN
  have hl := hs.l
  have HK1 : Hid (∀ W' : World, Below W.heap.size W W' → Calls Tryz.prog 59 #[.slice a ds.length cap, .int .i64 (i : Int), .int .i64 ((i : Int) + 1), .bool false] W' fun e w' => e = .returned (.string (wbS (brx (lvl x.op false) (mkTn xa ka.trs)))) ∧ Below W'.heap.size W' w') := fun W' hb => by
    have h := kidText_any W' (hN.below hb) hp hpa (by rw [e1]; exact h2) false (mkTn xa ka.trs) (by rw [ea]; rfl) (by omega) (hk.1 (i + 1) _ e2 W' (hN.below hb)) (cap := cap)
    rw [e1, show ((i + 1 : Nat) : Int) = (i : Int) + 1 by omega] at h
    exact h
  have HEN : Hid (∀ W' : World, Below W.heap.size W W' → Calls Tryz.prog 42 #[.slice a ds.length cap, .int .i64 ((i : Int) + 1)] W' fun e w' => e = .returned (.int .i64 (j : Int)) ∧ Below W'.heap.size W' w') := fun W' hb => by
    have h := endOf_at (cap := cap) hs ena hpa W' (hN.below hb)
    rw [show ((i + 1 : Nat) : Int) = (i : Int) + 1 by omega] at h
    exact h
  have HK2 : Hid (∀ W' : World, Below W.heap.size W W' → Calls Tryz.prog 59 #[.slice a ds.length cap, .int .i64 (i : Int), .int .i64 (j : Int), .bool true] W' fun e w' => e = .returned (.string (wbS (brx (lvl x.op true) (mkTn xb kb.trs)))) ∧ Below W'.heap.size W' w') := fun W' hb => by
    have h := kidText_any W' (hN.below hb) hp hpb (by rw [e1]; exact h2) true (mkTn xb kb.trs) (by rw [eb]; rfl) (by omega) (hk.2.1 j _ eda W' (hN.below hb)) (cap := cap)
    rw [e1] at h
    exact h
  have hsa : (wbS (brx (lvl x.op false) (mkTn xa ka.trs))).size ≤ 1000 := by
    have := brx_le (lvl x.op false) (mkTn xa ka.trs)
    rw [wbS_len]; omega
  have hsb : (wbS (brx (lvl x.op true) (mkTn xb kb.trs))).size ≤ 1000 := by
    have := brx_le (lvl x.op true) (mkTn xb kb.trs)
    rw [wbS_len]; omega
  have HTX : Hid (wbS (mkTn x [mkTn xa ka.trs, mkTn xb kb.trs]).tx = wbS (brx (lvl x.op false) (mkTn xa ka.trs)) ++ (if x.op = 5 then ⟨#[32, 43, 32]⟩ else ⟨#[32, 42, 32]⟩) ++ wbS (brx (lvl x.op true) (mkTn xb kb.trs))) := by
    show _ = _
    have q1 : (⟨#[32, 43, 32]⟩ : ByteArray) = wbS [32, 43, 32] := rfl
    have q2 : (⟨#[32, 42, 32]⟩ : ByteArray) = wbS [32, 42, 32] := rfl
    rcases h2 with h | h
    · rw [if_pos h, q1, wbS_two, wbS_two]
      simp [mkTn, txOf, h, two2, lvl]
    · rw [if_neg (by omega), q2, wbS_two, wbS_two]
      simp [mkTn, txOf, h, two2, lvl]
  obtain ⟨b, o, rfl, hb, c1, c2, c3⟩ := hN i hp
  have hii : (i : Int) < (ds.length : Int) := by omega
  rw [e1] at c1 c2 c3
  rw [htr]
  unfold TxAt
  rw [HTX.out]
  clear HTX hk hi hok hex hkl hexk htr hza hzb e1 e2 ena eda ea eb hj hkd hN
  generalize wbS (brx (lvl x.op false) (mkTn xa ka.trs)) = A at HK1 hsa ⊢
  generalize wbS (brx (lvl x.op true) (mkTn xb kb.trs)) = B at HK2 hsb ⊢
  obtain ⟨xo, xt, xn⟩ := x
  simp only at h2 c1 c2 c3 ⊢
  rcases h2 with rfl | rfl
  · rw [if_pos rfl]
    go_enter Tryz.func25, Tryz.ntmps25
    go_wp2_with fail
    refine (HK1.out _ ((Below.refl _ _).alloc (Nat.le_refl _) _)).mono ?_
    rintro e w1 ⟨rfl, b1⟩
    have B1 : Below W.heap.size W w1 := belowA (Below.refl _ _) (Nat.le_refl _) b1
    have HB1 := (show Hid (_) from B1)
    clear b1 B1
    go_wp2_with fail
    refine (HEN.out _ HB1.out).mono ?_
    rintro e w2 ⟨rfl, b2⟩
    have HB2 := (show Hid (_) from belowT HB1.out (Nat.le_refl _) b2)
    clear b2
    go_wp2_with fail
    refine (HK2.out _ HB2.out).mono ?_
    rintro e w3 ⟨rfl, b3⟩
    have HB3 := (show Hid (_) from belowT HB2.out (Nat.le_refl _) b3)
    clear b3
    go_wp2
    go_ret
    exact ⟨rfl, HB3.out⟩
  · rw [if_neg (by omega)]
    go_enter Tryz.func25, Tryz.ntmps25
    go_wp2_with fail
    refine (HK1.out _ ((Below.refl _ _).alloc (Nat.le_refl _) _)).mono ?_
    rintro e w1 ⟨rfl, b1⟩
    have B1 : Below W.heap.size W w1 := belowA (Below.refl _ _) (Nat.le_refl _) b1
    have HB1 := (show Hid (_) from B1)
    clear b1 B1
    go_wp2_with fail
    refine (HEN.out _ HB1.out).mono ?_
    rintro e w2 ⟨rfl, b2⟩
    have HB2 := (show Hid (_) from belowT HB1.out (Nat.le_refl _) b2)
    clear b2
    go_wp2_with fail
    refine (HK2.out _ HB2.out).mono ?_
    rintro e w3 ⟨rfl, b3⟩
    have HB3 := (show Hid (_) from belowT HB2.out (Nat.le_refl _) b3)
    clear b3
    go_wp2
    go_ret
    exact ⟨rfl, HB3.out⟩
end Go.Proofs.YtmbeamcjpidnjaaGreatDoor
namespace Go.Proofs.YtmbeamcjpidnjaaGreatDoor
open Go Go.RowKit

def cmtx : List Tn → List UInt8
  | [] => []
  | t :: r => 44 :: 32 :: cmx (t :: r)
theorem cmx_cons (t : Tn) (r : List Tn) : cmx (t :: r) = t.tx ++ cmtx r := by
  cases r with
  | nil => simp [cmx, cmtx]
  | cons u r => simp [cmx, cmtx]
/-- What is still to be written of kids. -/
def rstx (q : Nat) (ks : List Tn) : List UInt8 := if q = 0 then cmx ks else cmtx ks
/-- What the loop over kids keeps. -/
structure ManyAt (ds : List Td) (a : Option Addr) (cap : Nat) (full : List UInt8) (N : Nat) (r : List Td) (q pos : Nat) (K : Fo) (s : List UInt8) : Prop where
  n : K.len + q = N
  d : ds.drop pos = K.nodes ++ r
  ok : K.ok
  ex : K.exs
  tx : TxA ds a cap K
  f : full = s ++ rstx q K.trs
theorem ManyAt.next {ds : List Td} {a : Option Addr} {cap : Nat} {full : List UInt8} {N : Nat} {r : List Td} {q pos : Nat} {y : Td} {ky K : Fo} {s : List UInt8} (h : ManyAt ds a cap full N r q pos (.cons y ky K) s) :
    ManyAt ds a cap full N r (q + 1) (pos + 1 + ky.nodes.length) K (s ++ (if q = 0 then [] else [44, 32]) ++ (mkTn y ky.trs).tx) ∧ pos < ds.length ∧ endT ds pos 1 = some (pos + 1 + ky.nodes.length) := by
  obtain ⟨hp, _, _, h4, h5⟩ := fo_at h.d h.ok
  refine ⟨⟨?_, h5, h.ok.2.2, fun z hz => h.ex z (by simp [Fo.nodes, hz]), h.tx.2, ?_⟩, hp, h4⟩
  · have := h.n
    simp only [Fo.len] at this; omega
  · rw [h.f, Fo.trs, rstx, rstx, if_neg (by omega : ¬ q + 1 = 0)]
    by_cases hq : q = 0
    · rw [if_pos hq, if_pos hq, cmx_cons]; simp
    · rw [if_neg hq, if_neg hq, cmtx, cmx_cons]; simp
set_option maxRecDepth 100000 in
set_option maxHeartbeats 4000000 in
theorem text_many {ds : List Td} {a : Option Addr} {cap : Nat} (hs : StIn ds) {x : Td} {k n : Fo} (hok : (Fo.cons x k n).ok) (hex : (Fo.cons x k n).exs) (h2 : x.op = 3 ∨ x.op = 4) (hk : TxA ds a cap k) : TxH ds a cap (.cons x k n) (mkTn x k.trs).tx := by
  intro i r hi W hN
  obtain ⟨hp, e1, e2, _, _⟩ := fo_at hi hok
  have hexk : k.exs := fun y hy => hex y (by simp [Fo.nodes, hy])
  have hz := tx_short hs hi hok hex (mkTn x k.trs) (by rw [Fo.trs]; simp)
  have HN : Hid (Tds W a ds) := hN
  have HS : Hid (StIn ds) := hs
  have hl := hs.l
  obtain ⟨N, hn, hn6, hkd⟩ : ∃ N : Nat, x.n = (N : Int) ∧ N ≤ 6 ∧ kdT x = N := by
    rcases exN_cases (hex x (by simp [Fo.nodes])) with ⟨ho, _⟩ | ⟨ho, _⟩ | ⟨ho, _, h3, h4, h5⟩ | ⟨ho, _, h3, h4, h5⟩ | ⟨ho, _⟩ | ⟨ho, _⟩
    · omega
    · omega
    · exact ⟨x.n.toNat, by omega, by omega, h5⟩
    · exact ⟨x.n.toNat, by omega, by omega, h5⟩
    · omega
    · omega
  have hlen : k.len = N := hok.1.trans hkd
  have HST : Hid (∀ pre : List UInt8, ManyAt ds a cap (pre ++ cmx k.trs) N (n.nodes ++ r) 0 (i + 1) k pre) := fun pre =>
    ⟨by omega, e2, hok.2.1, hexk, hk, by rw [rstx, if_pos rfl]⟩
  obtain ⟨b, o, rfl, hb, c1, c2, c3⟩ := hN i hp
  have hii : (i : Int) < (ds.length : Int) := by omega
  rw [e1] at c1 c2 c3
  rw [hn] at c3
  have hts : x.tx.size ≤ 640 ∨ x.op = 4 := by
    rcases h2 with h | h
    · left
      have : (mkTn x k.trs).tx.length = _ := congrArg List.length (show (mkTn x k.trs).tx = btL x.tx ++ 40 :: (cmx k.trs ++ [41]) by simp [mkTn, txOf, h])
      rw [List.length_append, btL_len] at this
      omega
    · exact .inr h
  have HT3 : Hid (x.op = 3 → (mkTn x k.trs).tx = (btL x.tx ++ [40]) ++ cmx k.trs ++ [41]) := fun h => by simp [mkTn, txOf, h]
  have HT4 : Hid (x.op = 4 → (mkTn x k.trs).tx = [91] ++ cmx k.trs ++ [93]) := fun h => by simp [mkTn, txOf, h]
  unfold TxAt
  generalize (mkTn x k.trs).tx = full at hz HT3 HT4 ⊢
  generalize cmx k.trs = body at HST HT3 HT4
  generalize n.nodes ++ r = r' at HST
  clear hk hi hok hex hexk e1 e2 hn hkd hlen hN hs
  obtain ⟨xo, xt, xn⟩ := x
  simp only at h2 c1 c2 c3 hts HT3 HT4
  rcases h2 with rfl | rfl
  · have HF := (show Hid (_ = _) from HT3.out rfl)
    have HST3 := (show Hid (_) from HST.out (btL xt ++ [40]))
    have hts3 : xt.size ≤ 640 := by rcases hts with h | h <;> omega
    have HP : Hid (xt ++ (⟨#[40]⟩ : ByteArray) = wbS (btL xt ++ [40])) := by
      show _ = _
      rw [← wbS_two]; rfl
    clear HT3 HT4 HST hts
    go_enter Tryz.func25, Tryz.ntmps25
    go_wp2_with fail
    have hbx : ∀ wr : World, Below (W.heap.size + 1) (W.alloc (.cells #[.int .i64 3, .string xt, .int .i64 (N : Int)] 39)) wr → wr.cell? ⟨W.heap.size, 2, none⟩ = some (.int .i64 (N : Int)) := fun wr hb => (hb.cell (p := ⟨W.heap.size, 2, none⟩) (Nat.lt_succ_self _)).trans (by simp [go_sem])
    have HBX := (show Hid (_) from hbx)
    have HBW : Hid (∀ wr : World, Below (W.heap.size + 1) (W.alloc (.cells #[.int .i64 3, .string xt, .int .i64 (N : Int)] 39)) wr → Below W.heap.size W wr) := fun wr hb => ((Below.refl _ _).alloc (Nat.le_refl _) _).trans (hb.mono (by omega))
    have HRF : Hid (Below (W.heap.size + 1) (W.alloc (.cells #[.int .i64 3, .string xt, .int .i64 (N : Int)] 39)) (W.alloc (.cells #[.int .i64 3, .string xt, .int .i64 (N : Int)] 39))) := Below.refl _ _
    have HSZ : Hid (∀ wr : World, Below (W.heap.size + 1) (W.alloc (.cells #[.int .i64 3, .string xt, .int .i64 (N : Int)] 39)) wr → W.heap.size + 1 ≤ wr.heap.size) := fun wr hb => by have := hb.size; rw [World.size_alloc] at this; exact this
    clear hbx
    generalize W.alloc (.cells #[.int .i64 3, .string xt, .int .i64 (N : Int)] 39) = W1 at HBX HBW HRF HSZ ⊢
    rw [HP.out]
    go_loopw [6, 8, 9] (fun s at_ q wr => ∃ (q' pos : Nat) (K : Fo) (t : List UInt8), s = .string (wbS t) ∧ at_ = .int .i64 (pos : Int) ∧ q = .int .i64 (q' : Int) ∧ ManyAt ds (some ⟨b, o, none⟩) cap ((btL xt ++ [40]) ++ body) N r' q' pos K t ∧ Below (W.heap.size + 1) W1 wr) (fun _ _ q _ => N - (intOf q).toNat)
    case atStart => exact ⟨0, i + 1, k, (btL xt ++ [40]), rfl, by go_num, rfl, HST3.out, HRF.out⟩
    case round =>
      obtain ⟨q, pos, K, t, rfl, rfl, rfl, hM, hB⟩ := hrel
      have HM : Hid (ManyAt ds (some ⟨b, o, none⟩) cap ((btL xt ++ [40]) ++ body) N r' q pos K t) := hM
      have HB : Hid (Below (W.heap.size + 1) W1 wr) := hB
      have hc2 := HBX.out wr hB
      have hKn := hM.n
      have htl : (wbS t).size ≤ 640 := by
        have h1 := congrArg List.length hM.f
        have h2 := congrArg List.length HF.out
        simp only [List.length_append] at h1 h2
        rw [wbS_len]; omega
      clear hM hB
      by_cases hq : q < N
      · have hqi : (q : Int) < (N : Int) := by omega
        match K, hKn, HM with
        | .nil, hKn, _ => simp only [Fo.len] at hKn; exfalso; omega
        | .cons y ky K', _, HM =>
          obtain ⟨hn1, hpos, hen⟩ := HM.out.next
          have hzy := tx_short HS.out HM.out.d HM.out.ok HM.out.ex (mkTn y ky.trs) (by rw [Fo.trs]; simp)
          have HNX := (show Hid (_) from hn1)
          have HTX : Hid (∀ W' : World, Below W.heap.size W W' → TxAt ds (some ⟨b, o, none⟩) cap pos (mkTn y ky.trs).tx W') := fun W' hb => HM.out.tx.1 pos r' HM.out.d W' (HN.out.below hb)
          have HEN : Hid (∀ W' : World, Below W.heap.size W W' → Calls Tryz.prog 42 #[.slice (some ⟨b, o, none⟩) ds.length cap, .int .i64 (pos : Int)] W' fun e w' => e = .returned (.int .i64 ((pos + 1 + ky.nodes.length : Nat) : Int)) ∧ Below W'.heap.size W' w') := fun W' hb => endOf_at HS.out hen hpos W' (HN.out.below hb)
          have hyz : (wbS (mkTn y ky.trs).tx).size ≤ 640 := by rw [wbS_len]; exact hzy
          unfold TxAt at HTX
          clear hn1 hen HM
          generalize hps : pos + 1 + ky.nodes.length = ps at HNX HEN
          by_cases hq0 : q = 0
          · subst hq0
            have HAP : Hid (wbS t ++ wbS (mkTn y ky.trs).tx = wbS (t ++ (if 0 = 0 then [] else [44, 32]) ++ (mkTn y ky.trs).tx)) := by
              show _ = _
              rw [if_pos rfl, List.append_nil, wbS_two]
            generalize t ++ (if 0 = 0 then [] else [44, 32]) ++ (mkTn y ky.trs).tx = t' at HNX HAP
            generalize wbS (mkTn y ky.trs).tx = Y at HTX HAP hyz
            generalize wbS t = S at HAP htl ⊢
            go_wp2_with fail
            refine (HTX.out _ (HBW.out _ HB.out)).mono ?_
            rintro e w2 ⟨rfl, b2⟩
            have HB2 : Hid (Below (W.heap.size + 1) W1 w2) := HB.out.trans (b2.mono (HSZ.out _ HB.out))
            clear b2
            go_wp2_with fail
            refine (HEN.out _ (HBW.out _ HB2.out)).mono ?_
            rintro e w3 ⟨rfl, b3⟩
            have HB3 : Hid (Below (W.heap.size + 1) W1 w3) := HB2.out.trans (b3.mono (HSZ.out _ HB2.out))
            clear b3
            go_wp2
            exact ⟨⟨1, ps, K', t', by rw [HAP.out], rfl, rfl, HNX.out, HB3.out⟩, by simp [intOf]; omega⟩
          · have hq0i : (0 : Int) < (q : Int) := by omega
            have HAP : Hid (wbS t ++ (⟨#[44, 32]⟩ : ByteArray) ++ wbS (mkTn y ky.trs).tx = wbS (t ++ (if q = 0 then [] else [44, 32]) ++ (mkTn y ky.trs).tx)) := by
              show _ = _
              rw [if_neg hq0, ← wbS_two, ← wbS_two]; rfl
            have hs2 : (wbS t ++ (⟨#[44, 32]⟩ : ByteArray)).size ≤ 1000 := by
              have e3 : (⟨#[44, 32]⟩ : ByteArray).size = 2 := rfl
              rw [ByteArray.size_append, e3]; omega
            generalize t ++ (if q = 0 then [] else [44, 32]) ++ (mkTn y ky.trs).tx = t' at HNX HAP
            generalize wbS (mkTn y ky.trs).tx = Y at HTX HAP hyz
            generalize wbS t = S at HAP htl hs2 ⊢
            go_wp2_with fail
            refine (HTX.out _ (HBW.out _ HB.out)).mono ?_
            rintro e w2 ⟨rfl, b2⟩
            have HB2 : Hid (Below (W.heap.size + 1) W1 w2) := HB.out.trans (b2.mono (HSZ.out _ HB.out))
            clear b2
            generalize S ++ (⟨#[44, 32]⟩ : ByteArray) = S2 at HAP hs2 ⊢
            go_wp2_with fail
            refine (HEN.out _ (HBW.out _ HB2.out)).mono ?_
            rintro e w3 ⟨rfl, b3⟩
            have HB3 : Hid (Below (W.heap.size + 1) W1 w3) := HB2.out.trans (b3.mono (HSZ.out _ HB2.out))
            clear b3
            go_wp2
            exact ⟨⟨q + 1, ps, K', t', by rw [HAP.out], rfl, by go_num, HNX.out, HB3.out⟩, by simp [intOf]; omega⟩
      · have hqi : ¬ (q : Int) < (N : Int) := by omega
        have HE : Hid (wbS t ++ (⟨#[41]⟩ : ByteArray) = wbS full) := by
          have hK : K = .nil := by
            cases K with
            | nil => rfl
            | cons y ky K' => simp only [Fo.len] at hKn; omega
          have h1 := HM.out.f
          rw [hK] at h1
          have h2 : rstx q Fo.nil.trs = [] := by
            unfold rstx
            split <;> rfl
          rw [h2, List.append_nil] at h1
          show _ = _
          rw [HF.out, h1, ← wbS_two]; rfl
        generalize wbS t = S at HE htl ⊢
        go_wp2
        go_ret
        exact ⟨by rw [← HE.out]; rfl, HBW.out _ HB.out⟩
  · have HF := (show Hid (_ = _) from HT4.out rfl)
    have HST3 := (show Hid (_) from HST.out [91])
    clear HT3 HT4 HST hts
    go_enter Tryz.func25, Tryz.ntmps25
    go_wp2_with fail
    have hbx : ∀ wr : World, Below (W.heap.size + 1) (W.alloc (.cells #[.int .i64 4, .string xt, .int .i64 (N : Int)] 39)) wr → wr.cell? ⟨W.heap.size, 2, none⟩ = some (.int .i64 (N : Int)) := fun wr hb => (hb.cell (p := ⟨W.heap.size, 2, none⟩) (Nat.lt_succ_self _)).trans (by simp [go_sem])
    have HBX := (show Hid (_) from hbx)
    have HBW : Hid (∀ wr : World, Below (W.heap.size + 1) (W.alloc (.cells #[.int .i64 4, .string xt, .int .i64 (N : Int)] 39)) wr → Below W.heap.size W wr) := fun wr hb => ((Below.refl _ _).alloc (Nat.le_refl _) _).trans (hb.mono (by omega))
    have HRF : Hid (Below (W.heap.size + 1) (W.alloc (.cells #[.int .i64 4, .string xt, .int .i64 (N : Int)] 39)) (W.alloc (.cells #[.int .i64 4, .string xt, .int .i64 (N : Int)] 39))) := Below.refl _ _
    have HSZ : Hid (∀ wr : World, Below (W.heap.size + 1) (W.alloc (.cells #[.int .i64 4, .string xt, .int .i64 (N : Int)] 39)) wr → W.heap.size + 1 ≤ wr.heap.size) := fun wr hb => by have := hb.size; rw [World.size_alloc] at this; exact this
    clear hbx
    generalize W.alloc (.cells #[.int .i64 4, .string xt, .int .i64 (N : Int)] 39) = W1 at HBX HBW HRF HSZ ⊢
    
    go_loopw [6, 8, 9] (fun s at_ q wr => ∃ (q' pos : Nat) (K : Fo) (t : List UInt8), s = .string (wbS t) ∧ at_ = .int .i64 (pos : Int) ∧ q = .int .i64 (q' : Int) ∧ ManyAt ds (some ⟨b, o, none⟩) cap ([91] ++ body) N r' q' pos K t ∧ Below (W.heap.size + 1) W1 wr) (fun _ _ q _ => N - (intOf q).toNat)
    case atStart => exact ⟨0, i + 1, k, [91], rfl, by go_num, rfl, HST3.out, HRF.out⟩
    case round =>
      obtain ⟨q, pos, K, t, rfl, rfl, rfl, hM, hB⟩ := hrel
      have HM : Hid (ManyAt ds (some ⟨b, o, none⟩) cap ([91] ++ body) N r' q pos K t) := hM
      have HB : Hid (Below (W.heap.size + 1) W1 wr) := hB
      have hc2 := HBX.out wr hB
      have hKn := hM.n
      have htl : (wbS t).size ≤ 640 := by
        have h1 := congrArg List.length hM.f
        have h2 := congrArg List.length HF.out
        simp only [List.length_append] at h1 h2
        rw [wbS_len]; omega
      clear hM hB
      by_cases hq : q < N
      · have hqi : (q : Int) < (N : Int) := by omega
        match K, hKn, HM with
        | .nil, hKn, _ => simp only [Fo.len] at hKn; exfalso; omega
        | .cons y ky K', _, HM =>
          obtain ⟨hn1, hpos, hen⟩ := HM.out.next
          have hzy := tx_short HS.out HM.out.d HM.out.ok HM.out.ex (mkTn y ky.trs) (by rw [Fo.trs]; simp)
          have HNX := (show Hid (_) from hn1)
          have HTX : Hid (∀ W' : World, Below W.heap.size W W' → TxAt ds (some ⟨b, o, none⟩) cap pos (mkTn y ky.trs).tx W') := fun W' hb => HM.out.tx.1 pos r' HM.out.d W' (HN.out.below hb)
          have HEN : Hid (∀ W' : World, Below W.heap.size W W' → Calls Tryz.prog 42 #[.slice (some ⟨b, o, none⟩) ds.length cap, .int .i64 (pos : Int)] W' fun e w' => e = .returned (.int .i64 ((pos + 1 + ky.nodes.length : Nat) : Int)) ∧ Below W'.heap.size W' w') := fun W' hb => endOf_at HS.out hen hpos W' (HN.out.below hb)
          have hyz : (wbS (mkTn y ky.trs).tx).size ≤ 640 := by rw [wbS_len]; exact hzy
          unfold TxAt at HTX
          clear hn1 hen HM
          generalize hps : pos + 1 + ky.nodes.length = ps at HNX HEN
          by_cases hq0 : q = 0
          · subst hq0
            have HAP : Hid (wbS t ++ wbS (mkTn y ky.trs).tx = wbS (t ++ (if 0 = 0 then [] else [44, 32]) ++ (mkTn y ky.trs).tx)) := by
              show _ = _
              rw [if_pos rfl, List.append_nil, wbS_two]
            generalize t ++ (if 0 = 0 then [] else [44, 32]) ++ (mkTn y ky.trs).tx = t' at HNX HAP
            generalize wbS (mkTn y ky.trs).tx = Y at HTX HAP hyz
            generalize wbS t = S at HAP htl ⊢
            go_wp2_with fail
            refine (HTX.out _ (HBW.out _ HB.out)).mono ?_
            rintro e w2 ⟨rfl, b2⟩
            have HB2 : Hid (Below (W.heap.size + 1) W1 w2) := HB.out.trans (b2.mono (HSZ.out _ HB.out))
            clear b2
            go_wp2_with fail
            refine (HEN.out _ (HBW.out _ HB2.out)).mono ?_
            rintro e w3 ⟨rfl, b3⟩
            have HB3 : Hid (Below (W.heap.size + 1) W1 w3) := HB2.out.trans (b3.mono (HSZ.out _ HB2.out))
            clear b3
            go_wp2
            exact ⟨⟨1, ps, K', t', by rw [HAP.out], rfl, rfl, HNX.out, HB3.out⟩, by simp [intOf]; omega⟩
          · have hq0i : (0 : Int) < (q : Int) := by omega
            have HAP : Hid (wbS t ++ (⟨#[44, 32]⟩ : ByteArray) ++ wbS (mkTn y ky.trs).tx = wbS (t ++ (if q = 0 then [] else [44, 32]) ++ (mkTn y ky.trs).tx)) := by
              show _ = _
              rw [if_neg hq0, ← wbS_two, ← wbS_two]; rfl
            have hs2 : (wbS t ++ (⟨#[44, 32]⟩ : ByteArray)).size ≤ 1000 := by
              have e3 : (⟨#[44, 32]⟩ : ByteArray).size = 2 := rfl
              rw [ByteArray.size_append, e3]; omega
            generalize t ++ (if q = 0 then [] else [44, 32]) ++ (mkTn y ky.trs).tx = t' at HNX HAP
            generalize wbS (mkTn y ky.trs).tx = Y at HTX HAP hyz
            generalize wbS t = S at HAP htl hs2 ⊢
            go_wp2_with fail
            refine (HTX.out _ (HBW.out _ HB.out)).mono ?_
            rintro e w2 ⟨rfl, b2⟩
            have HB2 : Hid (Below (W.heap.size + 1) W1 w2) := HB.out.trans (b2.mono (HSZ.out _ HB.out))
            clear b2
            generalize S ++ (⟨#[44, 32]⟩ : ByteArray) = S2 at HAP hs2 ⊢
            go_wp2_with fail
            refine (HEN.out _ (HBW.out _ HB2.out)).mono ?_
            rintro e w3 ⟨rfl, b3⟩
            have HB3 : Hid (Below (W.heap.size + 1) W1 w3) := HB2.out.trans (b3.mono (HSZ.out _ HB2.out))
            clear b3
            go_wp2
            exact ⟨⟨q + 1, ps, K', t', by rw [HAP.out], rfl, by go_num, HNX.out, HB3.out⟩, by simp [intOf]; omega⟩
      · have hqi : ¬ (q : Int) < (N : Int) := by omega
        have HE : Hid (wbS t ++ (⟨#[93]⟩ : ByteArray) = wbS full) := by
          have hK : K = .nil := by
            cases K with
            | nil => rfl
            | cons y ky K' => simp only [Fo.len] at hKn; omega
          have h1 := HM.out.f
          rw [hK] at h1
          have h2 : rstx q Fo.nil.trs = [] := by
            unfold rstx
            split <;> rfl
          rw [h2, List.append_nil] at h1
          show _ = _
          rw [HF.out, h1, ← wbS_two]; rfl
        generalize wbS t = S at HE htl ⊢
        go_wp2
        go_ret
        exact ⟨by rw [← HE.out]; rfl, HBW.out _ HB.out⟩
/-- The texts of expressions, wherever they lie. -/
theorem text_all {ds : List Td} {a : Option Addr} {cap : Nat} (hs : StIn ds) : ∀ F : Fo, F.ok → F.exs → TxA ds a cap F
  | .nil, _, _ => trivial
  | .cons x k n, hok, hex => by
    have hexk : k.exs := fun y hy => hex y (by simp [Fo.nodes, hy])
    have hexn : n.exs := fun y hy => hex y (by simp [Fo.nodes, hy])
    have ihk := text_all (a := a) (cap := cap) hs k hok.2.1 hexk
    refine ⟨?_, text_all hs n hok.2.2 hexn⟩
    have hx := hex x (by simp [Fo.nodes])
    rcases exN_cases hx with ⟨ho, _⟩ | ⟨ho, _⟩ | ⟨ho, _⟩ | ⟨ho, _⟩ | ⟨ho, _⟩ | ⟨ho, _⟩
    · exact text_leaf hs hok hx (.inl ho)
    · exact text_leaf hs hok hx (.inr ho)
    · exact text_many hs hok hex (.inl ho) ihk
    · exact text_many hs hok hex (.inr ho) ihk
    · exact text_two hs hok hex (.inl ho) ihk
    · exact text_two hs hok hex (.inr ho) ihk
end Go.Proofs.YtmbeamcjpidnjaaGreatDoor
namespace Go.Proofs.YtmbeamcjpidnjaaGreatDoor
open Go Go.RowKit

theorem st_in {ds : List Td} (h : treeF ds = 0) : StIn ds := by
  obtain ⟨h1, h2, _, _⟩ := treeF_zero h
  exact ⟨h1, h2⟩
theorem cell_alloc1 (W : World) (a b c : Value) (t : Nat) : (W.alloc (.cells #[a, b, c] t)).cell? ⟨W.heap.size, 1, none⟩ = some b := by
  have h1 : (W.alloc (.cells #[a, b, c] t)).heap[W.heap.size]? = some (.cells #[a, b, c] t (0, 0)) := by
    show (W.heap.push _)[W.heap.size]? = _
    simp
  have h2 : (W.alloc (.cells #[a, b, c] t)).cell? ⟨W.heap.size, 1, none⟩ = (match (W.alloc (.cells #[a, b, c] t)).heap[W.heap.size]? with
    | some (.cells c _ _) => c[1]?
    | _ => none) := rfl
  rw [h2, h1]
  rfl
set_option maxRecDepth 100000 in
set_option maxHeartbeats 4000000 in
theorem st_text {ds : List Td} {a : Option Addr} {cap : Nat} (h : treeF ds = 0) (W : World) (hN : Tds W a ds) : TxAt ds a cap 0 (stTx ds) W := by
  have hin := st_in h
  have hbw : ∀ o : Obj, Below W.heap.size W (W.alloc o) := fun o => (Below.refl _ _).alloc (Nat.le_refl _) _
  have HBW := (show Hid (_) from hbw)
  rcases st_cases h with ⟨x, rfl, ho, _, hnf⟩ | ⟨x, F, rfl, hok, hex, hl, hx⟩
  · have hk : (Fo.nil).len = kdT x := by unfold kdT; rw [ho]; rfl
    have e1 : stTx [x] = stX x [] := (st_eq (x := x) (F := .nil) trivial hk).1
    have h2 := note_len hnf
    obtain ⟨b, o, rfl, hb, c1, c2, c3⟩ := hN 0 (by simp)
    simp only [List.getElem_cons_zero, Nat.zero_mul, Nat.add_zero] at c1 c2 c3
    rw [ho] at c1
    rw [e1]
    unfold stX TxAt
    rw [if_neg (by omega), if_neg (by omega)]
    clear e1 hk hnf h hin hbw hN ho
    by_cases h0 : x.tx.size = 0
    · rw [if_pos h0]
      go_enter Tryz.func25, Tryz.ntmps25
      go_wp2
      go_ret
      exact ⟨rfl, HBW.out _⟩
    · rw [if_neg h0]
      have h0i : ¬ (x.tx.size : Int) = 0 := by omega
      have HE : Hid ((⟨#[35, 32]⟩ : ByteArray) ++ x.tx = wbS ([35, 32] ++ btL x.tx)) := by
        show _ = _
        rw [← wbS_two]; rfl
      generalize wbS ([35, 32] ++ btL x.tx) = R at HE ⊢
      go_enter Tryz.func25, Tryz.ntmps25
      go_wp2
      go_ret
      exact ⟨by rw [← HE.out]; rfl, HBW.out _⟩
  · obtain ⟨y, k, rfl⟩ := fo_one hl
    have hk : (Fo.cons y k .nil).len = kdT x := by
      rw [hl]; unfold kdT
      rcases hx with ⟨ho, _⟩ | ⟨ho, _⟩ <;> rw [ho] <;> rfl
    have hz := ex_len hok hex (by have := hin.l; simp only [List.length_cons] at this; omega)
    have hT := (text_all (a := a) (cap := cap) hin _ hok hex).1 1 [] (by simp)
    rw [(st_eq hok hk).1]
    have hNN : ∀ o : Obj, Tds (W.alloc o) a (x :: (Fo.cons y k .nil).nodes) := fun o => hN.alloc o
    have HNN := (show Hid (_) from hNN)
    obtain ⟨b, o, rfl, hb, c1, c2, c3⟩ := hN 0 (by simp)
    simp only [List.getElem_cons_zero, Nat.zero_mul, Nat.add_zero] at c1 c2 c3
    have hll : (0 : Int) < ((x :: (Fo.cons y k .nil).nodes).length : Int) := by simp only [List.length_cons]; omega
    have hts : (wbS (mkTn y k.trs).tx).size ≤ 640 := by rw [wbS_len]; exact hz
    have HT : Hid (∀ W : World, Tds W (some ⟨b, o, none⟩) (x :: (Fo.cons y k .nil).nodes) → TxAt (x :: (Fo.cons y k .nil).nodes) (some ⟨b, o, none⟩) cap 1 (mkTn y k.trs).tx W) := hT
    unfold stX
    rcases hx with ⟨ho, hnm, _⟩ | ⟨ho, _, _⟩
    · have h8 : x.tx.size ≤ 8 := by rw [← btL_len]; exact name_len hnm
      have HE : Hid ((⟨#[108, 101, 116, 32]⟩ : ByteArray) ++ x.tx ++ ⟨#[32, 61, 32]⟩ ++ wbS (mkTn y k.trs).tx ++ ⟨#[59]⟩ = wbS ([108, 101, 116, 32] ++ btL x.tx ++ [32, 61, 32] ++ hdT (Fo.cons y k .nil).trs ++ [59])) := by
        show _ = _
        rw [← wbS_two, ← wbS_two, ← wbS_two, ← wbS_two]; rfl
      rw [if_pos ho]
      rw [ho] at c1
      generalize (x :: (Fo.cons y k .nil).nodes) = ds at *
      unfold TxAt
      generalize wbS ([108, 101, 116, 32] ++ btL x.tx ++ [32, 61, 32] ++ hdT (Fo.cons y k .nil).trs ++ [59]) = R at HE ⊢
      generalize hTx : wbS (mkTn y k.trs).tx = T at hts HE
      obtain ⟨W1, hW1⟩ : ∃ W1, W1 = W.alloc (.cells #[.int .i64 7, .string x.tx, .int .i64 0] 39) := ⟨_, rfl⟩
      have HTT : Hid (Calls Tryz.prog 25 #[.slice (some ⟨b, o, none⟩) ds.length cap, .int .i64 1] W1.drew fun e w' => e = .returned (.string T) ∧ Below W1.heap.size W1 w') := by
        have h10 := HT.out W1.drew (by rw [hW1]; exact (HNN.out _).below (Below.refl _ _).drew)
        unfold TxAt at h10
        rw [hTx] at h10
        exact h10.mono fun _ _ hh => ⟨hh.1, (Below.refl W1.heap.size W1).drew.trans hh.2⟩
      have HB1 : Hid (Below W.heap.size W W1) := by rw [hW1]; exact HBW.out _
      have hlb : W.heap.size < W1.heap.size := by rw [hW1, World.size_alloc]; omega
      have p2 : W1.cell? ⟨W.heap.size, 1, none⟩ = some (.string x.tx) := by rw [hW1]; exact cell_alloc1 _ _ _ _ _
      have d2 : W1.drew.cell? ⟨W.heap.size, 1, none⟩ = some (.string x.tx) := p2
      have HW1 : Hid (_ = _) := hW1
      have g1 : ¬ 9223372036854775807 < 4 + x.tx.size := by omega
      have g2 : ¬ 9223372036854775807 < 4 + x.tx.size + 3 := by omega
      have g3 : ¬ 9223372036854775807 < 4 + x.tx.size + 3 + T.size := by omega
      have g4 : ¬ 9223372036854775807 < 4 + x.tx.size + 3 + T.size + 1 := by omega
      clear hTx HT HNN hNN hT hN hz hk hok hex hl hnm ho hin h hbw hW1
      go_enter Tryz.func25, Tryz.ntmps25
      go_wp2_with fail
      rw [← HW1.out]
      go_region_held3 (fun w' => w'.cell? ⟨W.heap.size, 1, none⟩ = some (.string x.tx))
        (first | with_reducible exact d2 | with_reducible exact p2 | with_reducible exact (hb2.cell (p := ⟨W.heap.size, 1, none⟩) hlb).trans p2)
        ((go_at_call 25; refine HTT.out.mono ?_; rintro e w2 ⟨rfl, hb2⟩))
      all_goals
        go_wp2
        go_ret
        exact ⟨by rw [← HE.out]; rfl, HB1.out.trans (hb2.mono (by omega))⟩
    · have HE : Hid (wbS (mkTn y k.trs).tx ++ ⟨#[59]⟩ = wbS (hdT (Fo.cons y k .nil).trs ++ [59])) := by
        show _ = _
        rw [← wbS_two]; rfl
      rw [if_neg (by omega), if_pos ho]
      rw [ho] at c1
      generalize (x :: (Fo.cons y k .nil).nodes) = ds at *
      unfold TxAt
      generalize wbS (hdT (Fo.cons y k .nil).trs ++ [59]) = R at HE ⊢
      generalize hTx : wbS (mkTn y k.trs).tx = T at hts HE
      have HTT : Hid (∀ o' : Obj, Calls Tryz.prog 25 #[.slice (some ⟨b, o, none⟩) ds.length cap, .int .i64 1] (W.alloc o') fun e w' => e = .returned (.string T) ∧ Below W.heap.size W w') := fun o' => by
        have h9 := HT.out _ (HNN.out o')
        unfold TxAt at h9
        rw [hTx, World.size_alloc] at h9
        exact h9.mono fun _ _ hh => ⟨hh.1, (HBW.out o').trans (hh.2.mono (by omega))⟩
      clear hTx HT HNN hNN hT hN hz hk hok hex hl ho hin h hbw
      go_enter Tryz.func25, Tryz.ntmps25
      go_wp2_with fail
      refine (HTT.out _).mono ?_
      rintro e w2 ⟨rfl, hb2⟩
      go_wp2
      go_ret
      exact ⟨by rw [← HE.out]; rfl, hb2⟩
end Go.Proofs.YtmbeamcjpidnjaaGreatDoor
namespace Go.Proofs.YtmbeamcjpidnjaaGreatDoor
open Go Go.RowKit

set_option maxRecDepth 100000 in
set_option maxHeartbeats 4000000 in
theorem print_any (ps : List (List Td)) (a : Option Addr) (cap : Nat) (w : World) (hP : Prg w a ps) (hok : ∀ t ∈ ps, treeF t = 0) (hl : ps.length ≤ 20) : Calls Tryz.prog 8 #[.slice a ps.length cap] w fun e w' => e = .returned (.string (wbS (prgTx ps))) ∧ Below w.heap.size w w' := by
  have HP : Hid (Prg w a ps) := hP
  have HOK : Hid (∀ t ∈ ps, treeF t = 0) := hok
  clear hP hok
  have HFUL : Hid (ps.take ps.length = ps) := List.take_length
  go_enter Tryz.func8, Tryz.ntmps8
  go_wp2
  go_loopw [3, 4] (fun s i wr => Below w.heap.size w wr ∧ ∃ k : Nat, k ≤ ps.length ∧ i = .int .i64 (k : Int) ∧ s = .string (wbS (prgTx (ps.take k)))) (fun _ i _ => ps.length - (intOf i).toNat)
  case atStart => exact ⟨Below.refl _ _, 0, Nat.zero_le _, rfl, rfl⟩
  case round =>
    obtain ⟨hbr, k, hk, rfl, rfl⟩ := hrel
    have HBR : Hid (Below w.heap.size w wr) := hbr
    have hws : w.heap.size ≤ wr.heap.size := hbr.size
    clear hbr
    by_cases hlt : k < ps.length
    · obtain ⟨b, o, a', c', ea, hb, c1, c2, hT⟩ := (HP.out.below HBR.out) k hlt
      subst ea
      have hki : (k : Int) < (ps.length : Int) := by omega
      have hok := HOK.out _ (List.getElem_mem hlt)
      have HTX : Hid (Calls Tryz.prog 25 #[.slice a' ps[k].length c', .int .i64 0] wr fun e w' => e = .returned (.string (wbS (stTx ps[k]))) ∧ Below w.heap.size w w') := by
        have h1 : TxAt ps[k] a' c' 0 (stTx ps[k]) wr := st_text hok wr hT
        exact h1.mono fun _ _ hh => ⟨hh.1, HBR.out.trans (hh.2.mono hws)⟩
      have hsz : (wbS (stTx ps[k])).size ≤ 2000 := by rw [wbS_len]; exact st_len hok
      have hsp : (wbS (prgTx (ps.take k))).size ≤ 41000 := by
        rw [wbS_len]
        have h1 := prg_len (ps.take k) fun t ht => HOK.out t (List.mem_of_mem_take ht)
        have h2 : (ps.take k).length ≤ k := by rw [List.length_take]; omega
        omega
      have HNX : Hid (wbS (prgTx (ps.take k)) ++ wbS (stTx ps[k]) ++ (⟨#[10]⟩ : ByteArray) = wbS (prgTx (ps.take (k + 1)))) := by
        show _ = _
        rw [List.take_succ_eq_append_getElem hlt, prgTx_snoc, ← wbS_two, ← wbS_two, ByteArray.append_assoc]; rfl
      generalize wbS (prgTx (ps.take k)) = N0 at HNX hsp ⊢
      generalize wbS (stTx ps[k]) = T at HNX HTX hsz
      clear hT hok c2
      generalize ps[k].length = nl at c1 HTX
      go_wp2_with fail
      refine HTX.out.mono ?_
      rintro e w2 ⟨rfl, hb2⟩
      have HB2 := (show Hid (_) from hb2)
      clear hb2
      go_wp2
      go_roundw
      case rel => exact ⟨HB2.out, k + 1, by omega, by go_num, by rw [HNX.out]⟩
      case measure => simp [intOf]; omega
    · have hki : ¬ (k : Int) < (ps.length : Int) := by omega
      have hke : k = ps.length := by omega
      subst hke
      rw [HFUL.out]
      generalize hR : wbS (prgTx ps) = R
      have HR : Hid (wbS (prgTx ps) = R) := hR
      clear hR
      go_wp2
      go_ret
      exact ⟨by rw [HR.out]; rfl, HBR.out⟩
end Go.Proofs.YtmbeamcjpidnjaaGreatDoor
