/- Some texts as one: TreK, TreZ. -/
import Derived.Test.YtmbeamcjpidnjaaGreatDoorMems
import Derived.Test.YtmbeamcjpidnjaaGreatDoorTreYs
namespace Go.Proofs.YtmbeamcjpidnjaaGreatDoor
open Go Go.RowKit

/-- Where so many kids of a node end. -/
def kidAt (ds : List Td) (i j : Nat) : Nat := (endT ds (i + 1) j).getD 0
/-- Where the kids of a node are. -/
def kidsL (ds : List Td) (i : Nat) : List Int := (List.range (kdT (ds.getD i ⟨0, ⟨#[]⟩, 0⟩))).map fun j => ((kidAt ds i j : Nat) : Int)
theorem endT_part {ds : List Td} {i a b j : Nat} (h : endT ds i (a + b) = some j) : ∃ k, endT ds i a = some k ∧ k ≤ j ∧ endT ds k b = some j := by
  rw [endT_add] at h
  cases h1 : endT ds i a with
  | none => rw [h1] at h; cases h
  | some k =>
    rw [h1] at h
    have h2 : endT ds k b = some j := h
    have := endT_bd h2
    exact ⟨k, rfl, by omega, h2⟩
theorem kid_some {ds : List Td} (ht : treeF ds = 0) {i : Nat} (hi : i < ds.length) {j : Nat} (hj : j ≤ kdT ds[i]) : ∃ k, endT ds (i + 1) j = some k ∧ k = kidAt ds i j ∧ i + 1 + j ≤ k ∧ (j < kdT ds[i] → k < ds.length) ∧ k ≤ ds.length := by
  obtain ⟨_, _, he, _⟩ := treeF_zero ht
  obtain ⟨e, h1, h2, h3⟩ := endT_mid he hi
  rw [endT_step ds i 0 hi, Nat.add_zero] at h1
  obtain ⟨d, hd⟩ : ∃ d, kdT ds[i] = j + d := ⟨kdT ds[i] - j, by omega⟩
  rw [hd] at h1
  obtain ⟨k, k1, k2, k3⟩ := endT_part (a := j) (b := d) h1
  have hb := endT_bd k1
  refine ⟨k, k1, by rw [kidAt, k1]; rfl, hb.1, fun hlt => ?_, by omega⟩
  have hb2 := endT_bd k3
  omega
theorem kid_next {ds : List Td} (ht : treeF ds = 0) {i : Nat} (hi : i < ds.length) {j : Nat} (hj : j < kdT ds[i]) : endT ds (kidAt ds i j) 1 = some (kidAt ds i (j + 1)) := by
  obtain ⟨k, k1, rfl, _⟩ := kid_some ht hi (Nat.le_of_lt hj)
  obtain ⟨k', k1', rfl, _⟩ := kid_some ht hi (show j + 1 ≤ kdT ds[i] from hj)
  rw [endT_add, k1] at k1'
  exact k1'
theorem kid_zero (ds : List Td) (i : Nat) : kidAt ds i 0 = i + 1 := by rw [kidAt, endT_zero]; rfl
theorem kidsL_eq {ds : List Td} {i : Nat} (hi : i < ds.length) : kidsL ds i = (List.range (kdT ds[i])).map fun j => ((kidAt ds i j : Nat) : Int) := by
  rw [kidsL, List.getD_eq_getElem?_getD, List.getElem?_eq_getElem hi]; rfl
/-- The first so many. -/
def kidsTo (ds : List Td) (i q : Nat) : List Int := (List.range q).map fun j => ((kidAt ds i j : Nat) : Int)
theorem kidsTo_len (ds : List Td) (i q : Nat) : (kidsTo ds i q).length = q := by simp [kidsTo]
theorem kidsTo_next (ds : List Td) (i q : Nat) : kidsTo ds i (q + 1) = kidsTo ds i q ++ [((kidAt ds i q : Nat) : Int)] := by
  simp [kidsTo, List.range_succ]
/-- What is wrong with a statement and a node of it. -/
def kidE (ds : List Td) (i : Int) : Int := if treeF ds ≠ 0 then treeF ds else if i < 0 ∨ (ds.length : Int) ≤ i then 1 else 0
theorem kidE_zero {ds : List Td} {i : Int} (h : kidE ds i = 0) : treeF ds = 0 ∧ ∃ k : Nat, i = k ∧ k < ds.length := by
  unfold kidE at h
  split at h
  · rename_i h1; exact absurd h h1
  · rename_i h1
    split at h
    · cases h
    · exact ⟨by omega, i.toNat, by omega, by omega⟩
theorem progG_zero : ∀ (ps : List (List Td)) (prev : Int) (k : Nat), (progG prev k ps).2 = 0 → (progG prev k ps).1 = 0
  | [], _, _, _ => rfl
  | t :: r, prev, k, h => by
    rw [progG] at h ⊢
    split at h
    · rename_i h1; exact absurd h h1
    · split at h
      · cases h
      · rename_i h1 h2
        rw [if_neg h1, if_neg h2]
        exact progG_zero r _ _ h
theorem prog_zero (ps : List (List Td)) : (progF ps).2 = 0 → (progF ps).1 = 0 := by
  intro h
  unfold progF at h ⊢
  split at h
  · cases h
  · rename_i h1; rw [if_neg h1]; exact progG_zero ps 0 0 h
def Few8 (ds : List Td) : Prop := ∀ x ∈ ds, x.tx.size ≤ 1000000000000
/-- What a loop over a node's kids keeps. -/
structure KlInv (ds : List Td) (i : Nat) (w : World) (q : Nat) (A : Option Addr) (c : Nat) (wr : World) : Prop where
  b : Below w.heap.size w wr
  o : wr.ownsRow w.heap.size 3 1 (.slice A q c) q (zCells (kidsTo ds i q))
theorem KlInv.start (ds : List Td) (i : Nat) (w : World) : KlInv ds i w 0 none 0 w := ⟨Below.refl _ _, World.ownsRow_nil _ _ _ _⟩
theorem KlInv.later {ds : List Td} {i : Nat} {w : World} {q : Nat} {A : Option Addr} {c : Nat} {wr w' : World} (h : KlInv ds i w q A c wr) (hb : Below wr.heap.size wr w') : KlInv ds i w q A c w' := ⟨belowT h.b (Nat.le_refl _) hb, own_bel h.o hb⟩
theorem KlInv.next {ds : List Td} {i : Nat} {w : World} {q : Nat} {A : Option Addr} {c : Nat} {wr : World} (h : KlInv ds i w q A c wr) {O : Obj} {w2 : World} {g cap2 : Nat} (hown : w2.ownsRow w.heap.size 3 1 (.slice (some ⟨g, 0, none⟩) (q + 1) cap2) (q + 1) (zCells (kidsTo ds i q) ++ [.int .i64 ((kidAt ds i q : Nat) : Int)])) (hgrow : (wr.alloc O).grownBy w2 (Value.slice A q c).ownBlock) : KlInv ds i w (q + 1) (some ⟨g, 0, none⟩) cap2 w2 := by
  have hs := h.b.size
  refine ⟨(h.b.alloc hs O).grown hgrow (by simp; omega) (fun j hj => (World.ownsRow.lt h.o j hj).1), ?_⟩
  rw [kidsTo_next, zCells_app]
  exact hown
theorem KlInv.ints {ds : List Td} {i : Nat} {w : World} {q : Nat} {A : Option Addr} {c : Nat} {wr : World} (h : KlInv ds i w q A c wr) : Ints wr A (kidsTo ds i q) := by
  refine intsO_ints (B := w.heap.size) (n := q) (c := c) ?_
  unfold IntsO
  rw [kidsTo_len]
  exact h.o
theorem kidsTo_all {ds : List Td} {i : Nat} (hi : i < ds.length) : kidsTo ds i (kdT ds[i]) = kidsL ds i := (kidsL_eq hi).symm
/-- Numbers behind an address, from a block on. -/
def IntsF (B : Nat) (w : World) (a : Option Addr) (ws : List Int) : Prop :=
  ∀ i (h : i < ws.length), ∃ b o, a = some ⟨b, o, none⟩ ∧ B ≤ b ∧ b < w.heap.size ∧ w.cell? ⟨b, o + i, none⟩ = some (.int .i64 ws[i])
theorem IntsF.ints {B : Nat} {w : World} {a : Option Addr} {ws : List Int} (h : IntsF B w a ws) : Ints w a ws := by
  intro i hi
  obtain ⟨b, o, e, _, hlt, c1⟩ := h i hi
  exact ⟨b, o, e, hlt, c1⟩
theorem IntsF.below {B : Nat} {w w' : World} {a : Option Addr} {ws : List Int} (h : IntsF B w a ws) (hb : Below w.heap.size w w') : IntsF B w' a ws := by
  intro i hi
  obtain ⟨b, o, e, hB, hlt, c1⟩ := h i hi
  exact ⟨b, o, e, hB, Nat.lt_of_lt_of_le hlt hb.size, (hb.cell (p := ⟨b, _, none⟩) hlt).trans c1⟩
theorem IntsF.down {B B' : Nat} {w : World} {a : Option Addr} {ws : List Int} (h : IntsF B w a ws) (hB' : B' ≤ B) : IntsF B' w a ws := by
  intro i hi
  obtain ⟨b, o, e, hB, hlt, c1⟩ := h i hi
  exact ⟨b, o, e, by omega, hlt, c1⟩
theorem own_far {w : World} {B n m c : Nat} {A : Option Addr} {xs : List Int} (h : w.ownsRow B 3 1 (.slice A m c) n (zCells xs)) (hn : xs.length = n) : IntsF B w A xs := by
  intro j hj
  rcases h.2 with ⟨hv, h0⟩ | ⟨g, c, cur, hv, hB, hg, hnc, _, hsz, htake⟩
  · omega
  · simp only [Value.slice.injEq] at hv
    obtain ⟨rfl, rfl, rfl⟩ := hv
    refine ⟨g, 0, rfl, hB, (Array.getElem?_eq_some_iff.1 hg).1, ?_⟩
    have hk : (zCells xs)[j]? = some (.int .i64 xs[j]) := by simp [zCells, hj]
    rw [← htake] at hk
    rw [List.getElem?_take_of_lt (by omega)] at hk
    rw [Nat.zero_add]
    simp only [World.cell?, hg]
    simpa using hk
theorem KlInv.far {ds : List Td} {i : Nat} {w : World} {q : Nat} {A : Option Addr} {c : Nat} {wr : World} (h : KlInv ds i w q A c wr) : IntsF w.heap.size wr A (kidsTo ds i q) := own_far h.o (kidsTo_len ds i q)
/-- What Kids hands back: its numbers lie from a block on. -/
def KidsFar (ds : List Td) (i : Int) (B : Nat) (e : Ending) (w' : World) : Prop :=
  (kidE ds i ≠ 0 ∧ e = .returned (.tuple #[.slice none 0 0, errN (kidE ds i)])) ∨
  (kidE ds i = 0 ∧ ∃ A c, e = .returned (.tuple #[.slice A (kidsL ds i.toNat).length c, .nilIface]) ∧ IntsF B w' A (kidsL ds i.toNat))
/-- What Kids hands back. -/
def KidsRes (ds : List Td) (i : Int) (e : Ending) (w' : World) : Prop :=
  (kidE ds i ≠ 0 ∧ e = .returned (.tuple #[.slice none 0 0, errN (kidE ds i)])) ∨
  (kidE ds i = 0 ∧ ∃ A c, e = .returned (.tuple #[.slice A (kidsL ds i.toNat).length c, .nilIface]) ∧ Ints w' A (kidsL ds i.toNat))
theorem KidsFar.res {ds : List Td} {i : Int} {B : Nat} {e : Ending} {w' : World} (h : KidsFar ds i B e w') : KidsRes ds i e w' := by
  rcases h with h | ⟨h, A, c, h1, h2⟩
  · exact .inl h
  · exact .inr ⟨h, A, c, h1, h2.ints⟩
end Go.Proofs.YtmbeamcjpidnjaaGreatDoor
namespace Go.Proofs.YtmbeamcjpidnjaaGreatDoor
open Go Go.RowKit

/-- Texts as long as any that comes in. -/
def Few9 (ds : List Td) : Prop := ∀ x ∈ ds, x.tx.size ≤ 140737488351232
theorem Few8.nine {ds : List Td} (h : Few8 ds) : Few9 ds := fun x hx => Nat.le_trans (h x hx) (by decide)

set_option maxRecDepth 100000 in
set_option maxHeartbeats 1000000 in
theorem tMany_any (x : Td) (w : World) : Calls Tryz.prog 155 #[tdV x] w fun e w' => e = .returned (.int .i64 (kdZ x)) ∧ Below w.heap.size w w' := by
  obtain ⟨op, tx, n⟩ := x
  have hb : ∀ O : Obj, Below w.heap.size w (w.alloc O) := fun O => (Below.refl _ w).alloc (Nat.le_refl _) O
  by_cases h3 : op = 3
  · subst h3
    go_enter Tryz.func155, Tryz.ntmps155
    go_wp2
    go_ret
    exact ⟨by simp [kdZ], hb _⟩
  by_cases h4 : op = 4
  · subst h4
    go_enter Tryz.func155, Tryz.ntmps155
    go_wp2
    go_ret
    exact ⟨by simp [kdZ], hb _⟩
  by_cases h5 : op = 5
  · subst h5
    go_enter Tryz.func155, Tryz.ntmps155
    go_wp2
    go_ret
    exact ⟨by simp [kdZ, kdT], hb _⟩
  by_cases h6 : op = 6
  · subst h6
    go_enter Tryz.func155, Tryz.ntmps155
    go_wp2
    go_ret
    exact ⟨by simp [kdZ, kdT], hb _⟩
  by_cases h7 : op = 7
  · subst h7
    go_enter Tryz.func155, Tryz.ntmps155
    go_wp2
    go_ret
    exact ⟨by simp [kdZ, kdT], hb _⟩
  by_cases h8 : op = 8
  · subst h8
    go_enter Tryz.func155, Tryz.ntmps155
    go_wp2
    go_ret
    exact ⟨by simp [kdZ, kdT], hb _⟩
  have HE : Hid (kdZ ⟨op, tx, n⟩ = 0) := by show kdZ ⟨op, tx, n⟩ = 0; simp [kdZ, kdT, h3, h4, h5, h6, h7, h8]
  have g3 : (op == 3) = false := by simp [h3]
  have g4 : (op == 4) = false := by simp [h4]
  have g5 : (op == 5) = false := by simp [h5]
  have g6 : (op == 6) = false := by simp [h6]
  have g7 : (op == 7) = false := by simp [h7]
  have g8 : (op == 8) = false := by simp [h8]
  clear h3 h4 h5 h6 h7 h8
  go_enter Tryz.func155, Tryz.ntmps155
  go_wp2
  go_ret
  exact ⟨by rw [HE.out]; rfl, hb _⟩
theorem tMany_ok (x : Td) (h : nodT x = 0) (w : World) : Calls Tryz.prog 155 #[.agg #[.int .i64 x.op, .string x.tx, .int .i64 x.n]] w fun e w' => e = .returned (.int .i64 (kdT x : Int)) ∧ Below w.heap.size w w' := by
  have := tMany_any x w
  rw [kdZ_ok h] at this
  exact this

/-- What endOf tells. -/
def EndR (o : Option Nat) (j : Nat) (b : Bool) : Prop := o = if b = true then some j else none
def EndRes (ds : List Td) (i : Nat) (e : Ending) : Prop := ∃ (j : Nat) (b : Bool), e = .returned (.tuple #[.int .i64 (j : Int), .bool b]) ∧ EndR (endT ds i 1) j b
theorem EndR.yes {o : Option Nat} {j : Nat} (h : o = some j) : EndR o j true := h
theorem EndR.no {o : Option Nat} {j : Nat} (h : o = none) : EndR o j false := h
set_option maxRecDepth 100000 in
set_option maxHeartbeats 2000000 in
theorem tEndOf_any (ds : List Td) (a : Option Addr) (cap : Nat) (hl : ds.length ≤ 40) (hk : ∀ x ∈ ds, nodT x = 0) (i : Nat) (hi : i ≤ ds.length) (w : World) (hN : Tds w a ds) :
    Calls Tryz.prog 121 #[.slice a ds.length cap, .int .i64 i] w fun e w' => EndRes ds i e ∧ Below w.heap.size w w' := by
  have HN : Hid (Tds w a ds) := hN
  have HK : Hid (∀ x ∈ ds, nodT x = 0) := hk
  clear hN hk
  go_enter Tryz.func121, Tryz.ntmps121
  go_wp2
  go_loopw [1, 6] (fun z m wr => Below w.heap.size w wr ∧ ∃ k q : Nat, k ≤ ds.length ∧ q ≤ 1 + 6 * k ∧ z = .int .i64 (k : Int) ∧ m = .int .i64 (q : Int) ∧ endT ds i 1 = endT ds k q) (fun z _ _ => ds.length - (intOf z).toNat)
  case atStart => exact ⟨Below.refl _ _, i, 1, hi, by omega, rfl, rfl, rfl⟩
  case round =>
    obtain ⟨hbr, k, q, hk1, hq, rfl, rfl, he⟩ := hrel
    have HE : Hid (endT ds i 1 = endT ds k q) := he
    have HBR : Hid (Below w.heap.size w wr) := hbr
    clear he hbr
    by_cases h0 : q = 0
    · subst h0
      have HZ : Hid (endT ds i 1 = some k) := by
        show _ = _
        rw [HE.out, endT_zero]
      go_wp2
      go_ret2
      exact ⟨⟨k, true, rfl, EndR.yes HZ.out⟩, HBR.out⟩
    · obtain ⟨p, rfl⟩ : ∃ p, q = p + 1 := ⟨q - 1, by omega⟩
      have hpc : ((p + 1 : Nat) : Int) = (p : Int) + 1 := by omega
      have hpi : (0 : Int) < (p : Int) + 1 := by omega
      have hpe : ((p : Int) + 1 == 0) = false := beq_false_of_ne (by omega)
      by_cases hlt : k < ds.length
      · have hki : (k : Int) < (ds.length : Int) := by omega
        obtain ⟨b, o, ea, hb, c1, c2, c3⟩ := (HN.out.below HBR.out) k hlt
        subst ea
        have hkd := kdT_le (HK.out _ (List.getElem_mem hlt))
        have HM : Hid (∀ W : World, Calls Tryz.prog 155 #[.agg #[.int .i64 ds[k].op, .string ds[k].tx, .int .i64 ds[k].n]] W fun e w' => e = .returned (.int .i64 (kdT ds[k] : Int)) ∧ Below W.heap.size W w') := fun W => tMany_ok _ (HK.out _ (List.getElem_mem hlt)) W
        have HS : Hid (endT ds i 1 = endT ds (k + 1) (kdT ds[k] + p)) := by
          show _ = _
          rw [HE.out, endT_step ds k p hlt]
        generalize kdT ds[k] = d at hkd HM HS
        generalize ds[k].op = xo at c1 HM
        generalize ds[k].tx = xt at c2 HM
        generalize ds[k].n = xn at c3 HM
        rw [hpc]
        clear h0 hpe hpc
        go_wp2_with fail
        refine (HM.out _).mono ?_
        rintro e w2 ⟨rfl, b2⟩
        have HB2 : Hid (Below w.heap.size w w2) := belowT HBR.out (Nat.le_refl _) b2
        clear b2 c1 c2 c3
        go_wp2
        go_roundw
        case rel => exact ⟨HB2.out, k + 1, d + p, by omega, by omega, by go_num, by go_num, HS.out⟩
        case measure => simp [intOf]; omega
      · have hki : ¬ (k : Int) < (ds.length : Int) := by omega
        have HZ : Hid (endT ds i 1 = none) := by
          show _ = _
          rw [HE.out, endT_out ds k p (by omega)]
        rw [hpc]
        clear h0 hpc
        go_wp2
        go_ret2
        exact ⟨⟨k, false, rfl, EndR.no HZ.out⟩, HBR.out⟩
theorem tEndOf_some {ds : List Td} {a : Option Addr} {cap : Nat} (hl : ds.length ≤ 40) (hk : ∀ x ∈ ds, nodT x = 0) {i j : Nat} (hi : i ≤ ds.length) {w : World} (hN : Tds w a ds) (h : endT ds i 1 = some j) :
    Calls Tryz.prog 121 #[.slice a ds.length cap, .int .i64 i] w fun e w' => e = .returned (.tuple #[.int .i64 (j : Int), .bool true]) ∧ Below w.heap.size w w' := by
  refine (tEndOf_any ds a cap hl hk i hi w hN).mono ?_
  rintro e w' ⟨⟨k, b, rfl, he⟩, hb⟩
  unfold EndR at he
  rw [h] at he
  cases b with
  | false => cases he
  | true => cases he; exact ⟨rfl, hb⟩

set_option maxRecDepth 100000 in
theorem tds_tail {w : World} {a : Option Addr} {c : Nat} {x : Td} {r : List Td} (h : Tds w a (x :: r)) (hc : r.length + 1 ≤ c) :
    ∃ A, (∀ W : World, (Instr.slice 40 (.slice a (r.length + 1) c) (some (.int .i64 1)) none none).run Tryz.prog W = .ok (.slice A r.length (c - 1)) W) ∧ Tds w A r := by
  obtain ⟨b, o, rfl, hb, _, _, _⟩ := h 0 (by simp)
  refine ⟨if c = 1 then some ⟨b, o, none⟩ else some ⟨b, o + 3, none⟩, fun W => ?_, ?_⟩
  · have h1 := run_slice_l (P := Tryz.prog) W 40 (some ⟨b, o, none⟩) (r.length + 1) c Tryz.underlying40 .i64 1 (by omega) (by omega)
    rw [h1]
    have hz : (sizeOf (Tryz.prog.elem 40)).run Tryz.prog W = .ok 3 W := by kernel_rfl
    rw [hz]
    have ha : (⟨b, o, none⟩ : Addr).add 3 = ⟨b, o + 3, none⟩ := rfl
    simp [Result.andThen, sliced, ha]
  · by_cases e : c = 1
    · have : r = [] := List.eq_nil_of_length_eq_zero (by omega)
      subst this
      exact fun i hi => by simp at hi
    · rw [if_neg e]
      intro i hi
      obtain ⟨b', o', e1, hb', d1, d2, d3⟩ := h (i + 1) (by simp; omega)
      cases e1
      rw [show o + (i + 1) * 3 = o + 3 + i * 3 by omega] at d1 d2 d3
      exact ⟨b, o + 3, rfl, hb, d1, d2, d3⟩
theorem op_in {x : Td} (h : nodT x = 0) : 1 ≤ x.op ∧ x.op ≤ 9 := by
  unfold nodT at h
  split at h
  · cases h
  · omega
/-- Nodes are just one statement. -/
def statB (ds : List Td) : Bool := decide (endT ds 0 1 = some ds.length) && topT ds
theorem statB_nil : statB [] = false := by
  have : endT [] 0 1 = none := endT_out _ _ _ (Nat.le_refl _)
  simp [statB, this]
theorem treeF_stat {ds : List Td} (hl : ds.length ≤ 40) (ha : ∀ x ∈ ds, nodT x = 0) : treeF ds = if statB ds = true then 0 else 2 := by
  rw [treeF_end hl ha]
  simp only [statB, Bool.and_eq_true, decide_eq_true_eq]

set_option maxRecDepth 100000 in
set_option maxHeartbeats 4000000 in
theorem tStat_any (ds : List Td) (a : Option Addr) (cap : Nat) (hl : ds.length ≤ 40) (hk : ∀ x ∈ ds, nodT x = 0) (w : World) (hc : ds.length ≤ cap) (hN : Tds w a ds) :
    Calls Tryz.prog 83 #[.slice a ds.length cap] w fun e w' => e = .returned (.bool (statB ds)) ∧ Below w.heap.size w w' := by
  cases ds with
  | nil =>
    rw [statB_nil]
    clear hk hN hl hc
    go_enter Tryz.func83, Tryz.ntmps83
    go_wp2
    go_ret
    exact ⟨rfl, Below.refl _ _⟩
  | cons x r =>
    have HN : Hid (Tds w a (x :: r)) := hN
    have HK : Hid (∀ y ∈ x :: r, nodT y = 0) := hk
    obtain ⟨b, o, ea, hb, c1, _, _⟩ := hN 0 (by simp)
    have hx := op_in (hk x (by simp))
    have hlen : (x :: r).length = r.length + 1 := rfl
    rw [hlen] at hl hc ⊢
    have hp : ¬ (r.length : Int) + 1 = 0 := by omega
    have hpb : ((r.length : Int) + 1 == 0) = false := beq_false_of_ne hp
    have hp0 : (0 : Int) < (r.length : Int) + 1 := by omega
    have c1' : w.cell? ⟨b, o, none⟩ = some (.int .i64 x.op) := by simpa using c1
    clear c1 hN
    subst ea
    by_cases h7 : 7 ≤ x.op
    · have HX : Hid (exB x.op = false) := by show exB x.op = false; simp [exB]; omega
      obtain ⟨A, hsl, hT⟩ := tds_tail HN.out hc
      have HT : Hid (Tds w A r) := hT
      clear hT
      generalize hxo : x.op = xo at c1' HX
      go_enter Tryz.func83, Tryz.ntmps83
      go_wp2_with fail
      refine (tExpr_any xo _).mono ?_
      rintro e w2 ⟨rfl, rfl⟩
      rw [HX.out]
      go_wp2_with fail
      go_loopw [20] (fun i wr => Below w.heap.size w wr ∧ ∃ k : Nat, k ≤ r.length ∧ i = .int .i64 (k : Int) ∧ ∀ y ∈ r.take k, y.op < 7) (fun i _ => r.length - (intOf i).toNat)
      case atStart => exact ⟨Below.refl _ _, 0, Nat.zero_le _, rfl, by simp⟩
      case round =>
        obtain ⟨hbr, k, hk1, rfl, hall⟩ := hrel
        have HBR : Hid (Below w.heap.size w wr) := hbr
        have HAL : Hid (∀ O : Obj, Below w.heap.size w (wr.alloc O)) := fun O => hbr.alloc hbr.size O
        clear hbr
        have HA : Hid (∀ y ∈ r.take k, y.op < 7) := hall
        clear hall hsl
        by_cases hlt : k < r.length
        · have hki : (k : Int) < (r.length : Int) := by omega
          obtain ⟨b1, o1, e1, hb1, d1, d2, d3⟩ := (HT.out.below HBR.out) k hlt
          subst e1
          have hy := op_in (HK.out r[k] (by simp))
          by_cases hyt : r[k].op < 7
          · have HY : Hid (exB r[k].op = true) := by show exB r[k].op = true; simp [exB]; omega
            have HA2 : Hid (∀ y ∈ r.take (k + 1), y.op < 7) := by
              intro y hyy
              rw [List.take_succ_eq_append_getElem hlt] at hyy
              rcases List.mem_append.1 hyy with hyy | hyy
              · exact HA.out y hyy
              · simp at hyy; subst hyy; exact hyt
            clear hyt hy
            generalize r[k].op = yo at d1 HY
            generalize r[k].tx = yt at d2
            generalize r[k].n = yn at d3
            go_wp2_with fail
            refine (tExpr_any yo _).mono ?_
            rintro e w2 ⟨rfl, rfl⟩
            rw [HY.out]
            go_wp2
            go_roundw
            case rel => exact ⟨HAL.out _, k + 1, by omega, by go_num, HA2.out⟩
            case measure => simp [intOf]; omega
          · have HY : Hid (exB r[k].op = false) := by show exB r[k].op = false; simp [exB]; omega
            have HF : Hid (statB (x :: r) = false) := by
              show _ = _
              have : topT (x :: r) = false := by
                simp only [topT, Bool.and_eq_false_iff, List.all_eq_false]
                exact .inr ⟨r[k], List.getElem_mem hlt, by simp [hyt]⟩
              simp [statB, this]
            clear hyt hy
            generalize r[k].op = yo at d1 HY
            generalize r[k].tx = yt at d2
            generalize r[k].n = yn at d3
            go_wp2_with fail
            refine (tExpr_any yo _).mono ?_
            rintro e w2 ⟨rfl, rfl⟩
            rw [HY.out]
            go_wp2
            go_ret
            exact ⟨by rw [HF.out]; rfl, HAL.out _⟩
        · have hki : ¬ (k : Int) < (r.length : Int) := by omega
          have HTOP : Hid (topT (x :: r) = true) := by
            show _ = _
            simp only [topT, Bool.and_eq_true, decide_eq_true_eq, List.all_eq_true]
            refine ⟨by omega, fun y hy => HA.out y ?_⟩
            rw [List.take_of_length_le (by omega)]
            exact hy
          have HEO : Hid (Calls Tryz.prog 121 #[.slice (some ⟨b, o, none⟩) (r.length + 1) cap, .int .i64 0] wr fun e w' => EndRes (x :: r) 0 e ∧ Below wr.heap.size wr w') := tEndOf_any (x :: r) _ cap hl HK.out 0 (Nat.zero_le _) wr (HN.out.below HBR.out)
          go_wp2_with fail
          refine HEO.out.mono ?_
          rintro e w2 ⟨⟨j, bb, rfl, he⟩, b2'⟩
          have b2 := belowT HBR.out (Nat.le_refl _) b2'
          clear b2'
          cases bb with
          | false =>
            have he : endT (x :: r) 0 1 = none := he
            have HF : Hid (statB (x :: r) = false) := by
              show _ = _
              simp [statB, he]
            clear he
            go_wp2
            go_ret
            exact ⟨by rw [HF.out]; rfl, b2⟩
          | true =>
            have he : endT (x :: r) 0 1 = some j := he
            by_cases hj : (j : Int) = (r.length : Int) + 1
            · have HF : Hid (statB (x :: r) = true) := by
                show _ = _
                have : j = r.length + 1 := by omega
                simp [statB, he, this, HTOP.out]
              have hjb : ((j : Int) == (r.length : Int) + 1) = true := beq_iff_eq.2 hj
              clear he hj
              go_wp2
              go_ret
              exact ⟨by rw [HF.out]; rfl, b2⟩
            · have HF : Hid (statB (x :: r) = false) := by
                show _ = _
                have : ¬ j = r.length + 1 := by omega
                simp [statB, he, this]
              have hjb : ((j : Int) == (r.length : Int) + 1) = false := beq_false_of_ne hj
              clear he hj
              go_wp2
              go_ret
              exact ⟨by rw [HF.out]; rfl, b2⟩
    · have HX : Hid (exB x.op = true) := by show exB x.op = true; simp [exB]; omega
      have HF : Hid (statB (x :: r) = false) := by
        show _ = _
        have : topT (x :: r) = false := by simp [topT, h7]
        simp [statB, this]
      generalize x.op = xo at c1' HX
      go_enter Tryz.func83, Tryz.ntmps83
      go_wp2_with fail
      refine (tExpr_any xo _).mono ?_
      rintro e w2 ⟨rfl, rfl⟩
      rw [HX.out]
      go_wp2
      go_ret
      exact ⟨by rw [HF.out]; rfl, Below.refl _ _⟩

set_option maxRecDepth 100000 in
set_option maxHeartbeats 2000000 in
theorem tCheck_nine (ds : List Td) (a : Option Addr) (cap : Nat) (w : World) (hc : ds.length ≤ cap) (hN : Tds w a ds) (hsz : Few9 ds) : Calls Tryz.prog 49 #[.slice a ds.length cap] w fun e w' => e = .returned (errN (treeF ds)) ∧ Below w.heap.size w w' := by
  have HN : Hid (Tds w a ds) := hN
  have HSZ : Hid (Few9 ds) := hsz
  clear hN hsz
  by_cases h4 : 40 < (ds.length : Int)
  · rw [treeF_long (by omega), errN_3]
    go_enter Tryz.func49, Tryz.ntmps49
    go_wp2
    go_ret
    exact ⟨rfl, Below.refl _ _⟩
  · have hl : ds.length ≤ 40 := by omega
    go_enter Tryz.func49, Tryz.ntmps49
    go_wp2
    go_loopw [12] (fun i wr => Below w.heap.size w wr ∧ ∃ k : Nat, k ≤ ds.length ∧ i = .int .i64 k ∧ ∀ x ∈ ds.take k, nodT x = 0) (fun i _ => ds.length - (intOf i).toNat)
    case atStart => exact ⟨Below.refl _ _, 0, Nat.zero_le _, rfl, by simp⟩
    case round =>
      obtain ⟨hB, k, hk, rfl, hall⟩ := hrel
      have HA : Hid (∀ x ∈ ds.take k, nodT x = 0) := hall
      have HM : Hid (Tds wr a ds) := HN.out.below hB
      clear hall
      by_cases hlt : k < ds.length
      · obtain ⟨b, o, ea, hb, c1, c2, c3⟩ := HM.out k hlt
        have htx := HSZ.out _ (List.getElem_mem hlt)
        subst ea
        by_cases h0 : nodT ds[k] = 0
        · have H0 : Hid (nodT ds[k] = 0) := h0
          clear h0
          go_wp2_with fail
          refine (tNode_any ds[k] _ htx).mono ?_
          rintro e w2 ⟨rfl, hb2⟩
          rw [H0.out, errN_0]
          have hB2 := belowA hB (Nat.le_refl _) hb2
          clear hb2
          go_wp2
          go_roundw
          case rel => exact ⟨hB2, k + 1, by omega, by go_num, take_moreT hlt HA.out H0.out⟩
          case measure => simp [intOf]; omega
        · have H0 : Hid (nodT ds[k] ≠ 0) := h0
          clear h0
          go_wp2_with fail
          refine (tNode_any ds[k] _ htx).mono ?_
          rintro e w2 ⟨rfl, hb2⟩
          rw [errN_ne H0.out]
          have hB2 := belowA hB (Nat.le_refl _) hb2
          clear hb2
          go_wp2
          go_ret
          refine ⟨?_, hB2⟩
          rw [treeF_node hl hlt HA.out H0.out, errN_ne H0.out]
          rfl
      · have HK : Hid (∀ x ∈ ds, nodT x = 0) := by
          have := HA.out
          rw [List.take_of_length_le (by omega)] at this
          exact this
        have HF : Hid (treeF ds = if statB ds = true then 0 else 2) := treeF_stat hl HK.out
        have HS : Hid (Calls Tryz.prog 83 #[.slice a ds.length cap] wr fun e w' => e = .returned (.bool (statB ds)) ∧ Below wr.heap.size wr w') := tStat_any ds a cap hl HK.out wr hc HM.out
        generalize statB ds = sb at HF HS
        go_wp2_with fail
        refine HS.out.mono ?_
        rintro e w2 ⟨rfl, b2⟩
        have B2 := belowT hB (Nat.le_refl _) b2
        clear b2
        cases sb with
        | true =>
          go_wp2
          go_ret
          exact ⟨by rw [HF.out]; rfl, B2⟩
        | false =>
          go_wp2
          go_ret
          exact ⟨by rw [HF.out]; rfl, B2⟩
theorem tCheck_any (ds : List Td) (a : Option Addr) (cap : Nat) (w : World) (hc : ds.length ≤ cap) (hN : Tds w a ds) (hsz : Few8 ds) : Calls Tryz.prog 49 #[.slice a ds.length cap] w fun e w' => e = .returned (errN (treeF ds)) ∧ Below w.heap.size w w' := tCheck_nine ds a cap w hc hN hsz.nine
end Go.Proofs.YtmbeamcjpidnjaaGreatDoor
