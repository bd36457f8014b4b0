/- Some texts as one: WayR, WayL, WayL1, WayL2, WayL6, WayL7, WayL8, WayL9, WayLZ. -/
import Derived.Test.YtfabfclbnekleaaDoorNodB
import Derived.Test.YtfabfclbnekleaaDoorDocRs
import Derived.Test.YtfabfclbnekleaaDoorWayS
import Derived.Test.YtfabfclbnekleaaDoorIntB
import Derived.BigQuiet
import Derived.Lib.Walk
import Derived.Shelf.RegionOpenPlain
import Derived.Test.YtfabfclbnekleaaDoorFlatRs
import Derived.Deep.DeepCutAuto
import Derived.Deep.QuietTactic
namespace Go.Proofs.YtfabfclbnekleaaDoor
open Go Go.RowKit

/-- The layer's four cells. -/
def LyAt (B b : Nat) (d : Value) (v : Value) (s : ByteArray) (e : Int) (w : World) : Prop :=
  B ≤ b ∧ b < w.heap.size ∧ w.cell? ⟨b, 0, none⟩ = some d ∧ w.cell? ⟨b, 1, none⟩ = some v ∧ w.cell? ⟨b, 2, none⟩ = some (.string s) ∧ w.cell? ⟨b, 3, none⟩ = some (.int .i64 e)
    ∧ w.frozen? ⟨b, 1, none⟩ = false ∧ w.frozen? ⟨b, 2, none⟩ = false ∧ w.frozen? ⟨b, 3, none⟩ = false
theorem LyAt.below {B b : Nat} {d v : Value} {s : ByteArray} {e : Int} {w w' : World} (h : LyAt B b d v s e w) (hb : Below w.heap.size w w') : LyAt B b d v s e w' := by
  obtain ⟨h0, h1, c0, c1, c2, c3, f1, f2, f3⟩ := h
  obtain ⟨hc, hf⟩ := bcell hb
  have := hb.size
  exact ⟨h0, by omega, (hc _ _ h1).trans c0, (hc _ _ h1).trans c1, (hc _ _ h1).trans c2, (hc _ _ h1).trans c3, (hf _ _ h1).trans f1, (hf _ _ h1).trans f2, (hf _ _ h1).trans f3⟩
theorem LyAt.alloc {B b : Nat} {d v : Value} {s : ByteArray} {e : Int} {w : World} (h : LyAt B b d v s e w) (O : Obj) : LyAt B b d v s e (w.alloc O) := h.below ((Below.refl _ _).alloc (Nat.le_refl _) _)
theorem LyAt.drew {B b : Nat} {d v : Value} {s : ByteArray} {e : Int} {w : World} (h : LyAt B b d v s e w) : LyAt B b d v s e w.drew := h
theorem size_set (w : World) (p : Addr) (v : Value) : (w.setCell p v).heap.size = w.heap.size := by simp [World.setCell]
theorem LyAt.text {B b : Nat} {d v : Value} {s : ByteArray} {e : Int} {w : World} (h : LyAt B b d v s e w) (s' : ByteArray) : LyAt B b d v s' e (w.setCell ⟨b, 2, none⟩ (.string s')) := by
  obtain ⟨h0, h1, c0, c1, c2, c3, f1, f2, f3⟩ := h
  exact ⟨h0, by rw [size_set]; exact h1, (cso (by omega)).trans c0, (cso (by omega)).trans c1, css c2, (cso (by omega)).trans c3, csf.trans f1, csf.trans f2, csf.trans f3⟩
theorem LyAt.ways {B b : Nat} {d v : Value} {s : ByteArray} {e : Int} {w : World} (h : LyAt B b d v s e w) (v' : Value) : LyAt B b d v' s e (w.setCell ⟨b, 1, none⟩ v') := by
  obtain ⟨h0, h1, c0, c1, c2, c3, f1, f2, f3⟩ := h
  exact ⟨h0, by rw [size_set]; exact h1, (cso (by omega)).trans c0, css c1, (cso (by omega)).trans c2, (cso (by omega)).trans c3, csf.trans f1, csf.trans f2, csf.trans f3⟩
theorem LyAt.fault {B b : Nat} {d v : Value} {s : ByteArray} {e : Int} {w : World} (h : LyAt B b d v s e w) (e' : Int) : LyAt B b d v s e' (w.setCell ⟨b, 3, none⟩ (.int .i64 e')) := by
  obtain ⟨h0, h1, c0, c1, c2, c3, f1, f2, f3⟩ := h
  exact ⟨h0, by rw [size_set]; exact h1, (cso (by omega)).trans c0, (cso (by omega)).trans c1, (cso (by omega)).trans c2, css c3, csf.trans f1, csf.trans f2, csf.trans f3⟩

set_option maxRecDepth 100000 in
set_option maxHeartbeats 1000000 in
theorem blanks_any (n : Nat) (hn : n ≤ 4000) (w : World) : Calls Tryd.prog 71 #[.int .i64 n] w fun e w' => e = .returned (.string ⟨(List.replicate n 32).toArray⟩) ∧ w = w' := by
  go_enter Tryd.func71, Tryd.ntmps71
  go_wp2
  go_loopw [3, 4] (fun s i wr => wr = w ∧ ∃ (k : Nat) (t : ByteArray), k ≤ n ∧ i = .int .i64 k ∧ s = .string t ∧ t.data.toList = List.replicate k 32) (fun _ i _ => n - (intOf i).toNat)
  case atStart => exact ⟨rfl, 0, ⟨#[]⟩, Nat.zero_le _, rfl, rfl, rfl⟩
  case round =>
    obtain ⟨rfl, k, t, hk, rfl, rfl, ht⟩ := hrel
    have hts : t.size ≤ 4000 := by rw [← size_list, ht, List.length_replicate]; omega
    have HT : Hid (t.data.toList = List.replicate k 32) := ht
    clear ht
    by_cases hlt : k < n
    · go_wp2
      go_roundw
      case rel =>
        refine ⟨by trivial, k + 1, _, by omega, by go_num, rfl, ?_⟩
        simp [HT.out, List.replicate_succ']
      case measure => simp [intOf]; omega
    · obtain rfl : k = n := by omega
      have e : t = ⟨(List.replicate k 32).toArray⟩ := bytes_inj (by rw [HT.out])
      go_wp2
      go_ret
      exact ⟨by rw [← e]; rfl, rfl⟩

set_option maxRecDepth 100000 in
set_option maxHeartbeats 1000000 in
theorem choose_none {B b : Nat} {d : Value} {wa : Option Addr} {wc : Nat} {s : ByteArray} {w : World} (h : LyAt B b d (.slice wa 0 wc) s 0 w) :
    Calls Tryd.prog 72 #[.pointer (some ⟨b, 0, none⟩)] w fun e w' => e = .returned (.int .i64 0) ∧ LyAt B b d (.slice wa 0 wc) s 2 w' ∧ Below B w w' := by
  have HL : Hid (LyAt B b d (.slice wa 0 wc) s 0 w) := h
  obtain ⟨h0, h1, c0, c1, c2, c3, f1, f2, f3⟩ := h
  go_enter Tryd.func72, Tryd.ntmps72
  go_wp2
  go_ret
  exact ⟨rfl, HL.out.fault 2, (Below.refl _ _).setCell (p := ⟨b, 3, none⟩) h0 _⟩

set_option maxRecDepth 100000 in
set_option maxHeartbeats 1000000 in
theorem choose_some {B b : Nat} {d : Value} {wa : Option Addr} {wc : Nat} {s : ByteArray} {w : World} (c : Int) (ws : List Int) (h : LyAt B b d (.slice wa (ws.length + 1) wc) s 0 w) (hI : IntsB B w wa (c :: ws)) (hc : ws.length + 1 ≤ wc) :
    Calls Tryd.prog 72 #[.pointer (some ⟨b, 0, none⟩)] w fun e w' => e = .returned (.int .i64 c) ∧ (∃ wa' wc', LyAt B b d (.slice wa' ws.length wc') s 0 w' ∧ IntsB B w' wa' ws ∧ ws.length ≤ wc') ∧ Below B w w' := by
  have HL : Hid (LyAt B b d (.slice wa (ws.length + 1) wc) s 0 w) := h
  obtain ⟨b0, o0, ea, hlt, d1⟩ := hI 0 (by simp)
  subst ea
  have HS : Hid (IntsB B w (if wc = 1 then some ⟨b0, o0, none⟩ else some ⟨b0, o0 + 1, none⟩) ws) := hI.slid hc
  obtain ⟨h0, h1, c0, c1, c2, c3, f1, f2, f3⟩ := h
  simp only [Nat.add_zero, List.getElem_cons_zero] at d1
  have hr1 : (1 : Int) ≤ (ws.length : Int) + 1 := by omega
  have hr0 : ((ws.length : Int) + 1 == 0) = false := beq_eq_false_iff_ne.2 (by omega)
  have hbb : b0 ≠ b := by omega
  clear hI
  by_cases hw : wc = 1
  · have HW : Hid (wc = 1) := hw
    have hsl := HS.out
    rw [if_pos hw] at hsl
    have HS1 : Hid (IntsB B w (some ⟨b0, o0, none⟩) ws) := hsl
    clear hsl
    go_enter Tryd.func72, Tryd.ntmps72
    go_wp2
    go_ret
    have hB : ∀ v, Below B w (w.setCell ⟨b, 1, none⟩ v) := fun v => (Below.refl _ _).setCell (p := ⟨b, 1, none⟩) h0 _
    exact ⟨rfl, ⟨_, _, HL.out.ways _, HS1.out.below (hB _), by omega⟩, hB _⟩
  · have hsl := HS.out
    rw [if_neg hw] at hsl
    have HS1 : Hid (IntsB B w (some ⟨b0, o0 + 1, none⟩) ws) := hsl
    clear hsl
    go_enter Tryd.func72, Tryd.ntmps72
    go_wp2
    go_ret
    have hB : ∀ v, Below B w (w.setCell ⟨b, 1, none⟩ v) := fun v => (Below.refl _ _).setCell (p := ⟨b, 1, none⟩) h0 _
    exact ⟨rfl, ⟨_, _, HL.out.ways _, HS1.out.below (hB _), by omega⟩, hB _⟩
end Go.Proofs.YtfabfclbnekleaaDoor
namespace Go.Proofs.YtfabfclbnekleaaDoor
open Go Go.RowKit

/-- What Lay leaves. -/
def Laid (B b : Nat) (dv : Value) (res : Except Int (List UInt8 × List Int)) (s0 : ByteArray) (w' : World) : Prop :=
  match res with
  | .ok (u, ws') => ∃ wa' wc' s', s'.data.toList = s0.data.toList ++ u ∧ LyAt B b dv (.slice wa' ws'.length wc') s' 0 w' ∧ IntsB B w' wa' ws' ∧ ws'.length ≤ wc'
  | .error e => e ≠ 0 ∧ ∃ v' s', LyAt B b dv v' s' e w'

/-- Lay lays such nodes so, wherever they stand, by whatever choices. -/
def LayOk (B b : Nat) (ds : List Nd) (a : Option Addr) (cap : Nat) (A : List Nd) (f : Nat → List Int → Except Int (List UInt8 × List Int)) : Prop :=
  ∀ (i : Nat) (r : List Nd) (deep : Nat) (ws : List Int) (wa : Option Addr) (wc : Nat) (s : ByteArray) (w : World), ds.drop i = A ++ r → NodsB B w a ds → IntsB B w wa ws → ws.length ≤ wc → LyAt B b (.slice a ds.length cap) (.slice wa ws.length wc) s 0 w →
    deep + 8 * A.length ≤ 3300 → s.size + 4000 * A.length ≤ 1000000000 →
    Calls Tryd.prog 49 #[.pointer (some ⟨b, 0, none⟩), .int .i64 i, .int .i64 deep] w fun e w' => e = .returned (.tuple #[]) ∧ Laid B b (.slice a ds.length cap) (f deep ws) s w' ∧ Below B w w'

theorem LyAt.bsize {B b : Nat} {d v : Value} {s : ByteArray} {e : Int} {w : World} (h : LyAt B b d v s e w) : B ≤ w.heap.size := by
  obtain ⟨h0, h1, _⟩ := h
  omega
theorem LyAt.grown {B b : Nat} {d v : Value} {s : ByteArray} {e : Int} {w w' : World} (_h : LyAt B b d v s e w) (hb : Below w.heap.size w w') : Below B w w' := by
  have := _h.bsize
  exact hb.mono this

set_option maxRecDepth 100000 in
set_option maxHeartbeats 1000000 in
/-- With a fault nothing is laid. -/
theorem lay_fault {B b : Nat} (ds : List Nd) (a : Option Addr) (cap : Nat) {v : Value} {s : ByteArray} {e : Int} (i : Nat) (deep : Int) (w : World) (hi : i < ds.length) (hN : NodsB B w a ds) (h : LyAt B b (.slice a ds.length cap) v s e w) (he : e ≠ 0) :
    Calls Tryd.prog 49 #[.pointer (some ⟨b, 0, none⟩), .int .i64 i, .int .i64 deep] w fun r w' => r = .returned (.tuple #[]) ∧ LyAt B b (.slice a ds.length cap) v s e w' ∧ Below B w w' := by
  have HL : Hid (LyAt B b (.slice a ds.length cap) v s e w) := h
  obtain ⟨b0, o0, ea, hlt, d1, d2, d3⟩ := hN i hi
  subst ea
  obtain ⟨h0, h1, c0, c1, c2, c3, f1, f2, f3⟩ := h
  have he' : (e != 0) = true := by simp [he]
  have hb0 : b0 < w.heap.size := by omega
  clear hN he
  go_enter Tryd.func49, Tryd.ntmps49
  go_wp2
  exact bodyPost_ret (v := .tuple #[]) (by simp [results, Tryd.results49, go_sem]) rfl ⟨rfl, HL.out.alloc _, (Below.refl _ _).alloc HL.out.bsize _⟩
end Go.Proofs.YtfabfclbnekleaaDoor
namespace Go.Proofs.YtfabfclbnekleaaDoor
open Go Go.RowKit

set_option maxRecDepth 100000 in
set_option maxHeartbeats 4000000 in
theorem lay_5 (B b : Nat) (ds : List Nd) (a : Option Addr) (cap : Nat) (tx : ByteArray) (n : Int) : LayOk B b ds a cap (⟨5, tx, n⟩ :: []) (fun _ ws => .ok ([], ws)) := by
  intro i r deep ws wa wc s w hd hN hI hwc hL hdeep hsz
  obtain ⟨hi, e1, e2⟩ := drop_head (x := ⟨5, tx, n⟩) (r := [] ++ r) hd
  obtain ⟨b0, o0, ea, hlt, d1, d2, d3⟩ := hN i hi
  subst ea
  rw [e1] at d1 d2 d3
  dsimp only at d1 d2 d3
  simp only [List.length_cons, List.length_nil] at hdeep hsz
  have HD : Hid (ds.drop (i + 1) = [] ++ r) := e2
  have HN : Hid (NodsB B w (some ⟨b0, o0, none⟩) ds) := hN
  have HI : Hid (IntsB B w wa ws) := hI
  have HL : Hid (LyAt B b (.slice (some ⟨b0, o0, none⟩) ds.length cap) (.slice wa ws.length wc) s 0 w) := hL
  have hbs := hL.bsize
  obtain ⟨h0, h1, c0, c1, c2, c3, f1, f2, f3⟩ := hL
  have hb0 : b0 < w.heap.size := by omega
  have HB : Hid (∀ O : Obj, Below B w (w.alloc O)) := fun O => (Below.refl _ w).alloc hbs O
  clear hd e1 e2 hN hI
  go_enter Tryd.func49, Tryd.ntmps49
  go_wp2
  go_end0
  exact ⟨rfl, ⟨wa, wc, s, by simp, HL.out.alloc _, HI.out.below (HB.out _), hwc⟩, HB.out _⟩

set_option maxRecDepth 100000 in
set_option maxHeartbeats 4000000 in
theorem lay_1 (B b : Nat) (ds : List Nd) (a : Option Addr) (cap : Nat) (tx : ByteArray) (n : Int) (ht : tx.size ≤ 20) : LayOk B b ds a cap (⟨1, tx, n⟩ :: []) (fun _ ws => .ok (tx.data.toList, ws)) := by
  intro i r deep ws wa wc s w hd hN hI hwc hL hdeep hsz
  obtain ⟨hi, e1, e2⟩ := drop_head (x := ⟨1, tx, n⟩) (r := [] ++ r) hd
  obtain ⟨b0, o0, ea, hlt, d1, d2, d3⟩ := hN i hi
  subst ea
  rw [e1] at d1 d2 d3
  dsimp only at d1 d2 d3
  simp only [List.length_cons, List.length_nil] at hdeep hsz
  have HD : Hid (ds.drop (i + 1) = [] ++ r) := e2
  have HN : Hid (NodsB B w (some ⟨b0, o0, none⟩) ds) := hN
  have HI : Hid (IntsB B w wa ws) := hI
  have HL : Hid (LyAt B b (.slice (some ⟨b0, o0, none⟩) ds.length cap) (.slice wa ws.length wc) s 0 w) := hL
  have hbs := hL.bsize
  obtain ⟨h0, h1, c0, c1, c2, c3, f1, f2, f3⟩ := hL
  have hb0 : b0 < w.heap.size := by omega
  have HB : Hid (∀ O : Obj, Below B w (w.alloc O)) := fun O => (Below.refl _ w).alloc hbs O
  clear hd e1 e2 hN hI
  go_enter Tryd.func49, Tryd.ntmps49
  go_wp2_with fail
  go_region
  all_goals
    go_wp2
    go_end0
    have HB2 : ∀ (O : Obj) (v : Value), Below B w ((w.setCell ⟨b, 2, none⟩ v).alloc O).drew := fun O v => Below.drew (((Below.refl B w).setCell (p := ⟨b, 2, none⟩) h0 _).alloc (by rw [size_set]; exact hbs) O)
    exact ⟨rfl, ⟨wa, wc, s ++ tx, by simp, LyAt.drew ((HL.out.text _).alloc _), HI.out.below (HB2 _ _), hwc⟩, HB2 _ _⟩
end Go.Proofs.YtfabfclbnekleaaDoor
namespace Go.Proofs.YtfabfclbnekleaaDoor
open Go Go.RowKit

set_option maxRecDepth 100000 in
set_option maxHeartbeats 4000000 in
theorem lay_2 (B b : Nat) (ds : List Nd) (a : Option Addr) (cap : Nat) (tx : ByteArray) (n : Int) : LayOk B b ds a cap (⟨2, tx, n⟩ :: []) (fun deep ws => .ok (10 :: List.replicate deep 32, ws)) := by
  intro i r deep ws wa wc s w hd hN hI hwc hL hdeep hsz
  obtain ⟨hi, e1, e2⟩ := drop_head (x := ⟨2, tx, n⟩) (r := [] ++ r) hd
  obtain ⟨b0, o0, ea, hlt, d1, d2, d3⟩ := hN i hi
  subst ea
  rw [e1] at d1 d2 d3
  dsimp only at d1 d2 d3
  simp only [List.length_cons, List.length_nil] at hdeep hsz
  have HD : Hid (ds.drop (i + 1) = [] ++ r) := e2
  have HN : Hid (NodsB B w (some ⟨b0, o0, none⟩) ds) := hN
  have HI : Hid (IntsB B w wa ws) := hI
  have HL : Hid (LyAt B b (.slice (some ⟨b0, o0, none⟩) ds.length cap) (.slice wa ws.length wc) s 0 w) := hL
  have hbs := hL.bsize
  obtain ⟨h0, h1, c0, c1, c2, c3, f1, f2, f3⟩ := hL
  have hb0 : b0 < w.heap.size := by omega
  have HB : Hid (∀ O : Obj, Below B w (w.alloc O)) := fun O => (Below.refl _ w).alloc hbs O
  clear hd e1 e2 hN hI
  have hb4 : deep ≤ 4000 := by omega
  have hbz : ((⟨(List.replicate deep 32).toArray⟩ : ByteArray)).size = deep := by rw [← size_list]; simp
  generalize hbk : (⟨(List.replicate deep 32).toArray⟩ : ByteArray) = bk at hbz
  have HBK : Hid (bk.data.toList = List.replicate deep 32) := (show _ = _ by rw [← hbk])
  have HK : Hid (∀ W : World, Calls Tryd.prog 71 #[.int .i64 deep] W fun e w' => e = .returned (.string bk) ∧ W = w') := fun W => by rw [← hbk]; exact blanks_any deep hb4 W
  have hbk4 : bk.size ≤ 4000 := by omega
  clear hbk hbz
  go_enter Tryd.func49, Tryd.ntmps49
  go_wp2_with fail
  go_region_with (go_at_call 71; refine (HK.out _).mono ?_; rintro e w' ⟨rfl, rfl⟩)
  all_goals
    go_wp2
    go_end0
    have HB2 : ∀ (O : Obj) (v : Value), Below B w ((w.setCell ⟨b, 2, none⟩ v).alloc O).drew := fun O v => Below.drew (((Below.refl B w).setCell (p := ⟨b, 2, none⟩) h0 _).alloc (by rw [size_set]; exact hbs) O)
    refine ⟨rfl, ?_, HB2 _ _⟩
    refine ⟨wa, wc, _, ?_, LyAt.drew ((HL.out.text _).alloc _), HI.out.below (HB2 _ _), hwc⟩
    simp [HBK.out]

set_option maxRecDepth 100000 in
set_option maxHeartbeats 4000000 in
theorem lay_3 (B b : Nat) (ds : List Nd) (a : Option Addr) (cap : Nat) (tx : ByteArray) (n : Int) : LayOk B b ds a cap (⟨3, tx, n⟩ :: []) (fun deep ws => .ok (10 :: List.replicate deep 32, ws)) := by
  intro i r deep ws wa wc s w hd hN hI hwc hL hdeep hsz
  obtain ⟨hi, e1, e2⟩ := drop_head (x := ⟨3, tx, n⟩) (r := [] ++ r) hd
  obtain ⟨b0, o0, ea, hlt, d1, d2, d3⟩ := hN i hi
  subst ea
  rw [e1] at d1 d2 d3
  dsimp only at d1 d2 d3
  simp only [List.length_cons, List.length_nil] at hdeep hsz
  have HD : Hid (ds.drop (i + 1) = [] ++ r) := e2
  have HN : Hid (NodsB B w (some ⟨b0, o0, none⟩) ds) := hN
  have HI : Hid (IntsB B w wa ws) := hI
  have HL : Hid (LyAt B b (.slice (some ⟨b0, o0, none⟩) ds.length cap) (.slice wa ws.length wc) s 0 w) := hL
  have hbs := hL.bsize
  obtain ⟨h0, h1, c0, c1, c2, c3, f1, f2, f3⟩ := hL
  have hb0 : b0 < w.heap.size := by omega
  have HB : Hid (∀ O : Obj, Below B w (w.alloc O)) := fun O => (Below.refl _ w).alloc hbs O
  clear hd e1 e2 hN hI
  have hb4 : deep ≤ 4000 := by omega
  have hbz : ((⟨(List.replicate deep 32).toArray⟩ : ByteArray)).size = deep := by rw [← size_list]; simp
  generalize hbk : (⟨(List.replicate deep 32).toArray⟩ : ByteArray) = bk at hbz
  have HBK : Hid (bk.data.toList = List.replicate deep 32) := (show _ = _ by rw [← hbk])
  have HK : Hid (∀ W : World, Calls Tryd.prog 71 #[.int .i64 deep] W fun e w' => e = .returned (.string bk) ∧ W = w') := fun W => by rw [← hbk]; exact blanks_any deep hb4 W
  have hbk4 : bk.size ≤ 4000 := by omega
  clear hbk hbz
  go_enter Tryd.func49, Tryd.ntmps49
  go_wp2_with fail
  go_region_with (go_at_call 71; refine (HK.out _).mono ?_; rintro e w' ⟨rfl, rfl⟩)
  all_goals
    go_wp2
    go_end0
    have HB2 : ∀ (O : Obj) (v : Value), Below B w ((w.setCell ⟨b, 2, none⟩ v).alloc O).drew := fun O v => Below.drew (((Below.refl B w).setCell (p := ⟨b, 2, none⟩) h0 _).alloc (by rw [size_set]; exact hbs) O)
    refine ⟨rfl, ?_, HB2 _ _⟩
    refine ⟨wa, wc, _, ?_, LyAt.drew ((HL.out.text _).alloc _), HI.out.below (HB2 _ _), hwc⟩
    simp [HBK.out]

set_option maxRecDepth 100000 in
set_option maxHeartbeats 4000000 in
theorem lay_4 (B b : Nat) (ds : List Nd) (a : Option Addr) (cap : Nat) (tx : ByteArray) (n : Int) : LayOk B b ds a cap (⟨4, tx, n⟩ :: []) (fun deep ws => .ok (10 :: List.replicate deep 32, ws)) := by
  intro i r deep ws wa wc s w hd hN hI hwc hL hdeep hsz
  obtain ⟨hi, e1, e2⟩ := drop_head (x := ⟨4, tx, n⟩) (r := [] ++ r) hd
  obtain ⟨b0, o0, ea, hlt, d1, d2, d3⟩ := hN i hi
  subst ea
  rw [e1] at d1 d2 d3
  dsimp only at d1 d2 d3
  simp only [List.length_cons, List.length_nil] at hdeep hsz
  have HD : Hid (ds.drop (i + 1) = [] ++ r) := e2
  have HN : Hid (NodsB B w (some ⟨b0, o0, none⟩) ds) := hN
  have HI : Hid (IntsB B w wa ws) := hI
  have HL : Hid (LyAt B b (.slice (some ⟨b0, o0, none⟩) ds.length cap) (.slice wa ws.length wc) s 0 w) := hL
  have hbs := hL.bsize
  obtain ⟨h0, h1, c0, c1, c2, c3, f1, f2, f3⟩ := hL
  have hb0 : b0 < w.heap.size := by omega
  have HB : Hid (∀ O : Obj, Below B w (w.alloc O)) := fun O => (Below.refl _ w).alloc hbs O
  clear hd e1 e2 hN hI
  have hb4 : deep ≤ 4000 := by omega
  have hbz : ((⟨(List.replicate deep 32).toArray⟩ : ByteArray)).size = deep := by rw [← size_list]; simp
  generalize hbk : (⟨(List.replicate deep 32).toArray⟩ : ByteArray) = bk at hbz
  have HBK : Hid (bk.data.toList = List.replicate deep 32) := (show _ = _ by rw [← hbk])
  have HK : Hid (∀ W : World, Calls Tryd.prog 71 #[.int .i64 deep] W fun e w' => e = .returned (.string bk) ∧ W = w') := fun W => by rw [← hbk]; exact blanks_any deep hb4 W
  have hbk4 : bk.size ≤ 4000 := by omega
  clear hbk hbz
  go_enter Tryd.func49, Tryd.ntmps49
  go_wp2_with fail
  go_region_with (go_at_call 71; refine (HK.out _).mono ?_; rintro e w' ⟨rfl, rfl⟩)
  all_goals
    go_wp2
    go_end0
    have HB2 : ∀ (O : Obj) (v : Value), Below B w ((w.setCell ⟨b, 2, none⟩ v).alloc O).drew := fun O v => Below.drew (((Below.refl B w).setCell (p := ⟨b, 2, none⟩) h0 _).alloc (by rw [size_set]; exact hbs) O)
    refine ⟨rfl, ?_, HB2 _ _⟩
    refine ⟨wa, wc, _, ?_, LyAt.drew ((HL.out.text _).alloc _), HI.out.below (HB2 _ _), hwc⟩
    simp [HBK.out]
end Go.Proofs.YtfabfclbnekleaaDoor
namespace Go.Proofs.YtfabfclbnekleaaDoor
open Go Go.RowKit

set_option maxRecDepth 100000 in
set_option maxHeartbeats 4000000 in
theorem lay_6 (B b : Nat) (ds : List Nd) (a : Option Addr) (cap : Nat) (hl : ds.length ≤ 400) (tx : ByteArray) (n : Int) (A C : List Nd) (f g : Nat → List Int → Except Int (List UInt8 × List Int)) (hA : LayOk B b ds a cap A f) (hC : LayOk B b ds a cap C g) (hE : ∀ i r, ds.drop i = A ++ r → endAt ds i 1 = some (i + A.length)) (hC0 : 0 < C.length) (hfl : ∀ deep ws u v, f deep ws = .ok (u, v) → deep + 8 * A.length ≤ 3300 → u.length ≤ 4000 * A.length) : LayOk B b ds a cap (⟨6, tx, n⟩ :: (A ++ C)) (layBoth f g) := by
  intro i r deep ws wa wc s w hd hN hI hwc hL hdeep hsz
  obtain ⟨hi, e1, e2⟩ := drop_head (x := ⟨6, tx, n⟩) (r := (A ++ C) ++ r) hd
  obtain ⟨b0, o0, ea, hlt, d1, d2, d3⟩ := hN i hi
  subst ea
  rw [e1] at d1 d2 d3
  dsimp only at d1 d2 d3
  simp only [List.length_cons, List.length_append] at hdeep hsz
  have HD : Hid (ds.drop (i + 1) = (A ++ C) ++ r) := e2
  have HN : Hid (NodsB B w (some ⟨b0, o0, none⟩) ds) := hN
  have HI : Hid (IntsB B w wa ws) := hI
  have HL : Hid (LyAt B b (.slice (some ⟨b0, o0, none⟩) ds.length cap) (.slice wa ws.length wc) s 0 w) := hL
  have hbs := hL.bsize
  obtain ⟨h0, h1, c0, c1, c2, c3, f1, f2, f3⟩ := hL
  have hb0 : b0 < w.heap.size := by omega
  have HB : Hid (∀ O : Obj, Below B w (w.alloc O)) := fun O => (Below.refl _ w).alloc hbs O
  have HA : Hid (LayOk B b ds (some ⟨b0, o0, none⟩) cap A f) := hA
  have HC : Hid (LayOk B b ds (some ⟨b0, o0, none⟩) cap C g) := hC
  have HX : Hid (((i + 1 : Nat) : Int) = (i : Int) + 1) := (show _ = _ by omega)
  rw [List.append_assoc] at HD
  have HE : Hid (endAt ds (i + 1) 1 = some (i + 1 + A.length)) := hE (i + 1) (C ++ r) HD.out
  have HD2 : Hid (ds.drop (i + 1 + A.length) = C ++ r) := drop_more HD.out
  have HJ : Hid (i + 1 + A.length < ds.length) := (show _ < _ by
    have h1 := congrArg List.length HD2.out
    simp at h1
    omega)
  clear hd e1 e2 hN hI hA hC hE
  cases hf : f deep ws with
  | error e0 =>
    have HFE : Hid (f deep ws = .error e0) := hf
    clear hf
    go_enter Tryd.func49, Tryd.ntmps49
    go_wp2_with fail
    rw [← HX.out]
    refine (HA.out (i + 1) (C ++ r) deep ws wa wc s _ HD.out (HN.out.below (HB.out _)) (HI.out.below (HB.out _)) hwc (HL.out.alloc _) (by omega) (by omega)).mono ?_
    rintro e w2 ⟨rfl, hl2, hb2⟩
    rw [HFE.out] at hl2
    obtain ⟨he0, v', s', hl2⟩ := hl2
    have HL2 : Hid (LyAt B b (.slice (some ⟨b0, o0, none⟩) ds.length cap) v' s' e0 w2) := hl2
    have HB2 : Hid (Below B w w2) := (HB.out _).trans hb2
    have HE0 : Hid (e0 ≠ 0) := he0
    obtain ⟨_, k1, k0, _, _, _, _, _, _⟩ := hl2
    clear hb2 he0
    go_wp2_with fail
    rw [← HX.out]
    refine (rendOf_any ds _ cap hl (ds.length + 1) (i + 1) w2 ((HN.out.below HB2.out).nods HL2.out.bsize) (by omega) (by omega)).mono ?_
    rintro e w3 ⟨rfl, rfl⟩
    rw [HE.out]
    have hz : endZ (some (i + 1 + A.length)) = ((i + 1 + A.length : Nat) : Int) := rfl
    rw [hz]
    generalize hj : i + 1 + A.length = j at HD2 HJ ⊢
    clear hz hj
    go_wp2_with fail
    refine (lay_fault ds _ cap j deep w2 HJ.out (HN.out.below HB2.out) HL2.out HE0.out).mono ?_
    rintro e w4 ⟨rfl, hl4, hb4⟩
    go_wp2
    go_end0
    refine ⟨rfl, ?_, HB2.out.trans hb4⟩
    rw [layBoth, HFE.out]
    exact ⟨HE0.out, _, _, hl4⟩
  | ok p =>
    obtain ⟨u, ws1⟩ := p
    have HFE : Hid (f deep ws = .ok (u, ws1)) := hf
    have hul := hfl deep ws u ws1 hf (by omega)
    clear hf hfl
    go_enter Tryd.func49, Tryd.ntmps49
    go_wp2_with fail
    rw [← HX.out]
    refine (HA.out (i + 1) (C ++ r) deep ws wa wc s _ HD.out (HN.out.below (HB.out _)) (HI.out.below (HB.out _)) hwc (HL.out.alloc _) (by omega) (by omega)).mono ?_
    rintro e w2 ⟨rfl, hl2, hb2⟩
    rw [HFE.out] at hl2
    obtain ⟨wa1, wc1, s1, es1, hl2, hi2, hw2⟩ := hl2
    have hs1 : s1.size = s.size + u.length := by rw [← size_list, ← size_list, es1, List.length_append]
    have HS1 : Hid (s1.size = s.size + u.length) := hs1
    have HES : Hid (s1.data.toList = s.data.toList ++ u) := es1
    have HL2 : Hid (LyAt B b (.slice (some ⟨b0, o0, none⟩) ds.length cap) (.slice wa1 ws1.length wc1) s1 0 w2) := hl2
    have HI2 : Hid (IntsB B w2 wa1 ws1) := hi2
    have HB2 : Hid (Below B w w2) := (HB.out _).trans hb2
    obtain ⟨_, k1, k0, _, _, _, _, _, _⟩ := hl2
    clear hb2 hi2 hs1 es1
    go_wp2_with fail
    rw [← HX.out]
    refine (rendOf_any ds _ cap hl (ds.length + 1) (i + 1) w2 ((HN.out.below HB2.out).nods HL2.out.bsize) (by omega) (by omega)).mono ?_
    rintro e w3 ⟨rfl, rfl⟩
    rw [HE.out]
    have hz : endZ (some (i + 1 + A.length)) = ((i + 1 + A.length : Nat) : Int) := rfl
    rw [hz]
    generalize hj : i + 1 + A.length = j at HD2 HJ ⊢
    clear hz hj
    go_wp2_with fail
    refine (HC.out j r deep ws1 wa1 wc1 s1 _ HD2.out (HN.out.below HB2.out) HI2.out hw2 HL2.out (by omega) (by have := HS1.out; omega)).mono ?_
    rintro e w4 ⟨rfl, hl4, hb4⟩
    go_wp2
    go_end0
    refine ⟨rfl, ?_, HB2.out.trans hb4⟩
    rw [layBoth, HFE.out]
    dsimp only
    cases hg : g deep ws1 with
    | error e1 => rw [hg] at hl4; exact hl4
    | ok q =>
      obtain ⟨t, ws2⟩ := q
      rw [hg] at hl4
      obtain ⟨wa2, wc2, s2, es2, hl5, hi5, hw5⟩ := hl4
      exact ⟨wa2, wc2, s2, by rw [es2, HES.out, List.append_assoc], hl5, hi5, hw5⟩
end Go.Proofs.YtfabfclbnekleaaDoor
namespace Go.Proofs.YtfabfclbnekleaaDoor
open Go Go.RowKit

set_option maxRecDepth 100000 in
set_option maxHeartbeats 4000000 in
theorem lay_7 (B b : Nat) (ds : List Nd) (a : Option Addr) (cap : Nat) (hl : ds.length ≤ 400) (tx : ByteArray) (n : Int) (hn0 : 0 ≤ n) (hn8 : n ≤ 8) (A : List Nd) (f : Nat → List Int → Except Int (List UInt8 × List Int)) (hA : LayOk B b ds a cap A f) : LayOk B b ds a cap (⟨7, tx, n⟩ :: A) (fun deep ws => f (deep + n.toNat) ws) := by
  intro i r deep ws wa wc s w hd hN hI hwc hL hdeep hsz
  obtain ⟨hi, e1, e2⟩ := drop_head (x := ⟨7, tx, n⟩) (r := A ++ r) hd
  obtain ⟨b0, o0, ea, hlt, d1, d2, d3⟩ := hN i hi
  subst ea
  rw [e1] at d1 d2 d3
  dsimp only at d1 d2 d3
  simp only [List.length_cons] at hdeep hsz
  have HD : Hid (ds.drop (i + 1) = A ++ r) := e2
  have HN : Hid (NodsB B w (some ⟨b0, o0, none⟩) ds) := hN
  have HI : Hid (IntsB B w wa ws) := hI
  have HL : Hid (LyAt B b (.slice (some ⟨b0, o0, none⟩) ds.length cap) (.slice wa ws.length wc) s 0 w) := hL
  have hbs := hL.bsize
  obtain ⟨h0, h1, c0, c1, c2, c3, f1, f2, f3⟩ := hL
  have hb0 : b0 < w.heap.size := by omega
  have HB : Hid (∀ O : Obj, Below B w (w.alloc O)) := fun O => (Below.refl _ w).alloc hbs O
  have HA : Hid (LayOk B b ds (some ⟨b0, o0, none⟩) cap A f) := hA
  have HX : Hid (((i + 1 : Nat) : Int) = (i : Int) + 1) := (show _ = _ by omega)
  have HY : Hid (((deep + n.toNat : Nat) : Int) = (deep : Int) + n) := (show _ = _ by omega)
  clear hd e1 e2 hN hI hA
  go_enter Tryd.func49, Tryd.ntmps49
  go_wp2_with fail
  rw [← HX.out, ← HY.out]
  refine (HA.out (i + 1) r (deep + n.toNat) ws wa wc s _ HD.out (HN.out.below (HB.out _)) (HI.out.below (HB.out _)) hwc (HL.out.alloc _) (by omega) (by omega)).mono ?_
  rintro e w2 ⟨rfl, hl2, hb2⟩
  go_wp2
  go_end0
  exact ⟨rfl, hl2, (HB.out _).trans hb2⟩
end Go.Proofs.YtfabfclbnekleaaDoor
namespace Go.Proofs.YtfabfclbnekleaaDoor
open Go Go.RowKit

set_option maxRecDepth 100000 in
set_option maxHeartbeats 4000000 in
theorem lay_8 (B b : Nat) (ds : List Nd) (a : Option Addr) (cap : Nat) (hl : ds.length ≤ 400) (tx : ByteArray) (n : Int) (A : List Nd) (f : Nat → List Int → Except Int (List UInt8 × List Int)) (sA : ByteArray) (fl : Bool) (hA : LayOk B b ds a cap A f) (hF : FlatOk ds a cap A sA fl) (hsA : sA.size ≤ 8800) : LayOk B b ds a cap (⟨8, tx, n⟩ :: A) (layGroup f sA fl) := by
  intro i r deep ws wa wc s w hd hN hI hwc hL hdeep hsz
  obtain ⟨hi, e1, e2⟩ := drop_head (x := ⟨8, tx, n⟩) (r := A ++ r) hd
  obtain ⟨b0, o0, ea, hlt, d1, d2, d3⟩ := hN i hi
  subst ea
  rw [e1] at d1 d2 d3
  dsimp only at d1 d2 d3
  simp only [List.length_cons] at hdeep hsz
  have HD : Hid (ds.drop (i + 1) = A ++ r) := e2
  have HN : Hid (NodsB B w (some ⟨b0, o0, none⟩) ds) := hN
  have HI : Hid (IntsB B w wa ws) := hI
  have HL : Hid (LyAt B b (.slice (some ⟨b0, o0, none⟩) ds.length cap) (.slice wa ws.length wc) s 0 w) := hL
  have hbs := hL.bsize
  obtain ⟨h0, h1, c0, c1, c2, c3, f1, f2, f3⟩ := hL
  have hb0 : b0 < w.heap.size := by omega
  have HB : Hid (∀ O : Obj, Below B w (w.alloc O)) := fun O => (Below.refl _ w).alloc hbs O
  have HA : Hid (LayOk B b ds (some ⟨b0, o0, none⟩) cap A f) := hA
  have HF : Hid (FlatOk ds (some ⟨b0, o0, none⟩) cap A sA fl) := hF
  have HX : Hid (((i + 1 : Nat) : Int) = (i : Int) + 1) := (show _ = _ by omega)
  clear hd e1 e2 hN hI hA hF
  match ws, HI, HL, hwc, c1 with
  | [], HI, HL, hwc, c1 =>
    simp only [List.length_nil] at HL c1
    go_enter Tryd.func49, Tryd.ntmps49
    go_wp2_with fail
    refine (choose_none (HL.out.alloc _)).mono ?_
    rintro e w2 ⟨rfl, hl2, hb2⟩
    have HL2 : Hid (LyAt B b (.slice (some ⟨b0, o0, none⟩) ds.length cap) (.slice wa 0 wc) s 2 w2) := hl2
    obtain ⟨_, _, _, _, _, g3, _, _, _⟩ := hl2
    go_wp2
    refine bodyPost_ret (results_none rfl _ _ _) rfl ?_
    exact ⟨rfl, ⟨by decide, _, _, HL2.out⟩, (HB.out _).trans hb2⟩
  | c :: ws, HI, HL, hwc, c1 =>
    simp only [List.length_cons] at HL c1 hwc
    by_cases hc : c = 1
    · subst hc
      go_enter Tryd.func49, Tryd.ntmps49
      go_wp2_with fail
      refine (choose_some 1 ws (HL.out.alloc _) (HI.out.below (HB.out _)) hwc).mono ?_
      rintro e w2 ⟨rfl, ⟨wa', wc', hl2, hi2, hw2⟩, hb2⟩
      have HL2 : Hid (LyAt B b (.slice (some ⟨b0, o0, none⟩) ds.length cap) (.slice wa' ws.length wc') s 0 w2) := hl2
      have HI2 : Hid (IntsB B w2 wa' ws) := hi2
      have HB2 : Hid (Below B w w2) := (HB.out _).trans hb2
      obtain ⟨_, _, _, _, _, g3, _, _, _⟩ := hl2
      clear hi2 hb2
      go_wp2_with fail
      rw [← HX.out]
      refine (HA.out (i + 1) r deep ws wa' wc' s _ HD.out (HN.out.below HB2.out) HI2.out hw2 HL2.out (by omega) (by omega)).mono ?_
      rintro e w3 ⟨rfl, hl3, hb3⟩
      go_wp2
      refine bodyPost_ret (results_none rfl _ _ _) rfl ?_
      refine ⟨rfl, ?_, HB2.out.trans hb3⟩
      rw [layGroup, if_pos rfl]
      exact hl3
    · have hc' : (c == 1) = false := by simp [hc]
      have HC : Hid (¬ c = 1) := hc
      clear hc
      cases fl with
      | true =>
        go_enter Tryd.func49, Tryd.ntmps49
        go_wp2_with fail
        refine (choose_some c ws (HL.out.alloc _) (HI.out.below (HB.out _)) hwc).mono ?_
        rintro e w2 ⟨rfl, ⟨wa', wc', hl2, hi2, hw2⟩, hb2⟩
        have HL2 : Hid (LyAt B b (.slice (some ⟨b0, o0, none⟩) ds.length cap) (.slice wa' ws.length wc') s 0 w2) := hl2
        have HI2 : Hid (IntsB B w2 wa' ws) := hi2
        have HB2 : Hid (Below B w w2) := (HB.out _).trans hb2
        obtain ⟨_, k1, k0, _, _, k3, _, _, _⟩ := hl2
        clear hi2 hb2
        go_wp2_with fail
        rw [← HX.out]
        refine (HF.out (i + 1) r _ HD.out ((HN.out.below HB2.out).nods HL2.out.bsize)).mono ?_
        rintro e w3 ⟨rfl, hb3⟩
        have HL3 : Hid (LyAt B b (.slice (some ⟨b0, o0, none⟩) ds.length cap) (.slice wa' ws.length wc') s 0 w3) := HL2.out.below hb3
        have HB3 : Hid (Below B w w3) := HB2.out.trans (HL2.out.grown hb3)
        have HI3 : Hid (IntsB B w3 wa' ws) := HI2.out.below (HL2.out.grown hb3)
        obtain ⟨_, m1, m0, _, m2, m3, _, g2, g3⟩ := HL3.out
        clear k1 k0 k3 hb3
        go_wp2
        go_end0
        have HBz : ∀ v, Below B w (w3.setCell ⟨b, 2, none⟩ v) := fun v => HB3.out.setCell (p := ⟨b, 2, none⟩) h0 _
        refine ⟨rfl, ?_, HBz _⟩
        rw [layGroup, if_neg HC.out, if_pos rfl]
        exact ⟨wa', wc', s ++ sA, by simp, HL3.out.text _, HI3.out.below ((Below.refl B w3).setCell (p := ⟨b, 2, none⟩) h0 _), hw2⟩
      | false =>
        go_enter Tryd.func49, Tryd.ntmps49
        go_wp2_with fail
        refine (choose_some c ws (HL.out.alloc _) (HI.out.below (HB.out _)) hwc).mono ?_
        rintro e w2 ⟨rfl, ⟨wa', wc', hl2, hi2, hw2⟩, hb2⟩
        have HL2 : Hid (LyAt B b (.slice (some ⟨b0, o0, none⟩) ds.length cap) (.slice wa' ws.length wc') s 0 w2) := hl2
        have HB2 : Hid (Below B w w2) := (HB.out _).trans hb2
        obtain ⟨_, k1, k0, _, _, k3, _, _, _⟩ := hl2
        clear hi2 hb2
        go_wp2_with fail
        rw [← HX.out]
        refine (HF.out (i + 1) r _ HD.out ((HN.out.below HB2.out).nods HL2.out.bsize)).mono ?_
        rintro e w3 ⟨rfl, hb3⟩
        have HL3 : Hid (LyAt B b (.slice (some ⟨b0, o0, none⟩) ds.length cap) (.slice wa' ws.length wc') s 0 w3) := HL2.out.below hb3
        have HB3 : Hid (Below B w w3) := HB2.out.trans (HL2.out.grown hb3)
        obtain ⟨_, m1, m0, _, m2, m3, _, g2, g3⟩ := HL3.out
        clear k1 k0 k3 hb3
        go_wp2
        go_end0
        refine ⟨rfl, ?_, (HB3.out.setCell (p := ⟨b, 3, none⟩) h0 _).setCell (p := ⟨b, 2, none⟩) h0 _⟩
        rw [layGroup, if_neg HC.out, if_neg (by decide)]
        exact ⟨by decide, _, _, (HL3.out.fault 4).text _⟩
end Go.Proofs.YtfabfclbnekleaaDoor
namespace Go.Proofs.YtfabfclbnekleaaDoor
open Go Go.RowKit

set_option maxRecDepth 100000 in
set_option maxHeartbeats 4000000 in
theorem lay_9 (B b : Nat) (ds : List Nd) (a : Option Addr) (cap : Nat) (hl : ds.length ≤ 400) (tx : ByteArray) (n : Int) (A C : List Nd) (f g : Nat → List Int → Except Int (List UInt8 × List Int)) (hA : LayOk B b ds a cap A f) (hC : LayOk B b ds a cap C g) (hE : ∀ i r, ds.drop i = A ++ r → endAt ds i 1 = some (i + A.length)) (hC0 : 0 < C.length) : LayOk B b ds a cap (⟨9, tx, n⟩ :: (A ++ C)) (layEither f g) := by
  intro i r deep ws wa wc s w hd hN hI hwc hL hdeep hsz
  obtain ⟨hi, e1, e2⟩ := drop_head (x := ⟨9, tx, n⟩) (r := (A ++ C) ++ r) hd
  obtain ⟨b0, o0, ea, hlt, d1, d2, d3⟩ := hN i hi
  subst ea
  rw [e1] at d1 d2 d3
  dsimp only at d1 d2 d3
  simp only [List.length_cons, List.length_append] at hdeep hsz
  have HD : Hid (ds.drop (i + 1) = (A ++ C) ++ r) := e2
  have HN : Hid (NodsB B w (some ⟨b0, o0, none⟩) ds) := hN
  have HI : Hid (IntsB B w wa ws) := hI
  have HL : Hid (LyAt B b (.slice (some ⟨b0, o0, none⟩) ds.length cap) (.slice wa ws.length wc) s 0 w) := hL
  have hbs := hL.bsize
  obtain ⟨h0, h1, c0, c1, c2, c3, f1, f2, f3⟩ := hL
  have hb0 : b0 < w.heap.size := by omega
  have HB : Hid (∀ O : Obj, Below B w (w.alloc O)) := fun O => (Below.refl _ w).alloc hbs O
  have HA : Hid (LayOk B b ds (some ⟨b0, o0, none⟩) cap A f) := hA
  have HC : Hid (LayOk B b ds (some ⟨b0, o0, none⟩) cap C g) := hC
  have HX : Hid (((i + 1 : Nat) : Int) = (i : Int) + 1) := (show _ = _ by omega)
  rw [List.append_assoc] at HD
  have HE : Hid (endAt ds (i + 1) 1 = some (i + 1 + A.length)) := hE (i + 1) (C ++ r) HD.out
  have HD2 : Hid (ds.drop (i + 1 + A.length) = C ++ r) := drop_more HD.out
  have HJ : Hid (i + 1 + A.length < ds.length) := (show _ < _ by
    have h1 := congrArg List.length HD2.out
    simp at h1
    omega)
  clear hd e1 e2 hN hI hA hC hE
  match ws, HI, HL, hwc, c1 with
  | [], HI, HL, hwc, c1 =>
    simp only [List.length_nil] at HL c1
    go_enter Tryd.func49, Tryd.ntmps49
    go_wp2_with fail
    refine (choose_none (HL.out.alloc _)).mono ?_
    rintro e w2 ⟨rfl, hl2, hb2⟩
    have HL2 : Hid (LyAt B b (.slice (some ⟨b0, o0, none⟩) ds.length cap) (.slice wa 0 wc) s 2 w2) := hl2
    obtain ⟨_, _, _, _, _, g3, _, _, _⟩ := hl2
    go_wp2
    refine bodyPost_ret (results_none rfl _ _ _) rfl ?_
    exact ⟨rfl, ⟨by decide, _, _, HL2.out⟩, (HB.out _).trans hb2⟩
  | c :: ws, HI, HL, hwc, c1 =>
    simp only [List.length_cons] at HL c1 hwc
    by_cases hc : c = 0
    · subst hc
      go_enter Tryd.func49, Tryd.ntmps49
      go_wp2_with fail
      refine (choose_some 0 ws (HL.out.alloc _) (HI.out.below (HB.out _)) hwc).mono ?_
      rintro e w2 ⟨rfl, ⟨wa', wc', hl2, hi2, hw2⟩, hb2⟩
      have HL2 : Hid (LyAt B b (.slice (some ⟨b0, o0, none⟩) ds.length cap) (.slice wa' ws.length wc') s 0 w2) := hl2
      have HI2 : Hid (IntsB B w2 wa' ws) := hi2
      have HB2 : Hid (Below B w w2) := (HB.out _).trans hb2
      obtain ⟨_, _, _, _, _, g3, _, _, _⟩ := hl2
      clear hi2 hb2
      go_wp2_with fail
      rw [← HX.out]
      refine (HA.out (i + 1) (C ++ r) deep ws wa' wc' s _ HD.out (HN.out.below HB2.out) HI2.out hw2 HL2.out (by omega) (by omega)).mono ?_
      rintro e w3 ⟨rfl, hl3, hb3⟩
      go_wp2
      go_end0
      refine ⟨rfl, ?_, HB2.out.trans hb3⟩
      rw [layEither, if_pos rfl]
      exact hl3
    · have hc' : (c == 0) = false := by simp [hc]
      have HC0 : Hid (¬ c = 0) := hc
      clear hc
      go_enter Tryd.func49, Tryd.ntmps49
      go_wp2_with fail
      refine (choose_some c ws (HL.out.alloc _) (HI.out.below (HB.out _)) hwc).mono ?_
      rintro e w2 ⟨rfl, ⟨wa', wc', hl2, hi2, hw2⟩, hb2⟩
      have HL2 : Hid (LyAt B b (.slice (some ⟨b0, o0, none⟩) ds.length cap) (.slice wa' ws.length wc') s 0 w2) := hl2
      have HI2 : Hid (IntsB B w2 wa' ws) := hi2
      have HB2 : Hid (Below B w w2) := (HB.out _).trans hb2
      obtain ⟨_, k1, k0, _, _, g3, _, _, _⟩ := hl2
      clear hi2 hb2
      go_wp2_with fail
      rw [← HX.out]
      refine (rendOf_any ds _ cap hl (ds.length + 1) (i + 1) w2 ((HN.out.below HB2.out).nods HL2.out.bsize) (by omega) (by omega)).mono ?_
      rintro e w3 ⟨rfl, rfl⟩
      rw [HE.out]
      have hz : endZ (some (i + 1 + A.length)) = ((i + 1 + A.length : Nat) : Int) := rfl
      rw [hz]
      generalize hj : i + 1 + A.length = j at HD2 HJ ⊢
      clear hz hj
      go_wp2_with fail
      refine (HC.out j r deep ws wa' wc' s _ HD2.out (HN.out.below HB2.out) HI2.out hw2 HL2.out (by omega) (by omega)).mono ?_
      rintro e w4 ⟨rfl, hl4, hb4⟩
      go_wp2
      go_end0
      refine ⟨rfl, ?_, HB2.out.trans hb4⟩
      rw [layEither, if_neg HC0.out]
      exact hl4
end Go.Proofs.YtfabfclbnekleaaDoor
namespace Go.Proofs.YtfabfclbnekleaaDoor
open Go Go.RowKit

theorem lay_any (B b : Nat) (ds : List Nd) (a : Option Addr) (cap : Nat) (hl : ds.length ≤ 400) : ∀ t : Tr, t.Wf → t.nodes.length ≤ 400 → LayOk B b ds a cap t.nodes t.lay
  | .leaf ⟨op, tx, n⟩, h, hn => by
    obtain ⟨_, _, _, _, h5, _⟩ := node_ok h.1
    rcases leaf_op h.1 h.2 with e | e | e | e | e
    all_goals (simp only at e; subst e)
    · exact lay_1 B b ds a cap tx n (isW_size (h5 rfl)).2
    · exact lay_2 B b ds a cap tx n
    · exact lay_3 B b ds a cap tx n
    · exact lay_4 B b ds a cap tx n
    · exact lay_5 B b ds a cap tx n
  | .one ⟨op, tx, n⟩ a', h, hn => by
    obtain ⟨_, _, _, _, _, h6⟩ := node_ok h.1
    have hn' : a'.nodes.length ≤ 400 := by simp [Tr.nodes] at hn; omega
    rcases one_op h.2.1 with e | e
    all_goals (simp only at e; subst e)
    · exact lay_7 B b ds a cap hl tx n (h6 rfl).1 (h6 rfl).2 _ _ (lay_any B b ds a cap hl a' h.2.2 hn')
    · rw [lay_group (x := ⟨8, tx, n⟩) rfl]
      exact lay_8 B b ds a cap hl tx n _ _ _ _ (lay_any B b ds a cap hl a' h.2.2 hn') (flatOf_any ds a cap hl a' h.2.2 hn') (by have := flat_le a' h.2.2; rw [line_size]; omega)
  | .two ⟨op, tx, n⟩ a' c, h, hn => by
    have hn1 : a'.nodes.length ≤ 400 := by simp [Tr.nodes] at hn; omega
    have hn2 : c.nodes.length ≤ 400 := by simp [Tr.nodes] at hn; omega
    rcases two_op h.2.1 with e | e
    all_goals (simp only at e; subst e)
    · rw [lay_two (x := ⟨6, tx, n⟩) rfl]
      exact lay_6 B b ds a cap hl tx n _ _ _ _ (lay_any B b ds a cap hl a' h.2.2.1 hn1) (lay_any B b ds a cap hl c h.2.2.2 hn2) (fun i r hd => endAt_tree h.2.2.1 hd) c.pos (fun deep ws u v he hd => lay_len a' deep ws u v h.2.2.1 he hd)
    · rw [lay_either (x := ⟨9, tx, n⟩) rfl]
      exact lay_9 B b ds a cap hl tx n _ _ _ _ (lay_any B b ds a cap hl a' h.2.2.1 hn1) (lay_any B b ds a cap hl c h.2.2.2 hn2) (fun i r hd => endAt_tree h.2.2.1 hd) c.pos

set_option maxRecDepth 100000 in
set_option maxHeartbeats 4000000 in
theorem showOf_any (t : Tr) (ht : t.Wf) (ds : List Nd) (hd : ds = t.nodes) (hl : ds.length ≤ 400) (a wa : Option Addr) (cap wc : Nat) (ws : List Int) (hw : ws.length ≤ wc) (hwc : ws.length ≤ 9223372036854775807) (w : World) (hN : Nods w a ds) (hI : Ints w wa ws) :
    Calls Tryd.prog 30 #[.slice a ds.length cap, .slice wa ws.length wc] w fun e w' => e = .returned (.tuple #[.string (shS (t.show ws)), .int .i64 (shE (t.show ws))]) ∧ Below w.heap.size w w' := by
  have HN : Hid (Nods w a ds) := hN
  have HI : Hid (Ints w wa ws) := hI
  have HD : Hid (ds = t.nodes) := hd
  clear hN hI hd
  go_enter Tryd.func30, Tryd.ntmps30
  go_wp2
  go_loopw [6] (fun i wr => wr = w ∧ ∃ k : Nat, k ≤ ws.length ∧ i = .int .i64 k ∧ ∀ j (h : j < ws.length), j < k → ws[j] = 0 ∨ ws[j] = 1) (fun i _ => ws.length - (intOf i).toNat)
  case atStart => exact ⟨rfl, 0, Nat.zero_le _, rfl, fun j _ hj => by omega⟩
  case round =>
    obtain ⟨rfl, k, hk, rfl, hall⟩ := hrel
    have HA : Hid (∀ j (h : j < ws.length), j < k → ws[j] = 0 ∨ ws[j] = 1) := hall
    clear hall
    by_cases hlt : k < ws.length
    · obtain ⟨b0, o0, ea, hb0, c0⟩ := HI.out k hlt
      subst ea
      by_cases h01 : ws[k] = 0 ∨ ws[k] = 1
      · have HA' : Hid (∀ j (h : j < ws.length), j < k + 1 → ws[j] = 0 ∨ ws[j] = 1) := fun j h hj => by
          by_cases hjk : j = k
          · subst hjk; exact h01
          · exact HA.out j h (by omega)
        rcases h01 with h01 | h01
        all_goals
          rw [h01] at c0
          clear h01
          go_wp2
          go_roundw
          case rel => exact ⟨by trivial, k + 1, by omega, by go_num, HA'.out⟩
          case measure => simp [intOf]; omega
      · have hn0 : ws[k] ≠ 0 := fun h => h01 (.inl h)
        have hn1 : ws[k] ≠ 1 := fun h => h01 (.inr h)
        have HS : Hid (t.show ws = .error 1) := show_range hlt hn0 hn1
        generalize ws[k] = c at c0 hn0 hn1
        have g0 : (c != 0) = true := by simp [hn0]
        have g1 : (c != 1) = true := by simp [hn1]
        clear hn0 hn1 h01
        go_wp2
        go_ret2
        exact ⟨by rw [HS.out]; rfl, Below.refl _ _⟩
    · have hok : okC01 ws := fun c hc => by
        obtain ⟨j, hj, rfl⟩ := List.getElem_of_mem hc
        exact HA.out j hj (by omega)
      have HS : Hid (t.show ws = match t.lay 0 ws with | .error e => .error e | .ok (s, []) => .ok s | .ok (_, _ :: _) => .error 2) := show_lay hok
      clear hok
      have hNB : NodsB wr.heap.size wr a ds := HN.out
      have HLY : Hid (LyAt wr.heap.size wr.heap.size (.slice a ds.length cap) (.slice wa ws.length wc) ⟨#[]⟩ 0 (wr.alloc (.cells #[.slice a ds.length cap, .slice wa ws.length wc, .string ⟨#[]⟩, .int .i64 0] 104))) :=
        ⟨Nat.le_refl _, by simp, by simp [go_sem], by simp [go_sem], by simp [go_sem], by simp [go_sem], by simp [go_sem], by simp [go_sem], by simp [go_sem]⟩
      have HBA : Hid (∀ O : Obj, Below wr.heap.size wr (wr.alloc O)) := fun O => (Below.refl _ _).alloc (Nat.le_refl _) O
      have HLC : Hid (∀ W : World, LyAt wr.heap.size wr.heap.size (.slice a ds.length cap) (.slice wa ws.length wc) ⟨#[]⟩ 0 W → Below wr.heap.size wr W →
          Calls Tryd.prog 49 #[.pointer (some ⟨wr.heap.size, 0, none⟩), .int .i64 0, .int .i64 0] W fun e w' => e = .returned (.tuple #[]) ∧ Laid wr.heap.size wr.heap.size (.slice a ds.length cap) (t.lay 0 ws) ⟨#[]⟩ w' ∧ Below wr.heap.size W w') := fun W h1 h2 =>
        lay_any wr.heap.size wr.heap.size ds a cap hl t ht (by rw [← HD.out]; exact hl) 0 [] 0 ws wa wc ⟨#[]⟩ W (by rw [HD.out]; simp) (hNB.below h2) (IntsB.below HI.out h2) hw h1 (by rw [← HD.out]; omega) (by rw [← HD.out]; show 0 + 4000 * ds.length ≤ 1000000000; omega)
      clear hNB
      go_wp2_with fail
      refine (HLC.out _ HLY.out (HBA.out _)).mono ?_
      rintro e w2 ⟨rfl, hl2, hb2⟩
      have HB2 : Hid (Below wr.heap.size wr w2) := (HBA.out _).trans hb2
      clear hb2
      cases hlay : t.lay 0 ws with
      | error e0 =>
        rw [hlay] at hl2
        have hS := HS.out
        rw [hlay] at hS
        have HRE : Hid (t.show ws = .error e0) := hS
        obtain ⟨he0, v', s', hl3⟩ := hl2
        obtain ⟨_, k1, k0, k4, k2, k3, f1, f2, f3⟩ := hl3
        have g0 : (e0 == 0) = false := by simp [he0]
        have g1 : (e0 != 0) = true := by simp [he0]
        clear he0 hlay hS
        go_wp2_with fail
        go_quiet (fail)
        go_wp2
        go_ret2
        exact ⟨by rw [HRE.out]; rfl, HB2.out.trans ⟨rfl, rfl, rfl, Nat.le_refl _, fun _ _ => rfl⟩⟩
      | ok p =>
        obtain ⟨u, r⟩ := p
        rw [hlay] at hl2
        have hS := HS.out
        rw [hlay] at hS
        obtain ⟨wa2, wc2, s2, es2, hl3, _, hw3⟩ := hl2
        cases r with
        | nil =>
          have HRE : Hid (t.show ws = .ok u) := hS
          have hs2 : s2 = ⟨u.toArray⟩ := bytes_inj (by rw [es2]; simp)
          have HS2 : Hid (s2 = ⟨u.toArray⟩) := hs2
          simp only [List.length_nil] at hl3
          obtain ⟨_, k1, k0, k4, k2, k3, f1, f2, f3⟩ := hl3
          clear hlay hS es2 hs2
          go_wp2
          go_ret2
          exact ⟨by rw [HRE.out]; exact congrArg (fun z => Ending.returned (.tuple #[.string z, .int .i64 0])) HS2.out, HB2.out⟩
        | cons c r =>
          have HRE : Hid (t.show ws = .error 2) := hS
          simp only [List.length_cons] at hl3
          obtain ⟨h0, k1, k0, k4, k2, k3, f1, f2, f3⟩ := hl3
          have g0 : (0 : Int) < (r.length : Int) + 1 := by omega
          clear hlay hS es2
          go_wp2_with fail
          go_quiet (fail)
          go_wp2
          go_ret2
          exact ⟨by rw [HRE.out]; rfl, (HB2.out.setCell (p := ⟨wr.heap.size, 3, none⟩) (Nat.le_refl _) _).trans ⟨rfl, rfl, rfl, Nat.le_refl _, fun _ _ => rfl⟩⟩
end Go.Proofs.YtfabfclbnekleaaDoor
