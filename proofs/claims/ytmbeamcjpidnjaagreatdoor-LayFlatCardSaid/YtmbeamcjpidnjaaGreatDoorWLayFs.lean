/- Some texts as one: WLay, WLayF. -/
import Derived.Test.YtmbeamcjpidnjaaGreatDoorPlanWb
import Derived.Test.YtmbeamcjpidnjaaGreatDoorBldO
import Derived.Test.YtmbeamcjpidnjaaGreatDoorFlatFs
import Derived.Test.YtmbeamcjpidnjaaGreatDoorWayS
import Derived.Test.YtmbeamcjpidnjaaGreatDoorMems
import Derived.Test.YtmbeamcjpidnjaaGreatDoorRep
import Derived.BigQuiet
import Derived.Deep.QuietTactic
namespace Go.Proofs.YtmbeamcjpidnjaaGreatDoor
open Go Go.RowKit

/-- The writer: the plan's three lists, the text so far, the choices. -/
def WS (B b : Nat) (pl : List Value) (l : List UInt8) (cv : Value) (w : World) : Prop := IsO 109 B b pl (Lib.byteCells l) [cv] w
abbrev plOf (be bf : Nat) (n cap : Nat) (a : Option Addr) : List Value := [.slice a n cap, .slice (some ⟨be, 0, none⟩) n n, .slice (some ⟨bf, 0, none⟩) n n]
theorem wLies : LiesO 109 6 3 := by unfold LiesO; kernel_rfl
section
variable {B b be bf n cap : Nat} {a : Option Addr} {l : List UInt8} {cv : Value} {w w' : World}
theorem WS.c0 (h : WS B b (plOf be bf n cap a) l cv w) : w.cell? ⟨b, 0, none⟩ = some (.slice a n cap) := IsO.cellP h 0 (by show 0 < 3; decide)
theorem WS.c1 (h : WS B b (plOf be bf n cap a) l cv w) : w.cell? ⟨b, 1, none⟩ = some (.slice (some ⟨be, 0, none⟩) n n) := IsO.cellP h 1 (by show 1 < 3; decide)
theorem WS.c2 (h : WS B b (plOf be bf n cap a) l cv w) : w.cell? ⟨b, 2, none⟩ = some (.slice (some ⟨bf, 0, none⟩) n n) := IsO.cellP h 2 (by show 2 < 3; decide)
theorem WS.c5 (h : WS B b (plOf be bf n cap a) l cv w) : w.cell? ⟨b, 5, none⟩ = some cv := IsO.cellR h 0
theorem WS.f5 (h : WS B b (plOf be bf n cap a) l cv w) : w.frozen? ⟨b, 5, none⟩ = false := IsO.frozen h 5
theorem WS.lt {pl : List Value} (h : WS B b pl l cv w) : b < w.heap.size := IsO.lt h
theorem WS.alloc {pl : List Value} (h : WS B b pl l cv w) (o : Obj) : WS B b pl l cv (w.alloc o) := IsO.alloc h o
theorem WS.drew {pl : List Value} (h : WS B b pl l cv w) : WS B b pl l cv w.drew := h
theorem WS.below {pl : List Value} (h : WS B b pl l cv w) (hb : Below w.heap.size w w') : WS B b pl l cv w' := IsO.below h hb
theorem WS.stored (h : WS B b (plOf be bf n cap a) l cv w) (v : Value) : WS B b (plOf be bf n cap a) l v (w.setCell ⟨b, 5, none⟩ v) := IsO.stored h 0 v
end

theorem wstr {B b be bf n cap : Nat} {a : Option Addr} {l : List UInt8} {cv : Value} {w : World} (h : WS B b (plOf be bf n cap a) l cv w) (hB : B ≤ b) (s : ByteArray) (hl : l.length + s.size ≤ 2000000000) :
    Calls Tryz.prog 63 #[.pointer (some ⟨b, 3, none⟩), .string s] w fun e w' => (∃ z, e = .returned (.tuple #[.int .i64 z, .nilIface])) ∧ WS B b (plOf be bf n cap a) (l ++ s.data.toList) cv w' ∧ Below B w w' := by
  have hlt := h.lt
  refine (ostring_any 109 B b 3 (plOf be bf n cap a) _ [cv] s w rfl wLies (by decide) h (by rw [Lib.byteCells_length]; omega) (by omega)).mono ?_
  rintro e w' ⟨rfl, h1, h2, _⟩
  refine ⟨⟨_, rfl⟩, ?_, h2.below hB⟩
  rw [WS, Lib.byteCells_append]
  exact h1

/-- What the call may lean on: the doc's nodes, and what is known of them. -/
structure LC (B s be bf : Nat) (a : Option Addr) (ds : List Nd) (w : World) : Prop where
  nd : NodsS s w a ds
  kn : Known w be bf ds 0
theorem LC.below {B s be bf : Nat} {a : Option Addr} {ds : List Nd} {w w' : World} (h : LC B s be bf a ds w) (hB : s < B ∧ be < B ∧ bf < B) (hb : Below B w w') : LC B s be bf a ds w' :=
  ⟨h.nd.kept (hb.block s hB.1), h.kn.kept (hb.block be hB.2.1) (hb.block bf hB.2.2)⟩

/-- What lay leaves. -/
def WLaid (B b : Nat) (pl : List Value) (res : Except Int (List UInt8 × List Int)) (l : List UInt8) (e : Ending) (w' : World) : Prop :=
  match res with
  | .ok (u, ws') => e = .returned .nilIface ∧ ∃ wa' wc', WS B b pl (l ++ u) (.slice wa' ws'.length wc') w' ∧ IntsB B w' wa' ws' ∧ ws'.length ≤ wc'
  | .error er => er ≠ 0 ∧ e = .returned (errN er)

/-- Calls of lay or its like, at a place and so deep, answer so. -/
def WCall (fn B b s be bf : Nat) (ds : List Nd) (a : Option Addr) (cap : Nat) (A : List Nd) (f : Nat → List Int → Except Int (List UInt8 × List Int)) : Prop :=
  ∀ (i : Nat) (r : List Nd) (deep : Nat) (ws : List Int) (wa : Option Addr) (wc : Nat) (l : List UInt8) (w : World), ds.drop i = A ++ r → LC B s be bf a ds w → IntsB B w wa ws → okC01 ws → ws.length ≤ wc → WS B b (plOf be bf ds.length cap a) l (.slice wa ws.length wc) w →
    deep + 8 * A.length ≤ 3300 → l.length + 4000 * A.length ≤ 1000000000 →
    Calls Tryz.prog fn #[.pointer (some ⟨b, 0, none⟩), .int .i64 i, .int .i64 deep] w fun e w' => WLaid B b (plOf be bf ds.length cap a) (f deep ws) l e w' ∧ Below B w w'
abbrev WLayOk := WCall 58

/-- A new line, so deep. -/
theorem rep_blank (n : Nat) (hn : n ≤ 4000) (w : World) : Calls Tryz.prog 91 #[.string ⟨#[32]⟩, .int .i64 n] w fun e w' => e = .returned (.string ⟨(List.replicate n 32).toArray⟩) ∧ Below w.heap.size w w' := by
  refine (repeat_any ⟨#[32]⟩ n w (by omega) (by show 1 * n ≤ _; omega)).mono ?_
  rintro e w' ⟨rfl, hb⟩
  refine ⟨?_, hb⟩
  have := Lib.repeatL_replicate 32 1 n
  have e1 : Lib.repeatL (ByteArray.mk #[32]).data.toList n = List.replicate n 32 := by simpa using this
  rw [e1]
end Go.Proofs.YtmbeamcjpidnjaaGreatDoor
namespace Go.Proofs.YtmbeamcjpidnjaaGreatDoor
open Go Go.RowKit

/-- A part of a doc's nodes. -/
theorem NodsS.part {s o i : Nat} {w : World} {ds A r : List Nd} (h : NodsS s w (some ⟨s, o, none⟩) ds) (hd : ds.drop i = A ++ r) : NodsS s w (some ⟨s, o + i * 3, none⟩) A := by
  intro j hj
  have hl := congrArg List.length hd
  rw [List.length_drop, List.length_append] at hl
  have hij : i + j < ds.length := by omega
  obtain ⟨o', e, c1, c2, c3⟩ := h (i + j) hij
  simp only [Option.some.injEq, Addr.mk.injEq, and_true, true_and] at e
  subst e
  have he : ds[i + j] = A[j] := by
    have h1 : (ds.drop i)[j]? = some A[j] := by rw [hd, List.getElem?_append_left hj]; simp
    rw [List.getElem?_drop] at h1
    exact (List.getElem?_eq_some_iff.1 h1).2
  rw [he] at c1 c2 c3
  refine ⟨o + i * 3, rfl, ?_, ?_, ?_⟩
  · rw [show o + i * 3 + j * 3 = o + (i + j) * 3 by omega]; exact c1
  · rw [show o + i * 3 + j * 3 + 1 = o + (i + j) * 3 + 1 by omega]; exact c2
  · rw [show o + i * 3 + j * 3 + 2 = o + (i + j) * 3 + 2 by omega]; exact c3

set_option maxRecDepth 100000 in
set_option maxHeartbeats 4000000 in
theorem wflat_no (B b s be bf : Nat) (ds : List Nd) (a : Option Addr) (cap : Nat) (i : Nat) (t : Tr) (r : List Nd) (l : List UInt8) (cv : Value) (w : World) (ht : t.Wf) (hd : ds.drop i = t.nodes ++ r) (hC : LC B s be bf a ds w) (hW : WS B b (plOf be bf ds.length cap a) l cv w) (hf : t.isFlat = false) :
    Calls Tryz.prog 136 #[.pointer (some ⟨b, 0, none⟩), .int .i64 i] w fun e w' => e = .returned (errN 4) ∧ Below B w w' := by
  have hi := drop_lt hd
  have c2 := hW.c2
  have k2 := (hC.kn i t r (Nat.zero_le _) ht hd).2
  rw [hf] at k2
  have hiI : (i : Int) < (ds.length : Int) := by omega
  rw [errN_4]
  clear hC hW hd
  go_enter Tryz.func136, Tryz.ntmps136
  go_wp2
  go_ret
  exact ⟨rfl, Below.refl _ _⟩

set_option maxRecDepth 100000 in
set_option maxHeartbeats 4000000 in
theorem wflat_yes (B b s be bf : Nat) (hb : s < B ∧ be < B ∧ bf < B) (hB : B ≤ b) (ds : List Nd) (a : Option Addr) (cap : Nat) (hcap : ds.length ≤ cap) (hl : ds.length ≤ 400) (i : Nat) (t : Tr) (r : List Nd) (l : List UInt8) (cv : Value) (w : World) (ht : t.Wf) (hd : ds.drop i = t.nodes ++ r) (hC : LC B s be bf a ds w) (hW : WS B b (plOf be bf ds.length cap a) l cv w) (hf : t.isFlat = true) (hsz : l.length ≤ 1000000000) :
    Calls Tryz.prog 136 #[.pointer (some ⟨b, 0, none⟩), .int .i64 i] w fun e w' => e = .returned .nilIface ∧ WS B b (plOf be bf ds.length cap a) (l ++ t.line.data.toList) cv w' ∧ Below B w w' := by
  have hi := drop_lt hd
  have c0 := hW.c0
  have c1 := hW.c1
  have c2 := hW.c2
  obtain ⟨k1, k2⟩ := hC.kn i t r (Nat.zero_le _) ht hd
  rw [hf] at k2
  obtain ⟨o0, ea, _, _, _⟩ := hC.nd i hi
  subst ea
  have hlt := hW.lt
  have hbs : B ≤ w.heap.size := by omega
  have hiI : (i : Int) < (ds.length : Int) := by omega
  have hlen : i + t.nodes.length ≤ ds.length := by
    have := congrArg List.length hd
    rw [List.length_drop, List.length_append] at this
    omega
  have hp := t.pos
  have hn : Nods w (some ⟨s, o0 + i * 3, none⟩) t.nodes := (hC.nd.part hd).nods (by omega)
  have hlf : t.line.size ≤ 8000 := by have := flat_le t ht; rw [line_size]; omega
  generalize hj : i + t.nodes.length = j at k1 hlen
  have hnl : t.nodes.length = j - i := by omega
  have HFL : Hid (∀ W : World, Below w.heap.size w W → Calls Tryz.prog 22 #[.slice (some ⟨s, o0 + i * 3, none⟩) (j - i) (cap - i)] W fun e w' => e = .returned (.tuple #[.string t.line, .bool true, .nilIface]) ∧ Below W.heap.size W w') := fun W hW => by
    have := flat_ok t.nodes t rfl ht (by omega) (some ⟨s, o0 + i * 3, none⟩) (cap - i) (by omega) W (hn.below hW)
    rw [hf, hnl] at this
    exact this
  have h1 : (i : Int) ≤ (j : Int) := by omega
  have hbe : be < w.heap.size := by omega
  have hp0 : (0 : Int) ≤ (i : Int) := by omega
  have hpj : (0 : Int) ≤ (j : Int) := by omega
  have hic : (i : Int) < (cap : Int) := by omega
  have hci : ¬ (cap - i = 0) := by omega
  have hcj : ¬ (cap = i) := by omega
  have hij : ((j : Int) - (i : Int)).toNat = j - i := by omega
  have hcij : ((cap : Int) - (i : Int)).toNat = cap - i := by omega
  have h2 : (j : Int) ≤ (cap : Int) := by omega
  have h3 : (j : Int) ≤ (ds.length : Int) := by omega
  have HW : Hid (WS B b (plOf be bf ds.length cap (some ⟨s, o0, none⟩)) l cv w) := hW
  clear hC hW hd hn hnl
  go_enter Tryz.func136, Tryz.ntmps136
  go_wp2_with fail
  go_region_held3 (fun w' => w'.cell? ⟨b, 0, none⟩ = some (.slice (some ⟨s, o0, none⟩) ds.length cap) ∧ w'.cell? ⟨b, 1, none⟩ = some (.slice (some ⟨be, 0, none⟩) ds.length ds.length) ∧ w'.cell? ⟨be, i, none⟩ = some (.int .i64 (j : Int)))
    (first | exact ⟨c0, c1, k1⟩ | exact ⟨((bcell hb2).1 _ _ hlt).trans c0, ((bcell hb2).1 _ _ hlt).trans c1, ((bcell hb2).1 _ _ hbe).trans k1⟩)
    (first | (go_at_call 22; refine (HFL.out _ (Below.drew (Below.refl _ w))).mono ?_; rintro e w2 ⟨rfl, hb2⟩))
  all_goals
    have HW2 : Hid (WS B b (plOf be bf ds.length cap (some ⟨s, o0, none⟩)) l cv w2) := WS.below (WS.drew HW.out) hb2
    have HB2 : Hid (Below B w w2) := (Below.drew (Below.refl B w)).trans (hb2.mono hbs)
    clear hb2
    go_wp2_with fail
    refine (wstr HW2.out hB t.line (by omega)).mono ?_
    rintro e w3 ⟨⟨z, rfl⟩, h3, hb3⟩
    go_wp2
    go_ret
    exact ⟨rfl, h3, HB2.out.trans hb3⟩
end Go.Proofs.YtmbeamcjpidnjaaGreatDoor
