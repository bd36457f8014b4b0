/- (*way.writer).layFlat: a doc in one line goes to the text. -/
import Derived.Test.YtfabfclbnekleaaWLay
namespace Go.Proofs.Ytfabfclbnekleaa
open Go Go.RowKit

/-- A part of a doc's nodes. -/
theorem NodsS.part {s o i : Nat} {w : World} {ds A r : List Nd} (h : NodsS s w (some ⟨s, o, none⟩) ds) (hd : ds.drop i = A ++ r) : NodsS s w (some ⟨s, o + i * 3, none⟩) A := by
  intro j hj
  have hl := congrArg List.length hd
  rw [List.length_drop, List.length_append] at hl
  have hij : i + j < ds.length := by omega
  obtain ⟨o', e, c1, c2, c3⟩ := h (i + j) hij
  simp only [Option.some.injEq, Addr.mk.injEq, and_true, true_and] at e
  subst e
  have he : ds[i + j] = A[j] := by
    have h1 : (ds.drop i)[j]? = some A[j] := by rw [hd, List.getElem?_append_left hj]; simp
    rw [List.getElem?_drop] at h1
    exact (List.getElem?_eq_some_iff.1 h1).2
  rw [he] at c1 c2 c3
  refine ⟨o + i * 3, rfl, ?_, ?_, ?_⟩
  · rw [show o + i * 3 + j * 3 = o + (i + j) * 3 by omega]; exact c1
  · rw [show o + i * 3 + j * 3 + 1 = o + (i + j) * 3 + 1 by omega]; exact c2
  · rw [show o + i * 3 + j * 3 + 2 = o + (i + j) * 3 + 2 by omega]; exact c3

set_option maxRecDepth 100000 in
set_option maxHeartbeats 4000000 in
theorem wflat_no (B b s be bf : Nat) (ds : List Nd) (a : Option Addr) (cap : Nat) (i : Nat) (t : Tr) (r : List Nd) (l : List UInt8) (cv : Value) (w : World) (ht : t.Wf) (hd : ds.drop i = t.nodes ++ r) (hC : LC B s be bf a ds w) (hW : WS B b (plOf be bf ds.length cap a) l cv w) (hf : t.isFlat = false) :
    Calls Try.prog 65 #[.pointer (some ⟨b, 0, none⟩), .int .i64 i] w fun e w' => e = .returned (errN 4) ∧ Below B w w' := by
  have hi := drop_lt hd
  have c2 := hW.c2
  have k2 := (hC.kn i t r (Nat.zero_le _) ht hd).2
  rw [hf] at k2
  have hiI : (i : Int) < (ds.length : Int) := by omega
  rw [errN_4]
  clear hC hW hd
  go_enter Try.func65, Try.ntmps65
  go_wp2
  go_ret
  exact ⟨rfl, Below.refl _ _⟩

set_option maxRecDepth 100000 in
set_option maxHeartbeats 4000000 in
theorem wflat_yes (B b s be bf : Nat) (hb : s < B ∧ be < B ∧ bf < B) (hB : B ≤ b) (ds : List Nd) (a : Option Addr) (cap : Nat) (hcap : ds.length ≤ cap) (hl : ds.length ≤ 400) (i : Nat) (t : Tr) (r : List Nd) (l : List UInt8) (cv : Value) (w : World) (ht : t.Wf) (hd : ds.drop i = t.nodes ++ r) (hC : LC B s be bf a ds w) (hW : WS B b (plOf be bf ds.length cap a) l cv w) (hf : t.isFlat = true) (hsz : l.length ≤ 1000000000) :
    Calls Try.prog 65 #[.pointer (some ⟨b, 0, none⟩), .int .i64 i] w fun e w' => e = .returned .nilIface ∧ WS B b (plOf be bf ds.length cap a) (l ++ t.line.data.toList) cv w' ∧ Below B w w' := by
  have hi := drop_lt hd
  have c0 := hW.c0
  have c1 := hW.c1
  have c2 := hW.c2
  obtain ⟨k1, k2⟩ := hC.kn i t r (Nat.zero_le _) ht hd
  rw [hf] at k2
  obtain ⟨o0, ea, _, _, _⟩ := hC.nd i hi
  subst ea
  have hlt := hW.lt
  have hbs : B ≤ w.heap.size := by omega
  have hiI : (i : Int) < (ds.length : Int) := by omega
  have hlen : i + t.nodes.length ≤ ds.length := by
    have := congrArg List.length hd
    rw [List.length_drop, List.length_append] at this
    omega
  have hp := t.pos
  have hn : Nods w (some ⟨s, o0 + i * 3, none⟩) t.nodes := (hC.nd.part hd).nods (by omega)
  have hlf : t.line.size ≤ 8000 := by have := flat_le t ht; rw [line_size]; omega
  generalize hj : i + t.nodes.length = j at k1 hlen
  have hnl : t.nodes.length = j - i := by omega
  have HFL : Hid (∀ W : World, Below w.heap.size w W → Calls Try.prog 11 #[.slice (some ⟨s, o0 + i * 3, none⟩) (j - i) (cap - i)] W fun e w' => e = .returned (.tuple #[.string t.line, .bool true, .nilIface]) ∧ Below W.heap.size W w') := fun W hW => by
    have := flat_ok t.nodes t rfl ht (by omega) (some ⟨s, o0 + i * 3, none⟩) (cap - i) (by omega) W (hn.below hW)
    rw [hf, hnl] at this
    exact this
  have h1 : (i : Int) ≤ (j : Int) := by omega
  have hbe : be < w.heap.size := by omega
  have hp0 : (0 : Int) ≤ (i : Int) := by omega
  have hpj : (0 : Int) ≤ (j : Int) := by omega
  have hic : (i : Int) < (cap : Int) := by omega
  have hci : ¬ (cap - i = 0) := by omega
  have hcj : ¬ (cap = i) := by omega
  have hij : ((j : Int) - (i : Int)).toNat = j - i := by omega
  have hcij : ((cap : Int) - (i : Int)).toNat = cap - i := by omega
  have h2 : (j : Int) ≤ (cap : Int) := by omega
  have h3 : (j : Int) ≤ (ds.length : Int) := by omega
  have HW : Hid (WS B b (plOf be bf ds.length cap (some ⟨s, o0, none⟩)) l cv w) := hW
  clear hC hW hd hn hnl
  go_enter Try.func65, Try.ntmps65
  go_wp2_with fail
  go_region_held3 (fun w' => w'.cell? ⟨b, 0, none⟩ = some (.slice (some ⟨s, o0, none⟩) ds.length cap) ∧ w'.cell? ⟨b, 1, none⟩ = some (.slice (some ⟨be, 0, none⟩) ds.length ds.length) ∧ w'.cell? ⟨be, i, none⟩ = some (.int .i64 (j : Int)))
    (first | exact ⟨c0, c1, k1⟩ | exact ⟨((bcell hb2).1 _ _ hlt).trans c0, ((bcell hb2).1 _ _ hlt).trans c1, ((bcell hb2).1 _ _ hbe).trans k1⟩)
    (first | (go_at_call 11; refine (HFL.out _ (Below.drew (Below.refl _ w))).mono ?_; rintro e w2 ⟨rfl, hb2⟩))
  all_goals
    have HW2 : Hid (WS B b (plOf be bf ds.length cap (some ⟨s, o0, none⟩)) l cv w2) := WS.below (WS.drew HW.out) hb2
    have HB2 : Hid (Below B w w2) := (Below.drew (Below.refl B w)).trans (hb2.mono hbs)
    clear hb2
    go_wp2_with fail
    refine (wstr HW2.out hB t.line (by omega)).mono ?_
    rintro e w3 ⟨⟨z, rfl⟩, h3, hb3⟩
    go_wp2
    go_ret
    exact ⟨rfl, h3, HB2.out.trans hb3⟩
end Go.Proofs.Ytfabfclbnekleaa
