/- Words of a program: what LexOf and Words hand back. -/
import Derived.Test.YtlogepdifapciabDoorLexS
namespace Go.Proofs.YtlogepdifapciabDoor
open Go Go.RowKit

set_option maxRecDepth 100000 in
set_option maxHeartbeats 1000000 in
theorem lexOf_all (s : ByteArray) (w : World) : Calls Tryd.prog 15 #[.string s] w fun e w' => LexRes s w e w' ∧ Below w.heap.size w w' := by
  by_cases h : (btL s).length ≤ 60000
  · exact lexOf_any s w h
  · have HF : Hid (lexE (btL s) = 3 ∧ lexK (btL s) = 0) := lexE_long (by omega)
    have hsz : 60000 < (s.size : Int) := by rw [btL_len] at h; omega
    clear h
    go_enter Tryd.func15, Tryd.ntmps15
    go_wp2
    refine bodyPost_ret (v := .tuple #[.slice none 0 0, .slice none 0 0, .int .i64 0, .int .i64 3]) (by simp [results, Tryd.results15, go_sem]) rfl ?_
    exact ⟨.inl ⟨by rw [HF.out.1]; decide, by rw [HF.out.1, HF.out.2]; rfl⟩, Below.refl _ _⟩

/-- Places as numbers. -/
def plcZ (L : List UInt8) : List Int := (plcL L).map fun (k : Nat) => (k : Int)
def wdsS (L : List UInt8) : List ByteArray := (wdsL L).map wbS
theorem plcZ_len (L : List UInt8) : (plcZ L).length = (wdsL L).length := by rw [plcZ, List.length_map, wp_len]
theorem wdsS_len (L : List UInt8) : (wdsS L).length = (wdsL L).length := by rw [wdsS, List.length_map]
theorem numsO_ints {B : Nat} {w : World} {A : Option Addr} {n c : Nat} {ks : List Nat} (h : NumsO B (.slice A n c) ks w) : Ints w A (ks.map fun (k : Nat) => (k : Int)) := by
  intro j hj
  rw [List.length_map] at hj
  obtain ⟨g, rfl, hg, hc⟩ := numsO_cell h j hj
  exact ⟨g, 0, rfl, hg, by rw [Nat.zero_add, List.getElem_map]; exact hc⟩
theorem own_cap {w : World} {B e n m c : Nat} {A : Option Addr} {xs : List Value} (h : w.ownsRow B e 1 (.slice A m c) n xs) : m = n ∧ m ≤ c ∧ (A = none → m = 0 ∧ c = 0) := by
  rcases h.2 with ⟨hv, h0⟩ | ⟨g, c', cur, hv, _, hg, hnc, _, hsz, htake⟩
  · simp only [Value.slice.injEq] at hv
    obtain ⟨rfl, rfl, rfl⟩ := hv
    exact ⟨h0.symm, Nat.le_refl _, fun _ => ⟨rfl, rfl⟩⟩
  · simp only [Value.slice.injEq] at hv
    obtain ⟨rfl, rfl, rfl⟩ := hv
    exact ⟨rfl, by omega, fun h => by cases h⟩
/-- A row of words, a row of places. -/
structure TwoR (L : List UInt8) (A P : Option Addr) (ac pc : Nat) (w : World) : Prop where
  ws : Wds w A (wdsS L)
  ps : Ints w P (plcZ L)
  wl : (wdsL L).length ≤ ac
  pl : (wdsL L).length ≤ pc
  wn : A = none → (wdsL L).length = 0 ∧ ac = 0
  pn : P = none → (wdsL L).length = 0 ∧ pc = 0
theorem TwoR.below {L : List UInt8} {A P : Option Addr} {ac pc : Nat} {w w' : World} (h : TwoR L A P ac pc w) (hb : Below w.heap.size w w') : TwoR L A P ac pc w' :=
  { ws := h.ws.below hb, ps := h.ps.below hb, wl := h.wl, pl := h.pl, wn := h.wn, pn := h.pn }
theorem twoR_of {L : List UInt8} {B : Nat} {A P : Option Addr} {ac pc : Nat} {w : World} (h1 : StrsO B (.slice A (wdsL L).length ac) ((wdsL L).map wbS) w) (h2 : NumsO B (.slice P (wdsL L).length pc) (plcL L) w) : TwoR L A P ac pc w := by
  obtain ⟨_, a2, a3⟩ := own_cap h1
  obtain ⟨_, b2, b3⟩ := own_cap h2
  exact { ws := strsO_wds h1, ps := numsO_ints h2, wl := a2, pl := b2, wn := a3, pn := b3 }
theorem lex_few {L : List UInt8} (h : lexE L = 0) : (wdsL L).length ≤ 60000 := Nat.le_trans (wds_count L) (lexE_zero h).1
/-- What Words hands back. -/
def WordsRes (s : ByteArray) (e : Ending) (w' : World) : Prop :=
  (lexE (btL s) ≠ 0 ∧ e = .returned (.tuple #[.slice none 0 0, .slice none 0 0, .int .i64 ((lexK (btL s) : Nat) : Int), errN (lexE (btL s))])) ∨
  (lexE (btL s) = 0 ∧ ∃ A P ac pc, e = .returned (.tuple #[.slice A (wdsL (btL s)).length ac, .slice P (wdsL (btL s)).length pc, .int .i64 0, .nilIface]) ∧ TwoR (btL s) A P ac pc w')
end Go.Proofs.YtlogepdifapciabDoor
