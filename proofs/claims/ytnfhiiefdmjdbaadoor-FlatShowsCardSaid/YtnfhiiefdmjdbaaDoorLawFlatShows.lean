/- The walk of the law FlatShows. -/
import Derived.Test.YtnfhiiefdmjdbaaDoorShowW
import Derived.Test.YtnfhiiefdmjdbaaDoorNodApp
import Derived.Test.YtnfhiiefdmjdbaaDoorTold
namespace Go.Proofs.YtnfhiiefdmjdbaaDoor
open Go Go.RowKit

theorem nods_ne' {w : World} {a : Option Addr} {ds : List Nd} (h : Nods w a ds) (h0 : ds ≠ []) : ∃ b o, a = some ⟨b, o, none⟩ ∧ b < w.heap.size := by
  have hl : 0 < ds.length := List.length_pos_iff.2 h0
  obtain ⟨b, o, e, hb, _⟩ := h 0 hl
  exact ⟨b, o, e, hb⟩

/-- The law's fact. -/
theorem fact_flat3 (w : World) : Calls Tryd.prog 26 #[.slice (some ⟨w.heap.size, 0, none⟩) 3 3] (w.alloc (.cells #[.int .i64 6, .string ⟨#[]⟩, .int .i64 0, .int .i64 1, .string ⟨#[97]⟩, .int .i64 0, .int .i64 2, .string ⟨#[]⟩, .int .i64 0] 48))
    fun e w' => e = .returned (.tuple #[.string ⟨#[97, 32]⟩, .bool true, .nilIface]) ∧ Below w.heap.size w w' := by
  have ht : Tr.Wf (.two ⟨6, ⟨#[]⟩, 0⟩ (.leaf ⟨1, ⟨#[97]⟩, 0⟩) (.leaf ⟨2, ⟨#[]⟩, 0⟩)) := ⟨by decide +kernel, by decide +kernel, ⟨by decide +kernel, by decide +kernel⟩, ⟨by decide +kernel, by decide +kernel⟩⟩
  refine (flat_ok [⟨6, ⟨#[]⟩, 0⟩, ⟨1, ⟨#[97]⟩, 0⟩, ⟨2, ⟨#[]⟩, 0⟩] _ rfl ht (by simp) (some ⟨w.heap.size, 0, none⟩) 3 (by simp) _ ?_).mono ?_
  · intro i hi
    have h3 : i = 0 ∨ i = 1 ∨ i = 2 := by simp at hi; omega
    rcases h3 with rfl | rfl | rfl
    all_goals exact ⟨w.heap.size, 0, rfl, by simp, by simp [go_sem], by simp [go_sem], by simp [go_sem]⟩
  · rintro e w' ⟨rfl, hb⟩
    exact ⟨rfl, ((Below.refl _ w).alloc (Nat.le_refl _) _).trans (hb.mono (by simp))⟩

set_option maxRecDepth 100000 in
set_option maxHeartbeats 4000000 in
theorem flatShows_a (ds : List Nd) (a : Option Addr) (cap : Nat) (hc : ds.length ≤ cap) (w : World) (hN : Nods w a ds) (h : docF ds ≠ 0) :
    Calls Tryd.prog 7 #[.slice a ds.length cap] w fun e w' => e = .returned (.bool true) ∧ Below w.heap.size w w' := by
  have HN : Hid (Nods w a ds) := hN
  have H : Hid (docF ds ≠ 0) := h
  clear hN h
  go_enter Tryd.func7, Tryd.ntmps7
  go_wp2_with fail
  refine (fact_flat3 w).mono ?_
  rintro e w1 ⟨rfl, b1⟩
  go_wp2_with fail
  refine (flat_any ds a cap hc _ (HN.out.below b1)).mono ?_
  rintro e w2 ⟨rfl, b2⟩
  have B2 := belowT b1 (Nat.le_refl _) b2
  clear b1 b2
  rw [errN_ne H.out]
  go_wp2
  go_ret
  exact ⟨rfl, B2⟩

set_option maxRecDepth 100000 in
set_option maxHeartbeats 4000000 in
theorem flatShows_b (ds : List Nd) (a : Option Addr) (cap : Nat) (hc : ds.length ≤ cap) (w : World) (hN : Nods w a ds) (h : docF ds = 0) (hl : (400 : Int) ≤ ds.length) :
    Calls Tryd.prog 7 #[.slice a ds.length cap] w fun e w' => e = .returned (.bool true) ∧ Below w.heap.size w w' := by
  have HN : Hid (Nods w a ds) := hN
  have H : Hid (docF ds = 0) := h
  clear hN h
  go_enter Tryd.func7, Tryd.ntmps7
  go_wp2_with fail
  refine (fact_flat3 w).mono ?_
  rintro e w1 ⟨rfl, b1⟩
  go_wp2_with fail
  refine (flat_any ds a cap hc _ (HN.out.below b1)).mono ?_
  rintro e w2 ⟨rfl, b2⟩
  have B2 := belowT b1 (Nat.le_refl _) b2
  clear b1 b2
  rw [H.out, errN_0]
  go_wp2
  go_ret
  exact ⟨rfl, B2⟩

set_option maxRecDepth 100000 in
set_option maxHeartbeats 4000000 in
theorem flatShows_c (ds : List Nd) (a : Option Addr) (cap : Nat) (hc : ds.length ≤ cap) (w : World) (hN : Nods w a ds) (hg : Hnd w) (h : docF ds = 0) (hl : ds.length < 400) :
    Calls Tryd.prog 7 #[.slice a ds.length cap] w fun e w' => e = .returned (.bool true) ∧ Below w.heap.size w w' := by
  obtain ⟨i0, hi, hz0, hz1, hz2⟩ := info_parts ndInfo
  have hd0 : ds ≠ [] := fun hh => by subst hh; obtain ⟨_, _, e1⟩ := docF_zero h; cases e1
  obtain ⟨bd, od, rfl, hbd⟩ := nods_ne' hN hd0
  have q := showD_group h (by omega)
  have hno := flS_no10 ds
  have hnn : flB ds = false → flS ds = ⟨#[]⟩ := flS_none
  have hsl := flS_len ds
  generalize hgs : (⟨8, ⟨#[]⟩, 0⟩ :: ds : List Nd) = gs at q
  have HG : Hid ((⟨8, ⟨#[]⟩, 0⟩ :: ds : List Nd) = gs) := hgs
  have HGL : Hid (gs.length = 1 + ds.length) := (show _ = _ by rw [← hgs]; simp; omega)
  have HN : Hid (Nods w (some ⟨bd, od, none⟩) ds) := hN
  have HH : Hid (Hnd w) := hg
  have H : Hid (docF ds = 0) := h
  have hl' : ¬ (400 : Int) ≤ ds.length := by omega
  generalize hsx : flS ds = sx at q hno hnn hsl
  have HS : Hid (flS ds = sx) := hsx
  have HNO : Hid (∀ b ∈ sx.data.toList, b ≠ 10) := hno
  clear hN hg h hgs hsx hno
  cases hf : flB ds
  case' true =>
    have HQ := (show Hid (shS (showD gs [0]) = sx ∧ shE (showD gs [0]) = 0) from ⟨by rw [q, if_pos hf]; exact bytes_inj (by simp [shS]), by rw [q, if_pos hf]; rfl⟩)
  case' false =>
    have HQ := (show Hid (shS (showD gs [0]) = ⟨#[]⟩ ∧ shE (showD gs [0]) = 4) from ⟨by rw [q, hf]; rfl, by rw [q, hf]; rfl⟩)
    obtain rfl := hnn hf
  all_goals
    have HF := (show Hid (flB ds = _) from hf)
    clear hf q hnn
    go_enter Tryd.func7, Tryd.ntmps7
    go_wp2_with fail
    refine (fact_flat3 w).mono ?_
    rintro e w1 ⟨rfl, b1⟩
    go_wp2_with fail
    refine (flat_any ds (some ⟨bd, od, none⟩) cap hc _ (HN.out.below b1)).mono ?_
    rintro e w2 ⟨rfl, b2⟩
    have B2 := belowT b1 (Nat.le_refl _) b2
    clear b1 b2
    rw [H.out, errN_0, HF.out, HS.out]
    have HO : Hid ((w2.alloc (.cells #[.int .i64 8, .string ⟨#[]⟩, .int .i64 0] 48)).ownsRow w2.heap.size 48 3 (.slice (some ⟨w2.heap.size, 0, none⟩) 1 1) 1 (ndCells [⟨8, ⟨#[]⟩, 0⟩])) :=
      ⟨rfl, .inr ⟨w2.heap.size, 1, #[.int .i64 8, .string ⟨#[]⟩, .int .i64 0], rfl, Nat.le_refl _, heap_alloc_new w2 _, Nat.le_refl _, by unfold maxLen; decide, rfl, rfl⟩⟩
    go_wp2_with (at_builtin; refine wpList_append_own _ rfl _ _ 37 rfl w2.heap.size 48 i0 _ 3 32 Tryd.underlying37 hi hz0 hz1 hz2 rfl (by decide) _ _ _ rfl HO.out ⟨bd, od, none⟩ ds.length cap (ndCells ds) rfl (ndCells_len ds) ?c1 (ndCells_one ds) ?c3 ?c4 ?c5 ?_)
    case c1 => exact nods_news ((HN.out.below B2).alloc _)
    case c3 => unfold maxLen; omega
    case c4 => omega
    case c5 => simp
    intro v3 w3 hown3 hgrow3 _
    have HB3 : Hid (Below w.heap.size w w3) := by
      have h1 : Below w2.heap.size w2 w3 := ((Below.refl _ w2).alloc (Nat.le_refl _) _).grown hgrow3 (by simp) (fun k hk => by simp only [Value.ownBlock, Option.some.injEq] at hk; omega)
      exact belowT B2 (Nat.le_refl _) h1
    obtain ⟨a3, c3, rfl⟩ : ∃ a3 c3, v3 = .slice a3 gs.length c3 := by
      rcases hown3.2 with ⟨_, h0⟩ | ⟨g, c, cur, hv, _⟩
      · omega
      · exact ⟨_, c, by rw [hv, HGL.out]⟩
    have HO3 : Hid (w3.ownsRow w2.heap.size 48 3 (.slice a3 gs.length c3) gs.length (ndCells gs)) := by
      have e2 : ndCells gs = ndCells [⟨8, ⟨#[]⟩, 0⟩] ++ ndCells ds := by rw [← ndCells_app, ← HG.out]; rfl
      show w3.ownsRow _ _ _ _ _ _
      rw [e2]
      have := hown3
      rw [← HGL.out] at this
      exact this
    clear hown3 hgrow3 HO
    obtain ⟨_, q2, q3⟩ := own_nods HO3.out
    have HN3 : Hid (Nods w3 a3 gs) := q3
    clear q3
    have HSH : Hid (∀ O : Obj, O = .cells #[.int .i64 0] 3 → Calls Tryd.prog 28 #[.slice a3 gs.length c3, .slice (some ⟨w3.heap.size, 0, none⟩) 1 1] (w3.alloc O) fun e w' => e = .returned (.tuple #[.string (shS (showD gs [0])), errN (shE (showD gs [0]))]) ∧ Below w3.heap.size w3 w') := fun O hO => by
      subst hO
      refine (wshow_any gs [0] a3 (some ⟨w3.heap.size, 0, none⟩) c3 1 q2 (by simp) (by simp) _ (HN3.out.alloc _) ?_).mono ?_
      · intro i hi
        obtain rfl : i = 0 := by simp at hi; omega
        exact ⟨w3.heap.size, 0, rfl, by simp, by simp [go_sem]⟩
      · rintro e w' ⟨rfl, hb⟩
        exact ⟨rfl, ((Below.refl _ w3).alloc (Nat.le_refl _) _).trans (hb.mono (by simp))⟩
    go_wp2_with fail
    refine (HSH.out _ rfl).mono ?_
    rintro e w4 ⟨rfl, b4⟩
    have B4 : Below w.heap.size w w4 := belowT HB3.out (Nat.le_refl _) b4
    clear b4
    rw [HQ.out.1, HQ.out.2]
  · go_wp2_with fail
    refine (serr_any 4 4 _ (HH.out.below B4)).mono ?_
    rintro e w5 ⟨rfl, b5⟩
    go_wp2
    go_ret
    exact ⟨rfl, belowT B4 (Nat.le_refl _) b5⟩
  · rw [errN_0]
    go_wp2
    go_loopw [12] (fun i wr => wr = w4 ∧ ∃ k : Nat, k ≤ sx.size ∧ i = .int .i64 k) (fun i _ => sx.size - (intOf i).toNat)
    case atStart => exact ⟨rfl, 0, Nat.zero_le _, rfl⟩
    case round =>
      obtain ⟨rfl, k, hk, rfl⟩ := hrel
      by_cases hlt : k < sx.size
      · have hne := get_no10 HNO.out hlt
        go_wp2
        go_roundw
        case rel => exact ⟨by trivial, k + 1, by omega, by go_num⟩
        case measure => simp [intOf]; omega
      · go_wp2
        go_ret
        exact ⟨rfl, B4⟩

theorem flatShows_any (ds : List Nd) (a : Option Addr) (cap : Nat) (hc : ds.length ≤ cap) (w : World) (hN : Nods w a ds) (hg : Hnd w) :
    Calls Tryd.prog 7 #[.slice a ds.length cap] w fun e w' => e = .returned (.bool true) ∧ Below w.heap.size w w' := by
  by_cases h : docF ds = 0
  · by_cases hl : ds.length < 400
    · exact flatShows_c ds a cap hc w hN hg h hl
    · exact flatShows_b ds a cap hc w hN h (by omega)
  · exact flatShows_a ds a cap hc w hN h
end Go.Proofs.YtnfhiiefdmjdbaaDoor
