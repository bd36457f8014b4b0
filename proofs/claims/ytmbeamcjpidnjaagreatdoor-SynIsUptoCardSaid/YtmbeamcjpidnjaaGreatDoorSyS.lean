/- slices.Concat of three rows of nodes. (slices.Grow after the shelf's contract.) -/
import Derived.Test.YtmbeamcjpidnjaaGreatDoorRdAs
import Derived.Test.YtmbeamcjpidnjaaGreatDoorMems
import Derived.Lib.AppendZerosOnto
import Derived.Lib.SliceRun
namespace Go.Proofs.YtmbeamcjpidnjaaGreatDoor
open Go Go.RowKit
set_option maxRecDepth 100000

set_option maxHeartbeats 2000000 in
theorem ygrow_any (n : Nat) (h1 : 0 < n) (hn : n ≤ 1000000) (w : World) :
    Calls Tryz.prog 186 #[.slice none 0 0, .int .i64 (n : Int)] w fun e w' => ∃ c, e = .returned (.slice (some ⟨w.heap.size, 0, none⟩) 0 c) ∧ TdsO w.heap.size (.slice (some ⟨w.heap.size, 0, none⟩) 0 c) [] w' ∧ Below w.heap.size w w' := by
  obtain ⟨i0, hi, hz0, hz1, hz2⟩ := info_parts tdInfo
  have hrz : ∀ ty, (Builtin.append_ #[40, 3] ty #[.slice none 0 0, .int .i64 (n : Int)]).run Tryz.prog w =
      .ok (.slice (some ⟨w.heap.size, 0, none⟩) n (grownCap w n 0 39)) (w.drew.alloc (.cells (#[] ++ Builtin.zeroCells (Value.agg #[.int .i64 0, .string ⟨#[]⟩, .int .i64 0]).cells n ++ Builtin.zeroCells (Value.agg #[.int .i64 0, .string ⟨#[]⟩, .int .i64 0]).cells (grownCap w n 0 39 - n)) 39)) := fun ty => by
    have hold : (Builtin.firstCells i0.size 0 (.slice none 0 0)).run Tryz.prog w.drew = .ok ([] : List Value).toArray w.drew := run_firstCells_none w.drew i0.size 0 0 0
    have h := Lib.run_append_grow_zeros w 40 3 ty 39 i0 _ .i64 .i64 Tryz.underlying40 Tryz.underlying3 hi hz0 none 0 0 [] hold n h1 (by omega) (by omega) (by omega) (by rw [hz2]; omega) (growslice_fits (by omega) (by rw [hz2]; omega))
    simp only [Nat.zero_add] at h
    exact h
  have hGn : n ≤ grownCap w n 0 39 := grownCap_ge w _ _ _
  have hGm := grownCap_le_maxLen w n 0 39 (by unfold maxLen; omega)
  generalize grownCap w n 0 39 = G at hrz hGn hGm
  have hG63 : G ≤ 9223372036854775807 := by unfold maxLen at hGm; omega
  have HO : Hid (TdsO w.heap.size (.slice (some ⟨w.heap.size, 0, none⟩) 0 G) [] (w.drew.alloc (.cells (#[] ++ Builtin.zeroCells (Value.agg #[.int .i64 0, .string ⟨#[]⟩, .int .i64 0]).cells n ++ Builtin.zeroCells (Value.agg #[.int .i64 0, .string ⟨#[]⟩, .int .i64 0]).cells (G - n)) 39))) := by
    refine ⟨rfl, .inr ⟨w.heap.size, G, _, rfl, Nat.le_refl _, heap_alloc_new w.drew _, Nat.zero_le _, hGm, ?_, rfl⟩⟩
    simp only [Array.size_append, size_zeroCells, Array.size_empty]
    show 0 + n * 3 + (G - n) * 3 = G * 3
    omega
  have hni : (0 : Int) < (n : Int) := by omega
  generalize (#[] ++ Builtin.zeroCells (Value.agg #[.int .i64 0, .string ⟨#[]⟩, .int .i64 0]).cells n ++ Builtin.zeroCells (Value.agg #[.int .i64 0, .string ⟨#[]⟩, .int .i64 0]).cells (G - n)) = Z at hrz HO
  clear hi hz0 hz1 hz2 hGm
  go_enter Tryz.func186, Tryz.ntmps186
  go_wp2_with (at_builtin; refine Lib.wpList_append_run _ rfl _ _ _ _ rfl _ _ rfl rfl _ _ (hrz _) ?_)
  go_ret
  exact ⟨G, rfl, HO.out, Below.drew ((Below.refl _ _).alloc (Nat.le_refl _) _)⟩
/-- Rows of nodes in a row. -/
def PrgN (w : World) (a : Option Addr) (ps : List (List Td)) : Prop :=
  ∀ i (h : i < ps.length), ∃ b o a' c', a = some ⟨b, o, none⟩ ∧ b < w.heap.size ∧ w.cell? ⟨b, o + i, none⟩ = some (.slice a' ps[i].length c') ∧ ps[i].length ≤ c' ∧ Tds w a' ps[i] ∧ (a' = none → ps[i].length = 0 ∧ c' = 0)
theorem PrgN.below {w w' : World} {a : Option Addr} {ps : List (List Td)} (h : PrgN w a ps) (hb : Below w.heap.size w w') : PrgN w' a ps := by
  intro i hi
  obtain ⟨b, o, a', c', e, hlt, c1, c2, c3, c4⟩ := h i hi
  exact ⟨b, o, a', c', e, Nat.lt_of_lt_of_le hlt hb.size, (hb.cell (p := ⟨b, _, none⟩) hlt).trans c1, c2, c3.below hb, c4⟩
theorem flat_take {ps : List (List Td)} {i : Nat} (h : i < ps.length) : (ps.take (i + 1)).flatten = (ps.take i).flatten ++ ps[i] := by
  rw [List.take_succ_eq_append_getElem h, List.flatten_append]; simp
theorem flatn_le (ps : List (List Td)) (i : Nat) : (ps.take i).flatten.length ≤ ps.flatten.length := by
  have h : ps.flatten = (ps.take i).flatten ++ (ps.drop i).flatten := by rw [← List.flatten_append, List.take_append_drop]
  rw [h, List.length_append]; omega
/-- What the second loop keeps. -/
structure CcAt (w : World) (ps : List (List Td)) (i : Nat) (v : Value) (wr : World) : Prop where
  le : i ≤ ps.length
  o : TdsO w.heap.size v (ps.take i).flatten wr
  b : Below w.heap.size w wr
set_option maxHeartbeats 4000000 in
theorem yconcat_any (ps : List (List Td)) (a : Option Addr) (c : Nat) (w : World) (hP : PrgN w a ps) (h0 : 0 < ps.flatten.length) (hl : ps.flatten.length ≤ 900000) (hp : ps.length ≤ 10) :
    Calls Tryz.prog 168 #[.slice a ps.length c] w fun e w' => ∃ A c', e = .returned (.slice A ps.flatten.length c') ∧ TdsO w.heap.size (.slice A ps.flatten.length c') ps.flatten w' ∧ Below w.heap.size w w' := by
  have HP : Hid (PrgN w a ps) := hP
  have HG : Hid (Calls Tryz.prog 186 #[.slice none 0 0, .int .i64 (ps.flatten.length : Int)] w fun e w' => ∃ c, e = .returned (.slice (some ⟨w.heap.size, 0, none⟩) 0 c) ∧ TdsO w.heap.size (.slice (some ⟨w.heap.size, 0, none⟩) 0 c) [] w' ∧ Below w.heap.size w w') := ygrow_any ps.flatten.length h0 (by omega) w
  clear hP
  generalize hN : ps.flatten.length = N at HG h0 hl ⊢
  have HN : Hid (ps.flatten.length = N) := hN
  clear hN
  go_enter Tryz.func168, Tryz.ntmps168
  go_wp2_with fail
  go_loopw [3, 11] (fun s x wr => w = wr ∧ ∃ i : Nat, i ≤ ps.length ∧ x = .int .i64 (i : Int) ∧ s = .int .i64 ((ps.take i).flatten.length : Int)) (fun _ x _ => ps.length - (intOf x).toNat)
  case atStart => exact ⟨rfl, 0, Nat.zero_le _, rfl, rfl⟩
  case round =>
    obtain ⟨rfl, i, hi, rfl, rfl⟩ := hrel
    by_cases hlt : i < ps.length
    · have hii : (i : Int) < (ps.length : Int) := by omega
      obtain ⟨b0, o0, A0, c0, rfl, hb0, d0, _, _, _⟩ := HP.out i hlt
      have hft := congrArg List.length (flat_take hlt)
      rw [List.length_append] at hft
      have hfl := flatn_le ps (i + 1)
      rw [HN.out] at hfl
      have HF := (show Hid (_ = _) from hft)
      have hs1 : (ps.take i).flatten.length + ps[i].length ≤ 900000 := by omega
      clear hft hfl
      generalize ps[i].length = pn at HF d0 hs1
      generalize (ps.take i).flatten.length = sn at HF hs1 ⊢
      have hs2 : ¬ (sn : Int) + (pn : Int) < 0 := by omega
      go_wp2
      refine ⟨⟨trivial, i + 1, hlt, by go_num, ?_⟩, ?_⟩
      · rw [HF.out]; go_num
      · simp [intOf]; omega
    · have hii : ¬ (i : Int) < (ps.length : Int) := by omega
      have hie : (ps.take i).flatten.length = N := by rw [List.take_of_length_le (by omega)]; exact HN.out
      rw [hie]
      clear hie
      go_wp2_with fail
      refine HG.out.mono ?_
      rintro e w1 ⟨c1, rfl, ho1, b1⟩
      have HC1 : Hid (CcAt w ps 0 (.slice (some ⟨w.heap.size, 0, none⟩) 0 c1) w1) := ⟨Nat.zero_le _, ho1, b1⟩
      clear ho1 b1
      go_wp2_with fail
      go_loopw [6, 27] (fun v x w' => ∃ (i : Nat) (A : Option Addr) (n c : Nat), x = .int .i64 (i : Int) ∧ v = .slice A n c ∧ n = (ps.take i).flatten.length ∧ CcAt w ps i (.slice A n c) w') (fun _ x _ => ps.length - (intOf x).toNat)
      case atStart => exact ⟨0, _, _, _, rfl, rfl, rfl, HC1.out⟩
      case round =>
        obtain ⟨i, A, n, c2, rfl, rfl, hn, hC⟩ := hrel
        have hfl := flatn_le ps i
        rw [HN.out, ← hn] at hfl
        by_cases hlt : i < ps.length
        · have hii : (i : Int) < (ps.length : Int) := by omega
          obtain ⟨b0, o0, A0, c0, rfl, hb0, d0, _, hT, hnil⟩ := HP.out.below hC.b i hlt
          have hft := flat_take hlt
          have hfl2 := flatn_le ps (i + 1)
          rw [hft, List.length_append, HN.out, ← hn] at hfl2
          have HF := (show Hid (_ = _) from hft)
          have HO : Hid (TdsO w.heap.size (.slice A n c2) (ps.take i).flatten wr) := hC.o
          have HB : Hid (Below w.heap.size w wr) := hC.b
          have hsz := hC.b.size
          have HT : Hid (Tds wr A0 ps[i]) := hT
          have HNI : Hid (A0 = none → ps[i].length = 0 ∧ c0 = 0) := hnil
          have HL : Hid ((ps.take i).flatten.length = n) := hn.symm
          have HPL : Hid (∃ m, ps[i].length = m) := ⟨_, rfl⟩
          generalize hpn : ps[i].length = pn at d0 hfl2 HNI
          have HPN : Hid (ps[i].length = pn) := hpn
          clear hft hT hnil hn hC hpn HPL hfl
          go_wp2_with (at_builtin; refine app_tds rfl _ _ rfl w.heap.size _ (ps.take i).flatten rfl HO.out A0 pn ps[i] HPN.out c0 rfl HT.out HNI.out (n + pn) (by rw [HL.out]) (by omega) hsz ?_)
          intro A3 c3 w3 hown3 hgrow3
          have HX3 : Hid (CcAt w ps (i + 1) (.slice A3 (n + pn) c3) w3) := by
            refine ⟨hlt, ?_, HB.out.grown hgrow3 hsz (fun k hk => (World.ownsRow.lt HO.out k hk).1)⟩
            rw [HF.out]
            exact hown3
          clear hown3 hgrow3
          go_wp2
          refine ⟨⟨i + 1, A3, n + pn, c3, by go_num, rfl, ?_, HX3.out⟩, ?_⟩
          · rw [HF.out, List.length_append, HL.out, HPN.out]
          · simp [intOf]; omega
        · have hii : ¬ (i : Int) < (ps.length : Int) := by omega
          have hie : ps.take i = ps := List.take_of_length_le (by omega)
          obtain ⟨_, ho, hb⟩ := hC
          rw [hie] at ho hn
          rw [HN.out] at hn
          subst hn
          have HO : Hid (TdsO w.heap.size (.slice A n c2) ps.flatten wr) := ho
          have HB : Hid (Below w.heap.size w wr) := hb
          clear ho hb hie
          go_wp2
          go_ret
          exact ⟨A, c2, rfl, HO.out, HB.out⟩
end Go.Proofs.YtmbeamcjpidnjaaGreatDoor
