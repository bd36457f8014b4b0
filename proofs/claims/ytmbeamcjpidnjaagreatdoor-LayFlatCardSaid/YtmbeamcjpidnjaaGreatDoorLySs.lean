/- Some texts as one: LyS, LyA. -/
import Derived.Test.YtmbeamcjpidnjaaGreatDoorLayDs
import Derived.Test.YtmbeamcjpidnjaaGreatDoorDocA0
import Derived.Lib.AppendZerosOnto
import Derived.Lib.SliceRun
import Derived.Test.YtmbeamcjpidnjaaGreatDoorMems
import Derived.Test.YtmbeamcjpidnjaaGreatDoorSyA
namespace Go.Proofs.YtmbeamcjpidnjaaGreatDoor
open Go Go.RowKit
set_option maxRecDepth 100000

set_option maxHeartbeats 2000000 in
theorem lgrow_any (n : Nat) (h1 : 0 < n) (hn : n ≤ 1000000) (w : World) :
    Calls Tryz.prog 177 #[.slice none 0 0, .int .i64 (n : Int)] w fun e w' => ∃ c, e = .returned (.slice (some ⟨w.heap.size, 0, none⟩) 0 c) ∧ NdsO w.heap.size (.slice (some ⟨w.heap.size, 0, none⟩) 0 c) [] w' ∧ Below w.heap.size w w' := by
  obtain ⟨i0, hi, hz0, hz1, hz2⟩ := info_parts ndInfo
  have hrz : ∀ ty, (Builtin.append_ #[46, 3] ty #[.slice none 0 0, .int .i64 (n : Int)]).run Tryz.prog w =
      .ok (.slice (some ⟨w.heap.size, 0, none⟩) n (grownCap w n 0 90)) (w.drew.alloc (.cells (#[] ++ Builtin.zeroCells (Value.agg #[.int .i64 0, .string ⟨#[]⟩, .int .i64 0]).cells n ++ Builtin.zeroCells (Value.agg #[.int .i64 0, .string ⟨#[]⟩, .int .i64 0]).cells (grownCap w n 0 90 - n)) 90)) := fun ty => by
    have hold : (Builtin.firstCells i0.size 0 (.slice none 0 0)).run Tryz.prog w.drew = .ok ([] : List Value).toArray w.drew := run_firstCells_none w.drew i0.size 0 0 0
    have h := Lib.run_append_grow_zeros w 46 3 ty 90 i0 _ .i64 .i64 Tryz.underlying46 Tryz.underlying3 hi hz0 none 0 0 [] hold n h1 (by omega) (by omega) (by omega) (by rw [hz2]; omega) (growslice_fits (by omega) (by rw [hz2]; omega))
    simp only [Nat.zero_add] at h
    exact h
  have hGn : n ≤ grownCap w n 0 90 := grownCap_ge w _ _ _
  have hGm := grownCap_le_maxLen w n 0 90 (by unfold maxLen; omega)
  generalize grownCap w n 0 90 = G at hrz hGn hGm
  have hG63 : G ≤ 9223372036854775807 := by unfold maxLen at hGm; omega
  have HO : Hid (NdsO w.heap.size (.slice (some ⟨w.heap.size, 0, none⟩) 0 G) [] (w.drew.alloc (.cells (#[] ++ Builtin.zeroCells (Value.agg #[.int .i64 0, .string ⟨#[]⟩, .int .i64 0]).cells n ++ Builtin.zeroCells (Value.agg #[.int .i64 0, .string ⟨#[]⟩, .int .i64 0]).cells (G - n)) 90))) := by
    refine ⟨rfl, .inr ⟨w.heap.size, G, _, rfl, Nat.le_refl _, heap_alloc_new w.drew _, Nat.zero_le _, hGm, ?_, rfl⟩⟩
    simp only [Array.size_append, size_zeroCells, Array.size_empty]
    show 0 + n * 3 + (G - n) * 3 = G * 3
    omega
  have hni : (0 : Int) < (n : Int) := by omega
  generalize (#[] ++ Builtin.zeroCells (Value.agg #[.int .i64 0, .string ⟨#[]⟩, .int .i64 0]).cells n ++ Builtin.zeroCells (Value.agg #[.int .i64 0, .string ⟨#[]⟩, .int .i64 0]).cells (G - n)) = Z at hrz HO
  clear hi hz0 hz1 hz2 hGm
  go_enter Tryz.func177, Tryz.ntmps177
  go_wp2_with (at_builtin; refine Lib.wpList_append_run _ rfl _ _ _ _ rfl _ _ rfl rfl _ _ (hrz _) ?_)
  go_ret
  exact ⟨G, rfl, HO.out, Below.drew ((Below.refl _ _).alloc (Nat.le_refl _) _)⟩
/-- Rows of nodes in a row. -/
def NdsN (w : World) (a : Option Addr) (ps : List (List Nd)) : Prop :=
  ∀ i (h : i < ps.length), ∃ b o a' c', a = some ⟨b, o, none⟩ ∧ b < w.heap.size ∧ w.cell? ⟨b, o + i, none⟩ = some (.slice a' ps[i].length c') ∧ Nods w a' ps[i] ∧ (a' = none → ps[i].length = 0 ∧ c' = 0)
theorem NdsN.below {w w' : World} {a : Option Addr} {ps : List (List Nd)} (h : NdsN w a ps) (hb : Below w.heap.size w w') : NdsN w' a ps := by
  intro i hi
  obtain ⟨b, o, a', c', e, hlt, c1, c3, c4⟩ := h i hi
  exact ⟨b, o, a', c', e, Nat.lt_of_lt_of_le hlt hb.size, (hb.cell (p := ⟨b, _, none⟩) hlt).trans c1, c3.below hb, c4⟩
theorem flatN_take {ps : List (List Nd)} {i : Nat} (h : i < ps.length) : (ps.take (i + 1)).flatten = (ps.take i).flatten ++ ps[i] := by
  rw [List.take_succ_eq_append_getElem h, List.flatten_append]; simp
theorem flatNn_le (ps : List (List Nd)) (i : Nat) : (ps.take i).flatten.length ≤ ps.flatten.length := by
  have h : ps.flatten = (ps.take i).flatten ++ (ps.drop i).flatten := by rw [← List.flatten_append, List.take_append_drop]
  rw [h, List.length_append]; omega
/-- What the second loop keeps. -/
structure CnAt (w : World) (ps : List (List Nd)) (i : Nat) (v : Value) (wr : World) : Prop where
  le : i ≤ ps.length
  o : NdsO w.heap.size v (ps.take i).flatten wr
  b : Below w.heap.size w wr
set_option maxHeartbeats 4000000 in
theorem lconcat_any (ps : List (List Nd)) (a : Option Addr) (c : Nat) (w : World) (hP : NdsN w a ps) (h0 : 0 < ps.flatten.length) (hl : ps.flatten.length ≤ 900000) (hp : ps.length ≤ 10) :
    Calls Tryz.prog 156 #[.slice a ps.length c] w fun e w' => ∃ A c', e = .returned (.slice A ps.flatten.length c') ∧ NdsO w.heap.size (.slice A ps.flatten.length c') ps.flatten w' ∧ Below w.heap.size w w' := by
  have HP : Hid (NdsN w a ps) := hP
  have HG : Hid (Calls Tryz.prog 177 #[.slice none 0 0, .int .i64 (ps.flatten.length : Int)] w fun e w' => ∃ c, e = .returned (.slice (some ⟨w.heap.size, 0, none⟩) 0 c) ∧ NdsO w.heap.size (.slice (some ⟨w.heap.size, 0, none⟩) 0 c) [] w' ∧ Below w.heap.size w w') := lgrow_any ps.flatten.length h0 (by omega) w
  clear hP
  generalize hN : ps.flatten.length = N at HG h0 hl ⊢
  have HN : Hid (ps.flatten.length = N) := hN
  clear hN
  go_enter Tryz.func156, Tryz.ntmps156
  go_wp2_with fail
  go_loopw [3, 11] (fun s x wr => w = wr ∧ ∃ i : Nat, i ≤ ps.length ∧ x = .int .i64 (i : Int) ∧ s = .int .i64 ((ps.take i).flatten.length : Int)) (fun _ x _ => ps.length - (intOf x).toNat)
  case atStart => exact ⟨rfl, 0, Nat.zero_le _, rfl, rfl⟩
  case round =>
    obtain ⟨rfl, i, hi, rfl, rfl⟩ := hrel
    by_cases hlt : i < ps.length
    · have hii : (i : Int) < (ps.length : Int) := by omega
      obtain ⟨b0, o0, A0, c0, rfl, hb0, d0, _, _⟩ := HP.out i hlt
      have hft := congrArg List.length (flatN_take hlt)
      rw [List.length_append] at hft
      have hfl := flatNn_le ps (i + 1)
      rw [HN.out] at hfl
      have HF := (show Hid (_ = _) from hft)
      have hs1 : (ps.take i).flatten.length + ps[i].length ≤ 900000 := by omega
      clear hft hfl
      generalize ps[i].length = pn at HF d0 hs1
      generalize (ps.take i).flatten.length = sn at HF hs1 ⊢
      have hs2 : ¬ (sn : Int) + (pn : Int) < 0 := by omega
      go_wp2
      refine ⟨⟨trivial, i + 1, hlt, by go_num, ?_⟩, ?_⟩
      · rw [HF.out]; go_num
      · simp [intOf]; omega
    · have hii : ¬ (i : Int) < (ps.length : Int) := by omega
      have hie : (ps.take i).flatten.length = N := by rw [List.take_of_length_le (by omega)]; exact HN.out
      rw [hie]
      clear hie
      go_wp2_with fail
      refine HG.out.mono ?_
      rintro e w1 ⟨c1, rfl, ho1, b1⟩
      have HC1 : Hid (CnAt w ps 0 (.slice (some ⟨w.heap.size, 0, none⟩) 0 c1) w1) := ⟨Nat.zero_le _, ho1, b1⟩
      clear ho1 b1
      go_wp2_with fail
      go_loopw [6, 27] (fun v x w' => ∃ (i : Nat) (A : Option Addr) (n c : Nat), x = .int .i64 (i : Int) ∧ v = .slice A n c ∧ n = (ps.take i).flatten.length ∧ CnAt w ps i (.slice A n c) w') (fun _ x _ => ps.length - (intOf x).toNat)
      case atStart => exact ⟨0, _, _, _, rfl, rfl, rfl, HC1.out⟩
      case round =>
        obtain ⟨i, A, n, c2, rfl, rfl, hn, hC⟩ := hrel
        have hfl := flatNn_le ps i
        rw [HN.out, ← hn] at hfl
        by_cases hlt : i < ps.length
        · have hii : (i : Int) < (ps.length : Int) := by omega
          obtain ⟨b0, o0, A0, c0, rfl, hb0, d0, hT, hnil⟩ := HP.out.below hC.b i hlt
          have hft := flatN_take hlt
          have hfl2 := flatNn_le ps (i + 1)
          rw [hft, List.length_append, HN.out, ← hn] at hfl2
          have HF := (show Hid (_ = _) from hft)
          have HO : Hid (NdsO w.heap.size (.slice A n c2) (ps.take i).flatten wr) := hC.o
          have HB : Hid (Below w.heap.size w wr) := hC.b
          have hsz := hC.b.size
          have HT : Hid (Nods wr A0 ps[i]) := hT
          have HNI : Hid (A0 = none → ps[i].length = 0 ∧ c0 = 0) := hnil
          have HL : Hid ((ps.take i).flatten.length = n) := hn.symm
          have HPL : Hid (∃ m, ps[i].length = m) := ⟨_, rfl⟩
          generalize hpn : ps[i].length = pn at d0 hfl2 HNI
          have HPN : Hid (ps[i].length = pn) := hpn
          clear hft hT hnil hn hC hpn HPL hfl
          go_wp2_with (at_builtin; refine app_nds rfl _ _ rfl w.heap.size _ (ps.take i).flatten rfl HO.out A0 pn ps[i] HPN.out c0 rfl HT.out HNI.out (n + pn) (by rw [HL.out]) (by omega) hsz ?_)
          intro A3 c3 w3 hown3 hgrow3
          have HX3 : Hid (CnAt w ps (i + 1) (.slice A3 (n + pn) c3) w3) := by
            refine ⟨hlt, ?_, HB.out.grown hgrow3 hsz (fun k hk => (World.ownsRow.lt HO.out k hk).1)⟩
            rw [HF.out]
            exact hown3
          clear hown3 hgrow3
          go_wp2
          refine ⟨⟨i + 1, A3, n + pn, c3, by go_num, rfl, ?_, HX3.out⟩, ?_⟩
          · rw [HF.out, List.length_append, HL.out, HPN.out]
          · simp [intOf]; omega
        · have hii : ¬ (i : Int) < (ps.length : Int) := by omega
          have hie : ps.take i = ps := List.take_of_length_le (by omega)
          obtain ⟨_, ho, hb⟩ := hC
          rw [hie] at ho hn
          rw [HN.out] at hn
          subst hn
          have HO : Hid (NdsO w.heap.size (.slice A n c2) ps.flatten wr) := ho
          have HB : Hid (Below w.heap.size w wr) := hb
          clear ho hb hie
          go_wp2
          go_ret
          exact ⟨A, c2, rfl, HO.out, HB.out⟩
end Go.Proofs.YtmbeamcjpidnjaaGreatDoor
namespace Go.Proofs.YtmbeamcjpidnjaaGreatDoor
open Go Go.RowKit

theorem belA2 (w : World) (o p : Obj) : Below w.heap.size w ((w.alloc o).alloc p) := ((Below.refl _ w).alloc (Nat.le_refl _) o).alloc (by rw [World.size_alloc]; omega) p
theorem heap_first (w : World) (o p : Obj) : ((w.alloc o).alloc p).heap[w.heap.size]? = some o := by
  have h1 : ((w.heap.push o).push p)[w.heap.size]? = some o := by
    rw [Array.getElem?_push, if_neg (by simp), Array.getElem?_push, if_pos rfl]
  exact h1
theorem heap_second (w : World) (o p : Obj) : ((w.alloc o).alloc p).heap[w.heap.size + 1]? = some p := by
  have h1 : ((w.heap.push o).push p)[w.heap.size + 1]? = some p := by
    rw [Array.getElem?_push, if_pos (by simp)]
  exact h1
abbrev ndO (x : Nd) : Obj := .cells #[.int .i64 x.op, .string x.tx, .int .i64 x.n] 90 (0, 0)
theorem one_nods {x : Nd} {W : World} {k : Nat} (h : W.heap[k]? = some (ndO x)) : Nods W (some ⟨k, 0, none⟩) [x] := by
  intro i hi
  have h0 : i = 0 := by simp at hi; exact hi
  subst h0
  have hlt : k < W.heap.size := (Array.getElem?_eq_some_iff.1 h).1
  refine ⟨k, 0, rfl, hlt, ?_, ?_, ?_⟩ <;> rw [Lib.cell_of_heap h] <;> rfl
/-- A node, and a doc behind it. -/
theorem cc_two {x : Nd} {xs : List Nd} {A : Option Addr} {c : Nat} (w W : World) (hb : Below w.heap.size w W) (h0 : W.heap[w.heap.size]? = some (ndO x)) (h1 : W.heap[w.heap.size + 1]? = some (.cells #[.slice (some ⟨w.heap.size, 0, none⟩) 1 1, .slice A xs.length c] 46 (0, 0)))
    (hN : Nods w A xs) (hnil : A = none → xs.length = 0 ∧ c = 0) (hl : xs.length ≤ 100000) :
    Calls Tryz.prog 156 #[.slice (some ⟨w.heap.size + 1, 0, none⟩) 2 2] W fun e w' => NdR w (x :: xs) e w' := by
  have hlt : w.heap.size + 1 < W.heap.size := (Array.getElem?_eq_some_iff.1 h1).1
  have hcell : ∀ i, W.cell? ⟨w.heap.size + 1, i, none⟩ = #[Value.slice (some ⟨w.heap.size, 0, none⟩) 1 1, .slice A xs.length c][i]? := fun i => by simp [World.cell?, h1]
  have hP : NdsN W (some ⟨w.heap.size + 1, 0, none⟩) [[x], xs] := by
    intro i hi
    have h3 : i = 0 ∨ i = 1 := by simp at hi; omega
    rcases h3 with rfl | rfl
    · exact ⟨w.heap.size + 1, 0, some ⟨w.heap.size, 0, none⟩, 1, rfl, hlt, hcell 0, one_nods h0, fun e => by cases e⟩
    · exact ⟨w.heap.size + 1, 0, A, c, rfl, hlt, hcell 1, hN.below hb, hnil⟩
  have hfl : [[x], xs].flatten = x :: xs := by simp
  have h9 := lconcat_any [[x], xs] (some ⟨w.heap.size + 1, 0, none⟩) 2 W hP (by rw [hfl]; simp) (by rw [hfl, List.length_cons]; omega) (by simp)
  rw [hfl] at h9
  refine h9.mono ?_
  rintro e w6 ⟨A6, c6, rfl, ho6, hb6⟩
  exact ⟨A6, c6, rfl, ho6.down hb.size, belowT hb (Nat.le_refl _) hb6⟩
/-- A node, and two docs behind it. -/
theorem cc_three {x : Nd} {xs ys : List Nd} {A A' : Option Addr} {c c' : Nat} (w W : World) (hb : Below w.heap.size w W) (h0 : W.heap[w.heap.size]? = some (ndO x)) (h1 : W.heap[w.heap.size + 1]? = some (.cells #[.slice (some ⟨w.heap.size, 0, none⟩) 1 1, .slice A xs.length c, .slice A' ys.length c'] 46 (0, 0)))
    (hN : Nods w A xs) (hnil : A = none → xs.length = 0 ∧ c = 0) (hM : Nods w A' ys) (hnil' : A' = none → ys.length = 0 ∧ c' = 0) (hl : xs.length + ys.length ≤ 100000) :
    Calls Tryz.prog 156 #[.slice (some ⟨w.heap.size + 1, 0, none⟩) 3 3] W fun e w' => NdR w (x :: (xs ++ ys)) e w' := by
  have hlt : w.heap.size + 1 < W.heap.size := (Array.getElem?_eq_some_iff.1 h1).1
  have hcell : ∀ i, W.cell? ⟨w.heap.size + 1, i, none⟩ = #[Value.slice (some ⟨w.heap.size, 0, none⟩) 1 1, .slice A xs.length c, .slice A' ys.length c'][i]? := fun i => by simp [World.cell?, h1]
  have hP : NdsN W (some ⟨w.heap.size + 1, 0, none⟩) [[x], xs, ys] := by
    intro i hi
    have h3 : i = 0 ∨ i = 1 ∨ i = 2 := by simp at hi; omega
    rcases h3 with rfl | rfl | rfl
    · exact ⟨w.heap.size + 1, 0, some ⟨w.heap.size, 0, none⟩, 1, rfl, hlt, hcell 0, one_nods h0, fun e => by cases e⟩
    · exact ⟨w.heap.size + 1, 0, A, c, rfl, hlt, hcell 1, hN.below hb, hnil⟩
    · exact ⟨w.heap.size + 1, 0, A', c', rfl, hlt, hcell 2, hM.below hb, hnil'⟩
  have hfl : [[x], xs, ys].flatten = x :: (xs ++ ys) := by simp
  have h9 := lconcat_any [[x], xs, ys] (some ⟨w.heap.size + 1, 0, none⟩) 3 W hP (by rw [hfl]; simp) (by rw [hfl, List.length_cons, List.length_append]; omega) (by simp)
  rw [hfl] at h9
  refine h9.mono ?_
  rintro e w6 ⟨A6, c6, rfl, ho6, hb6⟩
  exact ⟨A6, c6, rfl, ho6.down hb.size, belowT hb (Nat.le_refl _) hb6⟩
set_option maxRecDepth 100000 in
theorem lword_any (s : ByteArray) (w : World) : Calls Tryz.prog 125 #[.string s] w fun e w' => NdR w [⟨1, s, 0⟩] e w' := by
  have HO := (show Hid (_) from NdsO.one w ⟨1, s, 0⟩)
  have HB : Hid (∀ O : Obj, Below w.heap.size w (w.alloc O)) := fun O => (Below.refl _ w).alloc (Nat.le_refl _) O
  go_enter Tryz.func125, Tryz.ntmps125
  go_wp2
  go_ret
  exact ⟨_, 1, rfl, HO.out, HB.out _⟩
set_option maxRecDepth 100000 in
theorem lblank_any (w : World) : Calls Tryz.prog 128 #[] w fun e w' => NdR w [⟨2, ⟨#[]⟩, 0⟩] e w' := by
  have HO := (show Hid (_) from NdsO.one w ⟨2, ⟨#[]⟩, 0⟩)
  have HB : Hid (∀ O : Obj, Below w.heap.size w (w.alloc O)) := fun O => (Below.refl _ w).alloc (Nat.le_refl _) O
  go_enter Tryz.func128, Tryz.ntmps128
  go_wp2
  go_ret
  exact ⟨_, 1, rfl, HO.out, HB.out _⟩
set_option maxRecDepth 100000 in
theorem lsoft_any (w : World) : Calls Tryz.prog 178 #[] w fun e w' => NdR w [⟨3, ⟨#[]⟩, 0⟩] e w' := by
  have HO := (show Hid (_) from NdsO.one w ⟨3, ⟨#[]⟩, 0⟩)
  have HB : Hid (∀ O : Obj, Below w.heap.size w (w.alloc O)) := fun O => (Below.refl _ w).alloc (Nat.le_refl _) O
  go_enter Tryz.func178, Tryz.ntmps178
  go_wp2
  go_ret
  exact ⟨_, 1, rfl, HO.out, HB.out _⟩
set_option maxRecDepth 100000 in
set_option maxHeartbeats 1000000 in
theorem ldeeper_any {xs : List Nd} {v : Value} (w : World) (hx : NdV w v xs) (hl : xs.length ≤ 100000) : Calls Tryz.prog 127 #[v] w fun e w' => NdR w (⟨7, ⟨#[]⟩, 2⟩ :: xs) e w' := by
  obtain ⟨A, c, rfl, hN, hnil⟩ := hx
  have HC := (show Hid (_) from fun W h1 h2 h3 => cc_two (x := ⟨7, ⟨#[]⟩, 2⟩) (c := c) w W h1 h2 h3 hN hnil hl)
  clear hN hnil hl
  generalize xs.length = n at HC ⊢
  go_enter Tryz.func127, Tryz.ntmps127
  go_wp2_with fail
  refine (HC.out _ (belA2 w _ _) (heap_first w _ _) (heap_second w _ _)).mono ?_
  rintro e w1 h1
  have HR := (show Hid (_) from h1)
  obtain ⟨v1, rfl, _, _⟩ := h1.val
  clear h1
  go_wp2
  go_ret
  exact HR.out
set_option maxRecDepth 100000 in
set_option maxHeartbeats 1000000 in
theorem lgroup_any {xs : List Nd} {v : Value} (w : World) (hx : NdV w v xs) (hl : xs.length ≤ 100000) : Calls Tryz.prog 126 #[v] w fun e w' => NdR w (⟨8, ⟨#[]⟩, 0⟩ :: xs) e w' := by
  obtain ⟨A, c, rfl, hN, hnil⟩ := hx
  have HC := (show Hid (_) from fun W h1 h2 h3 => cc_two (x := ⟨8, ⟨#[]⟩, 0⟩) (c := c) w W h1 h2 h3 hN hnil hl)
  clear hN hnil hl
  generalize xs.length = n at HC ⊢
  go_enter Tryz.func126, Tryz.ntmps126
  go_wp2_with fail
  refine (HC.out _ (belA2 w _ _) (heap_first w _ _) (heap_second w _ _)).mono ?_
  rintro e w1 h1
  have HR := (show Hid (_) from h1)
  obtain ⟨v1, rfl, _, _⟩ := h1.val
  clear h1
  go_wp2
  go_ret
  exact HR.out
set_option maxRecDepth 100000 in
set_option maxHeartbeats 1000000 in
theorem lboth_any {xs ys : List Nd} {v u : Value} (w : World) (hx : NdV w v xs) (hy : NdV w u ys) (hl : xs.length + ys.length ≤ 100000) : Calls Tryz.prog 123 #[v, u] w fun e w' => NdR w (⟨6, ⟨#[]⟩, 0⟩ :: (xs ++ ys)) e w' := by
  obtain ⟨A, c, rfl, hN, hnil⟩ := hx
  obtain ⟨A', c', rfl, hM, hnil'⟩ := hy
  have HC := (show Hid (_) from fun W h1 h2 h3 => cc_three (x := ⟨6, ⟨#[]⟩, 0⟩) (c := c) (c' := c') w W h1 h2 h3 hN hnil hM hnil' hl)
  clear hN hnil hM hnil' hl
  generalize xs.length = n at HC ⊢
  generalize ys.length = m at HC ⊢
  go_enter Tryz.func123, Tryz.ntmps123
  go_wp2_with fail
  refine (HC.out _ (belA2 w _ _) (heap_first w _ _) (heap_second w _ _)).mono ?_
  rintro e w1 h1
  have HR := (show Hid (_) from h1)
  obtain ⟨v1, rfl, _, _⟩ := h1.val
  clear h1
  go_wp2
  go_ret
  exact HR.out

/-- A layer in memory: the nodes that are left. -/
structure Ly (w0 : World) (b : Nat) (ds : List Td) (w : World) (A : Option Addr) (c : Nat) : Prop where
  x : w.heap[b]? = some (.cells #[.slice A ds.length c] 134 (0, 0))
  le : ds.length ≤ c
  td : Tds w0 A ds
  bl : Below w0.heap.size w0 w
  lt : w0.heap.size ≤ b
def LyE (w0 : World) (b : Nat) (ds : List Td) (w : World) : Prop := ∃ A c, Ly w0 b ds w A c
theorem Ly.in {w0 : World} {b : Nat} {ds : List Td} {w : World} {A : Option Addr} {c : Nat} (h : Ly w0 b ds w A c) : b < w.heap.size := (Array.getElem?_eq_some_iff.1 h.x).1
theorem LyE.grew {w0 : World} {b : Nat} {ds : List Td} {w w' : World} (h : LyE w0 b ds w) (hb : Below w.heap.size w w') : LyE w0 b ds w' := by
  obtain ⟨A, c, h⟩ := h
  exact ⟨A, c, (hb.block b h.in).trans h.x, h.le, h.td, belowT h.bl (Nat.le_refl _) hb, h.lt⟩
/-- What stands while a statement is laid: all is as it was but the layer. -/
structure Lk (w0 : World) (b : Nat) (w : World) (rest : List Td) (wk : World) : Prop where
  bt : But w.heap.size b w wk
  ly : LyE w0 b rest wk
  lt : b < w.heap.size
theorem Lk.step {w0 : World} {b : Nat} {w : World} {rest : List Td} {wk w' : World} (h : Lk w0 b w rest wk) (hb : Below wk.heap.size wk w') : Lk w0 b w rest w' :=
  ⟨h.bt.trans (But.of (hb.mono h.bt.size)), h.ly.grew hb, h.lt⟩
theorem Lk.in {w0 : World} {b : Nat} {w : World} {rest : List Td} {wk : World} (h : Lk w0 b w rest wk) : b < wk.heap.size := Nat.lt_of_lt_of_le h.lt h.bt.size
/-- A doc that lies behind the layer. -/
def NdB (b : Nat) (w : World) (v : Value) (xs : List Nd) : Prop := ∃ A c B, v = .slice A xs.length c ∧ b < B ∧ NdsO B (.slice A xs.length c) xs w
theorem NdB.but {b : Nat} {w w' : World} {v : Value} {xs : List Nd} (h : NdB b w v xs) (hb : But w.heap.size b w w') : NdB b w' v xs := by
  obtain ⟨A, c, B, e, hB, ho⟩ := h
  exact ⟨A, c, B, e, hB, ho.kept fun g h1 h2 => hb.block g h2 (by omega)⟩
theorem NdB.bel {b : Nat} {w w' : World} {v : Value} {xs : List Nd} (h : NdB b w v xs) (hb : Below w.heap.size w w') : NdB b w' v xs := h.but (.of hb)
theorem NdB.val {b : Nat} {w : World} {v : Value} {xs : List Nd} (h : NdB b w v xs) : NdV w v xs := by
  obtain ⟨A, c, B, rfl, hB, ho⟩ := h
  exact ho.val
theorem NdR.valB {w : World} {xs : List Nd} {e : Ending} {w' : World} {b : Nat} (h : NdR w xs e w') (hb : b < w.heap.size) : ∃ v, e = .returned v ∧ NdB b w' v xs ∧ Below w.heap.size w w' := by
  obtain ⟨A, c, e, h1, h2⟩ := h
  exact ⟨_, e, ⟨A, c, _, rfl, hb, h1⟩, h2⟩
/-- What a call on the layer hands back. -/
def NdG (w0 : World) (b : Nat) (w : World) (xs : List Nd) (rest : List Td) (e : Ending) (w' : World) : Prop := ∃ A c, e = .returned (.slice A xs.length c) ∧ NdsO w.heap.size (.slice A xs.length c) xs w' ∧ Lk w0 b w rest w'
theorem NdR.gof {w0 : World} {b : Nat} {w wk : World} {xs : List Nd} {rest : List Td} {e : Ending} {w' : World} (h : NdR wk xs e w') (hk : Lk w0 b w rest wk) : NdG w0 b w xs rest e w' := by
  obtain ⟨A, c, e, h1, h2⟩ := h
  exact ⟨A, c, e, h1.down hk.bt.size, hk.step h2⟩
theorem NdG.val {w0 : World} {b : Nat} {w : World} {xs : List Nd} {rest : List Td} {e : Ending} {w' : World} (h : NdG w0 b w xs rest e w') : ∃ v, e = .returned v ∧ NdB b w' v xs ∧ Lk w0 b w rest w' := by
  obtain ⟨A, c, e, h1, h2⟩ := h
  exact ⟨_, e, ⟨A, c, _, rfl, h2.lt, h1⟩, h2⟩
/-- Behind another call. -/
theorem Lk.then {w0 : World} {b : Nat} {w wk w' : World} {r1 r2 : List Td} (h : Lk w0 b w r1 wk) (k : Lk w0 b wk r2 w') : Lk w0 b w r2 w' := ⟨h.bt.trans (k.bt.mono h.bt.size), k.ly, h.lt⟩
theorem NdG.then {w0 : World} {b : Nat} {w wk w' : World} {r1 r2 : List Td} {xs : List Nd} {e : Ending} (h : Lk w0 b w r1 wk) (k : NdG w0 b wk xs r2 e w') : NdG w0 b w xs r2 e w' := by
  obtain ⟨A, c, e, h1, h2⟩ := k
  exact ⟨A, c, e, h1.down h.bt.size, h.then h2⟩
theorem box_one {w : World} {k : Nat} {a a' : Value} {T : TypeId} (h : w.heap[k]? = some (.cells #[a] T (0, 0))) : (w.setCell ⟨k, 0, none⟩ a').heap[k]? = some (.cells #[a'] T (0, 0)) := by
  simp [World.setCell, Array.getElem?_modify, h]
set_option maxHeartbeats 2000000 in
set_option maxRecDepth 100000 in
theorem lnext_any {w0 : World} {b : Nat} {x : Td} {ds : List Td} {w : World} (h : LyE w0 b (x :: ds) w) :
    Calls Tryz.prog 122 #[.pointer (some ⟨b, 0, none⟩)] w fun e w' => e = .returned (tdV x) ∧ Lk w0 b w ds w' := by
  obtain ⟨A, c, h⟩ := h
  obtain ⟨tb, tq, rfl, hlt, d0, d1, d2⟩ := h.td 0 (by simp)
  obtain ⟨A', hsl, htd⟩ := td_tail h.td h.le
  simp only [List.getElem_cons_zero, Nat.zero_mul, Nat.add_zero] at d0 d1 d2
  obtain ⟨bc, _⟩ := bcell h.bl
  have e0 : w.cell? ⟨tb, tq, none⟩ = some (.int .i64 x.op) := (bc _ _ hlt).trans d0
  have e1 : w.cell? ⟨tb, tq + 1, none⟩ = some (.string x.tx) := (bc _ _ hlt).trans d1
  have e2 : w.cell? ⟨tb, tq + 2, none⟩ = some (.int .i64 x.n) := (bc _ _ hlt).trans d2
  have hbw : b < w.heap.size := h.in
  have htw : tb < w.heap.size := Nat.lt_of_lt_of_le hlt h.bl.size
  have cR : w.cell? ⟨b, 0, none⟩ = some (.slice (some ⟨tb, tq, none⟩) (x :: ds).length c) := by rw [Lib.cell_of_heap h.x]; rfl
  have fR : w.frozen? ⟨b, 0, none⟩ = false := Lib.frozen_of_heap h.x 0
  have hne : ¬ tb = b := by have := h.lt; omega
  have H := (show Hid (_) from h)
  have HT : Hid (Tds w0 A' ds) := htd
  have hle := h.le
  generalize hn : (x :: ds).length = n at cR hsl hle
  have h1n : 0 < n := by rw [← hn]; simp
  clear h htd d0 d1 d2 bc hn
  generalize hm : ds.length = m at hsl
  have HM : Hid (ds.length = m) := hm
  clear hm
  go_enter Tryz.func122, Tryz.ntmps122
  go_wp2
  refine bodyPost_ret (v := tdV x) (by simp [results, Tryz.results122, go_sem]) rfl ?_
  have h := H.out
  have hs : LyE w0 b ds (w.setCell ⟨b, 0, none⟩ (.slice A' m (c - 1))) := by
    refine ⟨A', c - 1, ?_, ?_, HT.out, h.bl.setCell (p := ⟨b, 0, none⟩) h.lt _, h.lt⟩
    · rw [HM.out]; exact box_one h.x
    · have := h.le; simp only [List.length_cons] at this; omega
  have hk : Lk w0 b w ds (w.setCell ⟨b, 0, none⟩ (.slice A' m (c - 1))) := ⟨(But.refl _ _ _).setCell (p := ⟨b, 0, none⟩) (.inl rfl) _, hs, hbw⟩
  exact ⟨rfl, hk.step (belA2 _ _ _)⟩
end Go.Proofs.YtmbeamcjpidnjaaGreatDoor
