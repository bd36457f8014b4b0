/- Some texts as one: SyB, SyC, SyP. -/
import Derived.Test.YtmbeamcjpidnjaaGreatDoorSyA
import Derived.Lib.AppendIntMem
import Derived.Lib.ItoaNum
import Derived.Test.YtmbeamcjpidnjaaGreatDoorTreA
namespace Go.Proofs.YtmbeamcjpidnjaaGreatDoor
open Go Go.RowKit

theorem dec_lib (n : Nat) : Lib.decDigits n = decL n := by
  induction n using Nat.strongRecOn with
  | ind n ih =>
    rw [Lib.decDigits, decL]
    by_cases h : n < 10
    · rw [dif_pos h, dif_pos (by omega)]
    · rw [dif_neg h, dif_neg (by omega), ih (n / 10) (by omega)]
theorem itoa_any (n : Int) (h0 : 0 ≤ n) (h1 : n ≤ 999999) (w : World) (ht : TabP w) : Calls Tryz.prog 93 #[.int .i64 n] w fun e w' => e = .returned (.string (wbS (decL n.toNat))) ∧ Below w.heap.size w w' := by
  refine (itoa_sh n (by omega) (by omega) w ht).mono ?_
  rintro e w' ⟨rfl, k, os, rfl⟩
  refine ⟨?_, Lib.below_grow _ _ (Nat.le_refl _) _ _⟩
  rw [Lib.itoa, if_neg (by omega), dec_lib]; rfl

/-- An expression is written. -/
abbrev ExC (w0 : World) (b : Nat) (x : Td) (k : Fo) : Prop := ∀ (bs : List UInt8) (rest : List Td) (w : World), bs.length + (txOf x k.trs).length ≤ 500000 → WyE w0 b bs (x :: (k.nodes ++ rest)) w →
  Calls Tryz.prog 64 #[.pointer (some ⟨b, 0, none⟩)] w fun e w' => e = .returned (.tuple #[]) ∧ WyE w0 b (bs ++ txOf x k.trs) rest w'
def EAll (w0 : World) (b : Nat) : Fo → Prop
  | .nil => True
  | .cons x k n => ExC w0 b x k ∧ EAll w0 b n
set_option maxRecDepth 100000 in
set_option maxHeartbeats 2000000 in
theorem wexp_num {w0 : World} {b : Nat} (ht : TabP w0) (n : Int) (h0 : 0 ≤ n) (h9 : n ≤ 999999) (tx : ByteArray) : ExC w0 b ⟨1, tx, n⟩ .nil := by
  intro bs rest w hl hW
  obtain ⟨A, c, h⟩ := hW
  have HN : Hid (Calls Tryz.prog 61 #[.pointer (some ⟨b, 0, none⟩)] w fun e w' => e = .returned (tdV ⟨1, tx, n⟩) ∧ WyE w0 b bs rest w') := wnext_any h
  have HL : Hid (txOf ⟨1, tx, n⟩ Fo.nil.trs = decL n.toNat) := rfl
  rw [HL.out] at hl ⊢
  have HT : Hid (TabP w0) := ht
  clear h ht
  go_enter Tryz.func64, Tryz.ntmps64
  go_wp2_with fail
  refine HN.out.mono ?_
  rintro e w1 ⟨rfl, A1, c1, h1⟩
  have HI : Hid (∀ W : World, Below w1.heap.size w1 W → Calls Tryz.prog 93 #[.int .i64 n] W fun e w' => e = .returned (.string (wbS (decL n.toNat))) ∧ Below W.heap.size W w') := fun W hb => itoa_any n h0 h9 W ((HT.out.below h1.bl).below hb)
  have HS : Hid (∀ W : World, Below w1.heap.size w1 W → Calls Tryz.prog 63 #[.pointer (some ⟨b, 0, none⟩), .string (wbS (decL n.toNat))] W fun e w' => (∃ z, e = .returned (.tuple #[z, .nilIface])) ∧ WyE w0 b (bs ++ decL n.toNat) rest w') := fun W hb => by
    refine (wtext_any (h1.grew hb) (wbS (decL n.toNat)) (by omega) (by rw [← btL_len, bt_wb]; omega)).mono ?_
    rintro e w' ⟨rfl, h, _⟩
    exact ⟨⟨_, rfl⟩, _, _, h⟩
  generalize wbS (decL n.toNat) = S at HI HS
  clear h1 HN
  go_wp2_with fail
  go_region_with (first | (go_at_call 93; refine (HI.out _ (belAD w1 _)).mono ?_; rintro e w2 ⟨rfl, b2⟩) | (go_at_call 63; refine (HS.out _ (belowT (belAD w1 _) (Nat.le_refl _) b2)).mono ?_; rintro e w3 ⟨⟨z, rfl⟩, h3⟩))
  all_goals
    go_wp2
    go_end0
    exact ⟨rfl, h3⟩
set_option maxRecDepth 100000 in
set_option maxHeartbeats 2000000 in
theorem wexp_name {w0 : World} {b : Nat} (tx : ByteArray) (n : Int) : ExC w0 b ⟨2, tx, n⟩ .nil := by
  intro bs rest w hl hW
  obtain ⟨A, c, h⟩ := hW
  have HN : Hid (Calls Tryz.prog 61 #[.pointer (some ⟨b, 0, none⟩)] w fun e w' => e = .returned (tdV ⟨2, tx, n⟩) ∧ WyE w0 b bs rest w') := wnext_any h
  have HL : Hid (txOf ⟨2, tx, n⟩ Fo.nil.trs = btL tx) := rfl
  rw [HL.out] at hl ⊢
  clear h
  go_enter Tryz.func64, Tryz.ntmps64
  go_wp2_with fail
  refine HN.out.mono ?_
  rintro e w1 ⟨rfl, A1, c1, h1⟩
  have HS : Hid (∀ W : World, Below w1.heap.size w1 W → Calls Tryz.prog 63 #[.pointer (some ⟨b, 0, none⟩), .string tx] W fun e w' => (∃ z, e = .returned (.tuple #[z, .nilIface])) ∧ WyE w0 b (bs ++ btL tx) rest w') := fun W hb => by
    refine (wtext_any (h1.grew hb) tx (by omega) (by rw [← btL_len]; omega)).mono ?_
    rintro e w' ⟨rfl, h, _⟩
    exact ⟨⟨_, rfl⟩, _, _, h⟩
  clear h1 HN
  go_wp2_with fail
  go_region_with (go_at_call 63; refine (HS.out _ (belAD w1 _)).mono ?_; rintro e w3 ⟨⟨z, rfl⟩, h3⟩)
  all_goals
    go_wp2
    go_end0
    exact ⟨rfl, h3⟩
/-- Kids are written. -/
abbrev KdC (w0 : World) (b : Nat) (F : Fo) (o z : UInt8) : Prop := ∀ (bs : List UInt8) (rest : List Td) (w : World), bs.length + (cmx F.trs).length + 2 ≤ 500000 → WyE w0 b bs (F.nodes ++ rest) w →
  Calls Tryz.prog 94 #[.pointer (some ⟨b, 0, none⟩), .int .i64 (F.len : Int), .int .u8 (o.toNat : Int), .int .u8 (z.toNat : Int)] w fun e w' => e = .returned (.tuple #[]) ∧ WyE w0 b (bs ++ o :: (cmx F.trs ++ [z])) rest w'
set_option maxRecDepth 100000 in
set_option maxHeartbeats 2000000 in
theorem wexp_list {w0 : World} {b : Nat} {F : Fo} (tx : ByteArray) (hK : KdC w0 b F 91 93) : ExC w0 b ⟨4, tx, (F.len : Int)⟩ F := by
  intro bs rest w hl hW
  obtain ⟨A, c, h⟩ := hW
  have HN : Hid (Calls Tryz.prog 61 #[.pointer (some ⟨b, 0, none⟩)] w fun e w' => e = .returned (tdV ⟨4, tx, (F.len : Int)⟩) ∧ WyE w0 b bs (F.nodes ++ rest) w') := wnext_any h
  have HL : Hid (txOf ⟨4, tx, (F.len : Int)⟩ F.trs = 91 :: (cmx F.trs ++ [93])) := rfl
  rw [HL.out] at hl ⊢
  have HK : Hid (KdC w0 b F 91 93) := hK
  clear h hK
  simp only [List.length_cons, List.length_append, List.length_nil] at hl
  go_enter Tryz.func64, Tryz.ntmps64
  go_wp2_with fail
  refine HN.out.mono ?_
  rintro e w1 ⟨rfl, A1, c1, h1⟩
  have HS : Hid (∀ W : World, Below w1.heap.size w1 W → Calls Tryz.prog 94 #[.pointer (some ⟨b, 0, none⟩), .int .i64 (F.len : Int), .int .u8 91, .int .u8 93] W fun e w' => e = .returned (.tuple #[]) ∧ WyE w0 b (bs ++ 91 :: (cmx F.trs ++ [93])) rest w') := fun W hb => HK.out bs rest W (by omega) ⟨_, _, h1.grew hb⟩
  clear h1 HN HK
  go_wp2_with fail
  refine (HS.out _ (belA w1 _)).mono ?_
  rintro e w3 ⟨rfl, h3⟩
  go_wp2
  go_end0
  exact ⟨rfl, h3⟩
set_option maxRecDepth 100000 in
set_option maxHeartbeats 2000000 in
theorem wexp_call {w0 : World} {b : Nat} {F : Fo} (tx : ByteArray) (hK : KdC w0 b F 40 41) : ExC w0 b ⟨3, tx, (F.len : Int)⟩ F := by
  intro bs rest w hl hW
  obtain ⟨A, c, h⟩ := hW
  have HN : Hid (Calls Tryz.prog 61 #[.pointer (some ⟨b, 0, none⟩)] w fun e w' => e = .returned (tdV ⟨3, tx, (F.len : Int)⟩) ∧ WyE w0 b bs (F.nodes ++ rest) w') := wnext_any h
  have HL : Hid (txOf ⟨3, tx, (F.len : Int)⟩ F.trs = btL tx ++ 40 :: (cmx F.trs ++ [41])) := rfl
  rw [HL.out] at hl ⊢
  have HK : Hid (KdC w0 b F 40 41) := hK
  clear h hK
  simp only [List.length_cons, List.length_append, List.length_nil] at hl
  go_enter Tryz.func64, Tryz.ntmps64
  go_wp2_with fail
  refine HN.out.mono ?_
  rintro e w1 ⟨rfl, A1, c1, h1⟩
  have HS : Hid (∀ W : World, Below w1.heap.size w1 W → Calls Tryz.prog 63 #[.pointer (some ⟨b, 0, none⟩), .string tx] W fun e w' => (∃ z, e = .returned (.tuple #[z, .nilIface])) ∧ WyE w0 b (bs ++ btL tx) (F.nodes ++ rest) w' ∧ Lib.OthersKept 5 (some b) W w') := fun W hb => by
    refine (wtext_any (h1.grew hb) tx (by omega) (by rw [← btL_len]; omega)).mono ?_
    rintro e w' ⟨rfl, h, hk⟩
    exact ⟨⟨_, rfl⟩, ⟨_, _, h⟩, hk⟩
  have HS2 : Hid (∀ W : World, WyE w0 b (bs ++ btL tx) (F.nodes ++ rest) W → Calls Tryz.prog 94 #[.pointer (some ⟨b, 0, none⟩), .int .i64 (F.len : Int), .int .u8 40, .int .u8 41] W fun e w' => e = .returned (.tuple #[]) ∧ WyE w0 b ((bs ++ btL tx) ++ 40 :: (cmx F.trs ++ [41])) rest w') := fun W hW => HK.out _ rest W (by rw [List.length_append]; omega) hW
  have hbw : b < w1.heap.size := h1.x.lt
  clear h1 HN HK
  generalize F.len = fn at HS2 HL ⊢
  go_wp2_with fail
  go_region_with (go_at_call 63; refine (HS.out _ (belAD w1 _)).mono ?_; rintro e w3 ⟨⟨z, rfl⟩, h3, hk3⟩)
  all_goals
    have hbox : w3.heap[w1.heap.size]? = some (.cells #[.int .i64 3, .string tx, .int .i64 (fn : Int)] 39 (0, 0)) := hk3 _ _ (heap_alloc_new w1 _) (by simp; omega) (fun c fz e => by cases e)
    have hn2 : w3.cell? ⟨w1.heap.size, 2, none⟩ = some (.int .i64 (fn : Int)) := by rw [Lib.cell_of_heap hbox]; rfl
    clear hbox hk3
    go_wp2_with fail
    refine (HS2.out _ h3).mono ?_
    rintro e w4 ⟨rfl, h4⟩
    go_wp2
    go_end0
    rw [List.append_assoc] at h4
    exact ⟨rfl, h4⟩
end Go.Proofs.YtmbeamcjpidnjaaGreatDoor
namespace Go.Proofs.YtmbeamcjpidnjaaGreatDoor
open Go Go.RowKit

/-- What is still to be written of kids, so many of which are written. -/
def sepC (ks : List Tn) : List UInt8 := match ks with
  | [] => []
  | _ :: _ => 44 :: 32 :: cmx ks
def remC (i : Nat) (ks : List Tn) : List UInt8 := if i = 0 then cmx ks else sepC ks
theorem cmx_sep (t : Tn) (r : List Tn) : cmx (t :: r) = t.tx ++ sepC r := by
  cases r <;> rfl
/-- What the loop over kids keeps. -/
structure KlAt (w0 : World) (b : Nat) (rest : List Td) (T : List UInt8) (n : Nat) (i : Nat) (G : Fo) (bs : List UInt8) (w : World) : Prop where
  n : i + G.len = n
  e : EAll w0 b G
  w : WyE w0 b bs (G.nodes ++ rest) w
  t : bs ++ remC i G.trs = T
set_option maxRecDepth 100000 in
set_option maxHeartbeats 4000000 in
theorem wkids_any {w0 : World} {b : Nat} {F : Fo} (hE : EAll w0 b F) (hn : F.len ≤ 1000) (o z : UInt8) : KdC w0 b F o z := by
  intro bs rest w hl hW
  obtain ⟨A, c, h⟩ := hW
  have HO : Hid (Calls Tryz.prog 28 #[.pointer (some ⟨b, 0, none⟩), .int .u8 (o.toNat : Int)] w fun e w' => e = .returned .nilIface ∧ WyE w0 b (bs ++ [o]) (F.nodes ++ rest) w') := by
    refine (wbyte_any h o (by omega)).mono ?_
    rintro e w' ⟨rfl, h1⟩
    exact ⟨rfl, _, _, h1⟩
  have HZ : Hid (∀ W : World, WyE w0 b (bs ++ [o] ++ cmx F.trs) rest W → CallsD Tryz.prog 28 #[.pointer (some ⟨b, 0, none⟩), .int .u8 (z.toNat : Int)] .returning W fun e u' w' => u' = .returning ∧ (e = .returned .nilIface ∧ WyE w0 b (bs ++ o :: (cmx F.trs ++ [z])) rest w')) := fun W hW => by
    obtain ⟨A, c, h⟩ := hW
    refine (wbyte_def h z .returning (by simp only [List.length_append, List.length_cons, List.length_nil]; omega)).mono ?_
    rintro e u' w' ⟨rfl, rfl, h1⟩
    refine ⟨rfl, rfl, A, c, ?_⟩
    have e1 : bs ++ o :: (cmx F.trs ++ [z]) = bs ++ [o] ++ cmx F.trs ++ [z] := by simp
    rw [e1]
    exact h1
  have HS : Hid (∀ w1, WyE w0 b (bs ++ [o]) (F.nodes ++ rest) w1 → KlAt w0 b rest (bs ++ [o] ++ cmx F.trs) F.len 0 F (bs ++ [o]) w1) := fun w1 h1 => ⟨by omega, hE, h1, rfl⟩
  have HTL : Hid ((bs ++ [o] ++ cmx F.trs).length ≤ 500000) := (show _ ≤ _ by simp only [List.length_append, List.length_cons, List.length_nil]; omega)
  clear h hE hl
  generalize F.len = fn at HS hn ⊢
  generalize bs ++ [o] ++ cmx F.trs = T at HS HZ HTL
  go_enter_defers Tryz.func94, Tryz.ntmps94
  go_wp2_with fail
  refine HO.out.mono ?_
  rintro e w1 ⟨rfl, h1⟩
  have HS1 := (show Hid (_) from HS.out w1 h1)
  clear h1 HO HS
  go_wp2_with fail
  go_loopw [19] (fun x wr => ∃ (i : Nat) (G : Fo) (bs' : List UInt8), x = .int .i64 (i : Int) ∧ KlAt w0 b rest T fn i G bs' wr) (fun x _ => fn - (intOf x).toNat)
  case atStart => exact ⟨0, F, _, rfl, HS1.out⟩
  case round =>
    obtain ⟨i, G, bs', rfl, hV⟩ := hrel
    have hT := HTL.out
    cases G with
    | nil =>
      obtain ⟨hi, _, hw, ht⟩ := hV
      have hie : ¬ (i : Int) < (fn : Int) := by simp only [Fo.len] at hi; omega
      have ht2 : bs' = T := by
        rw [← ht]
        unfold remC
        split <;> simp [Fo.trs, cmx, sepC]
      have HW1 : Hid (WyE w0 b T rest wr) := (show WyE w0 b T rest wr by rw [← ht2]; exact hw)
      clear hw ht ht2 hi
      go_wp2
      refine leaves_cons (f := 28) (args := #[.pointer (some ⟨b, 0, none⟩), .int .u8 (z.toNat : Int)]) (by simp) (by simp [go_sem]) ?_
      refine (HZ.out _ HW1.out).mono ?_
      rintro e u' w'' ⟨rfl, rfl, h5⟩
      exact ⟨_, results_none rfl _ _ _, rfl, h5⟩
    | cons y k G' =>
      obtain ⟨hi, hE, hw, ht⟩ := hV
      have hil : (i : Int) < (fn : Int) := by simp only [Fo.len] at hi; omega
      have hi2 : i + 1 + G'.len = fn := by simp only [Fo.len] at hi; omega
      have HX : Hid (ExC w0 b y k) := hE.1
      have HE : Hid (EAll w0 b G') := hE.2
      have e0 : (Fo.cons y k G').trs = mkTn y k.trs :: G'.trs := rfl
      have e1 : (Fo.cons y k G').nodes ++ rest = y :: (k.nodes ++ (G'.nodes ++ rest)) := by simp [Fo.nodes]
      rw [e1] at hw
      rw [e0] at ht
      have hcm := cmx_sep (mkTn y k.trs) G'.trs
      have hmt : (mkTn y k.trs).tx = txOf y k.trs := rfl
      rw [hmt] at hcm
      by_cases h0 : i = 0
      · subst h0
        rw [remC, if_pos rfl, hcm] at ht
        have HX1 : Hid (∀ W, WyE w0 b bs' (y :: (k.nodes ++ (G'.nodes ++ rest))) W → Calls Tryz.prog 64 #[.pointer (some ⟨b, 0, none⟩)] W fun e w' => e = .returned (.tuple #[]) ∧ KlAt w0 b rest T fn 1 G' (bs' ++ txOf y k.trs) w') := fun W hW => by
          refine (HX.out bs' (G'.nodes ++ rest) W (by rw [← ht] at hT; simp only [List.length_append] at hT; omega) hW).mono ?_
          rintro e w' ⟨rfl, h6⟩
          exact ⟨rfl, by omega, HE.out, h6, by rw [remC, if_neg (by omega), List.append_assoc]; exact ht⟩
        have HW := (show Hid (_) from hw)
        clear hw ht hcm e0 e1 hE HX hi hmt
        go_wp2_with fail
        refine (HX1.out _ HW.out).mono ?_
        rintro e w2 ⟨rfl, h2⟩
        go_wp2
        refine ⟨⟨1, G', _, rfl, h2⟩, ?_⟩
        simp [intOf]; omega
      · rw [remC, if_neg h0] at ht
        have ht3 : bs' ++ [44, 32] ++ (txOf y k.trs ++ sepC G'.trs) = T := by
          rw [← ht, ← hcm]
          simp [sepC]
        have hi0 : 0 < (i : Int) := by omega
        have HC : Hid (Calls Tryz.prog 63 #[.pointer (some ⟨b, 0, none⟩), .string ⟨#[44, 32]⟩] wr fun e w' => (∃ z, e = .returned (.tuple #[z, .nilIface])) ∧ WyE w0 b (bs' ++ [44, 32]) (y :: (k.nodes ++ (G'.nodes ++ rest))) w') := by
          obtain ⟨A, c, h⟩ := hw
          refine (wtext_any h ⟨#[44, 32]⟩ (by rw [← ht3] at hT; simp only [List.length_append] at hT; omega) (by decide)).mono ?_
          rintro e w' ⟨rfl, h, _⟩
          exact ⟨⟨_, rfl⟩, _, _, h⟩
        have HX1 : Hid (∀ W, WyE w0 b (bs' ++ [44, 32]) (y :: (k.nodes ++ (G'.nodes ++ rest))) W → Calls Tryz.prog 64 #[.pointer (some ⟨b, 0, none⟩)] W fun e w' => e = .returned (.tuple #[]) ∧ KlAt w0 b rest T fn (i + 1) G' (bs' ++ [44, 32] ++ txOf y k.trs) w') := fun W hW => by
          refine (HX.out (bs' ++ [44, 32]) (G'.nodes ++ rest) W (by rw [← ht3] at hT; simp only [List.length_append] at hT ⊢; omega) hW).mono ?_
          rintro e w' ⟨rfl, h6⟩
          exact ⟨rfl, by omega, HE.out, h6, by rw [remC, if_neg (by omega), List.append_assoc]; exact ht3⟩
        clear hw ht ht3 hcm e0 e1 hE HX hi hmt
        go_wp2_with fail
        refine HC.out.mono ?_
        rintro e w2 ⟨⟨q, rfl⟩, h2⟩
        have H2 := (show Hid (_) from h2)
        clear h2
        go_wp2_with fail
        refine (HX1.out _ H2.out).mono ?_
        rintro e w3 ⟨rfl, h3⟩
        go_wp2
        refine ⟨⟨i + 1, G', _, by go_num, h3⟩, ?_⟩
        simp [intOf]; omega
set_option maxRecDepth 100000 in
set_option maxHeartbeats 4000000 in
/-- One side of a sum or a product. -/
theorem wside_any {w0 : World} {b : Nat} {y : Td} {k : Fo} (hX : ExC w0 b y k) (op : Int) (hop : op = 5 ∨ op = 6) (s : Bool) (bs : List UInt8) (rest : List Td) (w : World) (hl : bs.length + (brx ((op - 5).toNat + s.toNat) (mkTn y k.trs)).length ≤ 500000) (hW : WyE w0 b bs (y :: (k.nodes ++ rest)) w) :
    Calls Tryz.prog 138 #[.pointer (some ⟨b, 0, none⟩), .int .i64 op, .bool s] w fun e w' => e = .returned (.tuple #[]) ∧ WyE w0 b (bs ++ brx ((op - 5).toNat + s.toNat) (mkTn y k.trs)) rest w' := by
  have HNB : Hid (∀ W, Calls Tryz.prog 166 #[.int .i64 y.op, .int .i64 op, .bool s] W fun e w' => e = .returned (.bool (decide (prc y < (op - 5).toNat + s.toNat))) ∧ w' = W) := fun W => needs_any y op hop s W
  have HX : Hid (ExC w0 b y k) := hX
  obtain ⟨A, c, h⟩ := hW
  obtain ⟨tb, tq, rfl, hlt, d0, _, _⟩ := h.td 0 (by simp)
  simp only [List.getElem_cons_zero, Nat.zero_mul, Nat.add_zero] at d0
  obtain ⟨bc, _⟩ := bcell h.bl
  have e0 : w.cell? ⟨tb, tq, none⟩ = some (.int .i64 y.op) := (bc _ _ hlt).trans d0
  have cR : w.cell? ⟨b, 2, none⟩ = some (.slice (some ⟨tb, tq, none⟩) (y :: (k.nodes ++ rest)).length c) := h.x.cellR 0
  generalize hn : (y :: (k.nodes ++ rest)).length = n at cR
  have h1n : 0 < n := by rw [← hn]; simp
  have hbx : brx ((op - 5).toNat + s.toNat) (mkTn y k.trs) = if prc y < (op - 5).toNat + s.toNat then 40 :: (txOf y k.trs ++ [41]) else txOf y k.trs := rfl
  rw [hbx] at hl ⊢
  by_cases hp : prc y < (op - 5).toNat + s.toNat
  · rw [if_pos hp] at hl ⊢
    rw [decide_eq_true hp] at HNB
    simp only [List.length_cons, List.length_append, List.length_nil] at hl
    have HO : Hid (Calls Tryz.prog 28 #[.pointer (some ⟨b, 0, none⟩), .int .u8 40] w fun e w' => e = .returned .nilIface ∧ WyE w0 b (bs ++ [40]) (y :: (k.nodes ++ rest)) w') := by
      refine (wbyte_any h 40 (by omega)).mono ?_
      rintro e w' ⟨rfl, h1⟩
      exact ⟨rfl, _, _, h1⟩
    have HX1 : Hid (∀ W, WyE w0 b (bs ++ [40]) (y :: (k.nodes ++ rest)) W → Calls Tryz.prog 64 #[.pointer (some ⟨b, 0, none⟩)] W fun e w' => e = .returned (.tuple #[]) ∧ WyE w0 b (bs ++ [40] ++ txOf y k.trs) rest w') := fun W hW => HX.out (bs ++ [40]) rest W (by simp only [List.length_append, List.length_cons, List.length_nil]; omega) hW
    have HZ : Hid (∀ W : World, WyE w0 b (bs ++ [40] ++ txOf y k.trs) rest W → CallsD Tryz.prog 28 #[.pointer (some ⟨b, 0, none⟩), .int .u8 41] .returning W fun e u' w' => u' = .returning ∧ (e = .returned .nilIface ∧ WyE w0 b (bs ++ 40 :: (txOf y k.trs ++ [41])) rest w')) := fun W hW => by
      obtain ⟨A, c, h⟩ := hW
      refine (wbyte_def h 41 .returning (by simp only [List.length_append, List.length_cons, List.length_nil]; omega)).mono ?_
      rintro e u' w' ⟨rfl, rfl, h1⟩
      refine ⟨rfl, rfl, A, c, ?_⟩
      have e1 : bs ++ 40 :: (txOf y k.trs ++ [41]) = bs ++ [40] ++ txOf y k.trs ++ [41] := by simp
      rw [e1]
      exact h1
    clear h bc d0 hbx hl hop hn hX
    go_enter_defers Tryz.func138, Tryz.ntmps138
    go_wp2_with fail
    refine (HNB.out _).mono ?_
    rintro e w1 ⟨rfl, rfl⟩
    go_wp2_with fail
    refine HO.out.mono ?_
    rintro e w2 ⟨rfl, h2⟩
    have H2 := (show Hid (_) from h2)
    clear h2
    go_wp2_with fail
    refine (HX1.out _ H2.out).mono ?_
    rintro e w3 ⟨rfl, h3⟩
    have H3 := (show Hid (_) from h3)
    clear h3
    go_wp2
    refine leaves_cons (f := 28) (args := #[.pointer (some ⟨b, 0, none⟩), .int .u8 41]) (by simp) (by simp [go_sem]) ?_
    refine (HZ.out _ H3.out).mono ?_
    rintro e u' w'' ⟨rfl, rfl, h5⟩
    exact ⟨_, results_none rfl _ _ _, rfl, h5⟩
  · rw [if_neg hp] at hl ⊢
    rw [decide_eq_false hp] at HNB
    have HX1 : Hid (Calls Tryz.prog 64 #[.pointer (some ⟨b, 0, none⟩)] w fun e w' => e = .returned (.tuple #[]) ∧ WyE w0 b (bs ++ txOf y k.trs) rest w') := HX.out bs rest w (by omega) ⟨_, _, h⟩
    clear h bc d0 hbx hl hop hn hX
    go_enter_defers Tryz.func138, Tryz.ntmps138
    go_wp2_with fail
    refine (HNB.out _).mono ?_
    rintro e w1 ⟨rfl, rfl⟩
    go_wp2_with fail
    refine HX1.out.mono ?_
    rintro e w3 ⟨rfl, h3⟩
    have H3 := (show Hid (_) from h3)
    clear h3
    go_wp2
    exact ⟨_, results_none rfl _ _ _, rfl, H3.out⟩
set_option maxRecDepth 100000 in
set_option maxHeartbeats 4000000 in
/-- Both sides. -/
theorem wsides_any {w0 : World} {b : Nat} {y z : Td} {k l : Fo} (hX : ExC w0 b y k) (hZ : ExC w0 b z l) (op : Int) (hop : op = 5 ∨ op = 6) (m : ByteArray) (hm : m.size = 3) (bs : List UInt8) (rest : List Td) (w : World)
    (hl : bs.length + (brx (op - 5).toNat (mkTn y k.trs)).length + (brx ((op - 5).toNat + 1) (mkTn z l.trs)).length + 3 ≤ 500000) (hW : WyE w0 b bs (y :: (k.nodes ++ (z :: (l.nodes ++ rest)))) w) :
    Calls Tryz.prog 95 #[.pointer (some ⟨b, 0, none⟩), .int .i64 op, .string m] w fun e w' => e = .returned (.tuple #[]) ∧ WyE w0 b (bs ++ (brx (op - 5).toNat (mkTn y k.trs) ++ btL m ++ brx ((op - 5).toNat + 1) (mkTn z l.trs))) rest w' := by
  have hml : (btL m).length = 3 := by rw [btL_len, hm]
  have H1 : Hid (Calls Tryz.prog 138 #[.pointer (some ⟨b, 0, none⟩), .int .i64 op, .bool false] w fun e w' => e = .returned (.tuple #[]) ∧ WyE w0 b (bs ++ brx (op - 5).toNat (mkTn y k.trs)) (z :: (l.nodes ++ rest)) w') := wside_any hX op hop false bs _ w (by simp only [Bool.toNat_false, Nat.add_zero]; omega) hW
  generalize brx (op - 5).toNat (mkTn y k.trs) = X at H1 hl ⊢
  have H2 : Hid (∀ W, WyE w0 b (bs ++ X) (z :: (l.nodes ++ rest)) W → Calls Tryz.prog 63 #[.pointer (some ⟨b, 0, none⟩), .string m] W fun e w' => (∃ z, e = .returned (.tuple #[z, .nilIface])) ∧ WyE w0 b (bs ++ X ++ btL m) (z :: (l.nodes ++ rest)) w') := fun W hW => by
    obtain ⟨A, c, h⟩ := hW
    refine (wtext_any h m (by simp only [List.length_append]; omega) (by omega)).mono ?_
    rintro e w' ⟨rfl, h, _⟩
    exact ⟨⟨_, rfl⟩, _, _, h⟩
  have H3 : Hid (∀ W, WyE w0 b (bs ++ X ++ btL m) (z :: (l.nodes ++ rest)) W → Calls Tryz.prog 138 #[.pointer (some ⟨b, 0, none⟩), .int .i64 op, .bool true] W fun e w' => e = .returned (.tuple #[]) ∧ WyE w0 b (bs ++ X ++ btL m ++ brx ((op - 5).toNat + 1) (mkTn z l.trs)) rest w') := fun W hW => wside_any hZ op hop true _ _ W (by simp only [List.length_append, Bool.toNat_true]; omega) hW
  clear hW hl hX hZ hml hm
  go_enter Tryz.func95, Tryz.ntmps95
  go_wp2_with fail
  refine H1.out.mono ?_
  rintro e w1 ⟨rfl, h1⟩
  have K1 := (show Hid (_) from h1)
  clear h1
  go_wp2_with fail
  refine (H2.out _ K1.out).mono ?_
  rintro e w2 ⟨⟨q, rfl⟩, h2⟩
  have K2 := (show Hid (_) from h2)
  clear h2
  go_wp2_with fail
  refine (H3.out _ K2.out).mono ?_
  rintro e w3 ⟨rfl, h3⟩
  have K3 := (show Hid (_) from h3)
  clear h3
  go_wp2
  go_end0
  refine ⟨rfl, ?_⟩
  have h4 := K3.out
  simp only [List.append_assoc] at h4 ⊢
  exact h4
set_option maxRecDepth 100000 in
set_option maxHeartbeats 2000000 in
theorem wexp_two {w0 : World} {b : Nat} {y z : Td} {k l : Fo} (hX : ExC w0 b y k) (hZ : ExC w0 b z l) (op : Int) (hop : op = 5 ∨ op = 6) (tx : ByteArray) (n : Int) : ExC w0 b ⟨op, tx, n⟩ (.cons y k (.cons z l .nil)) := by
  intro bs rest w hl hW
  obtain ⟨A, c, h⟩ := hW
  have hnd : (Fo.cons y k (.cons z l .nil)).nodes ++ rest = y :: (k.nodes ++ (z :: (l.nodes ++ rest))) := by simp [Fo.nodes]
  rw [hnd] at h
  have HN : Hid (Calls Tryz.prog 61 #[.pointer (some ⟨b, 0, none⟩)] w fun e w' => e = .returned (tdV ⟨op, tx, n⟩) ∧ WyE w0 b bs (y :: (k.nodes ++ (z :: (l.nodes ++ rest)))) w') := wnext_any h
  have HSD := (show Hid (_) from fun m hm W hl hW => wsides_any hX hZ op hop m hm bs rest W hl hW)
  clear h hnd hX hZ
  rcases hop with rfl | rfl
  · have HL : Hid (txOf ⟨5, tx, n⟩ (Fo.cons y k (.cons z l .nil)).trs = brx 0 (mkTn y k.trs) ++ 32 :: 43 :: 32 :: brx 1 (mkTn z l.trs)) := rfl
    rw [HL.out] at hl ⊢
    simp only [List.length_append, List.length_cons] at hl
    have HS1 : Hid (∀ W : World, WyE w0 b bs (y :: (k.nodes ++ (z :: (l.nodes ++ rest)))) W → Calls Tryz.prog 95 #[.pointer (some ⟨b, 0, none⟩), .int .i64 5, .string ⟨#[32, 43, 32]⟩] W fun e w' => e = .returned (.tuple #[]) ∧ WyE w0 b (bs ++ (brx 0 (mkTn y k.trs) ++ 32 :: 43 :: 32 :: brx 1 (mkTn z l.trs))) rest w') := fun W hW => by
      refine (HSD.out ⟨#[32, 43, 32]⟩ rfl W (by show bs.length + (brx 0 _).length + (brx 1 _).length + 3 ≤ 500000; omega) hW).mono ?_
      rintro e w' ⟨rfl, h6⟩
      refine ⟨rfl, ?_⟩
      have e1 : brx 0 (mkTn y k.trs) ++ 32 :: 43 :: 32 :: brx 1 (mkTn z l.trs) = brx ((5 : Int) - 5).toNat (mkTn y k.trs) ++ btL ⟨#[32, 43, 32]⟩ ++ brx (((5 : Int) - 5).toNat + 1) (mkTn z l.trs) := by simp; rfl
      rw [e1]
      exact h6
    clear HSD hl
    go_enter Tryz.func64, Tryz.ntmps64
    go_wp2_with fail
    refine HN.out.mono ?_
    rintro e w1 ⟨rfl, A1, c1, h1⟩
    have H1 : Hid (∀ W : World, Below w1.heap.size w1 W → WyE w0 b bs (y :: (k.nodes ++ (z :: (l.nodes ++ rest)))) W) := fun W hb => ⟨_, _, h1.grew hb⟩
    clear h1 HN
    go_wp2_with fail
    refine (HS1.out _ (H1.out _ (belA w1 _))).mono ?_
    rintro e w3 ⟨rfl, h3⟩
    go_wp2
    go_end0
    exact ⟨rfl, h3⟩
  · have HL : Hid (txOf ⟨6, tx, n⟩ (Fo.cons y k (.cons z l .nil)).trs = brx 1 (mkTn y k.trs) ++ 32 :: 42 :: 32 :: brx 2 (mkTn z l.trs)) := rfl
    rw [HL.out] at hl ⊢
    simp only [List.length_append, List.length_cons] at hl
    have HS1 : Hid (∀ W : World, WyE w0 b bs (y :: (k.nodes ++ (z :: (l.nodes ++ rest)))) W → Calls Tryz.prog 95 #[.pointer (some ⟨b, 0, none⟩), .int .i64 6, .string ⟨#[32, 42, 32]⟩] W fun e w' => e = .returned (.tuple #[]) ∧ WyE w0 b (bs ++ (brx 1 (mkTn y k.trs) ++ 32 :: 42 :: 32 :: brx 2 (mkTn z l.trs))) rest w') := fun W hW => by
      refine (HSD.out ⟨#[32, 42, 32]⟩ rfl W (by show bs.length + (brx 1 _).length + (brx 2 _).length + 3 ≤ 500000; omega) hW).mono ?_
      rintro e w' ⟨rfl, h6⟩
      refine ⟨rfl, ?_⟩
      have e1 : brx 1 (mkTn y k.trs) ++ 32 :: 42 :: 32 :: brx 2 (mkTn z l.trs) = brx ((6 : Int) - 5).toNat (mkTn y k.trs) ++ btL ⟨#[32, 42, 32]⟩ ++ brx (((6 : Int) - 5).toNat + 1) (mkTn z l.trs) := by simp; rfl
      rw [e1]
      exact h6
    clear HSD hl
    go_enter Tryz.func64, Tryz.ntmps64
    go_wp2_with fail
    refine HN.out.mono ?_
    rintro e w1 ⟨rfl, A1, c1, h1⟩
    have H1 : Hid (∀ W : World, Below w1.heap.size w1 W → WyE w0 b bs (y :: (k.nodes ++ (z :: (l.nodes ++ rest)))) W) := fun W hb => ⟨_, _, h1.grew hb⟩
    clear h1 HN
    go_wp2_with fail
    refine (HS1.out _ (H1.out _ (belA w1 _))).mono ?_
    rintro e w3 ⟨rfl, h3⟩
    go_wp2
    go_end0
    exact ⟨rfl, h3⟩
/-- Every expression is written. -/
theorem wexp_all {w0 : World} {b : Nat} (ht : TabP w0) : ∀ F : Fo, F.ok → F.exs → EAll w0 b F
  | .nil, _, _ => trivial
  | .cons x k n, hok, hex => by
    have hk : EAll w0 b k := wexp_all ht k hok.2.1 fun y hy => hex y (by simp [Fo.nodes, hy])
    have hn : EAll w0 b n := wexp_all ht n hok.2.2 fun y hy => hex y (by simp [Fo.nodes, hy])
    refine ⟨?_, hn⟩
    have hx := hex x (by simp [Fo.nodes])
    have hkl := hok.1
    obtain ⟨op, tx, m⟩ := x
    rcases exN_cases hx with ⟨e1, e2, e3, e4, e5⟩ | ⟨e1, e2, e3, e5⟩ | ⟨e1, e2, e3, e4, e5⟩ | ⟨e1, e2, e3, e4, e5⟩ | ⟨e1, e2, e3, e5⟩ | ⟨e1, e2, e3, e5⟩
    · rw [e5] at hkl
      cases k with
      | cons => simp [Fo.len] at hkl
      | nil =>
        dsimp only at e1 e3 e4
        subst e1
        exact wexp_num ht m e3 e4 tx
    · rw [e5] at hkl
      cases k with
      | cons => simp [Fo.len] at hkl
      | nil =>
        dsimp only at e1
        subst e1
        exact wexp_name tx m
    · rw [e5] at hkl
      dsimp only at e1 e3 e4 hkl
      subst e1
      have : m = (k.len : Int) := by omega
      subst this
      exact wexp_call tx (wkids_any hk (by omega) 40 41)
    · rw [e5] at hkl
      dsimp only at e1 e3 e4 hkl
      subst e1
      have : m = (k.len : Int) := by omega
      subst this
      exact wexp_list tx (wkids_any hk (by omega) 91 93)
    all_goals
      rw [e5] at hkl
      dsimp only at e1
      cases k with
      | nil => simp [Fo.len] at hkl
      | cons y ky r =>
        cases r with
        | nil => simp [Fo.len] at hkl
        | cons z kz r2 =>
          cases r2 with
          | cons => simp [Fo.len] at hkl
          | nil => exact wexp_two hk.1 hk.2.1 op (by omega) tx m
end Go.Proofs.YtmbeamcjpidnjaaGreatDoor
namespace Go.Proofs.YtmbeamcjpidnjaaGreatDoor
open Go Go.RowKit

set_option maxRecDepth 100000 in
set_option maxHeartbeats 2000000 in
theorem wnote_any {w0 : World} {b : Nat} (bs : List UInt8) (rest : List Td) (w : World) (tx : ByteArray) (hl : bs.length + tx.size ≤ 400000) (hW : WyE w0 b bs rest w) :
    Calls Tryz.prog 62 #[.pointer (some ⟨b, 0, none⟩), .string tx] w fun e w' => e = .returned (.tuple #[]) ∧ WyE w0 b (bs ++ (if tx.size = 0 then [35] else [35, 32] ++ btL tx)) rest w' := by
  have H1 : Hid (Calls Tryz.prog 28 #[.pointer (some ⟨b, 0, none⟩), .int .u8 35] w fun e w' => e = .returned .nilIface ∧ WyE w0 b (bs ++ [35]) rest w') := by
    obtain ⟨A, c, h⟩ := hW
    refine (wbyte_any h 35 (by omega)).mono ?_
    rintro e w' ⟨rfl, h1⟩
    exact ⟨rfl, _, _, h1⟩
  by_cases h0 : tx.size = 0
  · rw [if_pos h0]
    have hem : tx = ⟨#[]⟩ := by
      apply ByteArray.ext
      apply Array.toList_inj.1
      exact size_nil.1 h0
    subst hem
    clear hW hl h0
    go_enter Tryz.func62, Tryz.ntmps62
    go_wp2_with fail
    refine H1.out.mono ?_
    rintro e w2 ⟨rfl, h2⟩
    have K2 := (show Hid (_) from h2)
    clear h2
    go_wp2
    go_end0
    exact ⟨rfl, K2.out⟩
  · rw [if_neg h0]
    have hne : (tx.toList == []) = false := by
      rw [Lib.toList_data]
      cases ht : tx.data.toList with
      | nil => exact absurd (size_nil.2 ht) h0
      | cons => rfl
    have hne2 : ¬ tx.toList = [] := by
      intro e; rw [e] at hne; cases hne
    have hnl : (⟨#[]⟩ : ByteArray).toList = [] := by rw [Lib.toList_data]
    have hsz : ¬ 9223372036854775807 < 1 + tx.size := by omega
    have hs1 : (⟨#[32]⟩ : ByteArray).size = 1 := rfl
    have HS0 : ∀ S : ByteArray, S.size ≤ 1000000 → btL S = 32 :: btL tx → ∀ W, WyE w0 b (bs ++ [35]) rest W → Calls Tryz.prog 63 #[.pointer (some ⟨b, 0, none⟩), .string S] W fun e w' => (∃ z, e = .returned (.tuple #[z, .nilIface])) ∧ WyE w0 b (bs ++ ([35, 32] ++ btL tx)) rest w' := fun S hS1 hS2 W hW => by
      obtain ⟨A, c, h⟩ := hW
      refine (wtext_any h S (by simp only [List.length_append, List.length_cons, List.length_nil]; omega) hS1).mono ?_
      rintro e w' ⟨rfl, h, _⟩
      refine ⟨⟨_, rfl⟩, A, c, ?_⟩
      rw [hS2] at h
      have e2 : bs ++ ([35, 32] ++ btL tx) = bs ++ [35] ++ 32 :: btL tx := by simp
      rw [e2]
      exact h
    have H2 := (show Hid (_) from HS0 (⟨#[32]⟩ ++ tx) (by rw [ByteArray.size_append, hs1]; omega) (by simp [btL]))
    clear HS0
    clear hW h0 hl
    go_enter Tryz.func62, Tryz.ntmps62
    go_wp2_with fail
    refine H1.out.mono ?_
    rintro e w2 ⟨rfl, h2⟩
    have K2 := (show Hid (_) from h2)
    clear h2
    go_wp2_with fail
    refine (H2.out _ K2.out).mono ?_
    rintro e w3 ⟨⟨q, rfl⟩, h3⟩
    have K3 := (show Hid (_) from h3)
    clear h3
    go_wp2
    go_end0
    exact ⟨rfl, K3.out⟩
set_option maxRecDepth 100000 in
set_option maxHeartbeats 2000000 in
/-- A statement's line. -/
theorem wstat_any {w0 : World} {b : Nat} (ht : TabP w0) (bs : List UInt8) (ds : List Td) (hf : treeF ds = 0) (w : World) (hl : bs.length ≤ 200000) (hW : WyE w0 b bs ds w) :
    Calls Tryz.prog 27 #[.pointer (some ⟨b, 0, none⟩)] w fun e w' => e = .returned (.tuple #[]) ∧ WyE w0 b (bs ++ stTx ds) [] w' := by
  have hsl := st_len hf
  rcases st_cases hf with ⟨⟨op, tx, n⟩, rfl, h9, h0, hnt⟩ | ⟨x, F, rfl, hok, hex, h1, hop⟩
  · dsimp only at h9 h0 hnt
    subst h9
    have hst : stTx [⟨9, tx, n⟩] = if tx.size = 0 then [35] else [35, 32] ++ btL tx := rfl
    have hnl := note_len hnt
    rw [hst] at hsl ⊢
    obtain ⟨A, c, h⟩ := hW
    have HN : Hid (Calls Tryz.prog 61 #[.pointer (some ⟨b, 0, none⟩)] w fun e w' => e = .returned (tdV ⟨9, tx, n⟩) ∧ WyE w0 b bs [] w') := wnext_any h
    have HT : Hid (∀ W, WyE w0 b bs [] W → Calls Tryz.prog 62 #[.pointer (some ⟨b, 0, none⟩), .string tx] W fun e w' => e = .returned (.tuple #[]) ∧ WyE w0 b (bs ++ (if tx.size = 0 then [35] else [35, 32] ++ btL tx)) [] w') := fun W hW => wnote_any bs [] W tx (by omega) hW
    generalize (if tx.size = 0 then [35] else [35, 32] ++ btL tx) = X at HT ⊢
    clear h hst hsl hf
    go_enter Tryz.func27, Tryz.ntmps27
    go_wp2_with fail
    refine HN.out.mono ?_
    rintro e w1 ⟨rfl, A1, c1, h1⟩
    have H1 : Hid (∀ W : World, Below w1.heap.size w1 W → WyE w0 b bs [] W) := fun W hb => ⟨_, _, h1.grew hb⟩
    clear h1 HN
    go_wp2_with fail
    refine (HT.out _ (H1.out _ (belA w1 _))).mono ?_
    rintro e w3 ⟨rfl, h3⟩
    have K3 := (show Hid (_) from h3)
    clear h3
    go_wp2
    refine bodyPost_ret (results_none rfl _ _ _) rfl ?_
    exact ⟨rfl, K3.out⟩
  · obtain ⟨y, k, rfl⟩ := fo_one h1
    have hX : ExC w0 b y k := (wexp_all ht _ hok hex).1
    have hkd : (Fo.cons y k .nil).len = kdT x := by
      rw [h1]
      rcases hop with ⟨e, _⟩ | ⟨e, _⟩ <;> (unfold kdT; rw [e]; rfl)
    have hst := (st_eq hok hkd).1
    have hnd : (Fo.cons y k .nil).nodes = y :: k.nodes := by simp [Fo.nodes]
    have htr : hdT (Fo.cons y k .nil).trs = txOf y k.trs := rfl
    rw [hst] at hsl ⊢
    rw [hnd] at hW
    obtain ⟨A, c, h⟩ := hW
    have HE : Hid (∀ bs' W, bs'.length + (txOf y k.trs).length ≤ 500000 → WyE w0 b bs' (y :: k.nodes) W → Calls Tryz.prog 64 #[.pointer (some ⟨b, 0, none⟩)] W fun e w' => e = .returned (.tuple #[]) ∧ WyE w0 b (bs' ++ txOf y k.trs) [] w') := fun bs' W hb hW => by
      refine hX bs' [] W hb ?_
      rw [List.append_nil]
      exact hW
    have HB : Hid (∀ bs' W, bs'.length ≤ 500000 → WyE w0 b bs' [] W → Calls Tryz.prog 28 #[.pointer (some ⟨b, 0, none⟩), .int .u8 59] W fun e w' => e = .returned .nilIface ∧ WyE w0 b (bs' ++ [59]) [] w') := fun bs' W hb hW => by
      obtain ⟨A, c, h⟩ := hW
      refine (wbyte_any h 59 (by omega)).mono ?_
      rintro e w' ⟨rfl, h1⟩
      exact ⟨rfl, _, _, h1⟩
    clear hX hst hkd hok hex hf
    obtain ⟨op, tx, n⟩ := x
    have HN : Hid (Calls Tryz.prog 61 #[.pointer (some ⟨b, 0, none⟩)] w fun e w' => e = .returned (tdV ⟨op, tx, n⟩) ∧ WyE w0 b bs (y :: k.nodes) w') := wnext_any h
    clear h
    rcases hop with ⟨e, hnm, _⟩ | ⟨e, _, _⟩
    · dsimp only at e hnm
      subst e
      have hts : tx.size ≤ 8 := by
        simp only [nameT, Bool.and_eq_true, decide_eq_true_eq] at hnm
        exact hnm.1.1.2
      have hsx : stX ⟨7, tx, n⟩ (Fo.cons y k .nil).trs = [108, 101, 116, 32] ++ btL tx ++ [32, 61, 32] ++ txOf y k.trs ++ [59] := rfl
      rw [hsx] at hsl ⊢
      simp only [List.length_append, List.length_cons, List.length_nil] at hsl
      have hs1 : (⟨#[108, 101, 116, 32]⟩ : ByteArray).size = 4 := rfl
      have hs2 : (⟨#[32, 61, 32]⟩ : ByteArray).size = 3 := rfl
      have hg1 : ¬ 9223372036854775807 < 4 + tx.size := by omega
      have hg2 : ¬ 9223372036854775807 < 4 + tx.size + 3 := by omega
      have htl := btL_len tx
      go_enter Tryz.func27, Tryz.ntmps27
      go_wp2_with fail
      refine HN.out.mono ?_
      rintro e w1 ⟨rfl, A1, c1, h1⟩
      have HS0 : ∀ S : ByteArray, S.size ≤ 100 → btL S = [108, 101, 116, 32] ++ btL tx ++ [32, 61, 32] → ∀ W : World, Below w1.heap.size w1 W → Calls Tryz.prog 63 #[.pointer (some ⟨b, 0, none⟩), .string S] W fun e w' => (∃ z, e = .returned (.tuple #[z, .nilIface])) ∧ WyE w0 b (bs ++ ([108, 101, 116, 32] ++ btL tx ++ [32, 61, 32])) (y :: k.nodes) w' := fun S hS1 hS2 W hb => by
        refine (wtext_any (h1.grew hb) S (by omega) (by omega)).mono ?_
        rintro e w' ⟨rfl, h, _⟩
        rw [hS2] at h
        exact ⟨⟨_, rfl⟩, _, _, h⟩
      have HS := (show Hid (_) from HS0 (⟨#[108, 101, 116, 32]⟩ ++ tx ++ ⟨#[32, 61, 32]⟩) (by rw [ByteArray.size_append, ByteArray.size_append, hs1, hs2]; omega) (by simp [btL]))
      clear HS0
      have HE1 : Hid (∀ W, WyE w0 b (bs ++ ([108, 101, 116, 32] ++ btL tx ++ [32, 61, 32])) (y :: k.nodes) W → Calls Tryz.prog 64 #[.pointer (some ⟨b, 0, none⟩)] W fun e w' => e = .returned (.tuple #[]) ∧ WyE w0 b (bs ++ ([108, 101, 116, 32] ++ btL tx ++ [32, 61, 32]) ++ txOf y k.trs) [] w') := fun W hW => HE.out _ W (by simp only [List.length_append, List.length_cons, List.length_nil]; omega) hW
      have HB1 : Hid (∀ W, WyE w0 b (bs ++ ([108, 101, 116, 32] ++ btL tx ++ [32, 61, 32]) ++ txOf y k.trs) [] W → Calls Tryz.prog 28 #[.pointer (some ⟨b, 0, none⟩), .int .u8 59] W fun e w' => e = .returned .nilIface ∧ WyE w0 b (bs ++ ([108, 101, 116, 32] ++ btL tx ++ [32, 61, 32] ++ txOf y k.trs ++ [59])) [] w') := fun W hW => by
        refine (HB.out _ W (by simp only [List.length_append, List.length_cons, List.length_nil]; omega) hW).mono ?_
        rintro e w' ⟨rfl, h⟩
        refine ⟨rfl, ?_⟩
        simp only [List.append_assoc] at h ⊢
        exact h
      clear h1 HN HE HB
      generalize (bs ++ ([108, 101, 116, 32] ++ btL tx ++ [32, 61, 32]) ++ txOf y k.trs) = P2 at HE1 HB1
      generalize (bs ++ ([108, 101, 116, 32] ++ btL tx ++ [32, 61, 32])) = P1 at HS HE1
      clear hsx htr hnd hsl htl hnm
      go_wp2_with fail
      go_region_with (go_at_call 63; refine (HS.out _ (belAD w1 _)).mono ?_; rintro e w3 ⟨⟨z, rfl⟩, h3⟩)
      all_goals
        have K3 := (show Hid (_) from h3)
        clear h3
        go_wp2_with fail
        refine (HE1.out _ K3.out).mono ?_
        rintro e w4 ⟨rfl, h4⟩
        have K4 := (show Hid (_) from h4)
        clear h4
        go_wp2_with fail
        refine (HB1.out _ K4.out).mono ?_
        rintro e w5 ⟨rfl, h5⟩
        have K5 := (show Hid (_) from h5)
        clear h5
        go_wp2
        go_end0
        exact ⟨rfl, K5.out⟩
    · dsimp only at e
      subst e
      have hsx : stX ⟨8, tx, n⟩ (Fo.cons y k .nil).trs = txOf y k.trs ++ [59] := rfl
      rw [hsx] at hsl ⊢
      simp only [List.length_append, List.length_cons, List.length_nil] at hsl
      have HE1 : Hid (∀ W, WyE w0 b bs (y :: k.nodes) W → Calls Tryz.prog 64 #[.pointer (some ⟨b, 0, none⟩)] W fun e w' => e = .returned (.tuple #[]) ∧ WyE w0 b (bs ++ txOf y k.trs) [] w') := fun W hW => HE.out _ W (by omega) hW
      have HB1 : Hid (∀ W, WyE w0 b (bs ++ txOf y k.trs) [] W → Calls Tryz.prog 28 #[.pointer (some ⟨b, 0, none⟩), .int .u8 59] W fun e w' => e = .returned .nilIface ∧ WyE w0 b (bs ++ (txOf y k.trs ++ [59])) [] w') := fun W hW => by
        refine (HB.out _ W (by simp only [List.length_append]; omega) hW).mono ?_
        rintro e w' ⟨rfl, h⟩
        refine ⟨rfl, ?_⟩
        rw [List.append_assoc] at h
        exact h
      clear HE HB
      generalize bs ++ txOf y k.trs = P1 at HE1 HB1
      clear hsx htr hnd hsl
      go_enter Tryz.func27, Tryz.ntmps27
      go_wp2_with fail
      refine HN.out.mono ?_
      rintro e w1 ⟨rfl, A1, c1, h1⟩
      have H1 : Hid (∀ W : World, Below w1.heap.size w1 W → WyE w0 b bs (y :: k.nodes) W) := fun W hb => ⟨_, _, h1.grew hb⟩
      clear h1 HN
      go_wp2_with fail
      refine (HE1.out _ (H1.out _ (belA w1 _))).mono ?_
      rintro e w4 ⟨rfl, h4⟩
      have K4 := (show Hid (_) from h4)
      clear h4
      go_wp2_with fail
      refine (HB1.out _ K4.out).mono ?_
      rintro e w5 ⟨rfl, h5⟩
      have K5 := (show Hid (_) from h5)
      clear h5
      go_wp2
      go_end0
      exact ⟨rfl, K5.out⟩
/-- What the loop over statements keeps. -/
structure PlAt (w0 : World) (b : Nat) (ps : List (List Td)) (i : Nat) (w : World) : Prop where
  le : i ≤ ps.length
  w : WyE w0 b (prgTx (ps.take i)) [] w
theorem prgTx_take {ps : List (List Td)} {i : Nat} (h : i < ps.length) : prgTx (ps.take (i + 1)) = prgTx (ps.take i) ++ stTx ps[i] ++ [10] := by
  rw [List.take_succ_eq_append_getElem h, prgTx_snoc]; simp
theorem prg_take {ps : List (List Td)} (hP : ∀ t ∈ ps, treeF t = 0) (hl : ps.length ≤ 20) (i : Nat) : (prgTx (ps.take i)).length ≤ 50000 := by
  have h1 := prg_len (ps.take i) fun t ht => hP t (List.mem_of_mem_take ht)
  have h2 : (ps.take i).length ≤ ps.length := by rw [List.length_take]; omega
  omega
set_option maxRecDepth 100000 in
set_option maxHeartbeats 4000000 in
theorem synPrint_pow (ps : List (List Td)) (a : Option Addr) (cap : Nat) (w : World) (hc : ps.length ≤ cap) (hP : Prg w a ps) (hsz : ∀ t ∈ ps, Few9 t) (ht : TabP w) : Calls Tryz.prog 9 #[.slice a ps.length cap] w fun e w' => e = .returned (.tuple #[.string (prnS ps), errN (progF ps).2]) ∧ Below w.heap.size w w' := by
  have HA : Hid (Calls Tryz.prog 26 #[.slice a ps.length cap] w fun e w' => e = .returned (.tuple #[.int .i64 ((progF ps).1 : Int), errN (progF ps).2]) ∧ Below w.heap.size w w') := tAll_nine ps a cap w hc hP hsz
  by_cases h0 : (progF ps).2 = 0
  · obtain ⟨h1, h2⟩ := prog_ok h0
    have hok := okP_all ps 0 h2
    have HOK : Hid (∀ t ∈ ps, treeF t = 0) := hok
    have HPL := (show Hid (∀ i, (prgTx (ps.take i)).length ≤ 50000) from prg_take hok h1)
    rw [prnS_ok h0]
    rw [h0] at HA ⊢
    have HP : Hid (Prg w a ps) := hP
    have HT : Hid (TabP w) := ht
    generalize (progF ps).1 = K at HA
    clear hP hsz h0 h2 ht hok
    go_enter Tryz.func9, Tryz.ntmps9
    go_wp2_with fail
    refine HA.out.mono ?_
    rintro e w2 ⟨rfl, b2⟩
    rw [errN_0]
    have HP2 : Hid (Prg w2 a ps) := HP.out.below b2
    have HT2 : Hid (TabP w2) := HT.out.below b2
    have HB2 := (show Hid (_) from b2)
    have HW2 : Hid (PlAt w2 w2.heap.size ps 0 (w2.alloc (.cells #[.pointer none, .slice none 0 0, .slice none 0 0] 69))) := ⟨by omega, none, 0, IsX.fresh 69 w2 [.slice none 0 0], Nat.le_refl _, Tds.nil _ _, belA w2 _, Nat.le_refl _⟩
    clear b2 HA HP HT
    go_wp2_with fail
    go_loopw [19] (fun x wr => ∃ i : Nat, x = .int .i64 (i : Int) ∧ PlAt w2 w2.heap.size ps i wr) (fun x _ => ps.length - (intOf x).toNat)
    case atStart => exact ⟨0, rfl, HW2.out⟩
    case round =>
      obtain ⟨i, rfl, hle, hW⟩ := hrel
      have hpl := HPL.out i
      by_cases hi : i < ps.length
      · have hii : (i : Int) < (ps.length : Int) := by omega
        obtain ⟨b0, o0, A0, c0, rfl, hlt, d0, hc0, hT0⟩ := HP2.out i hi
        obtain ⟨A, c, h⟩ := hW
        obtain ⟨bc, _⟩ := bcell h.bl
        have e0 : wr.cell? ⟨b0, o0 + i, none⟩ = some (.slice A0 ps[i].length c0) := (bc _ _ hlt).trans d0
        have cR : wr.cell? ⟨w2.heap.size, 2, none⟩ = some (.slice A ([] : List Td).length c) := h.x.cellR 0
        have fR : wr.frozen? ⟨w2.heap.size, 2, none⟩ = false := h.x.frozen 2
        have hz := h.bl.size
        have HS : Hid (Calls Tryz.prog 27 #[.pointer (some ⟨w2.heap.size, 0, none⟩)] (wr.setCell ⟨w2.heap.size, 2, none⟩ (.slice A0 ps[i].length c0)) fun e w' => e = .returned (.tuple #[]) ∧ WyE w2 w2.heap.size (prgTx (ps.take i) ++ stTx ps[i]) [] w') := by
          refine wstat_any HT2.out _ ps[i] (HOK.out _ (List.getElem_mem hi)) _ (by omega) ⟨A0, c0, h.x.stored 0 _, hc0, hT0, h.bl.setCell (p := ⟨w2.heap.size, 2, none⟩) (Nat.le_refl _) _, Nat.le_refl _⟩
        have hsl := st_len (HOK.out _ (List.getElem_mem hi))
        have HB : Hid (∀ W, WyE w2 w2.heap.size (prgTx (ps.take i) ++ stTx ps[i]) [] W → Calls Tryz.prog 28 #[.pointer (some ⟨w2.heap.size, 0, none⟩), .int .u8 10] W fun e w' => e = .returned .nilIface ∧ PlAt w2 w2.heap.size ps (i + 1) w') := fun W hW => by
          obtain ⟨A, c, h⟩ := hW
          refine (wbyte_any h 10 (by rw [List.length_append]; omega)).mono ?_
          rintro e w' ⟨rfl, h1⟩
          exact ⟨rfl, hi, A, c, by rw [prgTx_take hi]; exact h1⟩
        clear h d0 hT0 bc hsl hpl hc0
        generalize ps[i].length = pn at e0 HS
        go_wp2_with fail
        refine HS.out.mono ?_
        rintro e w3 ⟨rfl, h3⟩
        have K3 := (show Hid (_) from h3)
        clear h3
        go_wp2_with fail
        refine (HB.out _ K3.out).mono ?_
        rintro e w4 ⟨rfl, h4⟩
        have K4 := (show Hid (_) from h4)
        clear h4
        go_wp2
        refine ⟨⟨i + 1, by go_num, K4.out⟩, ?_⟩
        simp [intOf]; omega
      · have hii : ¬ (i : Int) < (ps.length : Int) := by omega
        have hie : ps.take i = ps := List.take_of_length_le (by omega)
        rw [hie] at hW
        obtain ⟨A, c, h⟩ := hW
        have HO : Hid (Calls Tryz.prog 29 #[.pointer (some ⟨w2.heap.size, 0, none⟩)] wr fun e w' => e = .returned (.string (wbS (prgTx ps))) ∧ Below w2.heap.size wr w') := xout_any _ _ _ _ _ _ h.x
        have HBL : Hid (Below w2.heap.size w2 wr) := h.bl
        generalize hTe : wbS (prgTx ps) = T at HO
        have HTE : Hid (wbS (prgTx ps) = T) := hTe
        clear h hie hpl hTe
        go_wp2_with fail
        refine HO.out.mono ?_
        rintro e w3 ⟨rfl, b3⟩
        have B3 := (show Hid (_) from belowT HB2.out (Nat.le_refl _) (HBL.out.trans b3))
        clear b3
        go_wp2
        go_ret2
        exact ⟨by rw [HTE.out]; rfl, B3.out⟩
  · rw [prnS_no h0]
    have HE : Hid (errN (progF ps).2 = .iface 23 (.int .i64 (progF ps).2)) := errN_ne h0
    generalize (progF ps).2 = E at HA HE ⊢
    generalize (progF ps).1 = K at HA
    clear hP hsz h0 ht
    go_enter Tryz.func9, Tryz.ntmps9
    go_wp2_with fail
    refine HA.out.mono ?_
    rintro e w2 ⟨rfl, b2⟩
    rw [HE.out]
    go_wp2
    go_ret2
    exact ⟨by rw [HE.out]; rfl, b2⟩
theorem synPrint_nine (ps : List (List Td)) (a : Option Addr) (cap : Nat) (w : World) (hc : ps.length ≤ cap) (hP : Prg w a ps) (hsz : ∀ t ∈ ps, Few9 t) (ht : Tabs w) : Calls Tryz.prog 9 #[.slice a ps.length cap] w fun e w' => e = .returned (.tuple #[.string (prnS ps), errN (progF ps).2]) ∧ Below w.heap.size w w' :=
  synPrint_pow ps a cap w hc hP hsz ht.pow
end Go.Proofs.YtmbeamcjpidnjaaGreatDoor
