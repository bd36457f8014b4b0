/- Package syn's writer: expressions. (Made by tools/gen_syb.py.) -/
import Derived.Test.YtjabhlfhpmkfhaaGreatDoorSyA
import Derived.Lib.AppendIntMem
import Derived.Lib.ItoaNum
namespace Go.Proofs.YtjabhlfhpmkfhaaGreatDoor
open Go Go.RowKit

theorem dec_lib (n : Nat) : Lib.decDigits n = decL n := by
  induction n using Nat.strongRecOn with
  | ind n ih =>
    rw [Lib.decDigits, decL]
    by_cases h : n < 10
    · rw [dif_pos h, dif_pos (by omega)]
    · rw [dif_neg h, dif_neg (by omega), ih (n / 10) (by omega)]
theorem itoa_any (n : Int) (h0 : 0 ≤ n) (h1 : n ≤ 999999) (w : World) (ht : Tabs w) : Calls Tryz.prog 60 #[.int .i64 n] w fun e w' => e = .returned (.string (wbS (decL n.toNat))) ∧ Below w.heap.size w w' := by
  refine (itoa_sh n (by omega) (by omega) w ht.pow).mono ?_
  rintro e w' ⟨rfl, k, os, rfl⟩
  refine ⟨?_, Lib.below_grow _ _ (Nat.le_refl _) _ _⟩
  rw [Lib.itoa, if_neg (by omega), dec_lib]; rfl

/-- An expression is written. -/
abbrev ExC (w0 : World) (b : Nat) (x : Td) (k : Fo) : Prop := ∀ (bs : List UInt8) (rest : List Td) (w : World), bs.length + (txOf x k.trs).length ≤ 500000 → WyE w0 b bs (x :: (k.nodes ++ rest)) w →
  Calls Tryz.prog 40 #[.pointer (some ⟨b, 0, none⟩)] w fun e w' => e = .returned (.tuple #[]) ∧ WyE w0 b (bs ++ txOf x k.trs) rest w'
def EAll (w0 : World) (b : Nat) : Fo → Prop
  | .nil => True
  | .cons x k n => ExC w0 b x k ∧ EAll w0 b n
set_option maxRecDepth 100000 in
set_option maxHeartbeats 2000000 in
theorem wexp_num {w0 : World} {b : Nat} (ht : Tabs w0) (n : Int) (h0 : 0 ≤ n) (h9 : n ≤ 999999) (tx : ByteArray) : ExC w0 b ⟨1, tx, n⟩ .nil := by
  intro bs rest w hl hW
  obtain ⟨A, c, h⟩ := hW
  have HN : Hid (Calls Tryz.prog 37 #[.pointer (some ⟨b, 0, none⟩)] w fun e w' => e = .returned (tdV ⟨1, tx, n⟩) ∧ WyE w0 b bs rest w') := wnext_any h
  have HL : Hid (txOf ⟨1, tx, n⟩ Fo.nil.trs = decL n.toNat) := rfl
  rw [HL.out] at hl ⊢
  have HT : Hid (Tabs w0) := ht
  clear h ht
  go_enter Tryz.func40, Tryz.ntmps40
  go_wp2_with fail
  refine HN.out.mono ?_
  rintro e w1 ⟨rfl, A1, c1, h1⟩
  have HI : Hid (∀ W : World, Below w1.heap.size w1 W → Calls Tryz.prog 60 #[.int .i64 n] W fun e w' => e = .returned (.string (wbS (decL n.toNat))) ∧ Below W.heap.size W w') := fun W hb => itoa_any n h0 h9 W ((HT.out.below h1.bl).below hb)
  have HS : Hid (∀ W : World, Below w1.heap.size w1 W → Calls Tryz.prog 39 #[.pointer (some ⟨b, 0, none⟩), .string (wbS (decL n.toNat))] W fun e w' => (∃ z, e = .returned (.tuple #[z, .nilIface])) ∧ WyE w0 b (bs ++ decL n.toNat) rest w') := fun W hb => by
    refine (wtext_any (h1.grew hb) (wbS (decL n.toNat)) (by omega) (by rw [← btL_len, bt_wb]; omega)).mono ?_
    rintro e w' ⟨rfl, h, _⟩
    exact ⟨⟨_, rfl⟩, _, _, h⟩
  generalize wbS (decL n.toNat) = S at HI HS
  clear h1 HN
  go_wp2_with fail
  go_region_with (first | (go_at_call 60; refine (HI.out _ (belAD w1 _)).mono ?_; rintro e w2 ⟨rfl, b2⟩) | (go_at_call 39; refine (HS.out _ (belowT (belAD w1 _) (Nat.le_refl _) b2)).mono ?_; rintro e w3 ⟨⟨z, rfl⟩, h3⟩))
  all_goals
    go_wp2
    go_end0
    exact ⟨rfl, h3⟩
set_option maxRecDepth 100000 in
set_option maxHeartbeats 2000000 in
theorem wexp_name {w0 : World} {b : Nat} (tx : ByteArray) (n : Int) : ExC w0 b ⟨2, tx, n⟩ .nil := by
  intro bs rest w hl hW
  obtain ⟨A, c, h⟩ := hW
  have HN : Hid (Calls Tryz.prog 37 #[.pointer (some ⟨b, 0, none⟩)] w fun e w' => e = .returned (tdV ⟨2, tx, n⟩) ∧ WyE w0 b bs rest w') := wnext_any h
  have HL : Hid (txOf ⟨2, tx, n⟩ Fo.nil.trs = btL tx) := rfl
  rw [HL.out] at hl ⊢
  clear h
  go_enter Tryz.func40, Tryz.ntmps40
  go_wp2_with fail
  refine HN.out.mono ?_
  rintro e w1 ⟨rfl, A1, c1, h1⟩
  have HS : Hid (∀ W : World, Below w1.heap.size w1 W → Calls Tryz.prog 39 #[.pointer (some ⟨b, 0, none⟩), .string tx] W fun e w' => (∃ z, e = .returned (.tuple #[z, .nilIface])) ∧ WyE w0 b (bs ++ btL tx) rest w') := fun W hb => by
    refine (wtext_any (h1.grew hb) tx (by omega) (by rw [← btL_len]; omega)).mono ?_
    rintro e w' ⟨rfl, h, _⟩
    exact ⟨⟨_, rfl⟩, _, _, h⟩
  clear h1 HN
  go_wp2_with fail
  go_region_with (go_at_call 39; refine (HS.out _ (belAD w1 _)).mono ?_; rintro e w3 ⟨⟨z, rfl⟩, h3⟩)
  all_goals
    go_wp2
    go_end0
    exact ⟨rfl, h3⟩
/-- Kids are written. -/
abbrev KdC (w0 : World) (b : Nat) (F : Fo) (o z : UInt8) : Prop := ∀ (bs : List UInt8) (rest : List Td) (w : World), bs.length + (cmx F.trs).length + 2 ≤ 500000 → WyE w0 b bs (F.nodes ++ rest) w →
  Calls Tryz.prog 61 #[.pointer (some ⟨b, 0, none⟩), .int .i64 (F.len : Int), .int .u8 (o.toNat : Int), .int .u8 (z.toNat : Int)] w fun e w' => e = .returned (.tuple #[]) ∧ WyE w0 b (bs ++ o :: (cmx F.trs ++ [z])) rest w'
set_option maxRecDepth 100000 in
set_option maxHeartbeats 2000000 in
theorem wexp_list {w0 : World} {b : Nat} {F : Fo} (tx : ByteArray) (hK : KdC w0 b F 91 93) : ExC w0 b ⟨4, tx, (F.len : Int)⟩ F := by
  intro bs rest w hl hW
  obtain ⟨A, c, h⟩ := hW
  have HN : Hid (Calls Tryz.prog 37 #[.pointer (some ⟨b, 0, none⟩)] w fun e w' => e = .returned (tdV ⟨4, tx, (F.len : Int)⟩) ∧ WyE w0 b bs (F.nodes ++ rest) w') := wnext_any h
  have HL : Hid (txOf ⟨4, tx, (F.len : Int)⟩ F.trs = 91 :: (cmx F.trs ++ [93])) := rfl
  rw [HL.out] at hl ⊢
  have HK : Hid (KdC w0 b F 91 93) := hK
  clear h hK
  simp only [List.length_cons, List.length_append, List.length_nil] at hl
  go_enter Tryz.func40, Tryz.ntmps40
  go_wp2_with fail
  refine HN.out.mono ?_
  rintro e w1 ⟨rfl, A1, c1, h1⟩
  have HS : Hid (∀ W : World, Below w1.heap.size w1 W → Calls Tryz.prog 61 #[.pointer (some ⟨b, 0, none⟩), .int .i64 (F.len : Int), .int .u8 91, .int .u8 93] W fun e w' => e = .returned (.tuple #[]) ∧ WyE w0 b (bs ++ 91 :: (cmx F.trs ++ [93])) rest w') := fun W hb => HK.out bs rest W (by omega) ⟨_, _, h1.grew hb⟩
  clear h1 HN HK
  go_wp2_with fail
  refine (HS.out _ (belA w1 _)).mono ?_
  rintro e w3 ⟨rfl, h3⟩
  go_wp2
  go_end0
  exact ⟨rfl, h3⟩
set_option maxRecDepth 100000 in
set_option maxHeartbeats 2000000 in
theorem wexp_call {w0 : World} {b : Nat} {F : Fo} (tx : ByteArray) (hK : KdC w0 b F 40 41) : ExC w0 b ⟨3, tx, (F.len : Int)⟩ F := by
  intro bs rest w hl hW
  obtain ⟨A, c, h⟩ := hW
  have HN : Hid (Calls Tryz.prog 37 #[.pointer (some ⟨b, 0, none⟩)] w fun e w' => e = .returned (tdV ⟨3, tx, (F.len : Int)⟩) ∧ WyE w0 b bs (F.nodes ++ rest) w') := wnext_any h
  have HL : Hid (txOf ⟨3, tx, (F.len : Int)⟩ F.trs = btL tx ++ 40 :: (cmx F.trs ++ [41])) := rfl
  rw [HL.out] at hl ⊢
  have HK : Hid (KdC w0 b F 40 41) := hK
  clear h hK
  simp only [List.length_cons, List.length_append, List.length_nil] at hl
  go_enter Tryz.func40, Tryz.ntmps40
  go_wp2_with fail
  refine HN.out.mono ?_
  rintro e w1 ⟨rfl, A1, c1, h1⟩
  have HS : Hid (∀ W : World, Below w1.heap.size w1 W → Calls Tryz.prog 39 #[.pointer (some ⟨b, 0, none⟩), .string tx] W fun e w' => (∃ z, e = .returned (.tuple #[z, .nilIface])) ∧ WyE w0 b (bs ++ btL tx) (F.nodes ++ rest) w' ∧ Lib.OthersKept 5 (some b) W w') := fun W hb => by
    refine (wtext_any (h1.grew hb) tx (by omega) (by rw [← btL_len]; omega)).mono ?_
    rintro e w' ⟨rfl, h, hk⟩
    exact ⟨⟨_, rfl⟩, ⟨_, _, h⟩, hk⟩
  have HS2 : Hid (∀ W : World, WyE w0 b (bs ++ btL tx) (F.nodes ++ rest) W → Calls Tryz.prog 61 #[.pointer (some ⟨b, 0, none⟩), .int .i64 (F.len : Int), .int .u8 40, .int .u8 41] W fun e w' => e = .returned (.tuple #[]) ∧ WyE w0 b ((bs ++ btL tx) ++ 40 :: (cmx F.trs ++ [41])) rest w') := fun W hW => HK.out _ rest W (by rw [List.length_append]; omega) hW
  have hbw : b < w1.heap.size := h1.x.lt
  clear h1 HN HK
  generalize F.len = fn at HS2 HL ⊢
  go_wp2_with fail
  go_region_with (go_at_call 39; refine (HS.out _ (belAD w1 _)).mono ?_; rintro e w3 ⟨⟨z, rfl⟩, h3, hk3⟩)
  all_goals
    have hbox : w3.heap[w1.heap.size]? = some (.cells #[.int .i64 3, .string tx, .int .i64 (fn : Int)] 39 (0, 0)) := hk3 _ _ (heap_alloc_new w1 _) (by simp; omega) (fun c fz e => by cases e)
    have hn2 : w3.cell? ⟨w1.heap.size, 2, none⟩ = some (.int .i64 (fn : Int)) := by rw [Lib.cell_of_heap hbox]; rfl
    clear hbox hk3
    go_wp2_with fail
    refine (HS2.out _ h3).mono ?_
    rintro e w4 ⟨rfl, h4⟩
    go_wp2
    go_end0
    rw [List.append_assoc] at h4
    exact ⟨rfl, h4⟩
end Go.Proofs.YtjabhlfhpmkfhaaGreatDoor
