/- Package lex: what may stand in a word; the longest beginning of a text; its line; blanks at its end. -/
import Derived.Test.YtlogepdifapciabDoorLexV
import Derived.Test.YtlogepdifapciabDoorCutA
import Derived.Test.YtlogepdifapciabDoorBase
namespace Go.Proofs.YtlogepdifapciabDoor
open Go Go.RowKit

theorem ext_to (t : ByteArray) (k : Nat) : t.extract 0 k = wbS ((btL t).take k) := by
  rw [wbS_ext, List.drop_zero, Nat.sub_zero]
theorem ext_from (t : ByteArray) (k : Nat) : btL (t.extract k t.size) = (btL t).drop k := Lib.extract_to_end t k
/-- From one byte to another. -/
def rngB (lo hi : Nat) (c : UInt8) : Bool := decide (lo ≤ c.toNat) && decide (c.toNat ≤ hi)
theorem rng_low : rngB 97 122 = lowB := rfl
theorem rng_fig : rngB 48 57 = figB := rfl
theorem rng_pr : rngB 32 126 = prB := rfl

theorem cellA_new (w : World) (v : Value) (t : TypeId) : (w.alloc (.cells #[v] t)).cell? ⟨w.heap.size, 0, none⟩ = some v := by
  have h : (w.alloc (.cells #[v] t)).heap[w.heap.size]? = some (.cells #[v] t) := by
    show (w.heap.push (.cells #[v] t))[w.heap.size]? = _
    simp
  simp only [World.cell?, Option.isSome_none, Bool.false_eq_true, if_false, h]
  rfl
theorem cellA_old {w : World} {o : Obj} {b k : Nat} (h : b < w.heap.size) : (w.alloc o).cell? ⟨b, k, none⟩ = w.cell? ⟨b, k, none⟩ := by
  simp [World.cell?, Below.heap_alloc w o b h]
/-- Where the bounds of a closure of from lie. -/
structure FromAt (w : World) (a b lo hi : Nat) : Prop where
  la : a < w.heap.size
  lb : b < w.heap.size
  ca : w.cell? ⟨a, 0, none⟩ = some (.int .u8 (lo : Int))
  cb : w.cell? ⟨b, 0, none⟩ = some (.int .u8 (hi : Int))
theorem FromAt.below {w w' : World} {a b lo hi : Nat} (h : FromAt w a b lo hi) (hb : Below w.heap.size w w') : FromAt w' a b lo hi :=
  { la := Nat.lt_of_lt_of_le h.la hb.size, lb := Nat.lt_of_lt_of_le h.lb hb.size, ca := (hb.cell (p := ⟨a, 0, none⟩) h.la).trans h.ca, cb := (hb.cell (p := ⟨b, 0, none⟩) h.lb).trans h.cb }
abbrev fromV (a b : Nat) : Value := .func (.func 50) #[] #[.pointer (some ⟨a, 0, none⟩), .pointer (some ⟨b, 0, none⟩)]

set_option maxRecDepth 100000 in
theorem from_any (lo hi : Nat) (w : World) : Calls Tryd.prog 37 #[.int .u8 (lo : Int), .int .u8 (hi : Int)] w fun e w' => (∃ a b, e = .returned (fromV a b) ∧ FromAt w' a b lo hi) ∧ Below w.heap.size w w' := by
  go_enter Tryd.func37, Tryd.ntmps37
  go_wp2
  go_ret
  refine ⟨⟨w.heap.size, w.heap.size + 1, rfl, ?_⟩, ?_⟩
  · refine { la := ?_, lb := ?_, ca := ?_, cb := ?_ }
    · rw [World.size_alloc, World.size_alloc]; omega
    · rw [World.size_alloc, World.size_alloc]; omega
    · rw [cellA_old (by rw [World.size_alloc]; omega)]
      exact cellA_new w _ _
    · have h := cellA_new (w.alloc (.cells #[.int .u8 (lo : Int)] 5)) (.int .u8 (hi : Int)) 5
      rw [World.size_alloc] at h
      exact h
  · exact ((Below.refl w.heap.size w).alloc (Nat.le_refl _) _).alloc (by rw [World.size_alloc]; omega) _

set_option maxRecDepth 100000 in
theorem from1_any (c : UInt8) {a b lo hi : Nat} {w : World} (h : FromAt w a b lo hi) : Calls Tryd.prog 50 #[.int .u8 (c.toNat : Int), .pointer (some ⟨a, 0, none⟩), .pointer (some ⟨b, 0, none⟩)] w fun e w' => e = .returned (.bool (rngB lo hi c)) ∧ w = w' := by
  obtain ⟨_, _, ca, cb⟩ := h
  by_cases h1 : (lo : Int) ≤ (c.toNat : Int)
  · by_cases h2 : (c.toNat : Int) ≤ (hi : Int)
    · have HE : Hid (rngB lo hi c = true) := by show rngB lo hi c = true; simp [rngB]; omega
      go_enter Tryd.func50, Tryd.ntmps50
      go_wp2
      go_ret
      exact ⟨by rw [HE.out]; rfl, rfl⟩
    · have HE : Hid (rngB lo hi c = false) := by show rngB lo hi c = false; simp [rngB]; omega
      go_enter Tryd.func50, Tryd.ntmps50
      go_wp2
      go_ret
      exact ⟨by rw [HE.out]; rfl, rfl⟩
  · have HE : Hid (rngB lo hi c = false) := by show rngB lo hi c = false; simp [rngB]; omega
    go_enter Tryd.func50, Tryd.ntmps50
    go_wp2
    go_ret
    exact ⟨by rw [HE.out]; rfl, rfl⟩

set_option maxRecDepth 100000 in
set_option maxHeartbeats 1000000 in
theorem run_any (t : ByteArray) {a b lo hi : Nat} {w : World} (h : FromAt w a b lo hi) (hs : t.size ≤ 60000) :
    Calls Tryd.prog 38 #[.string t, fromV a b] w fun e w' => e = .returned (.string (wbS ((btL t).takeWhile (rngB lo hi)))) ∧ w = w' := by
  have HF : Hid (FromAt w a b lo hi) := h
  clear h
  go_enter Tryd.func38, Tryd.ntmps38
  go_wp2_with fail
  go_loopw [5] (fun n wr => wr = w ∧ ∃ k : Nat, n = .int .i64 (k : Int) ∧ k ≤ t.size ∧ k + twN (rngB lo hi) t k = twN (rngB lo hi) t 0) (fun n _ => t.size - (intOf n).toNat)
  case atStart => exact ⟨rfl, 0, rfl, Nat.zero_le _, by omega⟩
  case round =>
    obtain ⟨rfl, k, rfl, hk, htw⟩ := hrel
    have HT : Hid (k + twN (rngB lo hi) t k = twN (rngB lo hi) t 0) := htw
    clear htw
    have hsl : twN (rngB lo hi) t k = 0 → t.extract 0 k = wbS ((btL t).takeWhile (rngB lo hi)) := fun e1 => by
      have e2 := HT.out
      have e3 : ((btL t).takeWhile (rngB lo hi)).length = k := by
        rw [twN, twN, List.drop_zero] at e2
        rw [twN] at e1
        omega
      rw [ext_to, ← e3, tw_is]
    by_cases hlt : k < t.size
    · have hki : (k : Int) < (t.size : Int) := by omega
      cases hp : rngB lo hi t[k] with
      | true =>
        have HN : Hid (k + 1 + twN (rngB lo hi) t (k + 1) = twN (rngB lo hi) t 0) := by
          show _ = _
          have := twN_yes hlt hp
          have := HT.out
          omega
        go_wp2_with fail
        refine (from1_any t[k] HF.out).mono ?_
        rintro e w2 ⟨rfl, rfl⟩
        rw [hp]
        go_wp2
        go_roundw
        case rel => exact ⟨by trivial, k + 1, by go_num, by omega, HN.out⟩
        case measure => simp [intOf]; omega
      | false =>
        have HS := (show Hid (_) from hsl (twN_no hlt hp))
        go_wp2_with fail
        refine (from1_any t[k] HF.out).mono ?_
        rintro e w2 ⟨rfl, rfl⟩
        rw [hp]
        go_wp2
        go_ret
        exact ⟨by rw [HS.out]; rfl, rfl⟩
    · have hki : ¬ (k : Int) < (t.size : Int) := by omega
      have HS := (show Hid (_) from hsl (twN_end hlt))
      go_wp2
      go_ret
      exact ⟨by rw [HS.out]; rfl, rfl⟩

def strSz : Value → Nat
  | .string u => u.size
  | _ => 0
theorem belDrew (w : World) (n : Nat) : Below w.heap.size w (w.drewN n) := (Below.refl w.heap.size w).trans ⟨rfl, rfl, rfl, Nat.le_refl _, fun _ _ => rfl⟩
/-- Blanks at the end of a text. -/
theorem last_split (u : ByteArray) (h : 0 < u.size) : btL u = btL (u.extract 0 (u.size - 1)) ++ [u[u.size - 1]] := by
  have hl : u.size - 1 < (btL u).length := by rw [btL_len]; omega
  have e1 : btL (u.extract 0 (u.size - 1)) = (btL u).take (u.size - 1) := by rw [ext_to]; rfl
  have e2 := List.take_succ_eq_append_getElem hl
  have e3 : u.size - 1 + 1 = (btL u).length := by rw [btL_len]; omega
  rw [e3, List.take_length] at e2
  rw [e1]
  exact e2
set_option maxRecDepth 100000 in
set_option maxHeartbeats 1000000 in
theorem trimB_any (t : ByteArray) (w : World) (hs : t.size ≤ 60000) :
    Calls Tryd.prog 52 #[.string t, .int .u8 32] w fun e w' => e = .returned (.string (wbS (trimE (btL t)))) ∧ w = w' := by
  go_enter Tryd.func52, Tryd.ntmps52
  go_wp2_with fail
  go_loopw [0] (fun x wr => wr = w ∧ ∃ u : ByteArray, x = .string u ∧ u.size ≤ 60000 ∧ trimE (btL u) = trimE (btL t)) (fun x _ => strSz x)
  case atStart => exact ⟨rfl, t, rfl, hs, rfl⟩
  case round =>
    obtain ⟨rfl, u, rfl, hu, htr⟩ := hrel
    have HT : Hid (trimE (btL u) = trimE (btL t)) := htr
    clear htr
    by_cases h0 : 0 < u.size
    · have h0i : (0 : Int) < (u.size : Int) := by omega
      have HL : Hid (btL u = btL (u.extract 0 (u.size - 1)) ++ [u[u.size - 1]]) := last_split u h0
      cases hb : (u[u.size - 1] == 32) with
      | true =>
        have hbi : ((u[u.size - 1].toNat : Int) == 32) = true := by rw [show (32 : Int) = ((32 : Nat) : Int) from rfl, u8_eq _ 32 (by decide)]; exact hb
        have HE : Hid (trimE (btL (u.extract 0 (u.size - 1))) = trimE (btL t)) := by
          show _ = _
          rw [← HT.out, HL.out, beq_iff_eq.1 hb, trimE_blank]
        have hsz : (u.extract 0 (u.size - 1)).size = u.size - 1 := by rw [ByteArray.size_extract]; omega
        have HSZ := (show Hid (_ = _) from hsz)
        clear hb hsz
        go_wp2
        exact ⟨⟨by trivial, _, rfl, by rw [HSZ.out]; omega, HE.out⟩, by show (u.extract 0 (u.size - 1)).size < u.size; rw [HSZ.out]; omega⟩
      | false =>
        have hbi : ((u[u.size - 1].toNat : Int) == 32) = false := by rw [show (32 : Int) = ((32 : Nat) : Int) from rfl, u8_eq _ 32 (by decide)]; exact hb
        have HE : Hid (u = wbS (trimE (btL t))) := by
          show _ = _
          rw [← HT.out, HL.out, trimE_other _ (by simpa using hb), ← last_split u h0]
          rfl
        clear hb
        go_wp2
        go_ret
        exact ⟨by rw [← HE.out]; rfl, rfl⟩
    · have h0i : ¬ (0 : Int) < (u.size : Int) := by omega
      have HE : Hid (u = wbS (trimE (btL t))) := by
        show _ = _
        have e1 : btL u = [] := List.eq_nil_of_length_eq_zero (by rw [btL_len]; omega)
        rw [← HT.out, e1, trimE_nil]
        show u = ⟨#[]⟩
        apply ByteArray.ext
        exact Array.toList_inj.1 e1
      go_wp2
      go_ret
      exact ⟨by rw [← HE.out]; rfl, rfl⟩

set_option maxRecDepth 100000 in
set_option maxHeartbeats 1000000 in
theorem trimR_any (t : ByteArray) (w : World) (h0 : 0 < t.size) (hs : t.size ≤ 60000) :
    Calls Tryd.prog 40 #[.string t, .string ⟨#[32]⟩] w fun e w' => e = .returned (.string (wbS (trimE (btL t)))) ∧ w = w' := by
  have h1 : (t.toList == []) = false := by
    rw [Lib.toList_data]
    have := (show t.data.toList.length = t.size from btL_len t)
    cases h : t.data.toList with
    | nil => rw [h] at this; simp at this; omega
    | cons a b => rfl
  go_enter Tryd.func40, Tryd.ntmps40
  go_wp2_with fail
  refine (trimB_any t _ hs).mono ?_
  rintro e w2 ⟨rfl, rfl⟩
  go_wp2
  go_ret
  exact ⟨rfl, rfl⟩

/-- The line that a text begins with. -/
def lineL (t : ByteArray) : ByteArray := wbS ((btL t).takeWhile nlB)
set_option maxRecDepth 100000 in
set_option maxHeartbeats 1000000 in
theorem scut_any (t : ByteArray) (w : World) (hs : t.size ≤ 60000) :
    Calls Tryd.prog 39 #[.string t, .string ⟨#[10]⟩] w fun e w' => (∃ r b, e = .returned (.tuple #[.string (lineL t), .string r, .bool b])) ∧ Below w.heap.size w w' := by
  have hge := Lib.indexByte_ge t.data.toList 10
  by_cases hm : Lib.indexByte t.data.toList 10 = -1
  · have HE : Hid (t = lineL t) := by
      show t = wbS ((btL t).takeWhile nlB)
      rw [nl_miss _ hm]; rfl
    go_enter Tryd.func39, Tryd.ntmps39
    go_wp2_with (go_at_call 51; refine (cut12_miss _ _ hm).mono ?_; rintro e w' ⟨rfl, n, rfl⟩)
    go_ret3
    exact ⟨⟨_, _, by rw [← HE.out]; rfl⟩, belDrew _ _⟩
  · obtain ⟨i, hi⟩ : ∃ i : Nat, Lib.indexByte t.data.toList 10 = i := ⟨(Lib.indexByte t.data.toList 10).toNat, by omega⟩
    obtain ⟨e1, e2⟩ := nl_hit _ i hi
    have hi1 : i + 1 ≤ t.size := by rw [← btL_len]; exact e2
    have HE : Hid (t.extract 0 i = lineL t) := by
      show t.extract 0 i = wbS ((btL t).takeWhile nlB)
      rw [ext_to, e1]
    clear e1 e2 hge hm
    go_enter Tryd.func39, Tryd.ntmps39
    go_wp2_with (go_at_call 51; refine (cut12_hit _ _ _ hi hi1 hs).mono ?_; rintro e w' ⟨rfl, n, rfl⟩)
    go_ret3
    exact ⟨⟨_, _, by rw [← HE.out]; rfl⟩, belDrew _ _⟩

/-- A closure of oneOf, where its bytes lie. -/
abbrev oneV (a : Nat) : Value := .func (.func 35) #[] #[.pointer (some ⟨a, 0, none⟩)]
def OneAt (w : World) (a : Nat) (bs : ByteArray) : Prop := a < w.heap.size ∧ w.cell? ⟨a, 0, none⟩ = some (.string bs)
theorem OneAt.below {B : Nat} {w w' : World} {a : Nat} {bs : ByteArray} (h : OneAt w a bs) (hB : a < B) (hb : Below B w w') : OneAt w' a bs :=
  ⟨Nat.lt_of_lt_of_le h.1 hb.size, (hb.cell (p := ⟨a, 0, none⟩) hB).trans h.2⟩
set_option maxRecDepth 100000 in
theorem oneOf_any (bs : ByteArray) (w : World) : Calls Tryd.prog 30 #[.string bs] w fun e w' => e = .returned (oneV w.heap.size) ∧ w' = w.alloc (.cells #[.string bs] 9) := by
  go_enter Tryd.func30, Tryd.ntmps30
  go_wp2
  go_ret
  exact ⟨rfl, rfl⟩
theorem OneAt.new (bs : ByteArray) (w : World) : OneAt (w.alloc (.cells #[.string bs] 9)) w.heap.size bs := ⟨by rw [World.size_alloc]; omega, cellA_new w _ _⟩
set_option maxRecDepth 100000 in
theorem sIB_any (s : ByteArray) (c : Int) (w : World) :
    Calls Tryd.prog 36 #[.string s, .int .u8 c] w fun e w' => e = .returned (.int .i64 (Lib.indexByte s.data.toList c.toNat.toUInt8)) ∧ w' = w := by
  go_enter Tryd.func36, Tryd.ntmps36
  go_wp2_with fail
  refine (indexByte_any _ _ _).mono ?_
  rintro e w2 ⟨rfl, rfl⟩
  go_wp2
  go_ret
  exact ⟨rfl, rfl⟩
set_option maxRecDepth 100000 in
theorem oneOf1_any (c : UInt8) {a : Nat} {bs : ByteArray} {w : World} (h : OneAt w a bs) : Calls Tryd.prog 35 #[.int .u8 (c.toNat : Int), .pointer (some ⟨a, 0, none⟩)] w fun e w' => e = .returned (.bool ((btL bs).any (· == c))) ∧ w = w' := by
  have hc := h.2
  have HI := (show Hid (_ = _) from ib_any (btL bs) c)
  have hu : (c.toNat : Int).toNat.toUInt8 = c := by simp
  go_enter Tryd.func35, Tryd.ntmps35
  go_wp2_with fail
  refine (sIB_any bs _ _).mono ?_
  rintro e w2 ⟨rfl, rfl⟩
  rw [hu]
  generalize hz : Lib.indexByte bs.data.toList c = z
  have HZ : Hid (decide (0 ≤ z) = (btL bs).any (· == c)) := by rw [← hz]; exact HI
  clear hz HI
  go_wp2
  go_ret
  exact ⟨by rw [← HZ.out]; rfl, rfl⟩
end Go.Proofs.YtlogepdifapciabDoor
