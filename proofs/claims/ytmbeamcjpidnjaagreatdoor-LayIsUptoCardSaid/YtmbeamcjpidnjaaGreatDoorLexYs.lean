/- Some texts as one: LexV, CutA, LexX, LexY, LexW. -/
import Derived.Test.YtmbeamcjpidnjaaGreatDoorLexPs
import Derived.Lib.Bytealg
import Derived.Lib.IndexLaws
import Derived.Test.YtmbeamcjpidnjaaGreatDoorTreYs
import Derived.Test.YtmbeamcjpidnjaaGreatDoorBase
import Derived.Deep.RegionHeld3
import Derived.Test.YtmbeamcjpidnjaaGreatDoorLexTs
import Derived.Test.YtmbeamcjpidnjaaGreatDoorShf
namespace Go.Proofs.YtmbeamcjpidnjaaGreatDoor
open Go

theorem lx_blanks : ∀ (z r : List UInt8) (i : Nat), (∀ x ∈ z, x = 32) → lx (z ++ r) i = lx r (i + z.length)
  | [], r, i, _ => by simp
  | c :: z, r, i, h => by
    have hc : c = 32 := h c (by simp)
    subst hc
    rw [List.cons_append, lx_sp _ _ (by decide), lx_blanks z r (i + 1) (fun x hx => h x (by simp [hx])), List.length_cons]
    congr 1; omega
theorem tw_all {p : UInt8 → Bool} : ∀ (l : List UInt8) x, x ∈ l.takeWhile p → p x = true
  | [], x, hx => by cases hx
  | a :: l, x, hx => by
    rw [List.takeWhile_cons] at hx
    by_cases ha : p a = true
    · rw [if_pos ha] at hx
      rcases List.mem_cons.1 hx with rfl | hx
      · exact ha
      · exact tw_all l x hx
    · rw [if_neg ha] at hx; cases hx
theorem trimE_rest (w : List UInt8) : ∃ z, w = trimE w ++ z ∧ ∀ x ∈ z, x = 32 := by
  refine ⟨(w.reverse.takeWhile (· == 32)).reverse, ?_, fun x hx => ?_⟩
  · rw [trimE, ← List.reverse_append, List.takeWhile_append_dropWhile, List.reverse_reverse]
  · have := tw_all _ _ (List.mem_reverse.1 hx)
    exact beq_iff_eq.1 this
/-- The word is shorter than what begins here by blanks alone. -/
theorem tkW_len (s : List UInt8) : (tkW s).length ≤ s.length := by
  have h1 := trimE_len (s.take (tkLen s))
  rw [List.length_take] at h1
  rw [tkW]; omega
theorem lx_short (s : List UInt8) (i : Nat) : lx (s.drop (tkW s).length) (i + (tkW s).length) = lx (s.drop (tkLen s)) (i + tkLen s) := by
  obtain ⟨z, hz, h32⟩ := trimE_rest (s.take (tkLen s))
  have hle := tkLen_le s
  have hlen := congrArg List.length hz
  rw [List.length_append, List.length_take, Nat.min_eq_left hle] at hlen
  have e : s.drop (tkW s).length = z ++ s.drop (tkLen s) := by
    have h1 : s = trimE (s.take (tkLen s)) ++ (z ++ s.drop (tkLen s)) := by
      rw [← List.append_assoc, ← hz, List.take_append_drop]
    have h2 : s.drop (tkW s).length = (trimE (s.take (tkLen s)) ++ (z ++ s.drop (tkLen s))).drop (tkW s).length := congrArg (List.drop _) h1
    rw [h2, tkW, List.drop_left]
  rw [e, lx_blanks z _ _ h32]
  congr 1
  rw [tkW]; omega
theorem tkW_pos {c : UInt8} {r : List UInt8} (hs : spB c = false) (ho : tkOk (c :: r) = true) : 1 ≤ (tkW (c :: r)).length := tok_pos (tkW_is hs ho)

/-- What a text begins with, kind by kind. -/
theorem f_low {c : UInt8} {r : List UInt8} (hl : lowB c = true) : tkW (c :: r) = (c :: r).takeWhile lowB ∧ tkOk (c :: r) = decide (((c :: r).takeWhile lowB).length ≤ 8) := by
  refine ⟨?_, ?_⟩
  · simp only [tkW, tkLen, hl, if_true, List.take_succ_cons, tw_is, List.takeWhile_cons]
    exact trimE_tw (fun _ => low_ne) c hl r
  · simp only [tkOk, hl, if_true, List.takeWhile_cons, List.length_cons]
theorem f_fig {c : UInt8} {r : List UInt8} (hl : lowB c = false) (hf : figB c = true) : tkW (c :: r) = (c :: r).takeWhile figB ∧ tkOk (c :: r) = (decide (((c :: r).takeWhile figB).length ≤ 6) && (c != 48 || (c :: r).takeWhile figB == [48])) := by
  refine ⟨?_, ?_⟩
  · simp only [tkW, tkLen, hl, hf, if_true, Bool.false_eq_true, if_false, List.take_succ_cons, tw_is, List.takeWhile_cons]
    exact trimE_tw (fun _ => fig_ne) c hf r
  · simp only [tkOk, hl, hf, if_true, Bool.false_eq_true, if_false, List.takeWhile_cons, List.length_cons]
    congr 1
    by_cases h : c = 48
    · subst h
      cases hr : r.takeWhile figB with
      | nil => rfl
      | cons a b =>
        simp
    · have : (c != 48) = true := by simp [h]
      rw [this]; rfl
theorem all_tw {p : UInt8 → Bool} : ∀ l : List UInt8, (l.takeWhile p == l) = l.all p
  | [] => rfl
  | a :: l => by
    rw [List.takeWhile_cons, List.all_cons]
    cases h : p a with
    | true =>
      rw [if_pos rfl, ← all_tw l]
      simp
    | false => simp
theorem f_note {c : UInt8} {r : List UInt8} (hl : lowB c = false) (hf : figB c = false) (hn : c = 35) : tkW (c :: r) = trimE ((c :: r).takeWhile nlB) ∧ tkOk (c :: r) = ((trimE ((c :: r).takeWhile nlB)).takeWhile prB == trimE ((c :: r).takeWhile nlB)) := by
  subst hn
  have e0 : (35 :: r : List UInt8).takeWhile nlB = 35 :: r.takeWhile nlB := by rw [List.takeWhile_cons]; rfl
  refine ⟨?_, ?_⟩
  · simp only [tkW, tkLen, hl, hf, if_true, Bool.false_eq_true, if_false, List.take_succ_cons, tw_is, beq_self_eq_true, e0]
  · rw [all_tw, e0]
    simp only [tkOk, hl, hf, if_true, Bool.false_eq_true, if_false, beq_self_eq_true]
    obtain ⟨z, hz, h32⟩ := trimE_rest (35 :: r.takeWhile nlB)
    have h1 : (35 :: r.takeWhile nlB).all prB = ((trimE (35 :: r.takeWhile nlB)).all prB && z.all prB) := by
      rw [← List.all_append, ← hz]
    have h2 : z.all prB = true := by
      rw [List.all_eq_true]
      intro x hx
      rw [h32 x hx]; decide
    rw [h2, Bool.and_true, List.all_cons] at h1
    rw [← h1]
    rfl
theorem f_mark {c : UInt8} {r : List UInt8} (hs : spB c = false) (hl : lowB c = false) (hf : figB c = false) (hn : (c == 35) = false) : tkW (c :: r) = [c] ∧ tkOk (c :: r) = mrkB c := by
  refine ⟨?_, ?_⟩
  · simp only [tkW, tkLen, hl, hf, hn, Bool.false_eq_true, if_false, List.take_succ_cons, List.take_zero]
    exact trimE_other [] (sp_ne hs)
  · simp only [tkOk, hl, hf, hn, Bool.false_eq_true, if_false]

/-- The line that a text begins with, by the place of the first new line. -/
theorem nl_miss : ∀ l : List UInt8, Lib.indexByte l 10 = -1 → l.takeWhile nlB = l
  | [], _ => rfl
  | b :: l, h => by
    unfold Lib.indexByte at h
    have hge := Lib.indexByte_ge l 10
    split at h
    · cases h
    · rename_i hb
      have hb' : nlB b = true := by simpa [nlB] using hb
      split at h
      · rename_i h1
        rw [List.takeWhile_cons, if_pos hb', nl_miss l (by simpa using h1)]
      · omega
theorem nl_hit : ∀ (l : List UInt8) (i : Nat), Lib.indexByte l 10 = i → l.takeWhile nlB = l.take i ∧ i + 1 ≤ l.length
  | [], i, h => by simp [Lib.indexByte] at h
  | b :: l, i, h => by
    unfold Lib.indexByte at h
    have hge := Lib.indexByte_ge l 10
    split at h
    · rename_i hb
      have : i = 0 := by omega
      subst this
      have hb' : nlB b = false := by simpa [nlB] using hb
      rw [List.takeWhile_cons, if_neg (by simp [hb'])]
      simp
    · rename_i hb
      have hb' : nlB b = true := by simpa [nlB] using hb
      split at h
      · omega
      · rename_i h1
        have h1' : Lib.indexByte l 10 ≠ -1 := by simpa using h1
        obtain ⟨j, rfl⟩ : ∃ j, i = j + 1 := ⟨i - 1, by omega⟩
        obtain ⟨e1, e2⟩ := nl_hit l j (by omega)
        rw [List.takeWhile_cons, if_pos hb', e1, List.take_succ_cons]
        exact ⟨rfl, by simp; omega⟩
/-- A byte among bytes. -/
theorem ib_any : ∀ (l : List UInt8) (c : UInt8), decide (0 ≤ Lib.indexByte l c) = l.any (· == c)
  | [], c => rfl
  | b :: l, c => by
    unfold Lib.indexByte
    have hge := Lib.indexByte_ge l c
    have ih := ib_any l c
    rw [List.any_cons, ← ih]
    cases hb : (b == c) with
    | true => simp
    | false =>
      simp only [Bool.false_eq_true, if_false, Bool.false_or]
      by_cases h : Lib.indexByte l c = -1
      · simp [h]
      · have h2 : (Lib.indexByte l c == -1) = false := by simpa using h
        rw [h2]
        simp only [Bool.false_eq_true, if_false]
        rw [decide_eq_true (by omega), decide_eq_true (by omega)]
end Go.Proofs.YtmbeamcjpidnjaaGreatDoor
namespace Go.Proofs.YtmbeamcjpidnjaaGreatDoor
open Go Go.RowKit Go.Lib Go.Shelf

set_option maxRecDepth 100000 in
set_option maxHeartbeats 1000000 in
theorem index_one_any (s : ByteArray) (w : World) :
    Calls Tryz.prog 149 #[.string s, .string ⟨#[10]⟩] w fun e w' => e = .returned (.int .i64 (Lib.indexByte s.data.toList 10)) ∧ w' = w := by
  go_enter Tryz.func149, Tryz.ntmps149
  go_wp2_with (go_at_call 108; refine (indexByte_any _ _ _).mono ?_; rintro e w' ⟨rfl, rfl⟩)
  · have h : ([10] == s.toList) = true := by assumption
    go_ret
    refine ⟨?_, rfl⟩
    have e : s.data.toList = [10] := by rw [← Lib.toList_data]; exact (beq_iff_eq.1 h).symm
    rw [e]
    simp [Lib.indexByte]
  · go_ret
    exact ⟨rfl, rfl⟩

/-- What Cut hands back, by the place of the first new line. -/
theorem cut12_miss (s : ByteArray) (w : World) (h : Lib.indexByte s.data.toList 10 = -1) :
    Calls Tryz.prog 110 #[.string s, .string ⟨#[10]⟩] w fun e w' => e = .returned (.tuple #[.string s, .string ⟨#[]⟩, .bool false]) ∧ ∃ n, w' = w.drewN n := by
  go_enter Tryz.func110, Tryz.ntmps110
  go_wp2_with (go_at_call 149; refine (index_one_any _ _).mono ?_; rintro e w' ⟨rfl, rfl⟩; rw [h])
  go_ret3
  exact ⟨rfl, 0, rfl⟩

theorem cut12_hit (s : ByteArray) (w : World) (i : Nat) (h : Lib.indexByte s.data.toList 10 = i) (hi : i + 1 ≤ s.size) (hb : s.size ≤ 60000) :
    Calls Tryz.prog 110 #[.string s, .string ⟨#[10]⟩] w fun e w' => e = .returned (.tuple #[.string (s.extract 0 i), .string (s.extract (i + 1) s.size), .bool true]) ∧ ∃ n, w' = w.drewN n := by
  have c1 : (0 : Int) ≤ ↑i := by omega
  have c2 : (↑i : Int) ≤ ↑s.size := by omega
  have c3 : (0 : Int) ≤ ↑i + 1 := by omega
  have c4 : (↑i + 1 : Int) ≤ ↑s.size := by omega
  have c5 : (↑i : Int) ≤ 60000 := by omega
  go_enter Tryz.func110, Tryz.ntmps110
  go_wp2_with (go_at_call 149; refine (index_one_any _ _).mono ?_; rintro e w' ⟨rfl, rfl⟩; rw [h])
  go_region
  go_wp2
  go_ret3
  exact ⟨rfl, 1, rfl⟩
end Go.Proofs.YtmbeamcjpidnjaaGreatDoor
namespace Go.Proofs.YtmbeamcjpidnjaaGreatDoor
open Go Go.RowKit

theorem ext_to (t : ByteArray) (k : Nat) : t.extract 0 k = wbS ((btL t).take k) := by
  rw [wbS_ext, List.drop_zero, Nat.sub_zero]
theorem ext_from (t : ByteArray) (k : Nat) : btL (t.extract k t.size) = (btL t).drop k := Lib.extract_to_end t k
/-- From one byte to another. -/
def rngB (lo hi : Nat) (c : UInt8) : Bool := decide (lo ≤ c.toNat) && decide (c.toNat ≤ hi)
theorem rng_low : rngB 97 122 = lowB := rfl
theorem rng_fig : rngB 48 57 = figB := rfl
theorem rng_pr : rngB 32 126 = prB := rfl

theorem cellA_new (w : World) (v : Value) (t : TypeId) : (w.alloc (.cells #[v] t)).cell? ⟨w.heap.size, 0, none⟩ = some v := by
  have h : (w.alloc (.cells #[v] t)).heap[w.heap.size]? = some (.cells #[v] t) := by
    show (w.heap.push (.cells #[v] t))[w.heap.size]? = _
    simp
  simp only [World.cell?, Option.isSome_none, Bool.false_eq_true, if_false, h]
  rfl
theorem cellA_old {w : World} {o : Obj} {b k : Nat} (h : b < w.heap.size) : (w.alloc o).cell? ⟨b, k, none⟩ = w.cell? ⟨b, k, none⟩ := by
  simp [World.cell?, Below.heap_alloc w o b h]
/-- Where the bounds of a closure of from lie. -/
structure FromAt (w : World) (a b lo hi : Nat) : Prop where
  la : a < w.heap.size
  lb : b < w.heap.size
  ca : w.cell? ⟨a, 0, none⟩ = some (.int .u8 (lo : Int))
  cb : w.cell? ⟨b, 0, none⟩ = some (.int .u8 (hi : Int))
theorem FromAt.below {w w' : World} {a b lo hi : Nat} (h : FromAt w a b lo hi) (hb : Below w.heap.size w w') : FromAt w' a b lo hi :=
  { la := Nat.lt_of_lt_of_le h.la hb.size, lb := Nat.lt_of_lt_of_le h.lb hb.size, ca := (hb.cell (p := ⟨a, 0, none⟩) h.la).trans h.ca, cb := (hb.cell (p := ⟨b, 0, none⟩) h.lb).trans h.cb }
abbrev fromV (a b : Nat) : Value := .func (.func 109) #[] #[.pointer (some ⟨a, 0, none⟩), .pointer (some ⟨b, 0, none⟩)]

set_option maxRecDepth 100000 in
theorem from_any (lo hi : Nat) (w : World) : Calls Tryz.prog 75 #[.int .u8 (lo : Int), .int .u8 (hi : Int)] w fun e w' => (∃ a b, e = .returned (fromV a b) ∧ FromAt w' a b lo hi) ∧ Below w.heap.size w w' := by
  go_enter Tryz.func75, Tryz.ntmps75
  go_wp2
  go_ret
  refine ⟨⟨w.heap.size, w.heap.size + 1, rfl, ?_⟩, ?_⟩
  · refine { la := ?_, lb := ?_, ca := ?_, cb := ?_ }
    · rw [World.size_alloc, World.size_alloc]; omega
    · rw [World.size_alloc, World.size_alloc]; omega
    · rw [cellA_old (by rw [World.size_alloc]; omega)]
      exact cellA_new w _ _
    · have h := cellA_new (w.alloc (.cells #[.int .u8 (lo : Int)] 5)) (.int .u8 (hi : Int)) 5
      rw [World.size_alloc] at h
      exact h
  · exact ((Below.refl w.heap.size w).alloc (Nat.le_refl _) _).alloc (by rw [World.size_alloc]; omega) _

set_option maxRecDepth 100000 in
theorem from1_any (c : UInt8) {a b lo hi : Nat} {w : World} (h : FromAt w a b lo hi) : Calls Tryz.prog 109 #[.int .u8 (c.toNat : Int), .pointer (some ⟨a, 0, none⟩), .pointer (some ⟨b, 0, none⟩)] w fun e w' => e = .returned (.bool (rngB lo hi c)) ∧ w = w' := by
  obtain ⟨_, _, ca, cb⟩ := h
  by_cases h1 : (lo : Int) ≤ (c.toNat : Int)
  · by_cases h2 : (c.toNat : Int) ≤ (hi : Int)
    · have HE : Hid (rngB lo hi c = true) := by show rngB lo hi c = true; simp [rngB]; omega
      go_enter Tryz.func109, Tryz.ntmps109
      go_wp2
      go_ret
      exact ⟨by rw [HE.out]; rfl, rfl⟩
    · have HE : Hid (rngB lo hi c = false) := by show rngB lo hi c = false; simp [rngB]; omega
      go_enter Tryz.func109, Tryz.ntmps109
      go_wp2
      go_ret
      exact ⟨by rw [HE.out]; rfl, rfl⟩
  · have HE : Hid (rngB lo hi c = false) := by show rngB lo hi c = false; simp [rngB]; omega
    go_enter Tryz.func109, Tryz.ntmps109
    go_wp2
    go_ret
    exact ⟨by rw [HE.out]; rfl, rfl⟩

set_option maxRecDepth 100000 in
set_option maxHeartbeats 1000000 in
theorem run_any (t : ByteArray) {a b lo hi : Nat} {w : World} (h : FromAt w a b lo hi) (hs : t.size ≤ 60000) :
    Calls Tryz.prog 76 #[.string t, fromV a b] w fun e w' => e = .returned (.string (wbS ((btL t).takeWhile (rngB lo hi)))) ∧ w = w' := by
  have HF : Hid (FromAt w a b lo hi) := h
  clear h
  go_enter Tryz.func76, Tryz.ntmps76
  go_wp2_with fail
  go_loopw [5] (fun n wr => wr = w ∧ ∃ k : Nat, n = .int .i64 (k : Int) ∧ k ≤ t.size ∧ k + twN (rngB lo hi) t k = twN (rngB lo hi) t 0) (fun n _ => t.size - (intOf n).toNat)
  case atStart => exact ⟨rfl, 0, rfl, Nat.zero_le _, by omega⟩
  case round =>
    obtain ⟨rfl, k, rfl, hk, htw⟩ := hrel
    have HT : Hid (k + twN (rngB lo hi) t k = twN (rngB lo hi) t 0) := htw
    clear htw
    have hsl : twN (rngB lo hi) t k = 0 → t.extract 0 k = wbS ((btL t).takeWhile (rngB lo hi)) := fun e1 => by
      have e2 := HT.out
      have e3 : ((btL t).takeWhile (rngB lo hi)).length = k := by
        rw [twN, twN, List.drop_zero] at e2
        rw [twN] at e1
        omega
      rw [ext_to, ← e3, tw_is]
    by_cases hlt : k < t.size
    · have hki : (k : Int) < (t.size : Int) := by omega
      cases hp : rngB lo hi t[k] with
      | true =>
        have HN : Hid (k + 1 + twN (rngB lo hi) t (k + 1) = twN (rngB lo hi) t 0) := by
          show _ = _
          have := twN_yes hlt hp
          have := HT.out
          omega
        go_wp2_with fail
        refine (from1_any t[k] HF.out).mono ?_
        rintro e w2 ⟨rfl, rfl⟩
        rw [hp]
        go_wp2
        go_roundw
        case rel => exact ⟨by trivial, k + 1, by go_num, by omega, HN.out⟩
        case measure => simp [intOf]; omega
      | false =>
        have HS := (show Hid (_) from hsl (twN_no hlt hp))
        go_wp2_with fail
        refine (from1_any t[k] HF.out).mono ?_
        rintro e w2 ⟨rfl, rfl⟩
        rw [hp]
        go_wp2
        go_ret
        exact ⟨by rw [HS.out]; rfl, rfl⟩
    · have hki : ¬ (k : Int) < (t.size : Int) := by omega
      have HS := (show Hid (_) from hsl (twN_end hlt))
      go_wp2
      go_ret
      exact ⟨by rw [HS.out]; rfl, rfl⟩

def strSz : Value → Nat
  | .string u => u.size
  | _ => 0
theorem belDrew (w : World) (n : Nat) : Below w.heap.size w (w.drewN n) := (Below.refl w.heap.size w).trans ⟨rfl, rfl, rfl, Nat.le_refl _, fun _ _ => rfl⟩
/-- Blanks at the end of a text. -/
theorem last_split (u : ByteArray) (h : 0 < u.size) : btL u = btL (u.extract 0 (u.size - 1)) ++ [u[u.size - 1]] := by
  have hl : u.size - 1 < (btL u).length := by rw [btL_len]; omega
  have e1 : btL (u.extract 0 (u.size - 1)) = (btL u).take (u.size - 1) := by rw [ext_to]; rfl
  have e2 := List.take_succ_eq_append_getElem hl
  have e3 : u.size - 1 + 1 = (btL u).length := by rw [btL_len]; omega
  rw [e3, List.take_length] at e2
  rw [e1]
  exact e2
set_option maxRecDepth 100000 in
set_option maxHeartbeats 1000000 in
theorem trimB_any (t : ByteArray) (w : World) (hs : t.size ≤ 60000) :
    Calls Tryz.prog 111 #[.string t, .int .u8 32] w fun e w' => e = .returned (.string (wbS (trimE (btL t)))) ∧ w = w' := by
  go_enter Tryz.func111, Tryz.ntmps111
  go_wp2_with fail
  go_loopw [0] (fun x wr => wr = w ∧ ∃ u : ByteArray, x = .string u ∧ u.size ≤ 60000 ∧ trimE (btL u) = trimE (btL t)) (fun x _ => strSz x)
  case atStart => exact ⟨rfl, t, rfl, hs, rfl⟩
  case round =>
    obtain ⟨rfl, u, rfl, hu, htr⟩ := hrel
    have HT : Hid (trimE (btL u) = trimE (btL t)) := htr
    clear htr
    by_cases h0 : 0 < u.size
    · have h0i : (0 : Int) < (u.size : Int) := by omega
      have HL : Hid (btL u = btL (u.extract 0 (u.size - 1)) ++ [u[u.size - 1]]) := last_split u h0
      cases hb : (u[u.size - 1] == 32) with
      | true =>
        have hbi : ((u[u.size - 1].toNat : Int) == 32) = true := by rw [show (32 : Int) = ((32 : Nat) : Int) from rfl, u8_eq _ 32 (by decide)]; exact hb
        have HE : Hid (trimE (btL (u.extract 0 (u.size - 1))) = trimE (btL t)) := by
          show _ = _
          rw [← HT.out, HL.out, beq_iff_eq.1 hb, trimE_blank]
        have hsz : (u.extract 0 (u.size - 1)).size = u.size - 1 := by rw [ByteArray.size_extract]; omega
        have HSZ := (show Hid (_ = _) from hsz)
        clear hb hsz
        go_wp2
        exact ⟨⟨by trivial, _, rfl, by rw [HSZ.out]; omega, HE.out⟩, by show (u.extract 0 (u.size - 1)).size < u.size; rw [HSZ.out]; omega⟩
      | false =>
        have hbi : ((u[u.size - 1].toNat : Int) == 32) = false := by rw [show (32 : Int) = ((32 : Nat) : Int) from rfl, u8_eq _ 32 (by decide)]; exact hb
        have HE : Hid (u = wbS (trimE (btL t))) := by
          show _ = _
          rw [← HT.out, HL.out, trimE_other _ (by simpa using hb), ← last_split u h0]
          rfl
        clear hb
        go_wp2
        go_ret
        exact ⟨by rw [← HE.out]; rfl, rfl⟩
    · have h0i : ¬ (0 : Int) < (u.size : Int) := by omega
      have HE : Hid (u = wbS (trimE (btL t))) := by
        show _ = _
        have e1 : btL u = [] := List.eq_nil_of_length_eq_zero (by rw [btL_len]; omega)
        rw [← HT.out, e1, trimE_nil]
        show u = ⟨#[]⟩
        apply ByteArray.ext
        exact Array.toList_inj.1 e1
      go_wp2
      go_ret
      exact ⟨by rw [← HE.out]; rfl, rfl⟩

set_option maxRecDepth 100000 in
set_option maxHeartbeats 1000000 in
theorem trimR_any (t : ByteArray) (w : World) (h0 : 0 < t.size) (hs : t.size ≤ 60000) :
    Calls Tryz.prog 78 #[.string t, .string ⟨#[32]⟩] w fun e w' => e = .returned (.string (wbS (trimE (btL t)))) ∧ w = w' := by
  have h1 : (t.toList == []) = false := by
    rw [Lib.toList_data]
    have := (show t.data.toList.length = t.size from btL_len t)
    cases h : t.data.toList with
    | nil => rw [h] at this; simp at this; omega
    | cons a b => rfl
  go_enter Tryz.func78, Tryz.ntmps78
  go_wp2_with fail
  refine (trimB_any t _ hs).mono ?_
  rintro e w2 ⟨rfl, rfl⟩
  go_wp2
  go_ret
  exact ⟨rfl, rfl⟩

/-- The line that a text begins with. -/
def lineL (t : ByteArray) : ByteArray := wbS ((btL t).takeWhile nlB)
set_option maxRecDepth 100000 in
set_option maxHeartbeats 1000000 in
theorem scut_any (t : ByteArray) (w : World) (hs : t.size ≤ 60000) :
    Calls Tryz.prog 77 #[.string t, .string ⟨#[10]⟩] w fun e w' => (∃ r b, e = .returned (.tuple #[.string (lineL t), .string r, .bool b])) ∧ Below w.heap.size w w' := by
  have hge := Lib.indexByte_ge t.data.toList 10
  by_cases hm : Lib.indexByte t.data.toList 10 = -1
  · have HE : Hid (t = lineL t) := by
      show t = wbS ((btL t).takeWhile nlB)
      rw [nl_miss _ hm]; rfl
    go_enter Tryz.func77, Tryz.ntmps77
    go_wp2_with (go_at_call 110; refine (cut12_miss _ _ hm).mono ?_; rintro e w' ⟨rfl, n, rfl⟩)
    go_ret3
    exact ⟨⟨_, _, by rw [← HE.out]; rfl⟩, belDrew _ _⟩
  · obtain ⟨i, hi⟩ : ∃ i : Nat, Lib.indexByte t.data.toList 10 = i := ⟨(Lib.indexByte t.data.toList 10).toNat, by omega⟩
    obtain ⟨e1, e2⟩ := nl_hit _ i hi
    have hi1 : i + 1 ≤ t.size := by rw [← btL_len]; exact e2
    have HE : Hid (t.extract 0 i = lineL t) := by
      show t.extract 0 i = wbS ((btL t).takeWhile nlB)
      rw [ext_to, e1]
    clear e1 e2 hge hm
    go_enter Tryz.func77, Tryz.ntmps77
    go_wp2_with (go_at_call 110; refine (cut12_hit _ _ _ hi hi1 hs).mono ?_; rintro e w' ⟨rfl, n, rfl⟩)
    go_ret3
    exact ⟨⟨_, _, by rw [← HE.out]; rfl⟩, belDrew _ _⟩

/-- A closure of oneOf, where its bytes lie. -/
abbrev oneV (a : Nat) : Value := .func (.func 73) #[] #[.pointer (some ⟨a, 0, none⟩)]
def OneAt (w : World) (a : Nat) (bs : ByteArray) : Prop := a < w.heap.size ∧ w.cell? ⟨a, 0, none⟩ = some (.string bs)
theorem OneAt.below {B : Nat} {w w' : World} {a : Nat} {bs : ByteArray} (h : OneAt w a bs) (hB : a < B) (hb : Below B w w') : OneAt w' a bs :=
  ⟨Nat.lt_of_lt_of_le h.1 hb.size, (hb.cell (p := ⟨a, 0, none⟩) hB).trans h.2⟩
set_option maxRecDepth 100000 in
theorem oneOf_any (bs : ByteArray) (w : World) : Calls Tryz.prog 38 #[.string bs] w fun e w' => e = .returned (oneV w.heap.size) ∧ w' = w.alloc (.cells #[.string bs] 9) := by
  go_enter Tryz.func38, Tryz.ntmps38
  go_wp2
  go_ret
  exact ⟨rfl, rfl⟩
theorem OneAt.new (bs : ByteArray) (w : World) : OneAt (w.alloc (.cells #[.string bs] 9)) w.heap.size bs := ⟨by rw [World.size_alloc]; omega, cellA_new w _ _⟩
set_option maxRecDepth 100000 in
theorem sIB_any (s : ByteArray) (c : Int) (w : World) :
    Calls Tryz.prog 74 #[.string s, .int .u8 c] w fun e w' => e = .returned (.int .i64 (Lib.indexByte s.data.toList c.toNat.toUInt8)) ∧ w' = w := by
  go_enter Tryz.func74, Tryz.ntmps74
  go_wp2_with fail
  refine (indexByte_any _ _ _).mono ?_
  rintro e w2 ⟨rfl, rfl⟩
  go_wp2
  go_ret
  exact ⟨rfl, rfl⟩
set_option maxRecDepth 100000 in
theorem oneOf1_any (c : UInt8) {a : Nat} {bs : ByteArray} {w : World} (h : OneAt w a bs) : Calls Tryz.prog 73 #[.int .u8 (c.toNat : Int), .pointer (some ⟨a, 0, none⟩)] w fun e w' => e = .returned (.bool ((btL bs).any (· == c))) ∧ w = w' := by
  have hc := h.2
  have HI := (show Hid (_ = _) from ib_any (btL bs) c)
  have hu : (c.toNat : Int).toNat.toUInt8 = c := by simp
  go_enter Tryz.func73, Tryz.ntmps73
  go_wp2_with fail
  refine (sIB_any bs _ _).mono ?_
  rintro e w2 ⟨rfl, rfl⟩
  rw [hu]
  generalize hz : Lib.indexByte bs.data.toList c = z
  have HZ : Hid (decide (0 ≤ z) = (btL bs).any (· == c)) := by rw [← hz]; exact HI
  clear hz HI
  go_wp2
  go_ret
  exact ⟨by rw [← HZ.out]; rfl, rfl⟩
end Go.Proofs.YtmbeamcjpidnjaaGreatDoor
namespace Go.Proofs.YtmbeamcjpidnjaaGreatDoor
open Go Go.RowKit

theorem wbS_btL (s : ByteArray) : wbS (btL s) = s := rfl
theorem wbS_size (l : List UInt8) : (wbS l).size = l.length := by
  rw [← btL_len]; rfl
theorem btL_wbS (l : List UInt8) : btL (wbS l) = l := rfl
theorem btL_cons {t : ByteArray} (h : 0 < t.size) : btL t = t[0] :: (btL t).drop 1 := by
  have hd := btL_drop h
  rw [List.drop_zero, Nat.zero_add] at hd
  exact hd
theorem dec_int (n m : Nat) : decide (n ≤ m) = decide ((n : Int) ≤ (m : Int)) := by
  by_cases h : n ≤ m
  · rw [decide_eq_true h, decide_eq_true (by omega)]
  · rw [decide_eq_false h, decide_eq_false (by omega)]

theorem one_drew {w : World} {a : Nat} {bs : ByteArray} (h : OneAt w a bs) : OneAt w.drew a bs := h
/-- What 'first' hands back. -/
abbrev FirstOk (t : ByteArray) (w : World) (e : Ending) (w' : World) : Prop := e = .returned (.tuple #[.string (wbS (tkW (btL t))), .bool (tkOk (btL t))]) ∧ Below w.heap.size w w'
set_option maxRecDepth 100000 in
set_option maxHeartbeats 2000000 in
theorem first_low (t : ByteArray) (w : World) (h0 : 0 < t.size) (hs : t.size ≤ 60000) (hl : lowB t[0] = true) : Calls Tryz.prog 39 #[.string t] w fun e w' => FirstOk t w e w' := by
  obtain ⟨e1, e2⟩ := f_low (c := t[0]) (r := (btL t).drop 1) hl
  rw [← btL_cons h0] at e1 e2
  have HL : Hid (rngB 97 122 t[0] = true) := hl
  have HN : Hid (wbS ((btL t).takeWhile (rngB 97 122)) = wbS (tkW (btL t))) := by
    show _ = _
    rw [e1]; rfl
  have HS : Hid (tkOk (btL t) = decide (((wbS (tkW (btL t))).size : Int) ≤ 8)) := by
    show _ = _
    rw [e2, wbS_size, e1, dec_int]; rfl
  have hz : (wbS (tkW (btL t))).size ≤ 60000 := by
    rw [wbS_size]
    exact Nat.le_trans (tkW_len _) (by rw [btL_len]; exact hs)
  generalize hW : wbS (tkW (btL t)) = W at HN HS hz
  generalize hO : tkOk (btL t) = O at HS
  have HW := (show Hid (_ = _) from hW)
  have HO := (show Hid (_ = _) from hO)
  clear e1 e2 hl hW hO
  go_enter Tryz.func39, Tryz.ntmps39
  go_wp2_with fail
  refine (from_any 97 122 _).mono ?_
  rintro e w1 ⟨⟨a1, b1, rfl, hF1⟩, hb1⟩
  go_wp2_with fail
  refine (from_any 48 57 _).mono ?_
  rintro e w2 ⟨⟨a2, b2, rfl, hF2⟩, hb2⟩
  have HF : Hid (FromAt w2 a1 b1 97 122) := hF1.below hb2
  have HG : Hid (FromAt w2 a2 b2 48 57) := hF2
  have HB : Hid (Below w.heap.size w w2) := belowT hb1 (Nat.le_refl _) hb2
  clear hF1 hF2 hb1 hb2
  go_wp2_with fail
  refine (from1_any t[0] HF.out).mono ?_
  rintro e w3 ⟨rfl, rfl⟩
  rw [HL.out]
  go_wp2_with fail
  refine (run_any t HF.out hs).mono ?_
  rintro e w3 ⟨rfl, rfl⟩
  rw [HN.out]
  go_wp2
  refine bodyPost_ret (v := .tuple #[.string W, .bool O]) (by rw [HS.out]; simp [results, Tryz.results39, go_sem]) rfl ?_
  exact ⟨by rw [HW.out, HO.out], HB.out⟩
set_option maxRecDepth 100000 in
set_option maxHeartbeats 2000000 in
theorem first_fig (t : ByteArray) (w : World) (h0 : 0 < t.size) (hs : t.size ≤ 60000) (hl : lowB t[0] = false) (hf : figB t[0] = true) : Calls Tryz.prog 39 #[.string t] w fun e w' => FirstOk t w e w' := by
  obtain ⟨e1, e2⟩ := f_fig (c := t[0]) (r := (btL t).drop 1) hl hf
  rw [← btL_cons h0] at e1 e2
  have HL : Hid (rngB 97 122 t[0] = false) := hl
  have HD : Hid (rngB 48 57 t[0] = true) := hf
  have HN : Hid (wbS ((btL t).takeWhile (rngB 48 57)) = wbS (tkW (btL t))) := by
    show _ = _
    rw [e1]; rfl
  have HS : Hid (tkOk (btL t) = (decide (((wbS (tkW (btL t))).size : Int) ≤ 6) && ((t[0].toNat : Int) != 48 || (wbS (tkW (btL t))).toList == [48]))) := by
    show _ = _
    have e48 : ((t[0].toNat : Int) != 48) = (t[0] != 48) := by
      show (!((t[0].toNat : Int) == 48)) = (!(t[0] == 48))
      rw [show (48 : Int) = ((48 : Nat) : Int) from rfl, u8_eq _ 48 (by decide)]; rfl
    have el : (wbS (tkW (btL t))).toList = tkW (btL t) := by rw [Lib.toList_data]; rfl
    rw [e48, el, e2, wbS_size, e1, dec_int]; rfl
  have hz : (wbS (tkW (btL t))).size ≤ 60000 := by
    rw [wbS_size]
    exact Nat.le_trans (tkW_len _) (by rw [btL_len]; exact hs)
  generalize hW : wbS (tkW (btL t)) = W at HN HS hz
  generalize hO : tkOk (btL t) = O at HS
  have HW := (show Hid (_ = _) from hW)
  have HO := (show Hid (_ = _) from hO)
  have hcs : (¬ (W.size : Int) ≤ 6 ∧ Hid (O = false)) ∨ ((W.size : Int) ≤ 6 ∧ ((t[0].toNat : Int) != 48) = true ∧ Hid (O = true)) ∨ ((W.size : Int) ≤ 6 ∧ ((t[0].toNat : Int) != 48) = false ∧ Hid (O = (W.toList == [48]))) := by
    have hS := HS.out
    by_cases g1 : (W.size : Int) ≤ 6
    · rw [decide_eq_true g1, Bool.true_and] at hS
      cases g2 : ((t[0].toNat : Int) != 48) with
      | true => rw [g2, Bool.true_or] at hS; exact .inr (.inl ⟨g1, rfl, hS⟩)
      | false => rw [g2, Bool.false_or] at hS; exact .inr (.inr ⟨g1, rfl, hS⟩)
    · rw [decide_eq_false g1, Bool.false_and] at hS
      exact .inl ⟨g1, hS⟩
  clear e1 e2 hl hf hW hO HS
  go_enter Tryz.func39, Tryz.ntmps39
  go_wp2_with fail
  refine (from_any 97 122 _).mono ?_
  rintro e w1 ⟨⟨a1, b1, rfl, hF1⟩, hb1⟩
  go_wp2_with fail
  refine (from_any 48 57 _).mono ?_
  rintro e w2 ⟨⟨a2, b2, rfl, hF2⟩, hb2⟩
  have HF : Hid (FromAt w2 a1 b1 97 122) := hF1.below hb2
  have HG : Hid (FromAt w2 a2 b2 48 57) := hF2
  have HB : Hid (Below w.heap.size w w2) := belowT hb1 (Nat.le_refl _) hb2
  clear hF1 hF2 hb1 hb2
  go_wp2_with fail
  refine (from1_any t[0] HF.out).mono ?_
  rintro e w3 ⟨rfl, rfl⟩
  rw [HL.out]
  go_wp2_with fail
  refine (from1_any t[0] HG.out).mono ?_
  rintro e w3 ⟨rfl, rfl⟩
  rw [HD.out]
  go_wp2_with fail
  refine (run_any t HG.out hs).mono ?_
  rintro e w3 ⟨rfl, rfl⟩
  rw [HN.out]
  rcases hcs with ⟨c1, HC⟩ | ⟨c1, c2, HC⟩ | ⟨c1, c2, HC⟩
  all_goals
    go_wp2
    refine bodyPost_ret (v := .tuple #[.string W, .bool O]) (by rw [HC.out]; simp [results, Tryz.results39, go_sem]) rfl ?_
    exact ⟨by rw [HW.out, HO.out], HB.out⟩
set_option maxRecDepth 100000 in
set_option maxHeartbeats 2000000 in
theorem first_note (t : ByteArray) (w : World) (h0 : 0 < t.size) (hs : t.size ≤ 60000) (hl : lowB t[0] = false) (hf : figB t[0] = false) (hn : t[0] = 35) : Calls Tryz.prog 39 #[.string t] w fun e w' => FirstOk t w e w' := by
  obtain ⟨e1, e2⟩ := f_note (c := t[0]) (r := (btL t).drop 1) hl hf hn
  rw [← btL_cons h0] at e1 e2
  have HL : Hid (rngB 97 122 t[0] = false) := hl
  have HD : Hid (rngB 48 57 t[0] = false) := hf
  have hni : ((t[0].toNat : Int) == 35) = true := by rw [hn]; rfl
  have HN : Hid (wbS (trimE (btL (lineL t))) = wbS (tkW (btL t))) := by
    show _ = _
    rw [e1]; rfl
  have hll : (lineL t).size ≤ 60000 ∧ 0 < (lineL t).size := by
    have h1 := tw_len nlB (btL t)
    rw [btL_len] at h1
    rw [lineL, wbS_size]
    refine ⟨by omega, ?_⟩
    rw [btL_cons h0, List.takeWhile_cons, if_pos (by rw [hn]; rfl)]
    simp
  have HS : Hid (tkOk (btL t) = ((wbS ((btL (wbS (tkW (btL t)))).takeWhile (rngB 32 126))).toList == (wbS (tkW (btL t))).toList)) := by
    show _ = _
    rw [Lib.toList_data, Lib.toList_data, e2, e1]; rfl
  have hz : (wbS (tkW (btL t))).size ≤ 60000 := by
    rw [wbS_size]
    exact Nat.le_trans (tkW_len _) (by rw [btL_len]; exact hs)
  generalize hW : wbS (tkW (btL t)) = W at HN HS hz
  generalize hO : tkOk (btL t) = O at HS
  have HW := (show Hid (_ = _) from hW)
  have HO := (show Hid (_ = _) from hO)
  generalize hM : wbS ((btL W).takeWhile (rngB 32 126)) = M at HS
  have HM := (show Hid (_ = _) from hM)
  obtain ⟨hl1, hl2⟩ := hll
  clear e1 e2 hl hf hn hW hO hM
  go_enter Tryz.func39, Tryz.ntmps39
  go_wp2_with fail
  refine (from_any 97 122 _).mono ?_
  rintro e w1 ⟨⟨a1, b1, rfl, hF1⟩, hb1⟩
  go_wp2_with fail
  refine (from_any 48 57 _).mono ?_
  rintro e w2 ⟨⟨a2, b2, rfl, hF2⟩, hb2⟩
  have HF : Hid (FromAt w2 a1 b1 97 122) := hF1.below hb2
  have HG : Hid (FromAt w2 a2 b2 48 57) := hF2
  have HB : Hid (Below w.heap.size w w2) := belowT hb1 (Nat.le_refl _) hb2
  clear hF1 hF2 hb1 hb2
  go_wp2_with fail
  refine (from1_any t[0] HF.out).mono ?_
  rintro e w3 ⟨rfl, rfl⟩
  rw [HL.out]
  go_wp2_with fail
  refine (from1_any t[0] HG.out).mono ?_
  rintro e w3 ⟨rfl, rfl⟩
  rw [HD.out]
  go_wp2_with fail
  refine (scut_any t _ hs).mono ?_
  rintro e w3 ⟨⟨r, b, rfl⟩, hb3⟩
  go_wp2_with fail
  refine (trimR_any (lineL t) _ hl2 hl1).mono ?_
  rintro e w4 ⟨rfl, rfl⟩
  rw [HN.out]
  go_wp2_with fail
  refine (from_any 32 126 _).mono ?_
  rintro e w4 ⟨⟨a4, b4, rfl, hF4⟩, hb4⟩
  have HK : Hid (FromAt w4 a4 b4 32 126) := hF4
  have HB4 : Hid (Below w.heap.size w w4) := belowT (belowT HB.out (Nat.le_refl _) hb3) (Nat.le_refl _) hb4
  clear hF4 hb3 hb4
  go_wp2_with fail
  refine (run_any W HK.out hz).mono ?_
  rintro e w5 ⟨rfl, rfl⟩
  rw [HM.out]
  go_wp2
  refine bodyPost_ret (v := .tuple #[.string W, .bool O]) (by rw [HS.out]; simp [results, Tryz.results39, go_sem]) rfl ?_
  exact ⟨by rw [HW.out, HO.out], HB4.out⟩
set_option maxRecDepth 100000 in
set_option maxHeartbeats 2000000 in
theorem first_mark (t : ByteArray) (w : World) (h0 : 0 < t.size) (hs : t.size ≤ 60000) (hsp : spB t[0] = false) (hl : lowB t[0] = false) (hf : figB t[0] = false) (hn : (t[0] == 35) = false) : Calls Tryz.prog 39 #[.string t] w fun e w' => FirstOk t w e w' := by
  obtain ⟨e1, e2⟩ := f_mark (c := t[0]) (r := (btL t).drop 1) hsp hl hf hn
  rw [← btL_cons h0] at e1 e2
  have HL : Hid (rngB 97 122 t[0] = false) := hl
  have HD : Hid (rngB 48 57 t[0] = false) := hf
  have h1i : (1 : Int) ≤ (t.size : Int) := by omega
  have h2i : (0 : Int) < (t.size : Int) := by omega
  have hni : ((t[0].toNat : Int) == 35) = false := by rw [show (35 : Int) = ((35 : Nat) : Int) from rfl, u8_eq _ 35 (by decide)]; exact hn
  have HN : Hid (t.extract 0 1 = wbS (tkW (btL t))) := by
    show _ = _
    have e3 : (btL t).take 1 = [t[0]] := by
      have h3 := congrArg (List.take 1) (btL_cons h0)
      rw [List.take_succ_cons, List.take_zero] at h3
      exact h3
    rw [e1, ext_to, e3]
  have HS : Hid (tkOk (btL t) = (btL (⟨#[40, 41, 91, 93, 44, 43, 42, 61, 59]⟩ : ByteArray)).any (· == t[0])) := by
    show _ = _
    rw [e2]; rfl
  have hz : (wbS (tkW (btL t))).size ≤ 60000 := by
    rw [wbS_size]
    exact Nat.le_trans (tkW_len _) (by rw [btL_len]; exact hs)
  generalize hW : wbS (tkW (btL t)) = W at HN HS hz
  generalize hO : tkOk (btL t) = O at HS
  have HW := (show Hid (_ = _) from hW)
  have HO := (show Hid (_ = _) from hO)
  clear e1 e2 hl hf hn hsp hW hO
  go_enter Tryz.func39, Tryz.ntmps39
  go_wp2_with fail
  refine (from_any 97 122 _).mono ?_
  rintro e w1 ⟨⟨a1, b1, rfl, hF1⟩, hb1⟩
  go_wp2_with fail
  refine (from_any 48 57 _).mono ?_
  rintro e w2 ⟨⟨a2, b2, rfl, hF2⟩, hb2⟩
  have HF : Hid (FromAt w2 a1 b1 97 122) := hF1.below hb2
  have HG : Hid (FromAt w2 a2 b2 48 57) := hF2
  have HB : Hid (Below w.heap.size w w2) := belowT hb1 (Nat.le_refl _) hb2
  clear hF1 hF2 hb1 hb2
  go_wp2_with fail
  refine (from1_any t[0] HF.out).mono ?_
  rintro e w3 ⟨rfl, rfl⟩
  rw [HL.out]
  go_wp2_with fail
  refine (from1_any t[0] HG.out).mono ?_
  rintro e w3 ⟨rfl, rfl⟩
  rw [HD.out]
  go_wp2_with fail
  go_region_held3 (fun _ => True) (trivial) (first | (go_at_call 38; refine (oneOf_any _ _).mono ?_; rintro e w3 ⟨rfl, rfl⟩) | (go_at_call 73; refine (oneOf1_any t[0] (OneAt.new _ _)).mono ?_; rintro e w4 ⟨rfl, rfl⟩; rw [← HS.out]) | (go_at_call 73; refine (oneOf1_any t[0] (one_drew (OneAt.new _ _))).mono ?_; rintro e w4 ⟨rfl, rfl⟩; rw [← HS.out]))
  all_goals
    go_wp2
    refine bodyPost_ret (v := .tuple #[.string (t.extract 0 1), .bool O]) (by simp [results, Tryz.results39, go_sem]) rfl ?_
    exact ⟨by rw [HN.out, HW.out, HO.out], (HB.out.alloc HB.out.size _).trans ⟨rfl, rfl, rfl, Nat.le_refl _, fun _ _ => rfl⟩⟩
theorem first_any (t : ByteArray) (w : World) (h0 : 0 < t.size) (hs : t.size ≤ 60000) (hsp : spB t[0] = false) : Calls Tryz.prog 39 #[.string t] w fun e w' => FirstOk t w e w' := by
  cases hl : lowB t[0] with
  | true => exact first_low t w h0 hs hl
  | false =>
    cases hf : figB t[0] with
    | true => exact first_fig t w h0 hs hl hf
    | false =>
      cases hn : (t[0] == 35) with
      | true => exact first_note t w h0 hs hl hf (beq_iff_eq.1 hn)
      | false => exact first_mark t w h0 hs hsp hl hf hn
end Go.Proofs.YtmbeamcjpidnjaaGreatDoor
namespace Go.Proofs.YtmbeamcjpidnjaaGreatDoor
open Go Go.RowKit

set_option maxRecDepth 100000 in
theorem lClone_any (s : ByteArray) (w : World) (h : s.size ≤ 281474976710656) :
    Calls Tryz.prog 40 #[.string s] w fun e w' => e = .returned (.string s) ∧ Below w.heap.size w w' := by
  go_enter Tryz.func40, Tryz.ntmps40
  go_wp2_with fail
  refine (clone_sh s _ h).mono ?_
  rintro e w2 ⟨rfl, hb⟩
  go_wp2
  go_ret
  exact ⟨rfl, hb⟩

theorem sp_any (c : UInt8) : (btL (⟨#[32, 10]⟩ : ByteArray)).any (· == c) = spB c := by
  show ((32 == c) || ((10 == c) || false)) = (c == 32 || c == 10)
  rw [Bool.or_false, BEq.comm (a := (32 : UInt8)), BEq.comm (a := (10 : UInt8))]
theorem LexAt.later {s : ByteArray} {w : World} {i : Nat} {dn : List (Nat × List UInt8)} {A P : Option Addr} {ac pc : Nat} {wr wr' : World} (h : LexAt s w i dn A P ac pc wr) (hb : Below wr.heap.size wr wr') : LexAt s w i dn A P ac pc wr' :=
  { b := h.b.trans (hb.mono h.b.size), le := h.le, ln := h.ln, eq := h.eq, ws := own_bel h.ws hb, ps := own_bel h.ps hb }
theorem ext_at {s : ByteArray} {k : Nat} (h : k < s.size) : 0 < (s.extract k s.size).size ∧ ∀ h0 : 0 < (s.extract k s.size).size, (s.extract k s.size)[0] = s[k] := by
  have h1 : 0 < (s.extract k s.size).size := by rw [ByteArray.size_extract]; omega
  refine ⟨h1, fun h0 => ?_⟩
  have e1 := btL_cons h0
  rw [ext_from, btL_drop h, List.cons.injEq] at e1
  exact e1.1.symm
theorem lfirst_at {s : ByteArray} {k : Nat} (h : k < s.size) (hs : s.size ≤ 60000) (hsp : spB s[k] = false) (W : World) :
    Calls Tryz.prog 39 #[.string (s.extract k s.size)] W fun e w' => e = .returned (.tuple #[.string (wbS (tkW ((btL s).drop k))), .bool (tOk s k)]) ∧ Below W.heap.size W w' := by
  obtain ⟨h1, h2⟩ := ext_at h
  have := first_any (s.extract k s.size) W h1 (by rw [ByteArray.size_extract]; omega) (by rw [h2 h1]; exact hsp)
  unfold FirstOk at this
  rw [ext_from] at this
  exact this
theorem wb_head {l : List UInt8} {c : UInt8} {z : List UInt8} (h : l = c :: z) (h0 : 0 < (wbS l).size) : (wbS l)[0] = c := by
  subst h; rfl
theorem word_head {s : ByteArray} {k : Nat} (h : k < s.size) (hsp : spB s[k] = false) : 0 < (wbS (tkW ((btL s).drop k))).size ∧ ∀ h0 : 0 < (wbS (tkW ((btL s).drop k))).size, (wbS (tkW ((btL s).drop k)))[0] = s[k] := by
  have h1 : ∃ z, tkW ((btL s).drop k) = s[k] :: z := by
    rw [tkW, btL_drop h]
    have hp := tkLen_pos s[k] ((btL s).drop (k + 1))
    obtain ⟨m, hm⟩ : ∃ m, tkLen (s[k] :: (btL s).drop (k + 1)) = m + 1 := ⟨_, (Nat.sub_add_cancel hp).symm⟩
    rw [hm, List.take_succ_cons]
    exact trimE_cons (sp_ne hsp) _
  obtain ⟨z, hz⟩ := h1
  exact ⟨by rw [wbS_size, hz]; simp, fun h0 => wb_head hz h0⟩
/-- The word that begins at a place; where the next may begin. -/
theorem LexAt.next {s : ByteArray} {w : World} {i : Nat} {dn : List (Nat × List UInt8)} {A P : Option Addr} {ac pc : Nat} {wr : World} (h : LexAt s w i dn A P ac pc wr) (hi : i < s.size) (hs : spB s[i] = false) (ho : tOk s i = true) {A' P' : Option Addr} {ac' pc' : Nat} {w' : World} (hb : Below w.heap.size w w')
    (h1 : w'.ownsRow w.heap.size 9 1 (.slice A' (dn.length + 1) ac') (dn.length + 1) (strCells (dn.map fun x => wbS x.2) ++ [.string (wbS (tkW ((btL s).drop i)))])) (h2 : w'.ownsRow w.heap.size 3 1 (.slice P' (dn.length + 1) pc') (dn.length + 1) (numCells (dn.map (·.1)) ++ [.int .i64 (i : Int)])) :
    LexAt s w (i + (tkW ((btL s).drop i)).length) (dn ++ [(i, tkW ((btL s).drop i))]) A' P' ac' pc' w' := by
  have hn := h.word hi hs ho hb h1 h2
  have hp : 1 ≤ (tkW ((btL s).drop i)).length := by
    rw [tOk, btL_drop hi] at ho
    rw [btL_drop hi]
    exact tkW_pos hs ho
  have hle : (tkW ((btL s).drop i)).length + i ≤ s.size := by
    have := tkW_len ((btL s).drop i)
    rw [List.length_drop, btL_len] at this
    omega
  have e := hn.eq
  have es := lx_short ((btL s).drop i) i
  rw [List.drop_drop, List.drop_drop] at es
  refine { b := hn.b, le := by omega, ln := by have := h.ln; simp; omega, eq := ?_, ws := hn.ws, ps := hn.ps }
  rw [e, lxW, lxF, lxW, lxF, es]
  rfl

theorem own_down {w : World} {B B' e size n : Nat} {v : Value} {xs : List Value} (h : w.ownsRow B e size v n xs) (hB : B' ≤ B) : w.ownsRow B' e size v n xs := by
  refine ⟨h.1, ?_⟩
  rcases h.2 with h0 | ⟨g, c, cur, hv, hg, rest⟩
  · exact .inl h0
  · exact .inr ⟨g, c, cur, hv, by omega, rest⟩
/-- What Words hands back: rows of its own. -/
def WordsOwn (s : ByteArray) (w : World) (e : Ending) (w' : World) : Prop :=
  (lexE (btL s) ≠ 0 ∧ e = .returned (.tuple #[.slice none 0 0, .slice none 0 0, .int .i64 ((lexK (btL s) : Nat) : Int), errN (lexE (btL s))])) ∨
  (lexE (btL s) = 0 ∧ ∃ A P ac pc, e = .returned (.tuple #[.slice A (wdsL (btL s)).length ac, .slice P (wdsL (btL s)).length pc, .int .i64 0, .nilIface]) ∧ StrsO w.heap.size (.slice A (wdsL (btL s)).length ac) ((wdsL (btL s)).map wbS) w' ∧ NumsO w.heap.size (.slice P (wdsL (btL s)).length pc) (plcL (btL s)) w')
theorem WordsOwn.res {s : ByteArray} {w : World} {e : Ending} {w' : World} (h : WordsOwn s w e w') : WordsRes s e w' := by
  rcases h with h | ⟨h0, A, P, ac, pc, he, h1, h2⟩
  · exact .inl h
  · exact .inr ⟨h0, A, P, ac, pc, he, twoR_of h1 h2⟩
set_option maxRecDepth 100000 in
set_option maxHeartbeats 4000000 in
theorem words_short (s : ByteArray) (w : World) (hl : (btL s).length ≤ 60000) : Calls Tryz.prog 14 #[.string s] w fun e w' => WordsOwn s w e w' ∧ Below w.heap.size w w' := by
  have hsz : s.size ≤ 60000 := by rw [← btL_len]; exact hl
  clear hl
  have hszi : ¬ 60000 < (s.size : Int) := by omega
  go_enter Tryz.func14, Tryz.ntmps14
  go_wp2_with fail
  refine (oneOf_any _ _).mono ?_
  rintro e w1 ⟨rfl, hw1⟩
  have HO : Hid (OneAt w1 w.heap.size ⟨#[32, 10]⟩) := by rw [hw1]; exact OneAt.new _ _
  have HB1 : Hid (Below w.heap.size w w1) := by rw [hw1]; exact (Below.refl _ _).alloc (Nat.le_refl _) _
  have hs1 := HO.out.1
  generalize hbk : w.heap.size = bk at HO HB1 hs1 ⊢
  have HBK : Hid (w.heap.size = bk) := hbk
  clear hw1 hbk
  go_wp2_with fail
  go_loopw [2, 3, 7, 8] (fun x p m i wr => ∃ (k : Nat) (dn : List (Nat × List UInt8)) (A P : Option Addr) (ac pc : Nat), x = .slice A dn.length ac ∧ p = .slice P dn.length pc ∧ m = .int .i64 ((many (dn.map (·.2)) : Nat) : Int) ∧ i = .int .i64 (k : Int) ∧ LexAt s w1 k dn A P ac pc wr) (fun _ _ _ i _ => s.size - (intOf i).toNat)
  case atStart => exact ⟨0, [], none, none, 0, 0, rfl, rfl, rfl, rfl, { b := Below.refl _ _, le := Nat.zero_le _, ln := Nat.le_refl _, eq := rfl, ws := World.ownsRow_nil _ _ _ _, ps := World.ownsRow_nil _ _ _ _ }⟩
  case round =>
    obtain ⟨k, dn, A, P, ac, pc, rfl, rfl, rfl, rfl, hR⟩ := hrel
    have HR : Hid (LexAt s w1 k dn A P ac pc wr) := hR
    have HOr : Hid (OneAt wr bk ⟨#[32, 10]⟩) := HO.out.below hs1 hR.b
    have HBr : Hid (Below bk w wr) := HB1.out.trans (hR.b.mono (Nat.le_of_lt hs1))
    have hle := hR.le
    have hln := hR.ln
    have hmn : many (dn.map (·.2)) ≤ 60000 := by
      have h1 : many (dn.map (·.2)) ≤ (dn.map (·.2)).length := List.length_filter_le _ _
      rw [List.length_map] at h1
      omega
    clear hR
    generalize hmm : many (dn.map (·.2)) = mm at hmn
    have HMM : Hid (many (dn.map (·.2)) = mm) := hmm
    clear hmm
    by_cases hlt : k < s.size
    · have hki : (k : Int) < (s.size : Int) := by omega
      cases hs : spB s[k] with
      | true =>
        have HN : Hid (LexAt s w1 (k + 1) dn A P ac pc wr) := HR.out.space hlt hs
        have HP := (show Hid (_ = _) from sp_any s[k])
        go_wp2_with fail
        refine (oneOf1_any s[k] HOr.out).mono ?_
        rintro e w2 ⟨rfl, rfl⟩
        rw [HP.out, hs]
        clear hs
        go_wp2
        go_roundw
        case rel => exact ⟨k + 1, dn, A, P, ac, pc, rfl, rfl, by rw [HMM.out], by go_num, HN.out⟩
        case measure => simp [intOf]; omega
      | false =>
        have HP := (show Hid (_ = _) from sp_any s[k])
        have HS : Hid (spB s[k] = false) := hs
        have hkm : (k : Int) ≤ (s.size : Int) := by omega
        clear hs
        go_wp2_with fail
        refine (oneOf1_any s[k] HOr.out).mono ?_
        rintro e w2 ⟨rfl, rfl⟩
        rw [HP.out, HS.out]
        go_wp2_with fail
        refine (lfirst_at hlt hsz HS.out _).mono ?_
        rintro e w2 ⟨rfl, hb2⟩
        have HR2 : Hid (LexAt s w1 k dn A P ac pc w2) := HR.out.later hb2
        have HB2 : Hid (Below bk w w2) := HB1.out.trans (HR2.out.b.mono (Nat.le_of_lt hs1))
        clear HR HBr HOr hb2
        cases hok : tOk s k with
        | false =>
          have HF : Hid (lexE (btL s) = 5 ∧ lexK (btL s) = k) := lexE_syn (by rw [btL_len]; exact hsz) (lexat_bad HR2.out hlt HS.out hok)
          generalize hu : wbS (tkW ((btL s).drop k)) = u
          clear hok hu
          go_wp2
          refine bodyPost_ret (v := .tuple #[.slice none 0 0, .slice none 0 0, .int .i64 (k : Int), .iface 23 (.int .i64 5)]) (by simp [results, Tryz.results14, go_sem]) rfl ?_
          exact ⟨.inl ⟨by rw [HF.out.1]; decide, by rw [HF.out.1, HF.out.2, errN_5]⟩, by rw [HBK.out]; exact HB2.out⟩
        | true =>
          have HOK : Hid (tOk s k = true) := hok
          obtain ⟨hu0, hu1⟩ := word_head hlt HS.out
          have hus : (wbS (tkW ((btL s).drop k))).size + k ≤ s.size := by
            have := tkW_len ((btL s).drop k)
            rw [List.length_drop, btL_len] at this
            rw [wbS_size]
            omega
          have HMY : Hid (many (dn.map (·.2) ++ [tkW ((btL s).drop k)]) = mm + (if s[k] != 35 then 1 else 0)) := by
            show _ = _
            rw [many_app, HMM.out, many_one hlt HS.out]
          have HUZ : Hid ((tkW ((btL s).drop k)).length = (wbS (tkW ((btL s).drop k))).size) := (wbS_size _).symm
          generalize hW : tkW ((btL s).drop k) = W at HMY HUZ hu0 hu1 hus ⊢
          have HW : Hid (tkW ((btL s).drop k) = W) := hW
          generalize hu : wbS W = u at HUZ hu0 hu1 hus ⊢
          have HU : Hid (wbS W = u) := hu
          have hu0i : (0 : Int) < (u.size : Int) := by omega
          clear hok hW hu
          cases hn : (s[k] != 35) with
          | true =>
            have hni : ((u[0].toNat : Int) != 35) = true := by
              rw [hu1 hu0]
              show (!((s[k].toNat : Int) == 35)) = true
              rw [show (35 : Int) = ((35 : Nat) : Int) from rfl, u8_eq _ 35 (by decide)]
              exact hn
            have HMW : Hid (many ((dn ++ [(k, W)]).map (·.2)) = mm + 1) := by
              show _ = _
              rw [List.map_append]
              have := HMY.out
              rw [hn] at this
              exact this
            clear hn hu1 HMY
            go_wp2_with fail
            refine (lClone_any u _ (by omega)).mono ?_
            rintro e w3 ⟨rfl, hb3⟩
            have HR3 : Hid (LexAt s w1 k dn A P ac pc w3) := HR2.out.later hb3
            have hsr := HR3.out.b.size
            clear HR2 HB2 hb3
            obtain ⟨i0, hi0, hz0, hz1, hz2⟩ := info_parts strInf
            go_wp2_with (at_builtin; refine wpList_append_lies _ rfl _ _ 41 rfl w1.heap.size 9 i0 _ 1 16 Tryz.underlying41 hi0 hz0 hz1 hz2 rfl (by decide) _ _ _ rfl (World.ownsRow.alloc HR3.out.ws _) ⟨w3.heap.size, 0, none⟩ 1 1 [.string u] rfl rfl (cell_one_new w3 _ _) (by intro u hu; simp at hu; subst hu; rfl) (by decide) (by unfold maxLen; omega) (by omega) (by simp; omega) (w3.heap.size + 1) (by simp) ?_)
            intro g2 cap2 w4 hown2 hgrow2 hat2 hlt2
            have hb2 := (HR3.out.b.alloc (by omega) (.cells #[.string u] 9)).grown hgrow2 (by simp; omega) (fun j hj => (World.ownsRow.lt HR3.out.ws j hj).1)
            have HB2 := (show Hid (Below _ _ _) from hb2)
            have HP2 : Hid (w4.ownsRow w1.heap.size 3 1 (.slice P dn.length pc) dn.length (numCells (dn.map (·.1)))) := own_two (World.ownsRow.alloc HR3.out.ps _) (World.ownsRow.alloc HR3.out.ws _) (by decide) hgrow2
            have HW2 := (show Hid (w4.ownsRow _ _ _ _ _ _) from hown2)
            have hs2 := hb2.size
            clear hown2 hgrow2 hb2 hat2 hlt2
            obtain ⟨i1, hi1, hy0, hy1, hy2⟩ := info_parts intInf
            go_wp2_with (at_builtin; refine wpList_append_lies _ rfl _ _ 42 rfl w1.heap.size 3 i1 _ 1 8 Tryz.underlying42 hi1 hy0 hy1 hy2 rfl (by decide) _ _ _ rfl (World.ownsRow.alloc HP2.out _) ⟨w4.heap.size, 0, none⟩ 1 1 [.int .i64 (k : Int)] rfl rfl (cell_one_new w4 _ _) (by intro u hu; simp at hu; subst hu; rfl) (by decide) (by unfold maxLen; omega) (by omega) (by simp; omega) (w4.heap.size + 1) (by simp) ?_)
            intro g3 cap3 w5 hown3 hgrow3 hat3 hlt3
            have hb3 := (HB2.out.alloc (by omega) (.cells #[.int .i64 (k : Int)] 3)).grown hgrow3 (by simp; omega) (fun j hj => (World.ownsRow.lt HP2.out j hj).1)
            have hW3 := own_two (World.ownsRow.alloc HW2.out _) (World.ownsRow.alloc HP2.out _) (by decide) hgrow3
            have HN : Hid (LexAt s w1 (k + u.size) (dn ++ [(k, W)]) (some ⟨g2, 0, none⟩) (some ⟨g3, 0, none⟩) cap2 cap3 w5) := by
              show LexAt _ _ _ _ _ _ _ _ _
              rw [← HUZ.out, ← HW.out]
              refine HR3.out.next hlt HS.out HOK.out hb3 ?_ ?_
              · rw [HW.out, HU.out]; exact hW3
              · exact hown3
            clear hown3 hgrow3 hat3 hlt3 hb3 hW3
            go_wp2
            go_roundw
            case rel => exact ⟨k + u.size, dn ++ [(k, W)], some ⟨g2, 0, none⟩, some ⟨g3, 0, none⟩, cap2, cap3, by rw [List.length_append]; rfl, by rw [List.length_append]; rfl, by rw [HMW.out]; go_num, by go_num, HN.out⟩
            case measure => simp [intOf]; omega
          | false =>
            have hni : ((u[0].toNat : Int) != 35) = false := by
              rw [hu1 hu0]
              show (!((s[k].toNat : Int) == 35)) = false
              rw [show (35 : Int) = ((35 : Nat) : Int) from rfl, u8_eq _ 35 (by decide)]
              exact hn
            have HMW : Hid (many ((dn ++ [(k, W)]).map (·.2)) = mm) := by
              show _ = _
              rw [List.map_append]
              have := HMY.out
              rw [hn] at this
              exact this
            clear hn hu1 HMY
            go_wp2_with fail
            refine (lClone_any u _ (by omega)).mono ?_
            rintro e w3 ⟨rfl, hb3⟩
            have HR3 : Hid (LexAt s w1 k dn A P ac pc w3) := HR2.out.later hb3
            have hsr := HR3.out.b.size
            clear HR2 HB2 hb3
            obtain ⟨i0, hi0, hz0, hz1, hz2⟩ := info_parts strInf
            go_wp2_with (at_builtin; refine wpList_append_lies _ rfl _ _ 41 rfl w1.heap.size 9 i0 _ 1 16 Tryz.underlying41 hi0 hz0 hz1 hz2 rfl (by decide) _ _ _ rfl (World.ownsRow.alloc HR3.out.ws _) ⟨w3.heap.size, 0, none⟩ 1 1 [.string u] rfl rfl (cell_one_new w3 _ _) (by intro u hu; simp at hu; subst hu; rfl) (by decide) (by unfold maxLen; omega) (by omega) (by simp; omega) (w3.heap.size + 1) (by simp) ?_)
            intro g2 cap2 w4 hown2 hgrow2 hat2 hlt2
            have hb2 := (HR3.out.b.alloc (by omega) (.cells #[.string u] 9)).grown hgrow2 (by simp; omega) (fun j hj => (World.ownsRow.lt HR3.out.ws j hj).1)
            have HB2 := (show Hid (Below _ _ _) from hb2)
            have HP2 : Hid (w4.ownsRow w1.heap.size 3 1 (.slice P dn.length pc) dn.length (numCells (dn.map (·.1)))) := own_two (World.ownsRow.alloc HR3.out.ps _) (World.ownsRow.alloc HR3.out.ws _) (by decide) hgrow2
            have HW2 := (show Hid (w4.ownsRow _ _ _ _ _ _) from hown2)
            have hs2 := hb2.size
            clear hown2 hgrow2 hb2 hat2 hlt2
            obtain ⟨i1, hi1, hy0, hy1, hy2⟩ := info_parts intInf
            go_wp2_with (at_builtin; refine wpList_append_lies _ rfl _ _ 42 rfl w1.heap.size 3 i1 _ 1 8 Tryz.underlying42 hi1 hy0 hy1 hy2 rfl (by decide) _ _ _ rfl (World.ownsRow.alloc HP2.out _) ⟨w4.heap.size, 0, none⟩ 1 1 [.int .i64 (k : Int)] rfl rfl (cell_one_new w4 _ _) (by intro u hu; simp at hu; subst hu; rfl) (by decide) (by unfold maxLen; omega) (by omega) (by simp; omega) (w4.heap.size + 1) (by simp) ?_)
            intro g3 cap3 w5 hown3 hgrow3 hat3 hlt3
            have hb3 := (HB2.out.alloc (by omega) (.cells #[.int .i64 (k : Int)] 3)).grown hgrow3 (by simp; omega) (fun j hj => (World.ownsRow.lt HP2.out j hj).1)
            have hW3 := own_two (World.ownsRow.alloc HW2.out _) (World.ownsRow.alloc HP2.out _) (by decide) hgrow3
            have HN : Hid (LexAt s w1 (k + u.size) (dn ++ [(k, W)]) (some ⟨g2, 0, none⟩) (some ⟨g3, 0, none⟩) cap2 cap3 w5) := by
              show LexAt _ _ _ _ _ _ _ _ _
              rw [← HUZ.out, ← HW.out]
              refine HR3.out.next hlt HS.out HOK.out hb3 ?_ ?_
              · rw [HW.out, HU.out]; exact hW3
              · exact hown3
            clear hown3 hgrow3 hat3 hlt3 hb3 hW3
            go_wp2
            go_roundw
            case rel => exact ⟨k + u.size, dn ++ [(k, W)], some ⟨g2, 0, none⟩, some ⟨g3, 0, none⟩, cap2, cap3, by rw [List.length_append]; rfl, by rw [List.length_append]; rfl, by rw [HMW.out], by go_num, HN.out⟩
            case measure => simp [intOf]; omega
    · have hki : ¬ (k : Int) < (s.size : Int) := by omega
      have HX : Hid (lxF (btL s) 0 = none ∧ lxW (btL s) 0 = dn) := lexat_end HR.out hlt
      have HL : Hid ((wdsL (btL s)).length = dn.length ∧ many (wdsL (btL s)) = mm) := by
        refine ⟨?_, ?_⟩
        · rw [wdsL, HX.out.2, List.length_map]
        · rw [wdsL, HX.out.2]; exact HMM.out
      by_cases h300 : 300 < mm
      · have hmi : (300 : Int) < (mm : Int) := by omega
        have HF : Hid (lexE (btL s) = 3 ∧ lexK (btL s) = 0) := lexE_many (by rw [btL_len]; exact hsz) HX.out.1 (by rw [HL.out.2]; exact h300)
        go_wp2
        refine bodyPost_ret (v := .tuple #[.slice none 0 0, .slice none 0 0, .int .i64 0, .iface 23 (.int .i64 3)]) (by simp [results, Tryz.results14, go_sem]) rfl ?_
        exact ⟨.inl ⟨by rw [HF.out.1]; decide, by rw [HF.out.1, HF.out.2, errN_3]; rfl⟩, by rw [HBK.out]; exact HBr.out⟩
      · have hmi : ¬ (300 : Int) < (mm : Int) := by omega
        have HF : Hid (lexE (btL s) = 0 ∧ lexK (btL s) = 0) := lexE_none (by rw [btL_len]; exact hsz) HX.out.1 (by rw [HL.out.2]; exact h300)
        go_wp2
        refine bodyPost_ret (v := .tuple #[.slice A dn.length ac, .slice P dn.length pc, .int .i64 0, .nilIface]) (by simp [results, Tryz.results14, go_sem]) rfl ?_
        refine ⟨.inr ⟨HF.out.1, A, P, ac, pc, by rw [HL.out.1], own_down (B := w1.heap.size) ?_ (by rw [HBK.out]; omega), own_down (B := w1.heap.size) ?_ (by rw [HBK.out]; omega)⟩, by rw [HBK.out]; exact HBr.out⟩
        · show wr.ownsRow _ _ _ _ _ _
          rw [List.length_map, HL.out.1, wdsL, HX.out.2, List.map_map]
          exact HR.out.ws
        · show wr.ownsRow _ _ _ _ _ _
          rw [← wp_len, HL.out.1, plcL, HX.out.2]
          exact HR.out.ps

set_option maxRecDepth 100000 in
set_option maxHeartbeats 1000000 in
theorem words_own (s : ByteArray) (w : World) : Calls Tryz.prog 14 #[.string s] w fun e w' => WordsOwn s w e w' ∧ Below w.heap.size w w' := by
  by_cases h : (btL s).length ≤ 60000
  · exact words_short s w h
  · have HF : Hid (lexE (btL s) = 3 ∧ lexK (btL s) = 0) := lexE_long (by omega)
    have hsz : 60000 < (s.size : Int) := by rw [btL_len] at h; omega
    clear h
    go_enter Tryz.func14, Tryz.ntmps14
    go_wp2
    refine bodyPost_ret (v := .tuple #[.slice none 0 0, .slice none 0 0, .int .i64 0, .iface 23 (.int .i64 3)]) (by simp [results, Tryz.results14, go_sem]) rfl ?_
    exact ⟨.inl ⟨by rw [HF.out.1]; decide, by rw [HF.out.1, HF.out.2, errN_3]; rfl⟩, Below.refl _ _⟩
theorem words_any (s : ByteArray) (w : World) : Calls Tryz.prog 14 #[.string s] w fun e w' => WordsRes s e w' ∧ Below w.heap.size w w' := (words_own s w).mono fun _ _ h => ⟨h.1.res, h.2⟩
end Go.Proofs.YtmbeamcjpidnjaaGreatDoor
