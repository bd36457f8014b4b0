/- Some texts as one: LexR, LexS, LexT. -/
import Derived.Test.YtmbeamcjpidnjaaGreatDoorLexPs
import Derived.Test.YtmbeamcjpidnjaaGreatDoorBase
import Derived.Test.YtmbeamcjpidnjaaGreatDoorTreRs
import Derived.Test.YtmbeamcjpidnjaaGreatDoorMems
import Derived.Deep.CutBlock
import Derived.Deep.DeepCutAuto
namespace Go.Proofs.YtmbeamcjpidnjaaGreatDoor
open Go Go.RowKit

set_option maxRecDepth 100000 in
theorem rfigure_any (c : UInt8) (w : World) : Calls Tryz.prog 68 #[.int .u8 (c.toNat : Int)] w fun e w' => e = .returned (.bool (figB c)) ∧ w = w' := by
  by_cases h1 : (48 : Int) ≤ (c.toNat : Int)
  · by_cases h2 : (c.toNat : Int) ≤ 57
    · have HE : Hid (figB c = true) := by show figB c = true; simp [figB]; omega
      go_enter Tryz.func68, Tryz.ntmps68
      go_wp2
      go_ret
      exact ⟨by rw [HE.out]; rfl, rfl⟩
    · have HE : Hid (figB c = false) := by show figB c = false; simp [figB]; omega
      go_enter Tryz.func68, Tryz.ntmps68
      go_wp2
      go_ret
      exact ⟨by rw [HE.out]; rfl, rfl⟩
  · have HE : Hid (figB c = false) := by show figB c = false; simp [figB]; omega
    go_enter Tryz.func68, Tryz.ntmps68
    go_wp2
    go_ret
    exact ⟨by rw [HE.out]; rfl, rfl⟩
end Go.Proofs.YtmbeamcjpidnjaaGreatDoor
namespace Go.Proofs.YtmbeamcjpidnjaaGreatDoor
open Go Go.RowKit

/-- What the loop over a text has found. -/
structure LexAt (s : ByteArray) (w : World) (i : Nat) (dn : List (Nat × List UInt8)) (A P : Option Addr) (ac pc : Nat) (wr : World) : Prop where
  b : Below w.heap.size w wr
  le : i ≤ s.size
  ln : dn.length ≤ i
  eq : lx (btL s) 0 = (dn ++ lxW ((btL s).drop i) i, lxF ((btL s).drop i) i)
  ws : wr.ownsRow w.heap.size 9 1 (.slice A dn.length ac) dn.length (strCells (dn.map fun x => wbS x.2))
  ps : wr.ownsRow w.heap.size 3 1 (.slice P dn.length pc) dn.length (numCells (dn.map (·.1)))
theorem LexAt.space {s : ByteArray} {w : World} {i : Nat} {dn : List (Nat × List UInt8)} {A P : Option Addr} {ac pc : Nat} {wr : World} (h : LexAt s w i dn A P ac pc wr) (hi : i < s.size) (hs : spB s[i] = true) : LexAt s w (i + 1) dn A P ac pc wr := by
  have e := h.eq
  rw [btL_drop hi, lxW, lxF, lx_sp _ _ hs] at e
  exact { b := h.b, le := hi, ln := by have := h.ln; omega, eq := e, ws := h.ws, ps := h.ps }
theorem lexat_bad {s : ByteArray} {w : World} {i : Nat} {dn : List (Nat × List UInt8)} {A P : Option Addr} {ac pc : Nat} {wr : World} (h : LexAt s w i dn A P ac pc wr) (hi : i < s.size) (hs : spB s[i] = false) (ho : tOk s i = false) : lxF (btL s) 0 = some i := by
  have e := h.eq
  rw [tOk, btL_drop hi] at ho
  rw [btL_drop hi, lxW, lxF, lx_bad _ hs ho] at e
  rw [lxF, e]
theorem LexAt.word {s : ByteArray} {w : World} {i : Nat} {dn : List (Nat × List UInt8)} {A P : Option Addr} {ac pc : Nat} {wr : World} (h : LexAt s w i dn A P ac pc wr) (hi : i < s.size) (hs : spB s[i] = false) (ho : tOk s i = true) {A' P' : Option Addr} {ac' pc' : Nat} {w' : World} (hb : Below w.heap.size w w')
    (h1 : w'.ownsRow w.heap.size 9 1 (.slice A' (dn.length + 1) ac') (dn.length + 1) (strCells (dn.map fun x => wbS x.2) ++ [.string (wbS (tkW ((btL s).drop i)))])) (h2 : w'.ownsRow w.heap.size 3 1 (.slice P' (dn.length + 1) pc') (dn.length + 1) (numCells (dn.map (·.1)) ++ [.int .i64 (i : Int)])) :
    LexAt s w (i + tLen s i) (dn ++ [(i, tkW ((btL s).drop i))]) A' P' ac' pc' w' := by
  have e := h.eq
  have hle := t_le hi
  have hd : ((btL s).drop i).drop (tLen s i) = (btL s).drop (i + tLen s i) := by rw [List.drop_drop]
  have ho' : tkOk (s[i] :: (btL s).drop (i + 1)) = true := by rw [← btL_drop hi]; exact ho
  have e2 : lx ((btL s).drop i) i = ((i, tkW ((btL s).drop i)) :: lxW ((btL s).drop (i + tLen s i)) (i + tLen s i), lxF ((btL s).drop (i + tLen s i)) (i + tLen s i)) := by
    rw [← hd, tLen, btL_drop hi]
    exact lx_tok i hs ho'
  rw [lxW, lxF, e2] at e
  refine { b := hb, le := hle.2, ln := by have := h.ln; simp; omega, eq := by rw [e]; simp, ws := ?_, ps := ?_ }
  · rw [List.length_append, List.map_append, strCells_app]
    exact h1
  · rw [List.length_append, List.map_append, numCells_app]
    exact h2
theorem sp_cases {c : UInt8} (h : spB c = true) : ((c.toNat : Int) == 32) = true ∨ (((c.toNat : Int) == 32) = false ∧ ((c.toNat : Int) == 10) = true) := by
  have h1 := u8_eq c 32 (by decide)
  have h2 := u8_eq c 10 (by decide)
  simp only [spB, Bool.or_eq_true] at h
  by_cases h3 : c = 32
  · exact .inl (by rw [show (32 : Int) = ((32 : Nat) : Int) from rfl, h1]; simp [h3])
  · refine .inr ⟨by rw [show (32 : Int) = ((32 : Nat) : Int) from rfl, h1]; simpa using h3, ?_⟩
    rw [show (10 : Int) = ((10 : Nat) : Int) from rfl, h2]
    rcases h with h | h
    · exact absurd (beq_iff_eq.1 h) h3
    · exact h
theorem sp_not {c : UInt8} (h : spB c = false) : ((c.toNat : Int) == 32) = false ∧ ((c.toNat : Int) == 10) = false := by
  have h1 := u8_eq c 32 (by decide)
  have h2 := u8_eq c 10 (by decide)
  simp only [spB, Bool.or_eq_false_iff] at h
  exact ⟨by rw [show (32 : Int) = ((32 : Nat) : Int) from rfl, h1]; exact h.1, by rw [show (10 : Int) = ((10 : Nat) : Int) from rfl, h2]; exact h.2⟩

theorem fig_meet {s : ByteArray} {k kk q : Nat} {hlt : k < s.size} (hkk : kk = k + tLen s k) (ht : tLen s k = twN figB s (k + 1) + 1 ∧ tOk s k = (decide (twN figB s (k + 1) + 1 ≤ 6) && (s[k] != 48 || twN figB s (k + 1) == 0))) (hq : twN figB s (k + 1) + 1 = q - k) : kk = q ∧ tOk s k = (decide (q - k ≤ 6) && (s[k] != 48 || q - k == 1)) := by
  refine ⟨by omega, ?_⟩
  rw [ht.2, hq]
  congr 2
  rw [Bool.eq_iff_iff, beq_iff_eq, beq_iff_eq]
  omega
theorem pr_three (c : UInt8) : ((c.toNat : Int) < 32 ∧ Hid (prB c = false)) ∨ (¬ (c.toNat : Int) < 32 ∧ 126 < (c.toNat : Int) ∧ Hid (prB c = false)) ∨ (¬ (c.toNat : Int) < 32 ∧ ¬ 126 < (c.toNat : Int) ∧ Hid (prB c = true)) := by
  by_cases h1 : (c.toNat : Int) < 32
  · exact .inl ⟨h1, by show prB c = false; simp [prB]; omega⟩
  · by_cases h2 : 126 < (c.toNat : Int)
    · exact .inr (.inl ⟨h1, h2, by show prB c = false; simp [prB]; omega⟩)
    · exact .inr (.inr ⟨h1, h2, by show prB c = true; simp [prB]; omega⟩)
theorem u8_two (a b : UInt8) : ((a.toNat : Int) == (b.toNat : Int)) = (a == b) := by
  rw [Bool.eq_iff_iff, beq_iff_eq, beq_iff_eq]
  constructor
  · intro h; exact UInt8.toNat_inj.1 (by omega)
  · intro h; rw [h]
theorem marks_next (c : UInt8) {q : Nat} (h : q < 9) : (marks.take (q + 1)).any (· == c) = ((marks.take q).any (· == c) || ((⟨#[40, 41, 91, 93, 44, 43, 42, 61, 59]⟩ : ByteArray)[q]'h == c)) := by
  have hl : q < marks.length := h
  rw [List.take_succ_eq_append_getElem hl, List.any_append]
  simp only [List.any_cons, List.any_nil, Bool.or_false]
  rfl
theorem fig_four {t : Bool} {k q : Nat} {c : UInt8} (h : k + 1 ≤ q) (ht : t = (decide (q - k ≤ 6) && (c != 48 || q - k == 1))) : (¬ (q : Int) - (k : Int) ≤ 6 ∧ Hid (t = false)) ∨ (((q : Int) - (k : Int) ≤ 6) ∧ ((c.toNat : Int) != 48) = true ∧ Hid (t = true))
    ∨ (((q : Int) - (k : Int) ≤ 6) ∧ ((c.toNat : Int) != 48) = false ∧ ((q : Int) == (k : Int) + 1) = true ∧ Hid (t = true)) ∨ (((q : Int) - (k : Int) ≤ 6) ∧ ((c.toNat : Int) != 48) = false ∧ ((q : Int) == (k : Int) + 1) = false ∧ Hid (t = false)) := by
  have h1 := u8_eq c 48 (by decide)
  have e48 : ((c.toNat : Int) != 48) = (c != 48) := by
    show (!((c.toNat : Int) == 48)) = (!(c == 48))
    rw [show (48 : Int) = ((48 : Nat) : Int) from rfl, h1]; rfl
  by_cases g1 : q - k ≤ 6
  · have d1 : decide (q - k ≤ 6) = true := decide_eq_true g1
    cases g2 : (c != 48) with
    | true => exact .inr (.inl ⟨by omega, by rw [e48]; exact g2, by show t = true; rw [ht, d1, g2]; rfl⟩)
    | false =>
      by_cases g3 : q = k + 1
      · have d2 : (q - k == 1) = true := by rw [beq_iff_eq]; omega
        exact .inr (.inr (.inl ⟨by omega, by rw [e48]; exact g2, by rw [beq_iff_eq]; omega, by show t = true; rw [ht, d1, g2, d2]; rfl⟩))
      · have d2 : (q - k == 1) = false := by rw [beq_eq_false_iff_ne]; omega
        exact .inr (.inr (.inr ⟨by omega, by rw [e48]; exact g2, by rw [beq_eq_false_iff_ne]; omega, by show t = false; rw [ht, d1, g2, d2]; rfl⟩))
  · exact .inl ⟨by omega, by show t = false; rw [ht, decide_eq_false g1]; rfl⟩

theorem lexE_syn {L : List UInt8} {k : Nat} (h : L.length ≤ 60000) (hf : lxF L 0 = some k) : lexE L = 5 ∧ lexK L = k := by
  have e : lexE L = 5 := by rw [lexE, if_neg (by omega), hf]; rfl
  exact ⟨e, by rw [lexK, if_pos e, hf]; rfl⟩
theorem lexE_many {L : List UInt8} (h : L.length ≤ 60000) (hf : lxF L 0 = none) (hm : 300 < many (wdsL L)) : lexE L = 3 ∧ lexK L = 0 := by
  have e : lexE L = 3 := by rw [lexE, if_neg (by omega), hf, if_neg (by simp), if_pos hm]
  exact ⟨e, by rw [lexK, e]; rfl⟩
theorem lexE_none {L : List UInt8} (h : L.length ≤ 60000) (hf : lxF L 0 = none) (hm : ¬ 300 < many (wdsL L)) : lexE L = 0 ∧ lexK L = 0 := by
  have e : lexE L = 0 := by rw [lexE, if_neg (by omega), hf, if_neg (by simp), if_neg hm]
  exact ⟨e, by rw [lexK, e]; rfl⟩
theorem lexE_long {L : List UInt8} (h : 60000 < L.length) : lexE L = 3 ∧ lexK L = 0 := by
  have e : lexE L = 3 := by rw [lexE, if_pos h]
  exact ⟨e, by rw [lexK, e]; rfl⟩
theorem lexat_end {s : ByteArray} {w : World} {i : Nat} {dn : List (Nat × List UInt8)} {A P : Option Addr} {ac pc : Nat} {wr : World} (h : LexAt s w i dn A P ac pc wr) (hi : ¬ i < s.size) : lxF (btL s) 0 = none ∧ lxW (btL s) 0 = dn := by
  have e := h.eq
  rw [List.drop_eq_nil_of_le (by rw [btL_len]; omega), lxW, lxF, lx_nil, List.append_nil] at e
  rw [lxF, lxW, e]
  exact ⟨rfl, rfl⟩
theorem many_one {s : ByteArray} {k : Nat} (h : k < s.size) (hs : spB s[k] = false) : many [tkW ((btL s).drop k)] = if s[k] != 35 then 1 else 0 := by
  have h1 : ∃ z, tkW ((btL s).drop k) = s[k] :: z := by
    rw [tkW, btL_drop h]
    have hp := tkLen_pos s[k] ((btL s).drop (k + 1))
    obtain ⟨m, hm⟩ : ∃ m, tkLen (s[k] :: (btL s).drop (k + 1)) = m + 1 := ⟨_, (Nat.sub_add_cancel hp).symm⟩
    rw [hm, List.take_succ_cons]
    exact trimE_cons (sp_ne hs) _
  obtain ⟨z, hz⟩ := h1
  rw [hz]
  have hn : notN (s[k] :: z) = (s[k] != 35) := rfl
  cases hh : (s[k] != 35) with
  | true => rw [many, List.filter_cons_of_pos (by rw [hn]; exact hh)]; rfl
  | false => rw [many, List.filter_cons_of_neg (by rw [hn, hh]; decide)]; rfl
theorem take_snoc {s : ByteArray} {k j : Nat} (h : k ≤ j) (hj : j < s.size) : ((btL s).drop k).take (j + 1 - k) = ((btL s).drop k).take (j - k) ++ [s[j]] := by
  have e : j + 1 - k = (j - k) + 1 := by omega
  have hl : j - k < ((btL s).drop k).length := by rw [List.length_drop, btL_len]; omega
  rw [e, List.take_succ_eq_append_getElem hl]
  congr 2
  rw [List.getElem_drop]
  have e2 : k + (j - k) = j := by omega
  simp only [e2]
  rfl
theorem slice_wb (s : ByteArray) (i e : Nat) (h1 : i ≤ e) (h2 : e ≤ s.size) (W : World) : (Instr.slice 9 (.string s) (some (.int .i64 (i : Int))) (some (.int .i64 ((e : Nat) : Int))) none).run Tryz.prog W = .ok (.string (wbS (((btL s).drop i).take (e - i)))) W := by
  have h := run_slice_string (P := Tryz.prog) (w := W) 9 s .i64 .i64 (i : Int) (e : Int) Tryz.underlying9 (by omega) (by omega) (by omega)
  rw [Int.toNat_natCast, Int.toNat_natCast, wbS_ext] at h
  exact h
/-- What LexOf hands back. -/
def LexRes (s : ByteArray) (w : World) (e : Ending) (w' : World) : Prop :=
  (lexE (btL s) ≠ 0 ∧ e = .returned (.tuple #[.slice none 0 0, .slice none 0 0, .int .i64 ((lexK (btL s) : Nat) : Int), .int .i64 (lexE (btL s))])) ∨
  (lexE (btL s) = 0 ∧ ∃ A P ac pc, e = .returned (.tuple #[.slice A (wdsL (btL s)).length ac, .slice P (wdsL (btL s)).length pc, .int .i64 0, .int .i64 0]) ∧ StrsO w.heap.size (.slice A (wdsL (btL s)).length ac) ((wdsL (btL s)).map wbS) w' ∧ NumsO w.heap.size (.slice P (wdsL (btL s)).length pc) (plcL (btL s)) w')

set_option maxRecDepth 100000 in
set_option maxHeartbeats 8000000 in
theorem lexOf_any (s : ByteArray) (w : World) (hl : (btL s).length ≤ 60000) :
    Calls Tryz.prog 31 #[.string s] w fun e w' => LexRes s w e w' ∧ Below w.heap.size w w' := by
  have hsz : s.size ≤ 60000 := by rw [← btL_len]; exact hl
  clear hl
  have hszi : ¬ 60000 < (s.size : Int) := by omega
  go_enter Tryz.func31, Tryz.ntmps31
  go_wp2
  go_loopw [6, 7, 8, 9] (fun x p m i wr => ∃ (k : Nat) (dn : List (Nat × List UInt8)) (A P : Option Addr) (ac pc : Nat), x = .slice A dn.length ac ∧ p = .slice P dn.length pc ∧ m = .int .i64 ((many (dn.map (·.2)) : Nat) : Int) ∧ i = .int .i64 (k : Int) ∧ LexAt s w k dn A P ac pc wr) (fun _ _ _ i _ => s.size - (intOf i).toNat)
  case atStart => exact ⟨0, [], none, none, 0, 0, rfl, rfl, rfl, rfl, { b := Below.refl _ _, le := Nat.zero_le _, ln := Nat.le_refl _, eq := rfl, ws := World.ownsRow_nil _ _ _ _, ps := World.ownsRow_nil _ _ _ _ }⟩
  case round =>
    obtain ⟨k, dn, A, P, ac, pc, rfl, rfl, rfl, rfl, hR⟩ := hrel
    have HR : Hid (LexAt s w k dn A P ac pc wr) := hR
    have hle := hR.le
    have hln := hR.ln
    have hmn : many (dn.map (·.2)) ≤ 60000 := by
      have h1 : many (dn.map (·.2)) ≤ (dn.map (·.2)).length := List.length_filter_le _ _
      rw [List.length_map] at h1
      omega
    clear hR
    generalize hmm : many (dn.map (·.2)) = mm at hmn
    have HMM : Hid (many (dn.map (·.2)) = mm) := hmm
    clear hmm
    by_cases hlt : k < s.size
    · have hki : (k : Int) < (s.size : Int) := by omega
      cases hs : spB s[k] with
      | true =>
        have HN : Hid (LexAt s w (k + 1) dn A P ac pc wr) := HR.out.space hlt hs
        rcases sp_cases hs with h1 | ⟨h1, h2⟩
        · clear hs
          go_wp2
          go_roundw
          case rel => exact ⟨k + 1, dn, A, P, ac, pc, rfl, rfl, by rw [HMM.out], by go_num, HN.out⟩
          case measure => simp [intOf]; omega
        · clear hs
          go_wp2
          go_roundw
          case rel => exact ⟨k + 1, dn, A, P, ac, pc, rfl, rfl, by rw [HMM.out], by go_num, HN.out⟩
          case measure => simp [intOf]; omega
      | false =>
        obtain ⟨h1, h2⟩ := sp_not hs
        have HS : Hid (spB s[k] = false) := hs
        obtain ⟨ht1, ht2⟩ := t_le hlt
        obtain ⟨kk, hkk⟩ : ∃ kk, kk = k + tLen s k := ⟨_, rfl⟩
        have HKK : Hid (kk = k + tLen s k) := hkk
        have hk1 : k + 1 ≤ kk := by omega
        have hk2 : kk ≤ s.size := by omega
        clear hs hkk ht1 ht2
        go_upto_block 2 with (first | (go_at_call 67; refine (rlower_any _ _).mono ?_; rintro e w2 ⟨rfl, rfl⟩) | (go_at_call 68; refine (rfigure_any _ _).mono ?_; rintro e w2 ⟨rfl, rfl⟩))
        go_cut [11, 12, 13, 14] (fun x ok _ _ wx => x = .int .i64 (kk : Int) ∧ ok = .bool (tOk s k) ∧ wx = wr)
        case first =>
          cases hlo : lowB s[k] with
          | true =>
            obtain ⟨e1, e2⟩ := t_low hlt hlo
            have HT : Hid (tLen s k = twN lowB s (k + 1) + 1 ∧ tOk s k = decide (twN lowB s (k + 1) + 1 ≤ 8)) := ⟨e1, e2⟩
            clear e1 e2 hlo
            go_wp2
            go_loopw [11] (fun x wx => ∃ q : Nat, k + 1 ≤ q ∧ q ≤ s.size ∧ x = .int .i64 (q : Int) ∧ wx = wr ∧ (k + 1) + twN lowB s (k + 1) = q + twN lowB s q) (fun x _ => s.size - (intOf x).toNat)
            case atStart => exact ⟨k + 1, Nat.le_refl _, by omega, by go_num, rfl, rfl⟩
            case round =>
              obtain ⟨q, hq1, hq2, rfl, rfl, hq⟩ := hrel
              have HQ : Hid ((k + 1) + twN lowB s (k + 1) = q + twN lowB s q) := hq
              clear hq
              by_cases hql : q < s.size
              · have hqi : (q : Int) < (s.size : Int) := by omega
                cases hb : lowB s[q] with
                | true =>
                  have HB : Hid (lowB s[q] = true) := hb
                  have HQ2 : Hid ((k + 1) + twN lowB s (k + 1) = (q + 1) + twN lowB s (q + 1)) := by
                    have h3 := twN_yes hql hb
                    have h4 := HQ.out
                    show _ = _
                    omega
                  clear hb
                  go_wp2_with (go_at_call 67; refine (rlower_any _ _).mono ?_; rintro e w2 ⟨rfl, rfl⟩; rw [HB.out])
                  go_roundw
                  case rel => exact ⟨q + 1, by omega, by omega, by go_num, by trivial, HQ2.out⟩
                  case measure => simp [intOf]; omega
                | false =>
                  have HB : Hid (lowB s[q] = false) := hb
                  have HQ2 : Hid (kk = q ∧ tOk s k = decide ((q : Int) - (k : Int) ≤ 8)) := by
                    have h3 := twN_no hql hb
                    have h4 := HQ.out
                    have h5 := HKK.out
                    have h6 := HT.out.1
                    refine ⟨by omega, ?_⟩
                    rw [HT.out.2]
                    congr 1
                    apply propext
                    omega
                  clear hb
                  go_wp2_with (go_at_call 67; refine (rlower_any _ _).mono ?_; rintro e w2 ⟨rfl, rfl⟩; rw [HB.out])
                  go_meet
                  exact ⟨by rw [HQ2.out.1], by rw [HQ2.out.2], rfl⟩
              · have hqi : ¬ (q : Int) < (s.size : Int) := by omega
                have HQ2 : Hid (kk = q ∧ tOk s k = decide ((q : Int) - (k : Int) ≤ 8)) := by
                  have h3 := twN_end (p := lowB) hql
                  have h4 := HQ.out
                  have h5 := HKK.out
                  have h6 := HT.out.1
                  refine ⟨by omega, ?_⟩
                  rw [HT.out.2]
                  congr 1
                  apply propext
                  omega
                go_wp2
                go_meet
                exact ⟨by rw [HQ2.out.1], by rw [HQ2.out.2], rfl⟩
          | false =>
            cases hfi : figB s[k] with
            | true =>
              obtain ⟨e1, e2⟩ := t_fig hlt hlo hfi
              have HT : Hid (tLen s k = twN figB s (k + 1) + 1 ∧ tOk s k = (decide (twN figB s (k + 1) + 1 ≤ 6) && (s[k] != 48 || twN figB s (k + 1) == 0))) := ⟨e1, e2⟩
              clear e1 e2 hlo hfi
              go_wp2
              go_loopw [11] (fun x wx => ∃ q : Nat, k + 1 ≤ q ∧ q ≤ s.size ∧ x = .int .i64 (q : Int) ∧ wx = wr ∧ (k + 1) + twN figB s (k + 1) = q + twN figB s q) (fun x _ => s.size - (intOf x).toNat)
              case atStart => exact ⟨k + 1, Nat.le_refl _, by omega, by go_num, rfl, rfl⟩
              case round =>
                obtain ⟨q, hq1, hq2, rfl, rfl, hq⟩ := hrel
                have HQ : Hid ((k + 1) + twN figB s (k + 1) = q + twN figB s q) := hq
                clear hq
                by_cases hql : q < s.size
                · have hqi : (q : Int) < (s.size : Int) := by omega
                  cases hb : figB s[q] with
                  | true =>
                    have HB : Hid (figB s[q] = true) := hb
                    have HQ2 : Hid ((k + 1) + twN figB s (k + 1) = (q + 1) + twN figB s (q + 1)) := by
                      have h3 := twN_yes hql hb
                      have h4 := HQ.out
                      show _ = _
                      omega
                    clear hb
                    go_wp2_with (go_at_call 68; refine (rfigure_any _ _).mono ?_; rintro e w2 ⟨rfl, rfl⟩; rw [HB.out])
                    go_roundw
                    case rel => exact ⟨q + 1, by omega, by omega, by go_num, by trivial, HQ2.out⟩
                    case measure => simp [intOf]; omega
                  | false =>
                    have HB : Hid (figB s[q] = false) := hb
                    have hqe : twN figB s (k + 1) + 1 = q - k := by
                      have h3 := twN_no hql hb
                      have h4 := HQ.out
                      omega
                    have HQ2 : Hid (kk = q ∧ tOk s k = (decide (q - k ≤ 6) && (s[k] != 48 || q - k == 1))) := fig_meet HKK.out HT.out hqe
                    clear hb hqe
                    rcases fig_four hq1 HQ2.out.2 with ⟨g1, HE⟩ | ⟨g1, g2, HE⟩ | ⟨g1, g2, g3, HE⟩ | ⟨g1, g2, g3, HE⟩
                    all_goals
                      go_wp2_with (go_at_call 68; refine (rfigure_any _ _).mono ?_; rintro e w2 ⟨rfl, rfl⟩; rw [HB.out])
                      go_meet
                      exact ⟨by rw [HQ2.out.1], by rw [HE.out], rfl⟩
                · have hqi : ¬ (q : Int) < (s.size : Int) := by omega
                  have hqe : twN figB s (k + 1) + 1 = q - k := by
                    have h3 := twN_end (p := figB) hql
                    have h4 := HQ.out
                    omega
                  have HQ2 : Hid (kk = q ∧ tOk s k = (decide (q - k ≤ 6) && (s[k] != 48 || q - k == 1))) := fig_meet HKK.out HT.out hqe
                  clear hqe
                  rcases fig_four hq1 HQ2.out.2 with ⟨g1, HE⟩ | ⟨g1, g2, HE⟩ | ⟨g1, g2, g3, HE⟩ | ⟨g1, g2, g3, HE⟩
                  all_goals
                    go_wp2
                    go_meet
                    exact ⟨by rw [HQ2.out.1], by rw [HE.out], rfl⟩
            | false =>
              cases hno : (s[k] == 35) with
              | true =>
                obtain ⟨e1, e2⟩ := t_note hlt hlo hfi hno
                have HT : Hid (tLen s k = twN nlB s (k + 1) + 1 ∧ tOk s k = prN s (k + 1)) := ⟨e1, e2⟩
                have h35 : ((s[k].toNat : Int) == 35) = true := by rw [show (35 : Int) = ((35 : Nat) : Int) from rfl, u8_eq _ 35 (by decide)]; exact hno
                clear e1 e2 hlo hfi hno
                go_wp2
                go_loopw [11, 12] (fun x ok wx => ∃ (q : Nat) (b : Bool), k + 1 ≤ q ∧ q ≤ s.size ∧ x = .int .i64 (q : Int) ∧ ok = .bool b ∧ wx = wr ∧ (k + 1) + twN nlB s (k + 1) = q + twN nlB s q ∧ tOk s k = (b && prN s q)) (fun x _ _ => s.size - (intOf x).toNat)
                case atStart => exact ⟨k + 1, true, Nat.le_refl _, by omega, by go_num, rfl, rfl, rfl, by rw [HT.out.2]; rfl⟩
                case round =>
                  obtain ⟨q, b, hq1, hq2, rfl, rfl, rfl, hq, hb⟩ := hrel
                  have HQ : Hid ((k + 1) + twN nlB s (k + 1) = q + twN nlB s q) := hq
                  have HB : Hid (tOk s k = (b && prN s q)) := hb
                  clear hq hb
                  by_cases hql : q < s.size
                  · have hqi : (q : Int) < (s.size : Int) := by omega
                    cases hnl : nlB s[q] with
                    | true =>
                      have h10 : ((s[q].toNat : Int) != 10) = true := by
                        show (!((s[q].toNat : Int) == 10)) = true
                        rw [show (10 : Int) = ((10 : Nat) : Int) from rfl, u8_eq _ 10 (by decide)]
                        exact hnl
                      have HQ2 : Hid ((k + 1) + twN nlB s (k + 1) = (q + 1) + twN nlB s (q + 1)) := by
                        have h3 := twN_yes hql hnl
                        have h4 := HQ.out
                        show _ = _
                        omega
                      have HB2 : Hid (tOk s k = (b && (prB s[q] && prN s (q + 1)))) := by
                        show _ = _
                        rw [HB.out, prN_yes hql hnl]
                      clear hnl
                      rcases pr_three s[q] with ⟨g1, HE⟩ | ⟨g1, g2, HE⟩ | ⟨g1, g2, HE⟩
                      all_goals
                        go_wp2
                        go_roundw
                        case rel =>
                          first
                            | exact ⟨q + 1, false, by omega, by omega, by go_num, rfl, by trivial, HQ2.out, by rw [HB2.out, HE.out]; simp⟩
                            | exact ⟨q + 1, b, by omega, by omega, by go_num, rfl, by trivial, HQ2.out, by rw [HB2.out, HE.out]; simp⟩
                        case measure => simp [intOf]; omega
                    | false =>
                      have h10 : ((s[q].toNat : Int) != 10) = false := by
                        show (!((s[q].toNat : Int) == 10)) = false
                        rw [show (10 : Int) = ((10 : Nat) : Int) from rfl, u8_eq _ 10 (by decide)]
                        exact hnl
                      have HQ2 : Hid (kk = q ∧ tOk s k = b) := by
                        have h3 := twN_no hql hnl
                        have h4 := HQ.out
                        have h5 := HKK.out
                        have h6 := HT.out.1
                        exact ⟨by omega, by rw [HB.out, prN_no hql hnl, Bool.and_true]⟩
                      clear hnl
                      go_wp2
                      go_meet
                      exact ⟨by rw [HQ2.out.1], by rw [HQ2.out.2], rfl⟩
                  · have hqi : ¬ (q : Int) < (s.size : Int) := by omega
                    have HQ2 : Hid (kk = q ∧ tOk s k = b) := by
                      have h3 := twN_end (p := nlB) hql
                      have h4 := HQ.out
                      have h5 := HKK.out
                      have h6 := HT.out.1
                      exact ⟨by omega, by rw [HB.out, prN_end hql, Bool.and_true]⟩
                    go_wp2
                    go_meet
                    exact ⟨by rw [HQ2.out.1], by rw [HQ2.out.2], rfl⟩
              | false =>
                obtain ⟨e1, e2⟩ := t_mark hlt hlo hfi hno
                have HT : Hid (kk = k + 1 ∧ tOk s k = mrkB s[k]) := ⟨by rw [HKK.out, e1], e2⟩
                have h35 : ((s[k].toNat : Int) == 35) = false := by rw [show (35 : Int) = ((35 : Nat) : Int) from rfl, u8_eq _ 35 (by decide)]; exact hno
                clear e1 e2 hlo hfi hno
                go_wp2
                go_loopw [12, 15] (fun ok j wx => ∃ q : Nat, q ≤ 9 ∧ j = .int .i64 (q : Int) ∧ ok = .bool ((marks.take q).any (· == s[k])) ∧ wx = wr) (fun _ j _ => 9 - (intOf j).toNat)
                case atStart => exact ⟨0, by omega, by go_num, rfl, rfl⟩
                case round =>
                  obtain ⟨q, hq1, rfl, rfl, rfl⟩ := hrel
                  by_cases hql : q < 9
                  · have hqi : (q : Int) < 9 := by omega
                    have hqs : q < (⟨#[40, 41, 91, 93, 44, 43, 42, 61, 59]⟩ : ByteArray).size := hql
                    have hqt : (q : Int) < ((⟨#[40, 41, 91, 93, 44, 43, 42, 61, 59]⟩ : ByteArray).size : Int) := by omega
                    have HM := (show Hid (_) from marks_next s[k] hql)
                    cases hm : ((⟨#[40, 41, 91, 93, 44, 43, 42, 61, 59]⟩ : ByteArray)[q] == s[k]) with
                    | true =>
                      have hmi : ((((⟨#[40, 41, 91, 93, 44, 43, 42, 61, 59]⟩ : ByteArray)[q]).toNat : Int) == (s[k].toNat : Int)) = true := by rw [u8_two]; exact hm
                      rw [hm] at HM
                      clear hm
                      go_wp2
                      go_roundw
                      case rel => exact ⟨q + 1, by omega, by go_num, by rw [HM.out]; simp, by trivial⟩
                      case measure => simp [intOf]; omega
                    | false =>
                      have hmi : ((((⟨#[40, 41, 91, 93, 44, 43, 42, 61, 59]⟩ : ByteArray)[q]).toNat : Int) == (s[k].toNat : Int)) = false := by rw [u8_two]; exact hm
                      rw [hm] at HM
                      clear hm
                      go_wp2
                      go_roundw
                      case rel => exact ⟨q + 1, by omega, by go_num, by rw [HM.out]; simp, by trivial⟩
                      case measure => simp [intOf]; omega
                  · have hqi : ¬ (q : Int) < 9 := by omega
                    have HE : Hid (tOk s k = (marks.take q).any (· == s[k])) := by
                      show _ = _
                      rw [HT.out.2, List.take_of_length_le (by show 9 ≤ q; omega)]; rfl
                    generalize (marks.take q).any (· == s[k]) = b at HE
                    go_wp2
                    go_meet
                    exact ⟨by rw [HT.out.1]; go_num, by rw [HE.out], rfl⟩
        case rest =>
          obtain ⟨rfl, rfl, rfl⟩ := hcut
          cases hok : tOk s k with
          | false =>
            have HF : Hid (lexE (btL s) = 5 ∧ lexK (btL s) = k) := lexE_syn (by rw [btL_len]; exact hsz) (lexat_bad HR.out hlt HS.out hok)
            clear hok
            go_wp2
            refine bodyPost_ret (v := .tuple #[.slice none 0 0, .slice none 0 0, .int .i64 (k : Int), .int .i64 5]) (by simp [results, Tryz.results31, go_sem]) rfl ?_
            exact ⟨.inl ⟨by rw [HF.out.1]; decide, by rw [HF.out.1, HF.out.2]⟩, HR.out.b⟩
          | true =>
            have HOK : Hid (tOk s k = true) := hok
            have HWD : Hid (trimE (((btL s).drop k).take (kk - k)) = tkW ((btL s).drop k)) := by
              show _ = _
              rw [tkW, HKK.out]
              congr 2
              rw [tLen]; omega
            have HMY : Hid (many (dn.map (·.2) ++ [tkW ((btL s).drop k)]) = mm + (if s[k] != 35 then 1 else 0)) := by
              show _ = _
              rw [many_app, HMM.out, many_one hlt HS.out]
            generalize hW : tkW ((btL s).drop k) = W at HWD HMY
            have HW : Hid (tkW ((btL s).drop k) = W) := hW
            clear hok hW
            go_wp2
            go_loopw [16] (fun x wx => ∃ e : Nat, k + 1 ≤ e ∧ e ≤ kk ∧ x = .int .i64 (e : Int) ∧ wx = wc ∧ trimE (((btL s).drop k).take (e - k)) = W) (fun x _ => (intOf x).toNat)
            case atStart => exact ⟨kk, hk1, Nat.le_refl _, rfl, rfl, HWD.out⟩
            case round =>
              obtain ⟨e, he1, he2, rfl, rfl, he⟩ := hrel
              have HE : Hid (trimE (((btL s).drop k).take (e - k)) = W) := he
              clear he
              obtain ⟨j, rfl⟩ : ∃ j, e = j + 1 := ⟨e - 1, by omega⟩
              have hcast : ((j + 1 : Nat) : Int) = (j : Int) + 1 := by omega
              rw [hcast]
              have hjs : j < s.size := by omega
              have hji : (j : Int) < (s.size : Int) := by omega
              have hjk : (k : Int) < (j : Int) + 1 := by omega
              have HTK : Hid (((btL s).drop k).take (j + 1 - k) = ((btL s).drop k).take (j - k) ++ [s[j]]) := take_snoc (by omega) hjs
              clear hcast
              cases hb : (s[j] == 32) with
              | true =>
                have hbi : ((s[j].toNat : Int) == 32) = true := by rw [show (32 : Int) = ((32 : Nat) : Int) from rfl, u8_eq _ 32 (by decide)]; exact hb
                have HE2 : Hid (k + 1 ≤ j ∧ trimE (((btL s).drop k).take (j - k)) = W) := by
                  have hb' := beq_iff_eq.1 hb
                  refine ⟨?_, by rw [← HE.out, HTK.out, hb', trimE_blank]⟩
                  rcases Nat.eq_or_lt_of_le (show k ≤ j by omega) with h | h
                  · subst h
                    exact absurd hb' (sp_ne HS.out)
                  · exact h
                clear hb
                go_wp2
                go_roundw
                case rel => exact ⟨j, HE2.out.1, by omega, by go_num, by trivial, HE2.out.2⟩
                case measure => simp [intOf]
              | false =>
                have hbi : ((s[j].toNat : Int) == 32) = false := by rw [show (32 : Int) = ((32 : Nat) : Int) from rfl, u8_eq _ 32 (by decide)]; exact hb
                have HE2 : Hid (((btL s).drop k).take (j + 1 - k) = W) := by
                  show _ = _
                  rw [← HE.out, HTK.out, trimE_other _ (by simpa using hb)]
                have hsl : ∀ WW : World, (Instr.slice 9 (.string s) (some (.int .i64 (k : Int))) (some (.int .i64 ((j : Int) + 1))) none).run Tryz.prog WW = .ok (.string (wbS W)) WW := fun WW => by
                  have h9 := slice_wb s k (j + 1) (by omega) (by omega) WW
                  rw [HE2.out, show ((j + 1 : Nat) : Int) = (j : Int) + 1 by omega] at h9
                  exact h9
                clear hb
                obtain ⟨i0, hi0, hz0, hz1, hz2⟩ := info_parts strInf
                have hsr := HR.out.b.size
                go_wp2_with (at_builtin; refine wpList_append_lies _ rfl _ _ 41 rfl w.heap.size 9 i0 _ 1 16 Tryz.underlying41 hi0 hz0 hz1 hz2 rfl (by decide) _ _ _ rfl (World.ownsRow.alloc HR.out.ws _) ⟨wr.heap.size, 0, none⟩ 1 1 [.string (wbS W)] rfl rfl (cell_one_new wr _ _) (by intro u hu; simp at hu; subst hu; rfl) (by decide) (by unfold maxLen; omega) (by omega) (by simp; omega) (wr.heap.size + 1) (by simp) ?_)
                intro g2 cap2 w2 hown2 hgrow2 hat2 hlt2
                have hb2 := (HR.out.b.alloc (by omega) (.cells #[.string (wbS W)] 9)).grown hgrow2 (by simp; omega) (fun j hj => (World.ownsRow.lt HR.out.ws j hj).1)
                have HB2 := (show Hid (Below _ _ _) from hb2)
                have HP2 : Hid (w2.ownsRow w.heap.size 3 1 (.slice P dn.length pc) dn.length (numCells (dn.map (·.1)))) := own_two (World.ownsRow.alloc HR.out.ps _) (World.ownsRow.alloc HR.out.ws _) (by decide) hgrow2
                have HW2 := (show Hid (w2.ownsRow _ _ _ _ _ _) from hown2)
                have hs2 := hb2.size
                clear hown2 hgrow2 hb2 hat2 hlt2
                obtain ⟨i1, hi1, hy0, hy1, hy2⟩ := info_parts intInf
                go_wp2_with (at_builtin; refine wpList_append_lies _ rfl _ _ 42 rfl w.heap.size 3 i1 _ 1 8 Tryz.underlying42 hi1 hy0 hy1 hy2 rfl (by decide) _ _ _ rfl (World.ownsRow.alloc HP2.out _) ⟨w2.heap.size, 0, none⟩ 1 1 [.int .i64 (k : Int)] rfl rfl (cell_one_new w2 _ _) (by intro u hu; simp at hu; subst hu; rfl) (by decide) (by unfold maxLen; omega) (by omega) (by simp; omega) (w2.heap.size + 1) (by simp) ?_)
                intro g3 cap3 w3 hown3 hgrow3 hat3 hlt3
                have hb3 := (HB2.out.alloc (by omega) (.cells #[.int .i64 (k : Int)] 3)).grown hgrow3 (by simp; omega) (fun j hj => (World.ownsRow.lt HP2.out j hj).1)
                have hW3 := own_two (World.ownsRow.alloc HW2.out _) (World.ownsRow.alloc HP2.out _) (by decide) hgrow3
                have hN : LexAt s w kk (dn ++ [(k, W)]) (some ⟨g2, 0, none⟩) (some ⟨g3, 0, none⟩) cap2 cap3 w3 := by
                  rw [HKK.out, ← HW.out]
                  refine HR.out.word hlt HS.out HOK.out hb3 ?_ ?_
                  · rw [HW.out]; exact hW3
                  · exact hown3
                have HN : Hid (LexAt s w kk (dn ++ [(k, W)]) (some ⟨g2, 0, none⟩) (some ⟨g3, 0, none⟩) cap2 cap3 w3) := hN
                have HMV : Hid (many ((dn ++ [(k, W)]).map (·.2)) = mm + (if s[k] != 35 then 1 else 0)) := by
                  show _ = _
                  rw [List.map_append]
                  exact HMY.out
                clear hown3 hgrow3 hat3 hlt3 hb3 hW3 hN
                cases hn : (s[k] != 35) with
                | true =>
                  have hni : ((s[k].toNat : Int) != 35) = true := by
                    show (!((s[k].toNat : Int) == 35)) = true
                    rw [show (35 : Int) = ((35 : Nat) : Int) from rfl, u8_eq _ 35 (by decide)]
                    exact hn
                  have HMW : Hid (many ((dn ++ [(k, W)]).map (·.2)) = mm + 1) := by show _ = _; rw [HMV.out, hn]; rfl
                  clear hn
                  go_wp2
                  go_roundw
                  case rel => exact ⟨kk, dn ++ [(k, W)], some ⟨g2, 0, none⟩, some ⟨g3, 0, none⟩, cap2, cap3, by rw [List.length_append]; rfl, by rw [List.length_append]; rfl, by rw [HMW.out]; go_num, by go_num, HN.out⟩
                  case measure => simp [intOf]; omega
                | false =>
                  have hni : ((s[k].toNat : Int) != 35) = false := by
                    show (!((s[k].toNat : Int) == 35)) = false
                    rw [show (35 : Int) = ((35 : Nat) : Int) from rfl, u8_eq _ 35 (by decide)]
                    exact hn
                  have HMW : Hid (many ((dn ++ [(k, W)]).map (·.2)) = mm) := by show _ = _; rw [HMV.out, hn]; rfl
                  clear hn
                  go_wp2
                  go_roundw
                  case rel => exact ⟨kk, dn ++ [(k, W)], some ⟨g2, 0, none⟩, some ⟨g3, 0, none⟩, cap2, cap3, by rw [List.length_append]; rfl, by rw [List.length_append]; rfl, by rw [HMW.out], by go_num, HN.out⟩
                  case measure => simp [intOf]; omega
    · have hki : ¬ (k : Int) < (s.size : Int) := by omega
      have HX : Hid (lxF (btL s) 0 = none ∧ lxW (btL s) 0 = dn) := lexat_end HR.out hlt
      have HL : Hid ((wdsL (btL s)).length = dn.length ∧ many (wdsL (btL s)) = mm) := by
        refine ⟨?_, ?_⟩
        · rw [wdsL, HX.out.2, List.length_map]
        · rw [wdsL, HX.out.2]; exact HMM.out
      by_cases h300 : 300 < mm
      · have hmi : (300 : Int) < (mm : Int) := by omega
        have HF : Hid (lexE (btL s) = 3 ∧ lexK (btL s) = 0) := lexE_many (by rw [btL_len]; exact hsz) HX.out.1 (by rw [HL.out.2]; exact h300)
        go_wp2
        refine bodyPost_ret (v := .tuple #[.slice none 0 0, .slice none 0 0, .int .i64 0, .int .i64 3]) (by simp [results, Tryz.results31, go_sem]) rfl ?_
        exact ⟨.inl ⟨by rw [HF.out.1]; decide, by rw [HF.out.1, HF.out.2]; rfl⟩, HR.out.b⟩
      · have hmi : ¬ (300 : Int) < (mm : Int) := by omega
        have HF : Hid (lexE (btL s) = 0 ∧ lexK (btL s) = 0) := lexE_none (by rw [btL_len]; exact hsz) HX.out.1 (by rw [HL.out.2]; exact h300)
        go_wp2
        refine bodyPost_ret (v := .tuple #[.slice A dn.length ac, .slice P dn.length pc, .int .i64 0, .int .i64 0]) (by simp [results, Tryz.results31, go_sem]) rfl ?_
        refine ⟨.inr ⟨HF.out.1, A, P, ac, pc, by rw [HL.out.1], ?_, ?_⟩, HR.out.b⟩
        · show wr.ownsRow _ _ _ _ _ _
          rw [List.length_map, HL.out.1, wdsL, HX.out.2, List.map_map]
          exact HR.out.ws
        · show wr.ownsRow _ _ _ _ _ _
          rw [← wp_len, HL.out.1, plcL, HX.out.2]
          exact HR.out.ps
end Go.Proofs.YtmbeamcjpidnjaaGreatDoor
namespace Go.Proofs.YtmbeamcjpidnjaaGreatDoor
open Go Go.RowKit

set_option maxRecDepth 100000 in
set_option maxHeartbeats 1000000 in
theorem lexOf_all (s : ByteArray) (w : World) : Calls Tryz.prog 31 #[.string s] w fun e w' => LexRes s w e w' ∧ Below w.heap.size w w' := by
  by_cases h : (btL s).length ≤ 60000
  · exact lexOf_any s w h
  · have HF : Hid (lexE (btL s) = 3 ∧ lexK (btL s) = 0) := lexE_long (by omega)
    have hsz : 60000 < (s.size : Int) := by rw [btL_len] at h; omega
    clear h
    go_enter Tryz.func31, Tryz.ntmps31
    go_wp2
    refine bodyPost_ret (v := .tuple #[.slice none 0 0, .slice none 0 0, .int .i64 0, .int .i64 3]) (by simp [results, Tryz.results31, go_sem]) rfl ?_
    exact ⟨.inl ⟨by rw [HF.out.1]; decide, by rw [HF.out.1, HF.out.2]; rfl⟩, Below.refl _ _⟩

/-- Places as numbers. -/
def plcZ (L : List UInt8) : List Int := (plcL L).map fun (k : Nat) => (k : Int)
def wdsS (L : List UInt8) : List ByteArray := (wdsL L).map wbS
theorem plcZ_len (L : List UInt8) : (plcZ L).length = (wdsL L).length := by rw [plcZ, List.length_map, wp_len]
theorem wdsS_len (L : List UInt8) : (wdsS L).length = (wdsL L).length := by rw [wdsS, List.length_map]
theorem numsO_ints {B : Nat} {w : World} {A : Option Addr} {n c : Nat} {ks : List Nat} (h : NumsO B (.slice A n c) ks w) : Ints w A (ks.map fun (k : Nat) => (k : Int)) := by
  intro j hj
  rw [List.length_map] at hj
  obtain ⟨g, rfl, hg, hc⟩ := numsO_cell h j hj
  exact ⟨g, 0, rfl, hg, by rw [Nat.zero_add, List.getElem_map]; exact hc⟩
theorem own_cap {w : World} {B e n m c : Nat} {A : Option Addr} {xs : List Value} (h : w.ownsRow B e 1 (.slice A m c) n xs) : m = n ∧ m ≤ c ∧ (A = none → m = 0 ∧ c = 0) := by
  rcases h.2 with ⟨hv, h0⟩ | ⟨g, c', cur, hv, _, hg, hnc, _, hsz, htake⟩
  · simp only [Value.slice.injEq] at hv
    obtain ⟨rfl, rfl, rfl⟩ := hv
    exact ⟨h0.symm, Nat.le_refl _, fun _ => ⟨rfl, rfl⟩⟩
  · simp only [Value.slice.injEq] at hv
    obtain ⟨rfl, rfl, rfl⟩ := hv
    exact ⟨rfl, by omega, fun h => by cases h⟩
/-- A row of words, a row of places. -/
structure TwoR (L : List UInt8) (A P : Option Addr) (ac pc : Nat) (w : World) : Prop where
  ws : Wds w A (wdsS L)
  ps : Ints w P (plcZ L)
  wl : (wdsL L).length ≤ ac
  pl : (wdsL L).length ≤ pc
  wn : A = none → (wdsL L).length = 0 ∧ ac = 0
  pn : P = none → (wdsL L).length = 0 ∧ pc = 0
theorem TwoR.below {L : List UInt8} {A P : Option Addr} {ac pc : Nat} {w w' : World} (h : TwoR L A P ac pc w) (hb : Below w.heap.size w w') : TwoR L A P ac pc w' :=
  { ws := h.ws.below hb, ps := h.ps.below hb, wl := h.wl, pl := h.pl, wn := h.wn, pn := h.pn }
theorem twoR_of {L : List UInt8} {B : Nat} {A P : Option Addr} {ac pc : Nat} {w : World} (h1 : StrsO B (.slice A (wdsL L).length ac) ((wdsL L).map wbS) w) (h2 : NumsO B (.slice P (wdsL L).length pc) (plcL L) w) : TwoR L A P ac pc w := by
  obtain ⟨_, a2, a3⟩ := own_cap h1
  obtain ⟨_, b2, b3⟩ := own_cap h2
  exact { ws := strsO_wds h1, ps := numsO_ints h2, wl := a2, pl := b2, wn := a3, pn := b3 }
theorem lex_few {L : List UInt8} (h : lexE L = 0) : (wdsL L).length ≤ 60000 := Nat.le_trans (wds_count L) (lexE_zero h).1
/-- What Words hands back. -/
def WordsRes (s : ByteArray) (e : Ending) (w' : World) : Prop :=
  (lexE (btL s) ≠ 0 ∧ e = .returned (.tuple #[.slice none 0 0, .slice none 0 0, .int .i64 ((lexK (btL s) : Nat) : Int), errN (lexE (btL s))])) ∨
  (lexE (btL s) = 0 ∧ ∃ A P ac pc, e = .returned (.tuple #[.slice A (wdsL (btL s)).length ac, .slice P (wdsL (btL s)).length pc, .int .i64 0, .nilIface]) ∧ TwoR (btL s) A P ac pc w')
end Go.Proofs.YtmbeamcjpidnjaaGreatDoor
