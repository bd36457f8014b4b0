/- The walk of the law WayParts: so much deeper. (Made by tools/gen_wayparts.py.) -/
import Derived.Test.YtnfhiiefdmjdbaaLawWayParts2
import Derived.Laws.Strings2
namespace Go.Proofs.Ytnfhiiefdmjdbaa
open Go Go.RowKit

theorem extract1 (s : ByteArray) (k : Nat) (hk : k < s.size) : s.extract k (k + 1) = ⟨#[s[k]]⟩ := by
  apply bytes_inj
  have e : (s.extract k (k + 1)).data = s.data.extract k (k + 1) := ByteArray.data_extract
  rw [e]
  have h1 : s[k] = s.data[k] := rfl
  rw [h1]
  apply List.ext_getElem?
  intro i
  have hs : s.data.size = s.size := rfl
  cases i with
  | zero => simp [hk]
  | succ i => simp; omega
theorem sliceRun (s : ByteArray) (k : Nat) (hk : k < s.size) (W : World) : (Instr.slice 9 (.string s) (some (.int .i64 (k : Int))) (some (.int .i64 ((k : Int) + 1))) none).run Try.prog W = .ok (.string ⟨#[s[k]]⟩) W := by
  have h := run_slice_string (P := Try.prog) (w := W) 9 s .i64 .i64 (k : Int) ((k : Int) + 1) Try.underlying9 (by omega) (by omega) (by omega)
  have e : ((k : Int) + 1).toNat = k + 1 := by omega
  rw [Int.toNat_natCast, e, extract1 s k hk] at h
  exact h
theorem indent_step {n : Nat} {u : List UInt8} {k j : Nat} {c : UInt8} (hk : u[k]? = some c) (h1 : c.toNat = 10 → j = n) (h2 : c.toNat ≠ 10 → j = 0) : indent n (u.take k) ++ c :: List.replicate j 32 = indent n (u.take (k + 1)) := by
  have e : u.take (k + 1) = u.take k ++ [c] := by rw [List.take_add_one, hk]; rfl
  rw [e, indent_app]
  congr 1
  by_cases h : c = 10
  · subst h
    rw [h1 rfl]
    simp [indent]
  · rw [h2 (fun h' => h (UInt8.toNat_inj.1 h'))]
    simp [indent, h]
theorem indent_len (n : Nat) : ∀ l : List UInt8, (indent n l).length ≤ (n + 1) * l.length
  | [] => by simp [indent]
  | c :: l => by
    have := indent_len n l
    have e : indent n (c :: l) = (if c = 10 then 10 :: List.replicate n 32 else [c]) ++ indent n l := by simp [indent]
    rw [e, List.length_append, List.length_cons, Nat.mul_add]
    split
    · simp; omega
    · simp; omega
theorem indent_size {n : Int} {u : List UInt8} {k : Nat} {t : ByteArray} (h0 : 0 ≤ n) (h8 : n ≤ 8) (hu : u.length ≤ 1600000) (h : t.data.toList = indent n.toNat (u.take k)) : t.size ≤ 14400000 := by
  rw [← size_list, h]
  have h1 := indent_len n.toNat (u.take k)
  have h2 : (u.take k).length ≤ 1600000 := by rw [List.length_take]; omega
  have h3 : n.toNat + 1 ≤ 9 := by omega
  have h4 : (n.toNat + 1) * (u.take k).length ≤ 9 * 1600000 := Nat.mul_le_mul h3 h2
  omega

set_option maxRecDepth 100000 in
set_option maxHeartbeats 4000000 in
theorem wayParts_e (ds es : List Nd) (ws vs : List Int) (a o wa va : Option Addr) (cap cap2 wc vc : Nat) (hc : ds.length ≤ cap) (hc2 : es.length ≤ cap2) (hwc : ws.length ≤ wc) (hvc : vs.length ≤ vc) (hlw : ws.length ≤ 9223372036854775807) (hlv : vs.length ≤ 9223372036854775807) (hle : (es.length : Int) ≤ 140737488355328) (n : Int) (w : World) (hN : Nods w a ds) (hM : Nods w o es) (hI : Ints w wa ws) (hJ : Ints w va vs) (u : List UInt8) (h : showD ds ws = .ok u) (hl : ds.length + es.length < 400) (er : Int) (h2 : showD es vs = .error er) (hn : ¬ n < 0) (hn2 : ¬ 8 < n) :
    Calls Try.prog 6 #[.slice a ds.length cap, .slice wa ws.length wc, .slice o es.length cap2, .slice va vs.length vc, .int .i64 n] w fun e w' => e = .returned (.bool true) ∧ Below w.heap.size w w' := by
  have HN : Hid (Nods w a ds) := hN
  have HM : Hid (Nods w o es) := hM
  have HI : Hid (Ints w wa ws) := hI
  have HJ : Hid (Ints w va vs) := hJ
  clear hN hM hI hJ
  have HR : Hid (showD ds ws = .ok u) := h
  have HRS : Hid (shS (showD ds ws) = ⟨u.toArray⟩ ∧ shE (showD ds ws) = 0) := ⟨by rw [h]; rfl, by rw [h]; rfl⟩
  obtain ⟨hu, hw4⟩ := showD_len h
  have hus : (⟨u.toArray⟩ : ByteArray).size ≤ 1600000 := by rw [← size_list]; simpa using hu
  have hd4 : ds.length ≤ 400 := (showD_ok h).2.1
  generalize hsx : (⟨u.toArray⟩ : ByteArray) = sx at HRS hus
  have HSX : Hid ((⟨u.toArray⟩ : ByteArray) = sx) := hsx
  clear h hsx
  have hl' : ¬ 400 ≤ (ds.length : Int) + es.length := by omega
  have HE : Hid (shS (showD es vs) = ⟨#[]⟩ ∧ shE (showD es vs) = er ∧ er ≠ 0) := ⟨by rw [h2]; rfl, by rw [h2]; rfl, showD_err h2⟩
  clear h2
  have qr := showD_deep HR.out (by omega : 0 ≤ n) (by omega : n ≤ 8) (by omega)
  have HD' : Hid (ds ≠ []) := (show ds ≠ [] from fun hh => by obtain ⟨_, _, t, _, e, _⟩ := showD_ok HR.out; have := t.pos; rw [← e, hh] at this; cases this)
  generalize hg2 : (⟨7, ⟨#[]⟩, n⟩ :: ds : List Nd) = rs at qr
  have HRG : Hid ((⟨7, ⟨#[]⟩, n⟩ :: ds : List Nd) = rs) := hg2
  have HRL : Hid (rs.length = 1 + ds.length) := (show _ = _ by rw [← hg2]; simp; omega)
  have HRQ : Hid (shS (showD rs ws) = ⟨(indent n.toNat u).toArray⟩ ∧ shE (showD rs ws) = 0) := ⟨by rw [qr]; rfl, by rw [qr]; rfl⟩
  have HUL : Hid (u.length = sx.size) := (show _ = _ by rw [← HSX.out, ← size_list])
  have HUK : Hid (∀ k (h : k < sx.size), u[k]? = some sx[k]) := fun k h => by
    have e : u = sx.data.toList := by rw [← HSX.out]
    have h1 : sx[k] = sx.data[k] := rfl
    rw [e, h1]
    simp
  obtain ⟨bd, od, rfl, hbd⟩ := nods_ne HN.out HD'.out
  obtain ⟨i0, hi, hz0, hz1, hz2⟩ := info_parts ndInfo
  clear hg2 qr
  go_enter Try.func6, Try.ntmps6
  go_wp2_with fail
  refine (fact_show w).mono ?_
  rintro e w1 ⟨rfl, b1⟩
  go_wp2_with fail
  refine (wshow_any ds ws (some ⟨bd, od, none⟩) wa cap wc hc hwc hlw _ (HN.out.below b1) (HI.out.below b1)).mono ?_
  rintro e w2 ⟨rfl, b2⟩
  have B2 := belowT b1 (Nat.le_refl _) b2
  clear b1 b2
  rw [HRS.out.1, HRS.out.2, errN_0]
  go_wp2_with fail
  refine (wshow_any es vs o va cap2 vc hc2 hvc hlv _ (HM.out.below B2) (HJ.out.below B2)).mono ?_
  rintro e w3 ⟨rfl, b3⟩
  have B3 := belowT B2 (Nat.le_refl _) b3
  clear B2 b3
  rw [HE.out.1, HE.out.2.1, errN_ne HE.out.2.2]
  have HOg : Hid ((w3.alloc (.cells #[.int .i64 7, .string ⟨#[]⟩, .int .i64 n] 37)).ownsRow w3.heap.size 37 3 (.slice (some ⟨w3.heap.size, 0, none⟩) 1 1) 1 (ndCells [⟨7, ⟨#[]⟩, n⟩])) :=
    ⟨rfl, .inr ⟨w3.heap.size, 1, #[.int .i64 7, .string ⟨#[]⟩, .int .i64 n], rfl, Nat.le_refl _, heap_alloc_new w3 _, Nat.le_refl _, by unfold maxLen; decide, rfl, rfl⟩⟩
  go_wp2_with (at_builtin; refine wpList_append_own _ rfl _ _ 32 rfl w3.heap.size 37 i0 _ 3 32 Try.underlying32 hi hz0 hz1 hz2 rfl (by decide) _ _ _ rfl HOg.out ⟨bd, od, none⟩ ds.length cap (ndCells ds) rfl (ndCells_len ds) ?c1 (ndCells_one ds) ?c3 ?c4 ?c5 ?_)
  case c1 => exact nods_news ((HN.out.below B3).alloc _)
  case c3 => unfold maxLen; omega
  case c4 => omega
  case c5 => simp
  intro v8 w8 hown8 hgrow8 _
  have HB8 : Hid (Below w.heap.size w w8) := by
    have h1 : Below w3.heap.size w3 w8 := ((Below.refl _ w3).alloc (Nat.le_refl _) _).grown hgrow8 (by simp) (fun k hk => by simp only [Value.ownBlock, Option.some.injEq] at hk; omega)
    exact belowT B3 (Nat.le_refl _) h1
  obtain ⟨a8, c8, rfl⟩ : ∃ a8 c8, v8 = .slice a8 rs.length c8 := by
    rcases hown8.2 with ⟨_, h0⟩ | ⟨g, c, cur, hv, _⟩
    · omega
    · exact ⟨_, c, by rw [hv, HRL.out]⟩
  have HO8 : Hid (w8.ownsRow w3.heap.size 37 3 (.slice a8 rs.length c8) rs.length (ndCells rs)) := by
    have e2 : ndCells rs = ndCells [⟨7, ⟨#[]⟩, n⟩] ++ ndCells ds := by rw [← ndCells_app, ← HRG.out]; rfl
    show w8.ownsRow _ _ _ _ _ _
    rw [e2]
    have := hown8
    rw [← HRL.out] at this
    exact this
  clear hown8 hgrow8 HOg B3
  obtain ⟨_, r2, r3⟩ := own_nods HO8.out
  have HN8 : Hid (Nods w8 a8 rs) := r3
  have hrl : ¬ 400 < (rs.length : Int) := by have := HRL.out; omega
  clear r3
  go_wp2
  go_loopw [21, 22] (fun s21 i wr => wr = w8 ∧ ∃ (k : Nat) (t : ByteArray), k ≤ sx.size ∧ i = .int .i64 k ∧ s21 = .string t ∧ t.data.toList = indent n.toNat (u.take k)) (fun _ i _ => sx.size - (intOf i).toNat)
  case atStart => exact ⟨rfl, 0, ⟨#[]⟩, Nat.zero_le _, rfl, rfl, rfl⟩
  case round =>
    obtain ⟨rfl, k, t, hk, rfl, rfl, ht⟩ := hrel
    have hts : t.size ≤ 14400000 := indent_size (by omega) (by omega) hu ht
    have HT : Hid (t.data.toList = indent n.toNat (u.take k)) := ht
    clear ht
    by_cases hlt : k < sx.size
    · have hk1 : (k : Int) + 1 ≤ (sx.size : Int) := by omega
      have hrun := sliceRun sx k hlt wr
      go_wp2
      go_loopw [21, 23] (fun s21 q wq => wq = wr ∧ ∃ (j : Nat) (t' : ByteArray), (j : Int) ≤ n ∧ q = .int .i64 j ∧ s21 = .string t' ∧ t'.data.toList = t.data.toList ++ sx[k] :: List.replicate j 32 ∧ (sx[k].toNat = 10 ∨ j = 0)) (fun _ q _ => (n - intOf q).toNat)
      case atStart => exact ⟨rfl, 0, _, by omega, rfl, rfl, by simp, .inr rfl⟩
      case round =>
        obtain ⟨rfl, j, t', hj, rfl, rfl, ht', hcj⟩ := hrel
        have hts' : t'.size ≤ 14400020 := by
          rw [← size_list, ht', List.length_append, List.length_cons, List.length_replicate, size_list]
          omega
        have HT' : Hid (t'.data.toList = t.data.toList ++ sx[k] :: List.replicate j 32) := ht'
        have HCJ : Hid (sx[k].toNat = 10 ∨ j = 0) := hcj
        clear ht' hcj
        by_cases h10 : sx[k].toNat = 10
        · have hb : ((sx[k].toNat : Int) == 10) = true := by rw [h10]; rfl
          have H10 : Hid (sx[k].toNat = 10) := h10
          clear h10
          by_cases hjn : (j : Int) < n
          · go_wp2
            go_roundw
            case rel =>
              refine ⟨by trivial, j + 1, _, by omega, by go_num, rfl, ?_, .inl H10.out⟩
              simp [HT'.out, List.replicate_succ']
            case measure => simp [intOf]; omega
          · have hdj : decide ((j : Int) < n) = false := decide_eq_false hjn
            go_wp2
            go_roundw
            case rel =>
              refine ⟨by trivial, k + 1, t', by omega, by go_num, rfl, ?_⟩
              rw [HT'.out, HT.out]
              exact indent_step (HUK.out k hlt) (fun _ => by omega) (fun h => absurd H10.out h)
            case measure => simp [intOf]; omega
        · have hb : ((sx[k].toNat : Int) == 10) = false := beq_eq_false_iff_ne.2 (by omega)
          have H10 : Hid (¬ sx[k].toNat = 10) := h10
          have hj0 : j = 0 := by rcases HCJ.out with h | h; exact absurd h h10; exact h
          subst hj0
          clear h10
          by_cases hjn : ((0 : Nat) : Int) < n
          · go_wp2
            go_roundw
            case rel =>
              refine ⟨by trivial, k + 1, t', by omega, by go_num, rfl, ?_⟩
              rw [HT'.out, HT.out]
              exact indent_step (HUK.out k hlt) (fun h => absurd h H10.out) (fun _ => rfl)
            case measure => simp [intOf]; omega
          · have hn0 : n = 0 := by omega
            subst hn0
            go_wp2
            go_roundw
            case rel =>
              refine ⟨by trivial, k + 1, t', by omega, by go_num, rfl, ?_⟩
              rw [HT'.out, HT.out]
              exact indent_step (HUK.out k hlt) (fun h => absurd h H10.out) (fun _ => rfl)
            case measure => simp [intOf]; omega
    · have ht : t = ⟨(indent n.toNat u).toArray⟩ := bytes_inj (by
        rw [HT.out, List.take_of_length_le]
        have := HUL.out
        omega)
      subst ht
      go_wp2_with fail
      refine (wshow_any rs ws a8 wa c8 wc r2 hwc hlw _ HN8.out (HI.out.below HB8.out)).mono ?_
      rintro e w9 ⟨rfl, b9⟩
      rw [HRQ.out.1, HRQ.out.2, errN_0]
      go_wp2
      go_ret
      exact ⟨rfl, belowT HB8.out (Nat.le_refl _) b9⟩
end Go.Proofs.Ytnfhiiefdmjdbaa
