/- Some texts as one: AppT, RdA, RdB, RdL, RdT. -/
import Derived.Test.YtmbeamcjpidnjaaGreatDoorMems
import Derived.OwnWalk
import Derived.Test.YtmbeamcjpidnjaaGreatDoorSynPs
import Derived.BigQuiet
import Derived.Deep.QuietTactic
import Derived.Test.YtmbeamcjpidnjaaGreatDoorTreRs
import Derived.Laws.Strings2
namespace Go.Proofs.YtmbeamcjpidnjaaGreatDoor
open Go Go.RowKit
set_option maxRecDepth 100000

/-- Statements' cells. -/
def tdCells (ds : List Td) : List Value := ds.flatMap fun x => [.int .i64 x.op, .string x.tx, .int .i64 x.n]
theorem tdCells_len : ∀ ds : List Td, (tdCells ds).length = ds.length * 3
  | [] => rfl
  | x :: r => by
    have := tdCells_len r
    unfold tdCells at this ⊢
    rw [List.flatMap_cons, List.length_append, this, List.length_cons]
    simp
    omega
theorem tdCells_app (a b : List Td) : tdCells (a ++ b) = tdCells a ++ tdCells b := by simp [tdCells, List.flatMap_append]
theorem tdCells_at : ∀ (ds : List Td) (i : Nat) (h : i < ds.length), (tdCells ds)[i * 3]? = some (.int .i64 ds[i].op) ∧ (tdCells ds)[i * 3 + 1]? = some (.string ds[i].tx) ∧ (tdCells ds)[i * 3 + 2]? = some (.int .i64 ds[i].n)
  | x :: r, 0, _ => by simp [tdCells]
  | x :: r, i + 1, h => by
    have h1 := tdCells_at r i (by simpa using h)
    have e : tdCells (x :: r) = .int .i64 x.op :: .string x.tx :: .int .i64 x.n :: tdCells r := by simp [tdCells]
    rw [e, show (i + 1) * 3 = i * 3 + 1 + 1 + 1 by omega]
    exact h1
theorem tdCells_one (ds : List Td) : ∀ u ∈ tdCells ds, u.oneCell' = true := by
  intro u hu
  obtain ⟨x, _, hx⟩ := List.mem_flatMap.1 hu
  simp at hx
  rcases hx with rfl | rfl | rfl <;> rfl
/-- A place of the cells is a node's field. -/
theorem tdCells_get (ds : List Td) (j : Nat) (u : Value) (h : (tdCells ds)[j]? = some u) : ∃ i, ∃ hi : i < ds.length, (j = i * 3 ∧ u = .int .i64 ds[i].op) ∨ (j = i * 3 + 1 ∧ u = .string ds[i].tx) ∨ (j = i * 3 + 2 ∧ u = .int .i64 ds[i].n) := by
  have hj : j < ds.length * 3 := by rw [← tdCells_len]; exact (List.getElem?_eq_some_iff.1 h).1
  have hi : j / 3 < ds.length := by omega
  obtain ⟨h0, h1, h2⟩ := tdCells_at ds (j / 3) hi
  refine ⟨j / 3, hi, ?_⟩
  have h3 : j = j / 3 * 3 ∨ j = j / 3 * 3 + 1 ∨ j = j / 3 * 3 + 2 := by omega
  rcases h3 with e | e | e
  · rw [← e, h] at h0; exact .inl ⟨e, Option.some.inj h0⟩
  · rw [← e, h] at h1; exact .inr (.inl ⟨e, Option.some.inj h1⟩)
  · rw [← e, h] at h2; exact .inr (.inr ⟨e, Option.some.inj h2⟩)

theorem tdInfo : (Tryz.prog.info? 39).map (fun i => (i.zero, i.size, i.bytes)) = some (some (.agg #[.int .i64 0, .string ⟨#[]⟩, .int .i64 0]), 3, 32) := by kernel_rfl

/-- What the call owns is nodes in memory. -/
theorem own_tds {B : Nat} {w : World} {a : Option Addr} {n cap : Nat} {ds : List Td} (h : w.ownsRow B 39 3 (.slice a n cap) ds.length (tdCells ds)) : n = ds.length ∧ ds.length ≤ cap ∧ Tds w a ds := by
  rcases h.2 with ⟨hv, h0⟩ | ⟨g, c, cur, hv, _, hg, hnc, _, hsz, htake⟩
  · simp only [Value.slice.injEq] at hv
    obtain ⟨rfl, rfl, rfl⟩ := hv
    refine ⟨h0.symm, by omega, fun i hi => ?_⟩
    omega
  · simp only [Value.slice.injEq] at hv
    obtain ⟨rfl, rfl, rfl⟩ := hv
    refine ⟨rfl, hnc, fun i hi => ?_⟩
    have hlt : g < w.heap.size := by
      rcases Nat.lt_or_ge g w.heap.size with h' | h'
      · exact h'
      · simp [Array.getElem?_eq_none h'] at hg
    have hcell : ∀ k u, (tdCells ds)[k]? = some u → w.cell? ⟨g, k, none⟩ = some u := by
      intro k u hk
      rw [← htake] at hk
      have hk2 : k < ds.length * 3 := by
        have := (List.getElem?_eq_some_iff.1 hk).1
        simp at this
        omega
      rw [List.getElem?_take_of_lt hk2] at hk
      simp only [World.cell?, hg]
      simpa using hk
    obtain ⟨h0, h1, h2⟩ := tdCells_at ds i hi
    refine ⟨g, 0, rfl, hlt, ?_, ?_, ?_⟩
    · rw [Nat.zero_add]; exact hcell _ _ h0
    · rw [Nat.zero_add]; exact hcell _ _ h1
    · rw [Nat.zero_add]; exact hcell _ _ h2
/-- The cells that are appended. -/
theorem tds_news {w : World} {b o : Nat} {ds : List Td} (h : Tds w (some ⟨b, o, none⟩) ds) : ∀ j u, (tdCells ds)[j]? = some u → w.cell? ((⟨b, o, none⟩ : Addr).add j) = some u := by
  intro j u hj
  obtain ⟨i, hi, hc⟩ := tdCells_get ds j u hj
  obtain ⟨b', o', e, _, c1, c2, c3⟩ := h i hi
  simp only [Option.some.injEq, Addr.mk.injEq, and_true] at e
  obtain ⟨rfl, rfl⟩ := e
  have ha : ∀ k, (⟨b, o, none⟩ : Addr).add k = ⟨b, o + k, none⟩ := by
    intro k
    unfold Addr.add
    split
    · rename_i h; subst h; rfl
    · rfl
  rw [ha]
  rcases hc with ⟨rfl, rfl⟩ | ⟨rfl, rfl⟩ | ⟨rfl, rfl⟩
  · exact c1
  · rw [show o + (i * 3 + 1) = o + i * 3 + 1 by omega]; exact c2
  · rw [show o + (i * 3 + 2) = o + i * 3 + 2 by omega]; exact c3

/-- Nodes that a call has gathered in a row of its own. -/
def TdsO (B : Nat) (v : Value) (xs : List Td) (w : World) : Prop := w.ownsRow B 39 3 v xs.length (tdCells xs)
theorem TdsO.tds {B : Nat} {w : World} {A : Option Addr} {n c : Nat} {xs : List Td} (h : TdsO B (.slice A n c) xs w) : Tds w A xs := (own_tds h).2.2
theorem TdsO.none {B : Nat} {w : World} {A : Option Addr} {n c : Nat} {xs : List Td} (h : TdsO B (.slice A n c) xs w) : n = xs.length ∧ (A = none → n = 0 ∧ c = 0) := by
  rcases h.2 with ⟨hv, h0⟩ | ⟨g, c', cur, hv, _⟩
  · simp only [Value.slice.injEq] at hv
    obtain ⟨rfl, rfl, rfl⟩ := hv
    exact ⟨h0.symm, fun _ => ⟨rfl, rfl⟩⟩
  · simp only [Value.slice.injEq] at hv
    obtain ⟨rfl, rfl, rfl⟩ := hv
    exact ⟨rfl, fun e => by cases e⟩
theorem app_tds {w : World} {ops : Array Oper} {rest : List Oper} {o : Oper} {a : Act} {Q : Exit → Act → World → Prop} (hgd : o.guard = none) (s x : Operand)
    (ho : o.op = .call { callee := .builtin .append, args := #[s, x], argTypes := #[40, 40] })
    (base : Nat) (v : Value) (xs : List Td) (hs : a.eval s = v) (hown : TdsO base v xs w)
    (wa : Option Addr) (n : Nat) (ws : List Td) (hn : ws.length = n) (wc : Nat) (hx : a.eval x = .slice wa n wc) (hW : Tds w wa ws) (hnil : wa = none → n = 0 ∧ wc = 0)
    (m : Nat) (hm : xs.length + n = m) (hb : m ≤ 1000000) (hbase : base ≤ w.heap.size)
    (h : ∀ A c w', TdsO base (.slice A m c) (xs ++ ws) w' → w.grownBy w' v.ownBlock → wpList Tryz.prog ops Q rest (a.put o.dst (.slice A m c)) w') : wpList Tryz.prog ops Q (o :: rest) a w := by
  subst hn hm
  obtain ⟨i0, hi, hz0, hz1, hz2⟩ := info_parts tdInfo
  have h' : ∀ v' w', TdsO base v' (xs ++ ws) w' → w.grownBy w' v.ownBlock → wpList Tryz.prog ops Q rest (a.put o.dst v') w' := by
    intro v' w' h1 h2
    obtain ⟨A, c, rfl⟩ : ∃ A c, v' = .slice A (xs.length + ws.length) c := by
      rcases h1.2 with ⟨hv, h0⟩ | ⟨g, c, cur, hv, _⟩
      · rw [List.length_append] at h0; exact ⟨.none, 0, by rw [hv, h0]⟩
      · rw [List.length_append] at hv; exact ⟨_, c, hv⟩
    exact h A c w' h1 h2
  cases wa with
  | none =>
    obtain ⟨h0, rfl⟩ := hnil rfl
    obtain rfl : ws = [] := List.eq_nil_of_length_eq_zero h0
    refine wpList_append_own_none hgd s x 40 ho base 39 i0 3 Tryz.underlying40 hi v xs.length (tdCells xs) hs hown hx ?_
    refine h' v w ?_ ⟨rfl, rfl, rfl, Nat.le_refl _, fun _ _ _ => rfl⟩
    rw [List.append_nil]
    exact hown
  | some ad =>
    have hsp : ws = [] ∨ ∃ b o, ad = ⟨b, o, Option.none⟩ := by
      rcases Nat.eq_zero_or_pos ws.length with h0 | h0
      · exact .inl (List.eq_nil_of_length_eq_zero h0)
      · obtain ⟨b, o, e, _⟩ := hW 0 h0
        exact .inr ⟨b, o, by simpa using e⟩
    refine wpList_append_own w hgd s x 40 ho base 39 i0 _ 3 32 Tryz.underlying40 hi hz0 hz1 hz2 rfl (by decide) v xs.length (tdCells xs) hs hown ad ws.length wc (tdCells ws) hx (tdCells_len ws) ?_ (tdCells_one ws) (by unfold maxLen; omega) (by omega) hbase ?_
    · rcases hsp with rfl | ⟨b, o, rfl⟩
      · intro j u hj; simp [tdCells] at hj
      · exact tds_news hW
    · intro v' w' h1 h2 _
      rw [← tdCells_app] at h1
      refine h' v' w' ?_ h2
      show w'.ownsRow _ _ _ _ _ _
      rw [List.length_append]
      exact h1
theorem TdsO.down {B B' : Nat} {v : Value} {xs : List Td} {w : World} (h : TdsO B v xs w) (hB : B' ≤ B) : TdsO B' v xs w := by
  refine ⟨h.1, ?_⟩
  rcases h.2 with h0 | ⟨g, c, cur, hv, hg, rest⟩
  · exact .inl h0
  · exact .inr ⟨g, c, cur, hv, by omega, rest⟩
theorem TdsO.kept {B : Nat} {v : Value} {xs : List Td} {w w' : World} (h : TdsO B v xs w) (hk : ∀ g, B ≤ g → g < w.heap.size → w'.heap[g]? = w.heap[g]?) : TdsO B v xs w' := by
  refine ⟨h.1, ?_⟩
  rcases h.2 with h0 | ⟨g, c, cur, hv, hB, hg, rest⟩
  · exact .inl h0
  · exact .inr ⟨g, c, cur, hv, hB, (hk g hB (Array.getElem?_eq_some_iff.1 hg).1).trans hg, rest⟩
/-- A row of one node. -/
theorem TdsO.one (w : World) (x : Td) : TdsO w.heap.size (.slice (some ⟨w.heap.size, 0, Option.none⟩) 1 1) [x] (w.alloc (.cells #[.int .i64 x.op, .string x.tx, .int .i64 x.n] 39)) := by
  have h1 : (w.alloc (.cells #[.int .i64 x.op, .string x.tx, .int .i64 x.n] 39)).heap[w.heap.size]? = some (.cells #[.int .i64 x.op, .string x.tx, .int .i64 x.n] 39 (0, 0)) := by
    show (w.heap.push _)[w.heap.size]? = _
    simp
  exact ⟨rfl, .inr ⟨w.heap.size, 1, _, rfl, Nat.le_refl _, h1, Nat.le_refl _, by unfold maxLen; decide, rfl, rfl⟩⟩
end Go.Proofs.YtmbeamcjpidnjaaGreatDoor
namespace Go.Proofs.YtmbeamcjpidnjaaGreatDoor
open Go Go.RowKit

/-- A reader in memory: its words, where it is, whether it has failed. -/
structure Rd (w : World) (b : Nat) (A : Option Addr) (c : Nat) (ws : List Wd) (at_ : Nat) (bad : Bool) : Prop where
  c0 : w.cell? ⟨b, 0, none⟩ = some (.slice A ws.length c)
  c1 : w.cell? ⟨b, 1, none⟩ = some (.int .i64 (at_ : Int))
  c2 : w.cell? ⟨b, 2, none⟩ = some (.bool bad)
  row : RowN w b 3
  wd : Wds w A (ws.map wbS)
  lt : ∀ ba oa, A = some ⟨ba, oa, none⟩ → ba < b
theorem wds_set {w : World} {A : Option Addr} {xs : List ByteArray} (h : Wds w A xs) {b k : Nat} {v : Value} (lt : ∀ ba oa, A = some ⟨ba, oa, none⟩ → ba < b) : Wds (w.setCell ⟨b, k, none⟩ v) A xs := by
  intro i hi
  obtain ⟨ba, oa, e, hlt, c1⟩ := h i hi
  exact ⟨ba, oa, e, by rw [World.size_setCell]; exact hlt, by rw [cso (.inl (by have := lt ba oa e; omega))]; exact c1⟩
theorem Rd.keepB {w w' : World} {b B : Nat} {A : Option Addr} {c : Nat} {ws : List Wd} {at_ : Nat} {bad : Bool} (h : Rd w b A c ws at_ bad) (hb : Below B w w') (hB : b < B) : Rd w' b A c ws at_ bad := by
  refine ⟨(hb.cell (p := ⟨b, 0, none⟩) hB).trans h.c0, (hb.cell (p := ⟨b, 1, none⟩) hB).trans h.c1, (hb.cell (p := ⟨b, 2, none⟩) hB).trans h.c2, h.row.kept (hb.block b hB), ?_, h.lt⟩
  intro i hi
  obtain ⟨ba, oa, e, hlt, c1⟩ := h.wd i hi
  have := h.lt ba oa e
  exact ⟨ba, oa, e, Nat.lt_of_lt_of_le hlt hb.size, (hb.cell (p := ⟨ba, _, none⟩) (by show ba < B; omega)).trans c1⟩
theorem Rd.keep {w w' : World} {b : Nat} {A : Option Addr} {c : Nat} {ws : List Wd} {at_ : Nat} {bad : Bool} (h : Rd w b A c ws at_ bad) (hb : Below w.heap.size w w') : Rd w' b A c ws at_ bad := h.keepB hb h.row.lt
theorem Rd.setAt {w : World} {b : Nat} {A : Option Addr} {c : Nat} {ws : List Wd} {at_ : Nat} {bad : Bool} (h : Rd w b A c ws at_ bad) (n : Nat) : Rd (w.setCell ⟨b, 1, none⟩ (.int .i64 (n : Int))) b A c ws n bad :=
  ⟨(cso (.inr (by omega))).trans h.c0, css h.c1, (cso (.inr (by omega))).trans h.c2, h.row.set, wds_set h.wd h.lt, h.lt⟩
theorem Rd.setBad {w : World} {b : Nat} {A : Option Addr} {c : Nat} {ws : List Wd} {at_ : Nat} {bad : Bool} (h : Rd w b A c ws at_ bad) (n : Bool) : Rd (w.setCell ⟨b, 2, none⟩ (.bool n)) b A c ws at_ n :=
  ⟨(cso (.inr (by omega))).trans h.c0, (cso (.inr (by omega))).trans h.c1, css h.c2, h.row.set, wds_set h.wd h.lt, h.lt⟩
theorem wbS_inj (a b : Wd) : ((wbS a).toList == (wbS b).toList) = (a == b) := by
  rw [Lib.toList_data, Lib.toList_data]; rfl
set_option maxRecDepth 100000 in
set_option maxHeartbeats 1000000 in
theorem ris_any {w : World} {b : Nat} {A : Option Addr} {c : Nat} {ws : List Wd} {at_ : Nat} {bad : Bool} (h : Rd w b A c ws at_ bad) (s : Wd) :
    Calls Tryz.prog 32 #[.pointer (some ⟨b, 0, none⟩), .string (wbS s)] w fun e w' => e = .returned (.bool (!bad && (ws[at_]? == some s))) ∧ ∃ q, w' = w.drewN q := by
  obtain ⟨c0, c1, c2, _, hw, _⟩ := h
  cases bad with
  | true =>
    generalize wbS s = S
    go_enter Tryz.func32, Tryz.ntmps32
    go_wp2_with fail
    go_quiet (fail)
    go_wp2
    go_ret
    exact ⟨rfl, _, rfl⟩
  | false =>
    by_cases hlt : at_ < ws.length
    · obtain ⟨ba, oa, rfl, hba, d0⟩ := hw at_ (by rw [List.length_map]; exact hlt)
      rw [List.getElem_map] at d0
      have hai : (at_ : Int) < (ws.length : Int) := by omega
      have HE : Hid (((wbS ws[at_]).toList == (wbS s).toList) = (!false && (ws[at_]? == some s))) := by
        show _ = _
        rw [wbS_inj, List.getElem?_eq_getElem hlt]; rfl
      generalize (!false && (ws[at_]? == some s)) = R at HE ⊢
      generalize wbS s = S at HE ⊢
      generalize wbS ws[at_] = X at HE d0
      clear hw
      go_enter Tryz.func32, Tryz.ntmps32
      go_wp2_with fail
      go_quiet (fail)
      go_wp2
      go_ret
      exact ⟨by rw [← HE.out]; rfl, _, rfl⟩
    · have hai : ¬ (at_ : Int) < (ws.length : Int) := by omega
      have HE : Hid ((!false && (ws[at_]? == some s)) = false) := by
        show _ = _
        rw [List.getElem?_eq_none (by omega)]; rfl
      generalize (!false && (ws[at_]? == some s)) = R at HE ⊢
      generalize wbS s = S
      clear hw
      go_enter Tryz.func32, Tryz.ntmps32
      go_wp2_with fail
      go_quiet (fail)
      go_wp2
      go_ret
      exact ⟨by rw [HE.out]; rfl, _, rfl⟩
/-- What is wanted: where the reader is behind it, whether it has failed. -/
def wantAt (ws : List Wd) (at_ : Nat) (bad : Bool) (s : Wd) : Nat := if (!bad && (ws[at_]? == some s)) = true then at_ + 1 else at_
def wantBad (ws : List Wd) (at_ : Nat) (bad : Bool) (s : Wd) : Bool := !(!bad && (ws[at_]? == some s))
set_option maxRecDepth 100000 in
set_option maxHeartbeats 1000000 in
theorem rwant_any {w : World} {b : Nat} {A : Option Addr} {c : Nat} {ws : List Wd} {at_ : Nat} {bad : Bool} (h : Rd w b A c ws at_ bad) (hl : ws.length ≤ 60000) (ha : at_ ≤ ws.length) (s : Wd) :
    Calls Tryz.prog 34 #[.pointer (some ⟨b, 0, none⟩), .string (wbS s)] w fun e w' => (∃ v, e = .returned v) ∧ Rd w' b A c ws (wantAt ws at_ bad s) (wantBad ws at_ bad s) ∧ But w.heap.size b w w' := by
  have HI : Hid (Calls Tryz.prog 32 #[.pointer (some ⟨b, 0, none⟩), .string (wbS s)] w fun e w' => e = .returned (.bool (!bad && (ws[at_]? == some s))) ∧ ∃ q, w' = w.drewN q) := ris_any h s
  unfold wantAt wantBad
  cases hR : (!bad && (ws[at_]? == some s)) with
  | true =>
    have hbf : bad = false := by
      cases bad with
      | false => rfl
      | true => simp at hR
    subst hbf
    rw [hR] at HI
    simp only [if_true, Bool.not_true]
    have HD := (show Hid (_) from h)
    obtain ⟨c0, c1, c2, hrow, _, _⟩ := h
    have f1 : w.frozen? ⟨b, 1, none⟩ = false := hrow.frozen
    generalize wbS s = S at HI ⊢
    clear hrow hR c0
    go_enter Tryz.func34, Tryz.ntmps34
    go_wp2_with fail
    refine HI.out.mono ?_
    rintro e w1 ⟨rfl, q, rfl⟩
    go_wp2
    go_end0
    refine ⟨⟨_, rfl⟩, ?_, ?_⟩
    · have h2 := (HD.out.keep (belDraw (Below.refl _ w) q)).setAt (at_ + 1)
      rw [show ((at_ + 1 : Nat) : Int) = (at_ : Int) + 1 by omega] at h2
      exact h2
    · exact (But.of (belDraw (Below.refl _ w) q)).setCell (p := ⟨b, 1, none⟩) (.inl rfl) _
  | false =>
    rw [hR] at HI
    simp only [Bool.false_eq_true, if_false, Bool.not_false]
    have HD := (show Hid (_) from h)
    obtain ⟨c0, c1, c2, hrow, _, _⟩ := h
    have f2 : w.frozen? ⟨b, 2, none⟩ = false := hrow.frozen
    generalize wbS s = S at HI ⊢
    clear hrow hR c0
    go_enter Tryz.func34, Tryz.ntmps34
    go_wp2_with fail
    refine HI.out.mono ?_
    rintro e w1 ⟨rfl, q, rfl⟩
    go_wp2
    go_end0
    exact ⟨⟨_, rfl⟩, (HD.out.keep (belDraw (Below.refl _ w) q)).setBad true, (But.of (belDraw (Below.refl _ w) q)).setCell (p := ⟨b, 2, none⟩) (.inl rfl) _⟩
end Go.Proofs.YtmbeamcjpidnjaaGreatDoor
namespace Go.Proofs.YtmbeamcjpidnjaaGreatDoor
open Go Go.RowKit

/-- The place that a reader in memory is at. -/
def rdAt (w : World) (b : Nat) : Nat := match w.cell? ⟨b, 1, none⟩ with
  | some (.int _ n) => n.toNat
  | _ => 0
theorem Rd.at_eq {w : World} {b : Nat} {A : Option Addr} {c : Nat} {ws : List Wd} {at_ : Nat} {bad : Bool} (h : Rd w b A c ws at_ bad) : rdAt w b = at_ := by
  unfold rdAt
  rw [h.c1]
  simp
def Rs.isBad : Rs → Bool
  | .ok _ _ _ => false
  | .bad _ => true
/-- What was read from a place on: nodes in a row of the call's own; where the reader is then. -/
structure Got (b : Nat) (A : Option Addr) (c : Nat) (ws : List Wd) (j : Job) (p : Nat) (w : World) (r : Rs) (ns : List Td) (v : Value) (w' : World) : Prop where
  pr : PR j (ws.drop p) r
  o : TdsO w.heap.size v ns w'
  n : ns.length + r.rest.length ≤ (ws.drop p).length
  e : ∀ m ms u, r = .ok m ms u → ms = ns
  rd : Rd w' b A c ws (ws.length - r.rest.length) r.isBad
  bt : But w.heap.size b w w'
abbrev LevC (b : Nat) (A : Option Addr) (c : Nat) (ws : List Wd) (k p : Nat) : Prop := ∀ w : World, Rd w b A c ws p false → Calls Tryz.prog 35 #[.pointer (some ⟨b, 0, none⟩), .int .i64 (k : Int)] w fun e w' => ∃ r ns A' c', e = .returned (.slice A' ns.length c') ∧ Got b A c ws (.level k) p w r ns (.slice A' ns.length c') w'
abbrev SinC (b : Nat) (A : Option Addr) (c : Nat) (ws : List Wd) (p : Nat) : Prop := ∀ w : World, Rd w b A c ws p false → Calls Tryz.prog 69 #[.pointer (some ⟨b, 0, none⟩)] w fun e w' => ∃ r ns A' c', e = .returned (.slice A' ns.length c') ∧ Got b A c ws .single p w r ns (.slice A' ns.length c') w'
/-- When it has failed already. -/
abbrev Sil (b : Nat) (A : Option Addr) (c : Nat) (ws : List Wd) (p : Nat) (w : World) (e : Ending) (w' : World) : Prop := e = .returned (.slice none 0 0) ∧ Rd w' b A c ws p true ∧ But w.heap.size b w w'
set_option maxRecDepth 100000 in
set_option maxHeartbeats 1000000 in
theorem single_bad {w : World} {b : Nat} {A : Option Addr} {c : Nat} {ws : List Wd} {p : Nat} (h : Rd w b A c ws p true) : Calls Tryz.prog 69 #[.pointer (some ⟨b, 0, none⟩)] w fun e w' => Sil b A c ws p w e w' := by
  have HD := (show Hid (_) from h)
  obtain ⟨c0, c1, c2, hrow, _, _⟩ := h
  have f2 : w.frozen? ⟨b, 2, none⟩ = false := hrow.frozen
  have HW : Hid (∀ q, (w.drewN q).frozen? ⟨b, 2, none⟩ = false) := fun q => f2
  clear hrow
  go_enter Tryz.func69, Tryz.ntmps69
  go_wp2_with fail
  go_quiet (fail)
  go_wp2
  go_ret
  exact ⟨rfl, (HD.out.keep (belDraw (Below.refl _ w) _)).setBad true, (But.of (belDraw (Below.refl _ w) _)).setCell (p := ⟨b, 2, none⟩) (.inl rfl) _⟩
theorem TdsO.nil (B : Nat) (w : World) : TdsO B (.slice Option.none 0 0) [] w := ⟨rfl, .inl ⟨rfl, rfl⟩⟩
set_option maxRecDepth 100000 in
set_option maxHeartbeats 1000000 in
theorem level_bad2 {w : World} {b : Nat} {A : Option Addr} {c : Nat} {ws : List Wd} {p : Nat} (h : Rd w b A c ws p true) : Calls Tryz.prog 35 #[.pointer (some ⟨b, 0, none⟩), .int .i64 2] w fun e w' => Sil b A c ws p w e w' := by
  have HS : Hid (Calls Tryz.prog 69 #[.pointer (some ⟨b, 0, none⟩)] w fun e w' => Sil b A c ws p w e w') := single_bad h
  clear h
  go_enter Tryz.func35, Tryz.ntmps35
  go_wp2_with fail
  refine HS.out.mono ?_
  rintro e w1 ⟨rfl, h1, b1⟩
  go_wp2
  go_ret
  exact ⟨rfl, h1, b1⟩
set_option maxRecDepth 100000 in
set_option maxHeartbeats 1000000 in
theorem level_bad1 {w : World} {b : Nat} {A : Option Addr} {c : Nat} {ws : List Wd} {p : Nat} (h : Rd w b A c ws p true) : Calls Tryz.prog 35 #[.pointer (some ⟨b, 0, none⟩), .int .i64 1] w fun e w' => Sil b A c ws p w e w' := by
  have HS : Hid (Calls Tryz.prog 35 #[.pointer (some ⟨b, 0, none⟩), .int .i64 2] w fun e w' => Sil b A c ws p w e w') := level_bad2 h
  clear h
  go_enter Tryz.func35, Tryz.ntmps35
  go_wp2_with fail
  refine HS.out.mono ?_
  rintro e w1 ⟨rfl, h1, b1⟩
  have c2 := h1.c2
  have HD := (show Hid (_) from h1)
  have HB := (show Hid (_) from b1)
  clear h1 b1
  go_wp2_with fail
  go_loopw [5] (fun x wr => wr = w1 ∧ x = .slice none 0 0) (fun _ _ => 0)
  case atStart => exact ⟨rfl, rfl⟩
  case round =>
    obtain ⟨rfl, rfl⟩ := hrel
    go_wp2
    go_ret
    exact ⟨rfl, HD.out, HB.out⟩
set_option maxRecDepth 100000 in
set_option maxHeartbeats 1000000 in
theorem level_bad0 {w : World} {b : Nat} {A : Option Addr} {c : Nat} {ws : List Wd} {p : Nat} (h : Rd w b A c ws p true) : Calls Tryz.prog 35 #[.pointer (some ⟨b, 0, none⟩), .int .i64 0] w fun e w' => Sil b A c ws p w e w' := by
  have HS : Hid (Calls Tryz.prog 35 #[.pointer (some ⟨b, 0, none⟩), .int .i64 1] w fun e w' => Sil b A c ws p w e w') := level_bad1 h
  clear h
  go_enter Tryz.func35, Tryz.ntmps35
  go_wp2_with fail
  refine HS.out.mono ?_
  rintro e w1 ⟨rfl, h1, b1⟩
  have c2 := h1.c2
  have HD := (show Hid (_) from h1)
  have HB := (show Hid (_) from b1)
  clear h1 b1
  go_wp2_with fail
  go_loopw [5] (fun x wr => wr = w1 ∧ x = .slice none 0 0) (fun _ _ => 0)
  case atStart => exact ⟨rfl, rfl⟩
  case round =>
    obtain ⟨rfl, rfl⟩ := hrel
    go_wp2
    go_ret
    exact ⟨rfl, HD.out, HB.out⟩
end Go.Proofs.YtmbeamcjpidnjaaGreatDoor
namespace Go.Proofs.YtmbeamcjpidnjaaGreatDoor
open Go Go.RowKit

theorem drop_len {ws : List Wd} {p : Nat} (_h : p ≤ ws.length) : (ws.drop p).length = ws.length - p := List.length_drop
theorem head_drop (ws : List Wd) (p : Nat) : (ws.drop p).head? = ws[p]? := List.head?_drop
/-- What is left stands at the reader's place. -/
theorem rest_at {ws : List Wd} {p : Nat} {r : List Wd} (h : r <:+ ws.drop p) : ws.drop (ws.length - r.length) = r := by
  obtain ⟨t, ht⟩ := h.trans (List.drop_suffix p ws)
  have hl := congrArg List.length ht
  rw [List.length_append] at hl
  have e : ws.length - r.length = t.length := by omega
  rw [e, ← ht, List.drop_left]
set_option maxRecDepth 100000 in
set_option maxHeartbeats 1000000 in
theorem level_two {b : Nat} {A : Option Addr} {c : Nat} {ws : List Wd} {p : Nat} (hs : SinC b A c ws p) : LevC b A c ws 2 p := by
  intro w h
  have HS : Hid (Calls Tryz.prog 69 #[.pointer (some ⟨b, 0, none⟩)] w fun e w' => ∃ r ns A' c', e = .returned (.slice A' ns.length c') ∧ Got b A c ws .single p w r ns (.slice A' ns.length c') w') := hs w h
  clear h hs
  show Calls Tryz.prog 35 #[.pointer (some ⟨b, 0, none⟩), .int .i64 2] w _
  go_enter Tryz.func35, Tryz.ntmps35
  go_wp2_with fail
  refine HS.out.mono ?_
  rintro e w1 ⟨r, ns, A', c', rfl, hG⟩
  have HG : Hid (Got b A c ws (.level 2) p w r ns (.slice A' ns.length c') w1) := ⟨.lev2 hG.pr, hG.o, hG.n, hG.e, hG.rd, hG.bt⟩
  have HL : Hid (∃ m, ns.length = m) := ⟨_, rfl⟩
  generalize hm : ns.length = m
  clear hG
  go_wp2
  go_ret
  exact ⟨r, ns, A', c', by rw [hm]; rfl, HG.out⟩
theorem TdsO.but {B b : Nat} {v : Value} {xs : List Td} {w w' : World} (h : TdsO B v xs w) (hb : But w.heap.size b w w') (hB : b < B) : TdsO B v xs w' := h.kept fun g h1 h2 => hb.block g h2 (by omega)
/-- What the loop of a level keeps. -/
structure LvAt (b : Nat) (A : Option Addr) (c : Nat) (ws : List Wd) (k p : Nat) (w : World) (q : Nat) (bad : Bool) (acc : List Td) (v : Value) (wr : World) : Prop where
  le : q ≤ ws.length
  lt : p < q ∨ bad = true
  pq : p ≤ q
  n : acc.length + (ws.length - q) ≤ ws.length - p
  o : TdsO w.heap.size v acc wr
  rd : Rd wr b A c ws q bad
  bt : But w.heap.size b w wr
  ok : bad = false → ∀ r, PR (.loop k acc) (ws.drop q) r → PR (.level k) (ws.drop p) r
  bd : bad = true → PR (.level k) (ws.drop p) (.bad (ws.drop q))
theorem lv_start {b : Nat} {A : Option Addr} {c : Nat} {ws : List Wd} {k p : Nat} {w : World} {r : Rs} {ns : List Td} {v : Value} {w1 : World} (hk : k < 2) (hp : p ≤ ws.length) (h : Got b A c ws (.level (k + 1)) p w r ns v w1) : LvAt b A c ws k p w (ws.length - r.rest.length) r.isBad ns v w1 := by
  have hsf := pr_suf h.pr
  have h1 := rest_at hsf.1
  have hl : r.rest.length ≤ ws.length - p := by
    have := h.n
    rw [drop_len hp] at this
    omega
  have hn := h.n
  rw [drop_len hp] at hn
  cases r with
  | bad u =>
    simp only [Rs.rest, Rs.isBad] at *
    exact ⟨by omega, .inr rfl, by omega, by omega, h.o, h.rd, h.bt, (fun e => by cases e), (fun _ => by rw [h1]; exact .levB hk h.pr)⟩
  | ok m ms u =>
    have he := h.e m ms u rfl
    subst he
    have h2 := hsf.2 m ms u rfl
    rw [drop_len hp] at h2
    simp only [Rs.rest, Rs.isBad, Job.eats] at *
    exact ⟨by omega, .inl (by omega), by omega, by omega, h.o, h.rd, h.bt, (fun _ r hr => by rw [h1] at hr; exact .levO hk h.pr hr), (fun e => by cases e)⟩
theorem lv_next {b : Nat} {A : Option Addr} {c : Nat} {ws : List Wd} {k p : Nat} {w : World} {q : Nat} {acc : List Td} {v : Value} {wr w3 w4 w5 : World} {r : Rs} {ns : List Td} {v4 v5 : Value} (hV : LvAt b A c ws k p w q false acc v wr) (hq : q < ws.length) (hd : ws.drop q = sgn k :: ws.drop (q + 1))
    (bt3 : But w.heap.size b w w3) (hs3 : w.heap.size ≤ w3.heap.size) (hG : Got b A c ws (.level (k + 1)) (q + 1) w3 r ns v4 w4) (hbw : b < w.heap.size) (b5 : Below w.heap.size w4 w5) (ho : TdsO w.heap.size v5 (([sgT k] ++ acc) ++ ns) w5) :
    LvAt b A c ws k p w (ws.length - r.rest.length) r.isBad (sgT k :: (acc ++ ns)) v5 w5 ∧ q < ws.length - r.rest.length := by
  have hsf := pr_suf hG.pr
  have h1 := rest_at hsf.1
  have hn := hG.n
  rw [drop_len (by omega)] at hn
  have hVn := hV.n
  have hVp := hV.pq
  have hrd : Rd w5 b A c ws (ws.length - r.rest.length) r.isBad := hG.rd.keepB b5 hbw
  have hbt : But w.heap.size b w w5 := (bt3.trans (hG.bt.mono hs3)).trans (But.of b5)
  have e1 : (([sgT k] ++ acc) ++ ns) = sgT k :: (acc ++ ns) := by simp
  rw [e1] at ho
  have hal : (sgT k :: (acc ++ ns)).length = 1 + acc.length + ns.length := by simp; omega
  cases r with
  | bad u =>
    simp only [Rs.rest, Rs.isBad] at *
    exact ⟨⟨by omega, .inr rfl, by omega, by rw [hal]; omega, ho, hrd, hbt, (fun e => by cases e), (fun _ => by rw [h1]; exact hV.ok rfl _ (by rw [hd]; exact .lopB hG.pr))⟩, by omega⟩
  | ok m ms u =>
    have he := hG.e m ms u rfl
    subst he
    simp only [Rs.rest, Rs.isBad] at *
    exact ⟨⟨by omega, .inl (by omega), by omega, by rw [hal]; omega, ho, hrd, hbt, (fun _ r hr => by rw [h1] at hr; exact hV.ok rfl _ (by rw [hd]; exact .lopO hG.pr hr)), (fun e => by cases e)⟩, by omega⟩
set_option maxRecDepth 100000 in
set_option maxHeartbeats 8000000 in
theorem level_zero {b : Nat} {A : Option Addr} {c : Nat} {ws : List Wd} {p : Nat} (hl : ws.length ≤ 60000) (hp : p ≤ ws.length) (hL : ∀ q, p ≤ q → q ≤ ws.length → LevC b A c ws 1 q) : LevC b A c ws 0 p := by
  intro w h
  have HL : Hid (∀ q, p ≤ q → q ≤ ws.length → LevC b A c ws 1 q) := hL
  have HL0 : Hid (Calls Tryz.prog 35 #[.pointer (some ⟨b, 0, none⟩), .int .i64 1] w fun e w' => ∃ r ns A' c', e = .returned (.slice A' ns.length c') ∧ Got b A c ws (.level 1) p w r ns (.slice A' ns.length c') w') := hL p (Nat.le_refl _) hp w h
  have hbw : b < w.heap.size := h.row.lt
  clear h hL
  show Calls Tryz.prog 35 #[.pointer (some ⟨b, 0, none⟩), .int .i64 0] w _
  go_enter Tryz.func35, Tryz.ntmps35
  go_wp2_with fail
  refine HL0.out.mono ?_
  rintro e w1 ⟨r, ns, A', c', rfl, hG⟩
  have HLV := (show Hid (_) from lv_start (k := 0) (by omega) hp hG)
  generalize hm : ns.length = m
  have HM : Hid (ns.length = m) := hm
  clear hG hm HL0
  go_wp2_with fail
  go_loopw [5] (fun x wr => ∃ (q : Nat) (bad : Bool) (acc : List Td) (A' : Option Addr) (c' : Nat), x = .slice A' acc.length c' ∧ LvAt b A c ws 0 p w q bad acc (.slice A' acc.length c') wr) (fun _ wr => ws.length - rdAt wr b)
  case atStart => exact ⟨_, _, ns, A', c', by rw [HM.out], HLV.out⟩
  case round =>
    obtain ⟨q, bad, acc, A1, c1, rfl, hV⟩ := hrel
    have HV := (show Hid (_) from hV)
    have d1 := hV.rd.c1
    have d2 := hV.rd.c2
    have hqle := hV.le
    have hn := hV.n
    have hfz : wr.frozen? ⟨b, 1, none⟩ = false := hV.rd.row.frozen
    have hbs : b < wr.heap.size := hV.rd.row.lt
    have hwb := hV.bt.size
    generalize hal : acc.length = al at hn
    have HAL : Hid (acc.length = al) := hal
    clear hV hal
    cases bad with
    | true =>
      go_wp2
      go_ret
      have hV := HV.out
      have hdl : (ws.drop q).length = ws.length - q := drop_len hqle
      refine ⟨.bad (ws.drop q), acc, A1, c1, by rw [HAL.out]; rfl, hV.bd rfl, hV.o, ?_, (fun _ _ _ e => by cases e), ?_, hV.bt⟩
      · have hpq := hV.pq
        have h1 := hV.n
        rw [drop_len hp]
        simp only [Rs.rest, hdl]
        omega
      · have h1 := hV.rd
        have e1 : ws.length - (Rs.bad (ws.drop q)).rest.length = q := by simp only [Rs.rest, hdl]; omega
        rw [e1]
        exact h1
    | false =>
      have HIS : Hid (∀ W : World, Below wr.heap.size wr W → Calls Tryz.prog 32 #[.pointer (some ⟨b, 0, none⟩), .string ((⟨#[43, 42]⟩ : ByteArray).extract 0 1)] W fun e w' => e = .returned (.bool (!false && (ws[q]? == some [43]))) ∧ ∃ q', w' = W.drewN q') := fun W hb => by
        have e0 : (⟨#[43, 42]⟩ : ByteArray).extract 0 1 = wbS [43] := rfl
        rw [e0]
        exact ris_any (HV.out.rd.keep hb) [43]
      cases hmr : (!false && (ws[q]? == some ([43] : Wd))) with
      | false =>
        rw [hmr] at HIS
        have hne : (ws.drop q).head? ≠ some (sgn 0) := by
          rw [head_drop]
          intro e
          rw [e] at hmr
          exact absurd hmr (by decide)
        have HNE := (show Hid (_) from hne)
        clear hmr hne
        go_wp2_with fail
        refine (HIS.out _ (Below.refl _ _)).mono ?_
        rintro e w2 ⟨rfl, q', rfl⟩
        go_wp2
        go_ret
        have hV := HV.out
        have hdl : (ws.drop q).length = ws.length - q := drop_len hqle
        have e1 : ws.length - (Rs.ok 0 acc (ws.drop q)).rest.length = q := by simp only [Rs.rest, hdl]; omega
        refine ⟨.ok 0 acc (ws.drop q), acc, A1, c1, by rw [HAL.out]; rfl, hV.ok rfl _ (.lopE HNE.out), hV.o, ?_, (fun _ _ _ e => by cases e; rfl), ?_, hV.bt.trans (But.of (belDraw (Below.refl _ wr) q'))⟩
        · have hpq := hV.pq
          have h1 := hV.n
          rw [drop_len hp]
          simp only [Rs.rest, hdl]
          omega
        · rw [e1]
          exact hV.rd.keep (belDraw (Below.refl _ wr) q')
      | true =>
        rw [hmr] at HIS
        have hq1 : ws[q]? = some ([43] : Wd) := by simpa using hmr
        obtain ⟨hqlt, hqe⟩ := List.getElem?_eq_some_iff.1 hq1
        have HDR : Hid (ws.drop q = sgn 0 :: ws.drop (q + 1)) := by
          show _ = _
          rw [List.drop_eq_getElem_cons hqlt, hqe]; rfl
        clear hmr hq1 hqe
        go_wp2_with fail
        refine (HIS.out _ (Below.refl _ _)).mono ?_
        rintro e w2 ⟨rfl, q', rfl⟩
        have HR1 : Hid (Rd ((wr.drewN q').setCell ⟨b, 1, none⟩ (.int .i64 ((q : Int) + 1))) b A c ws (q + 1) false) := by
          have h2 := (HV.out.rd.keep (belDraw (Below.refl _ wr) q')).setAt (q + 1)
          rw [show ((q + 1 : Nat) : Int) = (q : Int) + 1 by omega] at h2
          exact h2
        have HB1 : Hid (But wr.heap.size b wr ((wr.drewN q').setCell ⟨b, 1, none⟩ (.int .i64 ((q : Int) + 1)))) := (But.of (belDraw (Below.refl _ wr) q')).setCell (p := ⟨b, 1, none⟩) (.inl rfl) _
        have hV := HV.out
        have HX1 : Hid (TdsO w.heap.size (.slice (some ⟨wr.heap.size, 0, none⟩) 1 1) [sgT 0] (((wr.drewN q').setCell ⟨b, 1, none⟩ (.int .i64 ((q : Int) + 1))).alloc (.cells #[.int .i64 5, .string ⟨#[]⟩, .int .i64 0] 39))) := by
          have h2 := TdsO.one ((wr.drewN q').setCell ⟨b, 1, none⟩ (.int .i64 ((q : Int) + 1))) (sgT 0)
          have e2 : ((wr.drewN q').setCell ⟨b, 1, none⟩ (.int .i64 ((q : Int) + 1))).heap.size = wr.heap.size := World.size_setCell ..
          rw [e2] at h2
          exact h2.down hwb
        have HT1 : Hid (Tds (((wr.drewN q').setCell ⟨b, 1, none⟩ (.int .i64 ((q : Int) + 1))).alloc (.cells #[.int .i64 5, .string ⟨#[]⟩, .int .i64 0] 39)) A1 acc) := ((hV.o.but HB1.out hbw).tds).alloc _
        have HN1 : Hid (A1 = none → al = 0 ∧ c1 = 0) := by
          have h3 := hV.o.none
          rw [HAL.out] at h3
          exact h3.2
        have HR2 : Hid (∀ W, Below (wr.heap.size) ((wr.drewN q').setCell ⟨b, 1, none⟩ (.int .i64 ((q : Int) + 1))) W → Rd W b A c ws (q + 1) false) := fun W hW => HR1.out.keepB hW hbs
        have HA1 : Hid (Below wr.heap.size ((wr.drewN q').setCell ⟨b, 1, none⟩ (.int .i64 ((q : Int) + 1))) (((wr.drewN q').setCell ⟨b, 1, none⟩ (.int .i64 ((q : Int) + 1))).alloc (.cells #[.int .i64 5, .string ⟨#[]⟩, .int .i64 0] 39))) := (Below.refl _ _).alloc (by rw [World.size_setCell]; exact Nat.le_refl _) _
        have hsz1 : (((wr.drewN q').setCell ⟨b, 1, none⟩ (.int .i64 ((q : Int) + 1))).alloc (.cells #[.int .i64 5, .string ⟨#[]⟩, .int .i64 0] 39)).heap.size = wr.heap.size + 1 := by
          rw [World.size_alloc, World.size_setCell]; rfl
        have HSZ1 := (show Hid (_ = _) from hsz1)
        clear hV hsz1
        go_wp2_with (at_builtin; refine app_tds rfl _ _ rfl w.heap.size _ [sgT 0] rfl HX1.out A1 al acc HAL.out c1 rfl HT1.out HN1.out (1 + al) rfl (by omega) (by rw [HSZ1.out]; omega) ?_)
        intro A3 c3 w3 hown3 hgrow3
        have HO3 : Hid (TdsO w.heap.size (.slice A3 (1 + al) c3) ([sgT 0] ++ acc) w3) := hown3
        have hrow3 : ∀ k', (Value.slice (some ⟨wr.heap.size, 0, none⟩) 1 1).ownBlock = some k' → wr.heap.size ≤ k' := fun k' hk => by
          simp only [Value.ownBlock, Option.some.injEq] at hk; omega
        have HB3 : Hid (But wr.heap.size b wr w3) := (HB1.out.alloc (by rw [World.size_setCell]; exact Nat.le_refl _) _).grown hgrow3 (by rw [HSZ1.out]; omega) hrow3
        have HR3 : Hid (Rd w3 b A c ws (q + 1) false) := HR2.out w3 (HA1.out.grown hgrow3 (by rw [HSZ1.out]; omega) hrow3)
        have hs3 := HB3.out.size
        have HLC : Hid (Calls Tryz.prog 35 #[.pointer (some ⟨b, 0, none⟩), .int .i64 1] w3 fun e w' => ∃ r ns A' c', e = .returned (.slice A' ns.length c') ∧ Got b A c ws (.level 1) (q + 1) w3 r ns (.slice A' ns.length c') w') := HL.out (q + 1) (by have := HV.out.pq; omega) (by omega) w3 HR3.out
        clear hown3 hgrow3 hrow3 HX1 HT1 HN1 HR1 HR2 HA1 HSZ1 HB1 HIS
        go_wp2_with fail
        refine HLC.out.mono ?_
        rintro e w4 ⟨r4, ns4, A4, c4, rfl, hG4⟩
        have HG4 := (show Hid (_) from hG4)
        have hn4 := hG4.n
        rw [drop_len (by omega)] at hn4
        have HT4 : Hid (Tds w4 A4 ns4) := hG4.o.tds
        have hs4 := hG4.bt.size
        have HO4 : Hid (TdsO w.heap.size (.slice A3 (1 + al) c3) ([sgT 0] ++ acc) w4) := HO3.out.but hG4.bt hbw
        generalize hnl : ns4.length = n4 at hn4
        have HNL : Hid (ns4.length = n4) := hnl
        have HN4 : Hid (A4 = none → n4 = 0 ∧ c4 = 0) := by
          have h3 := hG4.o.none
          rw [hnl] at h3
          exact h3.2
        have hm4 : 1 + al + n4 ≤ 1000000 := by omega
        clear hG4 hnl hn4 HLC HO3
        go_wp2_with (at_builtin; refine app_tds rfl _ _ rfl w.heap.size _ ([sgT 0] ++ acc) rfl HO4.out A4 n4 ns4 HNL.out c4 rfl HT4.out HN4.out (1 + al + n4) (by rw [List.length_append, HAL.out]; rfl) hm4 (by omega) ?_)
        intro A5 c5 w5 hown5 hgrow5
        have hb5 : Below w.heap.size w4 w5 := (Below.refl _ _).grown hgrow5 (by omega) (fun k' hk => (World.ownsRow.lt HO4.out k' hk).1)
        have hnx := lv_next HV.out hqlt HDR.out (HV.out.bt.trans (HB3.out.mono hwb)) (by omega) HG4.out hbw hb5 hown5
        have HNX := (show Hid (_) from hnx)
        clear hown5 hgrow5 hb5 hnx
        go_wp2
        refine ⟨⟨ws.length - r4.rest.length, r4.isBad, sgT 0 :: (acc ++ ns4), A5, c5, ?_, ?_⟩, ?_⟩
        · have e5 : (sgT 0 :: (acc ++ ns4)).length = 1 + al + n4 := by rw [List.length_cons, List.length_append, HAL.out, HNL.out]; omega
          rw [e5]
        · have e5 : (sgT 0 :: (acc ++ ns4)).length = 1 + al + n4 := by rw [List.length_cons, List.length_append, HAL.out, HNL.out]; omega
          rw [e5]
          exact HNX.out.1
        · rw [HNX.out.1.rd.at_eq, HV.out.rd.at_eq]
          have := HNX.out.2
          omega
set_option maxRecDepth 100000 in
set_option maxHeartbeats 8000000 in
theorem level_one {b : Nat} {A : Option Addr} {c : Nat} {ws : List Wd} {p : Nat} (hl : ws.length ≤ 60000) (hp : p ≤ ws.length) (hL : ∀ q, p ≤ q → q ≤ ws.length → LevC b A c ws 2 q) : LevC b A c ws 1 p := by
  intro w h
  have HL : Hid (∀ q, p ≤ q → q ≤ ws.length → LevC b A c ws 2 q) := hL
  have HL0 : Hid (Calls Tryz.prog 35 #[.pointer (some ⟨b, 0, none⟩), .int .i64 2] w fun e w' => ∃ r ns A' c', e = .returned (.slice A' ns.length c') ∧ Got b A c ws (.level 2) p w r ns (.slice A' ns.length c') w') := hL p (Nat.le_refl _) hp w h
  have hbw : b < w.heap.size := h.row.lt
  clear h hL
  show Calls Tryz.prog 35 #[.pointer (some ⟨b, 0, none⟩), .int .i64 1] w _
  go_enter Tryz.func35, Tryz.ntmps35
  go_wp2_with fail
  refine HL0.out.mono ?_
  rintro e w1 ⟨r, ns, A', c', rfl, hG⟩
  have HLV := (show Hid (_) from lv_start (k := 1) (by omega) hp hG)
  generalize hm : ns.length = m
  have HM : Hid (ns.length = m) := hm
  clear hG hm HL0
  go_wp2_with fail
  go_loopw [5] (fun x wr => ∃ (q : Nat) (bad : Bool) (acc : List Td) (A' : Option Addr) (c' : Nat), x = .slice A' acc.length c' ∧ LvAt b A c ws 1 p w q bad acc (.slice A' acc.length c') wr) (fun _ wr => ws.length - rdAt wr b)
  case atStart => exact ⟨_, _, ns, A', c', by rw [HM.out], HLV.out⟩
  case round =>
    obtain ⟨q, bad, acc, A1, c1, rfl, hV⟩ := hrel
    have HV := (show Hid (_) from hV)
    have d1 := hV.rd.c1
    have d2 := hV.rd.c2
    have hqle := hV.le
    have hn := hV.n
    have hfz : wr.frozen? ⟨b, 1, none⟩ = false := hV.rd.row.frozen
    have hbs : b < wr.heap.size := hV.rd.row.lt
    have hwb := hV.bt.size
    generalize hal : acc.length = al at hn
    have HAL : Hid (acc.length = al) := hal
    clear hV hal
    cases bad with
    | true =>
      go_wp2
      go_ret
      have hV := HV.out
      have hdl : (ws.drop q).length = ws.length - q := drop_len hqle
      refine ⟨.bad (ws.drop q), acc, A1, c1, by rw [HAL.out]; rfl, hV.bd rfl, hV.o, ?_, (fun _ _ _ e => by cases e), ?_, hV.bt⟩
      · have hpq := hV.pq
        have h1 := hV.n
        rw [drop_len hp]
        simp only [Rs.rest, hdl]
        omega
      · have h1 := hV.rd
        have e1 : ws.length - (Rs.bad (ws.drop q)).rest.length = q := by simp only [Rs.rest, hdl]; omega
        rw [e1]
        exact h1
    | false =>
      have HIS : Hid (∀ W : World, Below wr.heap.size wr W → Calls Tryz.prog 32 #[.pointer (some ⟨b, 0, none⟩), .string ((⟨#[43, 42]⟩ : ByteArray).extract 1 2)] W fun e w' => e = .returned (.bool (!false && (ws[q]? == some [42]))) ∧ ∃ q', w' = W.drewN q') := fun W hb => by
        have e0 : (⟨#[43, 42]⟩ : ByteArray).extract 1 2 = wbS [42] := rfl
        rw [e0]
        exact ris_any (HV.out.rd.keep hb) [42]
      cases hmr : (!false && (ws[q]? == some ([42] : Wd))) with
      | false =>
        rw [hmr] at HIS
        have hne : (ws.drop q).head? ≠ some (sgn 1) := by
          rw [head_drop]
          intro e
          rw [e] at hmr
          exact absurd hmr (by decide)
        have HNE := (show Hid (_) from hne)
        clear hmr hne
        go_wp2_with fail
        refine (HIS.out _ (Below.refl _ _)).mono ?_
        rintro e w2 ⟨rfl, q', rfl⟩
        go_wp2
        go_ret
        have hV := HV.out
        have hdl : (ws.drop q).length = ws.length - q := drop_len hqle
        have e1 : ws.length - (Rs.ok 0 acc (ws.drop q)).rest.length = q := by simp only [Rs.rest, hdl]; omega
        refine ⟨.ok 0 acc (ws.drop q), acc, A1, c1, by rw [HAL.out]; rfl, hV.ok rfl _ (.lopE HNE.out), hV.o, ?_, (fun _ _ _ e => by cases e; rfl), ?_, hV.bt.trans (But.of (belDraw (Below.refl _ wr) q'))⟩
        · have hpq := hV.pq
          have h1 := hV.n
          rw [drop_len hp]
          simp only [Rs.rest, hdl]
          omega
        · rw [e1]
          exact hV.rd.keep (belDraw (Below.refl _ wr) q')
      | true =>
        rw [hmr] at HIS
        have hq1 : ws[q]? = some ([42] : Wd) := by simpa using hmr
        obtain ⟨hqlt, hqe⟩ := List.getElem?_eq_some_iff.1 hq1
        have HDR : Hid (ws.drop q = sgn 1 :: ws.drop (q + 1)) := by
          show _ = _
          rw [List.drop_eq_getElem_cons hqlt, hqe]; rfl
        clear hmr hq1 hqe
        go_wp2_with fail
        refine (HIS.out _ (Below.refl _ _)).mono ?_
        rintro e w2 ⟨rfl, q', rfl⟩
        have HR1 : Hid (Rd ((wr.drewN q').setCell ⟨b, 1, none⟩ (.int .i64 ((q : Int) + 1))) b A c ws (q + 1) false) := by
          have h2 := (HV.out.rd.keep (belDraw (Below.refl _ wr) q')).setAt (q + 1)
          rw [show ((q + 1 : Nat) : Int) = (q : Int) + 1 by omega] at h2
          exact h2
        have HB1 : Hid (But wr.heap.size b wr ((wr.drewN q').setCell ⟨b, 1, none⟩ (.int .i64 ((q : Int) + 1)))) := (But.of (belDraw (Below.refl _ wr) q')).setCell (p := ⟨b, 1, none⟩) (.inl rfl) _
        have hV := HV.out
        have HX1 : Hid (TdsO w.heap.size (.slice (some ⟨wr.heap.size, 0, none⟩) 1 1) [sgT 1] (((wr.drewN q').setCell ⟨b, 1, none⟩ (.int .i64 ((q : Int) + 1))).alloc (.cells #[.int .i64 6, .string ⟨#[]⟩, .int .i64 0] 39))) := by
          have h2 := TdsO.one ((wr.drewN q').setCell ⟨b, 1, none⟩ (.int .i64 ((q : Int) + 1))) (sgT 1)
          have e2 : ((wr.drewN q').setCell ⟨b, 1, none⟩ (.int .i64 ((q : Int) + 1))).heap.size = wr.heap.size := World.size_setCell ..
          rw [e2] at h2
          exact h2.down hwb
        have HT1 : Hid (Tds (((wr.drewN q').setCell ⟨b, 1, none⟩ (.int .i64 ((q : Int) + 1))).alloc (.cells #[.int .i64 6, .string ⟨#[]⟩, .int .i64 0] 39)) A1 acc) := ((hV.o.but HB1.out hbw).tds).alloc _
        have HN1 : Hid (A1 = none → al = 0 ∧ c1 = 0) := by
          have h3 := hV.o.none
          rw [HAL.out] at h3
          exact h3.2
        have HR2 : Hid (∀ W, Below (wr.heap.size) ((wr.drewN q').setCell ⟨b, 1, none⟩ (.int .i64 ((q : Int) + 1))) W → Rd W b A c ws (q + 1) false) := fun W hW => HR1.out.keepB hW hbs
        have HA1 : Hid (Below wr.heap.size ((wr.drewN q').setCell ⟨b, 1, none⟩ (.int .i64 ((q : Int) + 1))) (((wr.drewN q').setCell ⟨b, 1, none⟩ (.int .i64 ((q : Int) + 1))).alloc (.cells #[.int .i64 6, .string ⟨#[]⟩, .int .i64 0] 39))) := (Below.refl _ _).alloc (by rw [World.size_setCell]; exact Nat.le_refl _) _
        have hsz1 : (((wr.drewN q').setCell ⟨b, 1, none⟩ (.int .i64 ((q : Int) + 1))).alloc (.cells #[.int .i64 6, .string ⟨#[]⟩, .int .i64 0] 39)).heap.size = wr.heap.size + 1 := by
          rw [World.size_alloc, World.size_setCell]; rfl
        have HSZ1 := (show Hid (_ = _) from hsz1)
        clear hV hsz1
        go_wp2_with (at_builtin; refine app_tds rfl _ _ rfl w.heap.size _ [sgT 1] rfl HX1.out A1 al acc HAL.out c1 rfl HT1.out HN1.out (1 + al) rfl (by omega) (by rw [HSZ1.out]; omega) ?_)
        intro A3 c3 w3 hown3 hgrow3
        have HO3 : Hid (TdsO w.heap.size (.slice A3 (1 + al) c3) ([sgT 1] ++ acc) w3) := hown3
        have hrow3 : ∀ k', (Value.slice (some ⟨wr.heap.size, 0, none⟩) 1 1).ownBlock = some k' → wr.heap.size ≤ k' := fun k' hk => by
          simp only [Value.ownBlock, Option.some.injEq] at hk; omega
        have HB3 : Hid (But wr.heap.size b wr w3) := (HB1.out.alloc (by rw [World.size_setCell]; exact Nat.le_refl _) _).grown hgrow3 (by rw [HSZ1.out]; omega) hrow3
        have HR3 : Hid (Rd w3 b A c ws (q + 1) false) := HR2.out w3 (HA1.out.grown hgrow3 (by rw [HSZ1.out]; omega) hrow3)
        have hs3 := HB3.out.size
        have HLC : Hid (Calls Tryz.prog 35 #[.pointer (some ⟨b, 0, none⟩), .int .i64 2] w3 fun e w' => ∃ r ns A' c', e = .returned (.slice A' ns.length c') ∧ Got b A c ws (.level 2) (q + 1) w3 r ns (.slice A' ns.length c') w') := HL.out (q + 1) (by have := HV.out.pq; omega) (by omega) w3 HR3.out
        clear hown3 hgrow3 hrow3 HX1 HT1 HN1 HR1 HR2 HA1 HSZ1 HB1 HIS
        go_wp2_with fail
        refine HLC.out.mono ?_
        rintro e w4 ⟨r4, ns4, A4, c4, rfl, hG4⟩
        have HG4 := (show Hid (_) from hG4)
        have hn4 := hG4.n
        rw [drop_len (by omega)] at hn4
        have HT4 : Hid (Tds w4 A4 ns4) := hG4.o.tds
        have hs4 := hG4.bt.size
        have HO4 : Hid (TdsO w.heap.size (.slice A3 (1 + al) c3) ([sgT 1] ++ acc) w4) := HO3.out.but hG4.bt hbw
        generalize hnl : ns4.length = n4 at hn4
        have HNL : Hid (ns4.length = n4) := hnl
        have HN4 : Hid (A4 = none → n4 = 0 ∧ c4 = 0) := by
          have h3 := hG4.o.none
          rw [hnl] at h3
          exact h3.2
        have hm4 : 1 + al + n4 ≤ 1000000 := by omega
        clear hG4 hnl hn4 HLC HO3
        go_wp2_with (at_builtin; refine app_tds rfl _ _ rfl w.heap.size _ ([sgT 1] ++ acc) rfl HO4.out A4 n4 ns4 HNL.out c4 rfl HT4.out HN4.out (1 + al + n4) (by rw [List.length_append, HAL.out]; rfl) hm4 (by omega) ?_)
        intro A5 c5 w5 hown5 hgrow5
        have hb5 : Below w.heap.size w4 w5 := (Below.refl _ _).grown hgrow5 (by omega) (fun k' hk => (World.ownsRow.lt HO4.out k' hk).1)
        have hnx := lv_next HV.out hqlt HDR.out (HV.out.bt.trans (HB3.out.mono hwb)) (by omega) HG4.out hbw hb5 hown5
        have HNX := (show Hid (_) from hnx)
        clear hown5 hgrow5 hb5 hnx
        go_wp2
        refine ⟨⟨ws.length - r4.rest.length, r4.isBad, sgT 1 :: (acc ++ ns4), A5, c5, ?_, ?_⟩, ?_⟩
        · have e5 : (sgT 1 :: (acc ++ ns4)).length = 1 + al + n4 := by rw [List.length_cons, List.length_append, HAL.out, HNL.out]; omega
          rw [e5]
        · have e5 : (sgT 1 :: (acc ++ ns4)).length = 1 + al + n4 := by rw [List.length_cons, List.length_append, HAL.out, HNL.out]; omega
          rw [e5]
          exact HNX.out.1
        · rw [HNX.out.1.rd.at_eq, HV.out.rd.at_eq]
          have := HNX.out.2
          omega
end Go.Proofs.YtmbeamcjpidnjaaGreatDoor
namespace Go.Proofs.YtmbeamcjpidnjaaGreatDoor
open Go Go.RowKit

def rdNB (w : World) (b : Nat) : Nat := match w.cell? ⟨b, 2, none⟩ with
  | some (.bool true) => 0
  | _ => 1
theorem Rd.nb_eq {w : World} {b : Nat} {A : Option Addr} {c : Nat} {ws : List Wd} {at_ : Nat} {bad : Bool} (h : Rd w b A c ws at_ bad) : rdNB w b = if bad then 0 else 1 := by
  unfold rdNB
  rw [h.c2]
  cases bad <;> rfl
/-- What was read up to a bracket. -/
structure GotL (b : Nat) (A : Option Addr) (c : Nat) (ws : List Wd) (e : Wd) (p : Nat) (w : World) (r : Rs) (n : Nat) (ns : List Td) (v : Value) (w' : World) : Prop where
  pr : PR (.args e 0 []) (ws.drop p) r
  o : TdsO w.heap.size v ns w'
  nl : ns.length + r.rest.length ≤ (ws.drop p).length
  ev : ∀ m ms u, r = .ok m ms u → ms = ns ∧ m = n
  rd : Rd w' b A c ws (ws.length - r.rest.length) r.isBad
  bt : But w.heap.size b w w'
  le : n ≤ 60000
abbrev LisC (b : Nat) (A : Option Addr) (c : Nat) (ws : List Wd) (e : Wd) (p : Nat) : Prop := ∀ w : World, Rd w b A c ws p false → Calls Tryz.prog 101 #[.pointer (some ⟨b, 0, none⟩), .string (wbS e)] w fun ev w' => ∃ r n ns A' c', ev = .returned (.tuple #[.int .i64 ((n : Nat) : Int), .slice A' ns.length c']) ∧ GotL b A c ws e p w r n ns (.slice A' ns.length c') w'
/-- What the loop up to a bracket keeps. -/
structure LsAt (b : Nat) (A : Option Addr) (c : Nat) (ws : List Wd) (e : Wd) (p : Nat) (w : World) (q : Nat) (bad : Bool) (n : Nat) (acc : List Td) (v : Value) (wr : World) : Prop where
  le : q ≤ ws.length
  pq : p ≤ q
  cn : bad = false → n ≤ q - p
  nl : acc.length + (ws.length - q) ≤ ws.length - p
  o : TdsO w.heap.size v acc wr
  rd : Rd wr b A c ws q bad
  bt : But w.heap.size b w wr
  ok : bad = false → ∀ r, PR (.args e n acc) (ws.drop q) r → PR (.args e 0 []) (ws.drop p) r
  bd : bad = true → PR (.args e 0 []) (ws.drop p) (.bad (ws.drop q))
/-- One more was read, at the place itself or behind a comma. -/
theorem ls_next {b : Nat} {A : Option Addr} {c : Nat} {ws : List Wd} {e : Wd} {p : Nat} {w : World} {q q' : Nat} {n : Nat} {acc : List Td} {v : Value} {wr w3 w4 w5 : World} {r : Rs} {ns : List Td} {v4 v5 : Value} (hV : LsAt b A c ws e p w q false n acc v wr) (hq : q' ≤ ws.length) (hqq : q ≤ q')
    (hB : ∀ u, PR (.level 0) (ws.drop q') (.bad u) → PR (.args e n acc) (ws.drop q) (.bad u)) (hO : ∀ m ms u r, PR (.level 0) (ws.drop q') (.ok m ms u) → PR (.args e (n + 1) (acc ++ ms)) u r → PR (.args e n acc) (ws.drop q) r)
    (bt3 : But w.heap.size b w w3) (hs3 : w.heap.size ≤ w3.heap.size) (hG : Got b A c ws (.level 0) q' w3 r ns v4 w4) (hbw : b < w.heap.size) (b5 : Below w.heap.size w4 w5) (ho : TdsO w.heap.size v5 (acc ++ ns) w5) :
    LsAt b A c ws e p w (ws.length - r.rest.length) r.isBad (n + 1) (acc ++ ns) v5 w5 ∧ 2 * (ws.length - (ws.length - r.rest.length)) + (if r.isBad then 0 else 1) < 2 * (ws.length - q) + 1 := by
  have hsf := pr_suf hG.pr
  have h1 := rest_at hsf.1
  have hn := hG.n
  rw [drop_len hq] at hn
  have hVn := hV.nl
  have hVp := hV.pq
  have hVc := hV.cn rfl
  have hrd : Rd w5 b A c ws (ws.length - r.rest.length) r.isBad := hG.rd.keepB b5 hbw
  have hbt : But w.heap.size b w w5 := (bt3.trans (hG.bt.mono hs3)).trans (But.of b5)
  have hal : (acc ++ ns).length = acc.length + ns.length := List.length_append
  cases r with
  | bad u =>
    simp only [Rs.rest, Rs.isBad] at *
    exact ⟨⟨by omega, by omega, (fun e => by cases e), by rw [hal]; omega, ho, hrd, hbt, (fun e => by cases e), (fun _ => by rw [h1]; exact hV.ok rfl _ (hB _ hG.pr))⟩, by simp only [if_true]; omega⟩
  | ok m ms u =>
    have he := hG.e m ms u rfl
    subst he
    have h2 := hsf.2 m ms u rfl
    rw [drop_len hq] at h2
    simp only [Rs.rest, Rs.isBad, Job.eats] at *
    exact ⟨⟨by omega, by omega, (fun _ => by omega), by rw [hal]; omega, ho, hrd, hbt, (fun _ r hr => by rw [h1] at hr; exact hV.ok rfl _ (hO _ _ _ _ hG.pr hr)), (fun e => by cases e)⟩, by simp only [Bool.false_eq_true, if_false]; omega⟩
set_option maxRecDepth 100000 in
set_option maxHeartbeats 8000000 in
theorem list_step {b : Nat} {A : Option Addr} {c : Nat} {ws : List Wd} {e : Wd} {p : Nat} (he : e ≠ [44]) (hl : ws.length ≤ 60000) (hp : p ≤ ws.length) (hL : ∀ q, p ≤ q → q ≤ ws.length → LevC b A c ws 0 q) : LisC b A c ws e p := by
  intro w h
  have HL : Hid (∀ q, p ≤ q → q ≤ ws.length → LevC b A c ws 0 q) := hL
  have HE : Hid (e ≠ [44]) := he
  have hbw : b < w.heap.size := h.row.lt
  have HST : Hid (LsAt b A c ws e p w p false 0 [] (.slice none 0 0) w) := ⟨hp, Nat.le_refl _, fun _ => Nat.zero_le _, by simp, TdsO.nil _ _, h, But.refl _ _ _, fun _ r hr => hr, fun e => by cases e⟩
  clear h hL he
  generalize hS : wbS e = S
  have HS : Hid (wbS e = S) := hS
  clear hS
  go_enter Tryz.func101, Tryz.ntmps101
  go_wp2_with fail
  go_loopw [6, 7] (fun x n wr => ∃ (q : Nat) (bad : Bool) (n' : Nat) (acc : List Td) (A' : Option Addr) (c' : Nat), x = .slice A' acc.length c' ∧ n = .int .i64 (n' : Int) ∧ n' ≤ 60001 ∧ LsAt b A c ws e p w q bad n' acc (.slice A' acc.length c') wr) (fun _ _ wr => 2 * (ws.length - rdAt wr b) + rdNB wr b)
  case atStart => exact ⟨p, false, 0, [], none, 0, rfl, rfl, by omega, HST.out⟩
  case round =>
    obtain ⟨q, bad, n, acc, A1, c1, rfl, rfl, hn60, hV⟩ := hrel
    have HV := (show Hid (_) from hV)
    have d1 := hV.rd.c1
    have d2 := hV.rd.c2
    have hqle := hV.le
    have hpq := hV.pq
    have hn := hV.nl
    have hcn : bad = false → n ≤ 60000 := fun e => by have := hV.cn e; omega
    have hfz : wr.frozen? ⟨b, 1, none⟩ = false := hV.rd.row.frozen
    have hbs : b < wr.heap.size := hV.rd.row.lt
    have hwb := hV.bt.size
    generalize hal : acc.length = al at hn
    have HAL : Hid (acc.length = al) := hal
    clear hV hal
    cases bad with
    | true =>
      clear hcn
      go_wp2
      refine bodyPost_ret (v := .tuple #[.int .i64 0, .slice none 0 0]) (by simp [results, Tryz.results101, go_sem]) rfl ?_
      have hV := HV.out
      have hdl : (ws.drop q).length = ws.length - q := drop_len hqle
      have e1 : ws.length - (Rs.bad (ws.drop q)).rest.length = q := by simp only [Rs.rest, hdl]; omega
      refine ⟨.bad (ws.drop q), 0, [], none, 0, rfl, hV.bd rfl, TdsO.nil _ _, ?_, (fun _ _ _ e => by cases e), ?_, hV.bt, by omega⟩
      · rw [drop_len hp]
        simp only [Rs.rest, hdl, List.length_nil]
        omega
      · rw [e1]
        exact hV.rd
    | false =>
      have hn6 := hcn rfl
      clear hcn
      have HIS : Hid (Calls Tryz.prog 32 #[.pointer (some ⟨b, 0, none⟩), .string S] wr fun e' w' => e' = .returned (.bool (!false && (ws[q]? == some e))) ∧ ∃ q', w' = wr.drewN q') := by
        have := ris_any HV.out.rd e
        rw [HS.out] at this
        exact this
      cases hmr : (!false && (ws[q]? == some e)) with
      | true =>
        rw [hmr] at HIS
        have hq1 : ws[q]? = some e := by simpa using hmr
        obtain ⟨hqlt, hqe⟩ := List.getElem?_eq_some_iff.1 hq1
        have HDR : Hid (ws.drop q = e :: ws.drop (q + 1)) := by
          show _ = _
          rw [List.drop_eq_getElem_cons hqlt, hqe]
        clear hmr hq1 hqe
        go_wp2_with fail
        refine HIS.out.mono ?_
        rintro e' w2 ⟨rfl, q', rfl⟩
        go_wp2
        refine bodyPost_ret (v := .tuple #[.int .i64 (n : Int), .slice A1 al c1]) (by simp [results, Tryz.results101, go_sem]) rfl ?_
        have hV := HV.out
        have hdl : (ws.drop (q + 1)).length = ws.length - (q + 1) := drop_len (by omega)
        have e1 : ws.length - (Rs.ok n acc (ws.drop (q + 1))).rest.length = q + 1 := by simp only [Rs.rest, hdl]; omega
        have hrd : Rd ((wr.drewN q').setCell ⟨b, 1, none⟩ (.int .i64 ((q : Int) + 1))) b A c ws (q + 1) false := by
          have h2 := (hV.rd.keep (belDraw (Below.refl _ wr) q')).setAt (q + 1)
          rw [show ((q + 1 : Nat) : Int) = (q : Int) + 1 by omega] at h2
          exact h2
        have hbt : But wr.heap.size b wr ((wr.drewN q').setCell ⟨b, 1, none⟩ (.int .i64 ((q : Int) + 1))) := (But.of (belDraw (Below.refl _ wr) q')).setCell (p := ⟨b, 1, none⟩) (.inl rfl) _
        refine ⟨.ok n acc (ws.drop (q + 1)), n, acc, A1, c1, by rw [HAL.out], hV.ok rfl _ (by rw [HDR.out]; exact .aEnd), hV.o.but hbt hbw, ?_, (fun _ _ _ e => by cases e; exact ⟨rfl, rfl⟩), ?_, hV.bt.trans (hbt.mono hwb), hn6⟩
        · have h1 := hV.nl
          rw [drop_len hp]
          simp only [Rs.rest, hdl]
          omega
        · rw [e1]
          exact hrd
      | false =>
        rw [hmr] at HIS
        have hne : (ws.drop q).head? ≠ some e := by
          rw [head_drop]
          intro e0
          rw [e0] at hmr
          simp at hmr
        have HNE := (show Hid (_) from hne)
        clear hmr hne
        by_cases hn0 : n = 0
        · subst hn0
          go_wp2_with fail
          refine HIS.out.mono ?_
          rintro e' w2 ⟨rfl, q', rfl⟩
          have HLC : Hid (Calls Tryz.prog 35 #[.pointer (some ⟨b, 0, none⟩), .int .i64 0] (wr.drewN q') fun e w' => ∃ r ns A' c', e = .returned (.slice A' ns.length c') ∧ Got b A c ws (.level 0) q (wr.drewN q') r ns (.slice A' ns.length c') w') := HL.out q hpq hqle _ (HV.out.rd.keep (belDraw (Below.refl _ wr) q'))
          have HB2 : Hid (But wr.heap.size b wr (wr.drewN q')) := But.of (belDraw (Below.refl _ wr) q')
          generalize wr.drewN q' = w2 at HLC HB2 ⊢
          have hs2 := HB2.out.size
          go_wp2_with fail
          refine HLC.out.mono ?_
          rintro e' w4 ⟨r4, ns4, A4, c4, rfl, hG4⟩
          have HG4 := (show Hid (_) from hG4)
          have hn4 := hG4.n
          rw [drop_len (by omega)] at hn4
          have HT4 : Hid (Tds w4 A4 ns4) := hG4.o.tds
          have hs4 := hG4.bt.size
          have HO4 : Hid (TdsO w.heap.size (.slice A1 al c1) acc w4) := by
            have h1 := HV.out.o
            rw [HAL.out] at h1
            exact (h1.but HB2.out hbw).but hG4.bt hbw
          generalize hnl : ns4.length = n4 at hn4
          have HNL : Hid (ns4.length = n4) := hnl
          have HN4 : Hid (A4 = none → n4 = 0 ∧ c4 = 0) := by
            have h3 := hG4.o.none
            rw [hnl] at h3
            exact h3.2
          have hm4 : al + n4 ≤ 1000000 := by omega
          clear hG4 hnl hn4 HLC
          go_wp2_with (at_builtin; refine app_tds rfl _ _ rfl w.heap.size _ acc rfl HO4.out A4 n4 ns4 HNL.out c4 rfl HT4.out HN4.out (al + n4) (by rw [HAL.out]) hm4 (by omega) ?_)
          intro A5 c5 w5 hown5 hgrow5
          have hb5 : Below w.heap.size w4 w5 := (Below.refl _ _).grown hgrow5 (by omega) (fun k' hk => (World.ownsRow.lt HO4.out k' hk).1)
          have hnx := ls_next (q' := q) HV.out (by omega) (by omega) (fun u hu => .aB0 HNE.out hu) (fun m ms u r h1 h2 => .aO0 HNE.out h1 h2) (HV.out.bt.trans (HB2.out.mono hwb)) (by omega) HG4.out hbw hb5 hown5
          have HNX := (show Hid (_) from hnx)
          have e5 : (acc ++ ns4).length = al + n4 := by rw [List.length_append, HAL.out, HNL.out]
          have HE5 := (show Hid (_ = _) from e5)
          clear hown5 hgrow5 hb5 hnx e5
          go_wp2
          refine ⟨⟨ws.length - r4.rest.length, r4.isBad, 1, acc ++ ns4, A5, c5, by rw [HE5.out], rfl, by omega, ?_⟩, ?_⟩
          · rw [HE5.out]; exact HNX.out.1
          · rw [HNX.out.1.rd.at_eq, HV.out.rd.at_eq, HNX.out.1.rd.nb_eq, HV.out.rd.nb_eq]
            simpa using HNX.out.2
        · obtain ⟨n, rfl⟩ : ∃ n', n = n' + 1 := ⟨n - 1, by omega⟩
          have hn0i : (0 : Int) < ((n + 1 : Nat) : Int) := by omega
          have HWN : Hid (∀ q', Calls Tryz.prog 34 #[.pointer (some ⟨b, 0, none⟩), .string ⟨#[44]⟩] (wr.drewN q') fun e w' => (∃ v, e = .returned v) ∧ Rd w' b A c ws (wantAt ws q false [44]) (wantBad ws q false [44]) ∧ But (wr.drewN q').heap.size b (wr.drewN q') w') := fun q' => rwant_any (HV.out.rd.keep (belDraw (Below.refl _ wr) q')) hl hqle [44]
          cases hcm : (!false && (ws[q]? == some ([44] : Wd))) with
          | true =>
            have hq1 : ws[q]? = some ([44] : Wd) := by simpa using hcm
            obtain ⟨hqlt, hqe⟩ := List.getElem?_eq_some_iff.1 hq1
            have HDR : Hid (ws.drop q = [44] :: ws.drop (q + 1)) := by
              show _ = _
              rw [List.drop_eq_getElem_cons hqlt, hqe]
            unfold wantAt wantBad at HWN
            rw [hcm] at HWN
            simp only [if_true, Bool.not_true] at HWN
            clear hcm hq1 hqe
            go_wp2_with fail
            refine HIS.out.mono ?_
            rintro e' w1 ⟨rfl, q', rfl⟩
            go_wp2_with fail
            refine (HWN.out q').mono ?_
            rintro e' w2 ⟨⟨vv, rfl⟩, hR2, hb2⟩
            have HLC : Hid (Calls Tryz.prog 35 #[.pointer (some ⟨b, 0, none⟩), .int .i64 0] w2 fun e w' => ∃ r ns A' c', e = .returned (.slice A' ns.length c') ∧ Got b A c ws (.level 0) (q + 1) w2 r ns (.slice A' ns.length c') w') := HL.out (q + 1) (by omega) (by omega) _ hR2
            have HB2 : Hid (But wr.heap.size b wr w2) := (But.of (belDraw (Below.refl _ wr) q')).trans hb2
            have hs2 := HB2.out.size
            clear hR2 hb2
            go_wp2_with fail
            refine HLC.out.mono ?_
            rintro e' w4 ⟨r4, ns4, A4, c4, rfl, hG4⟩
            have HG4 := (show Hid (_) from hG4)
            have hn4 := hG4.n
            rw [drop_len (by omega)] at hn4
            have HT4 : Hid (Tds w4 A4 ns4) := hG4.o.tds
            have hs4 := hG4.bt.size
            have HO4 : Hid (TdsO w.heap.size (.slice A1 al c1) acc w4) := by
              have h1 := HV.out.o
              rw [HAL.out] at h1
              exact (h1.but HB2.out hbw).but hG4.bt hbw
            generalize hnl : ns4.length = n4 at hn4
            have HNL : Hid (ns4.length = n4) := hnl
            have HN4 : Hid (A4 = none → n4 = 0 ∧ c4 = 0) := by
              have h3 := hG4.o.none
              rw [hnl] at h3
              exact h3.2
            have hm4 : al + n4 ≤ 1000000 := by omega
            clear hG4 hnl hn4 HLC
            go_wp2_with (at_builtin; refine app_tds rfl _ _ rfl w.heap.size _ acc rfl HO4.out A4 n4 ns4 HNL.out c4 rfl HT4.out HN4.out (al + n4) (by rw [HAL.out]) hm4 (by omega) ?_)
            intro A5 c5 w5 hown5 hgrow5
            have hb5 : Below w.heap.size w4 w5 := (Below.refl _ _).grown hgrow5 (by omega) (fun k' hk => (World.ownsRow.lt HO4.out k' hk).1)
            have hnx := ls_next (q' := q + 1) HV.out (by omega) (by omega) (fun u hu => by rw [HDR.out]; exact .aB HE.out hu) (fun m ms u r h1 h2 => by rw [HDR.out]; exact .aO HE.out h1 h2) (HV.out.bt.trans (HB2.out.mono hwb)) (by omega) HG4.out hbw hb5 hown5
            have HNX := (show Hid (_) from hnx)
            have e5 : (acc ++ ns4).length = al + n4 := by rw [List.length_append, HAL.out, HNL.out]
            have HE5 := (show Hid (_ = _) from e5)
            clear hown5 hgrow5 hb5 hnx e5
            go_wp2
            refine ⟨⟨ws.length - r4.rest.length, r4.isBad, n + 1 + 1, acc ++ ns4, A5, c5, by rw [HE5.out], by go_num, by omega, ?_⟩, ?_⟩
            · rw [HE5.out]; exact HNX.out.1
            · rw [HNX.out.1.rd.at_eq, HV.out.rd.at_eq, HNX.out.1.rd.nb_eq, HV.out.rd.nb_eq]
              simpa using HNX.out.2
          | false =>
            have hnc : (ws.drop q).head? ≠ some [44] := by
              rw [head_drop]
              intro e0
              rw [e0] at hcm
              exact absurd hcm (by decide)
            have HNC := (show Hid (_) from hnc)
            unfold wantAt wantBad at HWN
            rw [hcm] at HWN
            simp only [Bool.false_eq_true, if_false, Bool.not_false] at HWN
            clear hcm hnc
            go_wp2_with fail
            refine HIS.out.mono ?_
            rintro e' w1 ⟨rfl, q', rfl⟩
            go_wp2_with fail
            refine (HWN.out q').mono ?_
            rintro e' w2 ⟨⟨vv, rfl⟩, hR2, hb2⟩
            have HLC : Hid (Calls Tryz.prog 35 #[.pointer (some ⟨b, 0, none⟩), .int .i64 0] w2 fun e w' => Sil b A c ws q w2 e w') := level_bad0 hR2
            have HB2 : Hid (But wr.heap.size b wr w2) := (But.of (belDraw (Below.refl _ wr) q')).trans hb2
            have hs2 := HB2.out.size
            clear hR2 hb2
            go_wp2_with fail
            refine HLC.out.mono ?_
            rintro e' w4 ⟨rfl, hR4, hb4⟩
            have HO4 : Hid (TdsO w.heap.size (.slice A1 al c1) acc w4) := by
              have h1 := HV.out.o
              rw [HAL.out] at h1
              exact (h1.but HB2.out hbw).but hb4 hbw
            have HR4 := (show Hid (_) from hR4)
            have HB4 : Hid (But w.heap.size b w w4) := (HV.out.bt.trans (HB2.out.mono hwb)).trans (hb4.mono (by omega))
            have hs4 := hb4.size
            clear hR4 hb4
            go_wp2_with (at_builtin; refine app_tds rfl _ _ rfl w.heap.size _ acc rfl HO4.out none 0 [] rfl 0 rfl (fun i hi => by simp at hi) (fun _ => ⟨rfl, rfl⟩) al (by rw [HAL.out]; rfl) (by omega) (by omega) ?_)
            intro A5 c5 w5 hown5 hgrow5
            have hb5 : Below w.heap.size w4 w5 := (Below.refl _ _).grown hgrow5 (by omega) (fun k' hk => (World.ownsRow.lt HO4.out k' hk).1)
            have HNX : Hid (LsAt b A c ws e p w q true (n + 1 + 1) acc (.slice A5 al c5) w5) := ⟨hqle, hpq, (fun e => by cases e), HV.out.nl, hown5, HR4.out.keepB hb5 hbw, HB4.out.trans (But.of hb5), (fun e => by cases e), fun _ => HV.out.ok rfl _ (.aSep HNE.out HNC.out)⟩
            clear hown5 hgrow5 hb5
            go_wp2
            refine ⟨⟨q, true, n + 1 + 1, acc, A5, c5, by rw [HAL.out], by go_num, by omega, ?_⟩, ?_⟩
            · rw [HAL.out]; exact HNX.out
            · rw [HNX.out.rd.at_eq, HV.out.rd.at_eq, HNX.out.rd.nb_eq, HV.out.rd.nb_eq]
              simp
end Go.Proofs.YtmbeamcjpidnjaaGreatDoor
