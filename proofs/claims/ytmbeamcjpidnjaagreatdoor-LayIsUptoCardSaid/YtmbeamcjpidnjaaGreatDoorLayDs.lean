/- Some texts as one: NodApp, AppN, LayD, LayK, LayL, LayT, LayS, LayU, LayV. -/
import Derived.Laws.AppendOwn
import Derived.OwnWalk
import Derived.Test.YtmbeamcjpidnjaaGreatDoorDocA0
import Derived.Test.YtmbeamcjpidnjaaGreatDoorMems
import Derived.Test.YtmbeamcjpidnjaaGreatDoorLayPs
import Derived.Test.YtmbeamcjpidnjaaGreatDoorSynDs
import Derived.Deep.RegionHeld3
namespace Go.Proofs.YtmbeamcjpidnjaaGreatDoor
open Go Go.RowKit

/-- A doc's cells. -/
def ndCells (ds : List Nd) : List Value := ds.flatMap fun x => [.int .i64 x.op, .string x.tx, .int .i64 x.n]
theorem ndCells_len : ∀ ds : List Nd, (ndCells ds).length = ds.length * 3
  | [] => rfl
  | x :: r => by
    have := ndCells_len r
    unfold ndCells at this ⊢
    rw [List.flatMap_cons, List.length_append, this, List.length_cons]
    simp
    omega
theorem ndCells_app (a b : List Nd) : ndCells (a ++ b) = ndCells a ++ ndCells b := by simp [ndCells, List.flatMap_append]
theorem ndCells_at : ∀ (ds : List Nd) (i : Nat) (h : i < ds.length), (ndCells ds)[i * 3]? = some (.int .i64 ds[i].op) ∧ (ndCells ds)[i * 3 + 1]? = some (.string ds[i].tx) ∧ (ndCells ds)[i * 3 + 2]? = some (.int .i64 ds[i].n)
  | x :: r, 0, _ => by simp [ndCells]
  | x :: r, i + 1, h => by
    have h1 := ndCells_at r i (by simpa using h)
    have e : ndCells (x :: r) = .int .i64 x.op :: .string x.tx :: .int .i64 x.n :: ndCells r := by simp [ndCells]
    rw [e, show (i + 1) * 3 = i * 3 + 1 + 1 + 1 by omega]
    exact h1
theorem ndCells_one (ds : List Nd) : ∀ u ∈ ndCells ds, u.oneCell' = true := by
  intro u hu
  obtain ⟨x, _, hx⟩ := List.mem_flatMap.1 hu
  simp at hx
  rcases hx with rfl | rfl | rfl <;> rfl
/-- A place of the cells is a node's field. -/
theorem ndCells_get (ds : List Nd) (j : Nat) (u : Value) (h : (ndCells ds)[j]? = some u) : ∃ i, ∃ hi : i < ds.length, (j = i * 3 ∧ u = .int .i64 ds[i].op) ∨ (j = i * 3 + 1 ∧ u = .string ds[i].tx) ∨ (j = i * 3 + 2 ∧ u = .int .i64 ds[i].n) := by
  have hj : j < ds.length * 3 := by rw [← ndCells_len]; exact (List.getElem?_eq_some_iff.1 h).1
  have hi : j / 3 < ds.length := by omega
  obtain ⟨h0, h1, h2⟩ := ndCells_at ds (j / 3) hi
  refine ⟨j / 3, hi, ?_⟩
  have h3 : j = j / 3 * 3 ∨ j = j / 3 * 3 + 1 ∨ j = j / 3 * 3 + 2 := by omega
  rcases h3 with e | e | e
  · rw [← e, h] at h0; exact .inl ⟨e, Option.some.inj h0⟩
  · rw [← e, h] at h1; exact .inr (.inl ⟨e, Option.some.inj h1⟩)
  · rw [← e, h] at h2; exact .inr (.inr ⟨e, Option.some.inj h2⟩)

theorem ndInfo : (Tryz.prog.info? 90).map (fun i => (i.zero, i.size, i.bytes)) = some (some (.agg #[.int .i64 0, .string ⟨#[]⟩, .int .i64 0]), 3, 32) := by kernel_rfl

/-- What the call owns is a doc in memory. -/
theorem own_nods {B : Nat} {w : World} {a : Option Addr} {n cap : Nat} {ds : List Nd} (h : w.ownsRow B 90 3 (.slice a n cap) ds.length (ndCells ds)) : n = ds.length ∧ ds.length ≤ cap ∧ Nods w a ds := by
  rcases h.2 with ⟨hv, h0⟩ | ⟨g, c, cur, hv, _, hg, hnc, _, hsz, htake⟩
  · simp only [Value.slice.injEq] at hv
    obtain ⟨rfl, rfl, rfl⟩ := hv
    refine ⟨h0.symm, by omega, fun i hi => ?_⟩
    omega
  · simp only [Value.slice.injEq] at hv
    obtain ⟨rfl, rfl, rfl⟩ := hv
    refine ⟨rfl, hnc, fun i hi => ?_⟩
    have hlt : g < w.heap.size := by
      rcases Nat.lt_or_ge g w.heap.size with h' | h'
      · exact h'
      · simp [Array.getElem?_eq_none h'] at hg
    have hcell : ∀ k u, (ndCells ds)[k]? = some u → w.cell? ⟨g, k, none⟩ = some u := by
      intro k u hk
      rw [← htake] at hk
      have hk2 : k < ds.length * 3 := by
        have := (List.getElem?_eq_some_iff.1 hk).1
        simp at this
        omega
      rw [List.getElem?_take_of_lt hk2] at hk
      simp only [World.cell?, hg]
      simpa using hk
    obtain ⟨h0, h1, h2⟩ := ndCells_at ds i hi
    refine ⟨g, 0, rfl, hlt, ?_, ?_, ?_⟩
    · rw [Nat.zero_add]; exact hcell _ _ h0
    · rw [Nat.zero_add]; exact hcell _ _ h1
    · rw [Nat.zero_add]; exact hcell _ _ h2
/-- The cells that are appended. -/
theorem nods_news {w : World} {b o : Nat} {ds : List Nd} (h : Nods w (some ⟨b, o, none⟩) ds) : ∀ j u, (ndCells ds)[j]? = some u → w.cell? ((⟨b, o, none⟩ : Addr).add j) = some u := by
  intro j u hj
  obtain ⟨i, hi, hc⟩ := ndCells_get ds j u hj
  obtain ⟨b', o', e, _, c1, c2, c3⟩ := h i hi
  simp only [Option.some.injEq, Addr.mk.injEq, and_true] at e
  obtain ⟨rfl, rfl⟩ := e
  have ha : ∀ k, (⟨b, o, none⟩ : Addr).add k = ⟨b, o + k, none⟩ := by
    intro k
    unfold Addr.add
    split
    · rename_i h; subst h; rfl
    · rfl
  rw [ha]
  rcases hc with ⟨rfl, rfl⟩ | ⟨rfl, rfl⟩ | ⟨rfl, rfl⟩
  · exact c1
  · rw [show o + (i * 3 + 1) = o + i * 3 + 1 by omega]; exact c2
  · rw [show o + (i * 3 + 2) = o + i * 3 + 2 by omega]; exact c3
end Go.Proofs.YtmbeamcjpidnjaaGreatDoor
namespace Go.Proofs.YtmbeamcjpidnjaaGreatDoor
open Go Go.RowKit
set_option maxRecDepth 100000

/-- Nodes that a call has gathered in a row of its own. -/
def NdsO (B : Nat) (v : Value) (xs : List Nd) (w : World) : Prop := w.ownsRow B 90 3 v xs.length (ndCells xs)
theorem NdsO.nods {B : Nat} {w : World} {A : Option Addr} {n c : Nat} {xs : List Nd} (h : NdsO B (.slice A n c) xs w) : Nods w A xs := (own_nods h).2.2
theorem NdsO.none {B : Nat} {w : World} {A : Option Addr} {n c : Nat} {xs : List Nd} (h : NdsO B (.slice A n c) xs w) : n = xs.length ∧ (A = none → n = 0 ∧ c = 0) := by
  rcases h.2 with ⟨hv, h0⟩ | ⟨g, c', cur, hv, _⟩
  · simp only [Value.slice.injEq] at hv
    obtain ⟨rfl, rfl, rfl⟩ := hv
    exact ⟨h0.symm, fun _ => ⟨rfl, rfl⟩⟩
  · simp only [Value.slice.injEq] at hv
    obtain ⟨rfl, rfl, rfl⟩ := hv
    exact ⟨rfl, fun e => by cases e⟩
theorem app_nds {w : World} {ops : Array Oper} {rest : List Oper} {o : Oper} {a : Act} {Q : Exit → Act → World → Prop} (hgd : o.guard = none) (s x : Operand)
    (ho : o.op = .call { callee := .builtin .append, args := #[s, x], argTypes := #[46, 46] })
    (base : Nat) (v : Value) (xs : List Nd) (hs : a.eval s = v) (hown : NdsO base v xs w)
    (wa : Option Addr) (n : Nat) (ws : List Nd) (hn : ws.length = n) (wc : Nat) (hx : a.eval x = .slice wa n wc) (hW : Nods w wa ws) (hnil : wa = none → n = 0 ∧ wc = 0)
    (m : Nat) (hm : xs.length + n = m) (hb : m ≤ 1000000) (hbase : base ≤ w.heap.size)
    (h : ∀ A c w', NdsO base (.slice A m c) (xs ++ ws) w' → w.grownBy w' v.ownBlock → wpList Tryz.prog ops Q rest (a.put o.dst (.slice A m c)) w') : wpList Tryz.prog ops Q (o :: rest) a w := by
  subst hn hm
  obtain ⟨i0, hi, hz0, hz1, hz2⟩ := info_parts ndInfo
  have h' : ∀ v' w', NdsO base v' (xs ++ ws) w' → w.grownBy w' v.ownBlock → wpList Tryz.prog ops Q rest (a.put o.dst v') w' := by
    intro v' w' h1 h2
    obtain ⟨A, c, rfl⟩ : ∃ A c, v' = .slice A (xs.length + ws.length) c := by
      rcases h1.2 with ⟨hv, h0⟩ | ⟨g, c, cur, hv, _⟩
      · rw [List.length_append] at h0; exact ⟨.none, 0, by rw [hv, h0]⟩
      · rw [List.length_append] at hv; exact ⟨_, c, hv⟩
    exact h A c w' h1 h2
  cases wa with
  | none =>
    obtain ⟨h0, rfl⟩ := hnil rfl
    obtain rfl : ws = [] := List.eq_nil_of_length_eq_zero h0
    refine wpList_append_own_none hgd s x 46 ho base 90 i0 3 Tryz.underlying46 hi v xs.length (ndCells xs) hs hown hx ?_
    refine h' v w ?_ ⟨rfl, rfl, rfl, Nat.le_refl _, fun _ _ _ => rfl⟩
    rw [List.append_nil]
    exact hown
  | some ad =>
    have hsp : ws = [] ∨ ∃ b o, ad = ⟨b, o, Option.none⟩ := by
      rcases Nat.eq_zero_or_pos ws.length with h0 | h0
      · exact .inl (List.eq_nil_of_length_eq_zero h0)
      · obtain ⟨b, o, e, _⟩ := hW 0 h0
        exact .inr ⟨b, o, by simpa using e⟩
    refine wpList_append_own w hgd s x 46 ho base 90 i0 _ 3 32 Tryz.underlying46 hi hz0 hz1 hz2 rfl (by decide) v xs.length (ndCells xs) hs hown ad ws.length wc (ndCells ws) hx (ndCells_len ws) ?_ (ndCells_one ws) (by unfold maxLen; omega) (by omega) hbase ?_
    · rcases hsp with rfl | ⟨b, o, rfl⟩
      · intro j u hj; simp [ndCells] at hj
      · exact nods_news hW
    · intro v' w' h1 h2 _
      rw [← ndCells_app] at h1
      refine h' v' w' ?_ h2
      show w'.ownsRow _ _ _ _ _ _
      rw [List.length_append]
      exact h1
theorem NdsO.down {B B' : Nat} {v : Value} {xs : List Nd} {w : World} (h : NdsO B v xs w) (hB : B' ≤ B) : NdsO B' v xs w := by
  refine ⟨h.1, ?_⟩
  rcases h.2 with h0 | ⟨g, c, cur, hv, hg, rest⟩
  · exact .inl h0
  · exact .inr ⟨g, c, cur, hv, by omega, rest⟩
theorem NdsO.kept {B : Nat} {v : Value} {xs : List Nd} {w w' : World} (h : NdsO B v xs w) (hk : ∀ g, B ≤ g → g < w.heap.size → w'.heap[g]? = w.heap[g]?) : NdsO B v xs w' := by
  refine ⟨h.1, ?_⟩
  rcases h.2 with h0 | ⟨g, c, cur, hv, hB, hg, rest⟩
  · exact .inl h0
  · exact .inr ⟨g, c, cur, hv, hB, (hk g hB (Array.getElem?_eq_some_iff.1 hg).1).trans hg, rest⟩
/-- A row of one node. -/
theorem NdsO.one (w : World) (x : Nd) : NdsO w.heap.size (.slice (some ⟨w.heap.size, 0, Option.none⟩) 1 1) [x] (w.alloc (.cells #[.int .i64 x.op, .string x.tx, .int .i64 x.n] 90)) := by
  have h1 : (w.alloc (.cells #[.int .i64 x.op, .string x.tx, .int .i64 x.n] 90)).heap[w.heap.size]? = some (.cells #[.int .i64 x.op, .string x.tx, .int .i64 x.n] 90 (0, 0)) := by
    show (w.heap.push _)[w.heap.size]? = _
    simp
  exact ⟨rfl, .inr ⟨w.heap.size, 1, _, rfl, Nat.le_refl _, h1, Nat.le_refl _, by unfold maxLen; decide, rfl, rfl⟩⟩
end Go.Proofs.YtmbeamcjpidnjaaGreatDoor
namespace Go.Proofs.YtmbeamcjpidnjaaGreatDoor
open Go Go.RowKit

/-- Nodes of a doc behind a value. -/
def NdV (w : World) (v : Value) (xs : List Nd) : Prop := ∃ A c, v = .slice A xs.length c ∧ Nods w A xs ∧ (A = none → xs.length = 0 ∧ c = 0)
theorem NdV.below {w w' : World} {v : Value} {xs : List Nd} (h : NdV w v xs) (hb : Below w.heap.size w w') : NdV w' v xs := by
  obtain ⟨A, c, e, h1, h2⟩ := h
  exact ⟨A, c, e, h1.below hb, h2⟩
theorem NdsO.val {B : Nat} {w : World} {A : Option Addr} {c : Nat} {xs : List Nd} (h : NdsO B (.slice A xs.length c) xs w) : NdV w (.slice A xs.length c) xs := ⟨A, c, rfl, h.nods, h.none.2⟩
/-- What a call hands back: a doc in a row of its own. -/
def NdR (w : World) (xs : List Nd) (e : Ending) (w' : World) : Prop := ∃ A c, e = .returned (.slice A xs.length c) ∧ NdsO w.heap.size (.slice A xs.length c) xs w' ∧ Below w.heap.size w w'
theorem NdR.val {w : World} {xs : List Nd} {e : Ending} {w' : World} (h : NdR w xs e w') : ∃ v, e = .returned v ∧ NdV w' v xs ∧ Below w.heap.size w w' := by
  obtain ⟨A, c, e, h1, h2⟩ := h
  exact ⟨_, e, h1.val, h2⟩
theorem NdR.from {w w0 : World} {xs : List Nd} {e : Ending} {w' : World} (h : NdR w xs e w') (hb : Below w0.heap.size w0 w) : NdR w0 xs e w' := by
  obtain ⟨A, c, e, h1, h2⟩ := h
  exact ⟨A, c, e, h1.down hb.size, belowT hb (Nat.le_refl _) h2⟩
set_option maxRecDepth 100000 in
theorem rWordD_any (s : ByteArray) (w : World) : Calls Tryz.prog 43 #[.string s] w fun e w' => NdR w [⟨1, s, 0⟩] e w' := by
  have HO := (show Hid (_) from NdsO.one w ⟨1, s, 0⟩)
  have HB : Hid (∀ O : Obj, Below w.heap.size w (w.alloc O)) := fun O => (Below.refl _ w).alloc (Nat.le_refl _) O
  go_enter Tryz.func43, Tryz.ntmps43
  go_wp2
  go_ret
  exact ⟨_, 1, rfl, HO.out, HB.out _⟩
set_option maxRecDepth 100000 in
set_option maxHeartbeats 1000000 in
theorem rUnder_any (x : Nd) {xs : List Nd} {v : Value} (w : World) (hx : NdV w v xs) (hl : xs.length ≤ 100000) : Calls Tryz.prog 46 #[.agg #[.int .i64 x.op, .string x.tx, .int .i64 x.n], v] w fun e w' => NdR w (x :: xs) e w' := by
  obtain ⟨A, c, rfl, hN, hnil⟩ := hx
  obtain ⟨xo, xt, xn⟩ := x
  have HN : Hid (Nods w A xs) := hN
  have HNL : Hid (A = none → xs.length = 0 ∧ c = 0) := hnil
  clear hN hnil
  generalize hn : xs.length = n at hl HNL ⊢
  have HLN : Hid (xs.length = n) := hn
  clear hn
  have HO : Hid (NdsO w.heap.size (.slice (some ⟨w.heap.size + 1, 0, none⟩) 1 1) [⟨xo, xt, xn⟩] ((w.alloc (.cells #[.int .i64 xo, .string xt, .int .i64 xn] 90)).alloc (.cells #[.int .i64 xo, .string xt, .int .i64 xn] 90))) := by
    have h := (NdsO.one (w.alloc (.cells #[.int .i64 xo, .string xt, .int .i64 xn] 90)) ⟨xo, xt, xn⟩).down (B' := w.heap.size) (by rw [World.size_alloc]; omega)
    rw [World.size_alloc] at h
    exact h
  have HB1 : Hid (Below w.heap.size w ((w.alloc (.cells #[.int .i64 xo, .string xt, .int .i64 xn] 90)).alloc (.cells #[.int .i64 xo, .string xt, .int .i64 xn] 90))) := ((Below.refl _ w).alloc (Nat.le_refl _) _).alloc (by rw [World.size_alloc]; omega) _
  have HN1 : Hid (Nods ((w.alloc (.cells #[.int .i64 xo, .string xt, .int .i64 xn] 90)).alloc (.cells #[.int .i64 xo, .string xt, .int .i64 xn] 90)) A xs) := HN.out.below HB1.out
  simp only
  go_enter Tryz.func46, Tryz.ntmps46
  go_wp2_with (at_builtin; refine app_nds rfl _ _ rfl w.heap.size _ [⟨xo, xt, xn⟩] rfl HO.out A n xs HLN.out c rfl HN1.out HNL.out (1 + n) rfl (by omega) (by simp only [World.size_alloc]; omega) ?_)
  intro A2 c2 w2 hO2 hg2
  have hb2 : Below w.heap.size w w2 := HB1.out.grown hg2 (by simp only [World.size_alloc]; omega) (fun k hk => (World.ownsRow.lt HO.out k hk).1)
  have HO2 : Hid (NdsO w.heap.size (.slice A2 (1 + n) c2) (⟨xo, xt, xn⟩ :: xs) w2) := hO2
  have HB2 : Hid (Below w.heap.size w w2) := hb2
  clear hO2 hg2 hb2
  go_wp2
  go_ret
  have e : (⟨xo, xt, xn⟩ :: xs : List Nd).length = 1 + n := by rw [List.length_cons, HLN.out]; omega
  exact ⟨A2, c2, by rw [e]; rfl, by rw [e]; exact HO2.out, HB2.out⟩
set_option maxRecDepth 100000 in
set_option maxHeartbeats 1000000 in
theorem rTwoD_any {xs ys : List Nd} {v u : Value} (w : World) (hx : NdV w v xs) (hy : NdV w u ys) (hl : xs.length + ys.length ≤ 100000) : Calls Tryz.prog 47 #[v, u] w fun e w' => NdR w (⟨6, ⟨#[]⟩, 0⟩ :: (xs ++ ys)) e w' := by
  obtain ⟨A, c, rfl, hN, hnil⟩ := hx
  obtain ⟨A', c', rfl, hM, hnil'⟩ := hy
  have HN : Hid (Nods w A xs) := hN
  have HM : Hid (Nods w A' ys) := hM
  have HNL : Hid (A = none → xs.length = 0 ∧ c = 0) := hnil
  have HML : Hid (A' = none → ys.length = 0 ∧ c' = 0) := hnil'
  clear hN hnil hM hnil'
  generalize hn : xs.length = n at hl HNL ⊢
  generalize hm : ys.length = m at hl HML ⊢
  have HLN : Hid (xs.length = n) := hn
  have HLM : Hid (ys.length = m) := hm
  clear hn hm
  have HO : Hid (NdsO w.heap.size (.slice (some ⟨w.heap.size, 0, none⟩) 1 1) [⟨6, ⟨#[]⟩, 0⟩] (w.alloc (.cells #[.int .i64 6, .string ⟨#[]⟩, .int .i64 0] 90))) := NdsO.one w ⟨6, ⟨#[]⟩, 0⟩
  have HB1 : Hid (Below w.heap.size w (w.alloc (.cells #[.int .i64 6, .string ⟨#[]⟩, .int .i64 0] 90))) := (Below.refl _ w).alloc (Nat.le_refl _) _
  have HN1 : Hid (Nods (w.alloc (.cells #[.int .i64 6, .string ⟨#[]⟩, .int .i64 0] 90)) A xs) := HN.out.below HB1.out
  go_enter Tryz.func47, Tryz.ntmps47
  go_wp2_with (at_builtin; refine app_nds rfl _ _ rfl w.heap.size _ [⟨6, ⟨#[]⟩, 0⟩] rfl HO.out A n xs HLN.out c rfl HN1.out HNL.out (1 + n) rfl (by omega) (by simp only [World.size_alloc]; omega) ?_)
  intro A2 c2 w2 hO2 hg2
  have hb2 : Below w.heap.size w w2 := HB1.out.grown hg2 (by simp only [World.size_alloc]; omega) (fun k hk => (World.ownsRow.lt HO.out k hk).1)
  have HO2 : Hid (NdsO w.heap.size (.slice A2 (1 + n) c2) (⟨6, ⟨#[]⟩, 0⟩ :: xs) w2) := hO2
  have HB2 : Hid (Below w.heap.size w w2) := hb2
  have HM2 : Hid (Nods w2 A' ys) := HM.out.below hb2
  have hs2 := hb2.size
  have HL2 : Hid ((⟨6, ⟨#[]⟩, 0⟩ :: xs : List Nd).length + m = 1 + n + m) := by
    show _ = _
    rw [List.length_cons, HLN.out]; omega
  clear hO2 hg2 hb2 HO HB1 HN1
  go_wp2_with (at_builtin; refine app_nds rfl _ _ rfl w.heap.size _ (⟨6, ⟨#[]⟩, 0⟩ :: xs) rfl HO2.out A' m ys HLM.out c' rfl HM2.out HML.out (1 + n + m) HL2.out (by omega) (by omega) ?_)
  intro A3 c3 w3 hO3 hg3
  have hb3 : Below w.heap.size w w3 := HB2.out.grown hg3 (by omega) (fun k hk => (World.ownsRow.lt HO2.out k hk).1)
  have HO3 : Hid (NdsO w.heap.size (.slice A3 (1 + n + m) c3) (⟨6, ⟨#[]⟩, 0⟩ :: (xs ++ ys)) w3) := hO3
  have HB3 : Hid (Below w.heap.size w w3) := hb3
  clear hO3 hg3 hb3
  go_wp2
  go_ret
  have e : (⟨6, ⟨#[]⟩, 0⟩ :: (xs ++ ys) : List Nd).length = 1 + n + m := by rw [List.length_cons, List.length_append, HLN.out, HLM.out]; omega
  exact ⟨A3, c3, by rw [e]; rfl, by rw [e]; exact HO3.out, HB3.out⟩
end Go.Proofs.YtmbeamcjpidnjaaGreatDoor
namespace Go.Proofs.YtmbeamcjpidnjaaGreatDoor
open Go Go.RowKit

abbrev DcAt (ds : List Td) (a : Option Addr) (cap i : Nat) (D : Tr) (W : World) : Prop :=
  Calls Tryz.prog 17 #[.slice a ds.length cap, .int .i64 (i : Int)] W fun e w' => NdR W D.nodes e w'
theorem in_yes {l : Nat} {x : Td} {D : Tr} (h : prc x < l) : (inD l x D).nodes = ⟨6, ⟨#[]⟩, 0⟩ :: ([⟨1, ⟨#[40]⟩, 0⟩] ++ (⟨6, ⟨#[]⟩, 0⟩ :: (D.nodes ++ [⟨1, ⟨#[41]⟩, 0⟩]))) := by
  rw [inD, if_pos h]; rfl
theorem in_no {l : Nat} {x : Td} {D : Tr} (h : ¬ prc x < l) : (inD l x D).nodes = D.nodes := by rw [inD, if_neg h]
set_option maxRecDepth 100000 in
set_option maxHeartbeats 4000000 in
theorem kidDoc_any {ds : List Td} {a : Option Addr} {cap p i : Nat} (W : World) (hN : Tds W a ds) (hp : p < ds.length) (hi : i < ds.length) (hop : ds[p].op = 5 ∨ ds[p].op = 6) (sec : Bool) (D : Tr) (hz : D.nodes.length ≤ 10000) (hT : DcAt ds a cap i D W) :
    Calls Tryz.prog 45 #[.slice a ds.length cap, .int .i64 (p : Int), .int .i64 (i : Int), .bool sec] W fun e w' => NdR W (inD (lvl ds[p].op sec) ds[i] D).nodes e w' := by
  have HN : Hid (Tds W a ds) := hN
  have HT : Hid (DcAt ds a cap i D W) := hT
  have HBD : Hid (∀ W' : World, Calls Tryz.prog 81 #[tdV ds[p], tdV ds[i], .bool sec] W' fun e w' => e = .returned (.bool (decide (prc ds[i] < lvl ds[p].op sec))) ∧ Below W'.heap.size W' w') := fun W' => by
    have := rBound_any ds[p] ds[i] sec W'
    rw [bnd_prc _ _ _ hop] at this
    exact this
  have hpi : (p : Int) < (ds.length : Int) := by omega
  have hii : (i : Int) < (ds.length : Int) := by omega
  have HY : Hid (prc ds[i] < lvl ds[p].op sec → (inD (lvl ds[p].op sec) ds[i] D).nodes = ⟨6, ⟨#[]⟩, 0⟩ :: ([⟨1, ⟨#[40]⟩, 0⟩] ++ (⟨6, ⟨#[]⟩, 0⟩ :: (D.nodes ++ [⟨1, ⟨#[41]⟩, 0⟩])))) := in_yes
  have HNO : Hid (¬ prc ds[i] < lvl ds[p].op sec → (inD (lvl ds[p].op sec) ds[i] D).nodes = D.nodes) := in_no
  have HC : Hid (∀ W', Below W.heap.size W W' → ∃ b o, a = some ⟨b, o, none⟩ ∧ b < W'.heap.size ∧ (W'.cell? ⟨b, o + p * 3, none⟩ = some (.int .i64 ds[p].op) ∧ W'.cell? ⟨b, o + p * 3 + 1, none⟩ = some (.string ds[p].tx) ∧ W'.cell? ⟨b, o + p * 3 + 2, none⟩ = some (.int .i64 ds[p].n)) ∧ (W'.cell? ⟨b, o + i * 3, none⟩ = some (.int .i64 ds[i].op) ∧ W'.cell? ⟨b, o + i * 3 + 1, none⟩ = some (.string ds[i].tx) ∧ W'.cell? ⟨b, o + i * 3 + 2, none⟩ = some (.int .i64 ds[i].n))) := fun W' hb => by
    obtain ⟨bp, op, e1, hbp, p1, p2, p3⟩ := (HN.out.below hb) p hp
    obtain ⟨bi, oi, e2, hbi, i1, i2, i3⟩ := (HN.out.below hb) i hi
    rw [e1] at e2
    simp only [Option.some.injEq, Addr.mk.injEq, and_true] at e2
    obtain ⟨rfl, rfl⟩ := e2
    exact ⟨bp, op, e1, hbp, ⟨p1, p2, p3⟩, ⟨i1, i2, i3⟩⟩
  generalize (inD (lvl ds[p].op sec) ds[i] D).nodes = R at HY HNO ⊢
  generalize hpl : lvl ds[p].op sec = l at HY HNO HBD
  unfold DcAt at HT
  generalize D.nodes = xs at HY HNO HT hz
  clear hN hT hop hpl HN
  generalize ds[p] = xp at HC HBD
  generalize ds[i] = xi at HC HBD HY HNO
  generalize prc xi = pr at HY HNO HBD
  obtain ⟨po, pt, pn⟩ := xp
  obtain ⟨io, it, inn⟩ := xi
  by_cases hb : pr < l
  · have HR := (show Hid (_ = _) from HY.out hb)
    have HB1 : Hid (decide (pr < l) = true) := decide_eq_true hb
    clear hb HY HNO
    go_enter Tryz.func45, Tryz.ntmps45
    go_wp2_with fail
    refine HT.out.mono ?_
    rintro e w1 hres
    obtain ⟨v1, rfl, hv1, b1⟩ := hres.val
    have HV1 : Hid (NdV w1 v1 xs) := hv1
    obtain ⟨bp, op, rfl, hlb, ⟨p1, p2, p3⟩, i1, i2, i3⟩ := HC.out w1 b1
    have HBD1 : Hid (Calls Tryz.prog 81 #[tdV ⟨po, pt, pn⟩, tdV ⟨io, it, inn⟩, .bool sec] w1.drew fun e w' => e = .returned (.bool (decide (pr < l))) ∧ Below w1.heap.size w1 w') := (HBD.out w1.drew).mono fun _ _ h => ⟨h.1, (Below.refl w1.heap.size w1).drew.trans h.2⟩
    have d1 : w1.drew.cell? ⟨bp, op + p * 3, none⟩ = some (.int .i64 po) := p1
    have d2 : w1.drew.cell? ⟨bp, op + p * 3 + 1, none⟩ = some (.string pt) := p2
    have d3 : w1.drew.cell? ⟨bp, op + p * 3 + 2, none⟩ = some (.int .i64 pn) := p3
    have d4 : w1.drew.cell? ⟨bp, op + i * 3, none⟩ = some (.int .i64 io) := i1
    have d5 : w1.drew.cell? ⟨bp, op + i * 3 + 1, none⟩ = some (.string it) := i2
    have d6 : w1.drew.cell? ⟨bp, op + i * 3 + 2, none⟩ = some (.int .i64 inn) := i3
    have HB1' := (show Hid (_) from b1)
    clear HC HBD HT b1 hv1 hres
    go_wp2_with fail
    go_region_held3 (fun w' => w'.cell? ⟨bp, op + p * 3, none⟩ = some (.int .i64 po) ∧ w'.cell? ⟨bp, op + p * 3 + 1, none⟩ = some (.string pt) ∧ w'.cell? ⟨bp, op + p * 3 + 2, none⟩ = some (.int .i64 pn) ∧ w'.cell? ⟨bp, op + i * 3, none⟩ = some (.int .i64 io) ∧ w'.cell? ⟨bp, op + i * 3 + 1, none⟩ = some (.string it) ∧ w'.cell? ⟨bp, op + i * 3 + 2, none⟩ = some (.int .i64 inn))
      (first | with_reducible exact ⟨d1, d2, d3, d4, d5, d6⟩ | with_reducible exact ⟨p1, p2, p3, i1, i2, i3⟩ | with_reducible exact ⟨(hb2.cell (p := ⟨bp, _, none⟩) hlb).trans p1, (hb2.cell (p := ⟨bp, _, none⟩) hlb).trans p2, (hb2.cell (p := ⟨bp, _, none⟩) hlb).trans p3, (hb2.cell (p := ⟨bp, _, none⟩) hlb).trans i1, (hb2.cell (p := ⟨bp, _, none⟩) hlb).trans i2, (hb2.cell (p := ⟨bp, _, none⟩) hlb).trans i3⟩)
      ((go_at_call 81; refine HBD1.out.mono ?_; rintro e w2 ⟨rfl, hb2⟩; rw [HB1.out]))
    all_goals
      have HV2 : Hid (NdV w2 v1 xs) := HV1.out.below hb2
      have HB2 : Hid (Below W.heap.size W w2) := belowT HB1'.out (Nat.le_refl _) hb2
      clear hb2
      go_wp2_with fail
      refine (rWordD_any _ _).mono ?_
      rintro e w3 h3
      obtain ⟨v3, rfl, n3, b3⟩ := h3.val
      have HB3 : Hid (Below W.heap.size W w3) := belowT HB2.out (Nat.le_refl _) b3
      have HV3 : Hid (NdV w3 v3 [⟨1, ⟨#[40]⟩, 0⟩]) := n3
      have HD3 : Hid (NdV w3 v1 xs) := HV2.out.below b3
      clear h3 n3 b3 HB2 HV2
      go_wp2_with fail
      refine (rWordD_any _ _).mono ?_
      rintro e w4 h4
      obtain ⟨v4, rfl, n4, b4⟩ := h4.val
      have HB4 : Hid (Below W.heap.size W w4) := belowT HB3.out (Nat.le_refl _) b4
      have HV4 : Hid (NdV w4 v4 [⟨1, ⟨#[41]⟩, 0⟩]) := n4
      have HD4 : Hid (NdV w4 v1 xs) := HD3.out.below b4
      have HP4 : Hid (NdV w4 v3 [⟨1, ⟨#[40]⟩, 0⟩]) := HV3.out.below b4
      clear h4 n4 b4 HB3 HV3 HD3
      go_wp2_with fail
      refine (rTwoD_any _ HD4.out HV4.out (by simp; omega)).mono ?_
      rintro e w5 h5
      obtain ⟨v5, rfl, n5, b5⟩ := h5.val
      have HB5 : Hid (Below W.heap.size W w5) := belowT HB4.out (Nat.le_refl _) b5
      have HV5 : Hid (NdV w5 v5 (⟨6, ⟨#[]⟩, 0⟩ :: (xs ++ [⟨1, ⟨#[41]⟩, 0⟩]))) := n5
      have HP5 : Hid (NdV w5 v3 [⟨1, ⟨#[40]⟩, 0⟩]) := HP4.out.below b5
      clear h5 n5 b5 HB4 HV4 HD4 HP4
      go_wp2_with fail
      refine (rTwoD_any _ HP5.out HV5.out (by simp; omega)).mono ?_
      rintro e w6 h6
      have HR6 : Hid (NdR W R e w6) := by
        show NdR W R e w6
        rw [HR.out]
        exact h6.from HB5.out
      obtain ⟨v6, rfl, _, _⟩ := h6.val
      clear h6
      go_wp2
      go_ret
      exact HR6.out
  · have HR := (show Hid (_ = _) from HNO.out hb)
    have HB1 : Hid (decide (pr < l) = false) := decide_eq_false hb
    clear hb HY HNO
    go_enter Tryz.func45, Tryz.ntmps45
    go_wp2_with fail
    refine HT.out.mono ?_
    rintro e w1 hres
    have HRES : Hid (NdR W xs e w1) := hres
    obtain ⟨v1, rfl, hv1, b1⟩ := hres.val
    have HV1 : Hid (NdV w1 v1 xs) := hv1
    obtain ⟨bp, op, rfl, hlb, ⟨p1, p2, p3⟩, i1, i2, i3⟩ := HC.out w1 b1
    have HBD1 : Hid (Calls Tryz.prog 81 #[tdV ⟨po, pt, pn⟩, tdV ⟨io, it, inn⟩, .bool sec] w1.drew fun e w' => e = .returned (.bool (decide (pr < l))) ∧ Below w1.heap.size w1 w') := (HBD.out w1.drew).mono fun _ _ h => ⟨h.1, (Below.refl w1.heap.size w1).drew.trans h.2⟩
    have d1 : w1.drew.cell? ⟨bp, op + p * 3, none⟩ = some (.int .i64 po) := p1
    have d2 : w1.drew.cell? ⟨bp, op + p * 3 + 1, none⟩ = some (.string pt) := p2
    have d3 : w1.drew.cell? ⟨bp, op + p * 3 + 2, none⟩ = some (.int .i64 pn) := p3
    have d4 : w1.drew.cell? ⟨bp, op + i * 3, none⟩ = some (.int .i64 io) := i1
    have d5 : w1.drew.cell? ⟨bp, op + i * 3 + 1, none⟩ = some (.string it) := i2
    have d6 : w1.drew.cell? ⟨bp, op + i * 3 + 2, none⟩ = some (.int .i64 inn) := i3
    have HB1' := (show Hid (_) from b1)
    clear HC HBD HT b1 hv1 hres
    go_wp2_with fail
    go_region_held3 (fun w' => w'.cell? ⟨bp, op + p * 3, none⟩ = some (.int .i64 po) ∧ w'.cell? ⟨bp, op + p * 3 + 1, none⟩ = some (.string pt) ∧ w'.cell? ⟨bp, op + p * 3 + 2, none⟩ = some (.int .i64 pn) ∧ w'.cell? ⟨bp, op + i * 3, none⟩ = some (.int .i64 io) ∧ w'.cell? ⟨bp, op + i * 3 + 1, none⟩ = some (.string it) ∧ w'.cell? ⟨bp, op + i * 3 + 2, none⟩ = some (.int .i64 inn))
      (first | with_reducible exact ⟨d1, d2, d3, d4, d5, d6⟩ | with_reducible exact ⟨p1, p2, p3, i1, i2, i3⟩ | with_reducible exact ⟨(hb2.cell (p := ⟨bp, _, none⟩) hlb).trans p1, (hb2.cell (p := ⟨bp, _, none⟩) hlb).trans p2, (hb2.cell (p := ⟨bp, _, none⟩) hlb).trans p3, (hb2.cell (p := ⟨bp, _, none⟩) hlb).trans i1, (hb2.cell (p := ⟨bp, _, none⟩) hlb).trans i2, (hb2.cell (p := ⟨bp, _, none⟩) hlb).trans i3⟩)
      ((go_at_call 81; refine HBD1.out.mono ?_; rintro e w2 ⟨rfl, hb2⟩; rw [HB1.out]))
    all_goals
      obtain ⟨A9, c9, e9, o9, b9⟩ := HRES.out
      have HRR : Hid (NdR W R (.returned v1) w2) := ⟨A9, c9, by rw [HR.out]; exact e9, by rw [HR.out]; exact o9.kept fun g _ h => hb2.block g h, belowT b9 (Nat.le_refl _) hb2⟩
      clear hb2 o9 b9
      go_wp2
      go_ret
      exact HRR.out
end Go.Proofs.YtmbeamcjpidnjaaGreatDoor
namespace Go.Proofs.YtmbeamcjpidnjaaGreatDoor
open Go Go.RowKit

def DcH (ds : List Td) (a : Option Addr) (cap : Nat) (F : Fo) (D : Tr) : Prop := ∀ i r, ds.drop i = F.nodes ++ r → ∀ W : World, Tds W a ds → DcAt ds a cap i D W
def DcA (ds : List Td) (a : Option Addr) (cap : Nat) : Fo → Prop
  | .nil => True
  | .cons x k n => DcH ds a cap (.cons x k n) (dcOf x k.dcs) ∧ DcA ds a cap n
/-- A struct's three cells. -/
def Cel3 (w : World) (b : Nat) (o : Int) (t : ByteArray) (n : Int) : Prop := b < w.heap.size ∧ w.cell? ⟨b, 0, none⟩ = some (.int .i64 o) ∧ w.cell? ⟨b, 1, none⟩ = some (.string t) ∧ w.cell? ⟨b, 2, none⟩ = some (.int .i64 n)
theorem Cel3.below {w w' : World} {b : Nat} {o : Int} {t : ByteArray} {n : Int} (h : Cel3 w b o t n) (hb : Below w.heap.size w w') : Cel3 w' b o t n := by
  obtain ⟨h0, h1, h2, h3⟩ := h
  have := hb.size
  exact ⟨by omega, ((bcell hb).1 _ _ h0).trans h1, ((bcell hb).1 _ _ h0).trans h2, ((bcell hb).1 _ _ h0).trans h3⟩
theorem Cel3.new (w : World) (o : Int) (t : ByteArray) (n : Int) (ty : TypeId) : Cel3 (w.alloc (.cells #[.int .i64 o, .string t, .int .i64 n] ty)) w.heap.size o t n := by
  have h1 : (w.alloc (.cells #[.int .i64 o, .string t, .int .i64 n] ty)).heap[w.heap.size]? = some (.cells #[.int .i64 o, .string t, .int .i64 n] ty (0, 0)) := by
    show (w.heap.push _)[w.heap.size]? = _
    simp
  have h2 : ∀ k, (w.alloc (.cells #[.int .i64 o, .string t, .int .i64 n] ty)).cell? ⟨w.heap.size, k, none⟩ = (match (w.alloc (.cells #[.int .i64 o, .string t, .int .i64 n] ty)).heap[w.heap.size]? with
    | some (.cells c _ _) => c[k]?
    | _ => none) := fun _ => rfl
  exact ⟨by rw [World.size_alloc]; omega, by rw [h2, h1]; rfl, by rw [h2, h1]; rfl, by rw [h2, h1]; rfl⟩
/-- What DocOf has laid at its beginning. -/
structure DcPre (W : World) (x : Td) (w : World) : Prop where
  b : Below W.heap.size W w
  n : Cel3 w W.heap.size x.op x.tx x.n
  bl : NdV w (.slice (some ⟨W.heap.size + 1, 0, none⟩) 1 1) [⟨2, ⟨#[]⟩, 0⟩]
  sf : NdV w (.slice (some ⟨W.heap.size + 1 + 1, 0, none⟩) 1 1) [⟨3, ⟨#[]⟩, 0⟩]
  gr : Cel3 w (W.heap.size + 1 + 1 + 1) 8 ⟨#[]⟩ 0
  dp : Cel3 w (W.heap.size + 1 + 1 + 1 + 1) 7 ⟨#[]⟩ 2
theorem DcPre.below {W : World} {x : Td} {w w' : World} (h : DcPre W x w) (hb : Below w.heap.size w w') : DcPre W x w' :=
  ⟨belowT h.b (Nat.le_refl _) hb, h.n.below hb, h.bl.below hb, h.sf.below hb, h.gr.below hb, h.dp.below hb⟩
abbrev dcW (W : World) (o : Int) (t : ByteArray) (n : Int) : World := ((((W.alloc (.cells #[.int .i64 o, .string t, .int .i64 n] 39)).alloc (.cells #[.int .i64 2, .string ⟨#[]⟩, .int .i64 0] 90)).alloc (.cells #[.int .i64 3, .string ⟨#[]⟩, .int .i64 0] 90)).alloc (.cells #[.int .i64 8, .string ⟨#[]⟩, .int .i64 0] 90)).alloc (.cells #[.int .i64 7, .string ⟨#[]⟩, .int .i64 2] 90)
theorem dc_pre (W : World) (x : Td) : DcPre W x (dcW W x.op x.tx x.n) := by
  have s : ∀ (w : World) (O : Obj), Below w.heap.size w (w.alloc O) := fun w O => (Below.refl _ w).alloc (Nat.le_refl _) O
  have hn := ((((Cel3.new W x.op x.tx x.n 39).below (s _ (.cells #[.int .i64 2, .string ⟨#[]⟩, .int .i64 0] 90))).below (s _ (.cells #[.int .i64 3, .string ⟨#[]⟩, .int .i64 0] 90))).below (s _ (.cells #[.int .i64 8, .string ⟨#[]⟩, .int .i64 0] 90))).below (s _ (.cells #[.int .i64 7, .string ⟨#[]⟩, .int .i64 2] 90))
  generalize hO : Obj.cells #[.int .i64 x.op, .string x.tx, .int .i64 x.n] 39 = O at hn
  have z1 : (W.alloc O).heap.size = W.heap.size + 1 := World.size_alloc _ _
  have bl := (NdsO.one (W.alloc O) ⟨2, ⟨#[]⟩, 0⟩).val
  have z2 : ((W.alloc O).alloc (.cells #[.int .i64 2, .string ⟨#[]⟩, .int .i64 0] 90)).heap.size = W.heap.size + 1 + 1 := by rw [World.size_alloc, z1]
  rw [z1] at bl
  have bl3 := ((bl.below (s _ (.cells #[.int .i64 3, .string ⟨#[]⟩, .int .i64 0] 90))).below (s _ (.cells #[.int .i64 8, .string ⟨#[]⟩, .int .i64 0] 90))).below (s _ (.cells #[.int .i64 7, .string ⟨#[]⟩, .int .i64 2] 90))
  have sf := (NdsO.one ((W.alloc O).alloc (.cells #[.int .i64 2, .string ⟨#[]⟩, .int .i64 0] 90)) ⟨3, ⟨#[]⟩, 0⟩).val
  rw [z2] at sf
  have z3 : (((W.alloc O).alloc (.cells #[.int .i64 2, .string ⟨#[]⟩, .int .i64 0] 90)).alloc (.cells #[.int .i64 3, .string ⟨#[]⟩, .int .i64 0] 90)).heap.size = W.heap.size + 1 + 1 + 1 := by rw [World.size_alloc, z2]
  have sf2 := (sf.below (s _ (.cells #[.int .i64 8, .string ⟨#[]⟩, .int .i64 0] 90))).below (s _ (.cells #[.int .i64 7, .string ⟨#[]⟩, .int .i64 2] 90))
  have gr := Cel3.new (((W.alloc O).alloc (.cells #[.int .i64 2, .string ⟨#[]⟩, .int .i64 0] 90)).alloc (.cells #[.int .i64 3, .string ⟨#[]⟩, .int .i64 0] 90)) 8 ⟨#[]⟩ 0 90
  rw [z3] at gr
  have z4 : ((((W.alloc O).alloc (.cells #[.int .i64 2, .string ⟨#[]⟩, .int .i64 0] 90)).alloc (.cells #[.int .i64 3, .string ⟨#[]⟩, .int .i64 0] 90)).alloc (.cells #[.int .i64 8, .string ⟨#[]⟩, .int .i64 0] 90)).heap.size = W.heap.size + 1 + 1 + 1 + 1 := by rw [World.size_alloc, z3]
  have dp := Cel3.new ((((W.alloc O).alloc (.cells #[.int .i64 2, .string ⟨#[]⟩, .int .i64 0] 90)).alloc (.cells #[.int .i64 3, .string ⟨#[]⟩, .int .i64 0] 90)).alloc (.cells #[.int .i64 8, .string ⟨#[]⟩, .int .i64 0] 90)) 7 ⟨#[]⟩ 2 90
  rw [z4] at dp
  have bb : Below W.heap.size W (dcW W x.op x.tx x.n) := by
    refine (((((Below.refl _ W).alloc (Nat.le_refl _) _).alloc ?_ _).alloc ?_ _).alloc ?_ _).alloc ?_ _ <;> simp only [World.size_alloc] <;> omega
  subst hO
  exact ⟨bb, hn, bl3, sf2, gr.below (s _ _), dp⟩
set_option maxRecDepth 100000 in
set_option maxHeartbeats 2000000 in
theorem doc_leaf {ds : List Td} {a : Option Addr} {cap : Nat} (hs : StIn ds) {x : Td} {k n : Fo} (hok : (Fo.cons x k n).ok) (hx : exN x) (h2 : x.op = 1 ∨ x.op = 2) : DcH ds a cap (.cons x k n) (dcOf x k.dcs) := by
  intro i r hi W hN
  obtain ⟨hp, e1, _, _, _⟩ := fo_at hi hok
  obtain ⟨b, o, rfl, hb, c1, c2, c3⟩ := hN i hp
  have hl := hs.l
  have hii : (i : Int) < (ds.length : Int) := by omega
  rw [e1] at c1 c2 c3
  have HPR : Hid (DcPre W x (dcW W x.op x.tx x.n)) := dc_pre W x
  obtain ⟨xo, xt, xn⟩ := x
  simp only at c1 c2 c3 HPR h2
  rcases exN_cases hx with ⟨ho, htx, hn0, hn1, _⟩ | ⟨ho, _, hn2, _⟩ | ⟨ho, _⟩ | ⟨ho, _⟩ | ⟨ho, _⟩ | ⟨ho, _⟩
  · simp only at ho hn0 hn1
    subst ho
    obtain ⟨m, rfl⟩ : ∃ m : Nat, xn = (m : Int) := ⟨xn.toNat, by omega⟩
    have HT : Hid (dcOf ⟨1, xt, (m : Int)⟩ k.dcs = wdD (decL m)) := by show _ = _; simp [dcOf]
    have hm9 : m ≤ 999999 := by omega
    clear e1 hi hok hx h2 htx hn0 hn1 hN
    unfold DcAt
    rw [HT.out]
    have HD : Hid (∀ W : World, Calls Tryz.prog 44 #[.int .i64 (m : Int)] W fun e w' => e = .returned (.string (wbS (decL m))) ∧ W = w') := fun W => rDec_any m hm9 W
    show Calls _ _ _ _ fun e w' => NdR W [⟨1, wbS (decL m), 0⟩] e w'
    generalize wbS (decL m) = T at HD ⊢
    go_enter Tryz.func17, Tryz.ntmps17
    go_wp2_with fail
    refine (HD.out _).mono ?_
    rintro e w2 ⟨rfl, rfl⟩
    go_wp2_with fail
    refine (rWordD_any _ _).mono ?_
    rintro e w3 h3
    have HR : Hid (NdR W [⟨1, T, 0⟩] e w3) := h3.from HPR.out.b
    obtain ⟨v3, rfl, _, _⟩ := h3.val
    clear h3
    go_wp2
    go_ret
    exact HR.out
  · simp only at ho hn2
    subst ho hn2
    have HT : Hid (dcOf ⟨2, xt, 0⟩ k.dcs = wdD (btL xt)) := by show _ = _; simp [dcOf]
    clear e1 hi hok hx h2 hN
    unfold DcAt
    rw [HT.out]
    show Calls _ _ _ _ fun e w' => NdR W [⟨1, xt, 0⟩] e w'
    go_enter Tryz.func17, Tryz.ntmps17
    go_wp2_with fail
    refine (rWordD_any _ _).mono ?_
    rintro e w3 h3
    have HR : Hid (NdR W [⟨1, xt, 0⟩] e w3) := h3.from HPR.out.b
    obtain ⟨v3, rfl, _, _⟩ := h3.val
    clear h3
    go_wp2
    go_ret
    exact HR.out
  · simp only at ho; omega
  · simp only at ho; omega
  · simp only at ho; omega
  · simp only at ho; omega
end Go.Proofs.YtmbeamcjpidnjaaGreatDoor
namespace Go.Proofs.YtmbeamcjpidnjaaGreatDoor
open Go Go.RowKit

theorem dc_short {ds : List Td} (hs : StIn ds) {i : Nat} {F : Fo} {r : List Td} (h : ds.drop i = F.nodes ++ r) : sumD F.dcs ≤ 800 := by
  have h1 := dcs_nl F
  have h2 := congrArg List.length h
  rw [List.length_drop, List.length_append] at h2
  have := hs.l
  omega
/-- The cells of the two nodes that DocOf keeps. -/
abbrev Six (W w : World) : Prop := w.cell? ⟨W.heap.size + 1 + 1 + 1, 0, none⟩ = some (.int .i64 8) ∧ w.cell? ⟨W.heap.size + 1 + 1 + 1, 1, none⟩ = some (.string ⟨#[]⟩) ∧ w.cell? ⟨W.heap.size + 1 + 1 + 1, 2, none⟩ = some (.int .i64 0) ∧ w.cell? ⟨W.heap.size + 1 + 1 + 1 + 1, 0, none⟩ = some (.int .i64 7) ∧ w.cell? ⟨W.heap.size + 1 + 1 + 1 + 1, 1, none⟩ = some (.string ⟨#[]⟩) ∧ w.cell? ⟨W.heap.size + 1 + 1 + 1 + 1, 2, none⟩ = some (.int .i64 2)
theorem DcPre.six {W : World} {x : Td} {w : World} (h : DcPre W x w) : Six W w := ⟨h.gr.2.1, h.gr.2.2.1, h.gr.2.2.2, h.dp.2.1, h.dp.2.2.1, h.dp.2.2.2⟩
set_option maxRecDepth 100000 in
set_option maxHeartbeats 8000000 in
theorem doc_two {ds : List Td} {a : Option Addr} {cap : Nat} (hs : StIn ds) {x : Td} {k n : Fo} (hok : (Fo.cons x k n).ok) (hex : (Fo.cons x k n).exs) (h2 : x.op = 5 ∨ x.op = 6) (hk : DcA ds a cap k) : DcH ds a cap (.cons x k n) (dcOf x k.dcs) := by
  intro i r hi W hN
  obtain ⟨hp, e1, e2, _, _⟩ := fo_at hi hok
  have hkd : kdT x = 2 := by
    unfold kdT
    rcases h2 with h | h <;> rw [h] <;> rfl
  have hkl : k.len = 2 := hok.1.trans hkd
  obtain ⟨xa, ka, xb, kb, rfl⟩ : ∃ xa ka xb kb, k = .cons xa ka (.cons xb kb .nil) := by
    match k, hkl with
    | .cons xa ka (.cons xb kb .nil), _ => exact ⟨xa, ka, xb, kb, rfl⟩
  have htr : (Fo.cons xa ka (.cons xb kb .nil)).dcs = [(xa, dcOf xa ka.dcs), (xb, dcOf xb kb.dcs)] := rfl
  have hz := dc_short hs e2
  rw [htr, sumD_cons, sumD_cons] at hz
  obtain ⟨hpa, ea, _, ena, eda⟩ := fo_at e2 hok.2.1
  obtain ⟨hpb, eb, _, _, _⟩ := fo_at eda hok.2.1.2.2
  generalize hj : i + 1 + 1 + ka.nodes.length = j at ena eda hpb eb
  have HN : Hid (Tds W a ds) := hN
  have hl := hs.l
  have hza : (dcOf xa ka.dcs).nodes.length ≤ 800 := by simp only at hz; omega
  have hzb : (dcOf xb kb.dcs).nodes.length ≤ 800 := by simp only at hz; omega
  have HK1 : Hid (∀ W' : World, Below W.heap.size W W' → Calls Tryz.prog 45 #[.slice a ds.length cap, .int .i64 (i : Int), .int .i64 ((i : Int) + 1), .bool false] W' fun e w' => NdR W' (inD (lvl x.op false) xa (dcOf xa ka.dcs)).nodes e w') := fun W' hb => by
    have h := kidDoc_any W' (hN.below hb) hp hpa (by rw [e1]; exact h2) false (dcOf xa ka.dcs) (by omega) (hk.1 (i + 1) _ e2 W' (hN.below hb)) (cap := cap)
    rw [e1, ea, show ((i + 1 : Nat) : Int) = (i : Int) + 1 by omega] at h
    exact h
  have HEN : Hid (∀ W' : World, Below W.heap.size W W' → Calls Tryz.prog 42 #[.slice a ds.length cap, .int .i64 ((i : Int) + 1)] W' fun e w' => e = .returned (.int .i64 (j : Int)) ∧ Below W'.heap.size W' w') := fun W' hb => by
    have h := endOf_at (cap := cap) hs ena hpa W' (hN.below hb)
    rw [show ((i + 1 : Nat) : Int) = (i : Int) + 1 by omega] at h
    exact h
  have HK2 : Hid (∀ W' : World, Below W.heap.size W W' → Calls Tryz.prog 45 #[.slice a ds.length cap, .int .i64 (i : Int), .int .i64 (j : Int), .bool true] W' fun e w' => NdR W' (inD (lvl x.op true) xb (dcOf xb kb.dcs)).nodes e w') := fun W' hb => by
    have h := kidDoc_any W' (hN.below hb) hp hpb (by rw [e1]; exact h2) true (dcOf xb kb.dcs) (by omega) (hk.2.1 j _ eda W' (hN.below hb)) (cap := cap)
    rw [e1, eb] at h
    exact h
  have hna := nl_in (lvl x.op false) xa (dcOf xa ka.dcs)
  have hnb := nl_in (lvl x.op true) xb (dcOf xb kb.dcs)
  have HDC : Hid ((dcOf x [(xa, dcOf xa ka.dcs), (xb, dcOf xb kb.dcs)]).nodes = ⟨8, ⟨#[]⟩, 0⟩ :: (⟨6, ⟨#[]⟩, 0⟩ :: ((inD (lvl x.op false) xa (dcOf xa ka.dcs)).nodes ++ (⟨7, ⟨#[]⟩, 2⟩ :: (⟨6, ⟨#[]⟩, 0⟩ :: ([⟨2, ⟨#[]⟩, 0⟩] ++ (⟨6, ⟨#[]⟩, 0⟩ :: ([⟨1, (if x.op = 5 then ⟨#[43, 32]⟩ else ⟨#[42, 32]⟩), 0⟩] ++ (inD (lvl x.op true) xb (dcOf xb kb.dcs)).nodes)))))))) := by
    show _ = _
    rcases h2 with h | h
    · rw [if_pos h]; simp [dcOf, h, tw2, lvl, Tr.nodes]; rfl
    · rw [if_neg (by omega)]; simp [dcOf, h, tw2, lvl, Tr.nodes]; rfl
  obtain ⟨b, o, rfl, hb, c1, c2, c3⟩ := hN i hp
  have hii : (i : Int) < (ds.length : Int) := by omega
  rw [e1] at c1 c2 c3
  have HPR : Hid (DcPre W x (dcW W x.op x.tx x.n)) := dc_pre W x
  unfold DcAt
  rw [htr, HDC.out]
  generalize (inD (lvl x.op false) xa (dcOf xa ka.dcs)).nodes = ls at HK1 hna ⊢
  generalize (inD (lvl x.op true) xb (dcOf xb kb.dcs)).nodes = rs at HK2 hnb ⊢
  have hx := exN_cases (hex x (by simp [Fo.nodes]))
  clear hN e1 e2 hi hok hex hk hj htr hz ena eda ea eb HDC hkd hkl
  obtain ⟨xo, xt, xn⟩ := x
  simp only at c1 c2 c3 HPR h2 hx hna hnb ⊢
  have hx0 : xt = ⟨#[]⟩ ∧ xn = 0 := by
    rcases hx with ⟨ho, _⟩ | ⟨ho, _⟩ | ⟨ho, _⟩ | ⟨ho, _⟩ | ⟨_, h1, h3, _⟩ | ⟨_, h1, h3, _⟩
    · omega
    · omega
    · omega
    · omega
    · exact ⟨h1, h3⟩
    · exact ⟨h1, h3⟩
  obtain ⟨rfl, rfl⟩ := hx0
  clear hx
  rcases h2 with rfl | rfl
  · simp only [if_true]
    go_enter Tryz.func17, Tryz.ntmps17
    go_wp2_with fail
    have HPR2 := (show Hid (DcPre W ⟨5, ⟨#[]⟩, 0⟩ (dcW W 5 ⟨#[]⟩ 0)) from HPR.out)
    clear HPR
    refine (HK1.out _ HPR2.out.b).mono ?_
    rintro e w1 h1
    obtain ⟨v1, rfl, n1, b1⟩ := h1.val
    have HP1 : Hid (DcPre W ⟨5, ⟨#[]⟩, 0⟩ w1) := HPR2.out.below b1
    have HV1 : Hid (NdV w1 v1 ls) := n1
    clear h1 n1 b1 HPR2
    go_wp2_with fail
    refine (HEN.out _ HP1.out.b).mono ?_
    rintro e w2 ⟨rfl, b2⟩
    have HP2 : Hid (DcPre W ⟨5, ⟨#[]⟩, 0⟩ w2) := HP1.out.below b2
    have HV2 : Hid (NdV w2 v1 ls) := HV1.out.below b2
    clear b2 HP1 HV1
    go_wp2_with fail
    refine (HK2.out _ HP2.out.b).mono ?_
    rintro e w3 h3
    obtain ⟨v3, rfl, n3, b3⟩ := h3.val
    have HP3 : Hid (DcPre W ⟨5, ⟨#[]⟩, 0⟩ w3) := HP2.out.below b3
    have HA3 : Hid (NdV w3 v1 ls) := HV2.out.below b3
    have HB3 : Hid (NdV w3 v3 rs) := n3
    have SK3 : Hid (Six W w3) := HP3.out.six
    have SKD : Hid (Six W w3.drew) := HP3.out.six
    have HD0 : Hid (Below w3.heap.size w3 w3.drew) := (Below.refl _ _).drew
    clear h3 n3 b3 HP2 HV2 HK1 HK2 HEN HN
    go_wp2_with fail
    go_region_held3 (fun w' => Six W w') (first | with_reducible exact SKD.out | with_reducible exact SK3.out | with_reducible exact SK4.out | with_reducible exact SK5.out | with_reducible exact SK6.out | with_reducible exact SK7.out | with_reducible exact SK8.out | with_reducible exact SK9.out)
      (first
          | (go_at_call 46; refine ((rUnder_any ⟨8, ⟨#[]⟩, 0⟩ (w8) HF8.out (by simp <;> omega))).mono ?_; rintro e w9 h9; have HR9 : Hid (NdR W (⟨8, ⟨#[]⟩, 0⟩ :: (⟨6, ⟨#[]⟩, 0⟩ :: (ls ++ (⟨7, ⟨#[]⟩, 2⟩ :: (⟨6, ⟨#[]⟩, 0⟩ :: ([⟨2, ⟨#[]⟩, 0⟩] ++ (⟨6, ⟨#[]⟩, 0⟩ :: ([⟨1, ⟨#[43, 32]⟩, 0⟩] ++ rs)))))))) e w9) := h9.from HP8.out.b; obtain ⟨v9, rfl, n9, b9⟩ := h9.val; have HP9 : Hid (DcPre W ⟨5, ⟨#[]⟩, 0⟩ w9) := HP8.out.below b9; have SK9 : Hid (Six W w9) := HP9.out.six; clear h9 n9 b9)
          | (go_at_call 47; refine ((rTwoD_any (w7) HA7.out HE7.out (by simp <;> omega))).mono ?_; rintro e w8 h8; obtain ⟨v8, rfl, n8, b8⟩ := h8.val; have HP8 : Hid (DcPre W ⟨5, ⟨#[]⟩, 0⟩ w8) := HP7.out.below b8; have SK8 : Hid (Six W w8) := HP8.out.six; have HF8 : Hid (NdV w8 v8 (⟨6, ⟨#[]⟩, 0⟩ :: (ls ++ (⟨7, ⟨#[]⟩, 2⟩ :: (⟨6, ⟨#[]⟩, 0⟩ :: ([⟨2, ⟨#[]⟩, 0⟩] ++ (⟨6, ⟨#[]⟩, 0⟩ :: ([⟨1, ⟨#[43, 32]⟩, 0⟩] ++ rs)))))))) := n8; clear h8 n8 b8)
          | (go_at_call 46; refine ((rUnder_any ⟨7, ⟨#[]⟩, 2⟩ (w6) HD6.out (by simp <;> omega))).mono ?_; rintro e w7 h7; obtain ⟨v7, rfl, n7, b7⟩ := h7.val; have HP7 : Hid (DcPre W ⟨5, ⟨#[]⟩, 0⟩ w7) := HP6.out.below b7; have SK7 : Hid (Six W w7) := HP7.out.six; have HA7 : Hid (NdV w7 v1 (ls)) := HA6.out.below b7; have HE7 : Hid (NdV w7 v7 (⟨7, ⟨#[]⟩, 2⟩ :: (⟨6, ⟨#[]⟩, 0⟩ :: ([⟨2, ⟨#[]⟩, 0⟩] ++ (⟨6, ⟨#[]⟩, 0⟩ :: ([⟨1, ⟨#[43, 32]⟩, 0⟩] ++ rs)))))) := n7; clear h7 n7 b7)
          | (go_at_call 47; refine ((rTwoD_any (w5) HP5.out.bl HC5.out (by simp <;> omega))).mono ?_; rintro e w6 h6; obtain ⟨v6, rfl, n6, b6⟩ := h6.val; have HP6 : Hid (DcPre W ⟨5, ⟨#[]⟩, 0⟩ w6) := HP5.out.below b6; have SK6 : Hid (Six W w6) := HP6.out.six; have HA6 : Hid (NdV w6 v1 (ls)) := HA5.out.below b6; have HD6 : Hid (NdV w6 v6 (⟨6, ⟨#[]⟩, 0⟩ :: ([⟨2, ⟨#[]⟩, 0⟩] ++ (⟨6, ⟨#[]⟩, 0⟩ :: ([⟨1, ⟨#[43, 32]⟩, 0⟩] ++ rs))))) := n6; clear h6 n6 b6)
          | (go_at_call 47; refine ((rTwoD_any (w4) HS4.out HB4.out (by simp <;> omega))).mono ?_; rintro e w5 h5; obtain ⟨v5, rfl, n5, b5⟩ := h5.val; have HP5 : Hid (DcPre W ⟨5, ⟨#[]⟩, 0⟩ w5) := HP4.out.below b5; have SK5 : Hid (Six W w5) := HP5.out.six; have HA5 : Hid (NdV w5 v1 (ls)) := HA4.out.below b5; have HC5 : Hid (NdV w5 v5 (⟨6, ⟨#[]⟩, 0⟩ :: ([⟨1, ⟨#[43, 32]⟩, 0⟩] ++ rs))) := n5; clear h5 n5 b5)
          | (go_at_call 43; refine ((rWordD_any _ (w3.drew)).mono fun _ _ h => h.from HD0.out).mono ?_; rintro e w4 h4; obtain ⟨v4, rfl, n4, b4⟩ := h4.val; have HP4 : Hid (DcPre W ⟨5, ⟨#[]⟩, 0⟩ w4) := HP3.out.below b4; have SK4 : Hid (Six W w4) := HP4.out.six; have HA4 : Hid (NdV w4 v1 (ls)) := HA3.out.below b4; have HB4 : Hid (NdV w4 v3 (rs)) := HB3.out.below b4; have HS4 : Hid (NdV w4 v4 ([⟨1, ⟨#[43, 32]⟩, 0⟩])) := n4; clear h4 n4 b4))
    all_goals
      go_wp2
      go_ret
      exact HR9.out
  · simp only [show ¬ (6 : Int) = 5 by decide, if_false]
    go_enter Tryz.func17, Tryz.ntmps17
    go_wp2_with fail
    have HPR2 := (show Hid (DcPre W ⟨6, ⟨#[]⟩, 0⟩ (dcW W 6 ⟨#[]⟩ 0)) from HPR.out)
    clear HPR
    refine (HK1.out _ HPR2.out.b).mono ?_
    rintro e w1 h1
    obtain ⟨v1, rfl, n1, b1⟩ := h1.val
    have HP1 : Hid (DcPre W ⟨6, ⟨#[]⟩, 0⟩ w1) := HPR2.out.below b1
    have HV1 : Hid (NdV w1 v1 ls) := n1
    clear h1 n1 b1 HPR2
    go_wp2_with fail
    refine (HEN.out _ HP1.out.b).mono ?_
    rintro e w2 ⟨rfl, b2⟩
    have HP2 : Hid (DcPre W ⟨6, ⟨#[]⟩, 0⟩ w2) := HP1.out.below b2
    have HV2 : Hid (NdV w2 v1 ls) := HV1.out.below b2
    clear b2 HP1 HV1
    go_wp2_with fail
    refine (HK2.out _ HP2.out.b).mono ?_
    rintro e w3 h3
    obtain ⟨v3, rfl, n3, b3⟩ := h3.val
    have HP3 : Hid (DcPre W ⟨6, ⟨#[]⟩, 0⟩ w3) := HP2.out.below b3
    have HA3 : Hid (NdV w3 v1 ls) := HV2.out.below b3
    have HB3 : Hid (NdV w3 v3 rs) := n3
    have SK3 : Hid (Six W w3) := HP3.out.six
    have SKD : Hid (Six W w3.drew) := HP3.out.six
    have HD0 : Hid (Below w3.heap.size w3 w3.drew) := (Below.refl _ _).drew
    clear h3 n3 b3 HP2 HV2 HK1 HK2 HEN HN
    go_wp2_with fail
    go_region_held3 (fun w' => Six W w') (first | with_reducible exact SKD.out | with_reducible exact SK3.out | with_reducible exact SK4.out | with_reducible exact SK5.out | with_reducible exact SK6.out | with_reducible exact SK7.out | with_reducible exact SK8.out | with_reducible exact SK9.out)
      (first
          | (go_at_call 46; refine ((rUnder_any ⟨8, ⟨#[]⟩, 0⟩ (w8) HF8.out (by simp <;> omega))).mono ?_; rintro e w9 h9; have HR9 : Hid (NdR W (⟨8, ⟨#[]⟩, 0⟩ :: (⟨6, ⟨#[]⟩, 0⟩ :: (ls ++ (⟨7, ⟨#[]⟩, 2⟩ :: (⟨6, ⟨#[]⟩, 0⟩ :: ([⟨2, ⟨#[]⟩, 0⟩] ++ (⟨6, ⟨#[]⟩, 0⟩ :: ([⟨1, ⟨#[42, 32]⟩, 0⟩] ++ rs)))))))) e w9) := h9.from HP8.out.b; obtain ⟨v9, rfl, n9, b9⟩ := h9.val; have HP9 : Hid (DcPre W ⟨6, ⟨#[]⟩, 0⟩ w9) := HP8.out.below b9; have SK9 : Hid (Six W w9) := HP9.out.six; clear h9 n9 b9)
          | (go_at_call 47; refine ((rTwoD_any (w7) HA7.out HE7.out (by simp <;> omega))).mono ?_; rintro e w8 h8; obtain ⟨v8, rfl, n8, b8⟩ := h8.val; have HP8 : Hid (DcPre W ⟨6, ⟨#[]⟩, 0⟩ w8) := HP7.out.below b8; have SK8 : Hid (Six W w8) := HP8.out.six; have HF8 : Hid (NdV w8 v8 (⟨6, ⟨#[]⟩, 0⟩ :: (ls ++ (⟨7, ⟨#[]⟩, 2⟩ :: (⟨6, ⟨#[]⟩, 0⟩ :: ([⟨2, ⟨#[]⟩, 0⟩] ++ (⟨6, ⟨#[]⟩, 0⟩ :: ([⟨1, ⟨#[42, 32]⟩, 0⟩] ++ rs)))))))) := n8; clear h8 n8 b8)
          | (go_at_call 46; refine ((rUnder_any ⟨7, ⟨#[]⟩, 2⟩ (w6) HD6.out (by simp <;> omega))).mono ?_; rintro e w7 h7; obtain ⟨v7, rfl, n7, b7⟩ := h7.val; have HP7 : Hid (DcPre W ⟨6, ⟨#[]⟩, 0⟩ w7) := HP6.out.below b7; have SK7 : Hid (Six W w7) := HP7.out.six; have HA7 : Hid (NdV w7 v1 (ls)) := HA6.out.below b7; have HE7 : Hid (NdV w7 v7 (⟨7, ⟨#[]⟩, 2⟩ :: (⟨6, ⟨#[]⟩, 0⟩ :: ([⟨2, ⟨#[]⟩, 0⟩] ++ (⟨6, ⟨#[]⟩, 0⟩ :: ([⟨1, ⟨#[42, 32]⟩, 0⟩] ++ rs)))))) := n7; clear h7 n7 b7)
          | (go_at_call 47; refine ((rTwoD_any (w5) HP5.out.bl HC5.out (by simp <;> omega))).mono ?_; rintro e w6 h6; obtain ⟨v6, rfl, n6, b6⟩ := h6.val; have HP6 : Hid (DcPre W ⟨6, ⟨#[]⟩, 0⟩ w6) := HP5.out.below b6; have SK6 : Hid (Six W w6) := HP6.out.six; have HA6 : Hid (NdV w6 v1 (ls)) := HA5.out.below b6; have HD6 : Hid (NdV w6 v6 (⟨6, ⟨#[]⟩, 0⟩ :: ([⟨2, ⟨#[]⟩, 0⟩] ++ (⟨6, ⟨#[]⟩, 0⟩ :: ([⟨1, ⟨#[42, 32]⟩, 0⟩] ++ rs))))) := n6; clear h6 n6 b6)
          | (go_at_call 47; refine ((rTwoD_any (w4) HS4.out HB4.out (by simp <;> omega))).mono ?_; rintro e w5 h5; obtain ⟨v5, rfl, n5, b5⟩ := h5.val; have HP5 : Hid (DcPre W ⟨6, ⟨#[]⟩, 0⟩ w5) := HP4.out.below b5; have SK5 : Hid (Six W w5) := HP5.out.six; have HA5 : Hid (NdV w5 v1 (ls)) := HA4.out.below b5; have HC5 : Hid (NdV w5 v5 (⟨6, ⟨#[]⟩, 0⟩ :: ([⟨1, ⟨#[42, 32]⟩, 0⟩] ++ rs))) := n5; clear h5 n5 b5)
          | (go_at_call 43; refine ((rWordD_any _ (w3.drew)).mono fun _ _ h => h.from HD0.out).mono ?_; rintro e w4 h4; obtain ⟨v4, rfl, n4, b4⟩ := h4.val; have HP4 : Hid (DcPre W ⟨6, ⟨#[]⟩, 0⟩ w4) := HP3.out.below b4; have SK4 : Hid (Six W w4) := HP4.out.six; have HA4 : Hid (NdV w4 v1 (ls)) := HA3.out.below b4; have HB4 : Hid (NdV w4 v3 (rs)) := HB3.out.below b4; have HS4 : Hid (NdV w4 v4 ([⟨1, ⟨#[42, 32]⟩, 0⟩])) := n4; clear h4 n4 b4))
    all_goals
      go_wp2
      go_ret
      exact HR9.out
end Go.Proofs.YtmbeamcjpidnjaaGreatDoor
namespace Go.Proofs.YtmbeamcjpidnjaaGreatDoor
open Go Go.RowKit

theorem fo_len_le : ∀ n : Fo, n.len ≤ n.nodes.length
  | .nil => Nat.le_refl _
  | .cons x k m => by
    have := fo_len_le m
    simp only [Fo.len, Fo.nodes, List.length_cons, List.length_append]
    omega
theorem kd_one (p : Td × Tr) : kdD [p] = p.2 := rfl
theorem kd_more (p q : Td × Tr) (r : List (Td × Tr)) : (kdD (p :: q :: r)).nodes = ⟨6, ⟨#[]⟩, 0⟩ :: ((⟨6, ⟨#[]⟩, 0⟩ :: (p.2.nodes ++ [⟨1, ⟨#[44]⟩, 0⟩])) ++ (⟨6, ⟨#[]⟩, 0⟩ :: ([⟨2, ⟨#[]⟩, 0⟩] ++ (kdD (q :: r)).nodes))) := rfl
set_option maxRecDepth 100000 in
set_option maxHeartbeats 8000000 in
theorem kidsDoc_any {ds : List Td} {a : Option Addr} {cap : Nat} (hs : StIn ds) : ∀ (K : Fo) (pos : Nat) (r : List Td), ds.drop pos = K.nodes ++ r → K.ok → DcA ds a cap K → K.len ≠ 0 → ∀ W : World, Tds W a ds →
    Calls Tryz.prog 48 #[.slice a ds.length cap, .int .i64 (pos : Int), .int .i64 (K.len : Int)] W fun e w' => NdR W (kdD K.dcs).nodes e w'
  | .nil, _, _, _, _, _, h0, _, _ => absurd rfl h0
  | .cons y ky .nil, pos, r, hd, hok, hk, _, W, hN => by
    have HD : Hid (Calls Tryz.prog 17 #[.slice a ds.length cap, .int .i64 (pos : Int)] W fun e w' => NdR W (dcOf y ky.dcs).nodes e w') := hk.1 pos r hd W hN
    show Calls Tryz.prog 48 #[.slice a ds.length cap, .int .i64 (pos : Int), .int .i64 1] W fun e w' => NdR W (dcOf y ky.dcs).nodes e w'
    generalize (dcOf y ky.dcs).nodes = xs at HD ⊢
    clear hd hok hk hN
    go_enter Tryz.func48, Tryz.ntmps48
    go_wp2_with fail
    refine HD.out.mono ?_
    rintro e w1 h1
    have HR : Hid (NdR W xs e w1) := h1
    obtain ⟨v1, rfl, _, _⟩ := h1.val
    clear h1
    go_wp2
    go_ret
    exact HR.out
  | .cons y ky (.cons z kz n), pos, r, hd, hok, hk, _, W, hN => by
    have hz := dc_short hs hd
    obtain ⟨hp, ey, _, ene, edn⟩ := fo_at hd hok
    generalize hj : pos + 1 + ky.nodes.length = j at ene edn
    have HD : Hid (∀ W' : World, Below W.heap.size W W' → Calls Tryz.prog 17 #[.slice a ds.length cap, .int .i64 (pos : Int)] W' fun e w' => NdR W' (dcOf y ky.dcs).nodes e w') := fun W' hb => hk.1 pos r hd W' (hN.below hb)
    have HEN : Hid (∀ W' : World, Below W.heap.size W W' → Calls Tryz.prog 42 #[.slice a ds.length cap, .int .i64 (pos : Int)] W' fun e w' => e = .returned (.int .i64 (j : Int)) ∧ Below W'.heap.size W' w') := fun W' hb => endOf_at (cap := cap) hs ene hp W' (hN.below hb)
    have HKS : Hid (∀ W' : World, Below W.heap.size W W' → Calls Tryz.prog 48 #[.slice a ds.length cap, .int .i64 (j : Int), .int .i64 ((n.len : Int) + 1)] W' fun e w' => NdR W' (kdD (Fo.cons z kz n).dcs).nodes e w') := fun W' hb => by
      have h := kidsDoc_any hs (.cons z kz n) j r edn hok.2.2 hk.2 (by simp [Fo.len]) W' (hN.below hb)
      have e : (((Fo.cons z kz n).len : Nat) : Int) = (n.len : Int) + 1 := by simp [Fo.len]
      rw [e] at h
      exact h
    have hln : n.len ≤ 100 := by
      have h6 := congrArg List.length hd
      rw [List.length_drop, List.length_append] at h6
      have h7 : n.nodes.length ≤ (Fo.cons y ky (.cons z kz n)).nodes.length := by simp only [Fo.nodes, List.length_cons, List.length_append]; omega
      have h8 := fo_len_le n
      have := hs.l
      omega
    have hzy : (dcOf y ky.dcs).nodes.length ≤ 800 ∧ (kdD (Fo.cons z kz n).dcs).nodes.length ≤ 801 := by
      have h1 := nl_kd (Fo.cons z kz n).dcs
      have h4 : sumD (Fo.cons y ky (.cons z kz n)).dcs = (dcOf y ky.dcs).nodes.length + 5 + sumD (Fo.cons z kz n).dcs := by rw [Fo.dcs, sumD_cons]
      omega
    have HRR : Hid ((kdD (Fo.cons y ky (.cons z kz n)).dcs).nodes = ⟨6, ⟨#[]⟩, 0⟩ :: ((⟨6, ⟨#[]⟩, 0⟩ :: ((dcOf y ky.dcs).nodes ++ [⟨1, ⟨#[44]⟩, 0⟩])) ++ (⟨6, ⟨#[]⟩, 0⟩ :: ([⟨2, ⟨#[]⟩, 0⟩] ++ (kdD (Fo.cons z kz n).dcs).nodes)))) := rfl
    have elen : (((Fo.cons y ky (.cons z kz n)).len : Nat) : Int) = (n.len : Int) + 1 + 1 := by simp [Fo.len]
    rw [HRR.out, elen]
    generalize (dcOf y ky.dcs).nodes = xs at HD hzy ⊢
    generalize (kdD (Fo.cons z kz n).dcs).nodes = ks at HKS hzy ⊢
    generalize n.len = m at HKS hln ⊢
    have hm1 : ((m : Int) + 1 + 1 == 1) = false := beq_false_of_ne (by omega)
    have hm2 : ¬ (m : Int) + 1 + 1 = 1 := by omega
    obtain ⟨hx8, hk8⟩ := hzy
    clear hd hok hk hN hz ey ene edn hj HRR elen
    go_enter Tryz.func48, Tryz.ntmps48
    go_wp2_with fail
    refine (HD.out _ (Below.refl _ _)).mono ?_
    rintro e w1 h1
    obtain ⟨v1, rfl, n1, b1⟩ := h1.val
    have hbl : NdV (w1.alloc (.cells #[.int .i64 2, .string ⟨#[]⟩, .int .i64 0] 90)) (.slice (some ⟨w1.heap.size, 0, none⟩) 1 1) [⟨2, ⟨#[]⟩, 0⟩] := (NdsO.one w1 ⟨2, ⟨#[]⟩, 0⟩).val
    have hb2 : Below w1.heap.size w1 (w1.alloc (.cells #[.int .i64 2, .string ⟨#[]⟩, .int .i64 0] 90)) := (Below.refl _ _).alloc (Nat.le_refl _) _
    have HBL2 := (show Hid (NdV (w1.alloc (.cells #[.int .i64 2, .string ⟨#[]⟩, .int .i64 0] 90)) (.slice (some ⟨w1.heap.size, 0, none⟩) 1 1) [⟨2, ⟨#[]⟩, 0⟩]) from hbl)
    have HV2 : Hid (NdV (w1.alloc (.cells #[.int .i64 2, .string ⟨#[]⟩, .int .i64 0] 90)) v1 xs) := n1.below hb2
    have HB2 : Hid (Below W.heap.size W (w1.alloc (.cells #[.int .i64 2, .string ⟨#[]⟩, .int .i64 0] 90))) := belowT b1 (Nat.le_refl _) hb2
    clear h1 n1 b1 hbl hb2
    go_wp2_with fail
    generalize w1.alloc (.cells #[.int .i64 2, .string ⟨#[]⟩, .int .i64 0] 90) = w2 at HBL2 HV2 HB2 ⊢
    refine (rWordD_any _ _).mono ?_
    rintro e w3 h3
    obtain ⟨v3, rfl, n3, b3⟩ := h3.val
    have HB3 : Hid (Below W.heap.size W w3) := belowT HB2.out (Nat.le_refl _) b3
    have HV3 : Hid (NdV w3 v1 xs) := HV2.out.below b3
    have HC3 : Hid (NdV w3 v3 [⟨1, ⟨#[44]⟩, 0⟩]) := n3
    have HBL3 : Hid (NdV w3 (.slice (some ⟨w1.heap.size, 0, none⟩) 1 1) [⟨2, ⟨#[]⟩, 0⟩]) := HBL2.out.below b3
    clear h3 n3 b3 HB2 HV2 HBL2
    go_wp2_with fail
    refine (rTwoD_any _ HV3.out HC3.out (by simp; omega)).mono ?_
    rintro e w4 h4
    obtain ⟨v4, rfl, n4, b4⟩ := h4.val
    have HB4 : Hid (Below W.heap.size W w4) := belowT HB3.out (Nat.le_refl _) b4
    have HV4 : Hid (NdV w4 v4 (⟨6, ⟨#[]⟩, 0⟩ :: (xs ++ [⟨1, ⟨#[44]⟩, 0⟩]))) := n4
    have HBL4 : Hid (NdV w4 (.slice (some ⟨w1.heap.size, 0, none⟩) 1 1) [⟨2, ⟨#[]⟩, 0⟩]) := HBL3.out.below b4
    clear h4 n4 b4 HB3 HV3 HC3 HBL3
    go_wp2_with fail
    refine (HEN.out _ HB4.out).mono ?_
    rintro e w5 ⟨rfl, b5⟩
    have HB5 : Hid (Below W.heap.size W w5) := belowT HB4.out (Nat.le_refl _) b5
    have HV5 : Hid (NdV w5 v4 (⟨6, ⟨#[]⟩, 0⟩ :: (xs ++ [⟨1, ⟨#[44]⟩, 0⟩]))) := HV4.out.below b5
    have HBL5 : Hid (NdV w5 (.slice (some ⟨w1.heap.size, 0, none⟩) 1 1) [⟨2, ⟨#[]⟩, 0⟩]) := HBL4.out.below b5
    clear b5 HB4 HV4 HBL4
    go_wp2_with fail
    refine (HKS.out _ HB5.out).mono ?_
    rintro e w6 h6
    obtain ⟨v6, rfl, n6, b6⟩ := h6.val
    have HB6 : Hid (Below W.heap.size W w6) := belowT HB5.out (Nat.le_refl _) b6
    have HV6 : Hid (NdV w6 v4 (⟨6, ⟨#[]⟩, 0⟩ :: (xs ++ [⟨1, ⟨#[44]⟩, 0⟩]))) := HV5.out.below b6
    have HK6 : Hid (NdV w6 v6 ks) := n6
    have HBL6 : Hid (NdV w6 (.slice (some ⟨w1.heap.size, 0, none⟩) 1 1) [⟨2, ⟨#[]⟩, 0⟩]) := HBL5.out.below b6
    clear h6 n6 b6 HB5 HV5 HBL5
    go_wp2_with fail
    refine (rTwoD_any _ HBL6.out HK6.out (by simp; omega)).mono ?_
    rintro e w7 h7
    obtain ⟨v7, rfl, n7, b7⟩ := h7.val
    have HB7 : Hid (Below W.heap.size W w7) := belowT HB6.out (Nat.le_refl _) b7
    have HV7 : Hid (NdV w7 v4 (⟨6, ⟨#[]⟩, 0⟩ :: (xs ++ [⟨1, ⟨#[44]⟩, 0⟩]))) := HV6.out.below b7
    have HK7 : Hid (NdV w7 v7 (⟨6, ⟨#[]⟩, 0⟩ :: ([⟨2, ⟨#[]⟩, 0⟩] ++ ks))) := n7
    clear h7 n7 b7 HB6 HV6 HK6 HBL6
    go_wp2_with fail
    refine (rTwoD_any _ HV7.out HK7.out (by simp; omega)).mono ?_
    rintro e w8 h8
    have HR : Hid (NdR W (⟨6, ⟨#[]⟩, 0⟩ :: ((⟨6, ⟨#[]⟩, 0⟩ :: (xs ++ [⟨1, ⟨#[44]⟩, 0⟩])) ++ (⟨6, ⟨#[]⟩, 0⟩ :: ([⟨2, ⟨#[]⟩, 0⟩] ++ ks)))) e w8) := h8.from HB7.out
    obtain ⟨v8, rfl, _, _⟩ := h8.val
    clear h8
    go_wp2
    go_ret
    exact HR.out
end Go.Proofs.YtmbeamcjpidnjaaGreatDoor
namespace Go.Proofs.YtmbeamcjpidnjaaGreatDoor
open Go Go.RowKit

/-- The cells of the two nodes that DocOf keeps, and how many kids there are. -/
abbrev Sev (W : World) (N : Nat) (w : World) : Prop := Six W w ∧ w.cell? ⟨W.heap.size, 2, none⟩ = some (.int .i64 ((N : Nat) : Int))
theorem DcPre.sev {W : World} {o : Int} {t : ByteArray} {N : Nat} {w : World} (h : DcPre W ⟨o, t, ((N : Nat) : Int)⟩ w) : Sev W N w := ⟨h.six, h.n.2.2.2⟩
theorem wb_open (t : ByteArray) (c : UInt8) : t ++ (⟨#[c]⟩ : ByteArray) = wbS (btL t ++ [c]) := by
  have e : wbS (btL t) ++ wbS [c] = wbS (btL t ++ [c]) := wbS_two _ _
  exact e
theorem many_zero (op cl : List UInt8) : (manyD op cl []).nodes = [⟨1, wbS (op ++ cl), 0⟩] := rfl
theorem many_some {op cl : List UInt8} {ps : List (Td × Tr)} (h : ps.length ≠ 0) : (manyD op cl ps).nodes = ⟨8, ⟨#[]⟩, 0⟩ :: (⟨6, ⟨#[]⟩, 0⟩ :: ([⟨1, wbS op, 0⟩] ++ (⟨6, ⟨#[]⟩, 0⟩ :: ((⟨7, ⟨#[]⟩, 2⟩ :: (⟨6, ⟨#[]⟩, 0⟩ :: ([⟨3, ⟨#[]⟩, 0⟩] ++ (kdD ps).nodes))) ++ (⟨6, ⟨#[]⟩, 0⟩ :: ([⟨3, ⟨#[]⟩, 0⟩] ++ [⟨1, wbS cl, 0⟩])))))) := by
  rw [manyD, if_neg h]; rfl

set_option maxRecDepth 100000 in
set_option maxHeartbeats 8000000 in
theorem doc_many3 {ds : List Td} {a : Option Addr} {cap i N : Nat} {xt : ByteArray} (hl : ds.length ≤ 40) (hi : i < ds.length) (hN6 : N ≤ 6) (hx8 : xt.size ≤ 8) (W : World) (hN : Tds W a ds) (he : ds[i] = ⟨3, xt, ((N : Nat) : Int)⟩) (ks : List Nd) (hkl : ks.length ≤ 900)
    (hK : N ≠ 0 → ∀ W' : World, Below W.heap.size W W' → Calls Tryz.prog 48 #[.slice a ds.length cap, .int .i64 ((i : Int) + 1), .int .i64 ((N : Nat) : Int)] W' fun e w' => NdR W' ks e w') :
    Calls Tryz.prog 17 #[.slice a ds.length cap, .int .i64 (i : Int)] W fun e w' => NdR W (if N = 0 then [⟨1, (xt ++ (⟨#[40]⟩ : ByteArray)) ++ (⟨#[41]⟩ : ByteArray), 0⟩] else ⟨8, ⟨#[]⟩, 0⟩ :: (⟨6, ⟨#[]⟩, 0⟩ :: ([⟨1, xt ++ (⟨#[40]⟩ : ByteArray), 0⟩] ++ (⟨6, ⟨#[]⟩, 0⟩ :: ((⟨7, ⟨#[]⟩, 2⟩ :: (⟨6, ⟨#[]⟩, 0⟩ :: ([⟨3, ⟨#[]⟩, 0⟩] ++ ks))) ++ (⟨6, ⟨#[]⟩, 0⟩ :: ([⟨3, ⟨#[]⟩, 0⟩] ++ [⟨1, (⟨#[41]⟩ : ByteArray), 0⟩])))))))  e w' := by
  obtain ⟨b, o, rfl, hb, c1, c2, c3⟩ := hN i hi
  have hii : (i : Int) < (ds.length : Int) := by omega
  rw [he] at c1 c2 c3
  simp only at c1 c2 c3
  have HPR : Hid (DcPre W ⟨3, xt, ((N : Nat) : Int)⟩ (dcW W 3 xt ((N : Nat) : Int))) := dc_pre W ⟨3, xt, ((N : Nat) : Int)⟩
  have hsz : (xt ++ (⟨#[40]⟩ : ByteArray)).size = xt.size + 1 := by rw [ByteArray.size_append]; rfl
  have g1 : ¬ (9223372036854775807 : Int) < (xt.size : Int) + 1 := by omega
  have g2 : ¬ (9223372036854775807 : Int) < (xt.size : Int) + 1 + 1 := by omega
  have hwr : IntKind.i64.wrap ((i : Int) + 1) = (i : Int) + 1 := by rw [IntKind.wrap_i64]; omega
  have HKK : Hid (N ≠ 0 → ∀ W' : World, Below W.heap.size W W' → Calls Tryz.prog 48 #[.slice (some ⟨b, o, none⟩) ds.length cap, .int .i64 ((i : Int) + 1), .int .i64 ((N : Nat) : Int)] W' fun e w' => NdR W' ks e w') := hK
  clear hN he hK
  by_cases h0 : N = 0
  · subst h0
    rw [if_pos rfl]
    go_enter Tryz.func17, Tryz.ntmps17
    go_wp2_with fail
    refine (rWordD_any _ _).mono ?_
    rintro e w3 h3
    have HR : Hid (NdR W [⟨1, (xt ++ (⟨#[40]⟩ : ByteArray)) ++ (⟨#[41]⟩ : ByteArray), 0⟩] e w3) := h3.from HPR.out.b
    obtain ⟨v3, rfl, _, _⟩ := h3.val
    clear h3
    go_wp2
    go_ret
    exact HR.out
  · rw [if_neg h0]
    have h0b : (((N : Nat) : Int) == 0) = false := beq_false_of_ne (by omega)
    have h0i : ¬ ((N : Nat) : Int) = 0 := by omega
    have HKS : Hid (∀ W' : World, Below W.heap.size W W' → Calls Tryz.prog 48 #[.slice (some ⟨b, o, none⟩) ds.length cap, .int .i64 ((i : Int) + 1), .int .i64 ((N : Nat) : Int)] W' fun e w' => NdR W' ks e w') := HKK.out h0
    clear HKK h0
    go_enter Tryz.func17, Tryz.ntmps17
    go_wp2_with fail
    generalize hw3 : ((((W.alloc (.cells #[.int .i64 3, .string xt, .int .i64 ((N : Nat) : Int)] 39)).alloc (.cells #[.int .i64 2, .string ⟨#[]⟩, .int .i64 0] 90)).alloc (.cells #[.int .i64 3, .string ⟨#[]⟩, .int .i64 0] 90)).alloc (.cells #[.int .i64 8, .string ⟨#[]⟩, .int .i64 0] 90)).alloc (.cells #[.int .i64 7, .string ⟨#[]⟩, .int .i64 2] 90) = w3
    have HP3 : Hid (DcPre W ⟨3, xt, ((N : Nat) : Int)⟩ w3) := by
      show DcPre _ _ _
      rw [← hw3]
      exact HPR.out
    have SK3 : Hid (Sev W N w3) := HP3.out.sev
    have SKD : Hid (Sev W N w3.drew) := HP3.out.sev
    have HD0 : Hid (Below w3.heap.size w3 w3.drew) := (Below.refl _ _).drew
    have HB0 : Hid (Below W.heap.size W w3.drew) := HP3.out.b.drew
    clear hw3 HPR c1 c2 c3
    go_region_held3 (fun w' => Sev W N w') (first | with_reducible exact SKD.out | with_reducible exact SK3.out | with_reducible exact SK4.out | with_reducible exact SK5.out | with_reducible exact SK6.out)
      (first
          | (go_at_call 46; refine ((rUnder_any ⟨7, ⟨#[]⟩, 2⟩ (w5) HC5.out (by simp <;> omega))).mono ?_; rintro e w6 h6; obtain ⟨v6, rfl, n6, b6⟩ := h6.val; have HP6 : Hid (DcPre W ⟨3, xt, ((N : Nat) : Int)⟩ w6) := HP5.out.below b6; have SK6 : Hid (Sev W N w6) := HP6.out.sev; have HI6 : Hid (NdV w6 v6 (⟨7, ⟨#[]⟩, 2⟩ :: (⟨6, ⟨#[]⟩, 0⟩ :: ([⟨3, ⟨#[]⟩, 0⟩] ++ ks)))) := n6; clear h6 n6 b6)
          | (go_at_call 47; refine ((rTwoD_any (w4) HP4.out.sf HK4.out (by simp <;> omega))).mono ?_; rintro e w5 h5; obtain ⟨v5, rfl, n5, b5⟩ := h5.val; have HP5 : Hid (DcPre W ⟨3, xt, ((N : Nat) : Int)⟩ w5) := HP4.out.below b5; have SK5 : Hid (Sev W N w5) := HP5.out.sev; have HC5 : Hid (NdV w5 v5 (⟨6, ⟨#[]⟩, 0⟩ :: ([⟨3, ⟨#[]⟩, 0⟩] ++ ks))) := n5; clear h5 n5 b5)
          | (go_at_call 48; refine ((HKS.out (w3.drew) HB0.out).mono fun _ _ h => h.from HD0.out).mono ?_; rintro e w4 h4; obtain ⟨v4, rfl, n4, b4⟩ := h4.val; have HP4 : Hid (DcPre W ⟨3, xt, ((N : Nat) : Int)⟩ w4) := HP3.out.below b4; have SK4 : Hid (Sev W N w4) := HP4.out.sev; have HK4 : Hid (NdV w4 v4 (ks)) := n4; clear h4 n4 b4))
    all_goals
      clear SKD HD0 HB0
      have SKD : Hid (Sev W N w6.drew) := HP6.out.sev
      have HD0 : Hid (Below w6.heap.size w6 w6.drew) := (Below.refl _ _).drew
      clear HKS SK3 SK4 SK5 HP3 HP4 HP5
      go_wp2_with fail
      go_region_held3 (fun w' => Sev W N w') (first | with_reducible exact SKD.out | with_reducible exact SK6.out | with_reducible exact SK7.out | with_reducible exact SK8.out | with_reducible exact SK9.out | with_reducible exact SK10.out | with_reducible exact SK11.out | with_reducible exact SK12.out)
        (first
          | (go_at_call 46; refine ((rUnder_any ⟨8, ⟨#[]⟩, 0⟩ (w11) HJ11.out (by simp <;> omega))).mono ?_; rintro e w12 h12; have HR9 : Hid (NdR W (⟨8, ⟨#[]⟩, 0⟩ :: (⟨6, ⟨#[]⟩, 0⟩ :: ([⟨1, xt ++ (⟨#[40]⟩ : ByteArray), 0⟩] ++ (⟨6, ⟨#[]⟩, 0⟩ :: ((⟨7, ⟨#[]⟩, 2⟩ :: (⟨6, ⟨#[]⟩, 0⟩ :: ([⟨3, ⟨#[]⟩, 0⟩] ++ ks))) ++ (⟨6, ⟨#[]⟩, 0⟩ :: ([⟨3, ⟨#[]⟩, 0⟩] ++ [⟨1, (⟨#[41]⟩ : ByteArray), 0⟩]))))))) e w12) := h12.from HP11.out.b; obtain ⟨v12, rfl, n12, b12⟩ := h12.val; have HP12 : Hid (DcPre W ⟨3, xt, ((N : Nat) : Int)⟩ w12) := HP11.out.below b12; have SK12 : Hid (Sev W N w12) := HP12.out.sev; clear h12 n12 b12)
          | (go_at_call 47; refine ((rTwoD_any (w10) HO10.out HG10.out (by simp <;> omega))).mono ?_; rintro e w11 h11; obtain ⟨v11, rfl, n11, b11⟩ := h11.val; have HP11 : Hid (DcPre W ⟨3, xt, ((N : Nat) : Int)⟩ w11) := HP10.out.below b11; have SK11 : Hid (Sev W N w11) := HP11.out.sev; have HJ11 : Hid (NdV w11 v11 (⟨6, ⟨#[]⟩, 0⟩ :: ([⟨1, xt ++ (⟨#[40]⟩ : ByteArray), 0⟩] ++ (⟨6, ⟨#[]⟩, 0⟩ :: ((⟨7, ⟨#[]⟩, 2⟩ :: (⟨6, ⟨#[]⟩, 0⟩ :: ([⟨3, ⟨#[]⟩, 0⟩] ++ ks))) ++ (⟨6, ⟨#[]⟩, 0⟩ :: ([⟨3, ⟨#[]⟩, 0⟩] ++ [⟨1, (⟨#[41]⟩ : ByteArray), 0⟩]))))))) := n11; clear h11 n11 b11)
          | (go_at_call 47; refine ((rTwoD_any (w9) HI9.out HF9.out (by simp <;> omega))).mono ?_; rintro e w10 h10; obtain ⟨v10, rfl, n10, b10⟩ := h10.val; have HP10 : Hid (DcPre W ⟨3, xt, ((N : Nat) : Int)⟩ w10) := HP9.out.below b10; have SK10 : Hid (Sev W N w10) := HP10.out.sev; have HO10 : Hid (NdV w10 v7 ([⟨1, xt ++ (⟨#[40]⟩ : ByteArray), 0⟩])) := HO9.out.below b10; have HG10 : Hid (NdV w10 v10 (⟨6, ⟨#[]⟩, 0⟩ :: ((⟨7, ⟨#[]⟩, 2⟩ :: (⟨6, ⟨#[]⟩, 0⟩ :: ([⟨3, ⟨#[]⟩, 0⟩] ++ ks))) ++ (⟨6, ⟨#[]⟩, 0⟩ :: ([⟨3, ⟨#[]⟩, 0⟩] ++ [⟨1, (⟨#[41]⟩ : ByteArray), 0⟩]))))) := n10; clear h10 n10 b10)
          | (go_at_call 47; refine ((rTwoD_any (w8) HP8.out.sf HE8.out (by simp <;> omega))).mono ?_; rintro e w9 h9; obtain ⟨v9, rfl, n9, b9⟩ := h9.val; have HP9 : Hid (DcPre W ⟨3, xt, ((N : Nat) : Int)⟩ w9) := HP8.out.below b9; have SK9 : Hid (Sev W N w9) := HP9.out.sev; have HI9 : Hid (NdV w9 v6 (⟨7, ⟨#[]⟩, 2⟩ :: (⟨6, ⟨#[]⟩, 0⟩ :: ([⟨3, ⟨#[]⟩, 0⟩] ++ ks)))) := HI8.out.below b9; have HO9 : Hid (NdV w9 v7 ([⟨1, xt ++ (⟨#[40]⟩ : ByteArray), 0⟩])) := HO8.out.below b9; have HF9 : Hid (NdV w9 v9 (⟨6, ⟨#[]⟩, 0⟩ :: ([⟨3, ⟨#[]⟩, 0⟩] ++ [⟨1, (⟨#[41]⟩ : ByteArray), 0⟩]))) := n9; clear h9 n9 b9)
          | (go_at_call 43; refine ((rWordD_any _ (w7))).mono ?_; rintro e w8 h8; obtain ⟨v8, rfl, n8, b8⟩ := h8.val; have HP8 : Hid (DcPre W ⟨3, xt, ((N : Nat) : Int)⟩ w8) := HP7.out.below b8; have SK8 : Hid (Sev W N w8) := HP8.out.sev; have HI8 : Hid (NdV w8 v6 (⟨7, ⟨#[]⟩, 2⟩ :: (⟨6, ⟨#[]⟩, 0⟩ :: ([⟨3, ⟨#[]⟩, 0⟩] ++ ks)))) := HI7.out.below b8; have HO8 : Hid (NdV w8 v7 ([⟨1, xt ++ (⟨#[40]⟩ : ByteArray), 0⟩])) := HO7.out.below b8; have HE8 : Hid (NdV w8 v8 ([⟨1, (⟨#[41]⟩ : ByteArray), 0⟩])) := n8; clear h8 n8 b8)
          | (go_at_call 43; refine ((rWordD_any _ (w6.drew)).mono fun _ _ h => h.from HD0.out).mono ?_; rintro e w7 h7; obtain ⟨v7, rfl, n7, b7⟩ := h7.val; have HP7 : Hid (DcPre W ⟨3, xt, ((N : Nat) : Int)⟩ w7) := HP6.out.below b7; have SK7 : Hid (Sev W N w7) := HP7.out.sev; have HI7 : Hid (NdV w7 v6 (⟨7, ⟨#[]⟩, 2⟩ :: (⟨6, ⟨#[]⟩, 0⟩ :: ([⟨3, ⟨#[]⟩, 0⟩] ++ ks)))) := HI6.out.below b7; have HO7 : Hid (NdV w7 v7 ([⟨1, xt ++ (⟨#[40]⟩ : ByteArray), 0⟩])) := n7; clear h7 n7 b7))
      all_goals
        go_wp2
        go_ret
        exact HR9.out

set_option maxRecDepth 100000 in
set_option maxHeartbeats 8000000 in
theorem doc_many4 {ds : List Td} {a : Option Addr} {cap i N : Nat} {xt : ByteArray} (hl : ds.length ≤ 40) (hi : i < ds.length) (hN6 : N ≤ 6) (hx8 : xt.size ≤ 8) (W : World) (hN : Tds W a ds) (he : ds[i] = ⟨4, ⟨#[]⟩, ((N : Nat) : Int)⟩) (ks : List Nd) (hkl : ks.length ≤ 900)
    (hK : N ≠ 0 → ∀ W' : World, Below W.heap.size W W' → Calls Tryz.prog 48 #[.slice a ds.length cap, .int .i64 ((i : Int) + 1), .int .i64 ((N : Nat) : Int)] W' fun e w' => NdR W' ks e w') :
    Calls Tryz.prog 17 #[.slice a ds.length cap, .int .i64 (i : Int)] W fun e w' => NdR W (if N = 0 then [⟨1, ((⟨#[91]⟩ : ByteArray)) ++ (⟨#[93]⟩ : ByteArray), 0⟩] else ⟨8, ⟨#[]⟩, 0⟩ :: (⟨6, ⟨#[]⟩, 0⟩ :: ([⟨1, (⟨#[91]⟩ : ByteArray), 0⟩] ++ (⟨6, ⟨#[]⟩, 0⟩ :: ((⟨7, ⟨#[]⟩, 2⟩ :: (⟨6, ⟨#[]⟩, 0⟩ :: ([⟨3, ⟨#[]⟩, 0⟩] ++ ks))) ++ (⟨6, ⟨#[]⟩, 0⟩ :: ([⟨3, ⟨#[]⟩, 0⟩] ++ [⟨1, (⟨#[93]⟩ : ByteArray), 0⟩])))))))  e w' := by
  obtain ⟨b, o, rfl, hb, c1, c2, c3⟩ := hN i hi
  have hii : (i : Int) < (ds.length : Int) := by omega
  rw [he] at c1 c2 c3
  simp only at c1 c2 c3
  have HPR : Hid (DcPre W ⟨4, ⟨#[]⟩, ((N : Nat) : Int)⟩ (dcW W 4 ⟨#[]⟩ ((N : Nat) : Int))) := dc_pre W ⟨4, ⟨#[]⟩, ((N : Nat) : Int)⟩
  have hsz : (xt ++ (⟨#[40]⟩ : ByteArray)).size = xt.size + 1 := by rw [ByteArray.size_append]; rfl
  have g1 : ¬ (9223372036854775807 : Int) < (xt.size : Int) + 1 := by omega
  have g2 : ¬ (9223372036854775807 : Int) < (xt.size : Int) + 1 + 1 := by omega
  have hwr : IntKind.i64.wrap ((i : Int) + 1) = (i : Int) + 1 := by rw [IntKind.wrap_i64]; omega
  have HKK : Hid (N ≠ 0 → ∀ W' : World, Below W.heap.size W W' → Calls Tryz.prog 48 #[.slice (some ⟨b, o, none⟩) ds.length cap, .int .i64 ((i : Int) + 1), .int .i64 ((N : Nat) : Int)] W' fun e w' => NdR W' ks e w') := hK
  clear hN he hK
  by_cases h0 : N = 0
  · subst h0
    rw [if_pos rfl]
    go_enter Tryz.func17, Tryz.ntmps17
    go_wp2_with fail
    refine (rWordD_any _ _).mono ?_
    rintro e w3 h3
    have HR : Hid (NdR W [⟨1, ((⟨#[91]⟩ : ByteArray)) ++ (⟨#[93]⟩ : ByteArray), 0⟩] e w3) := h3.from HPR.out.b
    obtain ⟨v3, rfl, _, _⟩ := h3.val
    clear h3
    go_wp2
    go_ret
    exact HR.out
  · rw [if_neg h0]
    have h0b : (((N : Nat) : Int) == 0) = false := beq_false_of_ne (by omega)
    have h0i : ¬ ((N : Nat) : Int) = 0 := by omega
    have HKS : Hid (∀ W' : World, Below W.heap.size W W' → Calls Tryz.prog 48 #[.slice (some ⟨b, o, none⟩) ds.length cap, .int .i64 ((i : Int) + 1), .int .i64 ((N : Nat) : Int)] W' fun e w' => NdR W' ks e w') := HKK.out h0
    clear HKK h0
    go_enter Tryz.func17, Tryz.ntmps17
    go_wp2_with fail
    generalize hw3 : ((((W.alloc (.cells #[.int .i64 4, .string ⟨#[]⟩, .int .i64 ((N : Nat) : Int)] 39)).alloc (.cells #[.int .i64 2, .string ⟨#[]⟩, .int .i64 0] 90)).alloc (.cells #[.int .i64 3, .string ⟨#[]⟩, .int .i64 0] 90)).alloc (.cells #[.int .i64 8, .string ⟨#[]⟩, .int .i64 0] 90)).alloc (.cells #[.int .i64 7, .string ⟨#[]⟩, .int .i64 2] 90) = w3
    have HP3 : Hid (DcPre W ⟨4, ⟨#[]⟩, ((N : Nat) : Int)⟩ w3) := by
      show DcPre _ _ _
      rw [← hw3]
      exact HPR.out
    have SK3 : Hid (Sev W N w3) := HP3.out.sev
    have SKD : Hid (Sev W N w3.drew) := HP3.out.sev
    have HD0 : Hid (Below w3.heap.size w3 w3.drew) := (Below.refl _ _).drew
    have HB0 : Hid (Below W.heap.size W w3.drew) := HP3.out.b.drew
    clear hw3 HPR c1 c2 c3
    go_region_held3 (fun w' => Sev W N w') (first | with_reducible exact SKD.out | with_reducible exact SK3.out | with_reducible exact SK4.out | with_reducible exact SK5.out | with_reducible exact SK6.out)
      (first
          | (go_at_call 46; refine ((rUnder_any ⟨7, ⟨#[]⟩, 2⟩ (w5) HC5.out (by simp <;> omega))).mono ?_; rintro e w6 h6; obtain ⟨v6, rfl, n6, b6⟩ := h6.val; have HP6 : Hid (DcPre W ⟨4, ⟨#[]⟩, ((N : Nat) : Int)⟩ w6) := HP5.out.below b6; have SK6 : Hid (Sev W N w6) := HP6.out.sev; have HI6 : Hid (NdV w6 v6 (⟨7, ⟨#[]⟩, 2⟩ :: (⟨6, ⟨#[]⟩, 0⟩ :: ([⟨3, ⟨#[]⟩, 0⟩] ++ ks)))) := n6; clear h6 n6 b6)
          | (go_at_call 47; refine ((rTwoD_any (w4) HP4.out.sf HK4.out (by simp <;> omega))).mono ?_; rintro e w5 h5; obtain ⟨v5, rfl, n5, b5⟩ := h5.val; have HP5 : Hid (DcPre W ⟨4, ⟨#[]⟩, ((N : Nat) : Int)⟩ w5) := HP4.out.below b5; have SK5 : Hid (Sev W N w5) := HP5.out.sev; have HC5 : Hid (NdV w5 v5 (⟨6, ⟨#[]⟩, 0⟩ :: ([⟨3, ⟨#[]⟩, 0⟩] ++ ks))) := n5; clear h5 n5 b5)
          | (go_at_call 48; refine ((HKS.out (w3.drew) HB0.out).mono fun _ _ h => h.from HD0.out).mono ?_; rintro e w4 h4; obtain ⟨v4, rfl, n4, b4⟩ := h4.val; have HP4 : Hid (DcPre W ⟨4, ⟨#[]⟩, ((N : Nat) : Int)⟩ w4) := HP3.out.below b4; have SK4 : Hid (Sev W N w4) := HP4.out.sev; have HK4 : Hid (NdV w4 v4 (ks)) := n4; clear h4 n4 b4))
    all_goals
      clear SKD HD0 HB0
      have SKD : Hid (Sev W N w6.drew) := HP6.out.sev
      have HD0 : Hid (Below w6.heap.size w6 w6.drew) := (Below.refl _ _).drew
      clear HKS SK3 SK4 SK5 HP3 HP4 HP5
      go_wp2_with fail
      go_region_held3 (fun w' => Sev W N w') (first | with_reducible exact SKD.out | with_reducible exact SK6.out | with_reducible exact SK7.out | with_reducible exact SK8.out | with_reducible exact SK9.out | with_reducible exact SK10.out | with_reducible exact SK11.out | with_reducible exact SK12.out)
        (first
          | (go_at_call 46; refine ((rUnder_any ⟨8, ⟨#[]⟩, 0⟩ (w11) HJ11.out (by simp <;> omega))).mono ?_; rintro e w12 h12; have HR9 : Hid (NdR W (⟨8, ⟨#[]⟩, 0⟩ :: (⟨6, ⟨#[]⟩, 0⟩ :: ([⟨1, (⟨#[91]⟩ : ByteArray), 0⟩] ++ (⟨6, ⟨#[]⟩, 0⟩ :: ((⟨7, ⟨#[]⟩, 2⟩ :: (⟨6, ⟨#[]⟩, 0⟩ :: ([⟨3, ⟨#[]⟩, 0⟩] ++ ks))) ++ (⟨6, ⟨#[]⟩, 0⟩ :: ([⟨3, ⟨#[]⟩, 0⟩] ++ [⟨1, (⟨#[93]⟩ : ByteArray), 0⟩]))))))) e w12) := h12.from HP11.out.b; obtain ⟨v12, rfl, n12, b12⟩ := h12.val; have HP12 : Hid (DcPre W ⟨4, ⟨#[]⟩, ((N : Nat) : Int)⟩ w12) := HP11.out.below b12; have SK12 : Hid (Sev W N w12) := HP12.out.sev; clear h12 n12 b12)
          | (go_at_call 47; refine ((rTwoD_any (w10) HO10.out HG10.out (by simp <;> omega))).mono ?_; rintro e w11 h11; obtain ⟨v11, rfl, n11, b11⟩ := h11.val; have HP11 : Hid (DcPre W ⟨4, ⟨#[]⟩, ((N : Nat) : Int)⟩ w11) := HP10.out.below b11; have SK11 : Hid (Sev W N w11) := HP11.out.sev; have HJ11 : Hid (NdV w11 v11 (⟨6, ⟨#[]⟩, 0⟩ :: ([⟨1, (⟨#[91]⟩ : ByteArray), 0⟩] ++ (⟨6, ⟨#[]⟩, 0⟩ :: ((⟨7, ⟨#[]⟩, 2⟩ :: (⟨6, ⟨#[]⟩, 0⟩ :: ([⟨3, ⟨#[]⟩, 0⟩] ++ ks))) ++ (⟨6, ⟨#[]⟩, 0⟩ :: ([⟨3, ⟨#[]⟩, 0⟩] ++ [⟨1, (⟨#[93]⟩ : ByteArray), 0⟩]))))))) := n11; clear h11 n11 b11)
          | (go_at_call 47; refine ((rTwoD_any (w9) HI9.out HF9.out (by simp <;> omega))).mono ?_; rintro e w10 h10; obtain ⟨v10, rfl, n10, b10⟩ := h10.val; have HP10 : Hid (DcPre W ⟨4, ⟨#[]⟩, ((N : Nat) : Int)⟩ w10) := HP9.out.below b10; have SK10 : Hid (Sev W N w10) := HP10.out.sev; have HO10 : Hid (NdV w10 v7 ([⟨1, (⟨#[91]⟩ : ByteArray), 0⟩])) := HO9.out.below b10; have HG10 : Hid (NdV w10 v10 (⟨6, ⟨#[]⟩, 0⟩ :: ((⟨7, ⟨#[]⟩, 2⟩ :: (⟨6, ⟨#[]⟩, 0⟩ :: ([⟨3, ⟨#[]⟩, 0⟩] ++ ks))) ++ (⟨6, ⟨#[]⟩, 0⟩ :: ([⟨3, ⟨#[]⟩, 0⟩] ++ [⟨1, (⟨#[93]⟩ : ByteArray), 0⟩]))))) := n10; clear h10 n10 b10)
          | (go_at_call 47; refine ((rTwoD_any (w8) HP8.out.sf HE8.out (by simp <;> omega))).mono ?_; rintro e w9 h9; obtain ⟨v9, rfl, n9, b9⟩ := h9.val; have HP9 : Hid (DcPre W ⟨4, ⟨#[]⟩, ((N : Nat) : Int)⟩ w9) := HP8.out.below b9; have SK9 : Hid (Sev W N w9) := HP9.out.sev; have HI9 : Hid (NdV w9 v6 (⟨7, ⟨#[]⟩, 2⟩ :: (⟨6, ⟨#[]⟩, 0⟩ :: ([⟨3, ⟨#[]⟩, 0⟩] ++ ks)))) := HI8.out.below b9; have HO9 : Hid (NdV w9 v7 ([⟨1, (⟨#[91]⟩ : ByteArray), 0⟩])) := HO8.out.below b9; have HF9 : Hid (NdV w9 v9 (⟨6, ⟨#[]⟩, 0⟩ :: ([⟨3, ⟨#[]⟩, 0⟩] ++ [⟨1, (⟨#[93]⟩ : ByteArray), 0⟩]))) := n9; clear h9 n9 b9)
          | (go_at_call 43; refine ((rWordD_any _ (w7))).mono ?_; rintro e w8 h8; obtain ⟨v8, rfl, n8, b8⟩ := h8.val; have HP8 : Hid (DcPre W ⟨4, ⟨#[]⟩, ((N : Nat) : Int)⟩ w8) := HP7.out.below b8; have SK8 : Hid (Sev W N w8) := HP8.out.sev; have HI8 : Hid (NdV w8 v6 (⟨7, ⟨#[]⟩, 2⟩ :: (⟨6, ⟨#[]⟩, 0⟩ :: ([⟨3, ⟨#[]⟩, 0⟩] ++ ks)))) := HI7.out.below b8; have HO8 : Hid (NdV w8 v7 ([⟨1, (⟨#[91]⟩ : ByteArray), 0⟩])) := HO7.out.below b8; have HE8 : Hid (NdV w8 v8 ([⟨1, (⟨#[93]⟩ : ByteArray), 0⟩])) := n8; clear h8 n8 b8)
          | (go_at_call 43; refine ((rWordD_any _ (w6.drew)).mono fun _ _ h => h.from HD0.out).mono ?_; rintro e w7 h7; obtain ⟨v7, rfl, n7, b7⟩ := h7.val; have HP7 : Hid (DcPre W ⟨4, ⟨#[]⟩, ((N : Nat) : Int)⟩ w7) := HP6.out.below b7; have SK7 : Hid (Sev W N w7) := HP7.out.sev; have HI7 : Hid (NdV w7 v6 (⟨7, ⟨#[]⟩, 2⟩ :: (⟨6, ⟨#[]⟩, 0⟩ :: ([⟨3, ⟨#[]⟩, 0⟩] ++ ks)))) := HI6.out.below b7; have HO7 : Hid (NdV w7 v7 ([⟨1, (⟨#[91]⟩ : ByteArray), 0⟩])) := n7; clear h7 n7 b7))
      all_goals
        go_wp2
        go_ret
        exact HR9.out

end Go.Proofs.YtmbeamcjpidnjaaGreatDoor
namespace Go.Proofs.YtmbeamcjpidnjaaGreatDoor
open Go Go.RowKit

theorem doc_all {ds : List Td} {a : Option Addr} {cap : Nat} (hs : StIn ds) : ∀ F : Fo, F.ok → F.exs → DcA ds a cap F
  | .nil, _, _ => trivial
  | .cons x k n, hok, hex => by
    have hexk : k.exs := fun y hy => hex y (by simp [Fo.nodes, hy])
    have ihk := doc_all (a := a) (cap := cap) hs k hok.2.1 hexk
    have ihn := doc_all (a := a) (cap := cap) hs n hok.2.2 fun y hy => hex y (by simp [Fo.nodes, hy])
    have hx := hex x (by simp [Fo.nodes])
    refine ⟨?_, ihn⟩
    have kids : ∀ (i : Nat) (r : List Td), ds.drop i = (Fo.cons x k n).nodes ++ r → ∀ W : World, Tds W a ds → ∃ hp : i < ds.length, ds[i] = x ∧ (kdD k.dcs).nodes.length ≤ 900 ∧ (k.len ≠ 0 → ∀ W' : World, Below W.heap.size W W' → Calls Tryz.prog 48 #[.slice a ds.length cap, .int .i64 ((i : Int) + 1), .int .i64 (k.len : Int)] W' fun e w' => NdR W' (kdD k.dcs).nodes e w') := fun i r hi W hN => by
      obtain ⟨hp, e1, e2, _, _⟩ := fo_at hi hok
      refine ⟨hp, e1, ?_, fun h0 W' hb => ?_⟩
      · have h1 := dc_short hs e2
        have h2 := nl_kd k.dcs
        omega
      · have h := kidsDoc_any (cap := cap) hs k (i + 1) _ e2 hok.2.1 ihk h0 W' (hN.below hb)
        rw [show ((i + 1 : Nat) : Int) = (i : Int) + 1 by omega] at h
        exact h
    rcases exN_cases hx with ⟨ho, _⟩ | ⟨ho, _⟩ | ⟨ho, hnm, h0, h6, hkd⟩ | ⟨ho, htx, h0, h6, hkd⟩ | ⟨ho, _⟩ | ⟨ho, _⟩
    · exact doc_leaf hs hok hx (.inl ho)
    · exact doc_leaf hs hok hx (.inr ho)
    · intro i r hi W hN
      obtain ⟨hp, e1, hkl, hK⟩ := kids i r hi W hN
      have hlen : k.len = x.n.toNat := hok.1.trans hkd
      have e3 : x = ⟨3, x.tx, ((k.len : Nat) : Int)⟩ := by
        obtain ⟨xo, xt, xn⟩ := x
        simp only at ho h0 hlen ⊢
        rw [ho, hlen, Int.toNat_of_nonneg h0]
      have h8 : x.tx.size ≤ 8 := by rw [← btL_len]; exact name_len hnm
      have h := doc_many3 (cap := cap) hs.l hp (N := k.len) (xt := x.tx) (by omega) h8 W hN (by rw [e1]; exact e3) (kdD k.dcs).nodes hkl hK
      have e4 : (dcOf x k.dcs).nodes = if k.len = 0 then [⟨1, (x.tx ++ (⟨#[40]⟩ : ByteArray)) ++ (⟨#[41]⟩ : ByteArray), 0⟩] else ⟨8, ⟨#[]⟩, 0⟩ :: (⟨6, ⟨#[]⟩, 0⟩ :: ([⟨1, x.tx ++ (⟨#[40]⟩ : ByteArray), 0⟩] ++ (⟨6, ⟨#[]⟩, 0⟩ :: ((⟨7, ⟨#[]⟩, 2⟩ :: (⟨6, ⟨#[]⟩, 0⟩ :: ([⟨3, ⟨#[]⟩, 0⟩] ++ (kdD k.dcs).nodes))) ++ (⟨6, ⟨#[]⟩, 0⟩ :: ([⟨3, ⟨#[]⟩, 0⟩] ++ [⟨1, (⟨#[41]⟩ : ByteArray), 0⟩])))))) := by
        rw [show dcOf x k.dcs = manyD (btL x.tx ++ [40]) [41] k.dcs by simp [dcOf, ho], wb_open x.tx 40]
        by_cases hz : k.len = 0
        · have : k.dcs = [] := List.eq_nil_of_length_eq_zero (by rw [dcs_len]; exact hz)
          rw [if_pos hz, this, many_zero]
          have e5 : wbS (btL x.tx ++ [40]) ++ (⟨#[41]⟩ : ByteArray) = wbS (btL x.tx ++ [40] ++ [41]) := wbS_two _ _
          rw [e5]
        · rw [if_neg hz, many_some (by rw [dcs_len]; exact hz)]
          rfl
      show Calls _ _ _ _ _
      rw [e4]
      exact h
    · intro i r hi W hN
      obtain ⟨hp, e1, hkl, hK⟩ := kids i r hi W hN
      have hlen : k.len = x.n.toNat := hok.1.trans hkd
      have e3 : x = ⟨4, ⟨#[]⟩, ((k.len : Nat) : Int)⟩ := by
        obtain ⟨xo, xt, xn⟩ := x
        simp only at ho h0 hlen htx ⊢
        rw [ho, htx, hlen, Int.toNat_of_nonneg h0]
      have h := doc_many4 (cap := cap) hs.l hp (N := k.len) (xt := ⟨#[]⟩) (by omega) (by decide) W hN (by rw [e1]; exact e3) (kdD k.dcs).nodes hkl hK
      have e4 : (dcOf x k.dcs).nodes = if k.len = 0 then [⟨1, (⟨#[91]⟩ : ByteArray) ++ (⟨#[93]⟩ : ByteArray), 0⟩] else ⟨8, ⟨#[]⟩, 0⟩ :: (⟨6, ⟨#[]⟩, 0⟩ :: ([⟨1, (⟨#[91]⟩ : ByteArray), 0⟩] ++ (⟨6, ⟨#[]⟩, 0⟩ :: ((⟨7, ⟨#[]⟩, 2⟩ :: (⟨6, ⟨#[]⟩, 0⟩ :: ([⟨3, ⟨#[]⟩, 0⟩] ++ (kdD k.dcs).nodes))) ++ (⟨6, ⟨#[]⟩, 0⟩ :: ([⟨3, ⟨#[]⟩, 0⟩] ++ [⟨1, (⟨#[93]⟩ : ByteArray), 0⟩])))))) := by
        rw [show dcOf x k.dcs = manyD [91] [93] k.dcs by simp [dcOf, ho]]
        by_cases hz : k.len = 0
        · have : k.dcs = [] := List.eq_nil_of_length_eq_zero (by rw [dcs_len]; exact hz)
          rw [if_pos hz, this, many_zero]
          rfl
        · rw [if_neg hz, many_some (by rw [dcs_len]; exact hz)]
          rfl
      show Calls _ _ _ _ _
      rw [e4]
      exact h
    · exact doc_two hs hok hex (.inl ho) ihk
    · exact doc_two hs hok hex (.inr ho) ihk
/-- The cells of the two nodes that DocOf keeps, and the name. -/
abbrev Eig (W : World) (xt : ByteArray) (w : World) : Prop := Six W w ∧ w.cell? ⟨W.heap.size, 1, none⟩ = some (.string xt)
theorem DcPre.eig {W : World} {o n : Int} {t : ByteArray} {w : World} (h : DcPre W ⟨o, t, n⟩ w) : Eig W t w := ⟨h.six, h.n.2.2.1⟩
set_option maxRecDepth 100000 in
set_option maxHeartbeats 8000000 in
theorem doc_let {ds : List Td} {a : Option Addr} {cap : Nat} {xt : ByteArray} (hl : ds.length ≤ 40) (hi : 0 < ds.length) (hx8 : xt.size ≤ 8) (W : World) (hN : Tds W a ds) (he : ds[0] = ⟨7, xt, 0⟩) (xs : List Nd) (hkl : xs.length ≤ 900)
    (hD : ∀ W' : World, Below W.heap.size W W' → Calls Tryz.prog 17 #[.slice a ds.length cap, .int .i64 1] W' fun e w' => NdR W' xs e w') :
    Calls Tryz.prog 17 #[.slice a ds.length cap, .int .i64 0] W fun e w' => NdR W (⟨8, ⟨#[]⟩, 0⟩ :: (⟨6, ⟨#[]⟩, 0⟩ :: ([⟨1, (⟨#[108, 101, 116, 32]⟩ : ByteArray) ++ xt ++ (⟨#[32, 61]⟩ : ByteArray), 0⟩] ++ (⟨7, ⟨#[]⟩, 2⟩ :: (⟨6, ⟨#[]⟩, 0⟩ :: ([⟨2, ⟨#[]⟩, 0⟩] ++ (⟨6, ⟨#[]⟩, 0⟩ :: (xs ++ [⟨1, ⟨#[59]⟩, 0⟩])))))))) e w' := by
  obtain ⟨b, o, rfl, hb, c1, c2, c3⟩ := hN 0 hi
  have hii : (0 : Int) < (ds.length : Int) := by omega
  rw [he] at c1 c2 c3
  simp only [Nat.zero_mul, Nat.add_zero] at c1 c2 c3
  have HPR : Hid (DcPre W ⟨7, xt, 0⟩ (dcW W 7 xt 0)) := dc_pre W ⟨7, xt, 0⟩
  have HD : Hid (∀ W' : World, Below W.heap.size W W' → Calls Tryz.prog 17 #[.slice (some ⟨b, o, none⟩) ds.length cap, .int .i64 1] W' fun e w' => NdR W' xs e w') := hD
  have g1 : ¬ 9223372036854775807 < 4 + xt.size := by omega
  have g2 : ¬ 9223372036854775807 < 4 + xt.size + 2 := by omega
  clear hN he hD
  go_enter Tryz.func17, Tryz.ntmps17
  go_wp2_with fail
  refine (HD.out _ HPR.out.b).mono ?_
  rintro e w1 h1
  obtain ⟨v1, rfl, n1, b1⟩ := h1.val
  have HP1 : Hid (DcPre W ⟨7, xt, 0⟩ w1) := HPR.out.below b1
  have HV1 : Hid (NdV w1 v1 xs) := n1
  clear h1 n1 b1 HPR
  go_wp2_with fail
  refine (rWordD_any _ _).mono ?_
  rintro e w2 h2
  obtain ⟨v2, rfl, n2, b2⟩ := h2.val
  have HP2 : Hid (DcPre W ⟨7, xt, 0⟩ w2) := HP1.out.below b2
  have HV2 : Hid (NdV w2 v1 xs) := HV1.out.below b2
  have HS2 : Hid (NdV w2 v2 [⟨1, ⟨#[59]⟩, 0⟩]) := n2
  clear h2 n2 b2 HP1 HV1
  go_wp2_with fail
  refine (rTwoD_any _ HV2.out HS2.out (by simp <;> omega)).mono ?_
  rintro e w3 h3
  obtain ⟨v3, rfl, n3, b3⟩ := h3.val
  have HP3 : Hid (DcPre W ⟨7, xt, 0⟩ w3) := HP2.out.below b3
  have HX3 : Hid (NdV w3 v3 (⟨6, ⟨#[]⟩, 0⟩ :: (xs ++ [⟨1, ⟨#[59]⟩, 0⟩]))) := n3
  have SK3 : Hid (Eig W xt w3) := HP3.out.eig
  have SKD : Hid (Eig W xt w3.drew) := HP3.out.eig
  have HD0 : Hid (Below w3.heap.size w3 w3.drew) := (Below.refl _ _).drew
  clear h3 n3 b3 HP2 HV2 HS2 HD c1 c2 c3
  go_wp2_with fail
  go_region_held3 (fun w' => Eig W xt w') (first | with_reducible exact SKD.out | with_reducible exact SK3.out | with_reducible exact SK4.out | with_reducible exact SK5.out | with_reducible exact SK6.out | with_reducible exact SK7.out | with_reducible exact SK8.out)
    (first
          | (go_at_call 46; refine ((rUnder_any ⟨8, ⟨#[]⟩, 0⟩ (w7) HE7.out (by simp <;> omega))).mono ?_; rintro e w8 h8; have HR9 : Hid (NdR W (⟨8, ⟨#[]⟩, 0⟩ :: (⟨6, ⟨#[]⟩, 0⟩ :: ([⟨1, (⟨#[108, 101, 116, 32]⟩ : ByteArray) ++ xt ++ (⟨#[32, 61]⟩ : ByteArray), 0⟩] ++ (⟨7, ⟨#[]⟩, 2⟩ :: (⟨6, ⟨#[]⟩, 0⟩ :: ([⟨2, ⟨#[]⟩, 0⟩] ++ (⟨6, ⟨#[]⟩, 0⟩ :: (xs ++ [⟨1, ⟨#[59]⟩, 0⟩])))))))) e w8) := h8.from HP7.out.b; obtain ⟨v8, rfl, n8, b8⟩ := h8.val; have HP8 : Hid (DcPre W ⟨7, xt, 0⟩ w8) := HP7.out.below b8; have SK8 : Hid (Eig W xt w8) := HP8.out.eig; clear h8 n8 b8)
          | (go_at_call 47; refine ((rTwoD_any (w6) HS6.out HD6.out (by simp <;> omega))).mono ?_; rintro e w7 h7; obtain ⟨v7, rfl, n7, b7⟩ := h7.val; have HP7 : Hid (DcPre W ⟨7, xt, 0⟩ w7) := HP6.out.below b7; have SK7 : Hid (Eig W xt w7) := HP7.out.eig; have HE7 : Hid (NdV w7 v7 (⟨6, ⟨#[]⟩, 0⟩ :: ([⟨1, (⟨#[108, 101, 116, 32]⟩ : ByteArray) ++ xt ++ (⟨#[32, 61]⟩ : ByteArray), 0⟩] ++ (⟨7, ⟨#[]⟩, 2⟩ :: (⟨6, ⟨#[]⟩, 0⟩ :: ([⟨2, ⟨#[]⟩, 0⟩] ++ (⟨6, ⟨#[]⟩, 0⟩ :: (xs ++ [⟨1, ⟨#[59]⟩, 0⟩])))))))) := n7; clear h7 n7 b7)
          | (go_at_call 46; refine ((rUnder_any ⟨7, ⟨#[]⟩, 2⟩ (w5) HC5.out (by simp <;> omega))).mono ?_; rintro e w6 h6; obtain ⟨v6, rfl, n6, b6⟩ := h6.val; have HP6 : Hid (DcPre W ⟨7, xt, 0⟩ w6) := HP5.out.below b6; have SK6 : Hid (Eig W xt w6) := HP6.out.eig; have HS6 : Hid (NdV w6 v4 ([⟨1, (⟨#[108, 101, 116, 32]⟩ : ByteArray) ++ xt ++ (⟨#[32, 61]⟩ : ByteArray), 0⟩])) := HS5.out.below b6; have HD6 : Hid (NdV w6 v6 (⟨7, ⟨#[]⟩, 2⟩ :: (⟨6, ⟨#[]⟩, 0⟩ :: ([⟨2, ⟨#[]⟩, 0⟩] ++ (⟨6, ⟨#[]⟩, 0⟩ :: (xs ++ [⟨1, ⟨#[59]⟩, 0⟩])))))) := n6; clear h6 n6 b6)
          | (go_at_call 47; refine ((rTwoD_any (w4) HP4.out.bl HX4.out (by simp <;> omega))).mono ?_; rintro e w5 h5; obtain ⟨v5, rfl, n5, b5⟩ := h5.val; have HP5 : Hid (DcPre W ⟨7, xt, 0⟩ w5) := HP4.out.below b5; have SK5 : Hid (Eig W xt w5) := HP5.out.eig; have HS5 : Hid (NdV w5 v4 ([⟨1, (⟨#[108, 101, 116, 32]⟩ : ByteArray) ++ xt ++ (⟨#[32, 61]⟩ : ByteArray), 0⟩])) := HS4.out.below b5; have HC5 : Hid (NdV w5 v5 (⟨6, ⟨#[]⟩, 0⟩ :: ([⟨2, ⟨#[]⟩, 0⟩] ++ (⟨6, ⟨#[]⟩, 0⟩ :: (xs ++ [⟨1, ⟨#[59]⟩, 0⟩]))))) := n5; clear h5 n5 b5)
          | (go_at_call 43; refine ((rWordD_any _ (w3.drew)).mono fun _ _ h => h.from HD0.out).mono ?_; rintro e w4 h4; obtain ⟨v4, rfl, n4, b4⟩ := h4.val; have HP4 : Hid (DcPre W ⟨7, xt, 0⟩ w4) := HP3.out.below b4; have SK4 : Hid (Eig W xt w4) := HP4.out.eig; have HX4 : Hid (NdV w4 v3 (⟨6, ⟨#[]⟩, 0⟩ :: (xs ++ [⟨1, ⟨#[59]⟩, 0⟩]))) := HX3.out.below b4; have HS4 : Hid (NdV w4 v4 ([⟨1, (⟨#[108, 101, 116, 32]⟩ : ByteArray) ++ xt ++ (⟨#[32, 61]⟩ : ByteArray), 0⟩])) := n4; clear h4 n4 b4))
  all_goals
    go_wp2
    go_ret
    exact HR9.out
set_option maxRecDepth 100000 in
set_option maxHeartbeats 8000000 in
theorem doc_do {ds : List Td} {a : Option Addr} {cap : Nat} (hl : ds.length ≤ 40) (hi : 0 < ds.length) (W : World) (hN : Tds W a ds) (he : ds[0] = ⟨8, ⟨#[]⟩, 0⟩) (xs : List Nd) (hkl : xs.length ≤ 900)
    (hD : ∀ W' : World, Below W.heap.size W W' → Calls Tryz.prog 17 #[.slice a ds.length cap, .int .i64 1] W' fun e w' => NdR W' xs e w') :
    Calls Tryz.prog 17 #[.slice a ds.length cap, .int .i64 0] W fun e w' => NdR W (⟨6, ⟨#[]⟩, 0⟩ :: (xs ++ [⟨1, ⟨#[59]⟩, 0⟩])) e w' := by
  obtain ⟨b, o, rfl, hb, c1, c2, c3⟩ := hN 0 hi
  have hii : (0 : Int) < (ds.length : Int) := by omega
  rw [he] at c1 c2 c3
  simp only [Nat.zero_mul, Nat.add_zero] at c1 c2 c3
  have HPR : Hid (DcPre W ⟨8, ⟨#[]⟩, 0⟩ (dcW W 8 ⟨#[]⟩ 0)) := dc_pre W ⟨8, ⟨#[]⟩, 0⟩
  have HD : Hid (∀ W' : World, Below W.heap.size W W' → Calls Tryz.prog 17 #[.slice (some ⟨b, o, none⟩) ds.length cap, .int .i64 1] W' fun e w' => NdR W' xs e w') := hD
  clear hN he hD
  go_enter Tryz.func17, Tryz.ntmps17
  go_wp2_with fail
  refine (HD.out _ HPR.out.b).mono ?_
  rintro e w1 h1
  obtain ⟨v1, rfl, n1, b1⟩ := h1.val
  have HP1 : Hid (DcPre W ⟨8, ⟨#[]⟩, 0⟩ w1) := HPR.out.below b1
  have HV1 : Hid (NdV w1 v1 xs) := n1
  clear h1 n1 b1 HPR
  go_wp2_with fail
  refine (rWordD_any _ _).mono ?_
  rintro e w2 h2
  obtain ⟨v2, rfl, n2, b2⟩ := h2.val
  have HP2 : Hid (DcPre W ⟨8, ⟨#[]⟩, 0⟩ w2) := HP1.out.below b2
  have HV2 : Hid (NdV w2 v1 xs) := HV1.out.below b2
  have HS2 : Hid (NdV w2 v2 [⟨1, ⟨#[59]⟩, 0⟩]) := n2
  clear h2 n2 b2 HP1 HV1
  go_wp2_with fail
  refine (rTwoD_any _ HV2.out HS2.out (by simp <;> omega)).mono ?_
  rintro e w3 h3
  have HR9 : Hid (NdR W (⟨6, ⟨#[]⟩, 0⟩ :: (xs ++ [⟨1, ⟨#[59]⟩, 0⟩])) e w3) := h3.from HP2.out.b
  obtain ⟨v3, rfl, _, _⟩ := h3.val
  clear h3
  go_wp2
  go_ret
  exact HR9.out
/-- The doc of a statement that is no note, by the document. -/
theorem st_doc {t : List Td} {a : Option Addr} {cap : Nat} (h : treeF t = 0) (h9 : opT t ≠ 9) (W : World) (hN : Tds W a t) : Calls Tryz.prog 17 #[.slice a t.length cap, .int .i64 0] W fun e w' => NdR W (stDoc t).nodes e w' := by
  obtain ⟨h1, h2, _, _⟩ := treeF_zero h
  have hs : StIn t := ⟨h1, h2⟩
  obtain ⟨x, y, k, rfl, hok, hex, hk, hx⟩ := st_split h h9
  have hpos : 0 < (x :: (Fo.cons y k .nil).nodes).length := by simp
  have hall := doc_all (a := a) (cap := cap) hs (.cons y k .nil) hok hex
  have hd : (x :: (Fo.cons y k .nil).nodes).drop 1 = (Fo.cons y k .nil).nodes ++ [] := by simp
  have hD : ∀ W' : World, Below W.heap.size W W' → Calls Tryz.prog 17 #[.slice a (x :: (Fo.cons y k .nil).nodes).length cap, .int .i64 1] W' fun e w' => NdR W' (dcOf y k.dcs).nodes e w' := fun W' hb => hall.1 1 [] hd W' (hN.below hb)
  have hnl : (dcOf y k.dcs).nodes.length ≤ 900 := by
    have h3 := dc_short hs hd
    rw [Fo.dcs, sumD_cons] at h3
    simp only at h3
    omega
  have e0 : stDoc (x :: (Fo.cons y k .nil).nodes) = stD x (dcOf y k.dcs) := stDoc_eq hok hk
  rw [e0]
  rcases hx with ⟨ho, hnm, hn0⟩ | ⟨ho, htx, hn0⟩
  · have h8 : x.tx.size ≤ 8 := by rw [← btL_len]; exact name_len hnm
    have h5 := doc_let (cap := cap) h1 hpos h8 W hN (by obtain ⟨xo, xt, xn⟩ := x; simp only at ho hn0; subst ho hn0; rfl) _ hnl hD
    have e6 : (⟨#[108, 101, 116, 32]⟩ : ByteArray) ++ x.tx ++ (⟨#[32, 61]⟩ : ByteArray) = wbS ([108, 101, 116, 32] ++ btL x.tx ++ [32, 61]) := by
      have q1 : wbS [108, 101, 116, 32] ++ wbS (btL x.tx) = wbS ([108, 101, 116, 32] ++ btL x.tx) := wbS_two _ _
      have q2 : wbS ([108, 101, 116, 32] ++ btL x.tx) ++ wbS [32, 61] = wbS ([108, 101, 116, 32] ++ btL x.tx ++ [32, 61]) := wbS_two _ _
      rw [← q2, ← q1]
      rfl
    rw [e6] at h5
    rw [stD, if_pos ho]
    exact h5
  · have h5 := doc_do (cap := cap) h1 hpos W hN (by obtain ⟨xo, xt, xn⟩ := x; simp only at ho hn0 htx; subst ho hn0 htx; rfl) _ hnl hD
    rw [stD, if_neg (by omega)]
    exact h5
end Go.Proofs.YtmbeamcjpidnjaaGreatDoor
