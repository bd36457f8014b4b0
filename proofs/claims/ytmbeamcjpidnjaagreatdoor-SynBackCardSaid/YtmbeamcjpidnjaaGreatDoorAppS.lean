/- Nodes, statements appended to a row of the call's own: as a step of a region that draws its order. -/
import Derived.Test.YtmbeamcjpidnjaaGreatDoorRdPs
import Derived.Deep.RegionLaw
namespace Go.Proofs.YtmbeamcjpidnjaaGreatDoor
open Go Go.RowKit
set_option maxRecDepth 100000

theorem step_run {w : World} {ops : Array Oper} {o : Oper} {a : Act} {K : Act → World → Prop} {Q : Exit → Act → World → Prop} {E : Prop} (hgd : o.guard = none) (s x : Operand) (t : TypeId)
    (ho : o.op = .call { callee := .builtin .append, args := #[s, x], argTypes := #[t, t] }) (v u v' : Value) (w' : World) (hs : a.eval s = v) (hx : a.eval x = u)
    (hrun : (Builtin.append_ #[t, t] o.type #[v, u]).run Tryz.prog w = .ok v' w') (hK : K (a.put o.dst v') w') : if Region.wanted o (yielded ops a.tmps) = true then Oper.wp Tryz.prog o a w K Q else E := by
  have hw : Region.wanted o (yielded ops a.tmps) = true := by simp [Region.wanted, hgd]
  rw [if_pos hw]
  unfold Oper.wp
  simp [execOp, ho, resolve, invoke, builtin, hs, hx, hrun, Result.andThen]
  exact hK
theorem step_app_tds {w : World} {ops : Array Oper} {o : Oper} {a : Act} {K : Act → World → Prop} {Q : Exit → Act → World → Prop} {E : Prop} (hgd : o.guard = none) (s x : Operand)
    (ho : o.op = .call { callee := .builtin .append, args := #[s, x], argTypes := #[40, 40] })
    (base : Nat) (v : Value) (xs : List Td) (hs : a.eval s = v) (hown : TdsO base v xs w)
    (wa : Option Addr) (n : Nat) (ws : List Td) (hn : ws.length = n) (wc : Nat) (hx : a.eval x = .slice wa n wc) (hW : Tds w wa ws) (hnil : wa = none → n = 0 ∧ wc = 0)
    (m : Nat) (hm : xs.length + n = m) (hb : m ≤ 1000000) (hbase : base ≤ w.heap.size)
    (h : ∀ A c w', TdsO base (.slice A m c) (xs ++ ws) w' → w.grownBy w' v.ownBlock → K (a.put o.dst (.slice A m c)) w') : if Region.wanted o (yielded ops a.tmps) = true then Oper.wp Tryz.prog o a w K Q else E := by
  subst hn hm
  obtain ⟨i0, hi, hz0, hz1, hz2⟩ := info_parts tdInfo
  have h' : ∀ v' w', TdsO base v' (xs ++ ws) w' → w.grownBy w' v.ownBlock → K (a.put o.dst v') w' := by
    intro v' w' h1 h2
    obtain ⟨A, c, rfl⟩ : ∃ A c, v' = .slice A (xs.length + ws.length) c := by
      rcases h1.2 with ⟨hv, h0⟩ | ⟨g, c, cur, hv, _⟩
      · rw [List.length_append] at h0; exact ⟨.none, 0, by rw [hv, h0]⟩
      · rw [List.length_append] at hv; exact ⟨_, c, hv⟩
    exact h A c w' h1 h2
  cases wa with
  | none =>
    obtain ⟨h0, rfl⟩ := hnil rfl
    obtain rfl : ws = [] := List.eq_nil_of_length_eq_zero h0
    refine step_run hgd s x 40 ho v _ _ _ hs hx (run_append_owned_none (P := Tryz.prog) (w := w) base 40 o.type 39 i0 3 Tryz.underlying40 hi v xs.length (tdCells xs) hown) ?_
    refine h' v w ?_ ⟨rfl, rfl, rfl, Nat.le_refl _, fun _ _ _ => rfl⟩
    rw [List.append_nil]
    exact hown
  | some ad =>
    have hsp : ws = [] ∨ ∃ b o, ad = ⟨b, o, Option.none⟩ := by
      rcases Nat.eq_zero_or_pos ws.length with h0 | h0
      · exact .inl (List.eq_nil_of_length_eq_zero h0)
      · obtain ⟨b, o, e, _⟩ := hW 0 h0
        exact .inr ⟨b, o, by simpa using e⟩
    obtain ⟨v', w', hrun, h1, h2, _⟩ := run_append_own (P := Tryz.prog) w base 40 o.type 39 i0 _ 3 32 Tryz.underlying40 hi hz0 hz1 hz2 rfl (by decide) v xs.length (tdCells xs) hown ad ws.length wc (tdCells ws) (tdCells_len ws) (by
      rcases hsp with rfl | ⟨b, o, rfl⟩
      · intro j u hj; simp [tdCells] at hj
      · exact tds_news hW) (tdCells_one ws) (by unfold maxLen; omega) (by omega) hbase
    refine step_run hgd s x 40 ho v _ v' w' hs hx hrun (h' v' w' ?_ h2)
    rw [← tdCells_app] at h1
    show w'.ownsRow _ _ _ _ _ _
    rw [List.length_append]
    exact h1
theorem step_app_prg {w : World} {ops : Array Oper} {o : Oper} {a : Act} {K : Act → World → Prop} {Q : Exit → Act → World → Prop} {E : Prop} (hgd : o.guard = none) (s x : Operand)
    (ho : o.op = .call { callee := .builtin .append, args := #[s, x], argTypes := #[22, 22] })
    (base : Nat) (v : Value) (ps : List (List Td)) (hs : a.eval s = v) (hown : PrgO base v ps w)
    (b0 g n c : Nat) (t : List Td) (hn : t.length = n) (hx : a.eval x = .slice (some ⟨b0, 0, none⟩) 1 1) (hc : w.cell? ⟨b0, 0, none⟩ = some (.slice (some ⟨g, 0, none⟩) n c)) (hT : TdsO base (.slice (some ⟨g, 0, none⟩) n c) t w)
    (m : Nat) (hm : ps.length + 1 = m) (hb : m ≤ 1000000) (hbase : base ≤ w.heap.size)
    (h : ∀ A c' w', PrgO base (.slice A m c') (ps ++ [t]) w' → w.grownBy w' v.ownBlock → K (a.put o.dst (.slice A m c')) w') : if Region.wanted o (yielded ops a.tmps) = true then Oper.wp Tryz.prog o a w K Q else E := by
  subst hn hm
  obtain ⟨i0, hi, hz0, hz1, hz2⟩ := info_parts tpInfo
  obtain ⟨hvs, h1, h2⟩ := hown
  obtain ⟨v', w', hrun, h3, h4, _⟩ := run_append_own (P := Tryz.prog) w base 22 o.type 40 i0 _ 1 24 Tryz.underlying22 hi hz0 hz1 hz2 rfl (by decide) v ps.length hvs h1 ⟨b0, 0, none⟩ 1 1 [.slice (some ⟨g, 0, none⟩) t.length c] rfl (by
    intro j u hj
    cases j with
    | zero =>
      simp at hj
      subst hj
      rw [addr_add]; exact hc
    | succ j => simp at hj) (by intro u hu; simp at hu; subst hu; rfl) (by unfold maxLen; omega) (by omega) hbase
  have hkeep : ∀ {g' n' c' : Nat} {t' : List Td}, TdsO base (.slice (some ⟨g', 0, none⟩) n' c') t' w → TdsO base (.slice (some ⟨g', 0, none⟩) n' c') t' w' := by
    intro g' n' c' t' hT'
    obtain ⟨_, _, cur, hg'⟩ := tdsO_block hT'
    refine tdsO_blk hT' (h4.block g' (Array.getElem?_eq_some_iff.1 hg').1 fun e => ?_)
    obtain ⟨cur2, hg2⟩ := ownP_blk h1 e.symm
    rw [hg'] at hg2
    simp at hg2
  obtain ⟨A, c', rfl⟩ : ∃ A c', v' = .slice A (ps.length + 1) c' := by
    rcases h3.2 with ⟨hv, h0⟩ | ⟨g', c', cur, hv, _⟩
    · omega
    · exact ⟨_, c', hv⟩
  refine step_run hgd s x 22 ho v _ _ w' hs hx hrun (h A c' w' ⟨hvs ++ [.slice (some ⟨g, 0, none⟩) t.length c], ?_, fun i hi => ?_⟩ h4)
  · rw [List.length_append]; exact h3
  · have hl := h1.1
    rw [Nat.mul_one] at hl
    by_cases e : i < ps.length
    · obtain ⟨g', c'', e1, e2⟩ := h2 i e
      rw [List.getElem_append_left e]
      refine ⟨g', c'', ?_, hkeep e2⟩
      rw [List.getElem?_append_left (by omega)]
      exact e1
    · have hie : i = ps.length := by simp at hi; omega
      subst hie
      rw [List.getElem_append_right (Nat.le_refl _)]
      refine ⟨g, c, ?_, ?_⟩
      · rw [List.getElem?_append_right (by omega), hl]
        simp
      · simp only [Nat.sub_self, List.getElem_cons_zero]
        exact hkeep hT
end Go.Proofs.YtmbeamcjpidnjaaGreatDoor
