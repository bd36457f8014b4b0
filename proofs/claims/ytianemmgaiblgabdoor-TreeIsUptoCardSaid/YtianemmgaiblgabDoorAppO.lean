/- Words, or numbers, of another row appended to a row of the call's own. -/
import Derived.Test.YtianemmgaiblgabDoorRowO
import Derived.Laws.AppendOwn
import Derived.Laws.AppendOwnNone
namespace Go.Proofs.YtianemmgaiblgabDoor
open Go Go.RowKit

theorem addr_add (b o k : Nat) : (⟨b, o, none⟩ : Addr).add k = ⟨b, o + k, none⟩ := by
  unfold Addr.add
  split
  · rename_i h; subst h; rfl
  · rfl
theorem app_strs {w : World} {ops : Array Oper} {rest : List Oper} {o : Oper} {a : Act} {Q : Exit → Act → World → Prop} (hgd : o.guard = none) (s x : Operand)
    (ho : o.op = .call { callee := .builtin .append, args := #[s, x], argTypes := #[22, 22] })
    (base : Nat) (v : Value) (xs : List ByteArray) (hs : a.eval s = v) (hown : StrsO base v xs w)
    (wa : Option Addr) (n : Nat) (ws : List ByteArray) (hn : ws.length = n) (wc : Nat) (hx : a.eval x = .slice wa n wc) (hW : Wds w wa ws) (hnil : wa = none → n = 0 ∧ wc = 0)
    (m : Nat) (hm : xs.length + n = m) (hb : m ≤ 1000000) (hbase : base ≤ w.heap.size)
    (h : ∀ A c w', StrsO base (.slice A m c) (xs ++ ws) w' → w.grownBy w' v.ownBlock → wpList Tryd.prog ops Q rest (a.put o.dst (.slice A m c)) w') : wpList Tryd.prog ops Q (o :: rest) a w := by
  subst hn hm
  obtain ⟨i0, hi, hz0, hz1, hz2⟩ := info_parts strInf
  have h' : ∀ v' w', StrsO base v' (xs ++ ws) w' → w.grownBy w' v.ownBlock → wpList Tryd.prog ops Q rest (a.put o.dst v') w' := by
    intro v' w' h1 h2
    obtain ⟨A, c, rfl⟩ : ∃ A c, v' = .slice A (xs.length + ws.length) c := by
      rcases h1.2 with ⟨hv, h0⟩ | ⟨g, c, cur, hv, _⟩
      · rw [List.length_append] at h0; exact ⟨none, 0, by rw [hv, h0]⟩
      · rw [List.length_append] at hv; exact ⟨_, c, hv⟩
    exact h A c w' h1 h2
  cases wa with
  | none =>
    obtain ⟨h0, rfl⟩ := hnil rfl
    obtain rfl : ws = [] := List.eq_nil_of_length_eq_zero h0
    refine wpList_append_own_none hgd s x 22 ho base 9 i0 1 Tryd.underlying22 hi v xs.length (strCells xs) hs hown hx ?_
    refine h' v w ?_ ⟨rfl, rfl, rfl, Nat.le_refl _, fun _ _ _ => rfl⟩
    rw [List.append_nil]
    exact hown
  | some ad =>
    refine wpList_append_own w hgd s x 22 ho base 9 i0 _ 1 16 Tryd.underlying22 hi hz0 hz1 hz2 rfl (by decide) v xs.length (strCells xs) hs hown ad ws.length wc (strCells ws) hx (by simp [strCells]) ?_ ?_ (by unfold maxLen; omega) (by omega) hbase ?_
    · intro j u hj
      have hlt : j < ws.length := by have := (List.getElem?_eq_some_iff.1 hj).1; simpa [strCells] using this
      obtain ⟨b, o, e, _, c⟩ := hW j hlt
      simp only [Option.some.injEq] at e
      subst e
      rw [addr_add]
      have : u = .string ws[j] := by simp [strCells, hlt] at hj; exact hj.symm
      rw [this]
      exact c
    · intro u hu
      obtain ⟨x, _, rfl⟩ := List.mem_map.1 hu
      rfl
    · intro v' w' h1 h2 _
      rw [← strCells_app] at h1
      refine h' v' w' ?_ h2
      show w'.ownsRow _ _ _ _ _ _
      rw [List.length_append]
      exact h1
def zCells (ks : List Int) : List Value := ks.map fun k => .int .i64 k
theorem zCells_app (a b : List Int) : zCells (a ++ b) = zCells a ++ zCells b := by simp [zCells]
/-- Numbers that a call has gathered in a row of its own. -/
def IntsO (B : Nat) (v : Value) (ks : List Int) (w : World) : Prop := w.ownsRow B 3 1 v ks.length (zCells ks)
theorem intsO_ints {B : Nat} {w : World} {A : Option Addr} {n c : Nat} {xs : List Int} (h : IntsO B (.slice A n c) xs w) : Ints w A xs := by
  intro j hj
  rcases h.2 with ⟨hv, h0⟩ | ⟨g, c, cur, hv, _, hg, hnc, _, hsz, htake⟩
  · omega
  · simp only [Value.slice.injEq] at hv
    obtain ⟨rfl, rfl, rfl⟩ := hv
    refine ⟨g, 0, rfl, (Array.getElem?_eq_some_iff.1 hg).1, ?_⟩
    have hk : (zCells xs)[j]? = some (.int .i64 xs[j]) := by simp [zCells, hj]
    rw [← htake] at hk
    rw [List.getElem?_take_of_lt (by omega)] at hk
    rw [Nat.zero_add]
    simp only [World.cell?, hg]
    simpa using hk
theorem app_ints {w : World} {ops : Array Oper} {rest : List Oper} {o : Oper} {a : Act} {Q : Exit → Act → World → Prop} (hgd : o.guard = none) (s x : Operand)
    (ho : o.op = .call { callee := .builtin .append, args := #[s, x], argTypes := #[23, 23] })
    (base : Nat) (v : Value) (xs : List Int) (hs : a.eval s = v) (hown : IntsO base v xs w)
    (wa : Option Addr) (n : Nat) (ws : List Int) (hn : ws.length = n) (wc : Nat) (hx : a.eval x = .slice wa n wc) (hW : Ints w wa ws) (hnil : wa = none → n = 0 ∧ wc = 0)
    (m : Nat) (hm : xs.length + n = m) (hb : m ≤ 1000000) (hbase : base ≤ w.heap.size)
    (h : ∀ A c w', IntsO base (.slice A m c) (xs ++ ws) w' → w.grownBy w' v.ownBlock → wpList Tryd.prog ops Q rest (a.put o.dst (.slice A m c)) w') : wpList Tryd.prog ops Q (o :: rest) a w := by
  subst hn hm
  obtain ⟨i0, hi, hz0, hz1, hz2⟩ := info_parts intInf
  have h' : ∀ v' w', IntsO base v' (xs ++ ws) w' → w.grownBy w' v.ownBlock → wpList Tryd.prog ops Q rest (a.put o.dst v') w' := by
    intro v' w' h1 h2
    obtain ⟨A, c, rfl⟩ : ∃ A c, v' = .slice A (xs.length + ws.length) c := by
      rcases h1.2 with ⟨hv, h0⟩ | ⟨g, c, cur, hv, _⟩
      · rw [List.length_append] at h0; exact ⟨none, 0, by rw [hv, h0]⟩
      · rw [List.length_append] at hv; exact ⟨_, c, hv⟩
    exact h A c w' h1 h2
  cases wa with
  | none =>
    obtain ⟨h0, rfl⟩ := hnil rfl
    obtain rfl : ws = [] := List.eq_nil_of_length_eq_zero h0
    refine wpList_append_own_none hgd s x 23 ho base 3 i0 1 Tryd.underlying23 hi v xs.length (zCells xs) hs hown hx ?_
    refine h' v w ?_ ⟨rfl, rfl, rfl, Nat.le_refl _, fun _ _ _ => rfl⟩
    rw [List.append_nil]
    exact hown
  | some ad =>
    refine wpList_append_own w hgd s x 23 ho base 3 i0 _ 1 8 Tryd.underlying23 hi hz0 hz1 hz2 rfl (by decide) v xs.length (zCells xs) hs hown ad ws.length wc (zCells ws) hx (by simp [zCells]) ?_ ?_ (by unfold maxLen; omega) (by omega) hbase ?_
    · intro j u hj
      have hlt : j < ws.length := by have := (List.getElem?_eq_some_iff.1 hj).1; simpa [zCells] using this
      obtain ⟨b, o, e, _, c⟩ := hW j hlt
      simp only [Option.some.injEq] at e
      subst e
      rw [addr_add]
      have : u = .int .i64 ws[j] := by simp [zCells, hlt] at hj; exact hj.symm
      rw [this]
      exact c
    · intro u hu
      obtain ⟨x, _, rfl⟩ := List.mem_map.1 hu
      rfl
    · intro v' w' h1 h2 _
      rw [← zCells_app] at h1
      refine h' v' w' ?_ h2
      show w'.ownsRow _ _ _ _ _ _
      rw [List.length_append]
      exact h1
end Go.Proofs.YtianemmgaiblgabDoor
