/- Numbers that the call appends to a row of its own. -/
import Derived.Laws.AppendOwn
import Derived.Laws.AppendOwnNone
import Derived.OwnWalk
import Derived.Test.YtfabfclbnekleaaDoorIntB
import Derived.Test.YtfabfclbnekleaaDoorPlanWb
namespace Go.Proofs.YtfabfclbnekleaaDoor
open Go Go.RowKit

def intCells (ws : List Int) : List Value := ws.map (.int .i64)
theorem intCells_len (ws : List Int) : (intCells ws).length = ws.length * 1 := by simp [intCells]
theorem intCells_one (ws : List Int) : ∀ u ∈ intCells ws, u.oneCell' = true := by
  intro u hu
  obtain ⟨x, _, rfl⟩ := List.mem_map.1 hu
  rfl
theorem intCells_app (a b : List Int) : intCells (a ++ b) = intCells a ++ intCells b := by simp [intCells]
theorem addA (b o k : Nat) : (⟨b, o, none⟩ : Addr).add k = ⟨b, o + k, none⟩ := by
  unfold Addr.add
  split
  · rename_i h; subst h; rfl
  · rfl
theorem ints_news {B : Nat} {w : World} {ad : Addr} {ws : List Int} (h : IntsB B w (some ad) ws) : ∀ j u, (intCells ws)[j]? = some u → w.cell? (ad.add j) = some u := by
  intro j u hj
  have hlt : j < ws.length := by have := (List.getElem?_eq_some_iff.1 hj).1; simpa [intCells] using this
  obtain ⟨b, o, e, _, c⟩ := h j hlt
  simp only [Option.some.injEq] at e
  subst e
  rw [addA]
  have : u = .int .i64 ws[j] := by simp [intCells, hlt] at hj; exact hj.symm
  rw [this]
  exact c
/-- What the call owns is numbers in memory. -/
theorem own_ints {B : Nat} {w : World} {a : Option Addr} {n cap m : Nat} {ws : List Int} (h : w.ownsRow B 3 1 (.slice a n cap) m (intCells ws)) : m = ws.length ∧ n = ws.length ∧ ws.length ≤ cap ∧ Ints w a ws ∧ (a = none → ws = [] ∧ cap = 0) := by
  have hm : m = ws.length := by have := h.1; rw [intCells_len] at this; omega
  rcases h.2 with ⟨hv, h0⟩ | ⟨g, c, cur, hv, _, hg, hnc, _, hsz, htake⟩
  · simp only [Value.slice.injEq] at hv
    obtain ⟨rfl, rfl, rfl⟩ := hv
    have hw : ws = [] := List.eq_nil_of_length_eq_zero (by omega)
    subst hw
    exact ⟨hm, rfl, Nat.le_refl _, fun i hi => by simp at hi, fun _ => ⟨rfl, rfl⟩⟩
  · simp only [Value.slice.injEq] at hv
    obtain ⟨rfl, rfl, rfl⟩ := hv
    refine ⟨hm, hm, by omega, ?_, fun h => by cases h⟩
    intro i hi
    have hlt : g < w.heap.size := by
      rcases Nat.lt_or_ge g w.heap.size with h' | h'
      · exact h'
      · simp [Array.getElem?_eq_none h'] at hg
    refine ⟨g, 0, rfl, hlt, ?_⟩
    have hk : (intCells ws)[i]? = some (.int .i64 ws[i]) := by simp [intCells, hi]
    rw [← htake] at hk
    rw [List.getElem?_take_of_lt (by omega)] at hk
    rw [Nat.zero_add]
    simp only [World.cell?, hg]
    simpa using hk

theorem wpList_append_ints {w : World} {ops : Array Oper} {rest : List Oper} {o : Oper} {a : Act} {Q : Exit → Act → World → Prop} (hgd : o.guard = none) (s x : Operand)
    (ho : o.op = .call { callee := .builtin .append, args := #[s, x], argTypes := #[60, 60] })
    (base : Nat) (v : Value) (n : Nat) (xs : List Int) (hs : a.eval s = v) (hown : w.ownsRow base 3 1 v n (intCells xs))
    (wa : Option Addr) (ws : List Int) (wc : Nat) (hx : a.eval x = .slice wa ws.length wc) (hI : Ints w wa ws) (hnil : wa = none → ws = [] ∧ wc = 0)
    (hb : n + ws.length ≤ 1000000) (hbase : base ≤ w.heap.size)
    (h : ∀ v' w', w'.ownsRow base 3 1 v' (n + ws.length) (intCells (xs ++ ws)) → w.grownBy w' v.ownBlock → wpList Tryd.prog ops Q rest (a.put o.dst v') w') : wpList Tryd.prog ops Q (o :: rest) a w := by
  obtain ⟨i0, hi, hz0, hz1, hz2⟩ := info_parts intInfo
  cases wa with
  | none =>
    obtain ⟨rfl, rfl⟩ := hnil rfl
    refine wpList_append_own_none hgd s x 60 ho base 3 i0 1 Tryd.underlying60 hi v n (intCells xs) hs hown hx ?_
    refine h v w ?_ ⟨rfl, rfl, rfl, Nat.le_refl _, fun _ _ _ => rfl⟩
    rw [List.append_nil]
    exact hown
  | some ad =>
    refine wpList_append_own w hgd s x 60 ho base 3 i0 _ 1 8 Tryd.underlying60 hi hz0 hz1 hz2 rfl (by decide) v n (intCells xs) hs hown ad ws.length wc (intCells ws) hx (intCells_len ws) (ints_news hI) (intCells_one ws) (by unfold maxLen; omega) (by omega) hbase ?_
    intro v' w' h1 h2 _
    rw [← intCells_app] at h1
    exact h v' w' h1 h2
end Go.Proofs.YtfabfclbnekleaaDoor
