/- slices.Clone of numbers; rows that a call owns, kept. -/
import Derived.Test.YtnfhiiefdmjdbaaIntApp
import Derived.Deep.AppendLies
import Derived.Laws.Cover3
namespace Go.Proofs.Ytnfhiiefdmjdbaa
open Go Go.RowKit

theorem own_type {w : World} {B e size n k : Nat} {v : Value} {xs : List Value} (h : w.ownsRow B e size v n xs) (hk : v.ownBlock = some k) : k < w.heap.size ∧ ∃ cur, w.heap[k]? = some (.cells cur e (0, 0)) := by
  rcases h.2 with ⟨rfl, _⟩ | ⟨g, c, cur, rfl, _, hg, _⟩
  · simp [Value.ownBlock] at hk
  · simp only [Value.ownBlock, Option.some.injEq] at hk
    subst hk
    exact ⟨(Array.getElem?_eq_some_iff.1 hg).1, cur, hg⟩
theorem own_kept {w w' : World} {B e size n : Nat} {v : Value} {xs : List Value} (h : w.ownsRow B e size v n xs) (hk : ∀ k, v.ownBlock = some k → w'.heap[k]? = w.heap[k]?) : w'.ownsRow B e size v n xs := by
  refine ⟨h.1, ?_⟩
  rcases h.2 with h0 | ⟨g, c, cur, rfl, hb, hg, rest⟩
  · exact .inl h0
  · exact .inr ⟨g, c, cur, rfl, hb, (hk g rfl).trans hg, rest⟩
theorem own_base {w : World} {B B' e size n : Nat} {v : Value} {xs : List Value} (h : w.ownsRow B e size v n xs) (hB : B' ≤ B) : w.ownsRow B' e size v n xs := by
  refine ⟨h.1, ?_⟩
  rcases h.2 with h0 | ⟨g, c, cur, rfl, hb, rest⟩
  · exact .inl h0
  · exact .inr ⟨g, c, cur, rfl, Nat.le_trans hB hb, rest⟩
/-- Rows of two kinds lie in two blocks. -/
theorem own_apart {w : World} {B B' e e' size size' n n' k k' : Nat} {v v' : Value} {xs xs' : List Value} (h : w.ownsRow B e size v n xs) (h' : w.ownsRow B' e' size' v' n' xs') (he : e ≠ e') (hk : v.ownBlock = some k) (hk' : v'.ownBlock = some k') : k ≠ k' := by
  intro e0
  subst e0
  obtain ⟨_, c, h1⟩ := own_type h hk
  obtain ⟨_, c', h2⟩ := own_type h' hk'
  rw [h1] at h2
  cases h2
  exact he rfl

theorem eqlNil (a : Option Addr) (l c : Nat) (W : World) : (binOp .eql 39 (.slice a l c) (.slice none 0 0)).run Try.prog W = .ok (.bool a.isNone) W := by
  simp only [binOp]
  simp [run_equal_slice_nil W 39 3 a l c Try.underlying39]

set_option maxRecDepth 100000 in
set_option maxHeartbeats 1000000 in
theorem clone_any (path : List Int) (B : Nat) (v : Value) (w : World) (h : w.ownsRow B 3 1 v path.length (intCells path)) (hl : path.length ≤ 100000) :
    Calls Try.prog 25 #[v] w fun e w' => ∃ a' c', e = .returned (.slice a' path.length c') ∧ w'.ownsRow w.heap.size 3 1 (.slice a' path.length c') path.length (intCells path) ∧ Below w.heap.size w w' := by
  rcases h.2 with ⟨rfl, h0⟩ | ⟨g, c, cur, rfl, hb, hg, hr⟩
  · have hp : path = [] := List.eq_nil_of_length_eq_zero h0
    subst hp
    have heq : (binOp .eql 39 (.slice none 0 0) (.slice none 0 0)).run Try.prog w = .ok (.bool true) w := eqlNil none 0 0 w
    go_enter Try.func25, Try.ntmps25
    go_wp2
    go_ret
    exact ⟨none, 0, rfl, World.ownsRow_nil _ _ _ _, Below.refl _ _⟩
  · obtain ⟨_, _, _, q3, _⟩ := own_ints h
    have HI : Hid (Ints w (some ⟨g, 0, none⟩) path) := q3
    have HO : Hid ((w.alloc (.cells #[] 3)).ownsRow w.heap.size 3 1 (.slice (some ⟨w.heap.size, 0, none⟩) 0 0) 0 (intCells [])) := World.ownsRow_made w #[] 0 (Nat.le_refl _) (Nat.zero_le _) rfl
    have heq : (binOp .eql 39 (.slice (some ⟨g, 0, none⟩) path.length c) (.slice none 0 0)).run Try.prog w = .ok (.bool false) w := eqlNil (some ⟨g, 0, none⟩) path.length c w
    clear h hr hg hb q3
    go_enter Try.func25, Try.ntmps25
    go_wp2_with (at_builtin; refine wpList_append_ints rfl _ _ rfl w.heap.size _ _ [] rfl HO.out (some ⟨g, 0, none⟩) path c rfl (HI.out.below ((Below.refl _ w).alloc (Nat.le_refl _) _)) (fun h => by cases h) (by omega) (by simp) ?_)
    intro v2 w2 hown2 hgrow2
    have hb2 : Below w.heap.size w w2 := ((Below.refl _ w).alloc (Nat.le_refl _) _).grown hgrow2 (by simp) (fun k hk => by simp only [Value.ownBlock, Option.some.injEq] at hk; omega)
    have HB2 : Hid (Below w.heap.size w w2) := hb2
    obtain ⟨a2, c2, rfl⟩ : ∃ a2 c2, v2 = .slice a2 path.length c2 := by
      rcases hown2.2 with ⟨hv, h0⟩ | ⟨g, c, cur, hv, _⟩
      · exact ⟨none, 0, by rw [hv]; congr 1; omega⟩
      · exact ⟨_, c, by rw [hv]⟩
    have HO2 : Hid (w2.ownsRow w.heap.size 3 1 (.slice a2 path.length c2) path.length (intCells path)) := by
      show w2.ownsRow _ _ _ _ _ _
      simpa using hown2
    clear hown2 hgrow2 hb2 HO
    go_wp2
    go_ret
    exact ⟨_, _, rfl, HO2.out, HB2.out⟩
end Go.Proofs.Ytnfhiiefdmjdbaa
