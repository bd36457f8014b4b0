/- A doc that the call builds itself: nodes appended. -/
import Derived.Laws.AppendOwn
import Derived.OwnWalk
import Derived.Test.YtfabfclbnekleabDocA0
namespace Go.Proofs.Ytfabfclbnekleab
open Go Go.RowKit

/-- A doc's cells. -/
def ndCells (ds : List Nd) : List Value := ds.flatMap fun x => [.int .i64 x.op, .string x.tx, .int .i64 x.n]
theorem ndCells_len : ∀ ds : List Nd, (ndCells ds).length = ds.length * 3
  | [] => rfl
  | x :: r => by
    have := ndCells_len r
    unfold ndCells at this ⊢
    rw [List.flatMap_cons, List.length_append, this, List.length_cons]
    simp
    omega
theorem ndCells_app (a b : List Nd) : ndCells (a ++ b) = ndCells a ++ ndCells b := by simp [ndCells, List.flatMap_append]
theorem ndCells_at : ∀ (ds : List Nd) (i : Nat) (h : i < ds.length), (ndCells ds)[i * 3]? = some (.int .i64 ds[i].op) ∧ (ndCells ds)[i * 3 + 1]? = some (.string ds[i].tx) ∧ (ndCells ds)[i * 3 + 2]? = some (.int .i64 ds[i].n)
  | x :: r, 0, _ => by simp [ndCells]
  | x :: r, i + 1, h => by
    have h1 := ndCells_at r i (by simpa using h)
    have e : ndCells (x :: r) = .int .i64 x.op :: .string x.tx :: .int .i64 x.n :: ndCells r := by simp [ndCells]
    rw [e, show (i + 1) * 3 = i * 3 + 1 + 1 + 1 by omega]
    exact h1
theorem ndCells_one (ds : List Nd) : ∀ u ∈ ndCells ds, u.oneCell' = true := by
  intro u hu
  obtain ⟨x, _, hx⟩ := List.mem_flatMap.1 hu
  simp at hx
  rcases hx with rfl | rfl | rfl <;> rfl
/-- A place of the cells is a node's field. -/
theorem ndCells_get (ds : List Nd) (j : Nat) (u : Value) (h : (ndCells ds)[j]? = some u) : ∃ i, ∃ hi : i < ds.length, (j = i * 3 ∧ u = .int .i64 ds[i].op) ∨ (j = i * 3 + 1 ∧ u = .string ds[i].tx) ∨ (j = i * 3 + 2 ∧ u = .int .i64 ds[i].n) := by
  have hj : j < ds.length * 3 := by rw [← ndCells_len]; exact (List.getElem?_eq_some_iff.1 h).1
  have hi : j / 3 < ds.length := by omega
  obtain ⟨h0, h1, h2⟩ := ndCells_at ds (j / 3) hi
  refine ⟨j / 3, hi, ?_⟩
  have h3 : j = j / 3 * 3 ∨ j = j / 3 * 3 + 1 ∨ j = j / 3 * 3 + 2 := by omega
  rcases h3 with e | e | e
  · rw [← e, h] at h0; exact .inl ⟨e, Option.some.inj h0⟩
  · rw [← e, h] at h1; exact .inr (.inl ⟨e, Option.some.inj h1⟩)
  · rw [← e, h] at h2; exact .inr (.inr ⟨e, Option.some.inj h2⟩)

theorem ndInfo : (Try.prog.info? 31).map (fun i => (i.zero, i.size, i.bytes)) = some (some (.agg #[.int .i64 0, .string ⟨#[]⟩, .int .i64 0]), 3, 32) := by kernel_rfl

/-- What the call owns is a doc in memory. -/
theorem own_nods {B : Nat} {w : World} {a : Option Addr} {n cap : Nat} {ds : List Nd} (h : w.ownsRow B 31 3 (.slice a n cap) ds.length (ndCells ds)) : n = ds.length ∧ ds.length ≤ cap ∧ Nods w a ds := by
  rcases h.2 with ⟨hv, h0⟩ | ⟨g, c, cur, hv, _, hg, hnc, _, hsz, htake⟩
  · simp only [Value.slice.injEq] at hv
    obtain ⟨rfl, rfl, rfl⟩ := hv
    refine ⟨h0.symm, by omega, fun i hi => ?_⟩
    omega
  · simp only [Value.slice.injEq] at hv
    obtain ⟨rfl, rfl, rfl⟩ := hv
    refine ⟨rfl, hnc, fun i hi => ?_⟩
    have hlt : g < w.heap.size := by
      rcases Nat.lt_or_ge g w.heap.size with h' | h'
      · exact h'
      · simp [Array.getElem?_eq_none h'] at hg
    have hcell : ∀ k u, (ndCells ds)[k]? = some u → w.cell? ⟨g, k, none⟩ = some u := by
      intro k u hk
      rw [← htake] at hk
      have hk2 : k < ds.length * 3 := by
        have := (List.getElem?_eq_some_iff.1 hk).1
        simp at this
        omega
      rw [List.getElem?_take_of_lt hk2] at hk
      simp only [World.cell?, hg]
      simpa using hk
    obtain ⟨h0, h1, h2⟩ := ndCells_at ds i hi
    refine ⟨g, 0, rfl, hlt, ?_, ?_, ?_⟩
    · rw [Nat.zero_add]; exact hcell _ _ h0
    · rw [Nat.zero_add]; exact hcell _ _ h1
    · rw [Nat.zero_add]; exact hcell _ _ h2
/-- The cells that are appended. -/
theorem nods_news {w : World} {b o : Nat} {ds : List Nd} (h : Nods w (some ⟨b, o, none⟩) ds) : ∀ j u, (ndCells ds)[j]? = some u → w.cell? ((⟨b, o, none⟩ : Addr).add j) = some u := by
  intro j u hj
  obtain ⟨i, hi, hc⟩ := ndCells_get ds j u hj
  obtain ⟨b', o', e, _, c1, c2, c3⟩ := h i hi
  simp only [Option.some.injEq, Addr.mk.injEq, and_true] at e
  obtain ⟨rfl, rfl⟩ := e
  have ha : ∀ k, (⟨b, o, none⟩ : Addr).add k = ⟨b, o + k, none⟩ := by
    intro k
    unfold Addr.add
    split
    · rename_i h; subst h; rfl
    · rfl
  rw [ha]
  rcases hc with ⟨rfl, rfl⟩ | ⟨rfl, rfl⟩ | ⟨rfl, rfl⟩
  · exact c1
  · rw [show o + (i * 3 + 1) = o + i * 3 + 1 by omega]; exact c2
  · rw [show o + (i * 3 + 2) = o + i * 3 + 2 by omega]; exact c3
end Go.Proofs.Ytfabfclbnekleab
