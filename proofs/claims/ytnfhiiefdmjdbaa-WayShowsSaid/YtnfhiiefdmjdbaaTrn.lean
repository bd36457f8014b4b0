/- (*way.finder).turn: what is settled of the next way. -/
import Derived.Test.YtnfhiiefdmjdbaaFnd
import Derived.BigRegion
import Derived.Deep.DeepCutAuto
namespace Go.Proofs.Ytnfhiiefdmjdbaa
open Go Go.RowKit

theorem turnL_ones : ∀ {u : List Int}, (∀ c ∈ u, c = 1) → turnL u = none
  | [], _ => rfl
  | c :: u, h => by
    have h1 := turnL_ones (u := u) fun d hd => h d (by simp [hd])
    simp only [turnL, h1, if_pos (h c (by simp))]
theorem turnL_at : ∀ {u : List Int} {k : Nat} (hk : k < u.length), u[k] ≠ 1 → (∀ j (hj : j < u.length), k < j → u[j] = 1) → turnL u = some (u.take k ++ [1])
  | c :: u, 0, _, h1, h2 => by
    have h3 : turnL u = none := turnL_ones fun d hd => by
      obtain ⟨j, hj, rfl⟩ := List.getElem_of_mem hd
      exact h2 (j + 1) (by simp; omega) (by omega)
    have h1' : ¬ c = 1 := h1
    simp only [turnL, h3, if_neg h1']
    rfl
  | c :: u, k + 1, hk, h1, h2 => by
    have h3 := turnL_at (u := u) (k := k) (by simpa using hk) h1 (fun j hj hkj => h2 (j + 1) (by simp; omega) (by omega))
    simp only [turnL, h3]
    rfl

/-- A row cut short, its last number stored. -/
theorem own_cut {B k n cap g : Nat} {path : List Int} {w W : World} (h : w.ownsRow B 3 1 (.slice (some ⟨g, 0, none⟩) n cap) n (intCells path)) (hk : k < n) (hW : W.heap[g]? = (w.setCell ⟨g, k, none⟩ (.int .i64 1)).heap[g]?) :
    W.ownsRow B 3 1 (.slice (some ⟨g, 0, none⟩) (k + 1) cap) (path.take k ++ [1]).length (intCells (path.take k ++ [1])) := by
  have hn : path.length = n := by have := h.1; rw [intCells_len] at this; omega
  have hl : (path.take k ++ [1]).length = k + 1 := by simp; omega
  rw [hl]
  rcases h.2 with ⟨hv, _⟩ | ⟨g', c', cur, hv, hb, hg, hnc, hcm, hsz, htake⟩
  · cases hv
  · simp only [Value.slice.injEq, Option.some.injEq, Addr.mk.injEq, and_true, true_and] at hv
    obtain ⟨rfl, rfl⟩ := hv
    refine ⟨by rw [intCells_len, hl], .inr ⟨g, cap, cur.setIfInBounds k (.int .i64 1), rfl, hb, ?_, by omega, hcm, by simpa using hsz, ?_⟩⟩
    · rw [hW]
      simp [World.setCell, Array.getElem?_modify, hg]
    · rw [Array.toList_setIfInBounds, Nat.mul_one, intCells_app]
      have hc : k < cur.toList.length := by simp; omega
      have e1 : (cur.toList.set k (.int .i64 1)).take (k + 1) = (cur.toList.take k) ++ [.int .i64 1] := by
        rw [List.take_add_one, List.getElem?_set_self hc]
        simp [List.take_set_of_le]
      rw [e1]
      congr 1
      have e2 : cur.toList.take k = (cur.toList.take (n * 1)).take k := by rw [List.take_take]; congr 1; omega
      rw [e2, htake]
      simp [intCells, List.map_take]

set_option maxRecDepth 100000 in
set_option maxHeartbeats 2000000 in
theorem turn_any (B b be bf n cap : Nat) (a : Option Addr) (path : List Int) (made : Nat) (g : Option Nat) (w : World) (h : FS B b (plF be bf n cap a) path made g w) (hl : path.length ≤ 100000) :
    Calls Try.prog 23 #[.pointer (some ⟨b, 0, none⟩)] w fun e w' => ((turnL path = none ∧ e = .returned (.bool false)) ∨ (∃ p, turnL path = some p ∧ e = .returned (.bool true) ∧ FS B b (plF be bf n cap a) p 0 g w')) ∧ FKeep b g g w w' := by
  obtain ⟨v, hb, hown, hvg, hgb⟩ := h
  obtain ⟨av, cv, rfl⟩ : ∃ av cv, v = .slice av path.length cv := by
    rcases hown.2 with ⟨hv, h0⟩ | ⟨g, c, cur, hv, _⟩
    · exact ⟨none, 0, by rw [hv, h0]⟩
    · exact ⟨_, c, hv⟩
  obtain ⟨c0, c1, c2, c3, c4, f3, f4⟩ := fcell hb
  have HB : Hid (w.heap[b]? = some (.cells (plF be bf n cap a ++ [Value.slice av path.length cv, Value.int .i64 made]).toArray 68 (0, 0))) := hb
  have HO : Hid (w.ownsRow B 3 1 (.slice av path.length cv) path.length (intCells path)) := hown
  have HG : Hid ((Value.slice av path.length cv).ownBlock = g) := hvg
  clear hb hown hvg
  go_enter Try.func23, Try.ntmps23
  go_wp2
  go_loopw [3] (fun last wr => (∃ q : Nat, wr = w.drewN q) ∧ ∃ k : Nat, k ≤ path.length ∧ last = .int .i64 ((k : Int) - 1) ∧ ∀ j (hj : j < path.length), k ≤ j → path[j] = 1) (fun last _ => (intOf last + 1).toNat)
  case atStart => exact ⟨⟨0, rfl⟩, path.length, Nat.le_refl _, by go_num, fun j hj hk => by omega⟩
  case round =>
    obtain ⟨⟨q, rfl⟩, k, hk, rfl, hall⟩ := hrel
    have HA : Hid (∀ j (hj : j < path.length), k ≤ j → path[j] = 1) := hall
    clear hall
    by_cases hk0 : k = 0
    · subst hk0
      have hneg : decide ((0 : Int) ≤ ((0 : Nat) : Int) - 1) = false := by decide
      go_wp2
      go_ret
      refine ⟨.inl ⟨turnL_ones fun c hc => ?_, rfl⟩, ⟨rfl, rfl, rfl, Nat.le_refl _, fun _ _ _ _ => rfl, .inl rfl⟩⟩
      obtain ⟨j, hj, rfl⟩ := List.getElem_of_mem hc
      exact HA.out j hj (Nat.zero_le _)
    · obtain ⟨l, rfl⟩ : ∃ l, k = l + 1 := ⟨k - 1, by omega⟩
      have hki : (((l + 1 : Nat) : Int) - 1) = (l : Int) := by omega
      rw [hki]
      have hlp : l < path.length := by omega
      have hlI : (l : Int) < (path.length : Int) := by omega
      obtain ⟨gg, cc, hv, _, hgl⟩ := HO.out.form (by omega : 0 < path.length)
      simp only [Value.slice.injEq, true_and] at hv
      obtain ⟨rfl, rfl⟩ := hv
      obtain ⟨_, _, hcv, q3, _⟩ := own_ints HO.out
      obtain ⟨bv, ov, ea, hbv, x1⟩ := q3 l hlp
      simp only [Option.some.injEq, Addr.mk.injEq, and_true] at ea
      obtain ⟨rfl, rfl⟩ := ea
      rw [Nat.zero_add] at x1
      have hgv : g = some gg := HG.out.symm
      have hbb : gg ≠ b := fun e => hgb (by rw [hgv, e])
      have hfz : w.frozen? ⟨gg, l, none⟩ = false := by
        rcases HO.out.2 with ⟨hv, _⟩ | ⟨g', c', cur, hv, _, hg, _⟩
        · cases hv
        · simp only [Value.slice.injEq, Option.some.injEq, Addr.mk.injEq, and_true, true_and] at hv
          obtain ⟨rfl, _⟩ := hv
          simp [World.frozen?, hg]
      clear q3 hki
      by_cases h1 : path[l] = 1
      · have HA' : Hid (∀ j (hj : j < path.length), l ≤ j → path[j] = 1) := fun j hj hlj => by
          by_cases e : j = l
          · subst e; exact h1
          · exact HA.out j hj (by omega)
        rw [h1] at x1
        clear h1
        go_wp2
        go_roundw
        case rel => exact ⟨⟨q, rfl⟩, l, by omega, by go_num, HA'.out⟩
        case measure => simp [intOf]
      · have HT : Hid (turnL path = some (path.take l ++ [1])) := turnL_at hlp h1 (fun j hj hlj => HA.out j hj (by omega))
        generalize path[l] = c at x1 h1
        have hne : (c == 1) = false := beq_eq_false_iff_ne.2 h1
        have hp1 : (0 : Int) ≤ (l : Int) := by omega
        have hw1 : IntKind.i64.wrap ((l : Int) + 1) = (l : Int) + 1 := by rw [IntKind.wrap_i64]; omega
        have hlc : (l : Int) + 1 ≤ (cv : Int) := by omega
        have hln : ((l : Int) + 1).toNat = l + 1 := by omega
        clear h1
        go_wp2
        go_ret
        refine ⟨.inr ⟨_, HT.out, rfl, ⟨.slice (some ⟨gg, 0, none⟩) (l + 1) cv, ?_, ?_, rfl, fun e => hbb (by cases e; rfl)⟩⟩, ⟨rfl, rfl, rfl, by simp [World.setCell, World.drewN], fun j hj hjb hjg => ?_, .inl rfl⟩⟩
        · have hbh := HB.out
          refine (Below.heap_setCell _ _ _ _ hbb.symm).trans ?_
          simp [World.setCell, World.drewN, Array.getElem?_modify, hbh]
        · refine own_cut HO.out hlp ?_
          simp [World.setCell, World.drewN, Array.getElem?_modify, hbb.symm]
        · refine (Below.heap_setCell _ _ _ _ (fun e => hjg (by rw [e]))).trans ((Below.heap_setCell _ _ _ _ hjb).trans (Below.heap_setCell _ _ _ _ hjb))
end Go.Proofs.Ytnfhiiefdmjdbaa
