/- Some texts as one: WayT, RAh, RTl, RTl2, RAll, LawWayIs. -/
import Derived.Test.YtfabfclbnekleaaDoorWayN
import Derived.Test.YtfabfclbnekleaaDoorAllWs
import Derived.Test.YtfabfclbnekleaaDoorFlatRs
import Derived.Test.YtfabfclbnekleaaDoorShowWs
import Derived.Test.YtfabfclbnekleaaDoorWayLs
import Derived.Test.YtfabfclbnekleaaDoorDocRs
import Derived.Test.YtfabfclbnekleaaDoorAsT
namespace Go.Proofs.YtfabfclbnekleaaDoor

/-- The same up to the 301st. -/
def Alike (l L : List (List Int)) : Prop := l.take 301 = L.take 301
theorem Alike.refl (l : List (List Int)) : Alike l l := rfl
theorem Alike.cut (l : List (List Int)) : Alike (l.take 301) l := by
  unfold Alike
  rw [List.take_take, Nat.min_self]
/-- They are one, or both are long. -/
theorem Alike.or {l L : List (List Int)} (h : Alike l L) : l = L ∨ (301 ≤ l.length ∧ 301 ≤ L.length) := by
  unfold Alike at h
  have hl := congrArg List.length h
  rw [List.length_take, List.length_take] at hl
  by_cases h1 : 301 ≤ l.length
  · exact .inr ⟨h1, by omega⟩
  · left
    rw [List.take_of_length_le (by omega), List.take_of_length_le (by omega)] at h
    exact h
theorem Alike.map {l L : List (List Int)} (h : Alike l L) (f : List Int → List Int) : Alike (l.map f) (L.map f) := by
  unfold Alike at *
  rw [← List.map_take, ← List.map_take, h]
theorem Alike.app {l L m M : List (List Int)} (h : Alike l L) (k : Alike m M) : Alike (l ++ m) (L ++ M) := by
  rcases h.or with rfl | ⟨h1, h2⟩
  · unfold Alike at *
    rw [List.take_append, List.take_append]
    congr 1
    have e : ∀ x : List (List Int), x.take (301 - l.length) = (x.take 301).take (301 - l.length) := fun x => by rw [List.take_take]; congr 1; omega
    rw [e m, e M, k]
  · unfold Alike at *
    rw [List.take_append_of_le_length h1, List.take_append_of_le_length h2, h]
theorem Alike.flat {l L : List (List Int)} (h : Alike l L) : ∀ us : List (List Int), Alike (us.flatMap fun u => l.map (u ++ ·)) (us.flatMap fun u => L.map (u ++ ·))
  | [] => rfl
  | u :: us => by
    rw [List.flatMap_cons, List.flatMap_cons]
    exact (h.map _).app (h.flat us)

/-- All ways with each of some tails behind them, cut where they are gathered. -/
def Tr.tl : Tr → List (List Int) → List (List Int)
  | .leaf _, bs => bs
  | .one x a, bs => if x.op = 7 then a.tl bs else ((if a.isFlat = true then bs.map (0 :: ·) else []) ++ (a.tl bs).map (1 :: ·)).take 301
  | .two x a b, bs => if x.op = 6 then a.tl (b.tl bs) else ((a.tl bs).map (0 :: ·) ++ (b.tl bs).map (1 :: ·)).take 301

theorem tl_alike : ∀ (t : Tr) (bs : List (List Int)), Alike (t.tl bs) (t.ways.flatMap fun u => bs.map (u ++ ·))
  | .leaf x, bs => by simp only [Tr.tl, Tr.ways, List.flatMap_cons, List.flatMap_nil, List.append_nil]; simp [Alike]
  | .one x a, bs => by
    have ih := tl_alike a bs
    simp only [Tr.tl, Tr.ways]
    split
    · exact ih
    · refine (Alike.cut _).trans ?_
      rw [List.flatMap_append]
      refine Alike.app ?_ ?_
      · split
        · simp [Alike]
        · simp [Alike]
      · have e : (a.ways.map (1 :: ·)).flatMap (fun u => bs.map (u ++ ·)) = (a.ways.flatMap fun u => bs.map (u ++ ·)).map (1 :: ·) := by
          rw [List.flatMap_map, List.map_flatMap]
          congr 1
          funext u
          rw [List.map_map]
          rfl
        rw [e]
        exact ih.map _
  | .two x a b, bs => by
    simp only [Tr.tl, Tr.ways]
    split
    · have e : (a.ways.flatMap fun u => b.ways.map (u ++ ·)).flatMap (fun u => bs.map (u ++ ·)) = a.ways.flatMap fun u => (b.ways.flatMap fun v => bs.map (v ++ ·)).map (u ++ ·) := by
        rw [List.flatMap_assoc]
        congr 1
        funext u
        rw [List.flatMap_map, List.map_flatMap]
        congr 1
        funext v
        rw [List.map_map]
        congr 1
        funext z
        exact List.append_assoc u v z
      rw [e]
      exact (tl_alike a (b.tl bs)).trans ((tl_alike b bs).flat a.ways)
    · refine (Alike.cut _).trans ?_
      have e0 : (a.ways.map (0 :: ·)).flatMap (fun u => bs.map (u ++ ·)) = (a.ways.flatMap fun u => bs.map (u ++ ·)).map (0 :: ·) := by
        rw [List.flatMap_map, List.map_flatMap]
        congr 1
        funext u
        rw [List.map_map]
        rfl
      have e1 : (b.ways.map (1 :: ·)).flatMap (fun u => bs.map (u ++ ·)) = (b.ways.flatMap fun u => bs.map (u ++ ·)).map (1 :: ·) := by
        rw [List.flatMap_map, List.map_flatMap]
        congr 1
        funext u
        rw [List.map_map]
        rfl
      rw [List.flatMap_append, e0, e1]
      exact ((tl_alike a bs).map _).app ((tl_alike b bs).map _)
theorem tl_ways (t : Tr) : Alike (t.tl [[]]) t.ways := by
  have h := tl_alike t [[]]
  have e : (t.ways.flatMap fun u => [[]].map (u ++ ·)) = t.ways := by
    simp
  rw [e] at h
  exact h
/-- All of them, or too many. -/
theorem tl_all (t : Tr) : (t.ways.length ≤ 300 ∧ t.tl [[]] = t.ways) ∨ (300 < t.ways.length ∧ 300 < (t.tl [[]]).length) := by
  rcases (tl_ways t).or with h | ⟨h1, h2⟩
  · by_cases hl : t.ways.length ≤ 300
    · exact .inl ⟨hl, h⟩
    · exact .inr ⟨by omega, by rw [h]; omega⟩
  · exact .inr ⟨by omega, by omega⟩

theorem tl_len : ∀ (t : Tr) (bs : List (List Int)), bs.length ≤ 301 → (t.tl bs).length ≤ 301
  | .leaf x, bs, h => h
  | .one x a, bs, h => by
    simp only [Tr.tl]
    split
    · exact tl_len a bs h
    · rw [List.length_take]; omega
  | .two x a b, bs, h => by
    simp only [Tr.tl]
    split
    · exact tl_len a _ (tl_len b bs h)
    · rw [List.length_take]; omega
theorem tl_in : ∀ (t : Tr) (bs : List (List Int)) (m : Nat), (∀ x ∈ bs, x.length ≤ m) → ∀ x ∈ t.tl bs, x.length ≤ m + t.nodes.length
  | .leaf x, bs, m, h, y, hy => by have := h y hy; omega
  | .one x a, bs, m, h, y, hy => by
    have ih := tl_in a bs m h
    simp only [Tr.tl] at hy
    simp only [Tr.nodes, List.length_cons]
    split at hy
    · have := ih y hy; omega
    · have hy := List.mem_of_mem_take hy
      rcases List.mem_append.1 hy with hy | hy
      · split at hy
        · obtain ⟨z, hz, rfl⟩ := List.mem_map.1 hy
          have := h z hz
          simp; omega
        · simp at hy
      · obtain ⟨z, hz, rfl⟩ := List.mem_map.1 hy
        have := ih z hz
        simp; omega
  | .two x a b, bs, m, h, y, hy => by
    have ia := tl_in a bs m h
    have ib := tl_in b bs m h
    simp only [Tr.tl] at hy
    simp only [Tr.nodes, List.length_cons, List.length_append]
    split at hy
    · have := tl_in a (b.tl bs) _ ib y hy; omega
    · have hy := List.mem_of_mem_take hy
      rcases List.mem_append.1 hy with hy | hy
      · obtain ⟨z, hz, rfl⟩ := List.mem_map.1 hy
        have := ia z hz
        simp; omega
      · obtain ⟨z, hz, rfl⟩ := List.mem_map.1 hy
        have := ib z hz
        simp; omega
end Go.Proofs.YtfabfclbnekleaaDoor
namespace Go.Proofs.YtfabfclbnekleaaDoor
open Go Go.RowKit

/-- Numbers in memory, out of a block. -/
def IntsN (g : Option Nat) (w : World) (a : Option Addr) (ws : List Int) : Prop :=
  ∀ i (h : i < ws.length), ∃ b o, a = some ⟨b, o, none⟩ ∧ b < w.heap.size ∧ some b ≠ g ∧ w.cell? ⟨b, o + i, none⟩ = some (.int .i64 ws[i])
theorem IntsN.ints {g : Option Nat} {w : World} {a : Option Addr} {ws : List Int} (h : IntsN g w a ws) : Ints w a ws := by
  intro i hi
  obtain ⟨b, o, e, h1, _, c⟩ := h i hi
  exact ⟨b, o, e, h1, c⟩
/-- Lists of numbers in memory, out of a block. -/
def WaysN (g : Option Nat) (w : World) (a : Option Addr) (ls : List (List Int)) : Prop :=
  ∀ i (h : i < ls.length), ∃ b o a' c', a = some ⟨b, o, none⟩ ∧ b < w.heap.size ∧ some b ≠ g ∧ w.cell? ⟨b, o + i, none⟩ = some (.slice a' ls[i].length c') ∧ ls[i].length ≤ c' ∧ IntsN g w a' ls[i] ∧ (a' = none → ls[i] = [] ∧ c' = 0)
theorem WaysN.kept {g : Option Nat} {w w' : World} {a : Option Addr} {ls : List (List Int)} (h : WaysN g w a ls) (hs : w.heap.size ≤ w'.heap.size) (hk : ∀ k, k < w.heap.size → some k ≠ g → w'.heap[k]? = w.heap[k]?) : WaysN g w' a ls := by
  intro i hi
  obtain ⟨b, o, a', c', e, h1, h2, c, h3, h4, h5⟩ := h i hi
  refine ⟨b, o, a', c', e, by omega, h2, (World.cell?_of_block (w := w) (a := ⟨b, o + i, none⟩) (hk b h1 h2)).trans c, h3, fun j hj => ?_, h5⟩
  obtain ⟨b', o', e', g1, g2, c2⟩ := h4 j hj
  exact ⟨b', o', e', by omega, g2, (World.cell?_of_block (w := w) (a := ⟨b', o' + j, none⟩) (hk b' g1 g2)).trans c2⟩
theorem WaysN.below {g : Option Nat} {w w' : World} {a : Option Addr} {ls : List (List Int)} (h : WaysN g w a ls) (hb : Below w.heap.size w w') : WaysN g w' a ls := h.kept hb.size fun k hk _ => hb.block k hk
/-- What lies there lies out of what is new. -/
theorem WaysN.new {g g' : Option Nat} {w : World} {a : Option Addr} {ls : List (List Int)} (h : WaysN g w a ls) (hg : ∀ k, g' = some k → w.heap.size ≤ k) : WaysN g' w a ls := by
  intro i hi
  obtain ⟨b, o, a', c', e, h1, h2, c, h3, h4, h5⟩ := h i hi
  refine ⟨b, o, a', c', e, h1, fun q => by have := hg b q.symm; omega, c, h3, fun j hj => ?_, h5⟩
  obtain ⟨b', o', e', g1, g2, c2⟩ := h4 j hj
  exact ⟨b', o', e', g1, fun q => by have := hg b' q.symm; omega, c2⟩
theorem WaysN.ways {g : Option Nat} {w : World} {a : Option Addr} {ls : List (List Int)} (h : WaysN g w a ls) : WaysIn w a ls := by
  intro i hi
  obtain ⟨b, o, a', c', e, h1, _, c, h3, h4, _⟩ := h i hi
  exact ⟨b, o, a', c', e, h1, c, h3, h4.ints⟩
/-- What the call has gathered lies out of what was there. -/
theorem Gath.waysN {B : Nat} {a : Option Addr} {n c : Nat} {ls : List (List Int)} {g g' : Option Nat} {w : World} (h : Gath B (.slice a n c) ls g' w) (hg : ∀ k, g = some k → k < B) : n = ls.length ∧ WaysN g w a ls := by
  obtain ⟨xs, h1, h2⟩ := h
  have hx : xs.length = ls.length := by have := h1.1; omega
  rcases h1.2 with ⟨hv, h0⟩ | ⟨gg, cc, cur, hv, hb, hgg, hnc, _, hsz, htake⟩
  · simp only [Value.slice.injEq] at hv
    obtain ⟨rfl, rfl, rfl⟩ := hv
    exact ⟨h0.symm, fun i hi => by omega⟩
  · simp only [Value.slice.injEq] at hv
    obtain ⟨rfl, rfl, rfl⟩ := hv
    refine ⟨rfl, fun i hi => ?_⟩
    obtain ⟨a', c', e1, e2, _⟩ := h2 i hi
    obtain ⟨_, _, q2, q3, q4⟩ := own_ints e2
    refine ⟨gg, 0, a', c', rfl, (Array.getElem?_eq_some_iff.1 hgg).1, fun q => by have := hg gg q.symm; omega, ?_, q2, fun j hj => ?_, q4⟩
    · rw [← htake, List.getElem?_take_of_lt (by omega)] at e1
      rw [Nat.zero_add]
      simp only [World.cell?, hgg]
      simpa using e1
    · obtain ⟨b', o', e', g1, c2⟩ := q3 j hj
      subst e'
      refine ⟨b', o', rfl, g1, fun q => ?_, c2⟩
      have h5 := (e2.lt b' rfl).1
      have := hg b' q.symm
      omega

/-- What the loop of ahead keeps. -/
def AhInv (B : Nat) (g0 : Option Nat) (ls ms : List (List Int)) (c : Int) (w : World) (vo vi : Value) (wr : World) : Prop :=
  ∃ (k : Nat) (av : Option Addr) (cv : Nat), k ≤ ms.length ∧ vi = .int .i64 k ∧ vo = .slice av (ls.length + k) cv ∧ Gath B (.slice av (ls.length + k) cv) (ls ++ (ms.take k).map (c :: ·)) none wr ∧ w.grownBy wr g0 ∧ ((Value.slice av (ls.length + k) cv).ownBlock = g0 ∨ ∀ j, (Value.slice av (ls.length + k) cv).ownBlock = some j → w.heap.size ≤ j)

set_option maxRecDepth 100000 in
set_option maxHeartbeats 4000000 in
theorem rahead_any (B : Nat) (v : Value) (ls ms : List (List Int)) (c : Int) (a : Option Addr) (ca : Nat) (w : World) (hG : Gath B v ls none w) (hM : WaysN v.ownBlock w a ms) (hB : B ≤ w.heap.size) (hl : ls.length + ms.length ≤ 1000) (hx : ∀ x ∈ ms, x.length ≤ 1000) :
    Calls Tryd.prog 73 #[v, .int .i64 c, .slice a ms.length ca] w fun e w' => ∃ v', e = .returned v' ∧ Gath B v' (ls ++ ms.map (c :: ·)) none w' ∧ w.grownBy w' v.ownBlock ∧ (v'.ownBlock = v.ownBlock ∨ ∀ k, v'.ownBlock = some k → w.heap.size ≤ k) := by
  obtain ⟨i1, hi1, hy0, hy1, hy2⟩ := info_parts intsInfo
  have HG0 : Hid (Gath B v ls none w) := hG
  have HM : Hid (WaysN v.ownBlock w a ms) := hM
  have HX : Hid (∀ x ∈ ms, x.length ≤ 1000) := hx
  obtain ⟨av0, cv0, rfl⟩ : ∃ av cv, v = .slice av ls.length cv := by
    obtain ⟨xs, h1, _⟩ := hG
    rcases h1.2 with ⟨hv, h0⟩ | ⟨g, c, cur, hv, _⟩
    · exact ⟨none, 0, by rw [hv, h0]⟩
    · exact ⟨_, c, hv⟩
  generalize hg0 : (Value.slice av0 ls.length cv0).ownBlock = g0 at HM
  have HV : Hid ((Value.slice av0 ls.length cv0).ownBlock = g0) := hg0
  clear hG hM hx hg0
  go_enter Tryd.func73, Tryd.ntmps73
  go_wp2
  go_loopw [0, 7] (fun vo vi wr => AhInv B g0 ls ms c w vo vi wr) (fun _ vi _ => ms.length - (intOf vi).toNat)
  case atStart => exact ⟨0, av0, cv0, Nat.zero_le _, rfl, rfl, by simpa using HG0.out, ⟨rfl, rfl, rfl, Nat.le_refl _, fun _ _ _ => rfl⟩, .inl HV.out⟩
  case round =>
    obtain ⟨k, av, cv, hk, rfl, rfl, hG, hgr, hat⟩ := hrel
    have HG : Hid (Gath B (.slice av (ls.length + k) cv) (ls ++ (ms.take k).map (c :: ·)) none wr) := hG
    have HGR : Hid (w.grownBy wr g0) := hgr
    have HAT : Hid ((Value.slice av (ls.length + k) cv).ownBlock = g0 ∨ ∀ j, (Value.slice av (ls.length + k) cv).ownBlock = some j → w.heap.size ≤ j) := hat
    have hsr := hgr.size
    clear hG hgr hat
    by_cases hlt : k < ms.length
    · have hki : (k : Int) < (ms.length : Int) := by omega
      obtain ⟨b1, o1, a4, d1, ea, hb1, _, c1, _, i4, hnil⟩ := (HM.out.kept hsr fun j hj hne => HGR.out.block j hj hne) k hlt
      subst ea
      have hml := HX.out _ (List.getElem_mem hlt)
      have hmt : (ms.take (k + 1)).map (c :: ·) = (ms.take k).map (c :: ·) ++ [c :: ms[k]] := by rw [List.take_add_one, List.getElem?_eq_getElem hlt, List.map_append]; rfl
      have HI4 : Hid (Ints wr a4 ms[k]) := i4.ints
      generalize ms[k] = m at c1 hml hmt HI4 hnil
      have HMT : Hid ((ms.take (k + 1)).map (c :: ·) = (ms.take k).map (c :: ·) ++ [c :: m]) := hmt
      have HNIL : Hid (a4 = none → m = [] ∧ d1 = 0) := hnil
      have HO : Hid ((wr.alloc (.cells #[.int .i64 c] 3)).ownsRow wr.heap.size 3 1 (.slice (some ⟨wr.heap.size, 0, none⟩) 1 1) 1 (intCells [c])) :=
        ⟨rfl, .inr ⟨wr.heap.size, 1, #[.int .i64 c], rfl, Nat.le_refl _, heap_alloc_new wr _, Nat.le_refl _, by unfold maxLen; decide, rfl, rfl⟩⟩
      clear i4 hnil hmt
      go_wp2_with (at_builtin; refine wpList_append_ints rfl _ _ rfl wr.heap.size _ _ [c] rfl HO.out a4 m d1 rfl (HI4.out.below ((Below.refl _ wr).alloc (Nat.le_refl _) _)) HNIL.out (by omega) (by simp) ?_)
      intro v5 w5 hown5 hgrow5
      have hb5 : Below wr.heap.size wr w5 := ((Below.refl _ wr).alloc (Nat.le_refl _) _).grown hgrow5 (by simp) (fun j hj => by simp only [Value.ownBlock, Option.some.injEq] at hj; omega)
      obtain ⟨a5, c5, rfl⟩ : ∃ a5 c5, v5 = .slice a5 (c :: m).length c5 := by
        rcases hown5.2 with ⟨hv, h0⟩ | ⟨g, q, cur, hv, _⟩
        · omega
        · exact ⟨_, q, by rw [hv]; congr 1; simp; omega⟩
      have HO5 : Hid (w5.ownsRow B 3 1 (.slice a5 (c :: m).length c5) (c :: m).length (intCells (c :: m))) := by
        show w5.ownsRow _ _ _ _ _ _
        have e1 : (c :: m).length = 1 + m.length := by simp; omega
        rw [e1] at hown5 ⊢
        exact own_base hown5 (by omega)
      obtain ⟨xs, hx, hall⟩ := HG.out.below hb5
      have hlk : (ls ++ (ms.take k).map (c :: ·)).length = ls.length + k := by simp; omega
      have HLK : Hid ((ls ++ (ms.take k).map (c :: ·)).length = ls.length + k) := hlk
      have HXX : Hid (w5.ownsRow B 60 1 (.slice av (ls.length + k) cv) (ls ++ (ms.take k).map (c :: ·)).length xs) := hx
      have HXk : Hid (w5.ownsRow B 60 1 (.slice av (ls.length + k) cv) (ls.length + k) xs) := by
        have := hx
        rw [hlk] at this
        exact this
      have HALL := (show Hid (∀ i (h : i < (ls ++ (ms.take k).map (c :: ·)).length), ∃ a c', xs[i]? = some (.slice a (ls ++ (ms.take k).map (c :: ·))[i].length c') ∧ w5.ownsRow B 3 1 (.slice a (ls ++ (ms.take k).map (c :: ·))[i].length c') (ls ++ (ms.take k).map (c :: ·))[i].length (intCells (ls ++ (ms.take k).map (c :: ·))[i]) ∧ (∀ j, (Value.slice a (ls ++ (ms.take k).map (c :: ·))[i].length c').ownBlock = some j → (none : Option Nat) ≠ some j)) from hall)
      have hs5 := hb5.size
      have HB5 : Hid (Below wr.heap.size wr w5) := hb5
      generalize hlm : (c :: m).length = nl at HO5
      have HLM : Hid ((c :: m).length = nl) := hlm
      clear hx hall hown5 hgrow5 hb5 hlk HO hlm
      go_wp2_with (at_builtin; refine wpList_append_lies _ rfl _ _ 61 rfl B 60 i1 _ 1 24 Tryd.underlying61 hi1 hy0 hy1 hy2 rfl (by decide) _ _ _ rfl (HXk.out.alloc _) ⟨w5.heap.size, 0, none⟩ 1 1 [.slice a5 nl c5] rfl rfl (cell_one_new w5 _ _) (by intro u hu; simp at hu; subst hu; rfl) (by decide) (by unfold maxLen; omega) (by omega) (by simp; omega) (w5.heap.size + 1) (by simp) ?_)
      intro g6 cap6 w6 hown6 hgrow6 hat6 hlt6
      have HG6 : Hid (Gath B (.slice (some ⟨g6, 0, none⟩) (ls.length + (k + 1)) cap6) (ls ++ (ms.take (k + 1)).map (c :: ·)) none w6) := by
        show Gath _ _ _ _ _
        rw [HMT.out, ← List.append_assoc]
        have ho := HO5.out
        rw [← HLM.out] at ho
        refine Gath.push (HXX.out.alloc _) (fun i hi => ?_) (ho.alloc _) (fun _ _ => by simp) hgrow6 (by rw [HLK.out, HLM.out, ← Nat.add_assoc]; exact hown6)
        obtain ⟨a', c', e1, e2, e3⟩ := HALL.out i hi
        exact ⟨a', c', e1, e2.alloc _, e3⟩
      have HGR6 : Hid (w.grownBy w6 g0) := by
        refine ⟨hgrow6.os.trans (HB5.out.os.trans HGR.out.os), hgrow6.tape.trans (HB5.out.tape.trans HGR.out.tape), hgrow6.output.trans (HB5.out.output.trans HGR.out.output), ?_, fun j hj hne => ?_⟩
        · have := hgrow6.size
          simp at this
          omega
        · refine (hgrow6.block j (by simp; omega) ?_).trans ((Below.heap_alloc _ _ _ (by omega)).trans ((HB5.out.block j (by omega)).trans (HGR.out.block j hj hne)))
          intro e
          rcases HAT.out with h | h
          · exact hne (e.trans h)
          · have := h j e.symm
            omega
      have HAT6 : Hid ((Value.slice (some ⟨g6, 0, none⟩) (ls.length + (k + 1)) cap6).ownBlock = g0 ∨ ∀ j, (Value.slice (some ⟨g6, 0, none⟩) (ls.length + (k + 1)) cap6).ownBlock = some j → w.heap.size ≤ j) := by
        rcases hat6 with h | h
        · rcases HAT.out with h1 | h1
          · exact .inl (h.symm.trans h1)
          · exact .inr fun j hj => h1 j (h.trans hj)
        · refine .inr fun j hj => ?_
          simp only [Value.ownBlock, Option.some.injEq] at hj
          omega
      clear hown6 hgrow6 hat6 hlt6 HXX HXk HALL HO5 HB5
      go_wp2
      go_roundw
      case rel => exact ⟨k + 1, _, _, by omega, by go_num, rfl, HG6.out, HGR6.out, HAT6.out⟩
      case measure => simp [intOf]; omega
    · obtain rfl : k = ms.length := by omega
      go_wp2
      go_ret
      have hG := HG.out
      rw [List.take_length] at hG
      exact ⟨_, rfl, hG, HGR.out, HAT.out⟩
end Go.Proofs.YtfabfclbnekleaaDoor
namespace Go.Proofs.YtfabfclbnekleaaDoor
open Go Go.RowKit

/-- Tails gives such nodes' ways with each of some tails behind them, wherever they stand. -/
def TlOk (ds : List Nd) (a : Option Addr) (cap : Nat) (A : List Nd) (f : List (List Int) → List (List Int)) : Prop :=
  ∀ (i : Nat) (r : List Nd) (bs : List (List Int)) (ba : Option Addr) (bc m : Nat) (w : World), ds.drop i = A ++ r → Nods w a ds → WaysN none w ba bs → bs.length ≤ bc → bs.length ≤ 301 → (∀ x ∈ bs, x.length ≤ m) → m + A.length ≤ 900 →
    Calls Tryd.prog 50 #[.slice a ds.length cap, .int .i64 i, .slice ba bs.length bc, .int .i64 300] w fun e w' => ∃ a' c', e = .returned (.slice a' (f bs).length c') ∧ (f bs).length ≤ c' ∧ (∀ g : Option Nat, (∀ k, g = some k → k < w.heap.size) → WaysN g w ba bs → WaysN g w' a' (f bs)) ∧ Below w.heap.size w w'
/-- No more tails than so many, and none longer than by its nodes. -/
def TlBd (A : List Nd) (f : List (List Int) → List (List Int)) : Prop :=
  (∀ bs, bs.length ≤ 301 → (f bs).length ≤ 301) ∧ ∀ bs m, (∀ x ∈ bs, x.length ≤ m) → ∀ x ∈ f bs, x.length ≤ m + A.length

theorem WaysN.take {g : Option Nat} {w : World} {a : Option Addr} {ls : List (List Int)} (h : WaysN g w a ls) (n : Nat) : WaysN g w a (ls.take n) := by
  intro i hi
  have hi' : i < ls.length := by simp at hi; omega
  have e : (ls.take n)[i] = ls[i] := List.getElem_take
  rw [e]
  exact h i hi'
/-- What is gathered, for a reader. -/
theorem Gath.out {B : Nat} {v : Value} {ls : List (List Int)} {w : World} (h : Gath B v ls none w) : ∃ a c, v = .slice a ls.length c ∧ ls.length ≤ c ∧ (ls.length = 0 ∨ ∃ k, a = some ⟨k, 0, none⟩) ∧ (∀ g : Option Nat, (∀ k, g = some k → k < B) → WaysN g w a ls) ∧ (∀ k, v.ownBlock = some k → B ≤ k ∧ k < w.heap.size) := by
  have h' := h
  obtain ⟨xs, h1, _⟩ := h'
  rcases h1.2 with ⟨rfl, h0⟩ | ⟨gg, cc, cur, rfl, hb, hgg, hnc, _⟩
  · rw [h0] at *
    exact ⟨none, 0, rfl, Nat.le_refl _, .inl rfl, fun g hg => (h.waysN hg).2, fun k hk => by cases hk⟩
  · exact ⟨_, cc, rfl, hnc, .inr ⟨_, rfl⟩, fun g hg => (h.waysN hg).2, fun k hk => by
      cases hk
      exact ⟨hb, (Array.getElem?_eq_some_iff.1 hgg).1⟩⟩
theorem grown_below {w w' : World} {g : Option Nat} {B : Nat} (h : w.grownBy w' g) (hB : B ≤ w.heap.size) (hg : ∀ k, g = some k → B ≤ k) : Below B w w' := (Below.refl B w).grown h hB hg
/-- What is behind lies out of what is new. -/
theorem WaysN.apart {w w' : World} {a : Option Addr} {ls : List (List Int)} {g : Option Nat} (h : WaysN none w a ls) (hb : Below w.heap.size w w') (hg : ∀ k, g = some k → w.heap.size ≤ k) : WaysN g w' a ls := (h.new hg).below hb

set_option maxRecDepth 100000 in
set_option maxHeartbeats 4000000 in
theorem tails_leaf (ds : List Nd) (a : Option Addr) (cap : Nat) (op : Int) (ho : op = 1 ∨ op = 2 ∨ op = 3 ∨ op = 4 ∨ op = 5) (tx : ByteArray) (n : Int) : TlOk ds a cap [⟨op, tx, n⟩] (fun bs => bs) := by
  intro i r bs ba bc m w hd hN hM hbc hbl hx hm
  obtain ⟨hi, e1, e2⟩ := drop_head (x := ⟨op, tx, n⟩) (r := r) hd
  obtain ⟨b0, o0, ea, hlt, c1, c2, c3⟩ := hN i hi
  subst ea
  rw [e1] at c1 c2 c3
  dsimp only at c1 c2 c3
  clear hd e1 e2 hN hM hx
  rcases ho with rfl | rfl | rfl | rfl | rfl
  all_goals
    go_enter Tryd.func50, Tryd.ntmps50
    go_wp2
    go_ret
    exact ⟨_, _, rfl, hbc, fun g _ h => h, Below.refl _ _⟩

set_option maxRecDepth 100000 in
set_option maxHeartbeats 4000000 in
theorem tails_7 (ds : List Nd) (a : Option Addr) (cap : Nat) (hl : ds.length ≤ 400) (tx : ByteArray) (n : Int) (A : List Nd) (f : List (List Int) → List (List Int)) (hA : TlOk ds a cap A f) : TlOk ds a cap (⟨7, tx, n⟩ :: A) f := by
  intro i r bs ba bc m w hd hN hM hbc hbl hx hm
  obtain ⟨hi, e1, e2⟩ := drop_head (x := ⟨7, tx, n⟩) (r := A ++ r) hd
  obtain ⟨b0, o0, ea, hlt, c1, c2, c3⟩ := hN i hi
  subst ea
  rw [e1] at c1 c2 c3
  dsimp only at c1 c2 c3
  simp only [List.length_cons] at hm
  have HX : Hid (((i + 1 : Nat) : Int) = (i : Int) + 1) := (show _ = _ by omega)
  have HA : Hid (Calls Tryd.prog 50 #[.slice (some ⟨b0, o0, none⟩) ds.length cap, .int .i64 (i + 1 : Nat), .slice ba bs.length bc, .int .i64 300] w _) := hA (i + 1) r bs ba bc m w e2 hN hM hbc hbl hx (by omega)
  clear hd e1 e2 hN hM hx hA
  go_enter Tryd.func50, Tryd.ntmps50
  go_wp2_with fail
  rw [← HX.out]
  refine HA.out.mono ?_
  rintro e w2 ⟨a2, k2, rfl, h2, h3, h4⟩
  have H3 : Hid (∀ g : Option Nat, (∀ k, g = some k → k < w.heap.size) → WaysN g w ba bs → WaysN g w2 a2 (f bs)) := h3
  clear h3
  go_wp2
  go_ret
  exact ⟨_, _, rfl, h2, H3.out, h4⟩

set_option maxRecDepth 100000 in
set_option maxHeartbeats 4000000 in
theorem tails_6 (ds : List Nd) (a : Option Addr) (cap : Nat) (hl : ds.length ≤ 400) (tx : ByteArray) (n : Int) (A C : List Nd) (f g : List (List Int) → List (List Int)) (hA : TlOk ds a cap A f) (hC : TlOk ds a cap C g) (hg : TlBd C g) (hE : ∀ i r, ds.drop i = A ++ r → endAt ds i 1 = some (i + A.length)) : TlOk ds a cap (⟨6, tx, n⟩ :: (A ++ C)) (fun bs => f (g bs)) := by
  intro i r bs ba bc m w hd hN hM hbc hbl hx hm
  obtain ⟨hi, e1, e2⟩ := drop_head (x := ⟨6, tx, n⟩) (r := (A ++ C) ++ r) hd
  obtain ⟨b0, o0, ea, hlt, c1, c2, c3⟩ := hN i hi
  subst ea
  rw [e1] at c1 c2 c3
  dsimp only at c1 c2 c3
  simp only [List.length_cons, List.length_append] at hm
  have HX : Hid (((i + 1 : Nat) : Int) = (i : Int) + 1) := (show _ = _ by omega)
  have HD : Hid (ds.drop (i + 1) = (A ++ C) ++ r) := e2
  rw [List.append_assoc] at HD
  have HN : Hid (Nods w (some ⟨b0, o0, none⟩) ds) := hN
  have HE : Hid (endAt ds (i + 1) 1 = some (i + 1 + A.length)) := hE (i + 1) (C ++ r) HD.out
  have HD2 : Hid (ds.drop (i + 1 + A.length) = C ++ r) := drop_more HD.out
  have HC : Hid (Calls Tryd.prog 50 #[.slice (some ⟨b0, o0, none⟩) ds.length cap, .int .i64 (i + 1 + A.length : Nat), .slice ba bs.length bc, .int .i64 300] w _) := hC (i + 1 + A.length) r bs ba bc m w HD2.out hN hM hbc hbl hx (by omega)
  have HA : Hid (TlOk ds (some ⟨b0, o0, none⟩) cap A f) := hA
  have HM : Hid (WaysN none w ba bs) := hM
  have HG1 : Hid ((g bs).length ≤ 301) := hg.1 bs hbl
  have HG2 : Hid (∀ x ∈ g bs, x.length ≤ m + C.length) := hg.2 bs m hx
  clear hd e1 e2 hN hM hx hA hC hE
  go_enter Tryd.func50, Tryd.ntmps50
  go_wp2_with fail
  rw [← HX.out]
  refine (rendOf_any ds _ cap hl (ds.length + 1) (i + 1) w HN.out (by omega) (by omega)).mono ?_
  rintro e w3 ⟨rfl, rfl⟩
  rw [HE.out]
  have hz : endZ (some (i + 1 + A.length)) = ((i + 1 + A.length : Nat) : Int) := rfl
  rw [hz]
  generalize hj : i + 1 + A.length = j at HC ⊢
  clear hz hj
  go_wp2_with fail
  refine HC.out.mono ?_
  rintro e w2 ⟨a2, k2, rfl, h2, h3, h4⟩
  have H3 : Hid (∀ g_1 : Option Nat, (∀ k, g_1 = some k → k < w.heap.size) → WaysN g_1 w ba bs → WaysN g_1 w2 a2 (g bs)) := h3
  clear h3
  go_wp2_with fail
  rw [← HX.out]
  refine (HA.out (i + 1) (C ++ r) (g bs) a2 k2 (m + C.length) w2 HD.out (HN.out.below h4) (H3.out none (fun _ h => by cases h) HM.out) h2 HG1.out HG2.out (by omega)).mono ?_
  rintro e w5 ⟨a5, k5, rfl, h5, h6, h7⟩
  have H6 : Hid (∀ g_1 : Option Nat, (∀ k, g_1 = some k → k < w2.heap.size) → WaysN g_1 w2 a2 (g bs) → WaysN g_1 w5 a5 (f (g bs))) := h6
  clear h6
  go_wp2
  go_ret
  refine ⟨_, _, rfl, h5, fun q hq hw => H6.out q (fun k hk => ?_) (H3.out q hq hw), h4.trans (h7.mono h4.size)⟩
  have := hq k hk
  have := h4.size
  omega
end Go.Proofs.YtfabfclbnekleaaDoor
namespace Go.Proofs.YtfabfclbnekleaaDoor
open Go Go.RowKit

set_option maxRecDepth 100000 in
set_option maxHeartbeats 1000000 in
theorem tails_8t (ds : List Nd) (a : Option Addr) (cap : Nat) (hl : ds.length ≤ 400) (tx : ByteArray) (n : Int) (A : List Nd) (f : List (List Int) → List (List Int)) (sA : ByteArray) (hA : TlOk ds a cap A f) (hf : TlBd A f) (hF : FlatOk ds a cap A sA true) (F : List (List Int) → List (List Int)) (HF : Hid (∀ bs, F bs = (bs.map (0 :: ·) ++ (f bs).map (1 :: ·)).take 301)) : TlOk ds a cap (⟨8, tx, n⟩ :: A) F := by
  intro i r bs ba bc m w hd hN hM hbc hbl hx hm
  obtain ⟨hi, e1, e2⟩ := drop_head (x := ⟨8, tx, n⟩) (r := A ++ r) hd
  obtain ⟨b0, o0, ea, hlt, c1, c2, c3⟩ := hN i hi
  subst ea
  rw [e1] at c1 c2 c3
  dsimp only at c1 c2 c3
  simp only [List.length_cons] at hm
  have HX : Hid (((i + 1 : Nat) : Int) = (i : Int) + 1) := (show _ = _ by omega)
  have HN : Hid (Nods w (some ⟨b0, o0, none⟩) ds) := hN
  have HM : Hid (WaysN none w ba bs) := hM
  have HXX : Hid (∀ x ∈ bs, x.length ≤ m) := hx
  have HA : Hid (TlOk ds (some ⟨b0, o0, none⟩) cap A f) := hA
  have HF1 : Hid ((f bs).length ≤ 301) := hf.1 bs hbl
  have HF2 : Hid (∀ x ∈ f bs, x.length ≤ m + A.length) := hf.2 bs m hx
  have HFL : Hid (FlatOk ds (some ⟨b0, o0, none⟩) cap A sA true) := hF
  have HD : Hid (ds.drop (i + 1) = A ++ r) := e2
  clear hd e1 e2 hN hM hx hA hF hf
  go_enter Tryd.func50, Tryd.ntmps50
  go_wp2_with fail
  rw [← HX.out]
  refine (HFL.out (i + 1) _ _ HD.out HN.out).mono ?_
  rintro e w1 ⟨rfl, hb1⟩
  have HB1 : Hid (Below w.heap.size w w1) := hb1
  have hs1 := hb1.size
  clear hb1
  go_wp2_with fail
  refine (rahead_any w.heap.size (.slice none 0 0) [] bs 0 ba bc w1 (Gath.nil _ _ _) (HM.out.below HB1.out) hs1 (by simp; omega) (fun x h => by have := HXX.out x h; omega)).mono ?_
  rintro e w2 ⟨v2, rfl, hg2, hgr2, hat2⟩
  rw [List.nil_append] at hg2
  have hl1 : (bs.map (0 :: ·)).length ≤ 301 := by rw [List.length_map]; exact hbl
  generalize he1 : bs.map (0 :: ·) = l1 at hg2 hl1
  have HE1 : Hid (bs.map (0 :: ·) = l1) := he1
  have HL1 : Hid (l1.length ≤ 301) := hl1
  clear he1 hl1
  have HB2 : Hid (Below w.heap.size w w2) := HB1.out.trans (grown_below hgr2 hs1 (fun k h => by cases h))
  have hs2 := HB2.out.size
  obtain ⟨a2, k2, rfl, _, _, _, ho2⟩ := hg2.out
  have hl1 : l1.length ≤ 301 := HL1.out
  generalize hn1 : l1.length = n1 at hg2 ho2 hl1
  have HG2 : Hid (Gath w.heap.size (.slice a2 n1 k2) l1 none w2) := hg2
  have HO2 : Hid (∀ k, (Value.slice a2 n1 k2).ownBlock = some k → w.heap.size ≤ k ∧ k < w2.heap.size) := ho2
  clear hg2 hgr2 hat2 ho2 hn1
  go_wp2_with fail
  rw [← HX.out]
  refine (HA.out (i + 1) r bs ba bc m w2 HD.out (HN.out.below HB2.out) (HM.out.below HB2.out) hbc hbl HXX.out (by omega)).mono ?_
  rintro e w3 ⟨a3, k3, rfl, h3, h4, hb3⟩
  have HW3 : Hid (WaysN (Value.slice a2 n1 k2).ownBlock w3 a3 (f bs)) := h4 (Value.slice a2 n1 k2).ownBlock (fun k h => (HO2.out k h).2) (HM.out.apart HB2.out fun k h => (HO2.out k h).1)
  have HG3 : Hid (Gath w.heap.size (.slice a2 n1 k2) l1 none w3) := HG2.out.below hb3
  have HB3 : Hid (Below w.heap.size w w3) := HB2.out.trans (hb3.mono hs2)
  have hs3 := HB3.out.size
  clear h4 hb3
  go_wp2_with fail
  refine (rahead_any w.heap.size (.slice a2 n1 k2) l1 (f bs) 1 a3 k3 w3 HG3.out HW3.out hs3 (by have := HF1.out; have := HL1.out; omega) (fun x h => by have := HF2.out x h; omega)).mono ?_
  rintro e w5 ⟨v5, rfl, hg5, hgr5, _⟩
  generalize he5 : l1 ++ (f bs).map (1 :: ·) = l5 at hg5
  have HG5 : Hid (Gath w.heap.size v5 l5 none w5) := hg5
  have HE5 : Hid (F bs = l5.take 301) := (show _ = _ by rw [HF.out, HE1.out, he5])
  clear he5
  have HB5 : Hid (Below w.heap.size w w5) := HB3.out.trans (grown_below hgr5 hs3 (fun k h => (HO2.out k h).1))
  clear hg5 hgr5
  obtain ⟨a5, k5, rfl, h5, h6, h7, _⟩ := HG5.out.out
  have H7 : Hid (∀ g : Option Nat, (∀ k, g = some k → k < w.heap.size) → WaysN g w5 a5 l5) := h7
  generalize hn5 : l5.length = n5 at h5 h6
  have HL5 : Hid (l5.length = n5) := hn5
  clear h7 hn5 HG5
  by_cases hcut : 301 < n5
  · obtain ⟨q5, rfl⟩ : ∃ q5, a5 = some ⟨q5, 0, none⟩ := h6.resolve_left (by omega)
    have hcz : (301 : Int) < (n5 : Int) := by omega
    clear h6
    go_wp2
    go_ret
    rw [HE5.out]
    refine ⟨some ⟨q5, 0, none⟩, k5, ?_, ?_, fun q hq _ => (H7.out q hq).take 301, HB5.out⟩
    · have e : (l5.take 301).length = 301 := by rw [List.length_take, HL5.out]; omega
      rw [e]
      rfl
    · rw [List.length_take, HL5.out]
      omega
  · have hcz : ¬ (301 : Int) < (n5 : Int) := by omega
    clear h6
    go_wp2
    go_ret
    rw [HE5.out]
    refine ⟨a5, k5, ?_, ?_, fun q hq _ => (H7.out q hq).take 301, HB5.out⟩
    · have e : (l5.take 301).length = n5 := by rw [List.length_take, HL5.out]; omega
      rw [e]
      rfl
    · rw [List.length_take, HL5.out]
      omega

set_option maxRecDepth 100000 in
set_option maxHeartbeats 1000000 in
theorem tails_8f (ds : List Nd) (a : Option Addr) (cap : Nat) (hl : ds.length ≤ 400) (tx : ByteArray) (n : Int) (A : List Nd) (f : List (List Int) → List (List Int)) (sA : ByteArray) (hA : TlOk ds a cap A f) (hf : TlBd A f) (hF : FlatOk ds a cap A sA false) (F : List (List Int) → List (List Int)) (HF : Hid (∀ bs, F bs = (([] : List (List Int)) ++ (f bs).map (1 :: ·)).take 301)) : TlOk ds a cap (⟨8, tx, n⟩ :: A) F := by
  intro i r bs ba bc m w hd hN hM hbc hbl hx hm
  obtain ⟨hi, e1, e2⟩ := drop_head (x := ⟨8, tx, n⟩) (r := A ++ r) hd
  obtain ⟨b0, o0, ea, hlt, c1, c2, c3⟩ := hN i hi
  subst ea
  rw [e1] at c1 c2 c3
  dsimp only at c1 c2 c3
  simp only [List.length_cons] at hm
  have HX : Hid (((i + 1 : Nat) : Int) = (i : Int) + 1) := (show _ = _ by omega)
  have HN : Hid (Nods w (some ⟨b0, o0, none⟩) ds) := hN
  have HM : Hid (WaysN none w ba bs) := hM
  have HXX : Hid (∀ x ∈ bs, x.length ≤ m) := hx
  have HA : Hid (TlOk ds (some ⟨b0, o0, none⟩) cap A f) := hA
  have HF1 : Hid ((f bs).length ≤ 301) := hf.1 bs hbl
  have HF2 : Hid (∀ x ∈ f bs, x.length ≤ m + A.length) := hf.2 bs m hx
  have HFL : Hid (FlatOk ds (some ⟨b0, o0, none⟩) cap A sA false) := hF
  have HD : Hid (ds.drop (i + 1) = A ++ r) := e2
  clear hd e1 e2 hN hM hx hA hF hf
  go_enter Tryd.func50, Tryd.ntmps50
  go_wp2_with fail
  rw [← HX.out]
  refine (HFL.out (i + 1) _ _ HD.out HN.out).mono ?_
  rintro e w1 ⟨rfl, hb1⟩
  have HB1 : Hid (Below w.heap.size w w1) := hb1
  have hs1 := hb1.size
  clear hb1
  go_wp2_with fail
  rw [← HX.out]
  refine (HA.out (i + 1) r bs ba bc m w1 HD.out (HN.out.below HB1.out) (HM.out.below HB1.out) hbc hbl HXX.out (by omega)).mono ?_
  rintro e w3 ⟨a3, k3, rfl, h3, h4, hb3⟩
  have HW3 : Hid (WaysN none w3 a3 (f bs)) := h4 none (fun k h => by cases h) (HM.out.below HB1.out)
  have HB3 : Hid (Below w.heap.size w w3) := HB1.out.trans (hb3.mono hs1)
  have hs3 := HB3.out.size
  clear h4 hb3
  go_wp2_with fail
  refine (rahead_any w.heap.size (.slice none 0 0) [] (f bs) 1 a3 k3 w3 (Gath.nil _ _ _) HW3.out hs3 (by have := HF1.out; simp; omega) (fun x h => by have := HF2.out x h; omega)).mono ?_
  rintro e w5 ⟨v5, rfl, hg5, hgr5, _⟩
  generalize he5 : ([] : List (List Int)) ++ (f bs).map (1 :: ·) = l5 at hg5
  have HG5 : Hid (Gath w.heap.size v5 l5 none w5) := hg5
  have HE5 : Hid (F bs = l5.take 301) := (show _ = _ by rw [HF.out, he5])
  clear he5
  have HB5 : Hid (Below w.heap.size w w5) := HB3.out.trans (grown_below hgr5 hs3 (fun k h => by cases h))
  clear hg5 hgr5
  obtain ⟨a5, k5, rfl, h5, h6, h7, _⟩ := HG5.out.out
  have H7 : Hid (∀ g : Option Nat, (∀ k, g = some k → k < w.heap.size) → WaysN g w5 a5 l5) := h7
  generalize hn5 : l5.length = n5 at h5 h6
  have HL5 : Hid (l5.length = n5) := hn5
  clear h7 hn5 HG5
  by_cases hcut : 301 < n5
  · obtain ⟨q5, rfl⟩ : ∃ q5, a5 = some ⟨q5, 0, none⟩ := h6.resolve_left (by omega)
    have hcz : (301 : Int) < (n5 : Int) := by omega
    clear h6
    go_wp2
    go_ret
    rw [HE5.out]
    refine ⟨some ⟨q5, 0, none⟩, k5, ?_, ?_, fun q hq _ => (H7.out q hq).take 301, HB5.out⟩
    · have e : (l5.take 301).length = 301 := by rw [List.length_take, HL5.out]; omega
      rw [e]
      rfl
    · rw [List.length_take, HL5.out]
      omega
  · have hcz : ¬ (301 : Int) < (n5 : Int) := by omega
    clear h6
    go_wp2
    go_ret
    rw [HE5.out]
    refine ⟨a5, k5, ?_, ?_, fun q hq _ => (H7.out q hq).take 301, HB5.out⟩
    · have e : (l5.take 301).length = n5 := by rw [List.length_take, HL5.out]; omega
      rw [e]
      rfl
    · rw [List.length_take, HL5.out]
      omega

set_option maxRecDepth 100000 in
set_option maxHeartbeats 1000000 in
theorem tails_9 (ds : List Nd) (a : Option Addr) (cap : Nat) (hl : ds.length ≤ 400) (tx : ByteArray) (n : Int) (A C : List Nd) (f g : List (List Int) → List (List Int)) (hA : TlOk ds a cap A f) (hf : TlBd A f) (hC : TlOk ds a cap C g) (hg : TlBd C g) (hE : ∀ i r, ds.drop i = A ++ r → endAt ds i 1 = some (i + A.length)) (F : List (List Int) → List (List Int)) (HF : Hid (∀ bs, F bs = ((f bs).map (0 :: ·) ++ (g bs).map (1 :: ·)).take 301)) : TlOk ds a cap (⟨9, tx, n⟩ :: (A ++ C)) F := by
  intro i r bs ba bc m w hd hN hM hbc hbl hx hm
  obtain ⟨hi, e1, e2⟩ := drop_head (x := ⟨9, tx, n⟩) (r := (A ++ C) ++ r) hd
  obtain ⟨b0, o0, ea, hlt, c1, c2, c3⟩ := hN i hi
  subst ea
  rw [e1] at c1 c2 c3
  dsimp only at c1 c2 c3
  simp only [List.length_cons, List.length_append] at hm
  have HX : Hid (((i + 1 : Nat) : Int) = (i : Int) + 1) := (show _ = _ by omega)
  have HN : Hid (Nods w (some ⟨b0, o0, none⟩) ds) := hN
  have HM : Hid (WaysN none w ba bs) := hM
  have HXX : Hid (∀ x ∈ bs, x.length ≤ m) := hx
  have HA : Hid (TlOk ds (some ⟨b0, o0, none⟩) cap A f) := hA
  have HF1 : Hid ((f bs).length ≤ 301) := hf.1 bs hbl
  have HF2 : Hid (∀ x ∈ f bs, x.length ≤ m + A.length) := hf.2 bs m hx
  have HC : Hid (TlOk ds (some ⟨b0, o0, none⟩) cap C g) := hC
  have HC1 : Hid ((g bs).length ≤ 301) := hg.1 bs hbl
  have HC2 : Hid (∀ x ∈ g bs, x.length ≤ m + C.length) := hg.2 bs m hx
  have HD : Hid (ds.drop (i + 1) = (A ++ C) ++ r) := e2
  rw [List.append_assoc] at HD
  have HE : Hid (endAt ds (i + 1) 1 = some (i + 1 + A.length)) := hE (i + 1) (C ++ r) HD.out
  have HD2 : Hid (ds.drop (i + 1 + A.length) = C ++ r) := drop_more HD.out
  clear hd e1 e2 hN hM hx hA hC hE hf hg
  go_enter Tryd.func50, Tryd.ntmps50
  go_wp2_with fail
  rw [← HX.out]
  refine (HA.out (i + 1) (C ++ r) bs ba bc m w HD.out HN.out HM.out hbc hbl HXX.out (by omega)).mono ?_
  rintro e w1 ⟨a1, k1, rfl, h1, h4, hb1⟩
  have HW1 : Hid (WaysN none w1 a1 (f bs)) := h4 none (fun k h => by cases h) HM.out
  have HB1 : Hid (Below w.heap.size w w1) := hb1
  have hs1 := hb1.size
  clear h4 hb1
  go_wp2_with fail
  refine (rahead_any w.heap.size (.slice none 0 0) [] (f bs) 0 a1 k1 w1 (Gath.nil _ _ _) HW1.out hs1 (by have := HF1.out; simp; omega) (fun x h => by have := HF2.out x h; omega)).mono ?_
  rintro e w2 ⟨v2, rfl, hg2, hgr2, hat2⟩
  rw [List.nil_append] at hg2
  have hl1 : ((f bs).map (0 :: ·)).length ≤ 301 := by rw [List.length_map]; exact HF1.out
  generalize he1 : (f bs).map (0 :: ·) = l1 at hg2 hl1
  have HE1 : Hid ((f bs).map (0 :: ·) = l1) := he1
  have HL1 : Hid (l1.length ≤ 301) := hl1
  clear he1 hl1
  have HB2 : Hid (Below w.heap.size w w2) := HB1.out.trans (grown_below hgr2 hs1 (fun k h => by cases h))
  have hs2 := HB2.out.size
  obtain ⟨a2, k2, rfl, _, _, _, ho2⟩ := hg2.out
  have hl1 : l1.length ≤ 301 := HL1.out
  generalize hn1 : l1.length = n1 at hg2 ho2 hl1
  have HG2 : Hid (Gath w.heap.size (.slice a2 n1 k2) l1 none w2) := hg2
  have HO2 : Hid (∀ k, (Value.slice a2 n1 k2).ownBlock = some k → w.heap.size ≤ k ∧ k < w2.heap.size) := ho2
  clear hg2 hgr2 hat2 ho2 hn1
  go_wp2_with fail
  rw [← HX.out]
  refine (rendOf_any ds _ cap hl (ds.length + 1) (i + 1) w2 (HN.out.below HB2.out) (by omega) (by omega)).mono ?_
  rintro e w4 ⟨rfl, rfl⟩
  rw [HE.out]
  have hz : endZ (some (i + 1 + A.length)) = ((i + 1 + A.length : Nat) : Int) := rfl
  rw [hz]
  generalize hj : i + 1 + A.length = j at HD2 ⊢
  clear hz hj
  go_wp2_with fail
  refine (HC.out j r bs ba bc m w2 HD2.out (HN.out.below HB2.out) (HM.out.below HB2.out) hbc hbl HXX.out (by omega)).mono ?_
  rintro e w3 ⟨a3, k3, rfl, h3, h4, hb3⟩
  have HW3 : Hid (WaysN (Value.slice a2 n1 k2).ownBlock w3 a3 (g bs)) := h4 (Value.slice a2 n1 k2).ownBlock (fun k h => (HO2.out k h).2) (HM.out.apart HB2.out fun k h => (HO2.out k h).1)
  have HG3 : Hid (Gath w.heap.size (.slice a2 n1 k2) l1 none w3) := HG2.out.below hb3
  have HB3 : Hid (Below w.heap.size w w3) := HB2.out.trans (hb3.mono hs2)
  have hs3 := HB3.out.size
  clear h4 hb3
  go_wp2_with fail
  refine (rahead_any w.heap.size (.slice a2 n1 k2) l1 (g bs) 1 a3 k3 w3 HG3.out HW3.out hs3 (by have := HF1.out; have := HC1.out; have := HL1.out; omega) (fun x h => by have := HC2.out x h; omega)).mono ?_
  rintro e w5 ⟨v5, rfl, hg5, hgr5, _⟩
  generalize he5 : l1 ++ (g bs).map (1 :: ·) = l5 at hg5
  have HG5 : Hid (Gath w.heap.size v5 l5 none w5) := hg5
  have HE5 : Hid (F bs = l5.take 301) := (show _ = _ by rw [HF.out, HE1.out, he5])
  clear he5
  have HB5 : Hid (Below w.heap.size w w5) := HB3.out.trans (grown_below hgr5 hs3 (fun k h => (HO2.out k h).1))
  clear hg5 hgr5
  obtain ⟨a5, k5, rfl, h5, h6, h7, _⟩ := HG5.out.out
  have H7 : Hid (∀ g : Option Nat, (∀ k, g = some k → k < w.heap.size) → WaysN g w5 a5 l5) := h7
  generalize hn5 : l5.length = n5 at h5 h6
  have HL5 : Hid (l5.length = n5) := hn5
  clear h7 hn5 HG5
  by_cases hcut : 301 < n5
  · obtain ⟨q5, rfl⟩ : ∃ q5, a5 = some ⟨q5, 0, none⟩ := h6.resolve_left (by omega)
    have hcz : (301 : Int) < (n5 : Int) := by omega
    clear h6
    go_wp2
    go_ret
    rw [HE5.out]
    refine ⟨some ⟨q5, 0, none⟩, k5, ?_, ?_, fun q hq _ => (H7.out q hq).take 301, HB5.out⟩
    · have e : (l5.take 301).length = 301 := by rw [List.length_take, HL5.out]; omega
      rw [e]
      rfl
    · rw [List.length_take, HL5.out]
      omega
  · have hcz : ¬ (301 : Int) < (n5 : Int) := by omega
    clear h6
    go_wp2
    go_ret
    rw [HE5.out]
    refine ⟨a5, k5, ?_, ?_, fun q hq _ => (H7.out q hq).take 301, HB5.out⟩
    · have e : (l5.take 301).length = n5 := by rw [List.length_take, HL5.out]; omega
      rw [e]
      rfl
    · rw [List.length_take, HL5.out]
      omega

theorem tl_bd (t : Tr) : TlBd t.nodes t.tl := ⟨tl_len t, tl_in t⟩
theorem tails_any (ds : List Nd) (a : Option Addr) (cap : Nat) (hl : ds.length ≤ 400) : ∀ t : Tr, t.Wf → t.nodes.length ≤ 400 → TlOk ds a cap t.nodes t.tl
  | .leaf ⟨op, tx, n⟩, h, hn => tails_leaf ds a cap op (leaf_op h.1 h.2) tx n
  | .one ⟨op, tx, n⟩ a', h, hn => by
    have hn' : a'.nodes.length ≤ 400 := by simp [Tr.nodes] at hn; omega
    have ih := tails_any ds a cap hl a' h.2.2 hn'
    rcases one_op h.2.1 with e | e
    all_goals (simp only at e; subst e)
    · exact tails_7 ds a cap hl tx n _ _ ih
    · have hF := flatOf_any ds a cap hl a' h.2.2 hn'
      have e8 : Tr.tl (.one ⟨8, tx, n⟩ a') = fun bs => ((if a'.isFlat = true then bs.map (0 :: ·) else []) ++ (a'.tl bs).map (1 :: ·)).take 301 := by
        funext bs
        simp [Tr.tl]
      rw [e8]
      cases hb : a'.isFlat with
      | true => rw [hb] at hF; exact tails_8t ds a cap hl tx n _ _ _ ih (tl_bd a') hF _ (show ∀ _, _ from fun bs => by simp)
      | false => rw [hb] at hF; exact tails_8f ds a cap hl tx n _ _ _ ih (tl_bd a') hF _ (show ∀ _, _ from fun bs => by simp)
  | .two ⟨op, tx, n⟩ a' c, h, hn => by
    have hn1 : a'.nodes.length ≤ 400 := by simp [Tr.nodes] at hn; omega
    have hn2 : c.nodes.length ≤ 400 := by simp [Tr.nodes] at hn; omega
    have ia := tails_any ds a cap hl a' h.2.2.1 hn1
    have ic := tails_any ds a cap hl c h.2.2.2 hn2
    rcases two_op h.2.1 with e | e
    all_goals (simp only at e; subst e)
    · have e6 : Tr.tl (.two ⟨6, tx, n⟩ a' c) = fun bs => a'.tl (c.tl bs) := by
        funext bs
        simp [Tr.tl]
      rw [e6]
      exact tails_6 ds a cap hl tx n _ _ _ _ ia ic (tl_bd c) fun i r hd => endAt_tree h.2.2.1 hd
    · exact tails_9 ds a cap hl tx n _ _ _ _ ia (tl_bd a') ic (tl_bd c) (fun i r hd => endAt_tree h.2.2.1 hd) _ (show ∀ _, _ from fun bs => by simp [Tr.tl])
end Go.Proofs.YtfabfclbnekleaaDoor
namespace Go.Proofs.YtfabfclbnekleaaDoor
open Go Go.RowKit

set_option maxRecDepth 100000 in
set_option maxHeartbeats 2000000 in
theorem allOf_any (t : Tr) (ht : t.Wf) (ds : List Nd) (hd : ds = t.nodes) (hl : ds.length ≤ 400) (a : Option Addr) (cap : Nat) (w : World) (hN : Nods w a ds) :
    Calls Tryd.prog 31 #[.slice a ds.length cap] w fun e w' => ((t.ways.length ≤ 300 ∧ ∃ a' c', e = .returned (.tuple #[.slice a' t.ways.length c', .bool true]) ∧ WaysIn w' a' t.ways) ∨ (300 < t.ways.length ∧ e = .returned (.tuple #[.slice none 0 0, .bool false]))) ∧ Below w.heap.size w w' := by
  have ha : ∀ O : Obj, Below w.heap.size w (w.alloc O) := fun O => (Below.refl _ w).alloc (Nat.le_refl _) O
  have HT : Hid (Calls Tryd.prog 50 #[.slice a ds.length cap, .int .i64 0, .slice (some ⟨w.heap.size, 0, none⟩) 1 1, .int .i64 300] (w.alloc (.cells #[.slice none 0 0] 60)) fun e w' => ∃ a' c', e = .returned (.slice a' (t.tl [[]]).length c') ∧ WaysN none w' a' (t.tl [[]]) ∧ Below w.heap.size w w') := by
    have hW : WaysN none (w.alloc (.cells #[.slice none 0 0] 60)) (some ⟨w.heap.size, 0, none⟩) [[]] := by
      intro i hi
      obtain rfl : i = 0 := by simp at hi; omega
      exact ⟨w.heap.size, 0, none, 0, rfl, by simp, by simp, by simp [go_sem], by simp, fun j hj => by simp at hj, fun _ => ⟨rfl, rfl⟩⟩
    refine (tails_any ds a cap hl t ht (by rw [← hd]; exact hl) 0 [] [[]] (some ⟨w.heap.size, 0, none⟩) 1 0 _ (by rw [← hd]; simp) (hN.below (ha _)) hW (by simp) (by simp) (by simp) (by rw [← hd]; omega)).mono ?_
    rintro e w' ⟨a', c', rfl, _, h3, h4⟩
    exact ⟨a', c', rfl, h3 none (fun _ h => by cases h) hW, (ha _).trans (h4.mono (by simp))⟩
  have hall := tl_all t
  generalize hL : t.tl [[]] = L at HT hall
  clear hL hd hN ha
  rcases hall with ⟨h1, h2⟩ | ⟨h1, h2⟩
  · subst h2
    have h1' : ¬ (300 : Int) < (t.ways.length : Int) := by omega
    have H1 : Hid (t.ways.length ≤ 300) := h1
    go_enter Tryd.func31, Tryd.ntmps31
    go_wp2_with fail
    refine HT.out.mono ?_
    rintro e w2 ⟨a2, c2, rfl, h3, h4⟩
    have H3 : Hid (WaysIn w2 a2 t.ways) := h3.ways
    clear h3
    go_wp2
    go_ret2
    exact ⟨.inl ⟨H1.out, _, _, rfl, H3.out⟩, h4⟩
  · have h2' : (300 : Int) < (L.length : Int) := by omega
    have H1 : Hid (300 < t.ways.length) := h1
    clear h1
    go_enter Tryd.func31, Tryd.ntmps31
    go_wp2_with fail
    refine HT.out.mono ?_
    rintro e w2 ⟨a2, c2, rfl, h3, h4⟩
    clear h3
    go_wp2
    go_ret2
    exact ⟨.inr ⟨H1.out, rfl⟩, h4⟩
end Go.Proofs.YtfabfclbnekleaaDoor
namespace Go.Proofs.YtfabfclbnekleaaDoor
open Go Go.RowKit

theorem beq_self (n : Int) : (n == n) = true := beq_iff_eq.2 rfl
/-- What is the same is told to be so. -/
theorem sways_same (xs : List (List Int)) (a b : Option Addr) (ca cb : Nat) (w : World) (hx : WaysIn w a xs) (hy : WaysIn w b xs) (hl : xs.length ≤ 1000000) (hlx : ∀ x ∈ xs, x.length ≤ 1000000) :
    Calls Tryd.prog 33 #[.slice a xs.length ca, .slice b xs.length cb] w fun e w' => e = .returned (.bool true) ∧ Below w.heap.size w w' := by
  refine (sways_any xs xs a b ca cb w hx hy hl hlx).mono ?_
  rintro e w' ⟨rfl, q, rfl⟩
  exact ⟨by rw [decide_eq_true rfl], ⟨rfl, rfl, rfl, Nat.le_refl _, fun _ _ => rfl⟩⟩
theorem serr_same (n : Int) (w : World) (hg : Hnd w) : Calls Tryd.prog 13 #[errN n, .int .i64 n] w fun e w' => e = .returned (.bool true) ∧ Below w.heap.size w w' := by
  have := serr_any n n w hg
  rw [beq_self] at this
  exact this

set_option maxRecDepth 100000 in
set_option maxHeartbeats 2000000 in
theorem wayIs_a (ds : List Nd) (ws : List Int) (a wa : Option Addr) (cap wc : Nat) (hc : ds.length ≤ cap) (hwc : ws.length ≤ wc) (hl : ws.length ≤ 9223372036854775807) (w : World) (hN : Nods w a ds) (hI : Ints w wa ws) (hg : Hnd w) (h : docF ds ≠ 0) :
    Calls Tryd.prog 8 #[.slice a ds.length cap, .slice wa ws.length wc] w fun e w' => e = .returned (.bool true) ∧ Below w.heap.size w w' := by
  have HN : Hid (Nods w a ds) := hN
  have HI : Hid (Ints w wa ws) := hI
  have HH : Hid (Hnd w) := hg
  have HS : Hid (∀ W : World, Nods W a ds → Ints W wa ws → Calls Tryd.prog 29 #[.slice a ds.length cap, .slice wa ws.length wc] W fun e w' => e = .returned (.tuple #[.string ⟨#[]⟩, errN (docF ds)]) ∧ Below W.heap.size W w') := fun W h1 h2 => by
    have := wshow_any ds ws a wa cap wc hc hwc hl W h1 h2
    rw [showD_bad h] at this
    exact this
  have HA : Hid (∀ W : World, Nods W a ds → Calls Tryd.prog 32 #[.slice a ds.length cap] W fun e w' => e = .returned (.tuple #[.slice none 0 0, errN (docF ds)]) ∧ Below W.heap.size W w') := fun W h1 => wall_bad ds a cap W h1 h
  have HF : Hid (Calls Tryd.prog 17 #[.slice a ds.length cap] w fun e w' => e = .returned (.int .i64 (docF ds)) ∧ Below w.heap.size w w') := rfault_any ds a cap w hN
  have HW : Hid (∀ W : World, Calls Tryd.prog 33 #[.slice none 0 0, .slice none 0 0] W fun e w' => e = .returned (.bool true) ∧ Below W.heap.size W w') := fun W => sways_same [] none none 0 0 W (fun i hi => by simp at hi) (fun i hi => by simp at hi) (by simp) (by simp)
  have hn : (docF ds == 0) = false := beq_eq_false_iff_ne.2 h
  generalize docF ds = n at HS HA HF hn
  clear hN hI hg h
  go_enter Tryd.func8, Tryd.ntmps8
  go_wp2_with fail
  refine HF.out.mono ?_
  rintro e w1 ⟨rfl, b1⟩
  have B1 : Hid (Below w.heap.size w w1) := b1
  clear b1
  go_wp2_with fail
  refine (HS.out _ (HN.out.below B1.out) (HI.out.below B1.out)).mono ?_
  rintro e w2 ⟨rfl, b2⟩
  have B2 : Hid (Below w.heap.size w w2) := belowT B1.out (Nat.le_refl _) b2
  clear b2
  go_wp2_with fail
  refine (serr_same n _ (HH.out.below B2.out)).mono ?_
  rintro e w3 ⟨rfl, b3⟩
  have B3 : Hid (Below w.heap.size w w3) := belowT B2.out (Nat.le_refl _) b3
  clear b3
  go_wp2_with fail
  refine (HA.out _ (HN.out.below B3.out)).mono ?_
  rintro e w4 ⟨rfl, b4⟩
  have B4 : Hid (Below w.heap.size w w4) := belowT B3.out (Nat.le_refl _) b4
  clear b4
  go_wp2_with fail
  refine (serr_same n _ (HH.out.below B4.out)).mono ?_
  rintro e w5 ⟨rfl, b5⟩
  have B5 : Hid (Below w.heap.size w w5) := belowT B4.out (Nat.le_refl _) b5
  clear b5
  go_wp2_with fail
  refine (HW.out _).mono ?_
  rintro e w6 ⟨rfl, b6⟩
  have B6 : Hid (Below w.heap.size w w6) := belowT B5.out (Nat.le_refl _) b6
  clear b6
  go_wp2
  go_ret
  exact ⟨rfl, B6.out⟩

set_option maxRecDepth 100000 in
set_option maxHeartbeats 2000000 in
theorem wayIs_b (ds : List Nd) (t : Tr) (hd : ds = t.nodes) (ht : t.Wf) (ws : List Int) (a wa : Option Addr) (cap wc : Nat) (hc : ds.length ≤ cap) (hwc : ws.length ≤ wc) (hl : wc ≤ 9223372036854775807) (w : World) (hN : Nods w a ds) (hI : Ints w wa ws) (hg : Hnd w) (h : docF ds = 0) :
    Calls Tryd.prog 8 #[.slice a ds.length cap, .slice wa ws.length wc] w fun e w' => e = .returned (.bool true) ∧ Below w.heap.size w w' := by
  have h4 := (docF_zero h).1
  have HN : Hid (Nods w a ds) := hN
  have HI : Hid (Ints w wa ws) := hI
  have HH : Hid (Hnd w) := hg
  have HS : Hid (∀ W : World, Nods W a ds → Ints W wa ws → Calls Tryd.prog 29 #[.slice a ds.length cap, .slice wa ws.length wc] W fun e w' => e = .returned (.tuple #[.string (shS (t.show ws)), errN (shE (t.show ws))]) ∧ Below W.heap.size W w') := fun W h1 h2 => by
    have := wshow_any ds ws a wa cap wc hc hwc (by omega) W h1 h2
    rw [showD_tree ht hd h4] at this
    exact this
  have HR : Hid (∀ W : World, Nods W a ds → Ints W wa ws → Calls Tryd.prog 30 #[.slice a ds.length cap, .slice wa ws.length wc] W fun e w' => e = .returned (.tuple #[.string (shS (t.show ws)), .int .i64 (shE (t.show ws))]) ∧ Below W.heap.size W w') := fun W h1 h2 => showOf_any t ht ds hd h4 a wa cap wc ws hwc (by omega) W h1 h2
  have HO : Hid (∀ W : World, Nods W a ds → Calls Tryd.prog 31 #[.slice a ds.length cap] W _) := fun W h1 => allOf_any t ht ds hd h4 a cap W h1
  have HA : Hid (∀ W : World, Nods W a ds → Calls Tryd.prog 32 #[.slice a ds.length cap] W _) := fun W h1 => wall_ok ds t hd ht a cap W h1 h
  have HF : Hid (Calls Tryd.prog 17 #[.slice a ds.length cap] w fun e w' => e = .returned (.int .i64 0) ∧ Below w.heap.size w w') := by
    have := rfault_any ds a cap w hN
    rw [h] at this
    exact this
  have HW : Hid (∀ W : World, Calls Tryd.prog 33 #[.slice none 0 0, .slice none 0 0] W fun e w' => e = .returned (.bool true) ∧ Below W.heap.size W w') := fun W => sways_same [] none none 0 0 W (fun i hi => by simp at hi) (fun i hi => by simp at hi) (by simp) (by simp)
  have HX : Hid (∀ x ∈ t.ways, x.length ≤ 1000000) := fun x hx => by
    have := way_len t x hx
    rw [← hd] at this
    omega
  generalize shS (t.show ws) = us at HS HR
  generalize shE (t.show ws) = n at HS HR
  clear hN hI hg h hd ht hl hwc hc
  go_enter Tryd.func8, Tryd.ntmps8
  go_wp2_with fail
  refine HF.out.mono ?_
  rintro e w1 ⟨rfl, b1⟩
  have B1 : Hid (Below w.heap.size w w1) := b1
  clear b1
  go_wp2_with fail
  refine (HR.out _ (HN.out.below B1.out) (HI.out.below B1.out)).mono ?_
  rintro e w2 ⟨rfl, b2⟩
  have B2 : Hid (Below w.heap.size w w2) := belowT B1.out (Nat.le_refl _) b2
  clear b2
  go_wp2_with fail
  refine (HO.out _ (HN.out.below B2.out)).mono ?_
  rintro e w3 ⟨h3, b3⟩
  have B3 : Hid (Below w.heap.size w w3) := belowT B2.out (Nat.le_refl _) b3
  clear b3
  rcases h3 with ⟨hl3, a3, c3, rfl, hw3⟩ | ⟨hl3, rfl⟩
  case' inl => have HW3 : Hid (WaysIn w3 a3 t.ways) := hw3
  case' inl => clear hw3
  all_goals
    go_wp2_with fail
    refine (HS.out _ (HN.out.below B3.out) (HI.out.below B3.out)).mono ?_
    rintro e w4 ⟨rfl, b4⟩
    have HB4 : Hid (Below w3.heap.size w3 w4) := b4
    have B4 : Hid (Below w.heap.size w w4) := belowT B3.out (Nat.le_refl _) b4
    clear b4
    go_wp2_with fail
    refine (serr_same n _ (HH.out.below B4.out)).mono ?_
    rintro e w5 ⟨rfl, b5⟩
    have HB5 : Hid (Below w3.heap.size w3 w5) := belowT HB4.out (Nat.le_refl _) b5
    have B5 : Hid (Below w.heap.size w w5) := belowT B4.out (Nat.le_refl _) b5
    clear b5
    go_wp2_with fail
    refine (HA.out _ (HN.out.below B5.out)).mono ?_
    rintro e w6 ⟨h6, b6⟩
    have HB6 : Hid (Below w3.heap.size w3 w6) := belowT HB5.out (Nat.le_refl _) b6
    have B6 : Hid (Below w.heap.size w w6) := belowT B5.out (Nat.le_refl _) b6
    clear b6
  · rcases h6 with ⟨_, a6, c6, rfl, hg6⟩ | ⟨hl6, _⟩
    · have HW6 : Hid (WaysIn w6 a6 t.ways) := hg6.ways.2
      clear hg6
      go_wp2_with fail
      refine (serr_same 0 _ (HH.out.below B6.out)).mono ?_
      rintro e w7 ⟨rfl, b7⟩
      have HB7 : Hid (Below w6.heap.size w6 w7) := b7
      have B7 : Hid (Below w.heap.size w w7) := belowT B6.out (Nat.le_refl _) b7
      clear b7
      go_wp2_with fail
      refine (sways_same t.ways a6 a3 c6 c3 _ (HW6.out.below HB7.out) ((HW3.out.below HB6.out).below HB7.out) (by omega) HX.out).mono ?_
      rintro e w8 ⟨rfl, b8⟩
      have B8 : Hid (Below w.heap.size w w8) := belowT B7.out (Nat.le_refl _) b8
      clear b8
      go_wp2
      go_ret
      exact ⟨rfl, B8.out⟩
    · omega
  · rcases h6 with ⟨hl6, _⟩ | ⟨_, rfl⟩
    · omega
    · go_wp2_with fail
      refine (serr_same 3 _ (HH.out.below B6.out)).mono ?_
      rintro e w7 ⟨rfl, b7⟩
      have B7 : Hid (Below w.heap.size w w7) := belowT B6.out (Nat.le_refl _) b7
      clear b7
      go_wp2_with fail
      refine (HW.out _).mono ?_
      rintro e w8 ⟨rfl, b8⟩
      have B8 : Hid (Below w.heap.size w w8) := belowT B7.out (Nat.le_refl _) b8
      clear b8
      go_wp2
      go_ret
      exact ⟨rfl, B8.out⟩

theorem wayIs_any (ds : List Nd) (ws : List Int) (a wa : Option Addr) (cap wc : Nat) (hc : ds.length ≤ cap) (hwc : ws.length ≤ wc) (hl : wc ≤ 9223372036854775807) (w : World) (hN : Nods w a ds) (hI : Ints w wa ws) (hg : Hnd w) :
    Calls Tryd.prog 8 #[.slice a ds.length cap, .slice wa ws.length wc] w fun e w' => e = .returned (.bool true) ∧ Below w.heap.size w w' := by
  by_cases h : docF ds = 0
  · exact wayIs_b ds (docT ds h) (docT_nodes h) (docT_wf h) ws a wa cap wc hc hwc hl w hN hI hg h
  · exact wayIs_a ds ws a wa cap wc hc hwc (by omega) w hN hI hg h
end Go.Proofs.YtfabfclbnekleaaDoor
