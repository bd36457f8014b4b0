/- Some texts as one: FilM, IntB, RowO, AppO, But, TreM, TreH. -/
import Derived.Test.YtmbeamcjpidnjaaGreatDoorBase
import Derived.Deep.OwnRows
import Derived.Deep.AppendLies
import Derived.OwnWalk
import Derived.Lib.SmallJoins
import Derived.Laws.AppendOwn
import Derived.Laws.AppendOwnNone
import Derived.Test.YtmbeamcjpidnjaaGreatDoorTrePs
namespace Go.Proofs.YtmbeamcjpidnjaaGreatDoor
open Go Go.RowKit

/-- Words lie behind an address, below a block. -/
def WdsB (B : Nat) (w : World) (a : Option Addr) (ws : List ByteArray) : Prop :=
  ∀ i (h : i < ws.length), ∃ b o, a = some ⟨b, o, none⟩ ∧ b < B ∧ w.cell? ⟨b, o + i, none⟩ = some (.string ws[i])
theorem WdsB.below {B : Nat} {w w' : World} {a : Option Addr} {ws : List ByteArray} (h : WdsB B w a ws) (hb : Below B w w') : WdsB B w' a ws := by
  intro i hi
  obtain ⟨b, o, e, hlt, c1⟩ := h i hi
  exact ⟨b, o, e, hlt, (hb.cell (p := ⟨b, _, none⟩) hlt).trans c1⟩
theorem WdsB.up {B B' : Nat} {w : World} {a : Option Addr} {ws : List ByteArray} (h : WdsB B w a ws) (hB : B ≤ B') : WdsB B' w a ws := by
  intro i hi
  obtain ⟨b, o, e, hlt, c1⟩ := h i hi
  exact ⟨b, o, e, by omega, c1⟩
theorem WdsB.nil (B : Nat) (w : World) (a : Option Addr) : WdsB B w a [] := fun i hi => by simp at hi
theorem WdsB.take {B : Nat} {w : World} {a : Option Addr} {ws : List ByteArray} (h : WdsB B w a ws) (k : Nat) : WdsB B w a (ws.take k) := by
  intro i hi
  have hi' : i < ws.length := by simp at hi; omega
  obtain ⟨b, o, e, hlt, c1⟩ := h i hi'
  exact ⟨b, o, e, hlt, by rw [List.getElem_take]; exact c1⟩
theorem WdsB.drop {B : Nat} {w : World} {b o : Nat} {ws : List ByteArray} (h : WdsB B w (some ⟨b, o, none⟩) ws) (k : Nat) : WdsB B w (some ⟨b, o + k, none⟩) (ws.drop k) := by
  intro i hi
  have hi' : k + i < ws.length := by simp at hi; omega
  obtain ⟨b', o', e, hlt, c1⟩ := h (k + i) hi'
  simp only [Option.some.injEq, Addr.mk.injEq, and_true] at e
  obtain ⟨rfl, rfl⟩ := e
  refine ⟨b, o + k, rfl, hlt, ?_⟩
  rw [List.getElem_drop, Nat.add_assoc]; exact c1
theorem WdsB.some {B : Nat} {w : World} {a : Option Addr} {ws : List ByteArray} (h : WdsB B w a ws) (h0 : 0 < ws.length) : ∃ b o, a = some ⟨b, o, none⟩ ∧ b < B := by
  obtain ⟨b, o, e, hlt, _⟩ := h 0 h0
  exact ⟨b, o, e, hlt⟩
/-- Words that came in. -/
abbrev Wds (w : World) (a : Option Addr) (ws : List ByteArray) : Prop := WdsB w.heap.size w a ws
theorem Wds.below {w w' : World} {a : Option Addr} {ws : List ByteArray} (h : Wds w a ws) (hb : Below w.heap.size w w') : Wds w' a ws := (WdsB.below h hb).up hb.size
end Go.Proofs.YtmbeamcjpidnjaaGreatDoor
namespace Go.Proofs.YtmbeamcjpidnjaaGreatDoor
open Go Go.RowKit

/-- Numbers lie behind an address, below a block. -/
def IntsB (B : Nat) (w : World) (a : Option Addr) (ws : List Int) : Prop :=
  ∀ i (h : i < ws.length), ∃ b o, a = some ⟨b, o, none⟩ ∧ b < B ∧ w.cell? ⟨b, o + i, none⟩ = some (.int .i64 ws[i])
theorem IntsB.below {B : Nat} {w w' : World} {a : Option Addr} {ws : List Int} (h : IntsB B w a ws) (hb : Below B w w') : IntsB B w' a ws := by
  intro i hi
  obtain ⟨b, o, e, hlt, c1⟩ := h i hi
  exact ⟨b, o, e, hlt, (hb.cell (p := ⟨b, _, none⟩) hlt).trans c1⟩
theorem IntsB.rest {B : Nat} {w : World} {b o : Nat} {x : Int} {ws : List Int} (h : IntsB B w (some ⟨b, o, none⟩) (x :: ws)) : IntsB B w (some ⟨b, o + 1, none⟩) ws := by
  intro i hi
  obtain ⟨b', o', e, hlt, c1⟩ := h (i + 1) (by simp; omega)
  simp only [Option.some.injEq, Addr.mk.injEq, and_true] at e
  obtain ⟨rfl, rfl⟩ := e
  refine ⟨b, o + 1, rfl, hlt, ?_⟩
  rw [show o + 1 + i = o + (i + 1) by omega]; exact c1
theorem IntsB.slid {B : Nat} {w : World} {b o cap : Nat} {x : Int} {ws : List Int} (h : IntsB B w (some ⟨b, o, none⟩) (x :: ws)) (hc : ws.length + 1 ≤ cap) :
    IntsB B w (if cap = 1 then some ⟨b, o, none⟩ else some ⟨b, o + 1, none⟩) ws := by
  by_cases h1 : cap = 1
  · have : ws = [] := List.eq_nil_of_length_eq_zero (by omega)
    subst this
    exact fun i hi => by simp at hi
  · rw [if_neg h1]; exact h.rest

/-- Numbers that came in. -/
abbrev Ints (w : World) (a : Option Addr) (ws : List Int) : Prop := IntsB w.heap.size w a ws
theorem IntsB.up {B B' : Nat} {w : World} {a : Option Addr} {ws : List Int} (h : IntsB B w a ws) (hB : B ≤ B') : IntsB B' w a ws := by
  intro i hi
  obtain ⟨b, o, e, hlt, c1⟩ := h i hi
  exact ⟨b, o, e, by omega, c1⟩
theorem Ints.below {w w' : World} {a : Option Addr} {ws : List Int} (h : Ints w a ws) (hb : Below w.heap.size w w') : Ints w' a ws := (IntsB.below h hb).up hb.size
end Go.Proofs.YtmbeamcjpidnjaaGreatDoor
namespace Go.Proofs.YtmbeamcjpidnjaaGreatDoor
open Go Go.RowKit
set_option maxRecDepth 100000

/-- Words, the first so many. -/
theorem sl_head (a : Option Addr) (n c k : Nat) (hk : k ≤ c) (W : World) :
    (Instr.slice 41 (.slice a n c) none (some (.int .i64 (k : Int))) none).run Tryz.prog W = .ok (.slice a k c) W := by
  rw [run_slice_h W 41 a n c Tryz.underlying41 .i64 (k : Int) (by omega) (by omega)]
  have hz : (sizeOf (Tryz.prog.elem 41)).run Tryz.prog W = .ok 1 W := by kernel_rfl
  rw [hz]
  simp [Result.andThen, sliced, Addr.add]
/-- Words, those from a place on. -/
theorem sl_tail {B : Nat} {w : World} {b o c k : Nat} {ws : List ByteArray} (h : WdsB B w (some ⟨b, o, none⟩) ws) (hk : k ≤ ws.length) (hc : ws.length ≤ c) :
    ∃ A, (∀ W : World, (Instr.slice 41 (.slice (some ⟨b, o, none⟩) ws.length c) (some (.int .i64 (k : Int))) none none).run Tryz.prog W = .ok (.slice A (ws.drop k).length (c - k)) W) ∧ WdsB B w A (ws.drop k) := by
  refine ⟨if c = k then some ⟨b, o, none⟩ else some ⟨b, o + k, none⟩, fun W => ?_, ?_⟩
  · rw [run_slice_l W 41 _ ws.length c Tryz.underlying41 .i64 (k : Int) (by omega) (by omega)]
    have hz : (sizeOf (Tryz.prog.elem 41)).run Tryz.prog W = .ok 1 W := by kernel_rfl
    rw [hz]
    have ha : (⟨b, o, none⟩ : Addr).add k = ⟨b, o + k, none⟩ := by
      unfold Addr.add
      split
      · rename_i h; subst h; rfl
      · rfl
    simp [Result.andThen, sliced, ha]
  · by_cases e : c = k
    · have : ws.drop k = [] := List.drop_eq_nil_of_le (by omega)
      rw [this]
      exact WdsB.nil _ _ _
    · rw [if_neg e]
      exact h.drop k
/-- Words, some of them. -/
theorem sl_mid (b o n c i k : Nat) (hi : i < c) (hk : i + k ≤ c) (W : World) :
    (Instr.slice 41 (.slice (some ⟨b, o, none⟩) n c) (some (.int .i64 (i : Int))) (some (.int .i64 ((i : Int) + (k : Int)))) none).run Tryz.prog W = .ok (.slice (some ⟨b, o + i, none⟩) k (c - i)) W := by
  rw [run_slice_lh W 41 _ n c Tryz.underlying41 .i64 .i64 (i : Int) ((i : Int) + (k : Int)) (by omega) (by omega) (by omega)]
  have hz : (sizeOf (Tryz.prog.elem 41)).run Tryz.prog W = .ok 1 W := by kernel_rfl
  rw [hz]
  have ha : (⟨b, o, none⟩ : Addr).add i = ⟨b, o + i, none⟩ := by
    unfold Addr.add
    split
    · rename_i h; subst h; rfl
    · rfl
  have e1 : ((i : Int) + (k : Int)).toNat = i + k := by omega
  have e2 : ¬ c = i := by omega
  have e3 : i + k - i = k := by omega
  simp [Result.andThen, sliced, ha, e1, e2, e3]

theorem intInf : (Tryz.prog.info? 3).map (fun i => (i.zero, i.size, i.bytes)) = some (some (.int .i64 0), 1, 8) := by kernel_rfl
theorem strInf : (Tryz.prog.info? 9).map (fun i => (i.zero, i.size, i.bytes)) = some (some (.string ⟨#[]⟩), 1, 16) := by kernel_rfl

/-- A block of so many cells that may be written. -/
def RowN (w : World) (b n : Nat) : Prop := ∃ cs T, w.heap[b]? = some (.cells cs T (0, 0)) ∧ cs.size = n
theorem RowN.lt {w : World} {b n : Nat} (h : RowN w b n) : b < w.heap.size := by
  obtain ⟨cs, T, h, _⟩ := h
  rcases Nat.lt_or_ge b w.heap.size with h' | h'
  · exact h'
  · simp [Array.getElem?_eq_none h'] at h
theorem RowN.cell {w : World} {b n i : Nat} (h : RowN w b n) (hi : i < n) : ∃ y, w.cell? ⟨b, i, none⟩ = some y := by
  obtain ⟨cs, T, h, hs⟩ := h
  refine ⟨cs[i], ?_⟩
  simp [World.cell?, h]
theorem RowN.frozen {w : World} {b n i : Nat} (h : RowN w b n) : w.frozen? ⟨b, i, none⟩ = false := by
  obtain ⟨cs, T, h, hs⟩ := h
  simp [World.frozen?, h]
theorem RowN.kept {w w' : World} {b n : Nat} (h : RowN w b n) (hb : w'.heap[b]? = w.heap[b]?) : RowN w' b n := by
  obtain ⟨cs, T, h, hs⟩ := h
  exact ⟨cs, T, hb.trans h, hs⟩
theorem RowN.set {w : World} {b n c i : Nat} {v : Value} (h : RowN w b n) : RowN (w.setCell ⟨c, i, none⟩ v) b n := by
  by_cases e : c = b
  · subst e
    obtain ⟨cs, T, h, hs⟩ := h
    exact ⟨cs.setIfInBounds i v, T, by simp [World.setCell, Array.getElem?_modify, h], by simpa using hs⟩
  · exact h.kept (Below.heap_setCell _ _ _ _ (Ne.symm e))
theorem made_zero {n j : Nat} (z : Value) (h : j < n) : (madeCells #[z] n)[j]? = some z := by
  simp [madeCells, h, Nat.mod_one]

def numCells (ks : List Nat) : List Value := ks.map fun (k : Nat) => .int .i64 (k : Int)
theorem numCells_app (a b : List Nat) : numCells (a ++ b) = numCells a ++ numCells b := by simp [numCells]
/-- Numbers that a call has gathered in a row of its own. -/
def NumsO (B : Nat) (v : Value) (ks : List Nat) (w : World) : Prop := w.ownsRow B 3 1 v ks.length (numCells ks)

theorem belDraw {B : Nat} {w w' : World} (h : Below B w w') (n : Nat) : Below B w (w'.drewN n) := h.trans ⟨rfl, rfl, rfl, Nat.le_refl _, fun _ _ => rfl⟩
theorem belSet2 {B : Nat} {w w' : World} {b1 o1 b2 o2 : Nat} {v1 v2 : Value} (h : Below B w w') (h1 : B ≤ b1) (h2 : B ≤ b2) : Below B w ((w'.setCell ⟨b1, o1, none⟩ v1).setCell ⟨b2, o2, none⟩ v2) :=
  (h.setCell (p := ⟨b1, o1, none⟩) h1 _).setCell (p := ⟨b2, o2, none⟩) h2 _
theorem numsO_cell {B : Nat} {w : World} {A : Option Addr} {n c : Nat} {ks : List Nat} (h : NumsO B (.slice A n c) ks w) (j : Nat) (hj : j < ks.length) : ∃ g, A = some ⟨g, 0, none⟩ ∧ g < w.heap.size ∧ w.cell? ⟨g, j, none⟩ = some (.int .i64 ((ks[j] : Nat) : Int)) := by
  rcases h.2 with ⟨hv, h0⟩ | ⟨g, c, cur, hv, _, hg, hnc, _, hsz, htake⟩
  · omega
  · simp only [Value.slice.injEq] at hv
    obtain ⟨rfl, rfl, rfl⟩ := hv
    refine ⟨g, rfl, (Array.getElem?_eq_some_iff.1 hg).1, ?_⟩
    have hk : (numCells ks)[j]? = some (.int .i64 ((ks[j] : Nat) : Int)) := by simp [numCells, hj]
    rw [← htake] at hk
    rw [List.getElem?_take_of_lt (by omega)] at hk
    simp only [World.cell?, hg]
    simpa using hk
theorem own_bel {w w' : World} {B e size n : Nat} {v : Value} {xs : List Value} (h : w.ownsRow B e size v n xs) (hb : Below w.heap.size w w') : w'.ownsRow B e size v n xs := by
  refine ⟨h.1, ?_⟩
  rcases h.2 with h0 | ⟨g, c, cur, rfl, hB, hg, rest⟩
  · exact .inl h0
  · exact .inr ⟨g, c, cur, rfl, hB, (hb.block g (Array.getElem?_eq_some_iff.1 hg).1).trans hg, rest⟩
def strCells (xs : List ByteArray) : List Value := xs.map fun x => .string x
theorem strCells_app (a b : List ByteArray) : strCells (a ++ b) = strCells a ++ strCells b := by simp [strCells]
/-- Words that a call has gathered in a row of its own. -/
def StrsO (B : Nat) (v : Value) (xs : List ByteArray) (w : World) : Prop := w.ownsRow B 9 1 v xs.length (strCells xs)
theorem strsO_wds {B : Nat} {w : World} {A : Option Addr} {n c : Nat} {xs : List ByteArray} (h : StrsO B (.slice A n c) xs w) : Wds w A xs := by
  intro j hj
  rcases h.2 with ⟨hv, h0⟩ | ⟨g, c, cur, hv, _, hg, hnc, _, hsz, htake⟩
  · omega
  · simp only [Value.slice.injEq] at hv
    obtain ⟨rfl, rfl, rfl⟩ := hv
    refine ⟨g, 0, rfl, (Array.getElem?_eq_some_iff.1 hg).1, ?_⟩
    have hk : (strCells xs)[j]? = some (.string xs[j]) := by simp [strCells, hj]
    rw [← htake] at hk
    rw [List.getElem?_take_of_lt (by omega)] at hk
    rw [Nat.zero_add]
    simp only [World.cell?, hg]
    simpa using hk

theorem own_blk {w : World} {B e size n k : Nat} {v : Value} {xs : List Value} (h : w.ownsRow B e size v n xs) (hk : v.ownBlock = some k) : ∃ cur, w.heap[k]? = some (.cells cur e (0, 0)) := by
  rcases h.2 with ⟨rfl, _⟩ | ⟨g, c, cur, rfl, _, hg, _⟩
  · simp [Value.ownBlock] at hk
  · simp only [Value.ownBlock, Option.some.injEq] at hk
    subst hk
    exact ⟨cur, hg⟩
/-- Rows of two kinds lie in two blocks: what one grows by leaves the other. -/
theorem own_two {w w' : World} {B B' e e' size size' n n' : Nat} {v v' : Value} {xs xs' : List Value} (h : w.ownsRow B e size v n xs) (h' : w.ownsRow B' e' size' v' n' xs') (he : e ≠ e') (hg : w.grownBy w' v'.ownBlock) : w'.ownsRow B e size v n xs := by
  refine h.kept hg ?_
  cases hv : v.ownBlock with
  | none => exact .inl rfl
  | some k =>
    refine .inr fun e0 => ?_
    obtain ⟨c1, h1⟩ := own_blk h hv
    obtain ⟨c2, h2⟩ := own_blk h' e0.symm
    rw [h1] at h2
    cases h2
    exact he rfl
end Go.Proofs.YtmbeamcjpidnjaaGreatDoor
namespace Go.Proofs.YtmbeamcjpidnjaaGreatDoor
open Go Go.RowKit

theorem addr_add (b o k : Nat) : (⟨b, o, none⟩ : Addr).add k = ⟨b, o + k, none⟩ := by
  unfold Addr.add
  split
  · rename_i h; subst h; rfl
  · rfl
theorem app_strs {w : World} {ops : Array Oper} {rest : List Oper} {o : Oper} {a : Act} {Q : Exit → Act → World → Prop} (hgd : o.guard = none) (s x : Operand)
    (ho : o.op = .call { callee := .builtin .append, args := #[s, x], argTypes := #[41, 41] })
    (base : Nat) (v : Value) (xs : List ByteArray) (hs : a.eval s = v) (hown : StrsO base v xs w)
    (wa : Option Addr) (n : Nat) (ws : List ByteArray) (hn : ws.length = n) (wc : Nat) (hx : a.eval x = .slice wa n wc) (hW : Wds w wa ws) (hnil : wa = none → n = 0 ∧ wc = 0)
    (m : Nat) (hm : xs.length + n = m) (hb : m ≤ 1000000) (hbase : base ≤ w.heap.size)
    (h : ∀ A c w', StrsO base (.slice A m c) (xs ++ ws) w' → w.grownBy w' v.ownBlock → wpList Tryz.prog ops Q rest (a.put o.dst (.slice A m c)) w') : wpList Tryz.prog ops Q (o :: rest) a w := by
  subst hn hm
  obtain ⟨i0, hi, hz0, hz1, hz2⟩ := info_parts strInf
  have h' : ∀ v' w', StrsO base v' (xs ++ ws) w' → w.grownBy w' v.ownBlock → wpList Tryz.prog ops Q rest (a.put o.dst v') w' := by
    intro v' w' h1 h2
    obtain ⟨A, c, rfl⟩ : ∃ A c, v' = .slice A (xs.length + ws.length) c := by
      rcases h1.2 with ⟨hv, h0⟩ | ⟨g, c, cur, hv, _⟩
      · rw [List.length_append] at h0; exact ⟨none, 0, by rw [hv, h0]⟩
      · rw [List.length_append] at hv; exact ⟨_, c, hv⟩
    exact h A c w' h1 h2
  cases wa with
  | none =>
    obtain ⟨h0, rfl⟩ := hnil rfl
    obtain rfl : ws = [] := List.eq_nil_of_length_eq_zero h0
    refine wpList_append_own_none hgd s x 41 ho base 9 i0 1 Tryz.underlying41 hi v xs.length (strCells xs) hs hown hx ?_
    refine h' v w ?_ ⟨rfl, rfl, rfl, Nat.le_refl _, fun _ _ _ => rfl⟩
    rw [List.append_nil]
    exact hown
  | some ad =>
    refine wpList_append_own w hgd s x 41 ho base 9 i0 _ 1 16 Tryz.underlying41 hi hz0 hz1 hz2 rfl (by decide) v xs.length (strCells xs) hs hown ad ws.length wc (strCells ws) hx (by simp [strCells]) ?_ ?_ (by unfold maxLen; omega) (by omega) hbase ?_
    · intro j u hj
      have hlt : j < ws.length := by have := (List.getElem?_eq_some_iff.1 hj).1; simpa [strCells] using this
      obtain ⟨b, o, e, _, c⟩ := hW j hlt
      simp only [Option.some.injEq] at e
      subst e
      rw [addr_add]
      have : u = .string ws[j] := by simp [strCells, hlt] at hj; exact hj.symm
      rw [this]
      exact c
    · intro u hu
      obtain ⟨x, _, rfl⟩ := List.mem_map.1 hu
      rfl
    · intro v' w' h1 h2 _
      rw [← strCells_app] at h1
      refine h' v' w' ?_ h2
      show w'.ownsRow _ _ _ _ _ _
      rw [List.length_append]
      exact h1
def zCells (ks : List Int) : List Value := ks.map fun k => .int .i64 k
theorem zCells_app (a b : List Int) : zCells (a ++ b) = zCells a ++ zCells b := by simp [zCells]
/-- Numbers that a call has gathered in a row of its own. -/
def IntsO (B : Nat) (v : Value) (ks : List Int) (w : World) : Prop := w.ownsRow B 3 1 v ks.length (zCells ks)
theorem intsO_ints {B : Nat} {w : World} {A : Option Addr} {n c : Nat} {xs : List Int} (h : IntsO B (.slice A n c) xs w) : Ints w A xs := by
  intro j hj
  rcases h.2 with ⟨hv, h0⟩ | ⟨g, c, cur, hv, _, hg, hnc, _, hsz, htake⟩
  · omega
  · simp only [Value.slice.injEq] at hv
    obtain ⟨rfl, rfl, rfl⟩ := hv
    refine ⟨g, 0, rfl, (Array.getElem?_eq_some_iff.1 hg).1, ?_⟩
    have hk : (zCells xs)[j]? = some (.int .i64 xs[j]) := by simp [zCells, hj]
    rw [← htake] at hk
    rw [List.getElem?_take_of_lt (by omega)] at hk
    rw [Nat.zero_add]
    simp only [World.cell?, hg]
    simpa using hk
theorem app_ints {w : World} {ops : Array Oper} {rest : List Oper} {o : Oper} {a : Act} {Q : Exit → Act → World → Prop} (hgd : o.guard = none) (s x : Operand)
    (ho : o.op = .call { callee := .builtin .append, args := #[s, x], argTypes := #[42, 42] })
    (base : Nat) (v : Value) (xs : List Int) (hs : a.eval s = v) (hown : IntsO base v xs w)
    (wa : Option Addr) (n : Nat) (ws : List Int) (hn : ws.length = n) (wc : Nat) (hx : a.eval x = .slice wa n wc) (hW : Ints w wa ws) (hnil : wa = none → n = 0 ∧ wc = 0)
    (m : Nat) (hm : xs.length + n = m) (hb : m ≤ 1000000) (hbase : base ≤ w.heap.size)
    (h : ∀ A c w', IntsO base (.slice A m c) (xs ++ ws) w' → w.grownBy w' v.ownBlock → wpList Tryz.prog ops Q rest (a.put o.dst (.slice A m c)) w') : wpList Tryz.prog ops Q (o :: rest) a w := by
  subst hn hm
  obtain ⟨i0, hi, hz0, hz1, hz2⟩ := info_parts intInf
  have h' : ∀ v' w', IntsO base v' (xs ++ ws) w' → w.grownBy w' v.ownBlock → wpList Tryz.prog ops Q rest (a.put o.dst v') w' := by
    intro v' w' h1 h2
    obtain ⟨A, c, rfl⟩ : ∃ A c, v' = .slice A (xs.length + ws.length) c := by
      rcases h1.2 with ⟨hv, h0⟩ | ⟨g, c, cur, hv, _⟩
      · rw [List.length_append] at h0; exact ⟨none, 0, by rw [hv, h0]⟩
      · rw [List.length_append] at hv; exact ⟨_, c, hv⟩
    exact h A c w' h1 h2
  cases wa with
  | none =>
    obtain ⟨h0, rfl⟩ := hnil rfl
    obtain rfl : ws = [] := List.eq_nil_of_length_eq_zero h0
    refine wpList_append_own_none hgd s x 42 ho base 3 i0 1 Tryz.underlying42 hi v xs.length (zCells xs) hs hown hx ?_
    refine h' v w ?_ ⟨rfl, rfl, rfl, Nat.le_refl _, fun _ _ _ => rfl⟩
    rw [List.append_nil]
    exact hown
  | some ad =>
    refine wpList_append_own w hgd s x 42 ho base 3 i0 _ 1 8 Tryz.underlying42 hi hz0 hz1 hz2 rfl (by decide) v xs.length (zCells xs) hs hown ad ws.length wc (zCells ws) hx (by simp [zCells]) ?_ ?_ (by unfold maxLen; omega) (by omega) hbase ?_
    · intro j u hj
      have hlt : j < ws.length := by have := (List.getElem?_eq_some_iff.1 hj).1; simpa [zCells] using this
      obtain ⟨b, o, e, _, c⟩ := hW j hlt
      simp only [Option.some.injEq] at e
      subst e
      rw [addr_add]
      have : u = .int .i64 ws[j] := by simp [zCells, hlt] at hj; exact hj.symm
      rw [this]
      exact c
    · intro u hu
      obtain ⟨x, _, rfl⟩ := List.mem_map.1 hu
      rfl
    · intro v' w' h1 h2 _
      rw [← zCells_app] at h1
      refine h' v' w' ?_ h2
      show w'.ownsRow _ _ _ _ _ _
      rw [List.length_append]
      exact h1
end Go.Proofs.YtmbeamcjpidnjaaGreatDoor
namespace Go.Proofs.YtmbeamcjpidnjaaGreatDoor
open Go Go.RowKit

structure But (B b : Nat) (w w' : World) : Prop where
  os : w'.os = w.os
  tape : w'.tape = w.tape
  output : w'.output = w.output
  size : w.heap.size ≤ w'.heap.size
  block : ∀ k, k < B → k ≠ b → w'.heap[k]? = w.heap[k]?
section
variable {B b : Nat} {w w' a : World}
theorem But.refl (B b : Nat) (w : World) : But B b w w := ⟨rfl, rfl, rfl, Nat.le_refl _, fun _ _ _ => rfl⟩
theorem But.trans {c : World} (h : But B b a w) (k : But B b w c) : But B b a c :=
  ⟨k.os.trans h.os, k.tape.trans h.tape, k.output.trans h.output, Nat.le_trans h.size k.size, fun i hi hb => (k.block i hi hb).trans (h.block i hi hb)⟩
theorem But.drew (h : But B b a w) : But B b a w.drew := ⟨h.os, h.tape, h.output, h.size, h.block⟩
theorem But.of (h : Below B w w') : But B b w w' := ⟨h.os, h.tape, h.output, h.size, fun k hk _ => h.block k hk⟩
theorem But.below (h : But B b w w') (hB : B ≤ b) : Below B w w' := ⟨h.os, h.tape, h.output, h.size, fun k hk => h.block k hk (by omega)⟩
theorem But.mono {B' : Nat} (h : But B b w w') (hB : B' ≤ B) : But B' b w w' := ⟨h.os, h.tape, h.output, h.size, fun k hk => h.block k (by omega)⟩
theorem But.alloc (h : But B b a w) (hB : B ≤ w.heap.size) (o : Obj) : But B b a (w.alloc o) :=
  h.trans (.of ((Below.refl B w).alloc hB o))
theorem But.setCell (h : But B b a w) {p : Addr} (hp : p.block = b ∨ B ≤ p.block) (u : Value) : But B b a (w.setCell p u) :=
  h.trans ⟨rfl, rfl, rfl, by simp [World.setCell], fun k hk hb => Below.heap_setCell _ _ _ _ (by omega)⟩
theorem But.grown {row : Option Nat} (h : But B b a w) (hg : w.grownBy w' row) (hB : B ≤ w.heap.size) (hr : ∀ k, row = some k → B ≤ k) : But B b a w' :=
  h.trans ⟨hg.os, hg.tape, hg.output, hg.size, fun k hk _ => hg.block k (by omega) (fun e => by have := hr k e.symm; omega)⟩
theorem But.cell (h : But B b w w') {p : Addr} (hp : p.block < B) (hb : p.block ≠ b) : w'.cell? p = w.cell? p := World.cell?_of_block (w := w) (h.block p.block hp hb)
end
theorem But.low {B b : Nat} {w w' : World} (h : But B b w w') {B' : Nat} (hB : B' ≤ B) (hb : B' ≤ b) : Below B' w w' := (h.mono hB).below hb
end Go.Proofs.YtmbeamcjpidnjaaGreatDoor
namespace Go.Proofs.YtmbeamcjpidnjaaGreatDoor
open Go Go.RowKit

/-- A statement's nodes lie behind an address. -/
def Tds (w : World) (a : Option Addr) (ds : List Td) : Prop :=
  ∀ i (h : i < ds.length), ∃ b o, a = some ⟨b, o, none⟩ ∧ b < w.heap.size ∧ w.cell? ⟨b, o + i * 3, none⟩ = some (.int .i64 ds[i].op) ∧ w.cell? ⟨b, o + i * 3 + 1, none⟩ = some (.string ds[i].tx) ∧ w.cell? ⟨b, o + i * 3 + 2, none⟩ = some (.int .i64 ds[i].n)
theorem Tds.below {w w' : World} {a : Option Addr} {ds : List Td} (h : Tds w a ds) (hb : Below w.heap.size w w') : Tds w' a ds := by
  intro i hi
  obtain ⟨b, o, e, hlt, c1, c2, c3⟩ := h i hi
  obtain ⟨hc, _⟩ := bcell hb
  have := hb.size
  exact ⟨b, o, e, by omega, (hc _ _ hlt).trans c1, (hc _ _ hlt).trans c2, (hc _ _ hlt).trans c3⟩
theorem Tds.alloc {w : World} {a : Option Addr} {ds : List Td} (h : Tds w a ds) (o : Obj) : Tds (w.alloc o) a ds := h.below ((Below.refl _ _).alloc (Nat.le_refl _) _)
theorem Tds.nil (w : World) (a : Option Addr) : Tds w a [] := fun i hi => by simp at hi
abbrev tdV (x : Td) : Value := .agg #[.int .i64 x.op, .string x.tx, .int .i64 x.n]
/-- The document's place: -1 where there is none. -/
def endTZ (o : Option Nat) : Int := match o with | some j => j | none => -1
/-- Kids as the document tells them, whatever the node is. -/
def kdZ (x : Td) : Int := if x.op = 3 ∨ x.op = 4 then x.n else (kdT x : Int)
theorem kdZ_ok {x : Td} (h : nodT x = 0) : kdZ x = (kdT x : Int) := by
  unfold kdZ
  split
  · rename_i h1
    rw [kdT, if_pos h1]
    unfold nodT at h
    split at h
    · cases h
    · split at h
      · cases h
      · omega
  · rfl
end Go.Proofs.YtmbeamcjpidnjaaGreatDoor
namespace Go.Proofs.YtmbeamcjpidnjaaGreatDoor
open Go Go.RowKit

/-- A program's statements lie behind an address. -/
def Prg (w : World) (a : Option Addr) (ps : List (List Td)) : Prop :=
  ∀ i (h : i < ps.length), ∃ b o a' c', a = some ⟨b, o, none⟩ ∧ b < w.heap.size ∧ w.cell? ⟨b, o + i, none⟩ = some (.slice a' ps[i].length c') ∧ ps[i].length ≤ c' ∧ Tds w a' ps[i]
theorem Prg.below {w w' : World} {a : Option Addr} {ps : List (List Td)} (h : Prg w a ps) (hb : Below w.heap.size w w') : Prg w' a ps := by
  intro i hi
  obtain ⟨b, o, a', c', e, hlt, c1, c2, c3⟩ := h i hi
  have := hb.size
  exact ⟨b, o, a', c', e, by omega, ((bcell hb).1 _ _ hlt).trans c1, c2, c3.below hb⟩
theorem Prg.nil (w : World) (a : Option Addr) : Prg w a [] := fun i hi => by simp at hi

end Go.Proofs.YtmbeamcjpidnjaaGreatDoor
