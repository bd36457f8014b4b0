/- Some texts as one: Plain, PlainR, BstC. -/
import Derived.Lib.Bytealg
import Derived.Lib.Strings
import Derived.Lib.IndexBytes
import Derived.Test.YtfabfclbnekleaaDoorBstPs
namespace Go.Proofs.YtfabfclbnekleaaDoor
open Go Go.Lib

/-- The lines of a text: what stands between its bytes 10. -/
def lns : List UInt8 → List (List UInt8)
  | [] => [[]]
  | c :: r => if c == 10 then [] :: lns r else (c :: (lns r).headD []) :: (lns r).tail

theorem lns_ne : ∀ l, lns l ≠ []
  | [] => by simp [lns]
  | c :: r => by unfold lns; split <;> simp

theorem lns_append : ∀ (a b : List UInt8), lns (a ++ 10 :: b) = lns a ++ lns b
  | [], b => by simp [lns]
  | c :: a, b => by
    have ih := lns_append a b
    have hne := lns_ne a
    simp only [List.cons_append, lns, ih]
    split
    · simp
    · cases h : lns a with
      | nil => exact absurd h hne
      | cons x xs => simp

theorem lns_one : ∀ (l : List UInt8), (10 : UInt8) ∉ l → lns l = [l]
  | [], _ => by simp [lns]
  | c :: r, h => by
    have hc : ¬ c = 10 := fun e => h (by simp [e])
    have hr : (10 : UInt8) ∉ r := fun e => h (by simp [e])
    simp [lns, lns_one r hr, hc]

theorem ib_miss : ∀ (l : List UInt8), indexByte l 10 = -1 → (10 : UInt8) ∉ l
  | [], _ => by simp
  | c :: r, h => by
    unfold indexByte at h
    by_cases hc : c == 10
    · simp [hc] at h
    · simp only [hc] at h
      by_cases h2 : indexByte r 10 == -1
      · have := ib_miss r (beq_iff_eq.1 h2)
        have hc' : ¬ (10 : UInt8) = c := fun e => hc (by simp [e])
        simp [this, hc']
      · have := indexByte_ge r 10
        have h3 : ¬ indexByte r 10 = -1 := fun e => h2 (beq_iff_eq.2 e)
        simp [h3] at h
        omega

theorem ib_hit : ∀ (l : List UInt8) (i : Nat), indexByte l 10 = i → i < l.length ∧ (10 : UInt8) ∉ l.take i ∧ l = l.take i ++ 10 :: l.drop (i + 1)
  | [], i, h => by simp [indexByte] at h
  | c :: r, i, h => by
    unfold indexByte at h
    by_cases hc : c == 10
    · have e : c = 10 := beq_iff_eq.1 hc
      simp [hc] at h
      have : i = 0 := by omega
      subst this
      simp [e]
    · simp only [hc] at h
      by_cases h2 : indexByte r 10 == -1
      · simp [h2] at h
      · have h3 : ¬ indexByte r 10 = -1 := fun e => h2 (beq_iff_eq.2 e)
        have hge := indexByte_ge r 10
        simp [h3] at h
        obtain ⟨j, rfl⟩ : ∃ j, i = j + 1 := ⟨i - 1, by omega⟩
        obtain ⟨p1, p2, p3⟩ := ib_hit r j (by omega)
        have hc' : ¬ (10 : UInt8) = c := fun e => hc (by simp [e])
        refine ⟨by simp; omega, by simp [hc', p2], ?_⟩
        rw [List.take_succ_cons, List.drop_succ_cons, List.cons_append]
        exact congrArg (c :: ·) p3

theorem ib_cases (l : List UInt8) : indexByte l 10 = -1 ∨ ∃ i : Nat, indexByte l 10 = i := by
  have := indexByte_ge l 10
  by_cases h : indexByte l 10 = -1
  · exact .inl h
  · exact .inr ⟨(indexByte l 10).toNat, by omega⟩

/-- The lines as strings. -/
def lnsB (s : ByteArray) : List ByteArray := (lns s.data.toList).map fun l => ⟨l.toArray⟩

theorem lnsB_miss (s : ByteArray) (h : indexByte s.data.toList 10 = -1) : lnsB s = [s] := by
  unfold lnsB
  rw [lns_one _ (ib_miss _ h)]
  simp

theorem lnsB_hit (s : ByteArray) (i : Nat) (h : indexByte s.data.toList 10 = i) : i + 1 ≤ s.size ∧ lnsB s = s.extract 0 i :: lnsB (s.extract (i + 1) s.size) := by
  obtain ⟨h1, h2, h3⟩ := ib_hit _ i h
  refine ⟨by rw [size_eq]; omega, ?_⟩
  unfold lnsB
  conv => lhs; rw [h3]
  rw [lns_append, lns_one _ h2, extract_to_end, extract_eq]
  simp

/-- How many bytes lines have above a width. -/
def ovr (wd : Int) (n : Int) : Int := max (n - wd) 0
def over (wd : Int) : List Int → Int
  | [] => 0
  | n :: r => ovr wd n + over wd r

theorem ovr_nonneg (wd n : Int) : 0 ≤ ovr wd n := by unfold ovr; omega
theorem ovr_le (wd n : Int) (h : 0 ≤ wd) (hn : 0 ≤ n) : ovr wd n ≤ n := by unfold ovr; omega

theorem over_append (wd : Int) : ∀ a b, over wd (a ++ b) = over wd a + over wd b
  | [], b => by simp [over]
  | n :: a, b => by simp [over, over_append wd a b]; omega

theorem over_nonneg (wd : Int) : ∀ a, 0 ≤ over wd a
  | [] => by simp [over]
  | n :: a => by have := over_nonneg wd a; have := ovr_nonneg wd n; simp [over]; omega

theorem over_le (wd : Int) (h : 0 ≤ wd) : ∀ (a : List Int), (∀ n ∈ a, 0 ≤ n ∧ n ≤ 60000) → over wd a ≤ 60000 * (a.length : Int)
  | [], _ => by simp [over]
  | n :: a, hn => by
    have h1 := over_le wd h a (fun m hm => hn m (by simp [hm]))
    have h2 := hn n (by simp)
    have h3 := ovr_le wd n h h2.1
    simp only [over, List.length_cons]
    omega

/-- The lengths of a text's lines. -/
def lens (l : List UInt8) : List Int := (lns l).map fun x => (x.length : Int)

theorem lens_append (a b : List UInt8) : lens (a ++ 10 :: b) = lens a ++ lens b := by simp [lens, lns_append]

theorem lns_len : ∀ (l : List UInt8), (lns l).length ≤ l.length + 1
  | [] => by simp [lns]
  | c :: r => by
    have := lns_len r
    have := List.length_pos_iff.2 (lns_ne r)
    unfold lns
    split
    · simp; omega
    · simp; omega

theorem lns_le : ∀ (l : List UInt8), ∀ x ∈ lns l, x.length ≤ l.length
  | [], x, h => by simp [lns] at h; simp [h]
  | c :: r, x, h => by
    have ih := lns_le r
    unfold lns at h
    by_cases hc : c == 10
    · simp only [hc, if_true, List.mem_cons] at h
      rcases h with rfl | h
      · simp
      · have := ih x h; simp; omega
    · simp only [hc] at h
      simp only [Bool.false_eq_true, if_false, List.mem_cons] at h
      rcases h with rfl | h
      · have hne := lns_ne r
        cases hr : lns r with
        | nil => exact absurd hr hne
        | cons y ys => have := ih y (by simp [hr]); simp; omega
      · have := ih x (List.mem_of_mem_tail h); simp; omega

theorem lens_pos (l : List UInt8) : 1 ≤ (lens l).length := by
  have := List.length_pos_iff.2 (lns_ne l)
  simp [lens]; omega

/-- What a text costs. -/
def costOver (s : ByteArray) (wd : Int) : Int := over wd (lens s.data.toList)
def costLines (s : ByteArray) : Int := ((lens s.data.toList).length : Int) - 1
end Go.Proofs.YtfabfclbnekleaaDoor
namespace Go.Proofs.YtfabfclbnekleaaDoor
open Go Go.Lib

/-- One byte more: columns too many, lines, the column. -/
def stp (wd : Int) (x : Int × Int × Int) (b : UInt8) : Int × Int × Int :=
  if b = 10 then (x.1, x.2.1 + 1, 0) else (if wd < x.2.2 + 1 then x.1 + 1 else x.1, x.2.1, x.2.2 + 1)
def stL (wd : Int) (l : List UInt8) : Int × Int × Int := l.foldl (stp wd) (0, 0, 0)

theorem stL_snoc (wd : Int) (l : List UInt8) (b : UInt8) : stL wd (l ++ [b]) = stp wd (stL wd l) b := by simp [stL]

theorem ovr_succ (wd c : Int) : ovr wd (c + 1) = ovr wd c + (if wd < c + 1 then 1 else 0) := by
  unfold ovr; split <;> omega

theorem stp_bd (wd : Int) (l : List UInt8) : ∀ (x : Int × Int × Int), 0 ≤ x.1 → 0 ≤ x.2.1 → 0 ≤ x.2.2 →
    (0 ≤ (l.foldl (stp wd) x).1 ∧ (l.foldl (stp wd) x).1 ≤ x.1 + l.length) ∧ (0 ≤ (l.foldl (stp wd) x).2.1 ∧ (l.foldl (stp wd) x).2.1 ≤ x.2.1 + l.length) ∧ (0 ≤ (l.foldl (stp wd) x).2.2 ∧ (l.foldl (stp wd) x).2.2 ≤ x.2.2 + l.length) := by
  induction l with
  | nil => intro x h1 h2 h3; simp; omega
  | cons b r ih =>
    intro x h1 h2 h3
    have e : (b :: r).foldl (stp wd) x = r.foldl (stp wd) (stp wd x b) := rfl
    rw [e]
    have hs : 0 ≤ (stp wd x b).1 ∧ (stp wd x b).1 ≤ x.1 + 1 ∧ 0 ≤ (stp wd x b).2.1 ∧ (stp wd x b).2.1 ≤ x.2.1 + 1 ∧ 0 ≤ (stp wd x b).2.2 ∧ (stp wd x b).2.2 ≤ x.2.2 + 1 := by
      unfold stp
      by_cases hb : b = 10
      · simp only [hb, if_true]; omega
      · simp only [hb, if_false]
        by_cases hw : wd < x.2.2 + 1
        · simp only [hw, if_true]; omega
        · simp only [hw, if_false]; omega
    have := ih (stp wd x b) hs.1 hs.2.2.1 hs.2.2.2.2.1
    simp only [List.length_cons]
    omega

theorem stL_bd (wd : Int) (l : List UInt8) : (0 ≤ (stL wd l).1 ∧ (stL wd l).1 ≤ l.length) ∧ (0 ≤ (stL wd l).2.1 ∧ (stL wd l).2.1 ≤ l.length) ∧ (0 ≤ (stL wd l).2.2 ∧ (stL wd l).2.2 ≤ l.length) := by
  have := stp_bd wd l (0, 0, 0) (by simp) (by simp) (by simp)
  simpa [stL] using this

theorem lens_cons (c : UInt8) (r : List UInt8) : ∃ h t, lens r = h :: t ∧ lens (c :: r) = if c = 10 then 0 :: h :: t else (h + 1) :: t := by
  have hne := lns_ne r
  cases hr : lns r with
  | nil => exact absurd hr hne
  | cons x xs =>
    refine ⟨(x.length : Int), xs.map fun y => (y.length : Int), by simp [lens, hr], ?_⟩
    unfold lens lns
    by_cases hc : c = 10
    · simp [hc, hr]
    · simp [hc, hr]

theorem st_lens (wd : Int) (hw : 0 ≤ wd) : ∀ (l : List UInt8) (o n c : Int), ∃ h t, lens l = h :: t ∧
    (l.foldl (stp wd) (o, n, c)).1 = o + (ovr wd (c + h) - ovr wd c) + over wd t ∧ (l.foldl (stp wd) (o, n, c)).2.1 = n + t.length
  | [], o, n, c => ⟨0, [], by simp [lens, lns], by simp [over], by simp⟩
  | b :: r, o, n, c => by
    obtain ⟨h, t, e1, e2⟩ := lens_cons b r
    have e3 : (b :: r).foldl (stp wd) (o, n, c) = r.foldl (stp wd) (stp wd (o, n, c) b) := rfl
    rw [e3, e2]
    by_cases hb : b = 10
    · have e4 : stp wd (o, n, c) b = (o, n + 1, 0) := by simp [stp, hb]
      rw [e4]
      obtain ⟨h', t', q1, q2, q3⟩ := st_lens wd hw r o (n + 1) 0
      rw [e1] at q1
      simp only [List.cons.injEq] at q1
      obtain ⟨rfl, rfl⟩ := q1
      refine ⟨0, h :: t, by simp [hb], ?_, ?_⟩
      · rw [q2]; simp [over]; unfold ovr; omega
      · rw [q3]; simp; omega
    · have e4 : stp wd (o, n, c) b = (if wd < c + 1 then o + 1 else o, n, c + 1) := by simp [stp, hb]
      rw [e4]
      obtain ⟨h', t', q1, q2, q3⟩ := st_lens wd hw r (if wd < c + 1 then o + 1 else o) n (c + 1)
      rw [e1] at q1
      simp only [List.cons.injEq] at q1
      obtain ⟨rfl, rfl⟩ := q1
      refine ⟨h + 1, t, by simp [hb], ?_, q3⟩
      rw [q2, ovr_succ wd c, show c + 1 + h = c + (h + 1) by omega]
      split <;> omega

theorem st_cost (s : ByteArray) (wd : Int) (h : 0 ≤ wd) : (stL wd s.data.toList).1 = costOver s wd ∧ (stL wd s.data.toList).2.1 = costLines s := by
  obtain ⟨a, t, e1, e2, e3⟩ := st_lens wd h s.data.toList 0 0 0
  unfold costOver costLines stL
  rw [e2, e3, e1]
  have h0 : ovr wd 0 = 0 := by unfold ovr; omega
  simp [over, h0]

theorem take_snoc (s : ByteArray) (k : Nat) (h : k < s.size) : s.data.toList.take (k + 1) = s.data.toList.take k ++ [s[k]] := by
  rw [List.take_succ_eq_append_getElem (by simpa using h)]; rfl
end Go.Proofs.YtfabfclbnekleaaDoor
namespace Go.Proofs.YtfabfclbnekleaaDoor

theorem col_st (wd : Nat) : ∀ (l : List UInt8) (o n : Int) (c : Nat), l.foldl (stp wd) (o, n, (c : Int)) = (o + (colS wd c l).1, n + (colS wd c l).2.1, ((colS wd c l).2.2 : Int))
  | [], o, n, c => by simp [colS]
  | b :: r, o, n, c => by
    have e3 : (b :: r).foldl (stp wd) (o, n, (c : Int)) = r.foldl (stp wd) (stp wd (o, n, (c : Int)) b) := rfl
    rw [e3]
    simp only [colS]
    by_cases hb : b = 10
    · have e4 : stp wd (o, n, (c : Int)) b = (o, n + 1, ((0 : Nat) : Int)) := by simp [stp, hb]
      rw [e4, col_st wd r, if_pos hb]
      simp only [Prod.mk.injEq, and_true, true_and]
      omega
    · have e4 : stp wd (o, n, (c : Int)) b = (o + (if wd ≤ c then 1 else 0 : Nat), n, ((c + 1 : Nat) : Int)) := by
        by_cases h : wd ≤ c
        · have h' : (wd : Int) < (c : Int) + 1 := by omega
          simp [stp, hb, h, h']
        · have h' : ¬ (wd : Int) < (c : Int) + 1 := by omega
          simp [stp, hb, h, h']
      rw [e4, col_st wd r, if_neg hb]
      simp only [Prod.mk.injEq, and_true]
      omega
theorem col_stL (wd : Nat) (l : List UInt8) : stL wd l = (((colS wd 0 l).1 : Int), ((colS wd 0 l).2.1 : Int), ((colS wd 0 l).2.2 : Int)) := by
  have := col_st wd l 0 0 0
  simpa [stL] using this
end Go.Proofs.YtfabfclbnekleaaDoor
