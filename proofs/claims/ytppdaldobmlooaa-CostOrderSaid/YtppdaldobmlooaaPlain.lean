/- Plain facts about lines of a text: no program in sight. -/
import Derived.Lib.Bytealg
import Derived.Lib.Strings
import Derived.Lib.IndexBytes
namespace Go.Proofs.Ytppdaldobmlooaa
open Go Go.Lib

/-- The lines of a text: what stands between its bytes 10. -/
def lns : List UInt8 → List (List UInt8)
  | [] => [[]]
  | c :: r => if c == 10 then [] :: lns r else (c :: (lns r).headD []) :: (lns r).tail

theorem lns_ne : ∀ l, lns l ≠ []
  | [] => by simp [lns]
  | c :: r => by unfold lns; split <;> simp

theorem lns_append : ∀ (a b : List UInt8), lns (a ++ 10 :: b) = lns a ++ lns b
  | [], b => by simp [lns]
  | c :: a, b => by
    have ih := lns_append a b
    have hne := lns_ne a
    simp only [List.cons_append, lns, ih]
    split
    · simp
    · cases h : lns a with
      | nil => exact absurd h hne
      | cons x xs => simp

theorem lns_one : ∀ (l : List UInt8), (10 : UInt8) ∉ l → lns l = [l]
  | [], _ => by simp [lns]
  | c :: r, h => by
    have hc : ¬ c = 10 := fun e => h (by simp [e])
    have hr : (10 : UInt8) ∉ r := fun e => h (by simp [e])
    simp [lns, lns_one r hr, hc]

theorem ib_miss : ∀ (l : List UInt8), indexByte l 10 = -1 → (10 : UInt8) ∉ l
  | [], _ => by simp
  | c :: r, h => by
    unfold indexByte at h
    by_cases hc : c == 10
    · simp [hc] at h
    · simp only [hc] at h
      by_cases h2 : indexByte r 10 == -1
      · have := ib_miss r (beq_iff_eq.1 h2)
        have hc' : ¬ (10 : UInt8) = c := fun e => hc (by simp [e])
        simp [this, hc']
      · have := indexByte_ge r 10
        have h3 : ¬ indexByte r 10 = -1 := fun e => h2 (beq_iff_eq.2 e)
        simp [h3] at h
        omega

theorem ib_hit : ∀ (l : List UInt8) (i : Nat), indexByte l 10 = i → i < l.length ∧ (10 : UInt8) ∉ l.take i ∧ l = l.take i ++ 10 :: l.drop (i + 1)
  | [], i, h => by simp [indexByte] at h
  | c :: r, i, h => by
    unfold indexByte at h
    by_cases hc : c == 10
    · have e : c = 10 := beq_iff_eq.1 hc
      simp [hc] at h
      have : i = 0 := by omega
      subst this
      simp [e]
    · simp only [hc] at h
      by_cases h2 : indexByte r 10 == -1
      · simp [h2] at h
      · have h3 : ¬ indexByte r 10 = -1 := fun e => h2 (beq_iff_eq.2 e)
        have hge := indexByte_ge r 10
        simp [h3] at h
        obtain ⟨j, rfl⟩ : ∃ j, i = j + 1 := ⟨i - 1, by omega⟩
        obtain ⟨p1, p2, p3⟩ := ib_hit r j (by omega)
        have hc' : ¬ (10 : UInt8) = c := fun e => hc (by simp [e])
        refine ⟨by simp; omega, by simp [hc', p2], ?_⟩
        rw [List.take_succ_cons, List.drop_succ_cons, List.cons_append]
        exact congrArg (c :: ·) p3

theorem ib_cases (l : List UInt8) : indexByte l 10 = -1 ∨ ∃ i : Nat, indexByte l 10 = i := by
  have := indexByte_ge l 10
  by_cases h : indexByte l 10 = -1
  · exact .inl h
  · exact .inr ⟨(indexByte l 10).toNat, by omega⟩

/-- The lines as strings. -/
def lnsB (s : ByteArray) : List ByteArray := (lns s.data.toList).map fun l => ⟨l.toArray⟩

theorem lnsB_miss (s : ByteArray) (h : indexByte s.data.toList 10 = -1) : lnsB s = [s] := by
  unfold lnsB
  rw [lns_one _ (ib_miss _ h)]
  simp

theorem lnsB_hit (s : ByteArray) (i : Nat) (h : indexByte s.data.toList 10 = i) : i + 1 ≤ s.size ∧ lnsB s = s.extract 0 i :: lnsB (s.extract (i + 1) s.size) := by
  obtain ⟨h1, h2, h3⟩ := ib_hit _ i h
  refine ⟨by rw [size_eq]; omega, ?_⟩
  unfold lnsB
  conv => lhs; rw [h3]
  rw [lns_append, lns_one _ h2, extract_to_end, extract_eq]
  simp

/-- How many bytes lines have above a width. -/
def ovr (wd : Int) (n : Int) : Int := max (n - wd) 0
def over (wd : Int) : List Int → Int
  | [] => 0
  | n :: r => ovr wd n + over wd r

theorem ovr_nonneg (wd n : Int) : 0 ≤ ovr wd n := by unfold ovr; omega
theorem ovr_le (wd n : Int) (h : 0 ≤ wd) (hn : 0 ≤ n) : ovr wd n ≤ n := by unfold ovr; omega

theorem over_append (wd : Int) : ∀ a b, over wd (a ++ b) = over wd a + over wd b
  | [], b => by simp [over]
  | n :: a, b => by simp [over, over_append wd a b]; omega

theorem over_nonneg (wd : Int) : ∀ a, 0 ≤ over wd a
  | [] => by simp [over]
  | n :: a => by have := over_nonneg wd a; have := ovr_nonneg wd n; simp [over]; omega

theorem over_le (wd : Int) (h : 0 ≤ wd) {M : Int} : ∀ (a : List Int), (∀ n ∈ a, 0 ≤ n ∧ n ≤ M) → over wd a ≤ M * (a.length : Int)
  | [], _ => by simp [over]
  | n :: a, hn => by
    have h1 := over_le wd h a (fun m hm => hn m (by simp [hm]))
    have h2 := hn n (by simp)
    have h3 := ovr_le wd n h h2.1
    have h4 : M * (((n :: a).length : Nat) : Int) = M * (a.length : Int) + M := by
      rw [List.length_cons, Int.natCast_add, Int.mul_add]
      simp
    rw [h4]
    simp only [over]
    omega

/-- The lengths of a text's lines. -/
def lens (l : List UInt8) : List Int := (lns l).map fun x => (x.length : Int)

theorem lens_append (a b : List UInt8) : lens (a ++ 10 :: b) = lens a ++ lens b := by simp [lens, lns_append]

theorem lns_len : ∀ (l : List UInt8), (lns l).length ≤ l.length + 1
  | [] => by simp [lns]
  | c :: r => by
    have := lns_len r
    have := List.length_pos_iff.2 (lns_ne r)
    unfold lns
    split
    · simp; omega
    · simp; omega

theorem lns_le : ∀ (l : List UInt8), ∀ x ∈ lns l, x.length ≤ l.length
  | [], x, h => by simp [lns] at h; simp [h]
  | c :: r, x, h => by
    have ih := lns_le r
    unfold lns at h
    by_cases hc : c == 10
    · simp only [hc, if_true, List.mem_cons] at h
      rcases h with rfl | h
      · simp
      · have := ih x h; simp; omega
    · simp only [hc] at h
      simp only [Bool.false_eq_true, if_false, List.mem_cons] at h
      rcases h with rfl | h
      · have hne := lns_ne r
        cases hr : lns r with
        | nil => exact absurd hr hne
        | cons y ys => have := ih y (by simp [hr]); simp; omega
      · have := ih x (List.mem_of_mem_tail h); simp; omega

theorem lens_pos (l : List UInt8) : 1 ≤ (lens l).length := by
  have := List.length_pos_iff.2 (lns_ne l)
  simp [lens]; omega

/-- What a text costs. -/
def costOver (s : ByteArray) (wd : Int) : Int := over wd (lens s.data.toList)
def costLines (s : ByteArray) : Int := ((lens s.data.toList).length : Int) - 1
end Go.Proofs.Ytppdaldobmlooaa
