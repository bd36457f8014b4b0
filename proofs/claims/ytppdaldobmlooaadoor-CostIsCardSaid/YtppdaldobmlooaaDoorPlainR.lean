/- Plain facts: the document's reckoning of what a text costs, byte by byte, against its lines. -/
import Derived.Test.YtppdaldobmlooaaDoorPlain
namespace Go.Proofs.YtppdaldobmlooaaDoor
open Go Go.Lib

/-- One byte more: columns too many, lines, the column. -/
def stp (wd : Int) (x : Int × Int × Int) (b : UInt8) : Int × Int × Int :=
  if b = 10 then (x.1, x.2.1 + 1, 0) else (if wd < x.2.2 + 1 then x.1 + 1 else x.1, x.2.1, x.2.2 + 1)
def stL (wd : Int) (l : List UInt8) : Int × Int × Int := l.foldl (stp wd) (0, 0, 0)

theorem stL_snoc (wd : Int) (l : List UInt8) (b : UInt8) : stL wd (l ++ [b]) = stp wd (stL wd l) b := by simp [stL]

theorem ovr_succ (wd c : Int) : ovr wd (c + 1) = ovr wd c + (if wd < c + 1 then 1 else 0) := by
  unfold ovr; split <;> omega

theorem stp_bd (wd : Int) (l : List UInt8) : ∀ (x : Int × Int × Int), 0 ≤ x.1 → 0 ≤ x.2.1 → 0 ≤ x.2.2 →
    (0 ≤ (l.foldl (stp wd) x).1 ∧ (l.foldl (stp wd) x).1 ≤ x.1 + l.length) ∧ (0 ≤ (l.foldl (stp wd) x).2.1 ∧ (l.foldl (stp wd) x).2.1 ≤ x.2.1 + l.length) ∧ (0 ≤ (l.foldl (stp wd) x).2.2 ∧ (l.foldl (stp wd) x).2.2 ≤ x.2.2 + l.length) := by
  induction l with
  | nil => intro x h1 h2 h3; simp; omega
  | cons b r ih =>
    intro x h1 h2 h3
    have e : (b :: r).foldl (stp wd) x = r.foldl (stp wd) (stp wd x b) := rfl
    rw [e]
    have hs : 0 ≤ (stp wd x b).1 ∧ (stp wd x b).1 ≤ x.1 + 1 ∧ 0 ≤ (stp wd x b).2.1 ∧ (stp wd x b).2.1 ≤ x.2.1 + 1 ∧ 0 ≤ (stp wd x b).2.2 ∧ (stp wd x b).2.2 ≤ x.2.2 + 1 := by
      unfold stp
      by_cases hb : b = 10
      · simp only [hb, if_true]; omega
      · simp only [hb, if_false]
        by_cases hw : wd < x.2.2 + 1
        · simp only [hw, if_true]; omega
        · simp only [hw, if_false]; omega
    have := ih (stp wd x b) hs.1 hs.2.2.1 hs.2.2.2.2.1
    simp only [List.length_cons]
    omega

theorem stL_bd (wd : Int) (l : List UInt8) : (0 ≤ (stL wd l).1 ∧ (stL wd l).1 ≤ l.length) ∧ (0 ≤ (stL wd l).2.1 ∧ (stL wd l).2.1 ≤ l.length) ∧ (0 ≤ (stL wd l).2.2 ∧ (stL wd l).2.2 ≤ l.length) := by
  have := stp_bd wd l (0, 0, 0) (by simp) (by simp) (by simp)
  simpa [stL] using this

theorem lens_cons (c : UInt8) (r : List UInt8) : ∃ h t, lens r = h :: t ∧ lens (c :: r) = if c = 10 then 0 :: h :: t else (h + 1) :: t := by
  have hne := lns_ne r
  cases hr : lns r with
  | nil => exact absurd hr hne
  | cons x xs =>
    refine ⟨(x.length : Int), xs.map fun y => (y.length : Int), by simp [lens, hr], ?_⟩
    unfold lens lns
    by_cases hc : c = 10
    · simp [hc, hr]
    · simp [hc, hr]

theorem st_lens (wd : Int) (hw : 0 ≤ wd) : ∀ (l : List UInt8) (o n c : Int), ∃ h t, lens l = h :: t ∧
    (l.foldl (stp wd) (o, n, c)).1 = o + (ovr wd (c + h) - ovr wd c) + over wd t ∧ (l.foldl (stp wd) (o, n, c)).2.1 = n + t.length
  | [], o, n, c => ⟨0, [], by simp [lens, lns], by simp [over], by simp⟩
  | b :: r, o, n, c => by
    obtain ⟨h, t, e1, e2⟩ := lens_cons b r
    have e3 : (b :: r).foldl (stp wd) (o, n, c) = r.foldl (stp wd) (stp wd (o, n, c) b) := rfl
    rw [e3, e2]
    by_cases hb : b = 10
    · have e4 : stp wd (o, n, c) b = (o, n + 1, 0) := by simp [stp, hb]
      rw [e4]
      obtain ⟨h', t', q1, q2, q3⟩ := st_lens wd hw r o (n + 1) 0
      rw [e1] at q1
      simp only [List.cons.injEq] at q1
      obtain ⟨rfl, rfl⟩ := q1
      refine ⟨0, h :: t, by simp [hb], ?_, ?_⟩
      · rw [q2]; simp [over]; unfold ovr; omega
      · rw [q3]; simp; omega
    · have e4 : stp wd (o, n, c) b = (if wd < c + 1 then o + 1 else o, n, c + 1) := by simp [stp, hb]
      rw [e4]
      obtain ⟨h', t', q1, q2, q3⟩ := st_lens wd hw r (if wd < c + 1 then o + 1 else o) n (c + 1)
      rw [e1] at q1
      simp only [List.cons.injEq] at q1
      obtain ⟨rfl, rfl⟩ := q1
      refine ⟨h + 1, t, by simp [hb], ?_, q3⟩
      rw [q2, ovr_succ wd c, show c + 1 + h = c + (h + 1) by omega]
      split <;> omega

theorem st_cost (s : ByteArray) (wd : Int) (h : 0 ≤ wd) : (stL wd s.data.toList).1 = costOver s wd ∧ (stL wd s.data.toList).2.1 = costLines s := by
  obtain ⟨a, t, e1, e2, e3⟩ := st_lens wd h s.data.toList 0 0 0
  unfold costOver costLines stL
  rw [e2, e3, e1]
  have h0 : ovr wd 0 = 0 := by unfold ovr; omega
  simp [over, h0]

theorem take_snoc (s : ByteArray) (k : Nat) (h : k < s.size) : s.data.toList.take (k + 1) = s.data.toList.take k ++ [s[k]] := by
  rw [List.take_succ_eq_append_getElem (by simpa using h)]; rfl
end Go.Proofs.YtppdaldobmlooaaDoor
