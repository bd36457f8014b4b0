/- How many bytes words and notes have in all, plainly. -/
import Derived.Test.YtmbeamcjpidnjaaGreatDoorSyQ
namespace Go.Proofs.YtmbeamcjpidnjaaGreatDoor
open Go

theorem tkW_le (s : List UInt8) : (tkW s).length ≤ tkLen s := by
  unfold tkW
  refine Nat.le_trans (trimE_len _) ?_
  rw [List.length_take]; omega
theorem lx_total : ∀ (n : Nat) (s : List UInt8) (i : Nat), s.length ≤ n → ((lxW s i).map fun x => x.2.length).sum ≤ s.length
  | 0, s, i, h => by
    have : s = [] := List.eq_nil_of_length_eq_zero (by omega)
    subst this
    rw [lxW, lx_nil]; simp
  | n + 1, s, i, h => by
    cases s with
    | nil => rw [lxW, lx_nil]; simp
    | cons c r =>
      cases hs : spB c with
      | true =>
        have ih := lx_total n r (i + 1) (by simp at h; omega)
        rw [lxW, lx_sp r i hs]
        rw [lxW] at ih
        simp only [List.length_cons]; omega
      | false =>
        cases ho : tkOk (c :: r) with
        | false => rw [lxW, lx_bad i hs ho]; simp
        | true =>
          have hp := tkLen_pos c r
          have hle := tkLen_le (c :: r)
          have ih := lx_total n ((c :: r).drop (tkLen (c :: r))) (i + tkLen (c :: r)) (by simp only [List.length_drop]; omega)
          have hw := tkW_le (c :: r)
          rw [List.length_drop] at ih
          rw [lxW, lx_tok i hs ho]
          simp only [List.map_cons, List.sum_cons]
          omega
theorem wds_total (s : List UInt8) : ((wdsL s).map List.length).sum ≤ s.length := by
  have h := lx_total s.length s 0 (Nat.le_refl _)
  rw [wdsL, List.map_map]
  exact h
/-- Bytes of words, one more for each. -/
def szW (W : List Wd) : Nat := (W.map fun x => x.length + 1).sum
theorem szW_app (a b : List Wd) : szW (a ++ b) = szW a + szW b := by simp [szW]
theorem szW_cons (x : Wd) (b : List Wd) : szW (x :: b) = x.length + 1 + szW b := by simp [szW]
theorem szW_len : ∀ W : List Wd, W.length ≤ szW W
  | [] => Nat.zero_le _
  | x :: r => by have := szW_len r; rw [szW_cons, List.length_cons]; omega
theorem jb_sz : ∀ W : List Wd, (jb W).length ≤ szW W
  | [] => Nat.zero_le _
  | x :: r => by
    have := jb_sz r
    rw [szW_cons]
    cases r with
    | nil => simp [jb]; omega
    | cons y r =>
      have e : jb (x :: y :: r) = x ++ 32 :: jb (y :: r) := by simp [jb]
      rw [e, List.length_append, List.length_cons]; omega
theorem fields_sz : ∀ (l cur : Wd), szW (Lib.fieldsGo cur l) ≤ 2 * (cur.length + l.length)
  | [], cur => by
    cases cur with
    | nil => simp [Lib.fieldsGo, szW]
    | cons a z => simp [Lib.fieldsGo, szW]; omega
  | c :: l, cur => by
    cases hs : Lib.isSp c with
    | true =>
      have ih := fields_sz l []
      cases cur with
      | nil =>
        rw [Lib.fieldsGo_sp _ _ hs]
        simp only [List.length_nil, List.length_cons] at ih ⊢; omega
      | cons a z =>
        rw [Lib.fieldsGo_end _ _ _ hs (by simp), szW_cons]
        simp only [List.length_nil, List.length_cons] at ih ⊢; omega
    | false =>
      have ih := fields_sz l (cur ++ [c])
      rw [Lib.fieldsGo_more _ _ _ hs]
      simp only [List.length_append, List.length_cons, List.length_nil] at ih ⊢; omega
theorem fld_sz (w : Wd) : szW (fldW w) ≤ 2 * w.length := by
  have := fields_sz (w.drop 1) []
  rw [List.length_drop] at this
  simp only [List.length_nil] at this
  show szW (Lib.fieldsGo [] (w.drop 1)) ≤ _
  omega
theorem flds_sz : ∀ nts : List Wd, szW (nts.flatMap fldW) ≤ 2 * (nts.map List.length).sum
  | [] => Nat.zero_le _
  | x :: r => by
    have h1 := flds_sz r
    have h2 := fld_sz x
    rw [List.flatMap_cons, szW_app, List.map_cons, List.sum_cons]; omega
theorem sum_part (ws : List Wd) (p k : Nat) : (((ws.drop p).take k).map List.length).sum ≤ (ws.map List.length).sum := by
  have e : ws = ws.take p ++ ((ws.drop p).take k ++ (ws.drop p).drop k) := by rw [List.take_append_drop, List.take_append_drop]
  have h := congrArg (fun l => (l.map List.length).sum) e
  simp only [List.map_append, List.sum_append] at h
  omega
end Go.Proofs.YtmbeamcjpidnjaaGreatDoor
