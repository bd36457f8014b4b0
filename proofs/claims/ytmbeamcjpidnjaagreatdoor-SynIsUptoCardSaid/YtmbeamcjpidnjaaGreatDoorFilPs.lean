/- Some texts as one: FilP, FilQ. -/
import Derived.Lib.Join
namespace Go.Proofs.YtmbeamcjpidnjaaGreatDoor
open Go

/-- A byte that may stand in a word. -/
def wByte (b : UInt8) : Bool := decide (33 ≤ b.toNat) && decide (b.toNat ≤ 126)
/-- A word. -/
def okW (x : ByteArray) : Bool := decide (1 ≤ x.size) && decide (x.size ≤ 20) && x.data.toList.all wByte
/-- What is wrong with words. -/
def wordsF (ws : List ByteArray) : Int := if 60 < ws.length then 3 else if ws.all okW then 0 else 5
/-- What is wrong with words and a width. -/
def fillE (ws : List ByteArray) (wd : Int) : Int := if wordsF ws ≠ 0 then wordsF ws else if wd < 1 ∨ 100 < wd then 1 else 0

theorem wordsF_zero {ws : List ByteArray} (h : wordsF ws = 0) : ws.length ≤ 60 ∧ ∀ x ∈ ws, okW x = true := by
  unfold wordsF at h
  split at h
  · cases h
  · split at h
    · rename_i h1 h2
      exact ⟨by omega, fun x hx => List.all_eq_true.1 h2 x hx⟩
    · cases h
theorem okW_size {x : ByteArray} (h : okW x = true) : 1 ≤ x.size ∧ x.size ≤ 20 := by
  simp only [okW, Bool.and_eq_true, decide_eq_true_eq] at h
  exact h.1
/-- Words that may be, as far as their lengths go. -/
def Few (ws : List ByteArray) : Prop := ws.length ≤ 60 ∧ ∀ x ∈ ws, x.size ≤ 20
theorem few_of {ws : List ByteArray} (h : wordsF ws = 0) : Few ws := ⟨(wordsF_zero h).1, fun x hx => (okW_size ((wordsF_zero h).2 x hx)).2⟩
theorem Few.take {ws : List ByteArray} (h : Few ws) (k : Nat) : Few (ws.take k) := ⟨by have := h.1; simp; omega, fun x hx => h.2 x (List.mem_of_mem_take hx)⟩
theorem Few.drop {ws : List ByteArray} (h : Few ws) (k : Nat) : Few (ws.drop k) := ⟨by have := h.1; simp; omega, fun x hx => h.2 x (List.mem_of_mem_drop hx)⟩
theorem fillE_zero {ws : List ByteArray} {wd : Int} (h : fillE ws wd = 0) : wordsF ws = 0 ∧ ∃ n : Nat, wd = n ∧ 1 ≤ n ∧ n ≤ 100 := by
  unfold fillE at h
  split at h
  · rename_i h1; exact absurd h h1
  · rename_i h1
    split at h
    · cases h
    · refine ⟨by omega, wd.toNat, by omega, by omega, by omega⟩

/-- Bytes of words, the blanks between aside. -/
def tot : List ByteArray → Nat
  | [] => 0
  | x :: r => x.size + tot r
theorem tot_app (a b : List ByteArray) : tot (a ++ b) = tot a + tot b := by
  induction a with
  | nil => simp [tot]
  | cons x r ih => simp only [List.cons_append, tot, ih]; omega
theorem tot_take {ws : List ByteArray} {i : Nat} (h : i < ws.length) : tot (ws.take (i + 1)) = tot (ws.take i) + ws[i].size := by
  rw [List.take_succ_eq_append_getElem h, tot_app]; simp [tot]
theorem tot_le {ws : List ByteArray} (h : ∀ x ∈ ws, x.size ≤ 20) : tot ws ≤ 20 * ws.length := by
  induction ws with
  | nil => simp [tot]
  | cons x r ih =>
    have h1 := h x (by simp)
    have h2 := ih fun y hy => h y (by simp [hy])
    simp only [tot, List.length_cons]; omega
theorem Few.tot {ws : List ByteArray} (h : Few ws) : tot ws ≤ 1200 := by
  have := tot_le h.2
  have := h.1
  omega
/-- Bytes of a line of words. -/
def ln (ws : List ByteArray) : Nat := tot ws + (ws.length - 1)
theorem Few.ln {ws : List ByteArray} (h : Few ws) : ln ws ≤ 1260 := by
  have := h.tot
  have := h.1
  simp only [Go.Proofs.YtmbeamcjpidnjaaGreatDoor.ln]; omega

/-- A line of words. -/
def jnL (ws : List ByteArray) : List UInt8 := Lib.join (ws.map (·.data.toList)) [32]
def jnS (ws : List ByteArray) : ByteArray := ⟨(jnL ws).toArray⟩
theorem lens_tot (ws : List ByteArray) : Lib.lens (ws.map (·.data.toList)) = tot ws := by
  induction ws with
  | nil => rfl
  | cons x r ih =>
    have e : Lib.lens ((x :: r).map (·.data.toList)) = x.data.toList.length + Lib.lens (r.map (·.data.toList)) := by simp [Lib.lens]
    rw [e, ih, tot, Lib.size_eq]
theorem jnL_len (ws : List ByteArray) : (jnL ws).length = ln ws := by
  cases ws with
  | nil => rfl
  | cons x r =>
    have h := Lib.join_length x.data.toList (r.map (·.data.toList)) [32]
    have h2 := lens_tot (x :: r)
    simp only [List.map_cons] at h2
    simp only [jnL, List.map_cons, h, h2, ln, List.length_cons, List.length_nil, List.length_map]
    omega
theorem jnS_size (ws : List ByteArray) : (jnS ws).size = ln ws := by
  rw [← jnL_len]; simp [jnS, ByteArray.size]
theorem jnS_nil : jnS [] = ⟨#[]⟩ := rfl
theorem ba_app (a b : List UInt8) : (⟨a.toArray⟩ : ByteArray) ++ ⟨b.toArray⟩ = ⟨(a ++ b).toArray⟩ := by
  apply ByteArray.ext
  simp
theorem ba_list (x : ByteArray) : (⟨x.data.toList.toArray⟩ : ByteArray) = x := by cases x; simp
theorem jnS_take0 {ws : List ByteArray} (h : 0 < ws.length) : jnS (ws.take 1) = ws[0] := by
  cases ws with
  | nil => simp at h
  | cons x r => simp [jnS, jnL, Lib.join_one]
theorem jnL_snoc (x : ByteArray) (r : List ByteArray) (y : ByteArray) : jnL (x :: r ++ [y]) = jnL (x :: r) ++ [32] ++ y.data.toList := by
  simp only [jnL, List.map_cons, List.cons_append, List.map_append, List.map_nil, Lib.join_cons, Lib.joinTail, List.flatten_append, List.flatten_cons, List.flatten_nil, List.append_nil, List.append_assoc]
theorem jnS_take {ws : List ByteArray} {i : Nat} (h0 : 0 < i) (h : i < ws.length) : jnS (ws.take (i + 1)) = jnS (ws.take i) ++ ⟨#[32]⟩ ++ ws[i] := by
  rw [List.take_succ_eq_append_getElem h]
  cases ws with
  | nil => simp at h
  | cons x r =>
    obtain ⟨j, rfl⟩ : ∃ j, i = j + 1 := ⟨i - 1, by omega⟩
    simp only [List.take_succ_cons]
    have e := jnL_snoc x (r.take j) ((x :: r)[j + 1]'h)
    simp only [jnS, e]
    have e2 : (⟨#[32]⟩ : ByteArray) = ⟨([32] : List UInt8).toArray⟩ := rfl
    rw [e2]
    conv => rhs; rw [← ba_list ((x :: r)[j + 1]'h)]
    rw [ba_app, ba_app]

/-- How bad a line of so many bytes is. -/
def bd (n wd : Nat) (last : Bool) : Nat := if wd < n then 1000 * (n - wd) else if last then 0 else (wd - n) * (wd - n)
theorem bd_le {n wd : Nat} {last : Bool} (h1 : n ≤ 1260) (h2 : wd ≤ 100) : bd n wd last ≤ 1300000 := by
  unfold bd
  split
  · omega
  · split
    · omega
    · have : (wd - n) * (wd - n) ≤ 100 * 100 := Nat.mul_le_mul (by omega) (by omega)
      omega

/-- Of numbers from 1 on: the least, and the last place that has it. -/
def mnTo (g : Nat → Nat) : Nat → Nat
  | 0 => 0
  | n + 1 => if n = 0 ∨ g (n + 1) ≤ mnTo g n then g (n + 1) else mnTo g n
def agTo (g : Nat → Nat) : Nat → Nat
  | 0 => 0
  | n + 1 => if n = 0 ∨ g (n + 1) ≤ mnTo g n then n + 1 else agTo g n
theorem mnTo_congr {g h : Nat → Nat} : ∀ n, (∀ k, 1 ≤ k → k ≤ n → g k = h k) → mnTo g n = mnTo h n
  | 0, _ => rfl
  | n + 1, e => by
    have ih := mnTo_congr n fun k h1 h2 => e k h1 (by omega)
    simp only [mnTo, ih, e (n + 1) (by omega) (Nat.le_refl _)]
theorem mnTo_le (g : Nat → Nat) : ∀ n k, 1 ≤ k → k ≤ n → mnTo g n ≤ g k
  | 0, k, h1, h2 => by omega
  | n + 1, k, h1, h2 => by
    simp only [mnTo]
    split
    · rename_i h
      by_cases hk : k = n + 1
      · subst hk; exact Nat.le_refl _
      · have := mnTo_le g n k h1 (by omega)
        rcases h with h | h <;> omega
    · rename_i h
      by_cases hk : k = n + 1
      · subst hk; omega
      · exact mnTo_le g n k h1 (by omega)
theorem agTo_pos (g : Nat → Nat) : ∀ n, 1 ≤ n → 1 ≤ agTo g n ∧ agTo g n ≤ n
  | 0, h => by omega
  | n + 1, h => by
    simp only [agTo]
    split
    · omega
    · rename_i h1
      have := agTo_pos g n (by omega)
      omega
theorem agTo_eq (g : Nat → Nat) : ∀ n, 1 ≤ n → g (agTo g n) = mnTo g n
  | 0, h => by omega
  | n + 1, h => by
    simp only [agTo, mnTo]
    split
    · rfl
    · rename_i h1
      exact agTo_eq g n (by omega)
theorem agTo_last (g : Nat → Nat) : ∀ n k, agTo g n < k → k ≤ n → 1 ≤ k → g k ≠ mnTo g n
  | 0, k, h1, h2, h3 => by omega
  | n + 1, k, h1, h2, h3 => by
    simp only [agTo] at h1
    simp only [mnTo]
    split at h1
    · omega
    · rename_i h
      rw [if_neg h]
      by_cases hk : k = n + 1
      · subst hk; omega
      · exact agTo_last g n k h1 (by omega) h3
theorem mnTo_lt (g : Nat → Nat) (n : Nat) : mnTo g (n + 1) = if n = 0 ∨ g (n + 1) < mnTo g n then g (n + 1) else mnTo g n := by
  simp only [mnTo]
  by_cases h0 : n = 0
  · simp [h0]
  · simp only [h0, false_or]
    split <;> split <;> omega

/-- How bad words are at least, those from each one on. -/
def bests (wd : Nat) : List ByteArray → List Nat
  | [] => [0]
  | x :: r => mnTo (fun k => bd (ln ((x :: r).take k)) wd (k == r.length + 1) + (bests wd r).getD (k - 1) 0) (r.length + 1) :: bests wd r
def best (wd : Nat) (ws : List ByteArray) : Nat := (bests wd ws).getD 0 0
theorem best_nil (wd : Nat) : best wd [] = 0 := rfl
theorem bests_drop (wd : Nat) : ∀ (ws : List ByteArray) (j : Nat), j ≤ ws.length → (bests wd ws).getD j 0 = best wd (ws.drop j)
  | _, 0, _ => by simp [best]
  | [], j + 1, h => by simp at h
  | x :: r, j + 1, h => by
    have := bests_drop wd r j (by simp at h; omega)
    simpa [bests] using this
/-- So many words in the first line. -/
def fOf (wd : Nat) (ws : List ByteArray) (k : Nat) : Nat := bd (ln (ws.take k)) wd (k == ws.length) + best wd (ws.drop k)
theorem best_eq (wd : Nat) {ws : List ByteArray} (h : ws ≠ []) : best wd ws = mnTo (fOf wd ws) ws.length := by
  cases ws with
  | nil => exact absurd rfl h
  | cons x r =>
    simp only [best, bests, List.getD_cons_zero, List.length_cons]
    refine mnTo_congr _ fun k h1 h2 => ?_
    obtain ⟨j, rfl⟩ : ∃ j, k = j + 1 := ⟨k - 1, by omega⟩
    simp only [fOf, List.length_cons, List.drop_succ_cons, Nat.add_sub_cancel]
    rw [bests_drop wd r j (by omega)]
theorem best_le {wd : Nat} (hw : wd ≤ 100) : ∀ (n : Nat) (ws : List ByteArray), ws.length ≤ n → Few ws → best wd ws ≤ 1300000
  | 0, ws, h, _ => by
    have : ws = [] := List.eq_nil_of_length_eq_zero (by omega)
    subst this
    simp [best_nil]
  | n + 1, ws, h, hf => by
    by_cases h0 : ws = []
    · subst h0; simp [best_nil]
    · have hp : 0 < ws.length := List.length_pos_iff.2 h0
      rw [best_eq wd h0]
      refine Nat.le_trans (mnTo_le _ _ ws.length hp (Nat.le_refl _)) ?_
      simp only [fOf, List.drop_length, best_nil]
      have := bd_le (last := (ws.length == ws.length)) (hf.take ws.length).ln hw
      omega
theorem fOf_le {wd : Nat} (hw : wd ≤ 100) {ws : List ByteArray} (hf : Few ws) (k : Nat) : fOf wd ws k ≤ 2600000 := by
  have h1 := best_le hw _ (ws.drop k) (Nat.le_refl _) (hf.drop k)
  have h2 := bd_le (last := (k == ws.length)) (hf.take k).ln hw
  simp only [fOf]; omega
/-- How many words stand in the first line. -/
def agF (wd : Nat) (ws : List ByteArray) : Nat := agTo (fOf wd ws) ws.length
theorem agF_pos (wd : Nat) {ws : List ByteArray} (h : ws ≠ []) : 1 ≤ agF wd ws ∧ agF wd ws ≤ ws.length := agTo_pos _ _ (List.length_pos_iff.2 h)
/-- How many words stand in each line. -/
def cuts (wd : Nat) (ws : List ByteArray) : List Nat :=
  if _h : ws = [] then [] else agF wd ws :: cuts wd (ws.drop (agF wd ws))
termination_by ws.length
decreasing_by
  have := agF_pos wd _h
  simp only [List.length_drop]
  omega
theorem cuts_nil (wd : Nat) : cuts wd [] = [] := by rw [cuts]; simp
theorem cuts_cons (wd : Nat) {ws : List ByteArray} (h : ws ≠ []) : cuts wd ws = agF wd ws :: cuts wd (ws.drop (agF wd ws)) := by
  rw [cuts, dif_neg h]

/-- Words in lines, so many in each. -/
def lnsOf : List ByteArray → List Nat → List ByteArray
  | _, [] => []
  | ws, k :: ks => jnS (ws.take k) :: lnsOf (ws.drop k) ks
/-- Numbers that may be words' lines: from 1 on, and the words together. -/
def share : List Int → Nat → Bool
  | [], n => n == 0
  | m :: ms, n => decide (1 ≤ m) && decide (m ≤ (n : Int)) && share ms (n - m.toNat)
/-- How bad words are, so many in each line. -/
def ragOf (wd : Nat) : List ByteArray → List Int → Nat
  | _, [] => 0
  | ws, m :: ms => bd (ln (ws.take m.toNat)) wd (m.toNat == ws.length) + ragOf wd (ws.drop m.toNat) ms
theorem share_cuts (wd : Nat) : ∀ (n : Nat) (ws : List ByteArray), ws.length ≤ n → share ((cuts wd ws).map Int.ofNat) ws.length = true
  | 0, ws, h => by
    have : ws = [] := List.eq_nil_of_length_eq_zero (by omega)
    subst this
    rw [cuts_nil]; rfl
  | n + 1, ws, h => by
    by_cases h0 : ws = []
    · subst h0; rw [cuts_nil]; rfl
    · have hp := agF_pos wd h0
      have ih := share_cuts wd n (ws.drop (agF wd ws)) (by simp only [List.length_drop]; omega)
      rw [cuts_cons wd h0]
      simp only [List.map_cons, share, Int.ofNat_eq_natCast, Int.toNat_natCast, List.length_drop, Bool.and_eq_true, decide_eq_true_eq] at ih ⊢
      exact ⟨⟨by omega, by omega⟩, ih⟩
end Go.Proofs.YtmbeamcjpidnjaaGreatDoor
namespace Go.Proofs.YtmbeamcjpidnjaaGreatDoor
open Go

theorem byteAt {s : ByteArray} {k : Nat} (h : k < s.size) : s[k] ∈ s.data.toList := by
  have hl : k < s.data.toList.length := by rw [← Lib.size_eq]; exact h
  exact List.getElem_mem hl
theorem okW_take {s : ByteArray} (h1 : 1 ≤ s.size) (h2 : s.size ≤ 20) (h : ∀ k (h : k < s.size), wByte s[k] = true) : okW s = true := by
  simp only [okW, h1, h2, decide_true, Bool.true_and, List.all_eq_true]
  intro b hb
  obtain ⟨i, hi, rfl⟩ := List.getElem_of_mem hb
  exact h i (by rw [Lib.size_eq]; exact hi)
theorem okW_not {s : ByteArray} {k : Nat} (h : k < s.size) (hb : wByte s[k] = false) : okW s = false := by
  cases e : okW s with
  | false => rfl
  | true =>
    simp only [okW, Bool.and_eq_true, List.all_eq_true] at e
    have := e.2 s[k] (byteAt h)
    rw [hb] at this
    cases this
theorem wByte_false {b : UInt8} (h : wByte b = false) : (b.toNat : Int) < 33 ∨ (¬ (b.toNat : Int) < 33 ∧ 126 < (b.toNat : Int)) := by
  simp [wByte] at h
  omega
theorem wByte_true {b : UInt8} (h : wByte b = true) : ¬ (b.toNat : Int) < 33 ∧ ¬ 126 < (b.toNat : Int) := by
  simp [wByte] at h
  omega

theorem wordsF_full {ws : List ByteArray} (h : 60 < ws.length) : wordsF ws = 3 := by rw [wordsF, if_pos h]
theorem wordsF_not {ws : List ByteArray} {k : Nat} (hl : ws.length ≤ 60) (hk : k < ws.length) (h : okW ws[k] = false) : wordsF ws = 5 := by
  rw [wordsF, if_neg (by omega), if_neg]
  intro e
  have := List.all_eq_true.1 e ws[k] (List.getElem_mem hk)
  rw [h] at this
  cases this
theorem wordsF_all {ws : List ByteArray} (hl : ws.length ≤ 60) (h : ∀ j (h : j < ws.length), okW ws[j] = true) : wordsF ws = 0 := by
  rw [wordsF, if_neg (by omega), if_pos]
  rw [List.all_eq_true]
  intro x hx
  obtain ⟨j, hj, rfl⟩ := List.getElem_of_mem hx
  exact h j hj
end Go.Proofs.YtmbeamcjpidnjaaGreatDoor
