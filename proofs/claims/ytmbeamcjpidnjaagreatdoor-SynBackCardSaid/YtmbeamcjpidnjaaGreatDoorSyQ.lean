/- What the program's reader of words goes by, plainly: kinds of words; a note's words. -/
import Derived.Test.YtmbeamcjpidnjaaGreatDoorSynPs
import Derived.Lib.Fields
import Derived.Lib.Join
namespace Go.Proofs.YtmbeamcjpidnjaaGreatDoor
open Go

abbrev neW (w : Wd) : Bool := !w.isEmpty
theorem fold_ne : ∀ (ws : List Wd) (t : Wd), ws.foldl addW t = (ws.filter neW).foldl addW t
  | [], _ => rfl
  | w :: r, t => by
    cases w with
    | nil =>
      have e : addW t [] = t := by simp [addW]
      rw [List.foldl_cons, e, fold_ne r t]; rfl
    | cons c z => exact fold_ne r _
theorem fields_go : ∀ (l cur h : Wd) (tl : List Wd), (∀ b ∈ l, Lib.isSp b = true → b = 32) → splB l = h :: tl → Lib.fieldsGo cur l = ((cur ++ h) :: tl).filter neW
  | [], cur, h, tl, _, e => by
    have e2 : [[]] = h :: tl := e
    simp only [List.cons.injEq] at e2
    obtain ⟨rfl, rfl⟩ := e2
    cases cur <;> simp [Lib.fieldsGo]
  | b :: l, cur, h, tl, hb, e => by
    have hl : ∀ x ∈ l, Lib.isSp x = true → x = 32 := fun x hx => hb x (by simp [hx])
    cases hs : splB l with
    | nil => exact absurd hs (splB_ne l)
    | cons h2 tl2 =>
      by_cases h32 : b = 32
      · subst h32
        rw [splB_blank, hs] at e
        simp only [List.cons.injEq] at e
        obtain ⟨rfl, rfl⟩ := e
        have ih := fields_go l [] h2 tl2 hl hs
        have hsp : Lib.isSp 32 = true := by decide
        cases cur with
        | nil => rw [Lib.fieldsGo_sp _ _ hsp, ih]; simp
        | cons a z => rw [Lib.fieldsGo_end _ _ _ hsp (by simp), ih]; simp
      · have hsp : Lib.isSp b = false := by
          cases hq : Lib.isSp b with
          | false => rfl
          | true => exact absurd (hb b (by simp) hq) h32
        rw [splB_other h32 hs] at e
        simp only [List.cons.injEq] at e
        obtain ⟨rfl, rfl⟩ := e
        rw [Lib.fieldsGo_more _ _ _ hsp, fields_go l (cur ++ [b]) h2 tl2 hl hs]
        simp
theorem fields_spl {l : Wd} (h : ∀ b ∈ l, Lib.isSp b = true → b = 32) : Lib.fields l = (splB l).filter neW := by
  cases hs : splB l with
  | nil => exact absurd hs (splB_ne l)
  | cons a tl => exact fields_go l [] a tl h hs
theorem fields_ne {l : Wd} (h : ∀ b ∈ l, Lib.isSp b = true → b = 32) : ∀ w ∈ Lib.fields l, w ≠ [] := by
  intro w hw
  rw [fields_spl h] at hw
  have := (List.mem_filter.1 hw).2
  rintro rfl
  simp at this
/-- A note's text is its words with blanks between. -/
theorem ntx_fields {l : Wd} (h : ∀ b ∈ l, Lib.isSp b = true → b = 32) : ntx (noteW l) = jb (Lib.fields l) := by
  have e : (noteW l).filter neW = Lib.fields l := by
    rw [fields_spl h]
    unfold noteW
    split
    · rename_i h0; subst h0; rfl
    · rfl
  rw [← ntx_jb (fields_ne h), ← e, ntx, ntx, fold_ne]
theorem jb_both : ∀ (a b : List Wd), a ≠ [] → b ≠ [] → jb (a ++ b) = jb a ++ 32 :: jb b
  | [w], b, _, hb => by
    cases b with
    | nil => exact absurd rfl hb
    | cons x y => simp [jb]
  | w :: u :: r, b, _, hb => by
    have ih := jb_both (u :: r) b (by simp) hb
    rw [List.cons_append] at ih
    simp only [List.cons_append, jb] at ih ⊢
    rw [ih]; simp
theorem jb_nil {a : List Wd} (h : ∀ w ∈ a, w ≠ []) : jb a = [] ↔ a = [] := by
  cases a with
  | nil => simp [jb]
  | cons w r =>
    have := h w (by simp)
    constructor
    · intro e
      have e2 : w ++ (match r with | [] => [] | _ :: _ => 32 :: jb r) = [] := e
      exact absurd (List.append_eq_nil_iff.1 e2).1 this
    · intro e; cases e
theorem addW_jb {a b : List Wd} (ha : ∀ w ∈ a, w ≠ []) (hb : ∀ w ∈ b, w ≠ []) : addW (jb a) (jb b) = jb (a ++ b) := by
  by_cases h1 : a = []
  · subst h1
    have : jb ([] : List Wd) = [] := rfl
    rw [this, addW, if_neg (by simp)]; rfl
  · by_cases h2 : b = []
    · subst h2
      have : jb ([] : List Wd) = [] := rfl
      rw [this, addW, if_neg (by simp)]; simp
    · have e1 : jb a ≠ [] := fun e => h1 ((jb_nil ha).1 e)
      have e2 : jb b ≠ [] := fun e => h2 ((jb_nil hb).1 e)
      rw [addW, if_pos ⟨e2, e1⟩, jb_both a b h1 h2]; simp
/-- As strings.Join has it. -/
theorem jb_join : ∀ ws : List Wd, Lib.join ws [32] = jb ws
  | [] => rfl
  | [w] => by rw [Lib.join_one]; simp [jb]
  | w :: u :: r => by
    have ih := jb_join (u :: r)
    rw [Lib.join_cons] at ih ⊢
    rw [jb, ← ih]
    simp [Lib.joinTail]
/-- The words of a note's word. -/
def fldW (w : Wd) : List Wd := Lib.fields (w.drop 1)
/-- A note: '#' and bytes that may stand there. -/
def isNt (w : Wd) : Prop := w.headD 0 = 35 ∧ ∀ b ∈ w, prB b = true
theorem pr_sp {b : UInt8} (h : prB b = true) (hs : Lib.isSp b = true) : b = 32 := by
  simp only [prB, Bool.and_eq_true, decide_eq_true_eq] at h
  simp only [Lib.isSp, Bool.or_eq_true, beq_iff_eq] at hs
  have h1 := h.1
  rcases hs with (((((e | e) | e) | e) | e) | e) <;> subst e <;> first | rfl | (exfalso; revert h1; decide)
theorem nt_sp {w : Wd} (h : isNt w) : ∀ b ∈ w.drop 1, Lib.isSp b = true → b = 32 := fun b hb hs => pr_sp (h.2 b (List.mem_of_mem_drop hb)) hs
theorem nt_tx {w : Wd} (h : isNt w) : noteTx w = jb (fldW w) := ntx_fields (nt_sp h)
theorem fld_ne {w : Wd} (h : isNt w) : ∀ x ∈ fldW w, x ≠ [] := fields_ne (nt_sp h)
theorem addN_true (acc : List (List Td)) (X t : Wd) : addN true (acc ++ [[ntT X]]) t = acc ++ [[ntT (addW X t)]] := by
  have e : lastTx (acc ++ [[ntT X]]) = X := by
    simp only [lastTx, List.getLast?_append, List.getLast?_singleton]
    rfl
  rw [addN, if_pos rfl, e, List.dropLast_concat]
theorem pg_more : ∀ (nts : List Wd) (acc : List (List Td)) (W : List Wd) (ts : List Wd) (r : Rp), (∀ w ∈ nts, isNt w) → (∀ x ∈ W, x ≠ []) → PG true (acc ++ [[ntT (jb (W ++ nts.flatMap fldW))]]) ts r → PG true (acc ++ [[ntT (jb W)]]) (nts ++ ts) r
  | [], acc, W, ts, r, _, _, h => by simpa using h
  | w :: z, acc, W, ts, r, hn, hW, h => by
    have hw := hn w (by simp)
    refine .note hw.1 ?_
    rw [addN_true, nt_tx hw, addW_jb hW (fld_ne hw)]
    refine pg_more z acc (W ++ fldW w) ts r (fun x hx => hn x (by simp [hx])) ?_ ?_
    · intro x hx
      rcases List.mem_append.1 hx with hx | hx
      · exact hW x hx
      · exact fld_ne hw x hx
    · rw [List.flatMap_cons, ← List.append_assoc] at h; exact h
/-- Notes that follow one another, all at once. -/
theorem pg_notes {nts : List Wd} {acc : List (List Td)} {ts : List Wd} {r : Rp} (h0 : nts ≠ []) (hn : ∀ w ∈ nts, isNt w) (h : PG true (acc ++ [[ntT (jb (nts.flatMap fldW))]]) ts r) : PG false acc (nts ++ ts) r := by
  cases nts with
  | nil => exact absurd rfl h0
  | cons w z =>
    have hw := hn w (by simp)
    refine .note hw.1 ?_
    rw [addN, if_neg (by simp), nt_tx hw]
    refine pg_more z acc (fldW w) ts r (fun x hx => hn x (by simp [hx])) (fld_ne hw) ?_
    rw [List.flatMap_cons] at h; exact h
/-- Kinds of words. -/
theorem tok_all {p : UInt8 → Bool} {c : UInt8} {r : List UInt8} (hc : p c = true) (hl : (r.takeWhile p).length + 1 = (c :: r).length) : ∀ b ∈ c :: r, p b = true := by
  have hall : r.takeWhile p = r := by
    have h1 := tw_is (p := p) r
    rw [show (r.takeWhile p).length = r.length by simp only [List.length_cons] at hl; omega, List.take_length] at h1
    exact h1.symm
  have hta : ∀ (l : List UInt8) x, x ∈ l.takeWhile p → p x = true := by
    intro l
    induction l with
    | nil => intro x hx; cases hx
    | cons a l ih =>
      intro x hx
      rw [List.takeWhile_cons] at hx
      by_cases ha : p a = true
      · rw [if_pos ha] at hx
        rcases List.mem_cons.1 hx with rfl | hx
        · exact ha
        · exact ih x hx
      · rw [if_neg ha] at hx; cases hx
  intro b hb
  rcases List.mem_cons.1 hb with rfl | hb
  · exact hc
  · rw [← hall] at hb; exact hta r b hb
theorem tok_ne {w : Wd} (h : isTok w) : w ≠ [] := by
  obtain ⟨c, r, rfl, _⟩ := h
  simp
/-- A name is what begins with a letter and is not 'let'. -/
theorem tok_name {w : Wd} (h : isTok w) : nmW w = (decide (w ≠ letW) && lowB (w.headD 0)) := by
  obtain ⟨c, r, rfl, _, ho, hl, _⟩ := h
  have hb : btL (wbS (c :: r)) = c :: r := rfl
  have hsz : (wbS (c :: r)).size = (c :: r).length := by rw [← btL_len, hb]
  unfold nmW nameT
  rw [hb, hsz]
  show _ = (decide ((c :: r) ≠ letW) && lowB c)
  cases hc : lowB c with
  | false => simp [hc]
  | true =>
    simp only [tkOk, hc, if_true, decide_eq_true_eq] at ho
    simp only [tkLen, hc, if_true] at hl
    have h1 := tok_all hc hl
    have h2 : (c :: r).all lowB = true := List.all_eq_true.2 h1
    rw [h2]
    have h3 : (c :: r).length ≤ 8 := by omega
    simp only [List.length_cons] at h3 ⊢
    simp
    omega
theorem tok_fig {w : Wd} (h : isTok w) (hn : numW w = true) : (∀ b ∈ w, figB b = true) ∧ w.length ≤ 6 := by
  obtain ⟨c, r, rfl, _, ho, hl, _⟩ := h
  have hf : figB c = true := hn
  have hlow : lowB c = false := fig_low hf
  simp only [tkOk, hlow, hf, if_true, Bool.false_eq_true, if_false, Bool.and_eq_true, decide_eq_true_eq] at ho
  simp only [tkLen, hlow, hf, if_true, Bool.false_eq_true, if_false] at hl
  exact ⟨tok_all hf hl, by omega⟩
theorem tok_nt {w : Wd} (h : isTok w) (hn : w.headD 0 = 35) : isNt w := by
  obtain ⟨c, r, rfl, _, ho, hl, _⟩ := h
  have hc : c = 35 := hn
  subst hc
  have h1 : lowB 35 = false := by decide
  have h2 : figB 35 = false := by decide
  have h3 : ((35 : UInt8) == 35) = true := by decide
  simp only [tkOk, h1, h2, h3, if_true, Bool.false_eq_true, if_false] at ho
  simp only [tkLen, h1, h2, h3, if_true, Bool.false_eq_true, if_false] at hl
  have hall : r.takeWhile nlB = r := by
    have h4 := tw_is (p := nlB) r
    rw [show (r.takeWhile nlB).length = r.length by simp only [List.length_cons] at hl; omega, List.take_length] at h4
    exact h4.symm
  rw [hall, List.all_eq_true] at ho
  refine ⟨rfl, fun b hb => ?_⟩
  rcases List.mem_cons.1 hb with rfl | hb
  · decide
  · exact ho b hb
end Go.Proofs.YtmbeamcjpidnjaaGreatDoor
