/- Some texts as one: LayP, LayQ, LayR. -/
import Derived.Test.YtmbeamcjpidnjaaGreatDoorSynPs
import Derived.Test.YtmbeamcjpidnjaaGreatDoorDocFs
import Derived.Test.YtmbeamcjpidnjaaGreatDoorTrePs
namespace Go.Proofs.YtmbeamcjpidnjaaGreatDoor
open Go

abbrev wdD (s : List UInt8) : Tr := .leaf ⟨1, wbS s, 0⟩
abbrev blD : Tr := .leaf ⟨2, ⟨#[]⟩, 0⟩
abbrev sfD : Tr := .leaf ⟨3, ⟨#[]⟩, 0⟩
abbrev twD (a b : Tr) : Tr := .two ⟨6, ⟨#[]⟩, 0⟩ a b
abbrev dpD (a : Tr) : Tr := .one ⟨7, ⟨#[]⟩, 2⟩ a
abbrev grD (a : Tr) : Tr := .one ⟨8, ⟨#[]⟩, 0⟩ a
/-- In brackets, where it must be. -/
def inD (l : Nat) (x : Td) (d : Tr) : Tr := if prc x < l then twD (wdD [40]) (twD d (wdD [41])) else d
/-- Kids, with commas between. -/
def kdD : List (Td × Tr) → Tr
  | [] => wdD []
  | p :: r => match r with
    | [] => p.2
    | _ :: _ => twD (twD p.2 (wdD [44])) (twD blD (kdD r))
def tw2 (f : Td → Tr → Td → Tr → Tr) : List (Td × Tr) → Tr
  | [a, b] => f a.1 a.2 b.1 b.2
  | _ => wdD []
def manyD (op cl : List UInt8) (ks : List (Td × Tr)) : Tr := if ks.length = 0 then wdD (op ++ cl) else grD (twD (wdD op) (twD (dpD (twD sfD (kdD ks))) (twD sfD (wdD cl))))
/-- The doc of an expression. -/
def dcOf (x : Td) (ks : List (Td × Tr)) : Tr :=
  if x.op = 1 then wdD (decL x.n.toNat)
  else if x.op = 2 then wdD (btL x.tx)
  else if x.op = 3 then manyD (btL x.tx ++ [40]) [41] ks
  else if x.op = 4 then manyD [91] [93] ks
  else if x.op = 5 then tw2 (fun x a y b => grD (twD (inD 0 x a) (dpD (twD blD (twD (wdD [43, 32]) (inD 1 y b)))))) ks
  else tw2 (fun x a y b => grD (twD (inD 1 x a) (dpD (twD blD (twD (wdD [42, 32]) (inD 2 y b)))))) ks
def Fo.dcs : Fo → List (Td × Tr)
  | .nil => []
  | .cons x k n => (x, dcOf x k.dcs) :: n.dcs
theorem dcs_len : ∀ F : Fo, F.dcs.length = F.len
  | .nil => rfl
  | .cons _ _ n => by simp [Fo.dcs, Fo.len, dcs_len n]
/-- The doc of a statement. -/
def stD (x : Td) (d : Tr) : Tr :=
  if x.op = 7 then grD (twD (wdD ([108, 101, 116, 32] ++ btL x.tx ++ [32, 61])) (dpD (twD blD (twD d (wdD [59]))))) else twD d (wdD [59])

/- What a doc is in one line. -/
theorem fl_wd (s : List UInt8) : (wdD s).flat = some s := rfl
theorem fl_tw {a b : Tr} {s t : List UInt8} (ha : a.flat = some s) (hb : b.flat = some t) : (twD a b).flat = some (s ++ t) := by
  simp only [Tr.flat, if_true, ha, hb]
theorem fl_dp (a : Tr) : (dpD a).flat = a.flat := rfl
theorem fl_gr (a : Tr) : (grD a).flat = a.flat := rfl
theorem fl_bl : blD.flat = some [32] := rfl
theorem fl_sf : sfD.flat = some [] := rfl
def Mt (p : Td × Tr) (t : Tn) : Prop := p.1 = t.x ∧ p.2.flat = some t.tx
theorem fl_in {p : Td × Tr} {t : Tn} (h : Mt p t) (l : Nat) : (inD l p.1 p.2).flat = some (brx l t) := by
  unfold inD brx
  rw [h.1]
  split
  · rw [fl_tw (fl_wd _) (fl_tw h.2 (fl_wd _))]; rfl
  · exact h.2
inductive Mts : List (Td × Tr) → List Tn → Prop where
  | nil : Mts [] []
  | cons {p t ps ts} : Mt p t → Mts ps ts → Mts (p :: ps) (t :: ts)
theorem fl_kd : ∀ {ps : List (Td × Tr)} {ts : List Tn}, Mts ps ts → ps ≠ [] → (kdD ps).flat = some (cmx ts)
  | _, _, .cons h .nil, _ => by simp only [kdD, cmx, List.append_nil]; exact h.2
  | _, _, .cons (ps := p :: ps) (ts := t :: ts) h (.cons h2 h3), _ => by
    have ih := fl_kd (Mts.cons h2 h3) (by simp)
    show (twD (twD _ (wdD [44])) (twD blD (kdD (p :: ps)))).flat = _
    rw [fl_tw (fl_tw h.2 (fl_wd _)) (fl_tw fl_bl ih)]
    simp [cmx]
theorem mts_len {ps : List (Td × Tr)} {ts : List Tn} (h : Mts ps ts) : ps.length = ts.length := by
  induction h with
  | nil => rfl
  | cons _ _ ih => simp [ih]
theorem fl_many {ps : List (Td × Tr)} {ts : List Tn} (h : Mts ps ts) (op cl : List UInt8) : (manyD op cl ps).flat = some (op ++ cmx ts ++ cl) := by
  unfold manyD
  split
  · rename_i h0
    cases h with
    | nil => rw [fl_wd]; simp [cmx]
    | cons => simp at h0
  · rename_i h0
    have hne : ps ≠ [] := fun e => h0 (by rw [e]; rfl)
    rw [fl_gr, fl_tw (fl_wd _) (fl_tw (by rw [fl_dp]; exact fl_tw fl_sf (fl_kd h hne)) (fl_tw fl_sf (fl_wd _)))]
    simp
theorem fl_of {x : Td} {ps : List (Td × Tr)} {ts : List Tn} (h : Mts ps ts) (hx : exN x) (hk : ps.length = kdT x) : (dcOf x ps).flat = some (txOf x ts) := by
  have two : kdT x = 2 → ∃ a b c d, ps = [a, b] ∧ ts = [c, d] ∧ Mt a c ∧ Mt b d := fun e => by
    rw [e] at hk
    cases h with
    | nil => simp at hk
    | cons h1 h2 => cases h2 with
      | nil => simp at hk
      | cons h3 h4 => cases h4 with
        | nil => exact ⟨_, _, _, _, rfl, rfl, h1, h3⟩
        | cons => simp at hk
  rcases exN_cases hx with ⟨ho, _⟩ | ⟨ho, _⟩ | ⟨ho, _⟩ | ⟨ho, _⟩ | ⟨ho, _, _, h2⟩ | ⟨ho, _, _, h2⟩
  · rw [show dcOf x ps = wdD (decL x.n.toNat) by simp [dcOf, ho], show txOf x ts = decL x.n.toNat by simp [txOf, ho]]; rfl
  · rw [show dcOf x ps = wdD (btL x.tx) by simp [dcOf, ho], show txOf x ts = btL x.tx by simp [txOf, ho]]; rfl
  · rw [show dcOf x ps = manyD (btL x.tx ++ [40]) [41] ps by simp [dcOf, ho], show txOf x ts = btL x.tx ++ 40 :: (cmx ts ++ [41]) by simp [txOf, ho], fl_many h]; simp
  · rw [show dcOf x ps = manyD [91] [93] ps by simp [dcOf, ho], show txOf x ts = 91 :: (cmx ts ++ [93]) by simp [txOf, ho], fl_many h]; simp
  · obtain ⟨a, b, c, d, rfl, rfl, h3, h4⟩ := two h2
    rw [show dcOf x [a, b] = grD (twD (inD 0 a.1 a.2) (dpD (twD blD (twD (wdD [43, 32]) (inD 1 b.1 b.2))))) by simp [dcOf, tw2, ho], show txOf x [c, d] = brx 0 c ++ 32 :: 43 :: 32 :: brx 1 d by simp [txOf, two2, ho]]
    rw [fl_gr, fl_tw (fl_in h3 0) (by rw [fl_dp]; exact fl_tw fl_bl (fl_tw (fl_wd _) (fl_in h4 1)))]
    rfl
  · obtain ⟨a, b, c, d, rfl, rfl, h3, h4⟩ := two h2
    rw [show dcOf x [a, b] = grD (twD (inD 1 a.1 a.2) (dpD (twD blD (twD (wdD [42, 32]) (inD 2 b.1 b.2))))) by simp [dcOf, tw2, ho], show txOf x [c, d] = brx 1 c ++ 32 :: 42 :: 32 :: brx 2 d by simp [txOf, two2, ho]]
    rw [fl_gr, fl_tw (fl_in h3 1) (by rw [fl_dp]; exact fl_tw fl_bl (fl_tw (fl_wd _) (fl_in h4 2)))]
    rfl
theorem dcs_flat : ∀ F : Fo, F.ok → F.exs → Mts F.dcs F.trs
  | .nil, _, _ => .nil
  | .cons x k n, hok, hex => by
    have h1 := dcs_flat k hok.2.1 fun y hy => hex y (by simp [Fo.nodes, hy])
    have h2 := dcs_flat n hok.2.2 fun y hy => hex y (by simp [Fo.nodes, hy])
    exact .cons ⟨rfl, fl_of h1 (hex x (by simp [Fo.nodes])) (by rw [dcs_len]; exact hok.1)⟩ h2

/- Whatever way it is laid, without blanks and new lines it is its line without them. -/
def dnB (c : UInt8) : Bool := c != 32 && c != 10
def Tr.noE : Tr → Prop
  | .leaf x => x.op ≠ 4
  | .one _ a => a.noE
  | .two x a b => x.op = 6 ∧ a.noE ∧ b.noE
theorem lay_dense : ∀ (t : Tr) (s : List UInt8), t.noE → t.Wf → t.flat = some s → ∀ (deep : Nat) (ws ws' : List Int) (r : List UInt8), t.lay deep ws = .ok (r, ws') → r.filter dnB = s.filter dnB
  | .leaf x, s, hn, hw, hf, deep, ws, ws', r, h => by
    simp only [Tr.flat] at hf
    simp only [Tr.lay] at h
    have hrep : (10 :: List.replicate deep (32 : UInt8)).filter dnB = [] := by
      rw [List.filter_eq_nil_iff]
      intro c hc
      rcases List.mem_cons.1 hc with rfl | hc
      · decide
      · rw [List.eq_of_mem_replicate hc]; decide
    split at hf
    · rename_i h1
      rw [if_pos h1] at h
      cases hf; cases h; rfl
    · rename_i h1
      rw [if_neg h1] at h
      split at hf
      · rename_i h2
        rw [if_neg (by omega)] at h
        cases hf; cases h
        rw [hrep]; rfl
      · split at hf
        · cases hf
        · cases hf
          split at h
          · cases h; rfl
          · cases h
            rw [hrep]; rfl
  | .one x a, s, hn, hw, hf, deep, ws, ws', r, h => by
    have hf' : a.flat = some s := hf
    simp only [Tr.lay] at h
    split at h
    · exact lay_dense a s hn hw.2.2 hf' _ _ _ _ h
    · cases ws with
      | nil => cases h
      | cons c ws =>
        simp only at h
        split at h
        · exact lay_dense a s hn hw.2.2 hf' _ _ _ _ h
        · rw [hf'] at h
          cases h; rfl
  | .two x a b, s, hn, hw, hf, deep, ws, ws', r, h => by
    obtain ⟨h6, ha, hb⟩ := hn
    simp only [Tr.flat, if_pos h6] at hf
    simp only [Tr.lay, if_pos h6] at h
    cases ea : a.flat with
    | none => rw [ea] at hf; cases hf
    | some s1 =>
      cases eb : b.flat with
      | none => rw [ea, eb] at hf; cases hf
      | some s2 =>
        rw [ea, eb] at hf
        cases hf
        cases la : a.lay deep ws with
        | error e => rw [la] at h; cases h
        | ok p =>
          obtain ⟨r1, ws1⟩ := p
          rw [la] at h
          simp only at h
          cases lb : b.lay deep ws1 with
          | error e => rw [lb] at h; cases h
          | ok p2 =>
            obtain ⟨r2, ws2⟩ := p2
            rw [lb] at h
            cases h
            rw [List.filter_append, List.filter_append, lay_dense a s1 ha hw.2.2.1 ea _ _ _ _ la, lay_dense b s2 hb hw.2.2.2 eb _ _ _ _ lb]
end Go.Proofs.YtmbeamcjpidnjaaGreatDoor
namespace Go.Proofs.YtmbeamcjpidnjaaGreatDoor
open Go

theorem low_word {c : UInt8} (h : lowB c = true) : wordB c = true := by
  simp only [lowB, Bool.and_eq_true, decide_eq_true_eq] at h
  simp only [wordB, Bool.and_eq_true, decide_eq_true_eq]
  omega
theorem fig_word {c : UInt8} (h : figB c = true) : wordB c = true := by
  simp only [figB, Bool.and_eq_true, decide_eq_true_eq] at h
  simp only [wordB, Bool.and_eq_true, decide_eq_true_eq]
  omega
theorem wf_wd {s : List UInt8} (h1 : 1 ≤ s.length) (h2 : s.length ≤ 20) (h3 : ∀ c ∈ s, wordB c = true) : (wdD s).Wf := by
  have e : (wbS s).size = s.length := by rw [← btL_len]; rfl
  have hw : isW (wbS s) = true := by
    simp only [isW, Bool.and_eq_true, decide_eq_true_eq, List.all_eq_true]
    exact ⟨⟨by omega, by omega⟩, h3⟩
  refine ⟨?_, rfl⟩
  simp only [nodeF, hw]
  rfl
theorem wf_bl : blD.Wf := ⟨rfl, rfl⟩
theorem wf_sf : sfD.Wf := ⟨rfl, rfl⟩
theorem wf_tw {a b : Tr} (ha : a.Wf) (hb : b.Wf) : (twD a b).Wf := ⟨rfl, rfl, ha, hb⟩
theorem wf_dp {a : Tr} (ha : a.Wf) : (dpD a).Wf := ⟨rfl, rfl, ha⟩
theorem wf_gr {a : Tr} (ha : a.Wf) : (grD a).Wf := ⟨rfl, rfl, ha⟩
theorem wf_in {l : Nat} {x : Td} {d : Tr} (h : d.Wf) : (inD l x d).Wf := by
  unfold inD
  split
  · exact wf_tw (wf_wd (by decide) (by decide) (by decide)) (wf_tw h (wf_wd (by decide) (by decide) (by decide)))
  · exact h
theorem wf_kd : ∀ ps : List (Td × Tr), (∀ p ∈ ps, p.2.Wf) → ps ≠ [] → (kdD ps).Wf
  | [p], h, _ => h p (by simp)
  | p :: q :: r, h, _ => wf_tw (wf_tw (h p (by simp)) (wf_wd (by decide) (by decide) (by decide))) (wf_tw wf_bl (wf_kd (q :: r) (fun z hz => h z (by simp at hz ⊢; right; exact hz)) (by simp)))
theorem wf_many {op cl : List UInt8} {ps : List (Td × Tr)} (h : ∀ p ∈ ps, p.2.Wf) (h1 : 1 ≤ op.length) (h2 : op.length + cl.length ≤ 20) (h3 : ∀ c ∈ op, wordB c = true) (h4 : 1 ≤ cl.length) (h5 : ∀ c ∈ cl, wordB c = true) : (manyD op cl ps).Wf := by
  unfold manyD
  split
  · refine wf_wd (by simp; omega) (by simp; omega) fun c hc => ?_
    rcases List.mem_append.1 hc with hc | hc
    · exact h3 c hc
    · exact h5 c hc
  · rename_i h0
    exact wf_gr (wf_tw (wf_wd h1 (by omega) h3) (wf_tw (wf_dp (wf_tw wf_sf (wf_kd ps h fun e => h0 (by rw [e]; rfl)))) (wf_tw wf_sf (wf_wd h4 (by omega) h5))))
theorem name_word {s : ByteArray} (h : nameT s = true) : 1 ≤ (btL s).length ∧ (btL s).length ≤ 8 ∧ ∀ c ∈ btL s, wordB c = true := by
  have h8 := name_len h
  simp only [nameT, Bool.and_eq_true, decide_eq_true_eq, List.all_eq_true] at h
  exact ⟨by rw [btL_len]; exact h.1.1.1, h8, fun c hc => low_word (h.2 c hc)⟩
theorem wf_of {x : Td} {ps : List (Td × Tr)} (h : ∀ p ∈ ps, p.2.Wf) (hx : exN x) (hk : ps.length = kdT x) : (dcOf x ps).Wf := by
  have two : kdT x = 2 → ∃ a b, ps = [a, b] ∧ a.2.Wf ∧ b.2.Wf := fun e => by
    rw [e] at hk
    match ps, hk with
    | [a, b], _ => exact ⟨a, b, rfl, h a (by simp), h b (by simp)⟩
  rcases exN_cases hx with ⟨ho, _, h0, h9, _⟩ | ⟨ho, hn, _⟩ | ⟨ho, hn, _⟩ | ⟨ho, _⟩ | ⟨ho, _, _, h2⟩ | ⟨ho, _, _, h2⟩
  · rw [show dcOf x ps = wdD (decL x.n.toNat) by simp [dcOf, ho]]
    have h1 := decL_len 5 x.n.toNat (by omega)
    have h2 := List.length_pos_iff.2 (decL_ne x.n.toNat)
    exact wf_wd (by omega) (by omega) fun c hc => fig_word (decL_fig _ c hc)
  · obtain ⟨n1, n2, n3⟩ := name_word hn
    rw [show dcOf x ps = wdD (btL x.tx) by simp [dcOf, ho]]
    exact wf_wd n1 (by omega) n3
  · obtain ⟨n1, n2, n3⟩ := name_word hn
    rw [show dcOf x ps = manyD (btL x.tx ++ [40]) [41] ps by simp [dcOf, ho]]
    refine wf_many h (by simp) (by rw [List.length_append]; simp only [List.length_cons, List.length_nil]; omega) (fun c hc => ?_) (by decide) (by decide)
    rcases List.mem_append.1 hc with hc | hc
    · exact n3 c hc
    · simp at hc; subst hc; decide
  · rw [show dcOf x ps = manyD [91] [93] ps by simp [dcOf, ho]]
    exact wf_many h (by decide) (by decide) (by decide) (by decide) (by decide)
  · obtain ⟨a, b, rfl, h3, h4⟩ := two h2
    rw [show dcOf x [a, b] = grD (twD (inD 0 a.1 a.2) (dpD (twD blD (twD (wdD [43, 32]) (inD 1 b.1 b.2))))) by simp [dcOf, tw2, ho]]
    exact wf_gr (wf_tw (wf_in h3) (wf_dp (wf_tw wf_bl (wf_tw (wf_wd (by decide) (by decide) (by decide)) (wf_in h4)))))
  · obtain ⟨a, b, rfl, h3, h4⟩ := two h2
    rw [show dcOf x [a, b] = grD (twD (inD 1 a.1 a.2) (dpD (twD blD (twD (wdD [42, 32]) (inD 2 b.1 b.2))))) by simp [dcOf, tw2, ho]]
    exact wf_gr (wf_tw (wf_in h3) (wf_dp (wf_tw wf_bl (wf_tw (wf_wd (by decide) (by decide) (by decide)) (wf_in h4)))))
theorem dcs_wf : ∀ F : Fo, F.ok → F.exs → ∀ p ∈ F.dcs, p.2.Wf
  | .nil, _, _, p, hp => by cases hp
  | .cons x k n, hok, hex, p, hp => by
    have h1 := dcs_wf k hok.2.1 fun y hy => hex y (by simp [Fo.nodes, hy])
    have h2 := dcs_wf n hok.2.2 fun y hy => hex y (by simp [Fo.nodes, hy])
    rcases List.mem_cons.1 hp with rfl | hp
    · exact wf_of h1 (hex x (by simp [Fo.nodes])) (by rw [dcs_len]; exact hok.1)
    · exact h2 p hp

/- No choice between two, no new line of its own. -/
theorem ne_in {l : Nat} {x : Td} {d : Tr} (h : d.noE) : (inD l x d).noE := by
  unfold inD
  split
  · exact ⟨rfl, by show (1 : Int) ≠ 4; decide, rfl, h, by show (1 : Int) ≠ 4; decide⟩
  · exact h
theorem ne_kd : ∀ ps : List (Td × Tr), (∀ p ∈ ps, p.2.noE) → (kdD ps).noE
  | [], _ => by show (1 : Int) ≠ 4; decide
  | [p], h => h p (by simp)
  | p :: q :: r, h => ⟨rfl, ⟨rfl, h p (by simp), by show (1 : Int) ≠ 4; decide⟩, rfl, by show (2 : Int) ≠ 4; decide, ne_kd (q :: r) (fun z hz => h z (by simp at hz ⊢; right; exact hz))⟩
theorem ne_many {op cl : List UInt8} {ps : List (Td × Tr)} (h : ∀ p ∈ ps, p.2.noE) : (manyD op cl ps).noE := by
  unfold manyD
  split
  · show (1 : Int) ≠ 4; decide
  · exact ⟨rfl, by show (1 : Int) ≠ 4; decide, rfl, ⟨rfl, by show (3 : Int) ≠ 4; decide, ne_kd ps h⟩, rfl, by show (3 : Int) ≠ 4; decide, by show (1 : Int) ≠ 4; decide⟩
theorem ne_tw2 {f : Td → Tr → Td → Tr → Tr} {ps : List (Td × Tr)} (h : ∀ p ∈ ps, p.2.noE) (hf : ∀ x a y b, a.noE → b.noE → (f x a y b).noE) : (tw2 f ps).noE := by
  unfold tw2
  split
  · exact hf _ _ _ _ (h _ (by simp)) (h _ (by simp))
  · show (1 : Int) ≠ 4; decide
theorem ne_of {x : Td} {ps : List (Td × Tr)} (h : ∀ p ∈ ps, p.2.noE) : (dcOf x ps).noE := by
  have h1 : (1 : Int) ≠ 4 := by decide
  have h2 : (2 : Int) ≠ 4 := by decide
  unfold dcOf
  split
  · exact h1
  · split
    · exact h1
    · split
      · exact ne_many h
      · split
        · exact ne_many h
        · split
          · exact ne_tw2 h fun x a y b ha hb => ⟨rfl, ne_in ha, rfl, h2, rfl, h1, ne_in hb⟩
          · exact ne_tw2 h fun x a y b ha hb => ⟨rfl, ne_in ha, rfl, h2, rfl, h1, ne_in hb⟩
theorem dcs_noE : ∀ F : Fo, ∀ p ∈ F.dcs, p.2.noE
  | .nil, p, hp => by cases hp
  | .cons x k n, p, hp => by
    rcases List.mem_cons.1 hp with rfl | hp
    · exact ne_of (dcs_noE k)
    · exact dcs_noE n p hp

/- How many nodes. -/
def sumD (ps : List (Td × Tr)) : Nat := (ps.map fun p => p.2.nodes.length + 5).sum
theorem sumD_cons (p : Td × Tr) (r : List (Td × Tr)) : sumD (p :: r) = p.2.nodes.length + 5 + sumD r := by simp [sumD]
theorem nl_in (l : Nat) (x : Td) (d : Tr) : (inD l x d).nodes.length ≤ d.nodes.length + 4 := by
  unfold inD
  split
  · simp only [Tr.nodes, List.length_cons, List.length_append, List.length_nil]; omega
  · omega
theorem nl_kd : ∀ ps : List (Td × Tr), (kdD ps).nodes.length ≤ sumD ps + 1
  | [] => by simp [kdD, sumD, Tr.nodes]
  | [p] => by simp only [kdD, sumD_cons]; omega
  | p :: q :: r => by
    have ih := nl_kd (q :: r)
    show (twD (twD p.2 (wdD [44])) (twD blD (kdD (q :: r)))).nodes.length ≤ _
    rw [sumD_cons]
    simp only [Tr.nodes, List.length_cons, List.length_append, List.length_nil]
    omega
theorem nl_of {x : Td} {ps : List (Td × Tr)} : (dcOf x ps).nodes.length ≤ 15 + sumD ps := by
  have hm : ∀ op cl : List UInt8, (manyD op cl ps).nodes.length ≤ 15 + sumD ps := fun op cl => by
    have hk := nl_kd ps
    unfold manyD
    split
    · simp only [Tr.nodes, List.length_cons, List.length_nil]; omega
    · simp only [Tr.nodes, List.length_cons, List.length_append, List.length_nil]
      omega
  have ht : ∀ f : Td → Tr → Td → Tr → Tr, (∀ x a y b, (f x a y b).nodes.length ≤ 15 + a.nodes.length + b.nodes.length) → (tw2 f ps).nodes.length ≤ 15 + sumD ps := fun f hf => by
    unfold tw2
    split
    · rename_i a b
      have := hf a.1 a.2 b.1 b.2
      rw [sumD_cons, sumD_cons]
      omega
    · simp only [Tr.nodes, List.length_cons, List.length_nil]; omega
  have hs : ∀ (l m : Nat) (sg : List UInt8) (x : Td) (a : Tr) (y : Td) (b : Tr), (grD (twD (inD l x a) (dpD (twD blD (twD (wdD sg) (inD m y b)))))).nodes.length ≤ 15 + a.nodes.length + b.nodes.length := fun l m sg x a y b => by
    have h1 := nl_in l x a
    have h2 := nl_in m y b
    simp only [Tr.nodes, List.length_cons, List.length_append, List.length_nil]
    omega
  unfold dcOf
  split
  · simp only [Tr.nodes, List.length_cons, List.length_nil]; omega
  · split
    · simp only [Tr.nodes, List.length_cons, List.length_nil]; omega
    · split
      · exact hm _ _
      · split
        · exact hm _ _
        · split
          · exact ht _ (hs 0 1 [43, 32])
          · exact ht _ (hs 1 2 [42, 32])
theorem dcs_nl : ∀ F : Fo, sumD F.dcs ≤ 20 * F.nodes.length
  | .nil => by simp [Fo.dcs, sumD]
  | .cons x k n => by
    have h1 := dcs_nl k
    have h2 := dcs_nl n
    have h3 := nl_of (x := x) (ps := k.dcs)
    rw [Fo.dcs, sumD_cons, Fo.nodes]
    simp only [List.length_cons, List.length_append]
    omega
end Go.Proofs.YtmbeamcjpidnjaaGreatDoor
namespace Go.Proofs.YtmbeamcjpidnjaaGreatDoor
open Go

def hdD (ps : List (Td × Tr)) : Tr := match ps with
  | p :: _ => p.2
  | [] => wdD []
/-- The doc of a statement. -/
def stDoc (t : List Td) : Tr := match bldF t with
  | .nil => wdD []
  | .cons x k _ => stD x (hdD k.dcs)
theorem stDoc_eq {x : Td} {F : Fo} (h : F.ok) (hl : F.len = kdT x) : stDoc (x :: F.nodes) = stD x (hdD F.dcs) := by
  rw [stDoc, st_bld h hl]
structure DocOk (t : List Td) : Prop where
  f : (stDoc t).flat = some (stTx t)
  w : (stDoc t).Wf
  e : (stDoc t).noE
  n : (stDoc t).nodes.length ≤ 900
theorem one_kid {F : Fo} (hl : F.len = 1) : ∃ y k, F = .cons y k .nil := by
  cases F with
  | nil => cases hl
  | cons y k n => cases n with
    | nil => exact ⟨y, k, rfl⟩
    | cons _ _ _ => simp [Fo.len] at hl
/-- What a statement that is no note is. -/
theorem st_split {t : List Td} (h : treeF t = 0) (h9 : opT t ≠ 9) : ∃ (x y : Td) (k : Fo), t = x :: (Fo.cons y k .nil).nodes ∧ (Fo.cons y k .nil).ok ∧ (Fo.cons y k .nil).exs ∧ (Fo.cons y k .nil).len = kdT x ∧ ((x.op = 7 ∧ nameT x.tx = true ∧ x.n = 0) ∨ (x.op = 8 ∧ x.tx = ⟨#[]⟩ ∧ x.n = 0)) := by
  rcases st_cases h with ⟨x, rfl, ho, _⟩ | ⟨x, F, rfl, hok, hex, hl, hx⟩
  · exact absurd ho h9
  · obtain ⟨y, k, rfl⟩ := one_kid hl
    refine ⟨x, y, k, rfl, hok, hex, ?_, hx⟩
    rw [hl]
    unfold kdT
    rcases hx with ⟨ho, _⟩ | ⟨ho, _⟩ <;> rw [ho] <;> rfl
theorem doc_ok {t : List Td} (h : treeF t = 0) (h9 : opT t ≠ 9) : DocOk t := by
  have hl40 := (treeF_zero h).1
  obtain ⟨x, y, k, rfl, hok, hex, hk, hx⟩ := st_split h h9
  have hm := dcs_flat _ hok hex
  have hw := dcs_wf _ hok hex
  have he := dcs_noE (.cons y k .nil)
  have hn := dcs_nl (.cons y k .nil)
  have e0 : stDoc (x :: (Fo.cons y k .nil).nodes) = stD x (dcOf y k.dcs) := stDoc_eq hok hk
  have e1 : stTx (x :: (Fo.cons y k .nil).nodes) = stX x (Fo.cons y k .nil).trs := (st_eq hok hk).1
  have hf : (dcOf y k.dcs).flat = some (mkTn y k.trs).tx := by
    cases hm with
    | cons h1 _ => exact h1.2
  have hw1 : (dcOf y k.dcs).Wf := hw (y, dcOf y k.dcs) (by simp [Fo.dcs])
  have he1 : (dcOf y k.dcs).noE := he (y, dcOf y k.dcs) (by simp [Fo.dcs])
  have hn1 : (dcOf y k.dcs).nodes.length + 5 ≤ 20 * (Fo.cons y k .nil).nodes.length := by
    rw [Fo.dcs, sumD_cons] at hn
    have : sumD Fo.nil.dcs = 0 := rfl
    exact Nat.le_trans (Nat.le_add_right _ _) hn
  simp only [List.length_cons] at hl40
  generalize dcOf y k.dcs = D at e0 hf hw1 he1 hn1
  have w59 : (wdD [59]).Wf := wf_wd (by decide) (by decide) (by decide)
  have n1 : (1 : Int) ≠ 4 := by decide
  have n2 : (2 : Int) ≠ 4 := by decide
  rcases hx with ⟨ho, hnm, _⟩ | ⟨ho, _, _⟩
  · obtain ⟨m1, m2, m3⟩ := name_word hnm
    have e2 : stD x D = grD (twD (wdD ([108, 101, 116, 32] ++ btL x.tx ++ [32, 61])) (dpD (twD blD (twD D (wdD [59]))))) := by rw [stD, if_pos ho]
    refine ⟨?_, ?_, ?_, ?_⟩
    · rw [e0, e1, e2, fl_gr, fl_tw (fl_wd _) (by rw [fl_dp]; exact fl_tw fl_bl (fl_tw hf (fl_wd _)))]
      simp [stX, ho, hdT, Fo.trs]
    · rw [e0, e2]
      refine wf_gr (wf_tw (wf_wd (by simp) (by simp only [List.length_append, List.length_cons, List.length_nil]; omega) fun c hc => ?_) (wf_dp (wf_tw wf_bl (wf_tw hw1 w59))))
      rcases List.mem_append.1 hc with hc | hc
      · rcases List.mem_append.1 hc with hc | hc
        · simp at hc; rcases hc with rfl | rfl | rfl | rfl <;> decide
        · exact m3 c hc
      · simp at hc; rcases hc with rfl | rfl <;> decide
    · rw [e0, e2]; exact ⟨rfl, n1, rfl, n2, rfl, he1, n1⟩
    · rw [e0, e2]
      simp only [Tr.nodes, List.length_cons, List.length_append, List.length_nil]
      omega
  · have e2 : stD x D = twD D (wdD [59]) := by rw [stD, if_neg (by omega)]
    refine ⟨?_, ?_, ?_, ?_⟩
    · rw [e0, e1, e2, fl_tw hf (fl_wd _)]
      simp [stX, ho, hdT, Fo.trs]
    · rw [e0, e2]; exact wf_tw hw1 w59
    · rw [e0, e2]; exact ⟨rfl, he1, n1⟩
    · rw [e0, e2]
      simp only [Tr.nodes, List.length_cons, List.length_append, List.length_nil]
      omega
/-- Whatever way it is laid. -/
theorem doc_dense {t : List Td} (h : treeF t = 0) (h9 : opT t ≠ 9) {ws : List Int} {r : List UInt8} (hs : (stDoc t).show ws = .ok r) : r.filter dnB = (stTx t).filter dnB := by
  have hd := doc_ok h h9
  unfold Tr.show at hs
  split at hs
  · cases hl : (stDoc t).lay 0 ws with
    | error e => rw [hl] at hs; cases hs
    | ok p =>
      obtain ⟨r', ws'⟩ := p
      rw [hl] at hs
      have h1 := lay_dense _ _ hd.e hd.w hd.f 0 ws ws' r' hl
      cases ws' with
      | nil => cases hs; exact h1
      | cons a b => cases hs
  · cases hs
end Go.Proofs.YtmbeamcjpidnjaaGreatDoor
