/- Some texts as one: SynP, SynR, SynT, SynL, SynS, SynK, SynU, SynN, SynO, SynJ, SynW, SynF. -/
import Derived.Test.YtmbeamcjpidnjaaGreatDoorTrePs
namespace Go.Proofs.YtmbeamcjpidnjaaGreatDoor
open Go

/-- Nodes with what is under them, one behind the other. -/
inductive Fo where
  | nil : Fo
  | cons (x : Td) (k n : Fo) : Fo
def Fo.len : Fo → Nat
  | .nil => 0
  | .cons _ _ n => n.len + 1
def Fo.nodes : Fo → List Td
  | .nil => []
  | .cons x k n => x :: (k.nodes ++ n.nodes)
/-- Each has so many under it as it must. -/
def Fo.ok : Fo → Prop
  | .nil => True
  | .cons x k n => k.len = kdT x ∧ k.ok ∧ n.ok
def Fo.app : Fo → Fo → Fo
  | .nil, g => g
  | .cons x k n, g => .cons x k (n.app g)
theorem app_len : ∀ (f g : Fo), (f.app g).len = f.len + g.len
  | .nil, g => by simp [Fo.app, Fo.len]
  | .cons x k n, g => by simp only [Fo.app, Fo.len, app_len n g]; omega
theorem app_nodes : ∀ (f g : Fo), (f.app g).nodes = f.nodes ++ g.nodes
  | .nil, g => rfl
  | .cons x k n, g => by simp [Fo.app, Fo.nodes, app_nodes n g]
theorem app_ok : ∀ {f g : Fo}, f.ok → g.ok → (f.app g).ok
  | .nil, _, _, h => h
  | .cons _ _ _, _, h, h2 => ⟨h.1, h.2.1, app_ok h.2.2 h2⟩
/-- So many nodes under none: they are what is taken. -/
theorem fo_of : ∀ (l : Nat) (ds : List Td) (m k : Nat), ds.length ≤ l → cntT ds m = some k → ∃ F : Fo, F.ok ∧ F.len = m ∧ F.nodes = ds.take k
  | l, ds, 0, k, _, h => by
    rw [cntT_zero] at h
    cases h
    exact ⟨.nil, trivial, rfl, by simp [Fo.nodes]⟩
  | 0, ds, m + 1, k, hl, h => by
    have : ds = [] := List.eq_nil_of_length_eq_zero (by omega)
    subst this
    rw [cntT_nil] at h; cases h
  | l + 1, [], m + 1, k, hl, h => by rw [cntT_nil] at h; cases h
  | l + 1, x :: r, m + 1, k, hl, h => by
    rw [cntT_cons, Option.map_eq_some_iff] at h
    obtain ⟨j, h1, rfl⟩ := h
    rw [cntT_add] at h1
    cases h2 : cntT r (kdT x) with
    | none => rw [h2] at h1; cases h1
    | some a =>
      rw [h2, Option.bind_some, Option.map_eq_some_iff] at h1
      obtain ⟨b, h3, rfl⟩ := h1
      obtain ⟨K, k1, k2, k3⟩ := fo_of l r (kdT x) a (by simp at hl; omega) h2
      obtain ⟨N, n1, n2, n3⟩ := fo_of l (r.drop a) m b (by simp at hl ⊢; omega) h3
      refine ⟨.cons x K N, ⟨k2, k1, n1⟩, by simp [Fo.len, n2], ?_⟩
      have ha := (cntT_le _ _ _ h2).2
      rw [Fo.nodes, k3, n3, List.take_succ_cons, List.cons.injEq]
      refine ⟨rfl, ?_⟩
      rw [List.take_add]
theorem fo_cnt : ∀ (F : Fo), F.ok → ∀ (r : List Td) (m : Nat), cntT (F.nodes ++ r) (F.len + m) = (cntT r m).map (F.nodes.length + ·)
  | .nil, _, r, m => by simp [Fo.nodes, Fo.len]
  | .cons x k n, h, r, m => by
    have e1 := fo_cnt n h.2.2 r m
    have e2 := fo_cnt k h.2.1 (n.nodes ++ r) (n.len + m)
    rw [e1, h.1] at e2
    have e3 : (Fo.cons x k n).len + m = (n.len + m) + 1 := by simp only [Fo.len]; omega
    rw [e3, Fo.nodes, List.cons_append, cntT_cons, List.append_assoc, e2]
    cases cntT r m with
    | none => rfl
    | some j => simp; omega

abbrev Wd := List UInt8
/-- Decimal digits. -/
def decL (n : Nat) : Wd := if h : n ≤ 9 then [UInt8.ofNat (48 + n)] else decL (n / 10) ++ [UInt8.ofNat (48 + n % 10)]
termination_by n
decreasing_by omega
def numV (w : Wd) : Nat := w.foldl (fun a c => a * 10 + (c.toNat - 48)) 0
theorem dig_nat {n : Nat} (h : n ≤ 9) : (UInt8.ofNat (48 + n)).toNat = 48 + n := by
  rw [UInt8.toNat_ofNat']
  omega
theorem numV_dec (n : Nat) : numV (decL n) = n := by
  induction n using Nat.strongRecOn with
  | ind n ih =>
    rw [decL]
    split
    · rename_i h
      simp only [numV, List.foldl_cons, List.foldl_nil, dig_nat h]; omega
    · rename_i h
      have h2 := ih (n / 10) (by omega)
      unfold numV at h2 ⊢
      rw [List.foldl_append, h2]
      simp only [List.foldl_cons, List.foldl_nil, dig_nat (show n % 10 ≤ 9 by omega)]
      omega
theorem decL_fig (n : Nat) : ∀ c ∈ decL n, figB c = true := by
  induction n using Nat.strongRecOn with
  | ind n ih =>
    have hd : ∀ k, k ≤ 9 → figB (UInt8.ofNat (48 + k)) = true := fun k hk => by
      simp only [figB, dig_nat hk]; simp; omega
    rw [decL]
    split
    · rename_i h
      intro c hc
      rw [List.mem_singleton] at hc
      rw [hc]; exact hd n h
    · rename_i h
      intro c hc
      rcases List.mem_append.1 hc with hc | hc
      · exact ih (n / 10) (by omega) c hc
      · rw [List.mem_singleton] at hc
        rw [hc]; exact hd _ (by omega)
theorem decL_ne (n : Nat) : decL n ≠ [] := by
  rw [decL]
  split <;> simp
theorem decL_len : ∀ (k n : Nat), n < 10 ^ (k + 1) → (decL n).length ≤ k + 1
  | k, n, h => by
    rw [decL]
    split
    · simp
    · rename_i h9
      cases k with
      | zero => simp at h; omega
      | succ k =>
        have := decL_len k (n / 10) (by rw [Nat.pow_succ] at h; omega)
        simp only [List.length_append, List.length_cons, List.length_nil]; omega
theorem decL_head (n : Nat) (h : 0 < n) : ∃ c z, decL n = c :: z ∧ c ≠ 48 := by
  induction n using Nat.strongRecOn with
  | ind n ih =>
    rw [decL]
    split
    · rename_i h9
      refine ⟨_, [], rfl, fun e => ?_⟩
      have := congrArg UInt8.toNat e
      rw [dig_nat h9] at this
      simp at this; omega
    · obtain ⟨c, z, e, hc⟩ := ih (n / 10) (by omega) (by omega)
      exact ⟨c, z ++ [UInt8.ofNat (48 + n % 10)], by rw [e]; rfl, hc⟩

/-- A node with what is under it: its nodes, its words, its text. -/
structure Tn where
  x : Td
  ns : List Td
  tk : List Wd
  tx : List UInt8
/-- How tightly a node binds. -/
def prc (x : Td) : Nat := if x.op = 5 then 0 else if x.op = 6 then 1 else 2
def brk (l : Nat) (t : Tn) : List Wd := if prc t.x < l then [40] :: (t.tk ++ [[41]]) else t.tk
def brx (l : Nat) (t : Tn) : List UInt8 := if prc t.x < l then 40 :: (t.tx ++ [41]) else t.tx
/-- With commas between. -/
def cmk : List Tn → List Wd
  | [] => []
  | t :: r => t.tk ++ match r with
    | [] => []
    | _ :: _ => [44] :: cmk r
def cmx : List Tn → List UInt8
  | [] => []
  | t :: r => t.tx ++ match r with
    | [] => []
    | _ :: _ => 44 :: 32 :: cmx r
def two2 {α : Type} (f : Tn → Tn → List α) : List Tn → List α
  | [a, b] => f a b
  | _ => []
def tkOf (x : Td) (ks : List Tn) : List Wd :=
  if x.op = 1 then [decL x.n.toNat]
  else if x.op = 2 then [btL x.tx]
  else if x.op = 3 then btL x.tx :: [40] :: (cmk ks ++ [[41]])
  else if x.op = 4 then [91] :: (cmk ks ++ [[93]])
  else if x.op = 5 then two2 (fun a b => brk 0 a ++ [43] :: brk 1 b) ks
  else two2 (fun a b => brk 1 a ++ [42] :: brk 2 b) ks
def txOf (x : Td) (ks : List Tn) : List UInt8 :=
  if x.op = 1 then decL x.n.toNat
  else if x.op = 2 then btL x.tx
  else if x.op = 3 then btL x.tx ++ 40 :: (cmx ks ++ [41])
  else if x.op = 4 then 91 :: (cmx ks ++ [93])
  else if x.op = 5 then two2 (fun a b => brx 0 a ++ 32 :: 43 :: 32 :: brx 1 b) ks
  else two2 (fun a b => brx 1 a ++ 32 :: 42 :: 32 :: brx 2 b) ks
def mkTn (x : Td) (ks : List Tn) : Tn := ⟨x, x :: ks.flatMap (·.ns), tkOf x ks, txOf x ks⟩
def Fo.trs : Fo → List Tn
  | .nil => []
  | .cons x k n => mkTn x k.trs :: n.trs
theorem trs_len : ∀ F : Fo, F.trs.length = F.len
  | .nil => rfl
  | .cons _ _ n => by simp [Fo.trs, Fo.len, trs_len n]
theorem trs_nodes : ∀ F : Fo, F.trs.flatMap (·.ns) = F.nodes
  | .nil => rfl
  | .cons x k n => by
    rw [Fo.trs, List.flatMap_cons, trs_nodes n, mkTn, trs_nodes k]
    simp [Fo.nodes]
/-- A node of an expression. -/
def exN (x : Td) : Prop := nodT x = 0 ∧ x.op < 7
def Fo.exs (F : Fo) : Prop := ∀ x ∈ F.nodes, exN x
/-- What a node of an expression may be. -/
theorem exN_cases {x : Td} (h : exN x) : (x.op = 1 ∧ x.tx = ⟨#[]⟩ ∧ 0 ≤ x.n ∧ x.n ≤ 999999 ∧ kdT x = 0) ∨ (x.op = 2 ∧ nameT x.tx = true ∧ x.n = 0 ∧ kdT x = 0)
    ∨ (x.op = 3 ∧ nameT x.tx = true ∧ 0 ≤ x.n ∧ x.n ≤ 6 ∧ kdT x = x.n.toNat) ∨ (x.op = 4 ∧ x.tx = ⟨#[]⟩ ∧ 0 ≤ x.n ∧ x.n ≤ 6 ∧ kdT x = x.n.toNat)
    ∨ (x.op = 5 ∧ x.tx = ⟨#[]⟩ ∧ x.n = 0 ∧ kdT x = 2) ∨ (x.op = 6 ∧ x.tx = ⟨#[]⟩ ∧ x.n = 0 ∧ kdT x = 2) := by
  obtain ⟨h0, h7⟩ := h
  have hem : ∀ s : ByteArray, ¬ 0 < s.size → s = ⟨#[]⟩ := fun s hs => by
    apply ByteArray.ext
    apply Array.toList_inj.1
    exact List.eq_nil_of_length_eq_zero (by have := btL_len s; simp only [btL] at this; omega)
  unfold nodT at h0
  split at h0
  · cases h0
  · rename_i h1
    split at h0
    · cases h0
    · rename_i h2
      split at h0
      · cases h0
      · rename_i h3
        have h9 : ¬ x.op = 9 := by omega
        rw [if_neg h9] at h0
        split at h0
        · cases h0
        · rename_i h4
          have ho : x.op = 1 ∨ x.op = 2 ∨ x.op = 3 ∨ x.op = 4 ∨ x.op = 5 ∨ x.op = 6 := by omega
          rcases ho with e | e | e | e | e | e
          · refine .inl ⟨e, hem _ (fun hh => h3 (.inr ⟨by rw [e]; rfl, hh⟩)), by omega, by omega, by unfold kdT; rw [e]; rfl⟩
          · refine .inr (.inl ⟨e, ?_, by omega, by unfold kdT; rw [e]; rfl⟩)
            cases hn : nameT x.tx with
            | true => rfl
            | false => exact absurd ⟨by rw [e]; rfl, hn⟩ h4
          · refine .inr (.inr (.inl ⟨e, ?_, by omega, by omega, by unfold kdT; rw [if_pos (.inl e)]⟩))
            cases hn : nameT x.tx with
            | true => rfl
            | false => exact absurd ⟨by rw [e]; rfl, hn⟩ h4
          · exact .inr (.inr (.inr (.inl ⟨e, hem _ (fun hh => h3 (.inr ⟨by rw [e]; rfl, hh⟩)), by omega, by omega, by unfold kdT; rw [if_pos (.inr e)]⟩)))
          · exact .inr (.inr (.inr (.inr (.inl ⟨e, hem _ (fun hh => h3 (.inr ⟨by rw [e]; rfl, hh⟩)), by omega, by unfold kdT; rw [e]; rfl⟩))))
          · exact .inr (.inr (.inr (.inr (.inr ⟨e, hem _ (fun hh => h3 (.inr ⟨by rw [e]; rfl, hh⟩)), by omega, by unfold kdT; rw [e]; rfl⟩))))
end Go.Proofs.YtmbeamcjpidnjaaGreatDoor
namespace Go.Proofs.YtmbeamcjpidnjaaGreatDoor
open Go

/-- What is to be read: sums (0), products (1), what has no sign about it (2); more of them; one; those up to a bracket. -/
inductive Job where
  | level (k : Nat) : Job
  | loop (k : Nat) (acc : List Td) : Job
  | single : Job
  | args (e : Wd) (n : Nat) (acc : List Td) : Job
inductive Rs where
  | ok (n : Nat) (ns : List Td) (rest : List Wd) : Rs
  | bad (rest : List Wd) : Rs
def sgn (k : Nat) : Wd := if k = 0 then [43] else [42]
def sgT (k : Nat) : Td := ⟨5 + k, ⟨#[]⟩, 0⟩
def numW (w : Wd) : Bool := figB (w.headD 0)
def nmW (w : Wd) : Bool := nameT (wbS w)
def litT (w : Wd) : Td := ⟨1, ⟨#[]⟩, (numV w : Nat)⟩
def nmT (w : Wd) : Td := ⟨2, wbS w, 0⟩
def clT (w : Wd) (n : Nat) : Td := ⟨3, wbS w, (n : Nat)⟩
def lsT (n : Nat) : Td := ⟨4, ⟨#[]⟩, (n : Nat)⟩

inductive PR : Job → List Wd → Rs → Prop where
  | lev2 {ts r} : PR .single ts r → PR (.level 2) ts r
  | levB {k ts u} : k < 2 → PR (.level (k + 1)) ts (.bad u) → PR (.level k) ts (.bad u)
  | levO {k ts m ns u r} : k < 2 → PR (.level (k + 1)) ts (.ok m ns u) → PR (.loop k ns) u r → PR (.level k) ts r
  | lopE {k acc ts} : ts.head? ≠ some (sgn k) → PR (.loop k acc) ts (.ok 0 acc ts)
  | lopB {k acc ts u} : PR (.level (k + 1)) ts (.bad u) → PR (.loop k acc) (sgn k :: ts) (.bad u)
  | lopO {k acc ts m ns u r} : PR (.level (k + 1)) ts (.ok m ns u) → PR (.loop k (sgT k :: (acc ++ ns))) u r → PR (.loop k acc) (sgn k :: ts) r
  | sinN : PR .single [] (.bad [])
  | sPB {ts u} : PR (.level 0) ts (.bad u) → PR .single ([40] :: ts) (.bad u)
  | sPC {ts m ns u} : PR (.level 0) ts (.ok m ns ([41] :: u)) → PR .single ([40] :: ts) (.ok 0 ns u)
  | sPX {ts m ns u} : PR (.level 0) ts (.ok m ns u) → u.head? ≠ some [41] → PR .single ([40] :: ts) (.bad u)
  | sLB {ts u} : PR (.args [93] 0 []) ts (.bad u) → PR .single ([91] :: ts) (.bad u)
  | sLO {ts n ns u} : PR (.args [93] 0 []) ts (.ok n ns u) → PR .single ([91] :: ts) (.ok 0 (lsT n :: ns) u)
  | sNum {w ts} : numW w = true → PR .single (w :: ts) (.ok 0 [litT w] ts)
  | sName {w ts} : nmW w = true → ts.head? ≠ some [40] → PR .single (w :: ts) (.ok 0 [nmT w] ts)
  | sCB {w ts u} : nmW w = true → PR (.args [41] 0 []) ts (.bad u) → PR .single (w :: [40] :: ts) (.bad u)
  | sCO {w ts n ns u} : nmW w = true → PR (.args [41] 0 []) ts (.ok n ns u) → PR .single (w :: [40] :: ts) (.ok 0 (clT w n :: ns) u)
  | sBad {w ts} : w ≠ [40] → w ≠ [91] → numW w = false → nmW w = false → PR .single (w :: ts) (.bad (w :: ts))
  | aEnd {e n acc ts} : PR (.args e n acc) (e :: ts) (.ok n acc ts)
  | aSep {e n acc ts} : ts.head? ≠ some e → ts.head? ≠ some [44] → PR (.args e (n + 1) acc) ts (.bad ts)
  | aB0 {e acc ts u} : ts.head? ≠ some e → PR (.level 0) ts (.bad u) → PR (.args e 0 acc) ts (.bad u)
  | aO0 {e acc ts m ns u r} : ts.head? ≠ some e → PR (.level 0) ts (.ok m ns u) → PR (.args e 1 (acc ++ ns)) u r → PR (.args e 0 acc) ts r
  | aB {e n acc ts u} : e ≠ [44] → PR (.level 0) ts (.bad u) → PR (.args e (n + 1) acc) ([44] :: ts) (.bad u)
  | aO {e n acc ts m ns u r} : e ≠ [44] → PR (.level 0) ts (.ok m ns u) → PR (.args e (n + 2) (acc ++ ns)) u r → PR (.args e (n + 1) acc) ([44] :: ts) r

theorem num_not_name {w : Wd} (h : numW w = true) : nmW w = false := by
  cases hn : nmW w with
  | false => rfl
  | true =>
    exfalso
    unfold nmW nameT at hn
    simp only [Bool.and_eq_true, List.all_eq_true, decide_eq_true_eq] at hn
    cases w with
    | nil => simp [wbS, ByteArray.size] at hn
    | cons c z =>
      have h1 := hn.2 c (by show c ∈ (c :: z); simp)
      have h2 : figB c = true := h
      have := fig_low h2
      rw [h1] at this; cases this
theorem num_40 : numW [40] = false := by decide
theorem num_91 : numW [91] = false := by decide
theorem name_40 : nmW [40] = false := by decide
theorem name_91 : nmW [91] = false := by decide

/-- What is read is read in one way. -/
theorem pr_det {j : Job} {ts : List Wd} {r : Rs} (h : PR j ts r) : ∀ {r' : Rs}, PR j ts r' → r = r' := by
  have n40 := num_40
  have n91 := num_91
  have a40 := name_40
  have a91 := name_91
  induction h with
  | lev2 _ ih => intro r' h'; cases h' with
    | lev2 h2 => exact ih h2
    | levB h0 => omega
    | levO h0 => omega
  | levB h0 _ ih => intro r' h'; cases h' with
    | lev2 h2 => omega
    | levB _ h2 => exact ih h2
    | levO _ h2 _ => cases ih h2
  | levO h0 _ _ ih1 ih2 => intro r' h'; cases h' with
    | lev2 h2 => omega
    | levB _ h2 => cases ih1 h2
    | levO _ h2 h3 => cases ih1 h2; exact ih2 h3
  | lopE h0 => intro r' h'; cases h' with
    | lopE _ => rfl
    | lopB _ => simp at h0
    | lopO _ _ => simp at h0
  | lopB _ ih => intro r' h'; cases h' with
    | lopE h0 => simp at h0
    | lopB h2 => exact ih h2
    | lopO h2 _ => cases ih h2
  | lopO _ _ ih1 ih2 => intro r' h'; cases h' with
    | lopE h0 => simp at h0
    | lopB h2 => cases ih1 h2
    | lopO h2 h3 => cases ih1 h2; exact ih2 h3
  | sinN => intro r' h'; cases h'; rfl
  | sPB _ ih => intro r' h'; cases h' with
    | sPB h2 => exact ih h2
    | sPC h2 => cases ih h2
    | sPX h2 _ => cases ih h2
    | sNum h2 => rw [n40] at h2; cases h2
    | sName h2 _ => rw [a40] at h2; cases h2
    | sCB h2 _ => rw [a40] at h2; cases h2
    | sCO h2 _ => rw [a40] at h2; cases h2
    | sBad h2 => exact absurd rfl h2
  | sPC _ ih => intro r' h'; cases h' with
    | sPB h2 => cases ih h2
    | sPC h2 => cases ih h2; rfl
    | sPX h2 h3 => cases ih h2; simp at h3
    | sNum h2 => rw [n40] at h2; cases h2
    | sName h2 _ => rw [a40] at h2; cases h2
    | sCB h2 _ => rw [a40] at h2; cases h2
    | sCO h2 _ => rw [a40] at h2; cases h2
    | sBad h2 => exact absurd rfl h2
  | sPX _ h0 ih => intro r' h'; cases h' with
    | sPB h2 => cases ih h2
    | sPC h2 => cases ih h2; simp at h0
    | sPX h2 h3 => cases ih h2; rfl
    | sNum h2 => rw [n40] at h2; cases h2
    | sName h2 _ => rw [a40] at h2; cases h2
    | sCB h2 _ => rw [a40] at h2; cases h2
    | sCO h2 _ => rw [a40] at h2; cases h2
    | sBad h2 => exact absurd rfl h2
  | sLB _ ih => intro r' h'; cases h' with
    | sLB h2 => exact ih h2
    | sLO h2 => cases ih h2
    | sNum h2 => rw [n91] at h2; cases h2
    | sName h2 _ => rw [a91] at h2; cases h2
    | sCB h2 _ => rw [a91] at h2; cases h2
    | sCO h2 _ => rw [a91] at h2; cases h2
    | sBad _ h2 => exact absurd rfl h2
  | sLO _ ih => intro r' h'; cases h' with
    | sLB h2 => cases ih h2
    | sLO h2 => cases ih h2; rfl
    | sNum h2 => rw [n91] at h2; cases h2
    | sName h2 _ => rw [a91] at h2; cases h2
    | sCB h2 _ => rw [a91] at h2; cases h2
    | sCO h2 _ => rw [a91] at h2; cases h2
    | sBad _ h2 => exact absurd rfl h2
  | sNum h0 =>
    have hn := num_not_name h0
    intro r' h'; cases h' with
    | sPB h2 => rw [n40] at h0; cases h0
    | sPC h2 => rw [n40] at h0; cases h0
    | sPX h2 h3 => rw [n40] at h0; cases h0
    | sLB h2 => rw [n91] at h0; cases h0
    | sLO h2 => rw [n91] at h0; cases h0
    | sNum h2 => rfl
    | sName h2 _ => rw [hn] at h2; cases h2
    | sCB h2 _ => rw [hn] at h2; cases h2
    | sCO h2 _ => rw [hn] at h2; cases h2
    | sBad _ _ h2 => rw [h0] at h2; cases h2
  | sName h0 h1 =>
    intro r' h'; cases h' with
    | sPB h2 => rw [a40] at h0; cases h0
    | sPC h2 => rw [a40] at h0; cases h0
    | sPX h2 h3 => rw [a40] at h0; cases h0
    | sLB h2 => rw [a91] at h0; cases h0
    | sLO h2 => rw [a91] at h0; cases h0
    | sNum h2 => rw [num_not_name h2] at h0; cases h0
    | sName h2 _ => rfl
    | sCB h2 _ => simp at h1
    | sCO h2 _ => simp at h1
    | sBad _ _ _ h2 => rw [h0] at h2; cases h2
  | sCB h0 _ ih =>
    intro r' h'; cases h' with
    | sPB h2 => rw [a40] at h0; cases h0
    | sPC h2 => rw [a40] at h0; cases h0
    | sPX h2 h3 => rw [a40] at h0; cases h0
    | sLB h2 => rw [a91] at h0; cases h0
    | sLO h2 => rw [a91] at h0; cases h0
    | sNum h2 => rw [num_not_name h2] at h0; cases h0
    | sName _ h2 => simp at h2
    | sCB _ h2 => exact ih h2
    | sCO _ h2 => cases ih h2
    | sBad _ _ _ h2 => rw [h0] at h2; cases h2
  | sCO h0 _ ih =>
    intro r' h'; cases h' with
    | sPB h2 => rw [a40] at h0; cases h0
    | sPC h2 => rw [a40] at h0; cases h0
    | sPX h2 h3 => rw [a40] at h0; cases h0
    | sLB h2 => rw [a91] at h0; cases h0
    | sLO h2 => rw [a91] at h0; cases h0
    | sNum h2 => rw [num_not_name h2] at h0; cases h0
    | sName _ h2 => simp at h2
    | sCB _ h2 => cases ih h2
    | sCO _ h2 => cases ih h2; rfl
    | sBad _ _ _ h2 => rw [h0] at h2; cases h2
  | sBad h0 h1 h3 h4 =>
    intro r' h'; cases h' with
    | sPB h2 => exact absurd rfl h0
    | sPC h2 => exact absurd rfl h0
    | sPX h2 _ => exact absurd rfl h0
    | sLB h2 => exact absurd rfl h1
    | sLO h2 => exact absurd rfl h1
    | sNum h2 => rw [h3] at h2; cases h2
    | sName h2 _ => rw [h4] at h2; cases h2
    | sCB h2 _ => rw [h4] at h2; cases h2
    | sCO h2 _ => rw [h4] at h2; cases h2
    | sBad _ _ _ h2 => rfl
  | aEnd =>
    intro r' h'; cases h' with
    | aEnd => rfl
    | aSep h2 _ => simp at h2
    | aB0 h2 _ => simp at h2
    | aO0 h2 _ _ => simp at h2
    | aB h2 _ => exact absurd rfl h2
    | aO h2 _ _ => exact absurd rfl h2
  | aSep h0 h1 =>
    intro r' h'; cases h' with
    | aEnd => simp at h0
    | aSep h2 _ => rfl
    | aB h2 _ => simp at h1
    | aO h2 _ _ => simp at h1
  | aB0 h0 _ ih =>
    intro r' h'; cases h' with
    | aEnd => simp at h0
    | aB0 _ h2 => exact ih h2
    | aO0 _ h2 _ => cases ih h2
  | aO0 h0 _ _ ih1 ih2 =>
    intro r' h'; cases h' with
    | aEnd => simp at h0
    | aB0 _ h2 => cases ih1 h2
    | aO0 _ h2 h3 => cases ih1 h2; exact ih2 h3
  | aB h0 _ ih =>
    intro r' h'; cases h' with
    | aEnd => exact absurd rfl h0
    | aSep _ h2 => simp at h2
    | aB _ h2 => exact ih h2
    | aO _ h2 _ => cases ih h2
  | aO h0 _ _ ih1 ih2 =>
    intro r' h'; cases h' with
    | aEnd => exact absurd rfl h0
    | aSep _ h2 => simp at h2
    | aB _ h2 => cases ih1 h2
    | aO _ h2 h3 => cases ih1 h2; exact ih2 h3

def Rs.rest : Rs → List Wd
  | .ok _ _ u => u
  | .bad u => u
/-- What is left stands at the end of what was there; of one expression at least a word is read. -/
def Job.eats : Job → Nat
  | .level _ => 1
  | .single => 1
  | _ => 0
theorem suf_cons {α : Type} {u ts : List α} (w : α) (h : u <:+ ts) : u <:+ w :: ts := h.trans (List.suffix_cons w ts)
theorem pr_suf {j : Job} {ts : List Wd} {r : Rs} (h : PR j ts r) : r.rest <:+ ts ∧ ∀ m ns u, r = .ok m ns u → u.length + j.eats ≤ ts.length := by
  induction h with
  | lev2 _ ih => exact ih
  | levB _ _ ih => exact ⟨ih.1, fun _ _ _ e => by cases e⟩
  | levO _ _ _ ih1 ih2 =>
    have h1 := ih1.2 _ _ _ rfl
    refine ⟨ih2.1.trans ih1.1, fun m ns u e => ?_⟩
    have h2 := ih2.2 _ _ _ e
    simp only [Job.eats] at h1 h2 ⊢; omega
  | lopE _ => exact ⟨List.suffix_refl _, fun _ _ _ e => by cases e; simp [Job.eats]⟩
  | lopB _ ih => exact ⟨suf_cons _ ih.1, fun _ _ _ e => by cases e⟩
  | lopO _ _ ih1 ih2 =>
    have h1 := ih1.2 _ _ _ rfl
    refine ⟨suf_cons _ (ih2.1.trans ih1.1), fun m ns u e => ?_⟩
    have h2 := ih2.2 _ _ _ e
    simp only [Job.eats, List.length_cons] at h1 h2 ⊢; omega
  | sinN => exact ⟨List.suffix_refl _, fun _ _ _ e => by cases e⟩
  | sPB _ ih => exact ⟨suf_cons _ ih.1, fun _ _ _ e => by cases e⟩
  | sPC _ ih =>
    have h1 := ih.2 _ _ _ rfl
    refine ⟨suf_cons _ ((List.suffix_cons _ _).trans ih.1), fun m ns u e => ?_⟩
    cases e
    simp only [Job.eats, List.length_cons] at h1 ⊢; omega
  | sPX _ _ ih => exact ⟨suf_cons _ ih.1, fun _ _ _ e => by cases e⟩
  | sLB _ ih => exact ⟨suf_cons _ ih.1, fun _ _ _ e => by cases e⟩
  | sLO _ ih =>
    have h1 := ih.2 _ _ _ rfl
    refine ⟨suf_cons _ ih.1, fun m ns u e => ?_⟩
    cases e
    simp only [Job.eats, List.length_cons] at h1 ⊢; omega
  | sNum _ => exact ⟨List.suffix_cons _ _, fun _ _ _ e => by cases e; simp [Job.eats]⟩
  | sName _ _ => exact ⟨List.suffix_cons _ _, fun _ _ _ e => by cases e; simp [Job.eats]⟩
  | sCB _ _ ih => exact ⟨suf_cons _ (suf_cons _ ih.1), fun _ _ _ e => by cases e⟩
  | sCO _ _ ih =>
    have h1 := ih.2 _ _ _ rfl
    refine ⟨suf_cons _ (suf_cons _ ih.1), fun m ns u e => ?_⟩
    cases e
    simp only [Job.eats, List.length_cons] at h1 ⊢; omega
  | sBad _ _ _ _ => exact ⟨List.suffix_refl _, fun _ _ _ e => by cases e⟩
  | aEnd => exact ⟨List.suffix_cons _ _, fun _ _ _ e => by cases e; simp [Job.eats]⟩
  | aSep _ _ => exact ⟨List.suffix_refl _, fun _ _ _ e => by cases e⟩
  | aB0 _ _ ih => exact ⟨ih.1, fun _ _ _ e => by cases e⟩
  | aO0 _ _ _ ih1 ih2 =>
    have h1 := ih1.2 _ _ _ rfl
    refine ⟨ih2.1.trans ih1.1, fun m ns u e => ?_⟩
    have h2 := ih2.2 _ _ _ e
    simp only [Job.eats] at h1 h2 ⊢; omega
  | aB _ _ ih => exact ⟨suf_cons _ ih.1, fun _ _ _ e => by cases e⟩
  | aO _ _ _ ih1 ih2 =>
    have h1 := ih1.2 _ _ _ rfl
    refine ⟨suf_cons _ (ih2.1.trans ih1.1), fun m ns u e => ?_⟩
    have h2 := ih2.2 _ _ _ e
    simp only [Job.eats, List.length_cons] at h1 h2 ⊢; omega
end Go.Proofs.YtmbeamcjpidnjaaGreatDoor
namespace Go.Proofs.YtmbeamcjpidnjaaGreatDoor
open Go

/-- A word that an expression may begin with. -/
def begW (w : Wd) : Prop := w = [40] ∨ w = [91] ∨ numW w = true ∨ nmW w = true
theorem name_parts {w : Wd} (h : nmW w = true) : ∃ c z, w = c :: z ∧ lowB c = true ∧ w ≠ [108, 101, 116] ∧ w.length ≤ 8 ∧ ∀ b ∈ w, lowB b = true := by
  unfold nmW nameT at h
  simp only [Bool.and_eq_true, List.all_eq_true, decide_eq_true_eq] at h
  obtain ⟨⟨⟨h1, h2⟩, h3⟩, h4⟩ := h
  cases w with
  | nil => simp [wbS, ByteArray.size] at h1
  | cons c z =>
    refine ⟨c, z, rfl, h4 c (by show c ∈ (c :: z); simp), h3, ?_, h4⟩
    have e : (wbS (c :: z)).size = (c :: z).length := by rw [← btL_len]; rfl
    rw [e] at h2; exact h2
theorem begW_ne {w : Wd} (h : begW w) : w ≠ [41] ∧ w ≠ [93] ∧ w ≠ [44] ∧ w ≠ [108, 101, 116] ∧ w.headD 0 ≠ 35 := by
  rcases h with rfl | rfl | h | h
  · decide
  · decide
  · have : ∀ c : UInt8, figB c = true → c ≠ 41 ∧ c ≠ 93 ∧ c ≠ 44 ∧ c ≠ 108 ∧ c ≠ 35 := fun c hc => by
      refine ⟨?_, ?_, ?_, ?_, ?_⟩ <;> (rintro rfl; revert hc; decide)
    cases w with
    | nil => exact absurd h (by decide)
    | cons c z =>
      obtain ⟨h1, h2, h3, h4, h5⟩ := this c h
      refine ⟨?_, ?_, ?_, ?_, h5⟩ <;> (intro e; rw [List.cons.injEq] at e; simp_all)
  · obtain ⟨c, z, rfl, hc, hl, _, _⟩ := name_parts h
    have : c ≠ 41 ∧ c ≠ 93 ∧ c ≠ 44 ∧ c ≠ 35 := by
      refine ⟨?_, ?_, ?_, ?_⟩ <;> (rintro rfl; revert hc; decide)
    refine ⟨?_, ?_, ?_, hl, this.2.2.2⟩ <;> (intro e; rw [List.cons.injEq] at e; simp_all)
/-- A node with what is under it is read as it is printed. -/
structure Reads (t : Tn) : Prop where
  b : ∃ w z, t.tk = w :: z ∧ begW w
  s : ∀ rest : List Wd, rest.head? ≠ some [40] → PR .single (brk 2 t ++ rest) (.ok 0 t.ns rest)
  l1 : ∀ (rest : List Wd) (r : Rs), rest.head? ≠ some [40] → PR (.loop 1 t.ns) rest r → PR (.level 1) (brk 1 t ++ rest) r
  l0 : ∀ (rest : List Wd) (r : Rs), rest.head? ≠ some [40] → rest.head? ≠ some [42] → PR (.loop 0 t.ns) rest r → PR (.level 0) (brk 0 t ++ rest) r
theorem brk_zero (t : Tn) : brk 0 t = t.tk := by simp [brk]
theorem lvl0_of {t : Tn} (h : Reads t) {rest : List Wd} (h1 : rest.head? ≠ some [40]) (h2 : rest.head? ≠ some [42]) (h3 : rest.head? ≠ some [43]) : PR (.level 0) (t.tk ++ rest) (.ok 0 t.ns rest) := by
  have := h.l0 rest (.ok 0 t.ns rest) h1 h2 (.lopE h3)
  rwa [brk_zero] at this
theorem lvl1_of {t : Tn} (h : Reads t) {rest : List Wd} (h1 : rest.head? ≠ some [40]) (h2 : rest.head? ≠ some [42]) : PR (.level 1) (brk 1 t ++ rest) (.ok 0 t.ns rest) :=
  h.l1 rest (.ok 0 t.ns rest) h1 (.lopE h2)
/-- What stands alone. -/
theorem reads_single {t : Tn} (hp : prc t.x = 2) (hb : ∃ w z, t.tk = w :: z ∧ begW w) (h : ∀ rest : List Wd, rest.head? ≠ some [40] → PR .single (t.tk ++ rest) (.ok 0 t.ns rest)) : Reads t := by
  have b1 : brk 1 t = t.tk := by rw [brk, if_neg (by omega)]
  have b2 : brk 2 t = t.tk := by rw [brk, if_neg (by omega)]
  have h1 : ∀ (rest : List Wd) (r : Rs), rest.head? ≠ some [40] → PR (.loop 1 t.ns) rest r → PR (.level 1) (t.tk ++ rest) r :=
    fun rest r hr hl => .levO (by omega) (.lev2 (h rest hr)) hl
  refine ⟨hb, by rw [b2]; exact h, by rw [b1]; exact h1, fun rest r hr hs hl => ?_⟩
  rw [brk_zero]
  exact .levO (by omega) (h1 rest _ hr (.lopE hs)) hl
theorem brk_beg {t : Tn} (h : ∃ w z, t.tk = w :: z ∧ begW w) (l : Nat) (r : List Wd) : ∃ w z, brk l t ++ r = w :: z ∧ begW w := by
  by_cases hp : prc t.x < l
  · rw [brk, if_pos hp]
    exact ⟨[40], _, rfl, .inl rfl⟩
  · rw [brk, if_neg hp]
    obtain ⟨w, z, e, hw⟩ := h
    exact ⟨w, z ++ r, by rw [e]; rfl, hw⟩
/-- What has a bracket about it. -/
theorem reads_brk {t : Tn} {l : Nat} (hp : prc t.x < l) (hl : ∀ rest : List Wd, rest.head? ≠ some [40] → rest.head? ≠ some [42] → rest.head? ≠ some [43] → PR (.level 0) (t.tk ++ rest) (.ok 0 t.ns rest)) (rest : List Wd) : PR .single (brk l t ++ rest) (.ok 0 t.ns rest) := by
  rw [brk, if_pos hp, List.cons_append, List.append_assoc]
  exact .sPC (hl ([41] :: rest) (by simp) (by simp) (by simp))
theorem reads_mul {x : Td} {a b : Tn} (hx : x = sgT 1) (ha : Reads a) (hb : Reads b) : Reads (mkTn x [a, b]) := by
  have ho : x.op = 6 := by rw [hx]; rfl
  have hp : prc (mkTn x [a, b]).x = 1 := by simp [mkTn, prc, ho]
  have hk : (mkTn x [a, b]).tk = brk 1 a ++ [42] :: brk 2 b := by simp [mkTn, tkOf, two2, ho]
  have hn : (mkTn x [a, b]).ns = sgT 1 :: (a.ns ++ b.ns) := by simp [mkTn, hx]
  have h1 : ∀ (rest : List Wd) (r : Rs), rest.head? ≠ some [40] → PR (.loop 1 (mkTn x [a, b]).ns) rest r → PR (.level 1) ((mkTn x [a, b]).tk ++ rest) r := by
    intro rest r hr hl
    rw [hk, List.append_assoc]
    refine ha.l1 _ _ (by simp) ?_
    rw [hn] at hl
    exact .lopO (k := 1) (.lev2 (hb.s rest hr)) hl
  have h0 : ∀ (rest : List Wd) (r : Rs), rest.head? ≠ some [40] → rest.head? ≠ some [42] → PR (.loop 0 (mkTn x [a, b]).ns) rest r → PR (.level 0) ((mkTn x [a, b]).tk ++ rest) r :=
    fun rest r hr hs hl => .levO (by omega) (h1 rest _ hr (.lopE hs)) hl
  refine ⟨by rw [hk]; exact brk_beg ha.b _ _, fun rest _ => reads_brk (by omega) (fun rest h40 h42 h43 => h0 rest _ h40 h42 (.lopE h43)) rest, fun rest r hr hl => ?_, fun rest r hr hs hl => ?_⟩
  · rw [brk, if_neg (by omega)]; exact h1 rest r hr hl
  · rw [brk_zero]; exact h0 rest r hr hs hl
theorem reads_sum {x : Td} {a b : Tn} (hx : x = sgT 0) (ha : Reads a) (hb : Reads b) : Reads (mkTn x [a, b]) := by
  have ho : x.op = 5 := by rw [hx]; rfl
  have hp : prc (mkTn x [a, b]).x = 0 := by simp [mkTn, prc, ho]
  have hk : (mkTn x [a, b]).tk = brk 0 a ++ [43] :: brk 1 b := by simp [mkTn, tkOf, two2, ho]
  have hn : (mkTn x [a, b]).ns = sgT 0 :: (a.ns ++ b.ns) := by simp [mkTn, hx]
  have h0 : ∀ (rest : List Wd) (r : Rs), rest.head? ≠ some [40] → rest.head? ≠ some [42] → PR (.loop 0 (mkTn x [a, b]).ns) rest r → PR (.level 0) ((mkTn x [a, b]).tk ++ rest) r := by
    intro rest r hr hs hl
    rw [hk, List.append_assoc]
    refine ha.l0 _ _ (by simp) (by simp) ?_
    rw [hn] at hl
    exact .lopO (k := 0) (lvl1_of hb hr hs) hl
  have hs : ∀ l, 0 < l → ∀ rest : List Wd, PR .single (brk l (mkTn x [a, b]) ++ rest) (.ok 0 (mkTn x [a, b]).ns rest) :=
    fun l hl rest => reads_brk (by omega) (fun rest h40 h42 h43 => h0 rest _ h40 h42 (.lopE h43)) rest
  refine ⟨by rw [hk]; exact brk_beg ha.b _ _, fun rest _ => hs 2 (by omega) rest, fun rest r _ hl => .levO (by omega) (.lev2 (hs 1 (by omega) rest)) hl, fun rest r hr hs hl => ?_⟩
  rw [brk_zero]; exact h0 rest r hr hs hl
/-- Those up to a bracket. -/
def cmt : List Tn → List Wd
  | [] => []
  | t :: r => [44] :: cmk (t :: r)
theorem cmk_cons (t : Tn) (r : List Tn) : cmk (t :: r) = t.tk ++ cmt r := by
  cases r with
  | nil => simp [cmk, cmt]
  | cons u r => simp [cmk, cmt]
theorem cmt_head {e : Wd} (he : e = [41] ∨ e = [93]) (r : List Tn) (rest : List Wd) : (cmt r ++ e :: rest).head? ≠ some [40] ∧ (cmt r ++ e :: rest).head? ≠ some [42] ∧ (cmt r ++ e :: rest).head? ≠ some [43] := by
  cases r with
  | nil => rcases he with rfl | rfl <;> simp [cmt]
  | cons t r => simp [cmt]
theorem args_more {e : Wd} (he : e = [41] ∨ e = [93]) : ∀ (ks : List Tn), (∀ t ∈ ks, Reads t) → ∀ (n : Nat) (acc : List Td) (rest : List Wd),
    PR (.args e (n + 1) acc) (cmt ks ++ e :: rest) (.ok (n + 1 + ks.length) (acc ++ ks.flatMap (·.ns)) rest)
  | [], _, n, acc, rest => by simpa [cmt] using PR.aEnd
  | t :: r, h, n, acc, rest => by
    obtain ⟨h1, h2, h3⟩ := cmt_head he r rest
    have ih := args_more he r (fun u hu => h u (by simp [hu])) (n + 1) (acc ++ t.ns) rest
    have hl := lvl0_of (h t (by simp)) h1 h2 h3
    have e1 : cmt (t :: r) ++ e :: rest = [44] :: (t.tk ++ (cmt r ++ e :: rest)) := by rw [cmt, cmk_cons]; simp
    have e2 : n + 1 + (t :: r).length = n + 1 + 1 + r.length := by simp; omega
    have e3 : acc ++ (t :: r).flatMap (·.ns) = acc ++ t.ns ++ r.flatMap (·.ns) := by simp
    rw [e1, e2, e3]
    exact .aO (by rcases he with rfl | rfl <;> decide) hl ih
theorem args_all {e : Wd} (he : e = [41] ∨ e = [93]) (ks : List Tn) (h : ∀ t ∈ ks, Reads t) (rest : List Wd) :
    PR (.args e 0 []) (cmk ks ++ e :: rest) (.ok ks.length (ks.flatMap (·.ns)) rest) := by
  cases ks with
  | nil => simpa [cmk] using PR.aEnd
  | cons t r =>
    obtain ⟨h1, h2, h3⟩ := cmt_head he r rest
    have ih := args_more he r (fun u hu => h u (by simp [hu])) 0 ([] ++ t.ns) rest
    have hl := lvl0_of (h t (by simp)) h1 h2 h3
    obtain ⟨w, z, e0, hw⟩ := (h t (by simp)).b
    have hne := begW_ne hw
    have e1 : cmk (t :: r) ++ e :: rest = t.tk ++ (cmt r ++ e :: rest) := by rw [cmk_cons]; simp
    have e2 : (t :: r).length = 0 + 1 + r.length := by simp; omega
    have e3 : (t :: r).flatMap (·.ns) = [] ++ t.ns ++ r.flatMap (·.ns) := by simp
    rw [e1, e2, e3]
    refine .aO0 ?_ hl ih
    rw [e0, List.cons_append, List.head?_cons]
    intro e4
    rcases he with rfl | rfl
    · exact hne.1 (Option.some.inj e4)
    · exact hne.2.1 (Option.some.inj e4)
theorem td_eq {x : Td} {op : Int} {tx : ByteArray} {n : Int} (h1 : x.op = op) (h2 : x.tx = tx) (h3 : x.n = n) : x = ⟨op, tx, n⟩ := by
  cases x; simp_all
theorem len2 {α : Type} {l : List α} (h : l.length = 2) : ∃ a b, l = [a, b] := by
  match l, h with
  | [a, b], _ => exact ⟨a, b, rfl⟩
/-- What is printed is read. -/
theorem reads_all : ∀ F : Fo, F.ok → F.exs → ∀ t ∈ F.trs, Reads t
  | .nil, _, _, t, ht => by cases ht
  | .cons x k n, hok, hex, t, ht => by
    have hexk : k.exs := fun y hy => hex y (by simp [Fo.nodes, hy])
    have hexn : n.exs := fun y hy => hex y (by simp [Fo.nodes, hy])
    have ihk := reads_all k hok.2.1 hexk
    rw [Fo.trs] at ht
    rcases List.mem_cons.1 ht with rfl | ht
    · have hlen : k.trs.length = kdT x := by rw [trs_len]; exact hok.1
      rcases exN_cases (hex x (by simp [Fo.nodes])) with ⟨ho, htx, hn0, hn1, hk⟩ | ⟨ho, hnm, hn0, hk⟩ | ⟨ho, hnm, hn0, hn1, hk⟩ | ⟨ho, htx, hn0, hn1, hk⟩ | ⟨ho, htx, hn0, hk⟩ | ⟨ho, htx, hn0, hk⟩
      · have hks : k.trs = [] := List.eq_nil_of_length_eq_zero (by omega)
        have hnum : numW (decL x.n.toNat) = true := by
          have h1 := decL_fig x.n.toNat
          cases hd : decL x.n.toNat with
          | nil => exact absurd hd (decL_ne _)
          | cons c z => exact h1 c (by rw [hd]; simp)
        have htk : (mkTn x k.trs).tk = [decL x.n.toNat] := by simp [mkTn, tkOf, ho]
        have hns : (mkTn x k.trs).ns = [litT (decL x.n.toNat)] := by
          rw [mkTn, hks]
          simp only [List.flatMap_nil, List.cons.injEq, and_true]
          exact td_eq ho htx (by rw [numV_dec]; omega)
        refine reads_single (by simp [mkTn, prc, ho]) ⟨_, _, htk, .inr (.inr (.inl hnum))⟩ fun rest _ => ?_
        rw [htk, hns]
        exact .sNum hnum
      · have hks : k.trs = [] := List.eq_nil_of_length_eq_zero (by omega)
        have hnw : nmW (btL x.tx) = true := hnm
        have htk : (mkTn x k.trs).tk = [btL x.tx] := by simp [mkTn, tkOf, ho]
        have hns : (mkTn x k.trs).ns = [nmT (btL x.tx)] := by
          rw [mkTn, hks]
          simp only [List.flatMap_nil, List.cons.injEq, and_true]
          exact td_eq ho rfl hn0
        refine reads_single (by simp [mkTn, prc, ho]) ⟨_, _, htk, .inr (.inr (.inr hnw))⟩ fun rest hr => ?_
        rw [htk, hns]
        exact .sName hnw hr
      · have hnw : nmW (btL x.tx) = true := hnm
        have htk : (mkTn x k.trs).tk = btL x.tx :: [40] :: (cmk k.trs ++ [[41]]) := by simp [mkTn, tkOf, ho]
        have hns : (mkTn x k.trs).ns = clT (btL x.tx) k.trs.length :: k.trs.flatMap (·.ns) := by
          rw [mkTn]
          simp only [List.cons.injEq, and_true]
          exact td_eq ho rfl (by omega)
        refine reads_single (by simp [mkTn, prc, ho]) ⟨_, _, htk, .inr (.inr (.inr hnw))⟩ fun rest hr => ?_
        rw [htk, hns]
        have := args_all (.inl rfl) k.trs ihk rest
        refine .sCO hnw ?_
        simpa using this
      · have htk : (mkTn x k.trs).tk = [91] :: (cmk k.trs ++ [[93]]) := by simp [mkTn, tkOf, ho]
        have hns : (mkTn x k.trs).ns = lsT k.trs.length :: k.trs.flatMap (·.ns) := by
          rw [mkTn]
          simp only [List.cons.injEq, and_true]
          exact td_eq ho htx (by omega)
        refine reads_single (by simp [mkTn, prc, ho]) ⟨_, _, htk, .inr (.inl rfl)⟩ fun rest hr => ?_
        rw [htk, hns]
        have := args_all (.inr rfl) k.trs ihk rest
        refine .sLO ?_
        simpa using this
      · obtain ⟨a, b, hab⟩ := len2 (hlen.trans hk)
        rw [hab] at ihk ⊢
        exact reads_sum (td_eq ho htx hn0) (ihk a (by simp)) (ihk b (by simp))
      · obtain ⟨a, b, hab⟩ := len2 (hlen.trans hk)
        rw [hab] at ihk ⊢
        exact reads_mul (td_eq ho htx hn0) (ihk a (by simp)) (ihk b (by simp))
    · exact reads_all n hok.2.2 hexn t ht
end Go.Proofs.YtmbeamcjpidnjaaGreatDoor
namespace Go.Proofs.YtmbeamcjpidnjaaGreatDoor
open Go

theorem brx_le (l : Nat) (t : Tn) : (brx l t).length ≤ t.tx.length + 2 := by
  unfold brx
  split
  · simp
  · omega
theorem cmx_le : ∀ ks : List Tn, (∀ t ∈ ks, t.tx.length + 4 ≤ 16 * t.ns.length) → (cmx ks).length ≤ 16 * (ks.flatMap (·.ns)).length
  | [], _ => by simp [cmx]
  | [t], h => by
    have := h t (by simp)
    simp [cmx]; omega
  | t :: u :: r, h => by
    have h1 := h t (by simp)
    have h2 := cmx_le (u :: r) (fun x hx => h x (by simp [hx]))
    rw [cmx, List.flatMap_cons, List.length_append, List.length_append]
    simp only [List.length_cons]
    omega
theorem name_len {s : ByteArray} (h : nameT s = true) : (btL s).length ≤ 8 := by
  unfold nameT at h
  simp only [Bool.and_eq_true, decide_eq_true_eq] at h
  rw [btL_len]
  exact h.1.1.2
theorem tx_len : ∀ F : Fo, F.ok → F.exs → ∀ t ∈ F.trs, t.tx.length + 4 ≤ 16 * t.ns.length
  | .nil, _, _, t, ht => by cases ht
  | .cons x k n, hok, hex, t, ht => by
    have hexk : k.exs := fun y hy => hex y (by simp [Fo.nodes, hy])
    have hexn : n.exs := fun y hy => hex y (by simp [Fo.nodes, hy])
    have ihk := tx_len k hok.2.1 hexk
    rw [Fo.trs] at ht
    rcases List.mem_cons.1 ht with rfl | ht
    · have hlen : k.trs.length = kdT x := by rw [trs_len]; exact hok.1
      have hc := cmx_le k.trs ihk
      rcases exN_cases (hex x (by simp [Fo.nodes])) with ⟨ho, htx, hn0, hn1, hk⟩ | ⟨ho, hnm, hn0, hk⟩ | ⟨ho, hnm, hn0, hn1, hk⟩ | ⟨ho, htx, hn0, hn1, hk⟩ | ⟨ho, htx, hn0, hk⟩ | ⟨ho, htx, hn0, hk⟩
      · have := decL_len 5 x.n.toNat (by omega)
        simp [mkTn, txOf, ho]; omega
      · have := name_len hnm
        simp only [mkTn, txOf, ho]
        simp at this ⊢; omega
      · have := name_len hnm
        simp only [mkTn, txOf, ho]
        simp at this hc ⊢; omega
      · simp only [mkTn, txOf, ho]
        simp at hc ⊢; omega
      · obtain ⟨a, b, hab⟩ := len2 (hlen.trans hk)
        rw [hab] at ihk ⊢
        have h1 := ihk a (by simp)
        have h2 := ihk b (by simp)
        have h3 := brx_le 0 a
        have h4 := brx_le 1 b
        simp [mkTn, txOf, ho, two2]; omega
      · obtain ⟨a, b, hab⟩ := len2 (hlen.trans hk)
        rw [hab] at ihk ⊢
        have h1 := ihk a (by simp)
        have h2 := ihk b (by simp)
        have h3 := brx_le 1 a
        have h4 := brx_le 2 b
        simp [mkTn, txOf, ho, two2]; omega
    · exact tx_len n hok.2.2 hexn t ht
end Go.Proofs.YtmbeamcjpidnjaaGreatDoor
namespace Go.Proofs.YtmbeamcjpidnjaaGreatDoor
open Go

/-- The first so many; those behind them. -/
def Fo.tk : Nat → Fo → Fo
  | 0, _ => .nil
  | _ + 1, .nil => .nil
  | k + 1, .cons x a n => .cons x a (Fo.tk k n)
def Fo.dp : Nat → Fo → Fo
  | 0, f => f
  | _ + 1, .nil => .nil
  | k + 1, .cons _ _ n => Fo.dp k n
theorem fot_app : ∀ f g : Fo, Fo.tk f.len (f.app g) = f
  | .nil, g => by cases g <;> rfl
  | .cons x k n, g => by simp only [Fo.len, Fo.app, Fo.tk, fot_app n g]
theorem fod_app : ∀ f g : Fo, Fo.dp f.len (f.app g) = g
  | .nil, g => by cases g <;> rfl
  | .cons x k n, g => by simp only [Fo.len, Fo.app, Fo.dp, fod_app n g]
theorem fo_app_nil : ∀ f : Fo, f.app .nil = f
  | .nil => rfl
  | .cons x k n => by simp only [Fo.app, fo_app_nil n]
/-- Nodes as what they make. -/
def bldF : List Td → Fo
  | [] => .nil
  | x :: r => .cons x (Fo.tk (kdT x) (bldF r)) (Fo.dp (kdT x) (bldF r))
theorem bldF_app : ∀ (F : Fo), F.ok → ∀ r, bldF (F.nodes ++ r) = F.app (bldF r)
  | .nil, _, r => rfl
  | .cons x k n, h, r => by
    have e1 := bldF_app n h.2.2 r
    have e2 := bldF_app k h.2.1 (n.nodes ++ r)
    rw [Fo.nodes, List.cons_append, List.append_assoc, bldF, e2, e1, ← h.1, fot_app, fod_app]
    rfl
theorem bldF_nodes (F : Fo) (h : F.ok) : bldF F.nodes = F := by
  have := bldF_app F h []
  rw [List.append_nil] at this
  rw [this]
  exact fo_app_nil F
/-- What a statement may be. -/
theorem st_cases {ds : List Td} (h : treeF ds = 0) : (∃ x, ds = [x] ∧ x.op = 9 ∧ x.n = 0 ∧ noteF x.tx = 0) ∨
    (∃ (x : Td) (F : Fo), ds = x :: F.nodes ∧ F.ok ∧ F.exs ∧ F.len = 1 ∧ ((x.op = 7 ∧ nameT x.tx = true ∧ x.n = 0) ∨ (x.op = 8 ∧ x.tx = ⟨#[]⟩ ∧ x.n = 0))) := by
  obtain ⟨_, hn, he, ht⟩ := treeF_zero h
  cases ds with
  | nil => rw [endT_out [] 0 0 (by simp)] at he; cases he
  | cons x r =>
    have hx := hn x (by simp)
    simp only [topT, Bool.and_eq_true, decide_eq_true_eq, List.all_eq_true] at ht
    rw [endT, List.drop_zero, cntT_cons, Option.map_map, Option.map_eq_some_iff] at he
    obtain ⟨j, hj, hj2⟩ := he
    simp only [Function.comp_apply, List.length_cons] at hj2
    have hjl : j = r.length := by omega
    rw [Nat.add_zero, hjl] at hj
    obtain ⟨F, f1, f2, f3⟩ := fo_of r.length r (kdT x) r.length (Nat.le_refl _) hj
    rw [List.take_length] at f3
    have hex : F.exs := fun y hy => by
      rw [f3] at hy
      exact ⟨hn y (by simp [hy]), ht.2 y hy⟩
    have hem : ∀ s : ByteArray, ¬ 0 < s.size → s = ⟨#[]⟩ := fun s hs => by
      apply ByteArray.ext
      apply Array.toList_inj.1
      exact List.eq_nil_of_length_eq_zero (by have := btL_len s; simp only [btL] at this; omega)
    unfold nodT at hx
    split at hx
    · cases hx
    · rename_i h1
      split at hx
      · cases hx
      · split at hx
        · cases hx
        · rename_i h3
          have ho : x.op = 7 ∨ x.op = 8 ∨ x.op = 9 := by omega
          rcases ho with ho | ho | ho
          · have hk1 : kdT x = 1 := by unfold kdT; rw [ho]; rfl
            rw [if_neg (by omega)] at hx
            split at hx
            · cases hx
            · rename_i h4
              refine .inr ⟨x, F, by rw [f3], f1, hex, by rw [f2, hk1], .inl ⟨ho, ?_, by omega⟩⟩
              cases hnm : nameT x.tx with
              | true => rfl
              | false => exact absurd ⟨by rw [ho]; rfl, hnm⟩ h4
          · have hk1 : kdT x = 1 := by unfold kdT; rw [ho]; rfl
            exact .inr ⟨x, F, by rw [f3], f1, hex, by rw [f2, hk1], .inr ⟨ho, hem _ (fun hh => h3 (.inr ⟨by rw [ho]; rfl, hh⟩)), by omega⟩⟩
          · have hk0 : kdT x = 0 := by unfold kdT; rw [ho]; rfl
            rw [if_pos ho] at hx
            have hF : F = .nil := by
              cases F with
              | nil => rfl
              | cons y k n => rw [hk0] at f2; simp [Fo.len] at f2
            rw [hF] at f3
            exact .inl ⟨x, by rw [← f3]; rfl, ho, by omega, hx⟩
def hdT (ks : List Tn) : List UInt8 := match ks with
  | t :: _ => t.tx
  | [] => []
def hdK (ks : List Tn) : List Wd := match ks with
  | t :: _ => t.tk
  | [] => []
/-- A statement's line; its words. -/
def stX (x : Td) (ks : List Tn) : List UInt8 :=
  if x.op = 7 then [108, 101, 116, 32] ++ btL x.tx ++ [32, 61, 32] ++ hdT ks ++ [59] else if x.op = 8 then hdT ks ++ [59] else if x.tx.size = 0 then [35] else [35, 32] ++ btL x.tx
def stK (x : Td) (ks : List Tn) : List Wd :=
  if x.op = 7 then [108, 101, 116] :: btL x.tx :: [61] :: (hdK ks ++ [[59]]) else if x.op = 8 then hdK ks ++ [[59]] else [if x.tx.size = 0 then [35] else [35, 32] ++ btL x.tx]
def stTx (ds : List Td) : List UInt8 := match bldF ds with
  | .nil => []
  | .cons x k _ => stX x k.trs
def stTk (ds : List Td) : List Wd := match bldF ds with
  | .nil => []
  | .cons x k _ => stK x k.trs
theorem st_bld {x : Td} {F : Fo} (h : F.ok) (hl : F.len = kdT x) : bldF (x :: F.nodes) = .cons x F .nil := by
  have h1 := fot_app F .nil
  have h2 := fod_app F .nil
  rw [fo_app_nil] at h1 h2
  rw [bldF, bldF_nodes F h, ← hl, h1, h2]
theorem st_eq {x : Td} {F : Fo} (h : F.ok) (hl : F.len = kdT x) : stTx (x :: F.nodes) = stX x F.trs ∧ stTk (x :: F.nodes) = stK x F.trs := by
  rw [stTx, stTk, st_bld h hl]
  exact ⟨rfl, rfl⟩
/-- A program's text. -/
def prgTx (ps : List (List Td)) : List UInt8 := ps.flatMap fun t => stTx t ++ [10]
theorem prgTx_cons (t : List Td) (r : List (List Td)) : prgTx (t :: r) = stTx t ++ [10] ++ prgTx r := by simp [prgTx]
theorem prgTx_snoc (r : List (List Td)) (t : List Td) : prgTx (r ++ [t]) = prgTx r ++ (stTx t ++ [10]) := by simp [prgTx]
end Go.Proofs.YtmbeamcjpidnjaaGreatDoor
namespace Go.Proofs.YtmbeamcjpidnjaaGreatDoor
open Go

def glue (a b : UInt8) : Bool := (lowB a && lowB b) || (figB a && figB b)
def softB (b : UInt8) : Bool := !lowB b && !figB b
/-- What follows does not go on with the last word. -/
def endOk (s rest : List UInt8) : Prop := ∀ a b, s.getLast? = some a → rest.head? = some b → glue a b = false
theorem glue_right {a b : UInt8} (h : softB b = true) : glue a b = false := by
  simp only [softB, Bool.and_eq_true, Bool.not_eq_true'] at h
  simp [glue, h.1, h.2]
theorem glue_left {a b : UInt8} (h : softB a = true) : glue a b = false := by
  simp only [softB, Bool.and_eq_true, Bool.not_eq_true'] at h
  simp [glue, h.1, h.2]
theorem endOk_cons {s : List UInt8} {b : UInt8} (h : softB b = true) (r : List UInt8) : endOk s (b :: r) := fun _ c _ hc => by
  simp only [List.head?_cons, Option.some.injEq] at hc
  subst hc
  exact glue_right h
theorem endOk_snoc {a : UInt8} (h : softB a = true) (s r : List UInt8) : endOk (s ++ [a]) r := fun c _ hc _ => by
  simp only [List.getLast?_append, List.getLast?_singleton, Option.some_or, Option.some.injEq] at hc
  subst hc
  exact glue_left h
/-- A text's words, whatever follows. -/
def Lx (s : List UInt8) (ws : List Wd) : Prop := ∀ rest i, endOk s rest → (lxW (s ++ rest) i).map (·.2) = ws ++ (lxW rest (i + s.length)).map (·.2) ∧ lxF (s ++ rest) i = lxF rest (i + s.length)
theorem Lx.nil : Lx [] [] := fun rest i _ => by simp
theorem Lx.app {s t : List UInt8} {ws us : List Wd} (h1 : Lx s ws) (h2 : Lx t us) (h : endOk s t) : Lx (s ++ t) (ws ++ us) := by
  intro rest i hr
  have hst : endOk s (t ++ rest) := by
    intro a b ha hb
    cases t with
    | nil =>
      rw [List.append_nil] at hr
      exact hr a b ha hb
    | cons c t => exact h a b ha hb
  have htr : endOk t rest := by
    intro a b ha hb
    refine hr a b ?_ hb
    rw [List.getLast?_append, ha]; rfl
  obtain ⟨a1, a2⟩ := h1 (t ++ rest) i hst
  obtain ⟨b1, b2⟩ := h2 rest (i + s.length) htr
  rw [List.append_assoc, a1, a2, b1, b2, List.length_append, Nat.add_assoc]
  exact ⟨by simp, rfl⟩
theorem Lx.blank {c : UInt8} (h : spB c = true) : Lx [c] [] := by
  intro rest i _
  rw [List.cons_append, List.nil_append, lxW, lxF, lx_sp rest i h]
  exact ⟨by simp [lxW], by simp [lxF]⟩
/-- One word, if it does not go on. -/
theorem Lx.tok {c : UInt8} {r : List UInt8} (hs : spB c = false) (h : ∀ rest, endOk (c :: r) rest → tkOk (c :: r ++ rest) = true ∧ tkLen (c :: r ++ rest) = (c :: r).length) (ht : trimE (c :: r) = c :: r) : Lx (c :: r) [c :: r] := by
  intro rest i hr
  obtain ⟨h1, h2⟩ := h rest hr
  rw [List.cons_append] at h1 h2
  have ed : (c :: (r ++ rest)).drop (tkLen (c :: (r ++ rest))) = rest := by rw [h2, ← List.cons_append, List.drop_left]
  have ew : tkW (c :: (r ++ rest)) = c :: r := by rw [tkW, h2, ← List.cons_append, List.take_left, ht]
  rw [List.cons_append, lxW, lxF, lx_tok i hs h1, ed, ew, h2]
  exact ⟨rfl, rfl⟩
theorem tw_end {p : UInt8 → Bool} : ∀ (r rest : List UInt8), (∀ x ∈ r, p x = true) → (∀ b, rest.head? = some b → p b = false) → (r ++ rest).takeWhile p = r
  | [], rest, _, h => by
    cases rest with
    | nil => rfl
    | cons b t => rw [List.nil_append, List.takeWhile_cons, if_neg (by simp [h b rfl])]
  | a :: r, rest, h, h2 => by
    rw [List.cons_append, List.takeWhile_cons, if_pos (h a (by simp)), tw_end r rest (fun x hx => h x (by simp [hx])) h2]
theorem last_mem {s : List UInt8} (h : s ≠ []) : ∃ a, s.getLast? = some a ∧ a ∈ s := by
  refine ⟨s.getLast h, List.getLast?_eq_some_getLast h, List.getLast_mem h⟩
theorem trim_no {p : UInt8 → Bool} (hp : ∀ x, p x = true → x ≠ 32) {l : List UInt8} (h : ∀ x ∈ l, p x = true) : trimE l = l := by
  rcases List.eq_nil_or_concat l with rfl | ⟨v, c, rfl⟩
  · rfl
  · rw [List.concat_eq_append] at h ⊢
    exact trimE_other v (hp c (h c (by simp)))
theorem low_sp {c : UInt8} (h : lowB c = true) : spB c = false := by
  have h1 : c ≠ 32 := low_ne h
  have h2 : c ≠ 10 := by rintro rfl; revert h; decide
  simp [spB, h1, h2]
theorem fig_sp {c : UInt8} (h : figB c = true) : spB c = false := by
  have h1 : c ≠ 32 := fig_ne h
  have h2 : c ≠ 10 := by rintro rfl; revert h; decide
  simp [spB, h1, h2]
theorem Lx.name {w : Wd} (h : ∀ x ∈ w, lowB x = true) (h0 : w ≠ []) (h8 : w.length ≤ 8) : Lx w [w] := by
  cases w with
  | nil => exact absurd rfl h0
  | cons c r =>
    have hc := h c (by simp)
    refine Lx.tok (low_sp hc) (fun rest hr => ?_) (trim_no (fun _ => low_ne) h)
    obtain ⟨a, ha, hm⟩ := last_mem (s := c :: r) (by simp)
    have hb : ∀ b, rest.head? = some b → lowB b = false := fun b hb => by
      have := hr a b ha hb
      simp only [glue, h a hm, Bool.true_and, Bool.or_eq_false_iff] at this
      exact this.1
    have e := tw_end r rest (fun x hx => h x (by simp [hx])) hb
    rw [List.cons_append]
    simp only [tkOk, tkLen, hc, if_true, e]
    simp only [List.length_cons] at h8 ⊢
    exact ⟨decide_eq_true h8, trivial⟩
theorem Lx.num (n : Nat) (hn : n ≤ 999999) : Lx (decL n) [decL n] := by
  have hf := decL_fig n
  have h6 := decL_len 5 n (by omega)
  have hz : ∀ c r, decL n = c :: r → (c != 48 || r.length == 0) = true := fun c r e => by
    rcases Nat.eq_zero_or_pos n with h | h
    · subst h
      rw [decL, dif_pos (by omega)] at e
      cases e; rfl
    · obtain ⟨d, z, e2, hd⟩ := decL_head n h
      rw [e, List.cons.injEq] at e2
      rw [e2.1]; simp [hd]
  cases hd : decL n with
  | nil => exact absurd hd (decL_ne n)
  | cons c r =>
    rw [hd] at hf h6
    have hc := hf c (by simp)
    have hlow : lowB c = false := fig_low hc
    refine Lx.tok (fig_sp hc) (fun rest hr => ?_) (trim_no (fun _ => fig_ne) hf)
    obtain ⟨a, ha, hm⟩ := last_mem (s := c :: r) (by simp)
    have hb : ∀ b, rest.head? = some b → figB b = false := fun b hb => by
      have := hr a b ha hb
      simp only [glue, hf a hm, Bool.true_and, Bool.or_eq_false_iff] at this
      exact this.2
    have e := tw_end r rest (fun x hx => hf x (by simp [hx])) hb
    rw [List.cons_append]
    simp only [tkOk, tkLen, hc, hlow, if_true, Bool.false_eq_true, if_false, e]
    simp only [List.length_cons] at h6 ⊢
    exact ⟨by rw [decide_eq_true h6, hz c r hd]; rfl, trivial⟩
theorem Lx.mark {c : UInt8} (h : mrkB c = true) : Lx [c] [[c]] := by
  have hc : spB c = false ∧ lowB c = false ∧ figB c = false ∧ (c == 35) = false ∧ c ≠ 32 := by
    simp only [mrkB, marks, List.any_cons, List.any_nil, Bool.or_false, Bool.or_eq_true, beq_iff_eq] at h
    rcases h with h | h | h | h | h | h | h | h | h <;> (subst h; decide)
  obtain ⟨h1, h2, h3, h4, h5⟩ := hc
  refine Lx.tok h1 (fun rest _ => ?_) (trimE_other [] h5)
  rw [List.cons_append]
  simp only [tkOk, tkLen, h2, h3, h4, Bool.false_eq_true, if_false]
  exact ⟨h, rfl⟩
/-- Ahead of, and behind, what goes with nothing. -/
theorem Lx.pre {c : UInt8} {t : List UInt8} {ws us : List Wd} (h1 : Lx [c] ws) (hc : softB c = true) (h2 : Lx t us) : Lx (c :: t) (ws ++ us) :=
  Lx.app h1 h2 (endOk_snoc hc [] t)
theorem Lx.post {c : UInt8} {s : List UInt8} {ws us : List Wd} (h1 : Lx s ws) (hc : softB c = true) (h2 : Lx [c] us) : Lx (s ++ [c]) (ws ++ us) :=
  Lx.app h1 h2 (endOk_cons hc [])
theorem lx_brx {t : Tn} (h : Lx t.tx t.tk) (l : Nat) : Lx (brx l t) (brk l t) := by
  unfold brx brk
  split
  · exact Lx.pre (Lx.mark (c := 40) rfl) rfl (Lx.post h rfl (Lx.mark (c := 41) rfl))
  · exact h
theorem lx_cm : ∀ ks : List Tn, (∀ t ∈ ks, Lx t.tx t.tk) → Lx (cmx ks) (cmk ks)
  | [], _ => Lx.nil
  | [t], h => by simpa [cmx, cmk] using h t (by simp)
  | t :: u :: r, h => by
    have ih := lx_cm (u :: r) fun x hx => h x (by simp [hx])
    rw [cmx, cmk]
    have h3 : Lx (44 :: 32 :: cmx (u :: r)) ([44] :: cmk (u :: r)) := by
      have := Lx.pre (Lx.mark (c := 44) rfl) rfl (Lx.pre (Lx.blank (c := 32) rfl) rfl ih)
      simpa using this
    exact Lx.app (h t (by simp)) h3 (endOk_cons rfl _)
/-- The words of an expression's text. -/
theorem lx_all : ∀ F : Fo, F.ok → F.exs → ∀ t ∈ F.trs, Lx t.tx t.tk
  | .nil, _, _, t, ht => by cases ht
  | .cons x k n, hok, hex, t, ht => by
    have hexk : k.exs := fun y hy => hex y (by simp [Fo.nodes, hy])
    have hexn : n.exs := fun y hy => hex y (by simp [Fo.nodes, hy])
    have ihk := lx_all k hok.2.1 hexk
    rw [Fo.trs] at ht
    rcases List.mem_cons.1 ht with rfl | ht
    · have hlen : k.trs.length = kdT x := by rw [trs_len]; exact hok.1
      have hc := lx_cm k.trs ihk
      rcases exN_cases (hex x (by simp [Fo.nodes])) with ⟨ho, htx, hn0, hn1, hk⟩ | ⟨ho, hnm, hn0, hk⟩ | ⟨ho, hnm, hn0, hn1, hk⟩ | ⟨ho, htx, hn0, hn1, hk⟩ | ⟨ho, htx, hn0, hk⟩ | ⟨ho, htx, hn0, hk⟩
      · have h1 : (mkTn x k.trs).tx = decL x.n.toNat := by simp [mkTn, txOf, ho]
        have h2 : (mkTn x k.trs).tk = [decL x.n.toNat] := by simp [mkTn, tkOf, ho]
        rw [h1, h2]
        exact Lx.num _ (by omega)
      · obtain ⟨c, z, e, _, _, h8, hall⟩ := name_parts (w := btL x.tx) hnm
        have h1 : (mkTn x k.trs).tx = btL x.tx := by simp [mkTn, txOf, ho]
        have h2 : (mkTn x k.trs).tk = [btL x.tx] := by simp [mkTn, tkOf, ho]
        rw [h1, h2]
        exact Lx.name hall (by rw [e]; simp) h8
      · obtain ⟨c, z, e, _, _, h8, hall⟩ := name_parts (w := btL x.tx) hnm
        have h1 : (mkTn x k.trs).tx = btL x.tx ++ 40 :: (cmx k.trs ++ [41]) := by simp [mkTn, txOf, ho]
        have h2 : (mkTn x k.trs).tk = [btL x.tx] ++ ([[40]] ++ (cmk k.trs ++ [[41]])) := by simp [mkTn, tkOf, ho]
        rw [h1, h2]
        exact Lx.app (Lx.name hall (by rw [e]; simp) h8) (Lx.pre (Lx.mark (c := 40) rfl) rfl (Lx.post hc rfl (Lx.mark (c := 41) rfl))) (endOk_cons rfl _)
      · have h1 : (mkTn x k.trs).tx = 91 :: (cmx k.trs ++ [93]) := by simp [mkTn, txOf, ho]
        have h2 : (mkTn x k.trs).tk = [[91]] ++ (cmk k.trs ++ [[93]]) := by simp [mkTn, tkOf, ho]
        rw [h1, h2]
        exact Lx.pre (Lx.mark (c := 91) rfl) rfl (Lx.post hc rfl (Lx.mark (c := 93) rfl))
      · obtain ⟨a, b, hab⟩ := len2 (hlen.trans hk)
        rw [hab] at ihk ⊢
        have h1 : (mkTn x [a, b]).tx = brx 0 a ++ 32 :: 43 :: 32 :: brx 1 b := by simp [mkTn, txOf, two2, ho]
        have h2 : (mkTn x [a, b]).tk = brk 0 a ++ ([] ++ ([[43]] ++ ([] ++ brk 1 b))) := by simp [mkTn, tkOf, two2, ho]
        rw [h1, h2]
        exact Lx.app (lx_brx (ihk a (by simp)) 0) (Lx.pre (Lx.blank (c := 32) rfl) rfl (Lx.pre (Lx.mark (c := 43) rfl) rfl (Lx.pre (Lx.blank (c := 32) rfl) rfl (lx_brx (ihk b (by simp)) 1)))) (endOk_cons rfl _)
      · obtain ⟨a, b, hab⟩ := len2 (hlen.trans hk)
        rw [hab] at ihk ⊢
        have h1 : (mkTn x [a, b]).tx = brx 1 a ++ 32 :: 42 :: 32 :: brx 2 b := by simp [mkTn, txOf, two2, ho]
        have h2 : (mkTn x [a, b]).tk = brk 1 a ++ ([] ++ ([[42]] ++ ([] ++ brk 2 b))) := by simp [mkTn, tkOf, two2, ho]
        rw [h1, h2]
        exact Lx.app (lx_brx (ihk a (by simp)) 1) (Lx.pre (Lx.blank (c := 32) rfl) rfl (Lx.pre (Lx.mark (c := 42) rfl) rfl (Lx.pre (Lx.blank (c := 32) rfl) rfl (lx_brx (ihk b (by simp)) 2)))) (endOk_cons rfl _)
    · exact lx_all n hok.2.2 hexn t ht
end Go.Proofs.YtmbeamcjpidnjaaGreatDoor
namespace Go.Proofs.YtmbeamcjpidnjaaGreatDoor
open Go

theorem app_trs : ∀ (f g : Fo), (f.app g).trs = f.trs ++ g.trs
  | .nil, g => rfl
  | .cons x k n, g => by simp [Fo.app, Fo.trs, app_trs n g]
/-- Nodes are one with what is under it. -/
def Tree1 (ns : List Td) (t : Tn) : Prop := ∃ F : Fo, F.ok ∧ F.trs = [t] ∧ F.nodes = ns ∧ ∀ x ∈ ns, x.op < 7
theorem brk_le (t : Tn) (a b : Nat) (h : a ≤ b) : (brk a t).length ≤ (brk b t).length := by
  unfold brk
  split
  · rw [if_pos (by omega)]; exact Nat.le_refl _
  · split
    · simp; omega
    · exact Nat.le_refl _
theorem brk_two (t : Tn) (b : Nat) : (brk b t).length ≤ (brk 0 t).length + 2 := by
  rw [brk_zero]
  unfold brk
  split
  · simp
  · omega
def leafF (x : Td) : Fo := .cons x .nil .nil
theorem leaf1 {x : Td} (h : kdT x = 0) (h7 : x.op < 7) : Tree1 [x] (mkTn x []) :=
  ⟨leafF x, ⟨h.symm, trivial, trivial⟩, rfl, rfl, fun y hy => by rw [List.mem_singleton] at hy; rw [hy]; exact h7⟩
theorem node1 {x : Td} {K : Fo} (hk : K.ok) (h : K.len = kdT x) (h7 : x.op < 7) (ha : ∀ y ∈ K.nodes, y.op < 7) : Tree1 (x :: K.nodes) (mkTn x K.trs) :=
  ⟨.cons x K .nil, ⟨h, hk, trivial⟩, rfl, by simp [Fo.nodes], fun y hy => by
    rcases List.mem_cons.1 hy with rfl | hy
    · exact h7
    · exact ha y hy⟩
theorem kd_op {k : Nat} (hk : k < 2) : kdT (sgT k) = 2 := by
  rcases Nat.lt_or_ge k 1 with h | h
  · obtain rfl : k = 0 := by omega
    rfl
  · obtain rfl : k = 1 := by omega
    rfl
theorem two1 {k : Nat} (hk : k < 2) {a b : List Td} {s t : Tn} (ha : Tree1 a s) (hb : Tree1 b t) : Tree1 (sgT k :: (a ++ b)) (mkTn (sgT k) [s, t]) := by
  obtain ⟨F, f1, f2, f3, f4⟩ := ha
  obtain ⟨G, g1, g2, g3, g4⟩ := hb
  have hl : (F.app G).len = 2 := by rw [← trs_len, app_trs, f2, g2]; rfl
  have h := node1 (x := sgT k) (K := F.app G) (app_ok f1 g1) (by rw [hl, kd_op hk]) (by show (5 : Int) + k < 7; omega) (fun y hy => by
    rw [app_nodes, f3, g3] at hy
    rcases List.mem_append.1 hy with hy | hy
    · exact f4 y hy
    · exact g4 y hy)
  rw [app_nodes, f3, g3, app_trs, f2, g2] at h
  exact h
theorem two_len {k : Nat} (hk : k < 2) (s t : Tn) : (brk k (mkTn (sgT k) [s, t])).length = (brk k s).length + 1 + (brk (k + 1) t).length := by
  rcases Nat.lt_or_ge k 1 with h | h
  · obtain rfl : k = 0 := by omega
    rw [brk_zero]
    simp [mkTn, tkOf, sgT, two2]; omega
  · obtain rfl : k = 1 := by omega
    rw [brk, if_neg (by simp [mkTn, prc, sgT])]
    simp [mkTn, tkOf, sgT, two2]; omega
theorem cmk_len : ∀ ks : List Tn, (cmk ks).length + 1 = (ks.map fun t => t.tk.length + 1).sum + (if ks = [] then 1 else 0)
  | [] => rfl
  | [t] => by simp [cmk]
  | t :: u :: r => by
    have ih := cmk_len (u :: r)
    rw [cmk_cons, cmt, List.length_append, List.length_cons, List.map_cons, List.sum_cons]
    rw [if_neg (by simp)] at ih ⊢
    omega
theorem cmk_app (ks : List Tn) (t : Tn) : (cmk (ks ++ [t])).length = (cmk ks).length + t.tk.length + (if ks = [] then 0 else 1) := by
  have h1 := cmk_len (ks ++ [t])
  have h2 := cmk_len ks
  rw [if_neg (by simp), List.map_append, List.sum_append] at h1
  simp only [List.map_cons, List.map_nil, List.sum_cons, List.sum_nil] at h1
  by_cases h : ks = []
  · rw [if_pos h] at h2 ⊢; omega
  · rw [if_neg h] at h2 ⊢; omega
theorem many_c {w : Wd} (h : notN w = true) (ts : List Wd) : many (w :: ts) = many ts + 1 := by
  simp [many, h]
theorem not_sgn (k : Nat) : notN (sgn k) = true := by
  unfold sgn
  split <;> rfl
theorem not_num {w : Wd} (h : numW w = true) : notN w = true := by
  have := (begW_ne (.inr (.inr (.inl h)))).2.2.2.2
  simpa [notN] using this
theorem not_name {w : Wd} (h : nmW w = true) : notN w = true := by
  have := (begW_ne (.inr (.inr (.inr h)))).2.2.2.2
  simpa [notN] using this
/-- What is read, and how many words it had. -/
def GoodR (j : Job) (ts : List Wd) : Rs → Prop
  | .bad _ => True
  | .ok m ns u => match j with
    | .level k => ∃ t, Tree1 ns t ∧ (brk k t).length + many u ≤ many ts
    | .single => ∃ t, Tree1 ns t ∧ (brk 2 t).length + many u ≤ many ts
    | .loop k acc => k < 2 → ∀ t0, Tree1 acc t0 → ∃ t, Tree1 ns t ∧ (brk k t).length + many u ≤ (brk k t0).length + many ts
    | .args e n acc => notN e = true → ∀ F : Fo, F.ok → F.len = n → F.nodes = acc → (∀ x ∈ acc, x.op < 7) → ∃ G : Fo, G.ok ∧ G.len = m ∧ G.nodes = ns ∧ (∀ x ∈ ns, x.op < 7) ∧ (cmk G.trs).length + 1 + many u ≤ (cmk F.trs).length + many ts
theorem fo_step {F : Fo} {acc ns : List Td} {t : Tn} (hF : F.ok) (hn : F.nodes = acc) (ha : ∀ x ∈ acc, x.op < 7) (ht : Tree1 ns t) : ∃ G : Fo, G.ok ∧ G.len = F.len + 1 ∧ G.nodes = acc ++ ns ∧ (∀ x ∈ acc ++ ns, x.op < 7) ∧ G.trs = F.trs ++ [t] := by
  obtain ⟨T, t1, t2, t3, t4⟩ := ht
  refine ⟨F.app T, app_ok hF t1, ?_, by rw [app_nodes, hn, t3], fun x hx => ?_, by rw [app_trs, t2]⟩
  · rw [app_len, ← trs_len T, t2]; rfl
  · rcases List.mem_append.1 hx with hx | hx
    · exact ha x hx
    · exact t4 x hx
theorem pr_good {j : Job} {ts : List Wd} {r : Rs} (h : PR j ts r) : GoodR j ts r := by
  induction h with
  | lev2 _ ih => rename_i r _; cases r with
    | bad => trivial
    | ok m ns u => exact ih
  | levB => trivial
  | levO h0 _ _ ih1 ih2 => rename_i k _ _ _ _ r _ _; cases r with
    | bad => trivial
    | ok m ns u =>
      obtain ⟨t0, a1, a2⟩ := ih1
      obtain ⟨t, b1, b2⟩ := ih2 h0 t0 a1
      have := brk_le t0 k (k + 1) (by omega)
      exact ⟨t, b1, by omega⟩
  | lopE _ => exact fun _ t0 h => ⟨t0, h, Nat.le_refl _⟩
  | lopB => trivial
  | lopO _ _ ih1 ih2 => rename_i r _ _; cases r with
    | bad => trivial
    | ok m ns u =>
      intro hk t0 h0
      obtain ⟨t1, a1, a2⟩ := ih1
      obtain ⟨t, b1, b2⟩ := ih2 hk _ (two1 hk h0 a1)
      rw [two_len hk] at b2
      exact ⟨t, b1, by rw [many_c (not_sgn _)]; omega⟩
  | sinN => trivial
  | sPB => trivial
  | sPC _ ih =>
    obtain ⟨t, a1, a2⟩ := ih
    have := brk_two t 2
    exact ⟨t, a1, by rw [many_c (w := [41]) rfl] at a2; rw [many_c (w := [40]) rfl]; omega⟩
  | sPX => trivial
  | sLB => trivial
  | sLO _ ih =>
    rename_i ts n ns u _
    obtain ⟨G, g1, g2, g3, g4, g5⟩ := ih rfl .nil trivial rfl rfl (fun x hx => by cases hx)
    have hkd : kdT (lsT n) = n := by simp [kdT, lsT]
    refine ⟨mkTn (lsT n) G.trs, ?_, ?_⟩
    · rw [← g3]
      exact node1 g1 (by rw [hkd]; exact g2) (by show (4 : Int) < 7; omega) (by rw [g3]; exact g4)
    · rw [brk, if_neg (by simp [mkTn, prc, lsT])]
      have e : (mkTn (lsT n) G.trs).tk.length = (cmk G.trs).length + 2 := by simp [mkTn, tkOf, lsT]
      have e0 : (cmk Fo.nil.trs).length = 0 := rfl
      rw [e, many_c (w := [91]) rfl]
      omega
  | sNum h0 =>
    rename_i w ts
    refine ⟨mkTn (litT w) [], leaf1 (by simp [kdT, litT]) (by show (1 : Int) < 7; omega), ?_⟩
    rw [brk, if_neg (by simp [mkTn, prc, litT]), many_c (not_num h0)]
    simp [mkTn, tkOf, litT]; omega
  | sName h0 _ =>
    rename_i w ts _
    refine ⟨mkTn (nmT w) [], leaf1 (by simp [kdT, nmT]) (by show (2 : Int) < 7; omega), ?_⟩
    rw [brk, if_neg (by simp [mkTn, prc, nmT]), many_c (not_name h0)]
    simp [mkTn, tkOf, nmT]; omega
  | sCB => trivial
  | sCO h0 _ ih =>
    rename_i w ts n ns u _
    obtain ⟨G, g1, g2, g3, g4, g5⟩ := ih rfl .nil trivial rfl rfl (fun x hx => by cases hx)
    have hkd : kdT (clT w n) = n := by simp [kdT, clT]
    refine ⟨mkTn (clT w n) G.trs, ?_, ?_⟩
    · rw [← g3]
      exact node1 g1 (by rw [hkd]; exact g2) (by show (3 : Int) < 7; omega) (by rw [g3]; exact g4)
    · rw [brk, if_neg (by simp [mkTn, prc, clT])]
      have e : (mkTn (clT w n) G.trs).tk.length = (cmk G.trs).length + 3 := by simp [mkTn, tkOf, clT]
      have e0 : (cmk Fo.nil.trs).length = 0 := rfl
      rw [e, many_c (not_name h0), many_c (w := [40]) rfl]
      omega
  | sBad => trivial
  | aEnd => exact fun he F hF hl hn ha => ⟨F, hF, hl, hn, ha, by rw [many_c he]; omega⟩
  | aSep => trivial
  | aB0 => trivial
  | aO0 _ _ _ ih1 ih2 => rename_i r _ _ _; cases r with
    | bad => trivial
    | ok m ns u =>
      intro he F hF hl hn ha
      obtain ⟨t, a1, a2⟩ := ih1
      obtain ⟨G, g1, g2, g3, g4, g5⟩ := fo_step hF hn ha a1
      obtain ⟨H, h1, h2, h3, h4, h5⟩ := ih2 he G g1 (by omega) g3 g4
      have hnil : F.trs = [] := List.eq_nil_of_length_eq_zero (by rw [trs_len]; exact hl)
      rw [g5, cmk_app, if_pos hnil] at h5
      rw [brk_zero] at a2
      exact ⟨H, h1, h2, h3, h4, by omega⟩
  | aB => trivial
  | aO _ _ _ ih1 ih2 => rename_i r _ _ _; cases r with
    | bad => trivial
    | ok m ns u =>
      intro he F hF hl hn ha
      obtain ⟨t, a1, a2⟩ := ih1
      obtain ⟨G, g1, g2, g3, g4, g5⟩ := fo_step hF hn ha a1
      obtain ⟨H, h1, h2, h3, h4, h5⟩ := ih2 he G g1 (by omega) g3 g4
      have hne : F.trs ≠ [] := fun e => by
        have := trs_len F
        rw [e, hl] at this; simp at this
      rw [g5, cmk_app, if_neg hne] at h5
      rw [brk_zero] at a2
      exact ⟨H, h1, h2, h3, h4, by rw [many_c (w := [44]) rfl]; omega⟩
end Go.Proofs.YtmbeamcjpidnjaaGreatDoor
namespace Go.Proofs.YtmbeamcjpidnjaaGreatDoor
open Go

/-- A note's text, word by word. -/
def addW (t l : Wd) : Wd := (if l ≠ [] ∧ t ≠ [] then t ++ [32] else t) ++ l
def ntx (ws : List Wd) : Wd := ws.foldl addW []
def noteTx (w : Wd) : Wd := ntx (noteW (w.drop 1))
/-- Words with blanks between. -/
def jb : List Wd → Wd
  | [] => []
  | w :: r => w ++ match r with
    | [] => []
    | _ :: _ => 32 :: jb r
theorem jb_spl : ∀ s : List UInt8, jb (splB s) = s
  | [] => rfl
  | c :: r => by
    have ih := jb_spl r
    by_cases hc : c = 32
    · subst hc
      rw [splB_blank]
      cases hs : splB r with
      | nil => exact absurd hs (splB_ne r)
      | cons w ws =>
        rw [hs] at ih
        simp [jb, ← ih]
    · cases hs : splB r with
      | nil => exact absurd hs (splB_ne r)
      | cons w ws =>
        rw [splB_other hc hs]
        rw [hs] at ih
        rw [← ih]
        simp [jb]
theorem fold_jb : ∀ (ws : List Wd) (t : Wd), (∀ w ∈ ws, w ≠ []) → t ≠ [] → ws.foldl addW t = t ++ (match ws with | [] => [] | _ :: _ => 32 :: jb ws)
  | [], t, _, _ => by simp
  | w :: r, t, h, ht => by
    have hw := h w (by simp)
    have e : addW t w = t ++ 32 :: w := by simp [addW, hw, ht]
    rw [List.foldl_cons, e, fold_jb r _ (fun x hx => h x (by simp [hx])) (by simp)]
    cases r with
    | nil => simp [jb]
    | cons u r => simp [jb]
theorem ntx_jb {ws : List Wd} (h : ∀ w ∈ ws, w ≠ []) : ntx ws = jb ws := by
  cases ws with
  | nil => rfl
  | cons w r =>
    have hw := h w (by simp)
    have e : addW [] w = w := by simp [addW]
    rw [ntx, List.foldl_cons, e, fold_jb r w (fun x hx => h x (by simp [hx])) hw]
    cases r <;> simp [jb]
theorem ntx_blank (ws : List Wd) : ntx ([] :: ws) = ntx ws := by
  have e : addW [] [] = [] := by simp [addW]
  rw [ntx, List.foldl_cons, e]; rfl
/-- A note that may be: its words. -/
theorem note_ok {tx : ByteArray} (h : noteF tx = 0) : (noteW (btL tx)).length ≤ 60 ∧ ∀ w ∈ noteW (btL tx), w ≠ [] ∧ w.length ≤ 20 ∧ ∀ b ∈ w, wByte b = true := by
  obtain ⟨h1, h2⟩ := wordsF_zero h
  refine ⟨by simpa using h1, fun w hw => ?_⟩
  have h3 := h2 (wbS w) (List.mem_map.2 ⟨w, hw, rfl⟩)
  have hl : (wbS w).size = w.length := by rw [← btL_len]; rfl
  simp only [okW, Bool.and_eq_true, decide_eq_true_eq, List.all_eq_true, hl] at h3
  refine ⟨fun e => ?_, h3.1.2, h3.2⟩
  rw [e] at h3; simp at h3
def nTok (tx : ByteArray) : Wd := if tx.size = 0 then [35] else [35, 32] ++ btL tx
theorem size_nil {tx : ByteArray} : tx.size = 0 ↔ btL tx = [] := by
  rw [← btL_len]
  exact List.length_eq_zero_iff
theorem noteTx_tok {tx : ByteArray} (h : noteF tx = 0) : noteTx (nTok tx) = btL tx := by
  obtain ⟨_, h2⟩ := note_ok h
  unfold nTok noteTx
  by_cases h0 : tx.size = 0
  · rw [if_pos h0, size_nil.1 h0]; rfl
  · rw [if_neg h0]
    have hne : btL tx ≠ [] := fun e => h0 (size_nil.2 e)
    have e1 : ([35, 32] ++ btL tx).drop 1 = 32 :: btL tx := rfl
    have e2 : noteW (btL tx) = splB (btL tx) := by rw [noteW, if_neg hne]
    rw [e1, noteW, if_neg (by simp), splB_blank, ntx_blank, ntx_jb (fun w hw => (h2 w (by rw [e2]; exact hw)).1), jb_spl]
theorem jb_bytes {p : UInt8 → Bool} (h32 : p 32 = true) : ∀ ws : List Wd, (∀ w ∈ ws, ∀ b ∈ w, p b = true) → ∀ b ∈ jb ws, p b = true
  | [], _, b, hb => by cases hb
  | [w], h, b, hb => by
    have e : jb [w] = w := by simp [jb]
    rw [e] at hb
    exact h w (by simp) b hb
  | w :: u :: r, h, b, hb => by
    have e : jb (w :: u :: r) = w ++ 32 :: jb (u :: r) := by simp [jb]
    rw [e] at hb
    rcases List.mem_append.1 hb with hb | hb
    · exact h w (by simp) b hb
    · rcases List.mem_cons.1 hb with rfl | hb
      · exact h32
      · exact jb_bytes h32 (u :: r) (fun x hx => h x (by simp [hx])) b hb
theorem jb_last : ∀ (ws : List Wd), ws ≠ [] → (∀ w ∈ ws, w ≠ []) → ∃ v c, jb ws = v ++ [c] ∧ ∃ w ∈ ws, c ∈ w
  | [], h, _ => absurd rfl h
  | [w], _, h => by
    have hw := h w (by simp)
    rcases List.eq_nil_or_concat w with e | ⟨v, c, e⟩
    · exact absurd e hw
    · exact ⟨v, c, by rw [jb, e]; simp, w, by simp, by rw [e]; simp⟩
  | w :: u :: r, _, h => by
    obtain ⟨v, c, e, x, hx, hc⟩ := jb_last (u :: r) (by simp) fun y hy => h y (by simp [hy])
    exact ⟨w ++ 32 :: v, c, by rw [jb]; simp [e], x, by simp [hx], hc⟩
/-- A note's word is one by itself. -/
theorem note_tok {tx : ByteArray} (h : noteF tx = 0) : isTok (nTok tx) := by
  obtain ⟨_, h2⟩ := note_ok h
  unfold nTok
  by_cases h0 : tx.size = 0
  · rw [if_pos h0]
    exact ⟨35, [], rfl, rfl, rfl, rfl, rfl⟩
  · rw [if_neg h0]
    have hne : btL tx ≠ [] := fun e => h0 (size_nil.2 e)
    have e2 : noteW (btL tx) = splB (btL tx) := by rw [noteW, if_neg hne]
    rw [e2] at h2
    have hj := jb_spl (btL tx)
    have hpr : ∀ b ∈ btL tx, prB b = true ∧ nlB b = true := by
      intro b hb
      rw [← hj] at hb
      have := jb_bytes (p := fun b => prB b && nlB b) rfl (splB (btL tx)) (fun w hw b hb => by
        have h3 := (h2 w hw).2.2 b hb
        simp only [wByte, Bool.and_eq_true, decide_eq_true_eq] at h3
        simp only [prB, nlB, Bool.and_eq_true, decide_eq_true_eq, bne_iff_ne, ne_eq]
        refine ⟨by omega, ?_⟩
        rintro rfl
        simp at h3) b hb
      simpa using this
    have htw : (32 :: btL tx).takeWhile nlB = 32 :: btL tx := by
      have := tw_end (p := nlB) (32 :: btL tx) [] (fun x hx => by
        rcases List.mem_cons.1 hx with rfl | hx
        · rfl
        · exact (hpr x hx).2) (fun b hb => by cases hb)
      rw [List.append_nil] at this
      exact this
    refine ⟨35, 32 :: btL tx, rfl, rfl, ?_, ?_, ?_⟩
    · simp only [tkOk]
      rw [htw]
      simp only [lowB, figB]
      show List.all _ _ = true
      rw [List.all_eq_true]
      intro x hx
      rcases List.mem_cons.1 hx with rfl | hx
      · rfl
      · exact (hpr x hx).1
    · simp only [tkLen]
      rw [htw]; rfl
    · obtain ⟨v, c, e, w, hw, hc⟩ := jb_last (splB (btL tx)) (splB_ne _) (fun w hw => (h2 w hw).1)
      rw [hj] at e
      have hc32 : c ≠ 32 := by
        rintro rfl
        have := (h2 w hw).2.2 32 hc
        revert this; decide
      have e3 : (35 :: 32 :: btL tx) = (35 :: 32 :: v) ++ [c] := by rw [e]; rfl
      rw [e3]
      exact trimE_other _ hc32

/-- What comes of reading a program. -/
inductive Rp where
  | ok (ps : List (List Td)) : Rp
  | bad (rest : List Wd) : Rp
abbrev letW : Wd := [108, 101, 116]
def ntT (t : Wd) : Td := ⟨9, wbS t, 0⟩
def letT (w : Wd) : Td := ⟨7, wbS w, 0⟩
def doT : Td := ⟨8, ⟨#[]⟩, 0⟩
def lastTx (acc : List (List Td)) : Wd := match acc.getLast? with
  | some (x :: _) => btL x.tx
  | _ => []
/-- Notes that follow one another are one. -/
def addN (pv : Bool) (acc : List (List Td)) (t : Wd) : List (List Td) := if pv then acc.dropLast ++ [[ntT (addW (lastTx acc) t)]] else acc ++ [[ntT t]]
inductive PG : Bool → List (List Td) → List Wd → Rp → Prop where
  | done {pv acc} : PG pv acc [] (.ok acc)
  | note {pv acc w ts r} : w.headD 0 = 35 → PG true (addN pv acc (noteTx w)) ts r → PG pv acc (w :: ts) r
  | letN {pv acc ts} : (∀ w, ts.head? = some w → nmW w = false) → PG pv acc (letW :: ts) (.bad ts)
  | letE {pv acc nm ts} : nmW nm = true → ts.head? ≠ some [61] → PG pv acc (letW :: nm :: ts) (.bad ts)
  | letB {pv acc nm ts u} : nmW nm = true → PR (.level 0) ts (.bad u) → PG pv acc (letW :: nm :: [61] :: ts) (.bad u)
  | letX {pv acc nm ts m ns u} : nmW nm = true → PR (.level 0) ts (.ok m ns u) → u.head? ≠ some [59] → PG pv acc (letW :: nm :: [61] :: ts) (.bad u)
  | letO {pv acc nm ts m ns u r} : nmW nm = true → PR (.level 0) ts (.ok m ns ([59] :: u)) → PG false (acc ++ [letT nm :: ns]) u r → PG pv acc (letW :: nm :: [61] :: ts) r
  | doB {pv acc w ts u} : w.headD 0 ≠ 35 → w ≠ letW → PR (.level 0) (w :: ts) (.bad u) → PG pv acc (w :: ts) (.bad u)
  | doX {pv acc w ts m ns u} : w.headD 0 ≠ 35 → w ≠ letW → PR (.level 0) (w :: ts) (.ok m ns u) → u.head? ≠ some [59] → PG pv acc (w :: ts) (.bad u)
  | doO {pv acc w ts m ns u r} : w.headD 0 ≠ 35 → w ≠ letW → PR (.level 0) (w :: ts) (.ok m ns ([59] :: u)) → PG false (acc ++ [doT :: ns]) u r → PG pv acc (w :: ts) r
theorem let_35 : letW.headD 0 ≠ 35 := by decide
theorem pg_det {pv : Bool} {acc : List (List Td)} {ts : List Wd} {r : Rp} (h : PG pv acc ts r) : ∀ {r' : Rp}, PG pv acc ts r' → r = r' := by
  induction h with
  | done => intro r' h'; cases h'; rfl
  | note h0 _ ih => intro r' h'; cases h' with
    | note _ h2 => exact ih h2
    | letN => exact absurd h0 let_35
    | letE => exact absurd h0 let_35
    | letB => exact absurd h0 let_35
    | letX => exact absurd h0 let_35
    | letO => exact absurd h0 let_35
    | doB h2 => exact absurd h0 h2
    | doX h2 => exact absurd h0 h2
    | doO h2 => exact absurd h0 h2
  | letN h0 => intro r' h'; cases h' with
    | note h2 => exact absurd h2 let_35
    | letN => rfl
    | letE h2 => rw [h0 _ rfl] at h2; cases h2
    | letB h2 => rw [h0 _ rfl] at h2; cases h2
    | letX h2 => rw [h0 _ rfl] at h2; cases h2
    | letO h2 => rw [h0 _ rfl] at h2; cases h2
    | doB _ h2 => exact absurd rfl h2
    | doX _ h2 => exact absurd rfl h2
    | doO _ h2 => exact absurd rfl h2
  | letE h0 h1 => intro r' h'; cases h' with
    | note h2 => exact absurd h2 let_35
    | letN h2 => rw [h2 _ rfl] at h0; cases h0
    | letE => rfl
    | letB => simp at h1
    | letX => simp at h1
    | letO => simp at h1
    | doB _ h2 => exact absurd rfl h2
    | doX _ h2 => exact absurd rfl h2
    | doO _ h2 => exact absurd rfl h2
  | letB h0 h1 => intro r' h'; cases h' with
    | note h2 => exact absurd h2 let_35
    | letN h2 => rw [h2 _ rfl] at h0; cases h0
    | letE _ h2 => simp at h2
    | letB _ h2 => cases pr_det h1 h2; rfl
    | letX _ h2 => cases pr_det h1 h2
    | letO _ h2 => cases pr_det h1 h2
    | doB _ h2 => exact absurd rfl h2
    | doX _ h2 => exact absurd rfl h2
    | doO _ h2 => exact absurd rfl h2
  | letX h0 h1 h3 => intro r' h'; cases h' with
    | note h2 => exact absurd h2 let_35
    | letN h2 => rw [h2 _ rfl] at h0; cases h0
    | letE _ h2 => simp at h2
    | letB _ h2 => cases pr_det h1 h2
    | letX _ h2 _ => cases pr_det h1 h2; rfl
    | letO _ h2 _ => cases pr_det h1 h2; simp at h3
    | doB _ h2 => exact absurd rfl h2
    | doX _ h2 => exact absurd rfl h2
    | doO _ h2 => exact absurd rfl h2
  | letO h0 h1 _ ih => intro r' h'; cases h' with
    | note h2 => exact absurd h2 let_35
    | letN h2 => rw [h2 _ rfl] at h0; cases h0
    | letE _ h2 => simp at h2
    | letB _ h2 => cases pr_det h1 h2
    | letX _ h2 h4 => cases pr_det h1 h2; simp at h4
    | letO _ h2 h4 => cases pr_det h1 h2; exact ih h4
    | doB _ h2 => exact absurd rfl h2
    | doX _ h2 => exact absurd rfl h2
    | doO _ h2 => exact absurd rfl h2
  | doB h0 h1 h3 => intro r' h'; cases h' with
    | note h2 => exact absurd h2 h0
    | letN => exact absurd rfl h1
    | letE => exact absurd rfl h1
    | letB => exact absurd rfl h1
    | letX => exact absurd rfl h1
    | letO => exact absurd rfl h1
    | doB _ _ h2 => cases pr_det h3 h2; rfl
    | doX _ _ h2 => cases pr_det h3 h2
    | doO _ _ h2 => cases pr_det h3 h2
  | doX h0 h1 h3 h4 => intro r' h'; cases h' with
    | note h2 => exact absurd h2 h0
    | letN => exact absurd rfl h1
    | letE => exact absurd rfl h1
    | letB => exact absurd rfl h1
    | letX => exact absurd rfl h1
    | letO => exact absurd rfl h1
    | doB _ _ h2 => cases pr_det h3 h2
    | doX _ _ h2 _ => cases pr_det h3 h2; rfl
    | doO _ _ h2 _ => cases pr_det h3 h2; simp at h4
  | doO h0 h1 h3 _ ih => intro r' h'; cases h' with
    | note h2 => exact absurd h2 h0
    | letN => exact absurd rfl h1
    | letE => exact absurd rfl h1
    | letB => exact absurd rfl h1
    | letX => exact absurd rfl h1
    | letO => exact absurd rfl h1
    | doB _ _ h2 => cases pr_det h3 h2
    | doX _ _ h2 h4 => cases pr_det h3 h2; simp at h4
    | doO _ _ h2 h4 => cases pr_det h3 h2; exact ih h4
end Go.Proofs.YtmbeamcjpidnjaaGreatDoor
namespace Go.Proofs.YtmbeamcjpidnjaaGreatDoor
open Go

/-- Statements that may be, one behind the other. -/
def okP : Int → List (List Td) → Prop
  | _, [] => True
  | prev, t :: r => treeF t = 0 ∧ ¬ (opT t = 9 ∧ prev = 9) ∧ okP (opT t) r
theorem okP_of : ∀ (ps : List (List Td)) (prev : Int) (k : Nat), (progG prev k ps).2 = 0 → okP prev ps
  | [], _, _, _ => trivial
  | t :: r, prev, k, h => by
    rw [progG] at h
    split at h
    · rename_i h1; exact absurd h h1
    · rename_i h1
      split at h
      · cases h
      · rename_i h2
        exact ⟨by omega, h2, okP_of r _ _ h⟩
theorem progG_ok : ∀ (ps : List (List Td)) (prev : Int) (k : Nat), okP prev ps → progG prev k ps = (0, 0)
  | [], _, _, _ => rfl
  | t :: r, prev, k, h => by
    rw [progG, if_neg (by simp [h.1]), if_neg h.2.1]
    exact progG_ok r _ _ h.2.2
theorem prog_ok {ps : List (List Td)} (h : (progF ps).2 = 0) : ps.length ≤ 20 ∧ okP 0 ps := by
  unfold progF at h
  split at h
  · cases h
  · exact ⟨by omega, okP_of ps 0 0 h⟩
/-- The words of a line, what follows behind its end. -/
theorem lx_line {t : List Td} (h : treeF t = 0) (rest : List UInt8) (i : Nat) : (lxW (stTx t ++ 10 :: rest) i).map (·.2) = stTk t ++ (lxW rest (i + (stTx t).length + 1)).map (·.2) ∧ lxF (stTx t ++ 10 :: rest) i = lxF rest (i + (stTx t).length + 1) := by
  have hnl : ∀ {s : List UInt8} {ws : List Wd}, Lx s ws → (lxW (s ++ 10 :: rest) i).map (·.2) = ws ++ (lxW rest (i + s.length + 1)).map (·.2) ∧ lxF (s ++ 10 :: rest) i = lxF rest (i + s.length + 1) := fun {s ws} hl => by
    obtain ⟨a1, a2⟩ := hl (10 :: rest) i (endOk_cons rfl rest)
    have e : lx (10 :: rest) (i + s.length) = lx rest (i + s.length + 1) := lx_sp _ _ rfl
    rw [a1, a2, lxW, lxF, e]
    exact ⟨rfl, rfl⟩
  rcases st_cases h with ⟨x, rfl, ho, _, hnf⟩ | ⟨x, F, rfl, hok, hex, hl, hx⟩
  · have e1 : stTx [x] = nTok x.tx ∧ stTk [x] = [nTok x.tx] := by
      have hk : (Fo.nil).len = kdT x := by unfold kdT; rw [ho]; rfl
      have := st_eq (x := x) (F := .nil) trivial hk
      rw [show ([x] : List Td) = x :: Fo.nil.nodes from rfl, this.1, this.2]
      simp [stX, stK, ho, nTok]
    have e2 := lx_one (note_tok hnf) rest i
    rw [e1.1, e1.2, lxW, lxF, e2]
    exact ⟨rfl, rfl⟩
  · have hkd : F.len = kdT x := by
      rw [hl]
      unfold kdT
      rcases hx with ⟨h, _⟩ | ⟨h, _⟩ <;> rw [h] <;> rfl
    obtain ⟨e1, e2⟩ := st_eq hok hkd
    have htl : F.trs.length = 1 := by rw [trs_len]; exact hl
    obtain ⟨t, ht⟩ : ∃ t, F.trs = [t] := by
      match F.trs, htl with
      | [t], _ => exact ⟨t, rfl⟩
    have hlt := lx_all F hok hex t (by rw [ht]; simp)
    rw [e1, e2, ht]
    refine hnl ?_
    have hsc := Lx.post hlt (c := 59) rfl (Lx.mark (c := 59) rfl)
    rcases hx with ⟨ho, hnm, _⟩ | ⟨ho, _, _⟩
    · obtain ⟨c, z, e, _, _, h8, hall⟩ := name_parts (w := btL x.tx) hnm
      have hname := Lx.name hall (by rw [e]; simp) h8
      have hlet : Lx letW [letW] := Lx.name (by decide) (by decide) (by decide)
      have h3 : Lx (32 :: 61 :: 32 :: (t.tx ++ [59])) ([] ++ ([[61]] ++ ([] ++ (t.tk ++ [[59]])))) := Lx.pre (Lx.blank (c := 32) rfl) rfl (Lx.pre (Lx.mark (c := 61) rfl) rfl (Lx.pre (Lx.blank (c := 32) rfl) rfl hsc))
      have h4 := Lx.app hname h3 (endOk_cons rfl _)
      have h5 := Lx.app hlet (Lx.pre (Lx.blank (c := 32) rfl) rfl h4) (endOk_cons rfl _)
      have q1 : stX x [t] = letW ++ 32 :: (btL x.tx ++ 32 :: 61 :: 32 :: (t.tx ++ [59])) := by simp [stX, ho, hdT]
      have q2 : stK x [t] = [letW] ++ ([] ++ ([btL x.tx] ++ ([] ++ ([[61]] ++ ([] ++ (t.tk ++ [[59]])))))) := by simp [stK, ho, hdK]
      rw [q1, q2]
      exact h5
    · have q1 : stX x [t] = t.tx ++ [59] := by simp [stX, ho, hdT]
      have q2 : stK x [t] = t.tk ++ [[59]] := by simp [stK, ho, hdK]
      rw [q1, q2]
      exact hsc
theorem lx_prog : ∀ (ps : List (List Td)) (prev : Int) (i : Nat), okP prev ps → (lxW (prgTx ps) i).map (·.2) = ps.flatMap stTk ∧ lxF (prgTx ps) i = none
  | [], _, i, _ => by
    rw [show prgTx [] = [] from rfl, lxW, lxF, lx_nil]
    exact ⟨rfl, rfl⟩
  | t :: r, prev, i, h => by
    have e : prgTx (t :: r) = stTx t ++ 10 :: prgTx r := by rw [prgTx_cons]; simp
    obtain ⟨a1, a2⟩ := lx_line h.1 (prgTx r) i
    obtain ⟨b1, b2⟩ := lx_prog r _ (i + (stTx t).length + 1) h.2.2
    rw [e, a1, a2, b1, b2]
    exact ⟨by simp, rfl⟩
/-- What is printed is read. -/
theorem pg_print : ∀ (ps : List (List Td)) (prev : Int) (pv : Bool) (acc : List (List Td)), okP prev ps → (pv = true → prev = 9) → PG pv acc (ps.flatMap stTk) (.ok (acc ++ ps))
  | [], _, _, acc, _, _ => by simpa using PG.done
  | t :: r, prev, pv, acc, h, hpv => by
    have ih : ∀ pv', (pv' = true → opT t = 9) → PG pv' (acc ++ [t]) (r.flatMap stTk) (.ok (acc ++ [t] ++ r)) := fun pv' h' => pg_print r (opT t) pv' (acc ++ [t]) h.2.2 h'
    have e0 : acc ++ t :: r = acc ++ [t] ++ r := by simp
    rw [e0, List.flatMap_cons]
    rcases st_cases h.1 with ⟨x, rfl, ho, hn, hnf⟩ | ⟨x, F, rfl, hok, hex, hl, hx⟩
    · have e1 : stTk [x] = [nTok x.tx] := by
        have hk : (Fo.nil).len = kdT x := by unfold kdT; rw [ho]; rfl
        have := st_eq (x := x) (F := .nil) trivial hk
        rw [show ([x] : List Td) = x :: Fo.nil.nodes from rfl, this.2]
        simp [stK, ho, nTok]
      rw [e1]
      have hpf : pv = false := by
        cases pv with
        | false => rfl
        | true => exact absurd ⟨ho, hpv rfl⟩ h.2.1
      have hx : x = ntT (btL x.tx) := td_eq ho rfl hn
      refine .note (by unfold nTok; split <;> rfl) ?_
      rw [noteTx_tok hnf, hpf]
      have e2 : addN false acc (btL x.tx) = acc ++ [[x]] := by
        rw [addN]
        simp only [Bool.false_eq_true, if_false]
        rw [← hx]
      rw [e2]
      exact ih true (fun _ => ho)
    · have hkd : F.len = kdT x := by
        rw [hl]
        unfold kdT
        rcases hx with ⟨h, _⟩ | ⟨h, _⟩ <;> rw [h] <;> rfl
      obtain ⟨_, e2⟩ := st_eq hok hkd
      have htl : F.trs.length = 1 := by rw [trs_len]; exact hl
      obtain ⟨t, ht⟩ : ∃ t, F.trs = [t] := by
        match F.trs, htl with
        | [t], _ => exact ⟨t, rfl⟩
      have hr := reads_all F hok hex t (by rw [ht]; simp)
      have hns : t.ns = F.nodes := by
        have := trs_nodes F
        rw [ht] at this
        simpa using this
      have hlv := lvl0_of hr (rest := [59] :: r.flatMap stTk) (by simp) (by simp) (by simp)
      rw [hns] at hlv
      rw [e2, ht]
      rcases hx with ⟨ho, hnm, hn⟩ | ⟨ho, htx, hn⟩
      · have q2 : stK x [t] ++ r.flatMap stTk = letW :: btL x.tx :: [61] :: (t.tk ++ [59] :: r.flatMap stTk) := by simp [stK, ho, hdK]
        have hx : x = letT (btL x.tx) := td_eq ho rfl hn
        rw [q2]
        refine .letO hnm hlv ?_
        rw [← hx]
        exact ih false (fun h => by cases h)
      · have q2 : stK x [t] ++ r.flatMap stTk = t.tk ++ [59] :: r.flatMap stTk := by simp [stK, ho, hdK]
        have hx : x = doT := td_eq ho htx hn
        obtain ⟨w, z, ew, hw⟩ := hr.b
        have hne := begW_ne hw
        rw [q2]
        rw [ew, List.cons_append] at hlv ⊢
        refine .doO hne.2.2.2.2 hne.2.2.2.1 hlv ?_
        rw [← hx]
        exact ih false (fun h => by cases h)
/-- How many words that are no notes a statement has when it is printed. -/
theorem many_app2 (a b : List Wd) : many (a ++ b) = many a + many b := many_app a b
theorem many_le (a : List Wd) : many a ≤ a.length := List.length_filter_le _ _
theorem st_many_let {nm : Wd} {ns : List Td} {t : Tn} (h : Tree1 ns t) : many (stTk (letT nm :: ns)) ≤ t.tk.length + 4 := by
  obtain ⟨F, f1, f2, f3, _⟩ := h
  have hkd : F.len = kdT (letT nm) := by rw [← trs_len, f2]; rfl
  have e := (st_eq f1 hkd).2
  rw [f3] at e
  have h1 := many_le (stTk (letT nm :: ns))
  have h2 : (stTk (letT nm :: ns)).length = t.tk.length + 4 := by rw [e, f2]; simp [stK, letT, hdK]
  omega
theorem st_many_do {ns : List Td} {t : Tn} (h : Tree1 ns t) : many (stTk (doT :: ns)) ≤ t.tk.length + 1 := by
  obtain ⟨F, f1, f2, f3, _⟩ := h
  have hkd : F.len = kdT doT := by rw [← trs_len, f2]; rfl
  have e := (st_eq f1 hkd).2
  rw [f3] at e
  have h1 := many_le (stTk (doT :: ns))
  have h2 : (stTk (doT :: ns)).length = t.tk.length + 1 := by rw [e, f2]; simp [stK, doT, hdK]
  omega
theorem st_many_note (w : Wd) : many (stTk [ntT w]) = 0 := by
  have hk : (Fo.nil).len = kdT (ntT w) := rfl
  have := (st_eq (x := ntT w) (F := .nil) trivial hk).2
  rw [show ([ntT w] : List Td) = ntT w :: Fo.nil.nodes from rfl, this]
  simp only [stK, ntT]
  by_cases h : (wbS w).size = 0 <;> simp [h, many, notN]
def manyP (ps : List (List Td)) : Nat := many (ps.flatMap stTk)
theorem manyP_app (a b : List (List Td)) : manyP (a ++ b) = manyP a + manyP b := by simp [manyP, many_app]
theorem manyP_drop (a : List (List Td)) : manyP a.dropLast ≤ manyP a := by
  rcases List.eq_nil_or_concat a with rfl | ⟨v, c, rfl⟩
  · exact Nat.le_refl _
  · rw [List.concat_eq_append, List.dropLast_concat, manyP_app]; omega
theorem pg_many {pv : Bool} {acc : List (List Td)} {ts : List Wd} {r : Rp} (h : PG pv acc ts r) : ∀ ps, r = .ok ps → manyP ps ≤ manyP acc + many ts := by
  induction h with
  | done => intro ps e; cases e; omega
  | note _ _ ih =>
    intro ps e
    rename_i pv acc w ts r _ _
    have h1 := ih ps e
    have h2 : manyP (addN pv acc (noteTx w)) ≤ manyP acc := by
      unfold addN
      split
      · have := manyP_drop acc
        rw [manyP_app]
        have h3 : manyP [[ntT (addW (lastTx acc) (noteTx w))]] = 0 := by
          have := st_many_note (addW (lastTx acc) (noteTx w))
          simpa [manyP] using this
        omega
      · rw [manyP_app]
        have h3 : manyP [[ntT (noteTx w)]] = 0 := by
          have := st_many_note (noteTx w)
          simpa [manyP] using this
        omega
    have h4 : many ts ≤ many (w :: ts) := by
      have : many (w :: ts) = many [w] + many ts := many_app [w] ts
      omega
    omega
  | letN _ => intro ps e; cases e
  | letE _ _ => intro ps e; cases e
  | letB _ _ => intro ps e; cases e
  | letX _ _ _ => intro ps e; cases e
  | letO hn hp _ ih =>
    intro ps e
    rename_i pv acc nm ts m ns u r _
    have h1 := ih ps e
    obtain ⟨t, t1, t2⟩ := pr_good hp
    have h2 := st_many_let (nm := nm) t1
    have h3 : manyP [letT nm :: ns] = many (stTk (letT nm :: ns)) := by simp [manyP]
    rw [manyP_app, h3] at h1
    rw [brk_zero, many_c (w := [59]) rfl] at t2
    rw [many_c (w := letW) rfl, many_c (not_name hn), many_c (w := [61]) rfl]
    omega
  | doB _ _ _ => intro ps e; cases e
  | doX _ _ _ _ => intro ps e; cases e
  | doO _ _ hp _ ih =>
    intro ps e
    rename_i pv acc w ts m ns u r _ _ _
    have h1 := ih ps e
    obtain ⟨t, t1, t2⟩ := pr_good hp
    have h2 := st_many_do t1
    have h3 : manyP [doT :: ns] = many (stTk (doT :: ns)) := by simp [manyP]
    rw [manyP_app, h3] at h1
    rw [brk_zero, many_c (w := [59]) rfl] at t2
    omega
end Go.Proofs.YtmbeamcjpidnjaaGreatDoor
namespace Go.Proofs.YtmbeamcjpidnjaaGreatDoor
open Go

theorem jb_len : ∀ ws : List Wd, (∀ w ∈ ws, w.length ≤ 20) → (jb ws).length ≤ 21 * ws.length
  | [], _ => by simp [jb]
  | [w], h => by
    have := h w (by simp)
    simp [jb]; omega
  | w :: u :: r, h => by
    have h1 := h w (by simp)
    have h2 := jb_len (u :: r) fun x hx => h x (by simp [hx])
    rw [jb, List.length_append]
    simp only [List.length_cons] at h2 ⊢
    omega
theorem note_len {tx : ByteArray} (h : noteF tx = 0) : tx.size ≤ 1300 := by
  by_cases h0 : btL tx = []
  · have := btL_len tx
    rw [h0] at this
    simp at this; omega
  · obtain ⟨h1, h2⟩ := note_ok h
    have e2 : noteW (btL tx) = splB (btL tx) := by rw [noteW, if_neg h0]
    rw [e2] at h1 h2
    have h3 := jb_len _ fun w hw => (h2 w hw).2.1
    rw [jb_spl] at h3
    rw [← btL_len]
    omega
/-- The text of an expression is not long. -/
theorem ex_len {y : Td} {k : Fo} (hok : (Fo.cons y k .nil).ok) (hex : (Fo.cons y k .nil).exs) (hl : (Fo.cons y k .nil).nodes.length ≤ 40) : (mkTn y k.trs).tx.length ≤ 640 := by
  have h1 := tx_len _ hok hex (mkTn y k.trs) (by simp [Fo.trs])
  have h2 : (mkTn y k.trs).ns = (Fo.cons y k .nil).nodes := by
    have := trs_nodes (Fo.cons y k .nil)
    simpa [Fo.trs] using this
  rw [h2] at h1
  omega
theorem fo_one {F : Fo} (h : F.len = 1) : ∃ y k, F = .cons y k .nil := by
  cases F with
  | nil => cases h
  | cons y k n =>
    cases n with
    | nil => exact ⟨y, k, rfl⟩
    | cons _ _ _ => simp [Fo.len] at h
theorem st_len {ds : List Td} (h : treeF ds = 0) : (stTx ds).length ≤ 2000 := by
  have hin40 := (treeF_zero h).1
  rcases st_cases h with ⟨x, rfl, ho, _, hnf⟩ | ⟨x, F, rfl, hok, hex, hl, hx⟩
  · have hk : (Fo.nil).len = kdT x := by unfold kdT; rw [ho]; rfl
    have e1 : stTx [x] = stX x [] := (st_eq (x := x) (F := .nil) trivial hk).1
    have h2 := note_len hnf
    rw [e1]
    unfold stX
    rw [if_neg (by omega), if_neg (by omega)]
    split
    · simp
    · simp only [List.length_append, List.length_cons, List.length_nil, btL_len]; omega
  · obtain ⟨y, k, rfl⟩ := fo_one hl
    have hk : (Fo.cons y k .nil).len = kdT x := by
      rw [hl]; unfold kdT
      rcases hx with ⟨ho, _⟩ | ⟨ho, _⟩ <;> rw [ho] <;> rfl
    have hz := ex_len hok hex (by have := hin40; simp only [List.length_cons] at this; omega)
    rw [(st_eq hok hk).1]
    unfold stX
    rcases hx with ⟨ho, hnm, _⟩ | ⟨ho, _, _⟩
    · have h8 := name_len hnm
      rw [if_pos ho]
      simp only [List.length_append, List.length_cons, List.length_nil, hdT, Fo.trs]
      omega
    · rw [if_neg (by omega), if_pos ho]
      simp only [List.length_append, List.length_cons, List.length_nil, hdT, Fo.trs]
      omega
theorem prg_len : ∀ ps : List (List Td), (∀ t ∈ ps, treeF t = 0) → (prgTx ps).length ≤ 2001 * ps.length
  | [], _ => by simp [prgTx]
  | t :: r, h => by
    have h1 := st_len (h t (by simp))
    have h2 := prg_len r fun x hx => h x (by simp [hx])
    rw [prgTx_cons]
    simp only [List.length_append, List.length_cons, List.length_nil]
    omega
end Go.Proofs.YtmbeamcjpidnjaaGreatDoor
namespace Go.Proofs.YtmbeamcjpidnjaaGreatDoor
open Go

/-- Where a text is none: the place of the word that is not what it should be, or the end. -/
def plcAt (s : ByteArray) (u : List Wd) : Nat := ((plcL (btL s))[(wdsL (btL s)).length - u.length]?).getD s.size
/-- What a text is read as. -/
inductive ParR (s : ByteArray) : List (List Td) → Int → Int → Prop where
  | lex (h : lexE (btL s) ≠ 0) : ParR s [] ((lexK (btL s) : Nat) : Int) (lexE (btL s))
  | bad {u} (h : lexE (btL s) = 0) (hg : PG false [] (wdsL (btL s)) (.bad u)) : ParR s [] ((plcAt s u : Nat) : Int) 5
  | full {qs} (h : lexE (btL s) = 0) (hg : PG false [] (wdsL (btL s)) (.ok qs)) (hf : (progF qs).2 ≠ 0) : ParR s [] 0 (progF qs).2
  | ok {qs} (h : lexE (btL s) = 0) (hg : PG false [] (wdsL (btL s)) (.ok qs)) (hf : (progF qs).2 = 0) : ParR s qs 0 0
theorem parR_det {s : ByteArray} {p p' : List (List Td)} {k k' f f' : Int} (h : ParR s p k f) (h' : ParR s p' k' f') : p = p' ∧ k = k' ∧ f = f' := by
  cases h with
  | lex h1 => cases h' with
    | lex _ => exact ⟨rfl, rfl, rfl⟩
    | bad h2 => exact absurd h2 h1
    | full h2 => exact absurd h2 h1
    | ok h2 => exact absurd h2 h1
  | bad h1 hg => cases h' with
    | lex h2 => exact absurd h1 h2
    | bad _ hg' => cases pg_det hg hg'; exact ⟨rfl, rfl, rfl⟩
    | full _ hg' => cases pg_det hg hg'
    | ok _ hg' => cases pg_det hg hg'
  | full h1 hg hf => cases h' with
    | lex h2 => exact absurd h1 h2
    | bad _ hg' => cases pg_det hg hg'
    | full _ hg' => cases pg_det hg hg'; exact ⟨rfl, rfl, rfl⟩
    | ok _ hg' hf' => cases pg_det hg hg'; exact absurd hf' hf
  | ok h1 hg hf => cases h' with
    | lex h2 => exact absurd h1 h2
    | bad _ hg' => cases pg_det hg hg'
    | full _ hg' hf' => cases pg_det hg hg'; exact absurd hf hf'
    | ok _ hg' => cases pg_det hg hg'; exact ⟨rfl, rfl, rfl⟩
theorem okP_all : ∀ (ps : List (List Td)) (prev : Int), okP prev ps → ∀ t ∈ ps, treeF t = 0
  | t :: r, prev, h, x, hx => by
    rcases List.mem_cons.1 hx with rfl | hx
    · exact h.1
    · exact okP_all r _ h.2.2 x hx
theorem bt_wb (l : List UInt8) : btL (wbS l) = l := rfl
/-- The words of a printed program; its text's fault. -/
theorem prt_lex {ps : List (List Td)} (h : (progF ps).2 = 0) : wdsL (prgTx ps) = ps.flatMap stTk ∧ lexE (prgTx ps) = if 300 < manyP ps then 3 else 0 := by
  obtain ⟨hl, hok⟩ := prog_ok h
  obtain ⟨h1, h2⟩ := lx_prog ps 0 0 hok
  have h3 : wdsL (prgTx ps) = ps.flatMap stTk := h1
  have h4 := prg_len ps (okP_all ps 0 hok)
  refine ⟨h3, ?_⟩
  unfold lexE
  rw [if_neg (by omega), h2, h3]
  rfl
/-- What is printed is read, or has too many words. -/
theorem parR_print {ps : List (List Td)} (h : (progF ps).2 = 0) {qs : List (List Td)} {k f : Int} (hp : ParR (wbS (prgTx ps)) qs k f) : (f = 0 ∧ qs = ps ∧ lexE (prgTx ps) = 0) ∨ (f = 3 ∧ qs = [] ∧ lexE (prgTx ps) = 3) := by
  obtain ⟨h1, h2⟩ := prt_lex h
  obtain ⟨_, hok⟩ := prog_ok h
  by_cases hm : 300 < manyP ps
  · rw [if_pos hm] at h2
    have h3 : lexE (btL (wbS (prgTx ps))) = 3 := h2
    have h4 := ParR.lex (s := wbS (prgTx ps)) (by rw [h3]; decide)
    obtain ⟨e1, _, e3⟩ := parR_det hp h4
    exact .inr ⟨e3.trans h3, e1, h2⟩
  · rw [if_neg hm] at h2
    have h3 : lexE (btL (wbS (prgTx ps))) = 0 := h2
    have hg : PG false [] (wdsL (btL (wbS (prgTx ps)))) (.ok ps) := by
      have h5 := pg_print ps 0 false [] hok (fun e => by cases e)
      rw [bt_wb, h1]
      exact h5
    have h4 := ParR.ok h3 hg h
    obtain ⟨e1, _, e3⟩ := parR_det hp h4
    exact .inl ⟨e3, e1, h2⟩
/-- What is read, printed and read again, is the same. -/
theorem parR_again {s : ByteArray} {qs : List (List Td)} {k : Int} (h : ParR s qs k 0) : (progF qs).2 = 0 ∧ ∀ {q' : List (List Td)} {k' f' : Int}, ParR (wbS (prgTx qs)) q' k' f' → f' = 0 ∧ q' = qs := by
  obtain ⟨h0, hg, hf⟩ : lexE (btL s) = 0 ∧ PG false [] (wdsL (btL s)) (.ok qs) ∧ (progF qs).2 = 0 := by
    generalize hz : (0 : Int) = z at h
    cases h with
    | lex h1 => exact absurd hz.symm h1
    | bad => cases hz
    | full _ _ h1 => exact absurd hz.symm h1
    | ok h1 h2 h3 => exact ⟨h1, h2, h3⟩
  refine ⟨hf, fun {q' k' f'} hp => ?_⟩
  rcases parR_print hf hp with ⟨e1, e2, _⟩ | ⟨_, _, e3⟩
  · exact ⟨e1, e2⟩
  · obtain ⟨_, h2⟩ := prt_lex hf
    have h4 := pg_many hg qs rfl
    have h5 := (lexE_zero h0).2.2
    have h6 : manyP ([] : List (List Td)) = 0 := rfl
    rw [if_neg (by omega)] at h2
    rw [h2] at e3
    cases e3
end Go.Proofs.YtmbeamcjpidnjaaGreatDoor
namespace Go.Proofs.YtmbeamcjpidnjaaGreatDoor
open Go

def fxS : List Td := [⟨7, ⟨#[97]⟩, 0⟩, ⟨6, ⟨#[]⟩, 0⟩, ⟨5, ⟨#[]⟩, 0⟩, ⟨1, ⟨#[]⟩, 1⟩, ⟨2, ⟨#[98]⟩, 0⟩, ⟨1, ⟨#[]⟩, 2⟩]
theorem fxS_ok : progF [fxS] = (0, 0) := by decide
theorem fxS_tx : prgTx [fxS] = [108, 101, 116, 32, 97, 32, 61, 32, 40, 49, 32, 43, 32, 98, 41, 32, 42, 32, 50, 59, 10] := by decide +kernel
theorem tx_small {x : Td} (h : nodT x = 0) : x.tx.size ≤ 1300 := by
  unfold nodT at h
  split at h
  · cases h
  · split at h
    · cases h
    · split at h
      · cases h
      · rename_i h3
        split at h
        · exact note_len h
        · rename_i h4
          split at h
          · cases h
          · rename_i h5
            cases ht : hasTx x.op with
            | false =>
              have : ¬ 0 < x.tx.size := fun h6 => h3 (.inr ⟨ht, h6⟩)
              omega
            | true =>
              cases hn : nameT x.tx with
              | false => exact absurd ⟨ht, hn⟩ h5
              | true =>
                have := name_len hn
                rw [btL_len] at this
                omega
theorem prg_small {ps : List (List Td)} (h : (progF ps).2 = 0) : ∀ t ∈ ps, ∀ x ∈ t, x.tx.size ≤ 1300 := by
  intro t ht x hx
  have h1 := okP_all ps 0 (prog_ok h).2 t ht
  exact tx_small ((treeF_zero h1).2.1 x hx)
end Go.Proofs.YtmbeamcjpidnjaaGreatDoor
