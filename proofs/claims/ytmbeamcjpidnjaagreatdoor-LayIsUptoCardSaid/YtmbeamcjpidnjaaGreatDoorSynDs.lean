/- Some texts as one: SynD, SynE. -/
import Derived.Test.YtmbeamcjpidnjaaGreatDoorSynPs
import Derived.Test.YtmbeamcjpidnjaaGreatDoorTreRs
import Derived.Laws.Strings2
namespace Go.Proofs.YtmbeamcjpidnjaaGreatDoor
open Go Go.RowKit

theorem digRun (d : Nat) (h : d ≤ 9) (W : World) : (Instr.slice 9 (.string ⟨#[48, 49, 50, 51, 52, 53, 54, 55, 56, 57]⟩) (some (.int .i64 (d : Int))) (some (.int .i64 ((d : Int) + 1))) none).run Tryz.prog W = .ok (.string (wbS [UInt8.ofNat (48 + d)])) W := by
  rw [run_slice_string (P := Tryz.prog) (w := W) 9 _ .i64 .i64 (d : Int) ((d : Int) + 1) Tryz.underlying9 (by omega) (by omega) (by show (d : Int) + 1 ≤ 10; omega)]
  have e : ((d : Int) + 1).toNat = d + 1 := by omega
  rw [e, Int.toNat_natCast]
  match d, h with
  | 0, _ => rfl
  | 1, _ => rfl
  | 2, _ => rfl
  | 3, _ => rfl
  | 4, _ => rfl
  | 5, _ => rfl
  | 6, _ => rfl
  | 7, _ => rfl
  | 8, _ => rfl
  | 9, _ => rfl
theorem wbS_two (a b : List UInt8) : wbS a ++ wbS b = wbS (a ++ b) := by
  apply ByteArray.ext
  simp [wbS]
theorem decL_small {n : Nat} (h : n ≤ 9) : decL n = [UInt8.ofNat (48 + n)] := by rw [decL, dif_pos h]
theorem decL_big {n : Nat} (h : ¬ n ≤ 9) : decL n = decL (n / 10) ++ [UInt8.ofNat (48 + n % 10)] := by rw [decL, dif_neg h]

theorem wbS_len (l : List UInt8) : (wbS l).size = l.length := by
  rw [← btL_len]; rfl
set_option maxRecDepth 100000 in
set_option maxHeartbeats 1000000 in
theorem rDec_any (n : Nat) (hn : n ≤ 999999) (w : World) : Calls Tryz.prog 44 #[.int .i64 (n : Int)] w fun e w' => e = .returned (.string (wbS (decL n))) ∧ w = w' := by
  have hl6 := decL_len 5 n (by omega)
  go_enter Tryz.func44, Tryz.ntmps44
  go_wp2_with fail
  go_loopw [0, 3] (fun x s wr => wr = w ∧ ∃ (m : Nat) (t : List UInt8), x = .int .i64 (m : Int) ∧ s = .string (wbS t) ∧ m ≤ n ∧ decL n = decL m ++ t) (fun x _ _ => (intOf x).toNat)
  case atStart => exact ⟨rfl, n, [], rfl, rfl, Nat.le_refl _, by simp⟩
  case round =>
    obtain ⟨rfl, m, t, rfl, rfl, hm, ht⟩ := hrel
    have HT : Hid (decL n = decL m ++ t) := ht
    have htz : (wbS t).size ≤ 100 := by
      have := congrArg List.length ht
      rw [List.length_append] at this
      rw [wbS_len]; omega
    clear ht hl6
    by_cases h9 : m ≤ 9
    · have h9i : ¬ (9 : Int) < (m : Int) := by omega
      have hr := digRun m h9
      have hdz : (wbS [UInt8.ofNat (48 + m)]).size ≤ 1 := by rw [wbS_len]; exact Nat.le_refl _
      have HE : Hid (wbS [UInt8.ofNat (48 + m)] ++ wbS t = wbS (decL n)) := by
        show _ = _
        rw [HT.out, decL_small h9, wbS_two]
      generalize wbS [UInt8.ofNat (48 + m)] = dg at hr hdz HE
      generalize wbS t = ts at htz HE
      go_wp2
      go_ret
      exact ⟨by rw [← HE.out]; rfl, rfl⟩
    · have h9i : (9 : Int) < (m : Int) := by omega
      have hr := digRun (m % 10) (by omega)
      have e1 : ((m % 10 : Nat) : Int) = (m : Int) % 10 := by omega
      have e2 : ((m / 10 : Nat) : Int) = (m : Int) / 10 := by omega
      rw [e1] at hr
      have hdz : (wbS [UInt8.ofNat (48 + m % 10)]).size ≤ 1 := by rw [wbS_len]; exact Nat.le_refl _
      have HE : Hid (wbS [UInt8.ofNat (48 + m % 10)] ++ wbS t = wbS ([UInt8.ofNat (48 + m % 10)] ++ t)) := wbS_two _ _
      have HD : Hid (decL n = decL (m / 10) ++ ([UInt8.ofNat (48 + m % 10)] ++ t)) := by
        show _ = _
        rw [HT.out, decL_big h9, List.append_assoc]
      have HQ : Hid (((m / 10 : Nat) : Int) = (m : Int) / 10) := e2
      generalize wbS [UInt8.ofNat (48 + m % 10)] = dg at hr hdz HE
      generalize hts : wbS t = ts at htz HE
      clear e1 e2 hts
      go_wp2
      exact ⟨⟨by trivial, m / 10, _, by rw [HQ.out], by rw [HE.out], by omega, HD.out⟩, by simp [intOf]; omega⟩
def bndB (p k : Int) (s : Bool) : Bool := (decide (p = 6) && decide (k = 5)) || (s && (decide (p = 5) || decide (p = 6)) && decide (k = p))
theorem bnd_prc (p x : Td) (s : Bool) (h : p.op = 5 ∨ p.op = 6) : bndB p.op x.op s = decide (prc x < (if p.op = 5 then (if s then 1 else 0) else (if s then 2 else 1))) := by
  unfold bndB prc
  rcases h with h | h <;> rw [h] <;> cases s <;> by_cases h5 : x.op = 5 <;> by_cases h6 : x.op = 6 <;> simp_all

set_option maxRecDepth 100000 in
set_option maxHeartbeats 1000000 in
theorem rBound_any (p x : Td) (s : Bool) (w : World) : Calls Tryz.prog 81 #[tdV p, tdV x, .bool s] w fun e w' => e = .returned (.bool (bndB p.op x.op s)) ∧ Below w.heap.size w w' := by
  obtain ⟨po, pt, pn⟩ := p
  obtain ⟨xo, xt, xn⟩ := x
  unfold tdV
  simp only
  go_enter Tryz.func81, Tryz.ntmps81
  have HBW : Hid (∀ o1 o2 : Obj, Below w.heap.size w ((w.alloc o1).alloc o2)) := fun o1 o2 => ((Below.refl _ _).alloc (Nat.le_refl _) _).alloc (by rw [World.size_alloc]; omega) _
  go_wp2
  all_goals go_ret
  all_goals refine ⟨?_, ?_⟩
  all_goals first | exact HBW.out _ _ | (simp_all [bndB]; done) | (by_cases h5 : xo = 5 <;> by_cases h6 : xo = 6 <;> by_cases p5 : po = 5 <;> by_cases p6 : po = 6 <;> by_cases hx : xo = po <;> simp_all [bndB])
end Go.Proofs.YtmbeamcjpidnjaaGreatDoor
namespace Go.Proofs.YtmbeamcjpidnjaaGreatDoor
open Go Go.RowKit

/-- A statement that is looked at. -/
structure StIn (ds : List Td) : Prop where
  l : ds.length ≤ 40
  k : ∀ x ∈ ds, nodT x = 0
def lvl (op : Int) (sec : Bool) : Nat := if op = 5 then (if sec then 1 else 0) else (if sec then 2 else 1)
/-- Nodes that lie from a place on. -/
theorem fo_at {ds : List Td} {p : Nat} {y : Td} {k n : Fo} {r : List Td} (h : ds.drop p = (Fo.cons y k n).nodes ++ r) (hok : (Fo.cons y k n).ok) :
    ∃ hp : p < ds.length, ds[p] = y ∧ ds.drop (p + 1) = k.nodes ++ (n.nodes ++ r) ∧ endT ds p 1 = some (p + 1 + k.nodes.length) ∧ ds.drop (p + 1 + k.nodes.length) = n.nodes ++ r := by
  have hp : p < ds.length := by
    rcases Nat.lt_or_ge p ds.length with h' | h'
    · exact h'
    · rw [List.drop_eq_nil_of_le h', Fo.nodes] at h; cases h
  have h1 := h
  rw [List.drop_eq_getElem_cons hp, Fo.nodes, List.cons_append, List.cons.injEq, List.append_assoc] at h1
  refine ⟨hp, h1.1, h1.2, ?_, ?_⟩
  · have e := fo_cnt k hok.2.1 (n.nodes ++ r) 0
    rw [cntT_zero, Nat.add_zero, hok.1, ← h1.2] at e
    rw [endT_step ds p 0 hp, h1.1, endT, Nat.add_zero (kdT y), e]
    rfl
  · rw [← List.drop_drop, h1.2, List.drop_left]
theorem endOf_at {ds : List Td} {a : Option Addr} {cap p : Nat} (hs : StIn ds) {q : Nat} (h : endT ds p 1 = some q) (hp : p < ds.length) (W : World) (hN : Tds W a ds) :
    Calls Tryz.prog 42 #[.slice a ds.length cap, .int .i64 (p : Int)] W fun e w' => e = .returned (.int .i64 (q : Int)) ∧ Below W.heap.size W w' := by
  have hl := hs.l
  have := r2EndOf_any ds a cap (by omega) hs.k (ds.length + 1) p W hN (by omega) (by omega)
  rw [h] at this
  exact this
end Go.Proofs.YtmbeamcjpidnjaaGreatDoor
