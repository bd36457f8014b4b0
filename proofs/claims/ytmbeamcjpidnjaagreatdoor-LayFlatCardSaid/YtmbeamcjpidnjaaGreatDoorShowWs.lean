/- Some texts as one: Cf, ShowW. -/
import Derived.Test.YtmbeamcjpidnjaaGreatDoorMems
import Derived.Test.YtmbeamcjpidnjaaGreatDoorDocFs
import Derived.Test.YtmbeamcjpidnjaaGreatDoorWLays
import Derived.Test.YtmbeamcjpidnjaaGreatDoorWayQ
namespace Go.Proofs.YtmbeamcjpidnjaaGreatDoor
open Go Go.RowKit

set_option maxRecDepth 100000 in
theorem noChoice_no (c : Int) (h : c = 0 ∨ c = 1) (w : World) : Calls Tryz.prog 56 #[.int .i64 c] w fun e w' => e = .returned (.bool false) ∧ w = w' := by
  rcases h with rfl | rfl
  all_goals
    go_enter Tryz.func56, Tryz.ntmps56
    go_wp2
    go_ret
    exact ⟨rfl, rfl⟩
set_option maxRecDepth 100000 in
theorem noChoice_yes (c : Int) (h0 : c ≠ 0) (h1 : c ≠ 1) (w : World) : Calls Tryz.prog 56 #[.int .i64 c] w fun e w' => e = .returned (.bool true) ∧ w = w' := by
  have g0 : (c != 0) = true := by simp [h0]
  have g1 : (c != 1) = true := by simp [h1]
  clear h0 h1
  go_enter Tryz.func56, Tryz.ntmps56
  go_wp2
  go_ret
  exact ⟨rfl, rfl⟩

set_option maxRecDepth 100000 in
set_option maxHeartbeats 1000000 in
theorem indexFunc_any (ws : List Int) (wa : Option Addr) (wc : Nat) (w : World) (hI : Ints w wa ws) (hl : ws.length ≤ 9223372036854775807) :
    Calls Tryz.prog 89 #[.slice wa ws.length wc, .func (.func 56) #[] #[]] w fun e w' => ((okC01 ws ∧ e = .returned (.int .i64 (-1))) ∨ (¬ okC01 ws ∧ ∃ k : Nat, e = .returned (.int .i64 k))) ∧ w = w' := by
  have HI : Hid (Ints w wa ws) := hI
  clear hI
  go_enter Tryz.func89, Tryz.ntmps89
  go_wp2_with fail
  go_loopw [8] (fun i wr => wr = w ∧ ∃ k : Nat, k ≤ ws.length ∧ i = .int .i64 k ∧ ∀ j (h : j < ws.length), j < k → ws[j] = 0 ∨ ws[j] = 1) (fun i _ => ws.length - (intOf i).toNat)
  case atStart => exact ⟨rfl, 0, Nat.zero_le _, rfl, fun j _ hj => by omega⟩
  case round =>
    obtain ⟨rfl, k, hk, rfl, hall⟩ := hrel
    have HA : Hid (∀ j (h : j < ws.length), j < k → ws[j] = 0 ∨ ws[j] = 1) := hall
    clear hall
    by_cases hlt : k < ws.length
    · obtain ⟨b0, o0, ea, hb0, c0⟩ := HI.out k hlt
      subst ea
      by_cases h01 : ws[k] = 0 ∨ ws[k] = 1
      · have HA' : Hid (∀ j (h : j < ws.length), j < k + 1 → ws[j] = 0 ∨ ws[j] = 1) := fun j h hj => by
          by_cases hjk : j = k
          · subst hjk; exact h01
          · exact HA.out j h (by omega)
        have HC : Hid (ws[k] = 0 ∨ ws[k] = 1) := h01
        clear h01
        go_wp2_with fail
        refine (noChoice_no _ HC.out _).mono ?_
        rintro e w2 ⟨rfl, rfl⟩
        go_wp2
        go_roundw
        case rel => exact ⟨by trivial, k + 1, by omega, by go_num, HA'.out⟩
        case measure => simp [intOf]; omega
      · have HC : Hid (¬ (ws[k] = 0 ∨ ws[k] = 1)) := h01
        clear h01
        go_wp2_with fail
        refine (noChoice_yes _ (fun h => HC.out (.inl h)) (fun h => HC.out (.inr h)) _).mono ?_
        rintro e w2 ⟨rfl, rfl⟩
        go_wp2
        go_ret
        exact ⟨.inr ⟨fun hok => HC.out (hok _ (List.getElem_mem hlt)), k, rfl⟩, rfl⟩
    · have hok : okC01 ws := fun c hc => by
        obtain ⟨j, hj, rfl⟩ := List.getElem_of_mem hc
        exact HA.out j hj (by omega)
      have HOK : Hid (okC01 ws) := hok
      clear hok
      go_wp2
      go_ret
      exact ⟨.inl ⟨HOK.out, rfl⟩, rfl⟩

set_option maxRecDepth 100000 in
theorem cf_no (ws : List Int) (wa : Option Addr) (wc : Nat) (w : World) (hI : Ints w wa ws) (hl : ws.length ≤ 9223372036854775807) (h : okC01 ws) :
    Calls Tryz.prog 55 #[.slice wa ws.length wc, .func (.func 56) #[] #[]] w fun e w' => e = .returned (.bool false) ∧ w = w' := by
  have HI : Hid (Ints w wa ws) := hI
  have H : Hid (okC01 ws) := h
  clear hI h
  go_enter Tryz.func55, Tryz.ntmps55
  go_wp2_with fail
  refine (indexFunc_any ws wa wc _ HI.out hl).mono ?_
  rintro e w2 ⟨h1, rfl⟩
  rcases h1 with ⟨_, rfl⟩ | ⟨h1, _⟩
  · go_wp2
    go_ret
    exact ⟨rfl, rfl⟩
  · exact absurd H.out h1
set_option maxRecDepth 100000 in
theorem cf_yes (ws : List Int) (wa : Option Addr) (wc : Nat) (w : World) (hI : Ints w wa ws) (hl : ws.length ≤ 9223372036854775807) (h : ¬ okC01 ws) :
    Calls Tryz.prog 55 #[.slice wa ws.length wc, .func (.func 56) #[] #[]] w fun e w' => e = .returned (.bool true) ∧ w = w' := by
  have HI : Hid (Ints w wa ws) := hI
  have H : Hid (¬ okC01 ws) := h
  clear hI h
  go_enter Tryz.func55, Tryz.ntmps55
  go_wp2_with fail
  refine (indexFunc_any ws wa wc _ HI.out hl).mono ?_
  rintro e w2 ⟨h1, rfl⟩
  rcases h1 with ⟨h1, _⟩ | ⟨_, k, rfl⟩
  · exact absurd h1 H.out
  · have hk : (0 : Int) ≤ (k : Int) := by omega
    go_wp2
    go_ret
    exact ⟨rfl, rfl⟩
end Go.Proofs.YtmbeamcjpidnjaaGreatDoor
namespace Go.Proofs.YtmbeamcjpidnjaaGreatDoor
open Go Go.RowKit

set_option maxRecDepth 100000 in
set_option maxHeartbeats 1000000 in
theorem wshow_bad (ds : List Nd) (ws : List Int) (a wa : Option Addr) (cap wc : Nat) (w : World) (hN : Nods w a ds) (h : docF ds ≠ 0) :
    Calls Tryz.prog 23 #[.slice a ds.length cap, .slice wa ws.length wc] w fun e w' => e = .returned (.tuple #[.string ⟨#[]⟩, errN (docF ds)]) ∧ Below w.heap.size w w' := by
  have HN : Hid (Nods w a ds) := hN
  have H : Hid (docF ds ≠ 0) := h
  rw [errN_ne h]
  clear hN h
  go_enter Tryz.func23, Tryz.ntmps23
  go_wp2_with fail
  refine (dcheck_any ds a cap _ HN.out).mono ?_
  rintro e w2 ⟨rfl, hB⟩
  rw [errN_ne H.out]
  go_wp2
  go_ret2
  exact ⟨rfl, hB⟩

set_option maxRecDepth 100000 in
set_option maxHeartbeats 1000000 in
theorem wshow_range (ds : List Nd) (ws : List Int) (a wa : Option Addr) (cap wc : Nat) (w : World) (hN : Nods w a ds) (hI : Ints w wa ws) (hl : ws.length ≤ 9223372036854775807) (h : docF ds = 0) (h1 : ¬ okC01 ws) :
    Calls Tryz.prog 23 #[.slice a ds.length cap, .slice wa ws.length wc] w fun e w' => e = .returned (.tuple #[.string ⟨#[]⟩, errN 1]) ∧ Below w.heap.size w w' := by
  have HN : Hid (Nods w a ds) := hN
  have HI : Hid (Ints w wa ws) := hI
  have H : Hid (docF ds = 0) := h
  have H1 : Hid (¬ okC01 ws) := h1
  rw [errN_1]
  clear hN hI h h1
  go_enter Tryz.func23, Tryz.ntmps23
  go_wp2_with fail
  refine (dcheck_any ds a cap _ HN.out).mono ?_
  rintro e w2 ⟨rfl, hB⟩
  rw [H.out, errN_0]
  have HI2 : Hid (Ints w2 wa ws) := HI.out.below hB
  go_wp2_with fail
  refine (cf_yes ws wa wc _ HI2.out hl H1.out).mono ?_
  rintro e w3 ⟨rfl, rfl⟩
  go_wp2
  go_ret2
  exact ⟨rfl, hB⟩

set_option maxRecDepth 100000 in
set_option maxHeartbeats 4000000 in
theorem wshow_ok (ds : List Nd) (t : Tr) (hd : ds = t.nodes) (ht : t.Wf) (ws : List Int) (a wa : Option Addr) (cap wc : Nat) (hc : ds.length ≤ cap) (hwc : ws.length ≤ wc) (w : World) (hN : Nods w a ds) (hI : Ints w wa ws) (hl : ws.length ≤ 9223372036854775807) (h : docF ds = 0) (h1 : okC01 ws) :
    Calls Tryz.prog 23 #[.slice a ds.length cap, .slice wa ws.length wc] w fun e w' => e = .returned (.tuple #[.string (shS (t.show ws)), errN (shE (t.show ws))]) ∧ Below w.heap.size w w' := by
  have HN : Hid (Nods w a ds) := hN
  have HI : Hid (Ints w wa ws) := hI
  have H : Hid (docF ds = 0) := h
  have H1 : Hid (okC01 ws) := h1
  have HT : Hid (t.Wf) := ht
  have HD : Hid (ds = t.nodes) := hd
  obtain ⟨h4, _, _⟩ := docF_zero h
  have HS : Hid (t.show ws = match t.lay 0 ws with | .error e => .error e | .ok (s, []) => .ok s | .ok (_, _ :: _) => .error 2) := show_lay h1
  have H0 : Hid (ds ≠ []) := (show ds ≠ [] by have := t.pos; rw [← hd] at this; exact List.length_pos_iff.1 this)
  clear hN hI h h1 ht hd
  go_enter Tryz.func23, Tryz.ntmps23
  go_wp2_with fail
  refine (dcheck_any ds a cap _ HN.out).mono ?_
  rintro e w2 ⟨rfl, hB⟩
  rw [H.out, errN_0]
  have HB : Hid (Below w.heap.size w w2) := hB
  have HI2 : Hid (Ints w2 wa ws) := HI.out.below hB
  obtain ⟨s, hs, hns⟩ := (HN.out.below hB).s H0.out
  have HN2 : Hid (NodsS s w2 a ds) := hns
  clear hB hns
  go_wp2_with fail
  refine (cf_no ws wa wc _ HI2.out hl H1.out).mono ?_
  rintro e w3 ⟨rfl, rfl⟩
  go_wp2_with fail
  refine (newPlan_any ds a cap s _ H.out HN2.out hs).mono ?_
  rintro e w3 ⟨⟨be, bf, rfl, hbe, hbf, hkn⟩, hB3⟩
  have HB3 : Hid (Below w.heap.size w w3) := belowT HB.out (Nat.le_refl _) hB3
  have HB23 : Hid (Below w2.heap.size w2 w3) := hB3
  have HN3 : Hid (NodsS s w3 a ds) := HN2.out.kept (hB3.block s hs)
  have HI3 : Hid (Ints w3 wa ws) := HI2.out.below hB3
  have HK3 : Hid (Known w3 be bf ds 0) := hkn
  have hs3 : s < w3.heap.size := Nat.lt_of_lt_of_le hs hB3.size
  have HL : Hid (∀ O, O = Obj.cells #[.slice a ds.length cap, .slice (some ⟨be, 0, none⟩) ds.length ds.length, .slice (some ⟨bf, 0, none⟩) ds.length ds.length, .pointer none, .slice none 0 0, .slice wa ws.length wc] 109 →
      Calls Tryz.prog 58 #[.pointer (some ⟨w3.heap.size, 0, none⟩), .int .i64 0, .int .i64 0] (w3.alloc O) fun e w' => WLaid w3.heap.size w3.heap.size (plOf be bf ds.length cap a) (t.lay 0 ws) [] e w' ∧ Below w3.heap.size w3 w') := by
    intro O hO
    have hA : Below w3.heap.size w3 (w3.alloc O) := (Below.refl _ _).alloc (Nat.le_refl _) _
    refine (wlay_any w3.heap.size w3.heap.size s be bf ⟨hs3, hbe, hbf⟩ (Nat.le_refl _) ds a cap h4 hc t HT.out 0 [] 0 ws wa wc [] (w3.alloc O) (by rw [HD.out]; simp) ⟨HN3.out.kept (hA.block s hs3), HK3.out.kept (hA.block be hbe) (hA.block bf hbf)⟩ (IntsB.below HI3.out hA) H1.out hwc ?_ (by rw [← HD.out]; omega) (by rw [← HD.out]; simp; omega)).mono ?_
    · subst hO
      exact IsO.unused 109 w3.heap.size w3.heap.size _ (plOf be bf ds.length cap a) [.slice wa ws.length wc] (heap_alloc_new w3 _)
    · rintro e w' ⟨h1, h2⟩
      exact ⟨h1, hA.trans h2⟩
  clear hkn hB3
  go_wp2_with fail
  refine (HL.out _ rfl).mono ?_
  rintro e w4 ⟨hl4, hb4⟩
  have HB4 : Hid (Below w.heap.size w w4) := belowT HB3.out (Nat.le_refl _) hb4
  clear hb4
  cases hlay : t.lay 0 ws with
  | error er =>
    rw [hlay] at hl4
    have hS := HS.out
    rw [hlay] at hS
    have HRE : Hid (t.show ws = .error er) := hS
    obtain ⟨hne, rfl⟩ := hl4
    have HNE : Hid (er ≠ 0) := hne
    rw [errN_ne hne]
    clear hne hlay hS
    go_wp2
    go_ret2
    refine ⟨?_, HB4.out⟩
    rw [HRE.out]
    show _ = Ending.returned (.tuple #[.string ⟨#[]⟩, errN er])
    rw [errN_ne HNE.out]
    rfl
  | ok p =>
    obtain ⟨u, r⟩ := p
    rw [hlay] at hl4
    have hS := HS.out
    rw [hlay] at hS
    obtain ⟨rfl, wa4, wc4, hw4, _, _⟩ := hl4
    have HW4 : Hid (WS w3.heap.size w3.heap.size (plOf be bf ds.length cap a) ([] ++ u) (.slice wa4 r.length wc4) w4) := hw4
    have g5 := hw4.c5
    cases r with
    | nil =>
      have HRE : Hid (t.show ws = .ok u) := hS
      simp only [List.length_nil] at g5
      clear hlay hS hw4
      go_wp2_with fail
      refine (oout_any 109 w3.heap.size w3.heap.size 3 (plOf be bf ds.length cap a) ([] ++ u) _ _ rfl HW4.out).mono ?_
      rintro e w5 ⟨rfl, hb5⟩
      go_wp2
      go_ret2
      refine ⟨?_, HB4.out.trans (hb5.mono HB3.out.size)⟩
      rw [HRE.out]
      rfl
    | cons c r =>
      have HRE : Hid (t.show ws = .error 2) := hS
      simp only [List.length_cons] at g5
      have g0 : (0 : Int) < (r.length : Int) + 1 := by omega
      clear hlay hS hw4
      go_wp2
      go_ret2
      refine ⟨?_, HB4.out⟩
      rw [HRE.out]
      rfl

theorem wshow_any (ds : List Nd) (ws : List Int) (a wa : Option Addr) (cap wc : Nat) (hc : ds.length ≤ cap) (hwc : ws.length ≤ wc) (hl : ws.length ≤ 9223372036854775807) (w : World) (hN : Nods w a ds) (hI : Ints w wa ws) :
    Calls Tryz.prog 23 #[.slice a ds.length cap, .slice wa ws.length wc] w fun e w' => e = .returned (.tuple #[.string (shS (showD ds ws)), errN (shE (showD ds ws))]) ∧ Below w.heap.size w w' := by
  by_cases h : docF ds = 0
  · obtain ⟨h4, _, _⟩ := docF_zero h
    rw [showD_tree (docT_wf h) (docT_nodes h) h4]
    by_cases h1 : okC01 ws
    · exact wshow_ok ds _ (docT_nodes h) (docT_wf h) ws a wa cap wc hc hwc w hN hI hl h h1
    · have e : (docT ds h).show ws = .error 1 := by
        unfold Tr.show
        rw [if_neg (fun hh => h1 (all01.1 hh))]
      rw [e]
      exact wshow_range ds ws a wa cap wc w hN hI hl h h1
  · rw [showD_bad h]
    exact wshow_bad ds ws a wa cap wc w hN h
end Go.Proofs.YtmbeamcjpidnjaaGreatDoor
