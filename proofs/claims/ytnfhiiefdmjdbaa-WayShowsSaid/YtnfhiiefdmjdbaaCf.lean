/- slices.ContainsFunc of numbers, with isNoChoice of package way. -/
import Derived.Test.YtnfhiiefdmjdbaaIntB
import Derived.Test.YtnfhiiefdmjdbaaWayP
namespace Go.Proofs.Ytnfhiiefdmjdbaa
open Go Go.RowKit

set_option maxRecDepth 100000 in
theorem noChoice_no (c : Int) (h : c = 0 ∨ c = 1) (w : World) : Calls Try.prog 27 #[.int .i64 c] w fun e w' => e = .returned (.bool false) ∧ w = w' := by
  rcases h with rfl | rfl
  all_goals
    go_enter Try.func27, Try.ntmps27
    go_wp2
    go_ret
    exact ⟨rfl, rfl⟩
set_option maxRecDepth 100000 in
theorem noChoice_yes (c : Int) (h0 : c ≠ 0) (h1 : c ≠ 1) (w : World) : Calls Try.prog 27 #[.int .i64 c] w fun e w' => e = .returned (.bool true) ∧ w = w' := by
  have g0 : (c != 0) = true := by simp [h0]
  have g1 : (c != 1) = true := by simp [h1]
  clear h0 h1
  go_enter Try.func27, Try.ntmps27
  go_wp2
  go_ret
  exact ⟨rfl, rfl⟩

set_option maxRecDepth 100000 in
set_option maxHeartbeats 1000000 in
theorem indexFunc_any (ws : List Int) (wa : Option Addr) (wc : Nat) (w : World) (hI : Ints w wa ws) (hl : ws.length ≤ 9223372036854775807) :
    Calls Try.prog 38 #[.slice wa ws.length wc, .func (.func 27) #[] #[]] w fun e w' => ((okC01 ws ∧ e = .returned (.int .i64 (-1))) ∨ (¬ okC01 ws ∧ ∃ k : Nat, e = .returned (.int .i64 k))) ∧ w = w' := by
  have HI : Hid (Ints w wa ws) := hI
  clear hI
  go_enter Try.func38, Try.ntmps38
  go_wp2_with fail
  go_loopw [8] (fun i wr => wr = w ∧ ∃ k : Nat, k ≤ ws.length ∧ i = .int .i64 k ∧ ∀ j (h : j < ws.length), j < k → ws[j] = 0 ∨ ws[j] = 1) (fun i _ => ws.length - (intOf i).toNat)
  case atStart => exact ⟨rfl, 0, Nat.zero_le _, rfl, fun j _ hj => by omega⟩
  case round =>
    obtain ⟨rfl, k, hk, rfl, hall⟩ := hrel
    have HA : Hid (∀ j (h : j < ws.length), j < k → ws[j] = 0 ∨ ws[j] = 1) := hall
    clear hall
    by_cases hlt : k < ws.length
    · obtain ⟨b0, o0, ea, hb0, c0⟩ := HI.out k hlt
      subst ea
      by_cases h01 : ws[k] = 0 ∨ ws[k] = 1
      · have HA' : Hid (∀ j (h : j < ws.length), j < k + 1 → ws[j] = 0 ∨ ws[j] = 1) := fun j h hj => by
          by_cases hjk : j = k
          · subst hjk; exact h01
          · exact HA.out j h (by omega)
        have HC : Hid (ws[k] = 0 ∨ ws[k] = 1) := h01
        clear h01
        go_wp2_with fail
        refine (noChoice_no _ HC.out _).mono ?_
        rintro e w2 ⟨rfl, rfl⟩
        go_wp2
        go_roundw
        case rel => exact ⟨by trivial, k + 1, by omega, by go_num, HA'.out⟩
        case measure => simp [intOf]; omega
      · have HC : Hid (¬ (ws[k] = 0 ∨ ws[k] = 1)) := h01
        clear h01
        go_wp2_with fail
        refine (noChoice_yes _ (fun h => HC.out (.inl h)) (fun h => HC.out (.inr h)) _).mono ?_
        rintro e w2 ⟨rfl, rfl⟩
        go_wp2
        go_ret
        exact ⟨.inr ⟨fun hok => HC.out (hok _ (List.getElem_mem hlt)), k, rfl⟩, rfl⟩
    · have hok : okC01 ws := fun c hc => by
        obtain ⟨j, hj, rfl⟩ := List.getElem_of_mem hc
        exact HA.out j hj (by omega)
      have HOK : Hid (okC01 ws) := hok
      clear hok
      go_wp2
      go_ret
      exact ⟨.inl ⟨HOK.out, rfl⟩, rfl⟩

set_option maxRecDepth 100000 in
theorem cf_no (ws : List Int) (wa : Option Addr) (wc : Nat) (w : World) (hI : Ints w wa ws) (hl : ws.length ≤ 9223372036854775807) (h : okC01 ws) :
    Calls Try.prog 26 #[.slice wa ws.length wc, .func (.func 27) #[] #[]] w fun e w' => e = .returned (.bool false) ∧ w = w' := by
  have HI : Hid (Ints w wa ws) := hI
  have H : Hid (okC01 ws) := h
  clear hI h
  go_enter Try.func26, Try.ntmps26
  go_wp2_with fail
  refine (indexFunc_any ws wa wc _ HI.out hl).mono ?_
  rintro e w2 ⟨h1, rfl⟩
  rcases h1 with ⟨_, rfl⟩ | ⟨h1, _⟩
  · go_wp2
    go_ret
    exact ⟨rfl, rfl⟩
  · exact absurd H.out h1
set_option maxRecDepth 100000 in
theorem cf_yes (ws : List Int) (wa : Option Addr) (wc : Nat) (w : World) (hI : Ints w wa ws) (hl : ws.length ≤ 9223372036854775807) (h : ¬ okC01 ws) :
    Calls Try.prog 26 #[.slice wa ws.length wc, .func (.func 27) #[] #[]] w fun e w' => e = .returned (.bool true) ∧ w = w' := by
  have HI : Hid (Ints w wa ws) := hI
  have H : Hid (¬ okC01 ws) := h
  clear hI h
  go_enter Try.func26, Try.ntmps26
  go_wp2_with fail
  refine (indexFunc_any ws wa wc _ HI.out hl).mono ?_
  rintro e w2 ⟨h1, rfl⟩
  rcases h1 with ⟨h1, _⟩ | ⟨_, k, rfl⟩
  · exact absurd h1 H.out
  · have hk : (0 : Int) ≤ (k : Int) := by omega
    go_wp2
    go_ret
    exact ⟨rfl, rfl⟩
end Go.Proofs.Ytnfhiiefdmjdbaa
