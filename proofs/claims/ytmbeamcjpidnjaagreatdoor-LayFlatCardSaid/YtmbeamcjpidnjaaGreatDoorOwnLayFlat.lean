/- The law LayFlat of package pargetrylaw2 answers true at every statement and all choices: a statement's doc, flat, is its line; whatever way it is laid, without blanks and new lines it is that line without them. Its conditions: the listed package variables (Go's own internal/strconv.uint64pow10, math/bits.deBruijn32tab and deBruijn64tab, unicode/utf8.acceptRanges and first) read as the program's text lays them, and the card ties that to the text. -/
import Derived.Test.YtmbeamcjpidnjaaGreatDoorCards
import Derived.Test.YtmbeamcjpidnjaaGreatDoorTie
import Derived.Test.YtmbeamcjpidnjaaGreatDoorLawLayFlat
import Derived.Test.YtmbeamcjpidnjaaGreatDoorLaidSs
import Derived.Test.YtmbeamcjpidnjaaGreatDoorOpenT
import Derived.Test.YtmbeamcjpidnjaaGreatDoorOpenW
import Derived.WalkKit
import Derived.ProofKit
import Derived.OpenShut
import Derived.SizedLaws
import Derived.Lib.SmallJoins
namespace Go.Proofs.YtmbeamcjpidnjaaGreatDoor
open Go.ChangeShapes Go.WideShapes Go.ChangeAt Go.RowKit Go.Joins
open Go.WideMaps Go.WideElems

set_option maxRecDepth 100000 in
theorem lifted (os : Os) (started : os.Started) (H : Type) (enc : TypeId × Value → H) :
    ReturnsInHanded {} Tryz.checked os 6 .any (fun w args => (Rows.layFlatSpec.pre enc Tryz.prog Tryz.f6 [] false w args ∧ laidMetH Tryz.prog Rows.layFlatRow.laid w) ∧ sizedMet enc Tryz.prog Tryz.f6 (OpenSpec.ofChange Rows.layFlatSpec) false w args)
      (Rows.layFlatSpec.post enc Tryz.prog Tryz.f6 false true false false) := by
  refine returnsInHanded_of_change_and (C := Tryz.checked) (X := fun w _ => laidMetH Tryz.prog Rows.layFlatRow.laid w) (fun _ _ _ hh h => h.of_heap hh) Tryz.own started (by kernel_rfl) Tryz.func6
    (ChangeSpec.witness_shaped (enc := enc) (C := Tryz.checked) (os := os) (X := fun w _ => laidMetH Tryz.prog Rows.layFlatRow.laid w) false (synWorld Tryz.prog os) #[.slice none 0 0, .slice none 0 0] 8 (World.layVars_os _ _ _) (synShaped os _) (by kernel_rfl) (by kernel_rfl) (by kernel_rfl) (fla_met os _)) ?_
  intro W base args ds gs before hval0 hW _ hsz0 hL _
  have hsz : (DataW.weightsEach Tryz.prog (Tryz.f6.params.toList ++ Rows.layFlatSpec.plain.varTypes Tryz.prog) (ds ++ gs)).all (· ≤ reachBytes) = true := hsz0
  clear hsz0
  have hval : ∀ (j : Nat) t v, Tryz.f6.params[j]? = some t → args[j]? = some v → Value.okWide Tryz.prog W .any base t v := hval0
  have hW' := hW
  obtain ⟨p, q, hA0, hV, rfl, _, _⟩ := hW
  have hA : DataW.TrodAll enc Tryz.prog W 0 (fun _ => true) true Tryz.f6.params.toList args.toList ds p := hA0
  rw [Tryz.params6] at hA hval hsz
  obtain ⟨v0, vs0, d0, ds0, p0, q0, hargs, rfl, rfl, h0, r0⟩ := trodAll_cons hA
  obtain ⟨v1, vs1, d1, ds1, p1, q1, rfl, rfl, rfl, h1, r1⟩ := trodAll_cons r0
  obtain ⟨rfl, rfl, rfl⟩ := trodAll_nil r1
  obtain rfl : args = #[v0, v1] := by cases args; simp_all
  obtain ⟨rfl, rfl⟩ := trodVars_none hV
  obtain ⟨a0, l0, c0, rfl⟩ := okWide_slice Tryz.underlying40 (hval 0 40 v0 rfl rfl)
  obtain ⟨a1, l1, c1, rfl⟩ := okWide_slice Tryz.underlying42 (hval 1 42 v1 rfl rfl)
  obtain ⟨tds, rfl, hc, hN, hbt⟩ := open_treesS h0
  obtain ⟨ws, rfl, hwc, hwm, hI⟩ := open_nums h1
  clear hA0 hval0
  simp only [List.append_nil] at hW'
  have hlt0 : ∀ x ∈ p0, x.block < W.heap.size := fun x hx => hW'.lt x (by simp [hx])
  have hlt1 : ∀ x ∈ p1, x.block < W.heap.size := fun x hx => hW'.lt x (by simp [hx])
  have hft : Few9 tds := fun x hx => by
    have h1 := of_decide_eq_true (List.all_eq_true.1 hsz _ (DataW.weights_mem_each (j := 0) (t := 40) (d := d0) rfl rfl _ (hbt x hx)))
    exact h1
  refine (layFlat_any tds a0 c0 ws a1 c1 W hc hN hft hwc (by unfold maxLen at hwm; omega) hI (fla_pow hL)).mono fun e W' ⟨he, hnx⟩ => ?_
  subst he
  refine ⟨_, rfl, _, _, _, [], p0 ++ (p1 ++ []), [], hW', ?_, ?_, rfl, hnx.frame _, fun h => by cases h⟩
  · exact trodAll_cons_mk (shut_bool Tryz.underlying4 _) trodAll_mk0
  · exact trodAll_cons_mk (Below.trod laidOutT (by kernel_rfl) (of_decide_eq_true (by kernel_rfl)) h0 hnx hlt0) (trodAll_cons_mk (Below.trod laidOutT (by kernel_rfl) (of_decide_eq_true (by kernel_rfl)) h1 hnx hlt1) trodAll_mk0)

theorem layFlat_said : Rows.LayFlatSaid :=
  OpenClaim.holds_of_wide 6 Tryz.f6 rfl rfl rfl rfl rfl rfl rfl ⟨rfl, rfl, rfl, rfl, rfl⟩ rfl rfl rfl rfl rfl (by kernel_rfl) Tryz.func6 (by kernel_rfl)
    (of_decide_eq_true (by kernel_rfl)) (by unfold Func.isWrapper; first | (rw [if_pos (by decide +kernel)]; kernel_rfl) | (rw [if_neg (by decide +kernel)]; exact ⟨rfl, rfl⟩))
    (fun os started H enc _ => lifted os started H enc)

theorem layFlat_holds : Rows.LayFlatCardSaid :=
  Claim7.holds_tied_plain_at .later [] _ _ _ _ layFlat_said (fun _ h => by cases h) (by kernel_rfl) (fun _ h => by cases h) layFlat_row_tie rfl ⟨rfl, rfl⟩ (by kernel_rfl) rfl
    (fun f fn hf hfn => by
      obtain rfl : f = 6 := Option.some.inj ((show Tryz.prog.funcNamed Rows.layFlatRow.func = some 6 by kernel_rfl).symm.trans hf) |>.symm
      obtain rfl : fn = Tryz.f6 := (Option.some.inj (Tryz.func6.symm.trans hfn)).symm
      refine ⟨by kernel_rfl, fun j t ht => ?_⟩
      rw [Tryz.params6] at ht
      have h4 : t = 40 ∨ t = 42 := by
        have := Array.mem_of_getElem? ht
        simp at this
        omega
      rcases h4 with rfl | rfl
      · exact (show Tryz.prog.wantsStandIn 40 = false by kernel_rfl)
      · exact (show Tryz.prog.wantsStandIn 42 = false by kernel_rfl))
    (by kernel_rfl)
#print axioms layFlat_holds
end Go.Proofs.YtmbeamcjpidnjaaGreatDoor
