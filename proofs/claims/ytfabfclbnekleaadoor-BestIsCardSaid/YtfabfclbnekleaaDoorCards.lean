/-
  DERIVED. GIVEN WITH THE SEED: THE CARDS: each row of YtfabfclbnekleaaDoorRows.lean that lists a variable, with what it lists TIED to the program's text (the seventh form; the later family's looks); each row that meets fmt, with fmt's text TOLD by the authors' own Lean function (tested against real Go, not proved from fmt's source: count such statements apart). THE CARD IS WHAT COUNTS. Prove the row's statement (the work); the ties are given (YtfabfclbnekleaaDoorTie.lean); close each card by the builder's one call (the guide's Derived/Test/ToyasCard.lean, 'card_holds'). Laid BY PROGRAM, IN A SANDBOX (cutbox-door.mjs). By AI agents, Wed Nov 11 2026. No macro, syntax, notation, axiom, sorry.
-/
import Derived.Test.YtfabfclbnekleaaDoorRows
import GoSem.ClaimSeven
namespace Go.Proofs.YtfabfclbnekleaaDoor
namespace Rows

/-- THE TIED CARD OF 'pargetrylaw1.CostIs'. -/
def costIsCard : Claim7 := { stood := { row := costIsRow, standIns := [], harness := (true, "5597bc44f66efb85de8254acaed63540d49cedb98e69bfc809e5d08e9c168329"), looks := true }, kinds := [], alts := [], laidByText := true, laidKinds := [.handle], laidTests := true, laidLooks := .later }
def CostIsCardSaid : Prop := Claim7.holds Tryd.pinned (.plain (OpenSpec.ofChange costIsSpec)) costIsCard

/-- THE TIED CARD OF 'pargetrylaw1.DocIs'. -/
def docIsCard : Claim7 := { stood := { row := docIsRow, standIns := [], harness := (true, "5597bc44f66efb85de8254acaed63540d49cedb98e69bfc809e5d08e9c168329"), looks := true }, kinds := [], alts := [], laidByText := true, laidKinds := [.data, .data, .data, .handle], laidTests := true, laidLooks := .later }
def DocIsCardSaid : Prop := Claim7.holds Tryd.pinned (.plain (OpenSpec.ofChange docIsSpec)) docIsCard

/-- THE TIED CARD OF 'pargetrylaw1.DocEnds'. -/
def docEndsCard : Claim7 := { stood := { row := docEndsRow, standIns := [], harness := (true, "5597bc44f66efb85de8254acaed63540d49cedb98e69bfc809e5d08e9c168329"), looks := true }, kinds := [], alts := [], laidByText := true, laidKinds := [.data, .data, .data], laidTests := true, laidLooks := .later }
def DocEndsCardSaid : Prop := Claim7.holds Tryd.pinned (.plain (OpenSpec.ofChange docEndsSpec)) docEndsCard

/-- THE TIED CARD OF 'pargetrylaw1.FlatIs'. -/
def flatIsCard : Claim7 := { stood := { row := flatIsRow, standIns := [], harness := (true, "5597bc44f66efb85de8254acaed63540d49cedb98e69bfc809e5d08e9c168329"), looks := true }, kinds := [], alts := [], laidByText := true, laidKinds := [.handle], laidTests := true, laidLooks := .later }
def FlatIsCardSaid : Prop := Claim7.holds Tryd.pinned (.plain (OpenSpec.ofChange flatIsSpec)) flatIsCard

/-- THE TIED CARD OF 'pargetrylaw1.FlatShows'. -/
def flatShowsCard : Claim7 := { stood := { row := flatShowsRow, standIns := [], harness := (true, "5597bc44f66efb85de8254acaed63540d49cedb98e69bfc809e5d08e9c168329"), looks := true }, kinds := [], alts := [], laidByText := true, laidKinds := [.handle], laidTests := true, laidLooks := .later }
def FlatShowsCardSaid : Prop := Claim7.holds Tryd.pinned (.plain (OpenSpec.ofChange flatShowsSpec)) flatShowsCard

/-- THE TIED CARD OF 'pargetrylaw1.WayIs'. -/
def wayIsCard : Claim7 := { stood := { row := wayIsRow, standIns := [], harness := (true, "5597bc44f66efb85de8254acaed63540d49cedb98e69bfc809e5d08e9c168329"), looks := true }, kinds := [], alts := [], laidByText := true, laidKinds := [.handle], laidTests := true, laidLooks := .later }
def WayIsCardSaid : Prop := Claim7.holds Tryd.pinned (.plain (OpenSpec.ofChange wayIsSpec)) wayIsCard

/-- THE TIED CARD OF 'pargetrylaw1.BestIs'. -/
def bestIsCard : Claim7 := { stood := { row := bestIsRow, standIns := [], harness := (true, "5597bc44f66efb85de8254acaed63540d49cedb98e69bfc809e5d08e9c168329"), looks := true }, kinds := [], alts := [], laidByText := true, laidKinds := [.handle], laidTests := true, laidLooks := .later }
def BestIsCardSaid : Prop := Claim7.holds Tryd.pinned (.plain (OpenSpec.ofChange bestIsSpec)) bestIsCard

/-- THE SECOND FORM's CARD OF 'pargetrylaw1.CostIs'. -/
def costIsUptoCard : Claim7 := { stood := { row := costIsUptoRow, standIns := [], harness := (true, "5597bc44f66efb85de8254acaed63540d49cedb98e69bfc809e5d08e9c168329"), looks := true }, kinds := [], alts := [], laidByText := true, laidKinds := [.handle], laidTests := true, laidLooks := .later }
def CostIsUptoCardSaid : Prop := Claim7.holds Tryd.pinned (.plain (OpenSpec.upto costIsSpec)) costIsUptoCard

/-- THE SECOND FORM's CARD OF 'pargetrylaw1.DocIs'. -/
def docIsUptoCard : Claim7 := { stood := { row := docIsUptoRow, standIns := [], harness := (true, "5597bc44f66efb85de8254acaed63540d49cedb98e69bfc809e5d08e9c168329"), looks := true }, kinds := [], alts := [], laidByText := true, laidKinds := [.data, .data, .data, .handle], laidTests := true, laidLooks := .later }
def DocIsUptoCardSaid : Prop := Claim7.holds Tryd.pinned (.plain (OpenSpec.upto docIsSpec)) docIsUptoCard

/-- THE SECOND FORM's CARD OF 'pargetrylaw1.DocEnds'. -/
def docEndsUptoCard : Claim7 := { stood := { row := docEndsUptoRow, standIns := [], harness := (true, "5597bc44f66efb85de8254acaed63540d49cedb98e69bfc809e5d08e9c168329"), looks := true }, kinds := [], alts := [], laidByText := true, laidKinds := [.data, .data, .data], laidTests := true, laidLooks := .later }
def DocEndsUptoCardSaid : Prop := Claim7.holds Tryd.pinned (.plain (OpenSpec.upto docEndsSpec)) docEndsUptoCard

/-- THE SECOND FORM's CARD OF 'pargetrylaw1.FlatIs'. -/
def flatIsUptoCard : Claim7 := { stood := { row := flatIsUptoRow, standIns := [], harness := (true, "5597bc44f66efb85de8254acaed63540d49cedb98e69bfc809e5d08e9c168329"), looks := true }, kinds := [], alts := [], laidByText := true, laidKinds := [.handle], laidTests := true, laidLooks := .later }
def FlatIsUptoCardSaid : Prop := Claim7.holds Tryd.pinned (.plain (OpenSpec.upto flatIsSpec)) flatIsUptoCard

/-- THE SECOND FORM's CARD OF 'pargetrylaw1.FlatShows'. -/
def flatShowsUptoCard : Claim7 := { stood := { row := flatShowsUptoRow, standIns := [], harness := (true, "5597bc44f66efb85de8254acaed63540d49cedb98e69bfc809e5d08e9c168329"), looks := true }, kinds := [], alts := [], laidByText := true, laidKinds := [.handle], laidTests := true, laidLooks := .later }
def FlatShowsUptoCardSaid : Prop := Claim7.holds Tryd.pinned (.plain (OpenSpec.upto flatShowsSpec)) flatShowsUptoCard

/-- THE SECOND FORM's CARD OF 'pargetrylaw1.WayIs'. -/
def wayIsUptoCard : Claim7 := { stood := { row := wayIsUptoRow, standIns := [], harness := (true, "5597bc44f66efb85de8254acaed63540d49cedb98e69bfc809e5d08e9c168329"), looks := true }, kinds := [], alts := [], laidByText := true, laidKinds := [.handle], laidTests := true, laidLooks := .later }
def WayIsUptoCardSaid : Prop := Claim7.holds Tryd.pinned (.plain (OpenSpec.upto wayIsSpec)) wayIsUptoCard

/-- THE SECOND FORM's CARD OF 'pargetrylaw1.BestIs'. -/
def bestIsUptoCard : Claim7 := { stood := { row := bestIsUptoRow, standIns := [], harness := (true, "5597bc44f66efb85de8254acaed63540d49cedb98e69bfc809e5d08e9c168329"), looks := true }, kinds := [], alts := [], laidByText := true, laidKinds := [.handle], laidTests := true, laidLooks := .later }
def BestIsUptoCardSaid : Prop := Claim7.holds Tryd.pinned (.plain (OpenSpec.upto bestIsSpec)) bestIsUptoCard
end Rows
end Go.Proofs.YtfabfclbnekleaaDoor
