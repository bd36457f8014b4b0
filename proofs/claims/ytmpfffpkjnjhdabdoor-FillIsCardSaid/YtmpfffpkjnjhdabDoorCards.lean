/-
  DERIVED. GIVEN WITH THE SEED: THE CARDS: each row of YtmpfffpkjnjhdabDoorRows.lean that lists a variable, with what it lists TIED to the program's text (the seventh form; the later family's looks); each row that meets fmt, with fmt's text TOLD by the authors' own Lean function (tested against real Go, not proved from fmt's source: count such statements apart). THE CARD IS WHAT COUNTS. Prove the row's statement (the work); the ties are given (YtmpfffpkjnjhdabDoorTie.lean); close each card by the builder's one call (the guide's Derived/Test/ToyasCard.lean, 'card_holds'). Laid BY PROGRAM, IN A SANDBOX (cutbox-door.mjs). By AI agents, Wed Nov 11 2026. No macro, syntax, notation, axiom, sorry.
-/
import Derived.Test.YtmpfffpkjnjhdabDoorRows
import GoSem.ClaimSeven
namespace Go.Proofs.YtmpfffpkjnjhdabDoor
namespace Rows

/-- THE TIED CARD OF 'pargetrylaw1.FillIs'. -/
def fillIsCard : Claim7 := { stood := { row := fillIsRow, standIns := [], harness := (true, "615af7c937ea36ba665d3eda46a65dc95af1474954ca047a8a4c508af43ca23a"), looks := true }, kinds := [], alts := [], laidByText := true, laidKinds := [.handle], laidTests := true, laidLooks := .later }
def FillIsCardSaid : Prop := Claim7.holds Tryd.pinned (.plain (OpenSpec.ofChange fillIsSpec)) fillIsCard

/-- THE SECOND FORM's CARD OF 'pargetrylaw1.FillIs'. -/
def fillIsUptoCard : Claim7 := { stood := { row := fillIsUptoRow, standIns := [], harness := (true, "615af7c937ea36ba665d3eda46a65dc95af1474954ca047a8a4c508af43ca23a"), looks := true }, kinds := [], alts := [], laidByText := true, laidKinds := [.handle], laidTests := true, laidLooks := .later }
def FillIsUptoCardSaid : Prop := Claim7.holds Tryd.pinned (.plain (OpenSpec.upto fillIsSpec)) fillIsUptoCard
end Rows
end Go.Proofs.YtmpfffpkjnjhdabDoor
