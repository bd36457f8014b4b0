/-
  DERIVED. GIVEN WITH THE SEED: THE CARDS: each row of YtmbeamcjpidnjaaGreatDoorRows.lean that lists a variable, with what it lists TIED to the program's text (the seventh form; the later family's looks); each row that meets fmt, with fmt's text TOLD by the authors' own Lean function (tested against real Go, not proved from fmt's source: count such statements apart). THE CARD IS WHAT COUNTS. Prove the row's statement (the work); the ties are given (YtmbeamcjpidnjaaGreatDoorTie.lean); close each card by the builder's one call (the guide's Derived/Test/ToyasCard.lean, 'card_holds'). Laid BY PROGRAM, IN A SANDBOX (cutbox-door.mjs). By AI agents, Wed Nov 11 2026. No macro, syntax, notation, axiom, sorry.
-/
import Derived.Test.YtmbeamcjpidnjaaGreatDoorRows
import GoSem.ClaimSeven
namespace Go.Proofs.YtmbeamcjpidnjaaGreatDoor
namespace Rows

/-- THE TIED CARD OF 'pargetrylaw2.SynIs'. -/
def synIsCard : Claim7 := { stood := { row := synIsRow, standIns := [], harness := (true, "1d6508c472a170e28665bf74f579d1fcffb4a9c552354b10bb1f00833a9e0941"), looks := true }, kinds := [], alts := [], laidByText := true, laidKinds := [.data, .data, .data, .data, .handle, .sentinel, .sentinel, .listed, .data, .pinned], laidTests := true, laidLooks := .later }
def SynIsCardSaid : Prop := Claim7.holds Tryz.pinned (.plain (OpenSpec.ofChange synIsSpec)) synIsCard

/-- THE TIED CARD OF 'pargetrylaw2.SynBack'. -/
def synBackCard : Claim7 := { stood := { row := synBackRow, standIns := [], harness := (true, "1d6508c472a170e28665bf74f579d1fcffb4a9c552354b10bb1f00833a9e0941"), looks := true }, kinds := [], alts := [], laidByText := true, laidKinds := [.data, .data, .data, .data, .handle, .sentinel, .sentinel, .listed, .data, .pinned], laidTests := true, laidLooks := .later }
def SynBackCardSaid : Prop := Claim7.holds Tryz.pinned (.plain (OpenSpec.ofChange synBackSpec)) synBackCard

/-- THE TIED CARD OF 'pargetrylaw2.LayIs'. -/
def layIsCard : Claim7 := { stood := { row := layIsRow, standIns := [], harness := (true, "1d6508c472a170e28665bf74f579d1fcffb4a9c552354b10bb1f00833a9e0941"), looks := true }, kinds := [], alts := [], laidByText := true, laidKinds := [.data, .data, .data, .data, .handle, .listed, .data, .pinned], laidTests := true, laidLooks := .later }
def LayIsCardSaid : Prop := Claim7.holds Tryz.pinned (.plain (OpenSpec.ofChange layIsSpec)) layIsCard

/-- THE TIED CARD OF 'pargetrylaw2.LayFlat'. -/
def layFlatCard : Claim7 := { stood := { row := layFlatRow, standIns := [], harness := (true, "1d6508c472a170e28665bf74f579d1fcffb4a9c552354b10bb1f00833a9e0941"), looks := true }, kinds := [], alts := [], laidByText := true, laidKinds := [.data, .data, .data, .data, .pinned], laidTests := true, laidLooks := .later }
def LayFlatCardSaid : Prop := Claim7.holds Tryz.pinned (.plain (OpenSpec.ofChange layFlatSpec)) layFlatCard

/-- THE SECOND FORM's CARD OF 'pargetrylaw2.SynIs'. -/
def synIsUptoCard : Claim7 := { stood := { row := synIsUptoRow, standIns := [], harness := (true, "1d6508c472a170e28665bf74f579d1fcffb4a9c552354b10bb1f00833a9e0941"), looks := true }, kinds := [], alts := [], laidByText := true, laidKinds := [.data, .data, .data, .data, .handle, .sentinel, .sentinel, .listed, .data, .pinned], laidTests := true, laidLooks := .later }
def SynIsUptoCardSaid : Prop := Claim7.holds Tryz.pinned (.plain (OpenSpec.upto synIsSpec)) synIsUptoCard

/-- THE SECOND FORM's CARD OF 'pargetrylaw2.SynBack'. -/
def synBackUptoCard : Claim7 := { stood := { row := synBackUptoRow, standIns := [], harness := (true, "1d6508c472a170e28665bf74f579d1fcffb4a9c552354b10bb1f00833a9e0941"), looks := true }, kinds := [], alts := [], laidByText := true, laidKinds := [.data, .data, .data, .data, .handle, .sentinel, .sentinel, .listed, .data, .pinned], laidTests := true, laidLooks := .later }
def SynBackUptoCardSaid : Prop := Claim7.holds Tryz.pinned (.plain (OpenSpec.upto synBackSpec)) synBackUptoCard

/-- THE SECOND FORM's CARD OF 'pargetrylaw2.LayIs'. -/
def layIsUptoCard : Claim7 := { stood := { row := layIsUptoRow, standIns := [], harness := (true, "1d6508c472a170e28665bf74f579d1fcffb4a9c552354b10bb1f00833a9e0941"), looks := true }, kinds := [], alts := [], laidByText := true, laidKinds := [.data, .data, .data, .data, .handle, .listed, .data, .pinned], laidTests := true, laidLooks := .later }
def LayIsUptoCardSaid : Prop := Claim7.holds Tryz.pinned (.plain (OpenSpec.upto layIsSpec)) layIsUptoCard

/-- THE SECOND FORM's CARD OF 'pargetrylaw2.LayFlat'. -/
def layFlatUptoCard : Claim7 := { stood := { row := layFlatUptoRow, standIns := [], harness := (true, "1d6508c472a170e28665bf74f579d1fcffb4a9c552354b10bb1f00833a9e0941"), looks := true }, kinds := [], alts := [], laidByText := true, laidKinds := [.data, .data, .data, .data, .pinned], laidTests := true, laidLooks := .later }
def LayFlatUptoCardSaid : Prop := Claim7.holds Tryz.pinned (.plain (OpenSpec.upto layFlatSpec)) layFlatUptoCard
end Rows
end Go.Proofs.YtmbeamcjpidnjaaGreatDoor
