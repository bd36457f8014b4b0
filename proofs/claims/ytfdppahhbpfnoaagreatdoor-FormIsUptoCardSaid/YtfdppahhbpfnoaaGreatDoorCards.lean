/-
  DERIVED. GIVEN WITH THE SEED: THE CARDS: each row of YtfdppahhbpfnoaaGreatDoorRows.lean that lists a variable, with what it lists TIED to the program's text (the seventh form; the later family's looks); each row that meets fmt, with fmt's text TOLD by the authors' own Lean function (tested against real Go, not proved from fmt's source: count such statements apart). THE CARD IS WHAT COUNTS. Prove the row's statement (the work); the ties are given (YtfdppahhbpfnoaaGreatDoorTie.lean); close each card by the builder's one call (the guide's Derived/Test/ToyasCard.lean, 'card_holds'). Laid BY PROGRAM, IN A SANDBOX (cutbox-door.mjs). By AI agents, Wed Nov 11 2026. No macro, syntax, notation, axiom, sorry.
-/
import Derived.Test.YtfdppahhbpfnoaaGreatDoorRows
import GoSem.ClaimSeven
namespace Go.Proofs.YtfdppahhbpfnoaaGreatDoor
namespace Rows

/-- THE TIED CARD OF 'pargetrylaw2.FormIs'. -/
def formIsCard : Claim7 := { stood := { row := formIsRow, standIns := [], harness := (true, "cd68bafd2594dfb141426f5852499eca2b90110a3c1b5d6ea769efa47724245a"), looks := true }, kinds := [], alts := [], laidByText := true, laidKinds := [.data, .data, .data, .data, .handle, .sentinel, .sentinel, .listed, .data, .pinned], laidTests := true, laidLooks := .later }
def FormIsCardSaid : Prop := Claim7.holds Tryz.pinned (.plain (OpenSpec.ofChange formIsSpec)) formIsCard

/-- THE TIED CARD OF 'pargetrylaw2.FormBack'. -/
def formBackCard : Claim7 := { stood := { row := formBackRow, standIns := [], harness := (true, "cd68bafd2594dfb141426f5852499eca2b90110a3c1b5d6ea769efa47724245a"), looks := true }, kinds := [], alts := [], laidByText := true, laidKinds := [.data, .data, .data, .data, .sentinel, .sentinel, .listed, .data, .pinned], laidTests := true, laidLooks := .later }
def FormBackCardSaid : Prop := Claim7.holds Tryz.pinned (.plain (OpenSpec.ofChange formBackSpec)) formBackCard

/-- THE TIED CARD OF 'pargetrylaw2.FormFits'. -/
def formFitsCard : Claim7 := { stood := { row := formFitsRow, standIns := [], harness := (true, "cd68bafd2594dfb141426f5852499eca2b90110a3c1b5d6ea769efa47724245a"), looks := true }, kinds := [], alts := [], laidByText := true, laidKinds := [.data, .data, .data, .data, .listed, .data, .pinned], laidTests := true, laidLooks := .later }
def FormFitsCardSaid : Prop := Claim7.holds Tryz.pinned (.plain (OpenSpec.ofChange formFitsSpec)) formFitsCard

/-- THE SECOND FORM's CARD OF 'pargetrylaw2.FormIs'. -/
def formIsUptoCard : Claim7 := { stood := { row := formIsUptoRow, standIns := [], harness := (true, "cd68bafd2594dfb141426f5852499eca2b90110a3c1b5d6ea769efa47724245a"), looks := true }, kinds := [], alts := [], laidByText := true, laidKinds := [.data, .data, .data, .data, .handle, .sentinel, .sentinel, .listed, .data, .pinned], laidTests := true, laidLooks := .later }
def FormIsUptoCardSaid : Prop := Claim7.holds Tryz.pinned (.plain (OpenSpec.upto formIsSpec)) formIsUptoCard

/-- THE SECOND FORM's CARD OF 'pargetrylaw2.FormBack'. -/
def formBackUptoCard : Claim7 := { stood := { row := formBackUptoRow, standIns := [], harness := (true, "cd68bafd2594dfb141426f5852499eca2b90110a3c1b5d6ea769efa47724245a"), looks := true }, kinds := [], alts := [], laidByText := true, laidKinds := [.data, .data, .data, .data, .sentinel, .sentinel, .listed, .data, .pinned], laidTests := true, laidLooks := .later }
def FormBackUptoCardSaid : Prop := Claim7.holds Tryz.pinned (.plain (OpenSpec.upto formBackSpec)) formBackUptoCard

/-- THE SECOND FORM's CARD OF 'pargetrylaw2.FormFits'. -/
def formFitsUptoCard : Claim7 := { stood := { row := formFitsUptoRow, standIns := [], harness := (true, "cd68bafd2594dfb141426f5852499eca2b90110a3c1b5d6ea769efa47724245a"), looks := true }, kinds := [], alts := [], laidByText := true, laidKinds := [.data, .data, .data, .data, .listed, .data, .pinned], laidTests := true, laidLooks := .later }
def FormFitsUptoCardSaid : Prop := Claim7.holds Tryz.pinned (.plain (OpenSpec.upto formFitsSpec)) formFitsUptoCard
end Rows
end Go.Proofs.YtfdppahhbpfnoaaGreatDoor
