/-
  DERIVED. GIVEN WITH THE SEED: THE CARDS: each row of YtjabhlfhpmkfhaaGreatDoorRows.lean that lists a variable, with what it lists TIED to the program's text (the seventh form; the later family's looks); each row that meets fmt, with fmt's text TOLD by the authors' own Lean function (tested against real Go, not proved from fmt's source: count such statements apart). THE CARD IS WHAT COUNTS. Prove the row's statement (the work); the ties are given (YtjabhlfhpmkfhaaGreatDoorTie.lean); close each card by the builder's one call (the guide's Derived/Test/ToyasCard.lean, 'card_holds'). Laid BY PROGRAM, IN A SANDBOX (cutbox-door.mjs). By AI agents, Wed Nov 11 2026. No macro, syntax, notation, axiom, sorry.
-/
import Derived.Test.YtjabhlfhpmkfhaaGreatDoorRows
import GoSem.ClaimSeven
namespace Go.Proofs.YtjabhlfhpmkfhaaGreatDoor
namespace Rows

/-- THE TIED CARD OF 'pargetrylaw2.SynIs'. -/
def synIsCard : Claim7 := { stood := { row := synIsRow, standIns := [], harness := (true, "6c49cbe5987afcfb0dedcb7d495df2ad298c5eb3c00cf51af1282462fbd387ab"), looks := true }, kinds := [], alts := [], laidByText := true, laidKinds := [.data, .data, .data, .data, .handle, .sentinel, .sentinel, .listed, .data, .pinned], laidTests := true, laidLooks := .later }
def SynIsCardSaid : Prop := Claim7.holds Tryz.pinned (.plain (OpenSpec.ofChange synIsSpec)) synIsCard

/-- THE TIED CARD OF 'pargetrylaw2.SynBack'. -/
def synBackCard : Claim7 := { stood := { row := synBackRow, standIns := [], harness := (true, "6c49cbe5987afcfb0dedcb7d495df2ad298c5eb3c00cf51af1282462fbd387ab"), looks := true }, kinds := [], alts := [], laidByText := true, laidKinds := [.data, .data, .data, .data, .handle, .sentinel, .sentinel, .listed, .data, .pinned], laidTests := true, laidLooks := .later }
def SynBackCardSaid : Prop := Claim7.holds Tryz.pinned (.plain (OpenSpec.ofChange synBackSpec)) synBackCard

/-- THE SECOND FORM's CARD OF 'pargetrylaw2.SynIs'. -/
def synIsUptoCard : Claim7 := { stood := { row := synIsUptoRow, standIns := [], harness := (true, "6c49cbe5987afcfb0dedcb7d495df2ad298c5eb3c00cf51af1282462fbd387ab"), looks := true }, kinds := [], alts := [], laidByText := true, laidKinds := [.data, .data, .data, .data, .handle, .sentinel, .sentinel, .listed, .data, .pinned], laidTests := true, laidLooks := .later }
def SynIsUptoCardSaid : Prop := Claim7.holds Tryz.pinned (.plain (OpenSpec.upto synIsSpec)) synIsUptoCard

/-- THE SECOND FORM's CARD OF 'pargetrylaw2.SynBack'. -/
def synBackUptoCard : Claim7 := { stood := { row := synBackUptoRow, standIns := [], harness := (true, "6c49cbe5987afcfb0dedcb7d495df2ad298c5eb3c00cf51af1282462fbd387ab"), looks := true }, kinds := [], alts := [], laidByText := true, laidKinds := [.data, .data, .data, .data, .handle, .sentinel, .sentinel, .listed, .data, .pinned], laidTests := true, laidLooks := .later }
def SynBackUptoCardSaid : Prop := Claim7.holds Tryz.pinned (.plain (OpenSpec.upto synBackSpec)) synBackUptoCard
end Rows
end Go.Proofs.YtjabhlfhpmkfhaaGreatDoor
