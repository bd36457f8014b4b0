/-
  DERIVED. GIVEN WITH THE SEED: THE CARDS: each row of YtchdplceopegoaaGreatDoorRows.lean that lists a variable, with what it lists TIED to the program's text (the seventh form; the later family's looks); each row that meets fmt, with fmt's text TOLD by the authors' own Lean function (tested against real Go, not proved from fmt's source: count such statements apart). THE CARD IS WHAT COUNTS. Prove the row's statement (the work); the ties are given (YtchdplceopegoaaGreatDoorTie.lean); close each card by the builder's one call (the guide's Derived/Test/ToyasCard.lean, 'card_holds'). Laid BY PROGRAM, IN A SANDBOX (cutbox-door.mjs). By AI agents, Wed Nov 11 2026. No macro, syntax, notation, axiom, sorry.
-/
import Derived.Test.YtchdplceopegoaaGreatDoorRows
import GoSem.ClaimSeven
namespace Go.Proofs.YtchdplceopegoaaGreatDoor
namespace Rows

/-- THE TIED CARD OF 'pargetrylaw2.DeskIs'. -/
def deskIsCard : Claim7 := { stood := { row := deskIsRow, standIns := [], harness := (true, "668bca245e5306aad131e9dd401ee07dffc75bb90e4ff41c737ff0b0ecc6bdbf"), looks := true }, kinds := [], alts := [], laidByText := true, laidKinds := [.data, .data, .data, .data, .handle, .sentinel, .sentinel, .listed, .data, .pinned], laidTests := true, laidLooks := .later }
def DeskIsCardSaid : Prop := Claim7.holds Tryz.pinned (.plain (OpenSpec.ofChange deskIsSpec)) deskIsCard

/-- THE TIED CARD OF 'pargetrylaw2.DeskSame'. -/
def deskSameCard : Claim7 := { stood := { row := deskSameRow, standIns := [], harness := (true, "668bca245e5306aad131e9dd401ee07dffc75bb90e4ff41c737ff0b0ecc6bdbf"), looks := true }, kinds := [], alts := [], laidByText := true, laidKinds := [.data, .data, .data, .data, .sentinel, .sentinel, .listed, .data, .pinned], laidTests := true, laidLooks := .later }
def DeskSameCardSaid : Prop := Claim7.holds Tryz.pinned (.plain (OpenSpec.ofChange deskSameSpec)) deskSameCard

/-- THE TIED CARD OF 'pargetrylaw2.DeskWide'. -/
def deskWideCard : Claim7 := { stood := { row := deskWideRow, standIns := [], harness := (true, "668bca245e5306aad131e9dd401ee07dffc75bb90e4ff41c737ff0b0ecc6bdbf"), looks := true }, kinds := [], alts := [], laidByText := true, laidKinds := [.data, .data, .data, .data, .sentinel, .sentinel, .listed, .data, .pinned], laidTests := true, laidLooks := .later }
def DeskWideCardSaid : Prop := Claim7.holds Tryz.pinned (.plain (OpenSpec.ofChange deskWideSpec)) deskWideCard

/-- THE SECOND FORM's CARD OF 'pargetrylaw2.DeskIs'. -/
def deskIsUptoCard : Claim7 := { stood := { row := deskIsUptoRow, standIns := [], harness := (true, "668bca245e5306aad131e9dd401ee07dffc75bb90e4ff41c737ff0b0ecc6bdbf"), looks := true }, kinds := [], alts := [], laidByText := true, laidKinds := [.data, .data, .data, .data, .handle, .sentinel, .sentinel, .listed, .data, .pinned], laidTests := true, laidLooks := .later }
def DeskIsUptoCardSaid : Prop := Claim7.holds Tryz.pinned (.plain (OpenSpec.upto deskIsSpec)) deskIsUptoCard

/-- THE SECOND FORM's CARD OF 'pargetrylaw2.DeskSame'. -/
def deskSameUptoCard : Claim7 := { stood := { row := deskSameUptoRow, standIns := [], harness := (true, "668bca245e5306aad131e9dd401ee07dffc75bb90e4ff41c737ff0b0ecc6bdbf"), looks := true }, kinds := [], alts := [], laidByText := true, laidKinds := [.data, .data, .data, .data, .sentinel, .sentinel, .listed, .data, .pinned], laidTests := true, laidLooks := .later }
def DeskSameUptoCardSaid : Prop := Claim7.holds Tryz.pinned (.plain (OpenSpec.upto deskSameSpec)) deskSameUptoCard

/-- THE SECOND FORM's CARD OF 'pargetrylaw2.DeskWide'. -/
def deskWideUptoCard : Claim7 := { stood := { row := deskWideUptoRow, standIns := [], harness := (true, "668bca245e5306aad131e9dd401ee07dffc75bb90e4ff41c737ff0b0ecc6bdbf"), looks := true }, kinds := [], alts := [], laidByText := true, laidKinds := [.data, .data, .data, .data, .sentinel, .sentinel, .listed, .data, .pinned], laidTests := true, laidLooks := .later }
def DeskWideUptoCardSaid : Prop := Claim7.holds Tryz.pinned (.plain (OpenSpec.upto deskWideSpec)) deskWideUptoCard
end Rows
end Go.Proofs.YtchdplceopegoaaGreatDoor
