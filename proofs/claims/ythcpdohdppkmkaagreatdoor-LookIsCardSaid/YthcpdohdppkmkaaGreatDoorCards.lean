/-
  DERIVED. GIVEN WITH THE SEED: THE CARDS: each row of YthcpdohdppkmkaaGreatDoorRows.lean that lists a variable, with what it lists TIED to the program's text (the seventh form; the later family's looks); each row that meets fmt, with fmt's text TOLD by the authors' own Lean function (tested against real Go, not proved from fmt's source: count such statements apart). THE CARD IS WHAT COUNTS. Prove the row's statement (the work); the ties are given (YthcpdohdppkmkaaGreatDoorTie.lean); close each card by the builder's one call (the guide's Derived/Test/ToyasCard.lean, 'card_holds'). Laid BY PROGRAM, IN A SANDBOX (cutbox-door.mjs). By AI agents, Wed Nov 11 2026. No macro, syntax, notation, axiom, sorry.
-/
import Derived.Test.YthcpdohdppkmkaaGreatDoorRows
import GoSem.ClaimSeven
namespace Go.Proofs.YthcpdohdppkmkaaGreatDoor
namespace Rows

/-- THE TIED CARD OF 'pargetrylaw2.LookIs'. -/
def lookIsCard : Claim7 := { stood := { row := lookIsRow, standIns := [], harness := (true, "57f2dcb3448e1eb1284b9648cb9103beb03665cd0ddfb20b9bd76d5de73e7069"), looks := true }, kinds := [], alts := [], laidByText := true, laidKinds := [.data, .data, .data, .data, .handle, .sentinel, .sentinel, .listed, .data, .pinned], laidTests := true, laidLooks := .later }
def LookIsCardSaid : Prop := Claim7.holds Tryz.pinned (.plain (OpenSpec.ofChange lookIsSpec)) lookIsCard

/-- THE TIED CARD OF 'pargetrytop.TopSame'. -/
def topSameCard : Claim7 := { stood := { row := topSameRow, standIns := [], harness := (true, "57f2dcb3448e1eb1284b9648cb9103beb03665cd0ddfb20b9bd76d5de73e7069"), looks := true }, kinds := [], alts := [], laidByText := true, laidKinds := [.data, .data, .data, .data, .sentinel, .sentinel, .listed, .data, .pinned], laidTests := true, laidLooks := .later }
def TopSameCardSaid : Prop := Claim7.holds Tryz.pinned (.plain (OpenSpec.ofChange topSameSpec)) topSameCard

/-- THE TIED CARD OF 'pargetrytop.TopLeast'. -/
def topLeastCard : Claim7 := { stood := { row := topLeastRow, standIns := [], harness := (true, "57f2dcb3448e1eb1284b9648cb9103beb03665cd0ddfb20b9bd76d5de73e7069"), looks := true }, kinds := [], alts := [], laidByText := true, laidKinds := [.data, .data, .data, .data, .sentinel, .sentinel, .listed, .data, .pinned], laidTests := true, laidLooks := .later }
def TopLeastCardSaid : Prop := Claim7.holds Tryz.pinned (.plain (OpenSpec.ofChange topLeastSpec)) topLeastCard

/-- THE TIED CARD OF 'pargetrytop.TopParts'. -/
def topPartsCard : Claim7 := { stood := { row := topPartsRow, standIns := [], harness := (true, "57f2dcb3448e1eb1284b9648cb9103beb03665cd0ddfb20b9bd76d5de73e7069"), looks := true }, kinds := [], alts := [], laidByText := true, laidKinds := [.data, .data, .data, .data, .handle, .sentinel, .sentinel, .listed, .data, .pinned], laidTests := true, laidLooks := .later }
def TopPartsCardSaid : Prop := Claim7.holds Tryz.pinned (.plain (OpenSpec.ofChange topPartsSpec)) topPartsCard

/-- THE TIED CARD OF 'pargetrytop.TopWords'. -/
def topWordsCard : Claim7 := { stood := { row := topWordsRow, standIns := [], harness := (true, "57f2dcb3448e1eb1284b9648cb9103beb03665cd0ddfb20b9bd76d5de73e7069"), looks := true }, kinds := [], alts := [], laidByText := true, laidKinds := [.data, .data, .data, .data, .sentinel, .sentinel, .listed, .data, .pinned], laidTests := true, laidLooks := .later }
def TopWordsCardSaid : Prop := Claim7.holds Tryz.pinned (.plain (OpenSpec.ofChange topWordsSpec)) topWordsCard

/-- THE TIED CARD OF 'pargetrylaw2.LookEqual'. -/
def lookEqualCard : Claim7 := { stood := { row := lookEqualRow, standIns := [], harness := (true, "57f2dcb3448e1eb1284b9648cb9103beb03665cd0ddfb20b9bd76d5de73e7069"), looks := true }, kinds := [], alts := [], laidByText := true, laidKinds := [.data, .data, .data, .data, .sentinel, .sentinel, .listed, .data, .pinned], laidTests := true, laidLooks := .later }
def LookEqualCardSaid : Prop := Claim7.holds Tryz.pinned (.plain (OpenSpec.ofChange lookEqualSpec)) lookEqualCard

/-- THE SECOND FORM's CARD OF 'pargetrylaw2.LookIs'. -/
def lookIsUptoCard : Claim7 := { stood := { row := lookIsUptoRow, standIns := [], harness := (true, "57f2dcb3448e1eb1284b9648cb9103beb03665cd0ddfb20b9bd76d5de73e7069"), looks := true }, kinds := [], alts := [], laidByText := true, laidKinds := [.data, .data, .data, .data, .handle, .sentinel, .sentinel, .listed, .data, .pinned], laidTests := true, laidLooks := .later }
def LookIsUptoCardSaid : Prop := Claim7.holds Tryz.pinned (.plain (OpenSpec.upto lookIsSpec)) lookIsUptoCard

/-- THE SECOND FORM's CARD OF 'pargetrytop.TopSame'. -/
def topSameUptoCard : Claim7 := { stood := { row := topSameUptoRow, standIns := [], harness := (true, "57f2dcb3448e1eb1284b9648cb9103beb03665cd0ddfb20b9bd76d5de73e7069"), looks := true }, kinds := [], alts := [], laidByText := true, laidKinds := [.data, .data, .data, .data, .sentinel, .sentinel, .listed, .data, .pinned], laidTests := true, laidLooks := .later }
def TopSameUptoCardSaid : Prop := Claim7.holds Tryz.pinned (.plain (OpenSpec.upto topSameSpec)) topSameUptoCard

/-- THE SECOND FORM's CARD OF 'pargetrytop.TopLeast'. -/
def topLeastUptoCard : Claim7 := { stood := { row := topLeastUptoRow, standIns := [], harness := (true, "57f2dcb3448e1eb1284b9648cb9103beb03665cd0ddfb20b9bd76d5de73e7069"), looks := true }, kinds := [], alts := [], laidByText := true, laidKinds := [.data, .data, .data, .data, .sentinel, .sentinel, .listed, .data, .pinned], laidTests := true, laidLooks := .later }
def TopLeastUptoCardSaid : Prop := Claim7.holds Tryz.pinned (.plain (OpenSpec.upto topLeastSpec)) topLeastUptoCard

/-- THE SECOND FORM's CARD OF 'pargetrytop.TopParts'. -/
def topPartsUptoCard : Claim7 := { stood := { row := topPartsUptoRow, standIns := [], harness := (true, "57f2dcb3448e1eb1284b9648cb9103beb03665cd0ddfb20b9bd76d5de73e7069"), looks := true }, kinds := [], alts := [], laidByText := true, laidKinds := [.data, .data, .data, .data, .handle, .sentinel, .sentinel, .listed, .data, .pinned], laidTests := true, laidLooks := .later }
def TopPartsUptoCardSaid : Prop := Claim7.holds Tryz.pinned (.plain (OpenSpec.upto topPartsSpec)) topPartsUptoCard

/-- THE SECOND FORM's CARD OF 'pargetrytop.TopWords'. -/
def topWordsUptoCard : Claim7 := { stood := { row := topWordsUptoRow, standIns := [], harness := (true, "57f2dcb3448e1eb1284b9648cb9103beb03665cd0ddfb20b9bd76d5de73e7069"), looks := true }, kinds := [], alts := [], laidByText := true, laidKinds := [.data, .data, .data, .data, .sentinel, .sentinel, .listed, .data, .pinned], laidTests := true, laidLooks := .later }
def TopWordsUptoCardSaid : Prop := Claim7.holds Tryz.pinned (.plain (OpenSpec.upto topWordsSpec)) topWordsUptoCard

/-- THE SECOND FORM's CARD OF 'pargetrylaw2.LookEqual'. -/
def lookEqualUptoCard : Claim7 := { stood := { row := lookEqualUptoRow, standIns := [], harness := (true, "57f2dcb3448e1eb1284b9648cb9103beb03665cd0ddfb20b9bd76d5de73e7069"), looks := true }, kinds := [], alts := [], laidByText := true, laidKinds := [.data, .data, .data, .data, .sentinel, .sentinel, .listed, .data, .pinned], laidTests := true, laidLooks := .later }
def LookEqualUptoCardSaid : Prop := Claim7.holds Tryz.pinned (.plain (OpenSpec.upto lookEqualSpec)) lookEqualUptoCard
end Rows
end Go.Proofs.YthcpdohdppkmkaaGreatDoor
