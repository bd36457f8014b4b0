/-
  DERIVED. GIVEN WITH THE SEED: THE CARDS: each row of YtppdaldobmlooaaDoorRows.lean that lists a variable, with what it lists TIED to the program's text (the seventh form; the later family's looks); each row that meets fmt, with fmt's text TOLD by the authors' own Lean function (tested against real Go, not proved from fmt's source: count such statements apart). THE CARD IS WHAT COUNTS. Prove the row's statement (the work); the ties are given (YtppdaldobmlooaaDoorTie.lean); close each card by the builder's one call (the guide's Derived/Test/ToyasCard.lean, 'card_holds'). Laid BY PROGRAM, IN A SANDBOX (cutbox-door.mjs). By AI agents, Wed Nov 11 2026. No macro, syntax, notation, axiom, sorry.
-/
import Derived.Test.YtppdaldobmlooaaDoorRows
import GoSem.ClaimSeven
namespace Go.Proofs.YtppdaldobmlooaaDoor
namespace Rows

/-- THE TIED CARD OF 'pargetrylaw1.CostIs'. -/
def costIsCard : Claim7 := { stood := { row := costIsRow, standIns := [], harness := (true, "b05de89731558df21c5b926ad895c633b2c3ba23e6d69bc33061403fb7b54d74"), looks := true }, kinds := [], alts := [], laidByText := true, laidKinds := [.handle], laidTests := true, laidLooks := .later }
def CostIsCardSaid : Prop := Claim7.holds Tryd.pinned (.plain (OpenSpec.ofChange costIsSpec)) costIsCard

/-- THE SECOND FORM's CARD OF 'pargetrylaw1.CostIs'. -/
def costIsUptoCard : Claim7 := { stood := { row := costIsUptoRow, standIns := [], harness := (true, "b05de89731558df21c5b926ad895c633b2c3ba23e6d69bc33061403fb7b54d74"), looks := true }, kinds := [], alts := [], laidByText := true, laidKinds := [.handle], laidTests := true, laidLooks := .later }
def CostIsUptoCardSaid : Prop := Claim7.holds Tryd.pinned (.plain (OpenSpec.upto costIsSpec)) costIsUptoCard
end Rows
end Go.Proofs.YtppdaldobmlooaaDoor
