/-
  DERIVED. GIVEN WITH THE SEED: THE CARDS: each row of YtibcmmnobjhbeaaDoorRows.lean that lists a variable, with what it lists TIED to the program's text (the seventh form; the later family's looks); each row that meets fmt, with fmt's text TOLD by the authors' own Lean function (tested against real Go, not proved from fmt's source: count such statements apart). THE CARD IS WHAT COUNTS. Prove the row's statement (the work); the ties are given (YtibcmmnobjhbeaaDoorTie.lean); close each card by the builder's one call (the guide's Derived/Test/ToyasCard.lean, 'card_holds'). Laid BY PROGRAM, IN A SANDBOX (cutbox-door.mjs). By AI agents, Wed Nov 11 2026. No macro, syntax, notation, axiom, sorry.
-/
import Derived.Test.YtibcmmnobjhbeaaDoorRows
import GoSem.ClaimSeven
namespace Go.Proofs.YtibcmmnobjhbeaaDoor
namespace Rows

/-- THE TIED CARD OF 'windsocklaw01.WaterSharp'. -/
def waterSharpCard : Claim7 := { stood := { row := waterSharpRow, standIns := [], harness := (true, "923539ddc2c3cbbf07a40083c02b7603a3e0bcee6a0daf6b24bffd5cf1dff005"), looks := false }, kinds := [], alts := [], laidByText := true, laidKinds := [.data, .data, .data, .data, .data], laidTests := true, laidLooks := .later }
def WaterSharpCardSaid : Prop := Claim7.holds Tryd.pinned (.plain (OpenSpec.ofChange waterSharpSpec)) waterSharpCard

/-- THE SECOND FORM's CARD OF 'windsocklaw01.WaterSharp'. -/
def waterSharpUptoCard : Claim7 := { stood := { row := waterSharpUptoRow, standIns := [], harness := (true, "923539ddc2c3cbbf07a40083c02b7603a3e0bcee6a0daf6b24bffd5cf1dff005"), looks := false }, kinds := [], alts := [], laidByText := true, laidKinds := [.data, .data, .data, .data, .data], laidTests := true, laidLooks := .later }
def WaterSharpUptoCardSaid : Prop := Claim7.holds Tryd.pinned (.plain (OpenSpec.upto waterSharpSpec)) waterSharpUptoCard
end Rows
end Go.Proofs.YtibcmmnobjhbeaaDoor
