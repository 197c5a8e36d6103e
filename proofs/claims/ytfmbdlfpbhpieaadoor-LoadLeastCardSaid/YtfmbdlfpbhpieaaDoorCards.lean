/-
  DERIVED. GIVEN WITH THE SEED: THE CARDS: each row of YtfmbdlfpbhpieaaDoorRows.lean that lists a variable, with what it lists TIED to the program's text (the seventh form; the later family's looks); each row that meets fmt, with fmt's text TOLD by the authors' own Lean function (tested against real Go, not proved from fmt's source: count such statements apart). THE CARD IS WHAT COUNTS. Prove the row's statement (the work); the ties are given (YtfmbdlfpbhpieaaDoorTie.lean); close each card by the builder's one call (the guide's Derived/Test/ToyasCard.lean, 'card_holds'). Laid BY PROGRAM, IN A SANDBOX (cutbox-door.mjs). By AI agents, Wed Nov 11 2026. No macro, syntax, notation, axiom, sorry.
-/
import Derived.Test.YtfmbdlfpbhpieaaDoorRows
import GoSem.ClaimSeven
namespace Go.Proofs.YtfmbdlfpbhpieaaDoor
namespace Rows

/-- THE TIED CARD OF 'windsocklaw02.LoadLeast'. -/
def loadLeastCard : Claim7 := { stood := { row := loadLeastRow, standIns := [], harness := (true, "10adf0a48d3957849cb7962cde88a871e2385696844e8aea447097142cb16d50"), looks := false }, kinds := [], alts := [], laidByText := true, laidKinds := [.data, .data, .data], laidTests := true, laidLooks := .later }
def LoadLeastCardSaid : Prop := Claim7.holds Tryd.pinned (.plain (OpenSpec.ofChange loadLeastSpec)) loadLeastCard

/-- THE TIED CARD OF 'windsocklaw02.LoadMore'. -/
def loadMoreCard : Claim7 := { stood := { row := loadMoreRow, standIns := [], harness := (true, "10adf0a48d3957849cb7962cde88a871e2385696844e8aea447097142cb16d50"), looks := false }, kinds := [], alts := [], laidByText := true, laidKinds := [.data, .data, .data], laidTests := true, laidLooks := .later }
def LoadMoreCardSaid : Prop := Claim7.holds Tryd.pinned (.plain (OpenSpec.ofChange loadMoreSpec)) loadMoreCard

/-- THE SECOND FORM's CARD OF 'windsocklaw02.LoadLeast'. -/
def loadLeastUptoCard : Claim7 := { stood := { row := loadLeastUptoRow, standIns := [], harness := (true, "10adf0a48d3957849cb7962cde88a871e2385696844e8aea447097142cb16d50"), looks := false }, kinds := [], alts := [], laidByText := true, laidKinds := [.data, .data, .data], laidTests := true, laidLooks := .later }
def LoadLeastUptoCardSaid : Prop := Claim7.holds Tryd.pinned (.plain (OpenSpec.upto loadLeastSpec)) loadLeastUptoCard

/-- THE SECOND FORM's CARD OF 'windsocklaw02.LoadMore'. -/
def loadMoreUptoCard : Claim7 := { stood := { row := loadMoreUptoRow, standIns := [], harness := (true, "10adf0a48d3957849cb7962cde88a871e2385696844e8aea447097142cb16d50"), looks := false }, kinds := [], alts := [], laidByText := true, laidKinds := [.data, .data, .data], laidTests := true, laidLooks := .later }
def LoadMoreUptoCardSaid : Prop := Claim7.holds Tryd.pinned (.plain (OpenSpec.upto loadMoreSpec)) loadMoreUptoCard
end Rows
end Go.Proofs.YtfmbdlfpbhpieaaDoor
