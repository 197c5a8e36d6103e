/-
  DERIVED. GIVEN WITH THE SEED: THE CARDS: each row of YthfkaopnphjlkaaGreatDoorRows.lean that lists a variable, with what it lists TIED to the program's text (the seventh form; the later family's looks); each row that meets fmt, with fmt's text TOLD by the authors' own Lean function (tested against real Go, not proved from fmt's source: count such statements apart). THE CARD IS WHAT COUNTS. Prove the row's statement (the work); the ties are given (YthfkaopnphjlkaaGreatDoorTie.lean); close each card by the builder's one call (the guide's Derived/Test/ToyasCard.lean, 'card_holds'). Laid BY PROGRAM, IN A SANDBOX (cutbox-door.mjs). By AI agents, Wed Nov 11 2026. No macro, syntax, notation, axiom, sorry.
-/
import Derived.Test.YthfkaopnphjlkaaGreatDoorRows
import GoSem.ClaimSeven
namespace Go.Proofs.YthfkaopnphjlkaaGreatDoor
namespace Rows

/-- THE TIED CARD OF 'windsocklaw02.LoadSure'. -/
def loadSureCard : Claim7 := { stood := { row := loadSureRow, standIns := [], harness := (true, "e985f503765f88045309a70c4bb79244cb2348bd69ed7bbf6ede686cd3c89f7b"), looks := false }, kinds := [], alts := [], laidByText := true, laidKinds := [.data, .data, .data], laidTests := true, laidLooks := .later }
def LoadSureCardSaid : Prop := Claim7.holds Tryz.pinned (.plain (OpenSpec.ofChange loadSureSpec)) loadSureCard

/-- THE SECOND FORM's CARD OF 'windsocklaw02.LoadSure'. -/
def loadSureUptoCard : Claim7 := { stood := { row := loadSureUptoRow, standIns := [], harness := (true, "e985f503765f88045309a70c4bb79244cb2348bd69ed7bbf6ede686cd3c89f7b"), looks := false }, kinds := [], alts := [], laidByText := true, laidKinds := [.data, .data, .data], laidTests := true, laidLooks := .later }
def LoadSureUptoCardSaid : Prop := Claim7.holds Tryz.pinned (.plain (OpenSpec.upto loadSureSpec)) loadSureUptoCard
end Rows
end Go.Proofs.YthfkaopnphjlkaaGreatDoor
