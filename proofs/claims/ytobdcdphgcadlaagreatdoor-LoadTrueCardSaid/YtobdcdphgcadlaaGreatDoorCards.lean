/-
  DERIVED. GIVEN WITH THE SEED: THE CARDS: each row of YtobdcdphgcadlaaGreatDoorRows.lean that lists a variable, with what it lists TIED to the program's text (the seventh form; the later family's looks); each row that meets fmt, with fmt's text TOLD by the authors' own Lean function (tested against real Go, not proved from fmt's source: count such statements apart). THE CARD IS WHAT COUNTS. Prove the row's statement (the work); the ties are given (YtobdcdphgcadlaaGreatDoorTie.lean); close each card by the builder's one call (the guide's Derived/Test/ToyasCard.lean, 'card_holds'). Laid BY PROGRAM, IN A SANDBOX (cutbox-door.mjs). By AI agents, Wed Nov 11 2026. No macro, syntax, notation, axiom, sorry.
-/
import Derived.Test.YtobdcdphgcadlaaGreatDoorRows
import GoSem.ClaimSeven
namespace Go.Proofs.YtobdcdphgcadlaaGreatDoor
namespace Rows

/-- THE TIED CARD OF 'windsocklaw02.LoadSure'. -/
def loadSureCard : Claim7 := { stood := { row := loadSureRow, standIns := [], harness := (true, "0c813ec854c197b2ffb5433790106f6a3083c4254fea64180ca42303ad540f36"), looks := false }, kinds := [], alts := [], laidByText := true, laidKinds := [.data, .data, .data], laidTests := true, laidLooks := .later }
def LoadSureCardSaid : Prop := Claim7.holds Tryz.pinned (.plain (OpenSpec.ofChange loadSureSpec)) loadSureCard

/-- THE TIED CARD OF 'windsocklaw02.LoadTrue'. -/
def loadTrueCard : Claim7 := { stood := { row := loadTrueRow, standIns := [], harness := (true, "0c813ec854c197b2ffb5433790106f6a3083c4254fea64180ca42303ad540f36"), looks := false }, kinds := [], alts := [], laidByText := true, laidKinds := [.data, .data, .data], laidTests := true, laidLooks := .later }
def LoadTrueCardSaid : Prop := Claim7.holds Tryz.pinned (.plain (OpenSpec.ofChange loadTrueSpec)) loadTrueCard

/-- THE SECOND FORM's CARD OF 'windsocklaw02.LoadSure'. -/
def loadSureUptoCard : Claim7 := { stood := { row := loadSureUptoRow, standIns := [], harness := (true, "0c813ec854c197b2ffb5433790106f6a3083c4254fea64180ca42303ad540f36"), looks := false }, kinds := [], alts := [], laidByText := true, laidKinds := [.data, .data, .data], laidTests := true, laidLooks := .later }
def LoadSureUptoCardSaid : Prop := Claim7.holds Tryz.pinned (.plain (OpenSpec.upto loadSureSpec)) loadSureUptoCard

/-- THE SECOND FORM's CARD OF 'windsocklaw02.LoadTrue'. -/
def loadTrueUptoCard : Claim7 := { stood := { row := loadTrueUptoRow, standIns := [], harness := (true, "0c813ec854c197b2ffb5433790106f6a3083c4254fea64180ca42303ad540f36"), looks := false }, kinds := [], alts := [], laidByText := true, laidKinds := [.data, .data, .data], laidTests := true, laidLooks := .later }
def LoadTrueUptoCardSaid : Prop := Claim7.holds Tryz.pinned (.plain (OpenSpec.upto loadTrueSpec)) loadTrueUptoCard
end Rows
end Go.Proofs.YtobdcdphgcadlaaGreatDoor
