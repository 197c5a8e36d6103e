/-
  DERIVED. GIVEN WITH THE SEED: THE CARDS: each row of YtfmbdlfpbhpieaaGreatDoorRows.lean that lists a variable, with what it lists TIED to the program's text (the seventh form; the later family's looks); each row that meets fmt, with fmt's text TOLD by the authors' own Lean function (tested against real Go, not proved from fmt's source: count such statements apart). THE CARD IS WHAT COUNTS. Prove the row's statement (the work); the ties are given (YtfmbdlfpbhpieaaGreatDoorTie.lean); close each card by the builder's one call (the guide's Derived/Test/ToyasCard.lean, 'card_holds'). Laid BY PROGRAM, IN A SANDBOX (cutbox-door.mjs). By AI agents, Wed Nov 11 2026. No macro, syntax, notation, axiom, sorry.
-/
import Derived.Test.YtfmbdlfpbhpieaaGreatDoorRows
import GoSem.ClaimSeven
namespace Go.Proofs.YtfmbdlfpbhpieaaGreatDoor
namespace Rows

/-- THE TIED CARD OF 'windsocklaw02.LoadTrips'. -/
def loadTripsCard : Claim7 := { stood := { row := loadTripsRow, standIns := [], harness := (true, "d1ce09823470c3ed4a8e44965cf9e92daa76c2d001665089e111565de7bf6382"), looks := false }, kinds := [], alts := [], laidByText := true, laidKinds := [.data, .data, .data], laidTests := true, laidLooks := .later }
def LoadTripsCardSaid : Prop := Claim7.holds Tryz.pinned (.plain (OpenSpec.ofChange loadTripsSpec)) loadTripsCard

/-- THE TIED CARD OF 'windsocklaw02.LoadFuels'. -/
def loadFuelsCard : Claim7 := { stood := { row := loadFuelsRow, standIns := [], harness := (true, "d1ce09823470c3ed4a8e44965cf9e92daa76c2d001665089e111565de7bf6382"), looks := false }, kinds := [], alts := [], laidByText := true, laidKinds := [.data, .data, .data], laidTests := true, laidLooks := .later }
def LoadFuelsCardSaid : Prop := Claim7.holds Tryz.pinned (.plain (OpenSpec.ofChange loadFuelsSpec)) loadFuelsCard

/-- THE SECOND FORM's CARD OF 'windsocklaw02.LoadTrips'. -/
def loadTripsUptoCard : Claim7 := { stood := { row := loadTripsUptoRow, standIns := [], harness := (true, "d1ce09823470c3ed4a8e44965cf9e92daa76c2d001665089e111565de7bf6382"), looks := false }, kinds := [], alts := [], laidByText := true, laidKinds := [.data, .data, .data], laidTests := true, laidLooks := .later }
def LoadTripsUptoCardSaid : Prop := Claim7.holds Tryz.pinned (.plain (OpenSpec.upto loadTripsSpec)) loadTripsUptoCard

/-- THE SECOND FORM's CARD OF 'windsocklaw02.LoadFuels'. -/
def loadFuelsUptoCard : Claim7 := { stood := { row := loadFuelsUptoRow, standIns := [], harness := (true, "d1ce09823470c3ed4a8e44965cf9e92daa76c2d001665089e111565de7bf6382"), looks := false }, kinds := [], alts := [], laidByText := true, laidKinds := [.data, .data, .data], laidTests := true, laidLooks := .later }
def LoadFuelsUptoCardSaid : Prop := Claim7.holds Tryz.pinned (.plain (OpenSpec.upto loadFuelsSpec)) loadFuelsUptoCard
end Rows
end Go.Proofs.YtfmbdlfpbhpieaaGreatDoor
