/-
  DERIVED. GIVEN WITH THE SEED: THE CARDS: each row of YtmchhfpjdgfacaaDoorRows.lean that lists a variable, with what it lists TIED to the program's text (the seventh form; the later family's looks); each row that meets fmt, with fmt's text TOLD by the authors' own Lean function (tested against real Go, not proved from fmt's source: count such statements apart). THE CARD IS WHAT COUNTS. Prove the row's statement (the work); the ties are given (YtmchhfpjdgfacaaDoorTie.lean); close each card by the builder's one call (the guide's Derived/Test/ToyasCard.lean, 'card_holds'). Laid BY PROGRAM, IN A SANDBOX (cutbox-door.mjs). By AI agents, Wed Nov 11 2026. No macro, syntax, notation, axiom, sorry.
-/
import Derived.Test.YtmchhfpjdgfacaaDoorRows
import GoSem.ClaimSeven
namespace Go.Proofs.YtmchhfpjdgfacaaDoor
namespace Rows

/-- THE TIED CARD OF 'windsocklaw02.LoadAlong'. -/
def loadAlongCard : Claim7 := { stood := { row := loadAlongRow, standIns := [], harness := (true, "c8c091246f12d23c0d1cf85c069512378dac359cf22c1a5b6e4dc110315c578d"), looks := false }, kinds := [], alts := [], laidByText := true, laidKinds := [.data, .data, .data], laidTests := true, laidLooks := .later }
def LoadAlongCardSaid : Prop := Claim7.holds Tryd.pinned (.plain (OpenSpec.ofChange loadAlongSpec)) loadAlongCard

/-- THE SECOND FORM's CARD OF 'windsocklaw02.LoadAlong'. -/
def loadAlongUptoCard : Claim7 := { stood := { row := loadAlongUptoRow, standIns := [], harness := (true, "c8c091246f12d23c0d1cf85c069512378dac359cf22c1a5b6e4dc110315c578d"), looks := false }, kinds := [], alts := [], laidByText := true, laidKinds := [.data, .data, .data], laidTests := true, laidLooks := .later }
def LoadAlongUptoCardSaid : Prop := Claim7.holds Tryd.pinned (.plain (OpenSpec.upto loadAlongSpec)) loadAlongUptoCard
end Rows
end Go.Proofs.YtmchhfpjdgfacaaDoor
