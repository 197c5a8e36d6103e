/-
  DERIVED. GIVEN WITH THE SEED: THE CARDS: each row of YtphjcjmipikfjaaGreatDoorRows.lean that lists a variable, with what it lists TIED to the program's text (the seventh form; the later family's looks); each row that meets fmt, with fmt's text TOLD by the authors' own Lean function (tested against real Go, not proved from fmt's source: count such statements apart). THE CARD IS WHAT COUNTS. Prove the row's statement (the work); the ties are given (YtphjcjmipikfjaaGreatDoorTie.lean); close each card by the builder's one call (the guide's Derived/Test/ToyasCard.lean, 'card_holds'). Laid BY PROGRAM, IN A SANDBOX (cutbox-door.mjs). By AI agents, Wed Nov 11 2026. No macro, syntax, notation, axiom, sorry.
-/
import Derived.Test.YtphjcjmipikfjaaGreatDoorRows
import GoSem.ClaimSeven
namespace Go.Proofs.YtphjcjmipikfjaaGreatDoor
namespace Rows

/-- THE TIED CARD OF 'windsocklaw01.WaterBounds'. -/
def waterBoundsCard : Claim7 := { stood := { row := waterBoundsRow, standIns := [], harness := (true, "8c3ee6f4150d8265edcb5e6d6c2f58544da2ae9003edb340a96fc72abdee48c3"), looks := false }, kinds := [], alts := [], laidByText := true, laidKinds := [.data, .data, .data, .data, .data], laidTests := true, laidLooks := .later }
def WaterBoundsCardSaid : Prop := Claim7.holds Tryz.pinned (.plain (OpenSpec.ofChange waterBoundsSpec)) waterBoundsCard

/-- THE SECOND FORM's CARD OF 'windsocklaw01.WaterBounds'. -/
def waterBoundsUptoCard : Claim7 := { stood := { row := waterBoundsUptoRow, standIns := [], harness := (true, "8c3ee6f4150d8265edcb5e6d6c2f58544da2ae9003edb340a96fc72abdee48c3"), looks := false }, kinds := [], alts := [], laidByText := true, laidKinds := [.data, .data, .data, .data, .data], laidTests := true, laidLooks := .later }
def WaterBoundsUptoCardSaid : Prop := Claim7.holds Tryz.pinned (.plain (OpenSpec.upto waterBoundsSpec)) waterBoundsUptoCard
end Rows
end Go.Proofs.YtphjcjmipikfjaaGreatDoor
