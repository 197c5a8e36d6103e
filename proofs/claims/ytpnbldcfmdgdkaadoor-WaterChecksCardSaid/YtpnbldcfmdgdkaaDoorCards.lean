/-
  DERIVED. GIVEN WITH THE SEED: THE CARDS: each row of YtpnbldcfmdgdkaaDoorRows.lean that lists a variable, with what it lists TIED to the program's text (the seventh form; the later family's looks); each row that meets fmt, with fmt's text TOLD by the authors' own Lean function (tested against real Go, not proved from fmt's source: count such statements apart). THE CARD IS WHAT COUNTS. Prove the row's statement (the work); the ties are given (YtpnbldcfmdgdkaaDoorTie.lean); close each card by the builder's one call (the guide's Derived/Test/ToyasCard.lean, 'card_holds'). Laid BY PROGRAM, IN A SANDBOX (cutbox-door.mjs). By AI agents, Wed Nov 11 2026. No macro, syntax, notation, axiom, sorry.
-/
import Derived.Test.YtpnbldcfmdgdkaaDoorRows
import GoSem.ClaimSeven
namespace Go.Proofs.YtpnbldcfmdgdkaaDoor
namespace Rows

/-- THE TIED CARD OF 'windsocklaw01.WaterChecks'. -/
def waterChecksCard : Claim7 := { stood := { row := waterChecksRow, standIns := [], harness := (true, "347031c790fbc67233ec5d2c02a0c174d3d4effbf0bebe3c40b5c7539cbf51f0"), looks := false }, kinds := [], alts := [], laidByText := true, laidKinds := [.data, .data, .data, .data, .data], laidTests := true, laidLooks := .later }
def WaterChecksCardSaid : Prop := Claim7.holds Tryd.pinned (.plain (OpenSpec.ofChange waterChecksSpec)) waterChecksCard

/-- THE SECOND FORM's CARD OF 'windsocklaw01.WaterChecks'. -/
def waterChecksUptoCard : Claim7 := { stood := { row := waterChecksUptoRow, standIns := [], harness := (true, "347031c790fbc67233ec5d2c02a0c174d3d4effbf0bebe3c40b5c7539cbf51f0"), looks := false }, kinds := [], alts := [], laidByText := true, laidKinds := [.data, .data, .data, .data, .data], laidTests := true, laidLooks := .later }
def WaterChecksUptoCardSaid : Prop := Claim7.holds Tryd.pinned (.plain (OpenSpec.upto waterChecksSpec)) waterChecksUptoCard
end Rows
end Go.Proofs.YtpnbldcfmdgdkaaDoor
