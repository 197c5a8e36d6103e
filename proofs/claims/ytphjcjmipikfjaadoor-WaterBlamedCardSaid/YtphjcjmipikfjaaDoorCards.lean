/-
  DERIVED. GIVEN WITH THE SEED: THE CARDS: each row of YtphjcjmipikfjaaDoorRows.lean that lists a variable, with what it lists TIED to the program's text (the seventh form; the later family's looks); each row that meets fmt, with fmt's text TOLD by the authors' own Lean function (tested against real Go, not proved from fmt's source: count such statements apart). THE CARD IS WHAT COUNTS. Prove the row's statement (the work); the ties are given (YtphjcjmipikfjaaDoorTie.lean); close each card by the builder's one call (the guide's Derived/Test/ToyasCard.lean, 'card_holds'). Laid BY PROGRAM, IN A SANDBOX (cutbox-door.mjs). By AI agents, Wed Nov 11 2026. No macro, syntax, notation, axiom, sorry.
-/
import Derived.Test.YtphjcjmipikfjaaDoorRows
import GoSem.ClaimSeven
namespace Go.Proofs.YtphjcjmipikfjaaDoor
namespace Rows

/-- THE TIED CARD OF 'windsocklaw01.WaterBlamed'. -/
def waterBlamedCard : Claim7 := { stood := { row := waterBlamedRow, standIns := [], harness := (true, "0a5933f8eb17953ce151acdf2dfb59185f1c9c8ed4f7e6f990c0c78f56ad0b20"), looks := false }, kinds := [], alts := [], laidByText := true, laidKinds := [.data, .data, .data, .data, .data], laidTests := true, laidLooks := .later }
def WaterBlamedCardSaid : Prop := Claim7.holds Tryd.pinned (.plain (OpenSpec.ofChange waterBlamedSpec)) waterBlamedCard

/-- THE SECOND FORM's CARD OF 'windsocklaw01.WaterBlamed'. -/
def waterBlamedUptoCard : Claim7 := { stood := { row := waterBlamedUptoRow, standIns := [], harness := (true, "0a5933f8eb17953ce151acdf2dfb59185f1c9c8ed4f7e6f990c0c78f56ad0b20"), looks := false }, kinds := [], alts := [], laidByText := true, laidKinds := [.data, .data, .data, .data, .data], laidTests := true, laidLooks := .later }
def WaterBlamedUptoCardSaid : Prop := Claim7.holds Tryd.pinned (.plain (OpenSpec.upto waterBlamedSpec)) waterBlamedUptoCard
end Rows
end Go.Proofs.YtphjcjmipikfjaaDoor
