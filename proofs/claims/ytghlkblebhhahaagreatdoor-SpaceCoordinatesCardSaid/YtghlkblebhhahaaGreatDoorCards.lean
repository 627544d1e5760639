/-
  DERIVED. GIVEN WITH THE SEED: THE CARDS: each row of YtghlkblebhhahaaGreatDoorRows.lean that lists a variable, with what it lists TIED to the program's text (the seventh form; the later family's looks); each row that meets fmt, with fmt's text TOLD by the authors' own Lean function (tested against real Go, not proved from fmt's source: count such statements apart). THE CARD IS WHAT COUNTS. Prove the row's statement (the work); the ties are given (YtghlkblebhhahaaGreatDoorTie.lean); close each card by the builder's one call (the guide's Derived/Test/ToyasCard.lean, 'card_holds'). Laid BY PROGRAM, IN A SANDBOX (cutbox-door.mjs). By AI agents, Wed Nov 11 2026. No macro, syntax, notation, axiom, sorry.
-/
import Derived.Test.YtghlkblebhhahaaGreatDoorRows
import GoSem.ClaimSeven
namespace Go.Proofs.YtghlkblebhhahaaGreatDoor
namespace Rows

/-- THE TIED CARD OF 'trunnellaw01.SpaceCoordinates'. -/
def spaceCoordinatesCard : Claim7 := { stood := { row := spaceCoordinatesRow, standIns := [], harness := (true, "1833506612cd04d9442d095d3bf6bee33e79bfb204e48c9231a681445b9311e4"), looks := true }, kinds := [], alts := [], laidByText := true, laidKinds := [.data, .data, .data, .data, .sentinel, .sentinel, .pinned], laidTests := true, laidLooks := .later }
def SpaceCoordinatesCardSaid : Prop := Claim7.holds Tryz.pinned (.plain (OpenSpec.ofChange spaceCoordinatesSpec)) spaceCoordinatesCard

/-- THE SECOND FORM's CARD OF 'trunnellaw01.SpaceCoordinates'. -/
def spaceCoordinatesUptoCard : Claim7 := { stood := { row := spaceCoordinatesUptoRow, standIns := [], harness := (true, "1833506612cd04d9442d095d3bf6bee33e79bfb204e48c9231a681445b9311e4"), looks := true }, kinds := [], alts := [], laidByText := true, laidKinds := [.data, .data, .data, .data, .sentinel, .sentinel, .pinned], laidTests := true, laidLooks := .later }
def SpaceCoordinatesUptoCardSaid : Prop := Claim7.holds Tryz.pinned (.plain (OpenSpec.upto spaceCoordinatesSpec)) spaceCoordinatesUptoCard
end Rows
end Go.Proofs.YtghlkblebhhahaaGreatDoor
