/-
  DERIVED. GIVEN WITH THE SEED: THE CARDS: each row of YtagahkpgdakofaaGreatDoorRows.lean that lists a variable, with what it lists TIED to the program's text (the seventh form; the later family's looks); each row that meets fmt, with fmt's text TOLD by the authors' own Lean function (tested against real Go, not proved from fmt's source: count such statements apart). THE CARD IS WHAT COUNTS. Prove the row's statement (the work); the ties are given (YtagahkpgdakofaaGreatDoorTie.lean); close each card by the builder's one call (the guide's Derived/Test/ToyasCard.lean, 'card_holds'). Laid BY PROGRAM, IN A SANDBOX (cutbox-door.mjs). By AI agents, Wed Nov 11 2026. No macro, syntax, notation, axiom, sorry.
-/
import Derived.Test.YtagahkpgdakofaaGreatDoorRows
import GoSem.ClaimSeven
namespace Go.Proofs.YtagahkpgdakofaaGreatDoor
namespace Rows

/-- THE TIED CARD OF 'trunnellaw01.SpaceFrames'. -/
def spaceFramesCard : Claim7 := { stood := { row := spaceFramesRow, standIns := [], harness := (true, "61a60fde7c16e1b829844aecab1d9fd9ccc4d2d768dd74edee42dfbbaa5062ee"), looks := true }, kinds := [], alts := [], laidByText := true, laidKinds := [.data, .data, .data, .data, .sentinel, .sentinel, .pinned], laidTests := true, laidLooks := .later }
def SpaceFramesCardSaid : Prop := Claim7.holds Tryz.pinned (.plain (OpenSpec.ofChange spaceFramesSpec)) spaceFramesCard

/-- THE SECOND FORM's CARD OF 'trunnellaw01.SpaceFrames'. -/
def spaceFramesUptoCard : Claim7 := { stood := { row := spaceFramesUptoRow, standIns := [], harness := (true, "61a60fde7c16e1b829844aecab1d9fd9ccc4d2d768dd74edee42dfbbaa5062ee"), looks := true }, kinds := [], alts := [], laidByText := true, laidKinds := [.data, .data, .data, .data, .sentinel, .sentinel, .pinned], laidTests := true, laidLooks := .later }
def SpaceFramesUptoCardSaid : Prop := Claim7.holds Tryz.pinned (.plain (OpenSpec.upto spaceFramesSpec)) spaceFramesUptoCard
end Rows
end Go.Proofs.YtagahkpgdakofaaGreatDoor
