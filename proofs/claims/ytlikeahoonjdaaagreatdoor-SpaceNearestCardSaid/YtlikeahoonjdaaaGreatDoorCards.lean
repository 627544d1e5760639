/-
  DERIVED. GIVEN WITH THE SEED: THE CARDS: each row of YtlikeahoonjdaaaGreatDoorRows.lean that lists a variable, with what it lists TIED to the program's text (the seventh form; the later family's looks); each row that meets fmt, with fmt's text TOLD by the authors' own Lean function (tested against real Go, not proved from fmt's source: count such statements apart). THE CARD IS WHAT COUNTS. Prove the row's statement (the work); the ties are given (YtlikeahoonjdaaaGreatDoorTie.lean); close each card by the builder's one call (the guide's Derived/Test/ToyasCard.lean, 'card_holds'). Laid BY PROGRAM, IN A SANDBOX (cutbox-door.mjs). By AI agents, Wed Nov 11 2026. No macro, syntax, notation, axiom, sorry.
-/
import Derived.Test.YtlikeahoonjdaaaGreatDoorRows
import GoSem.ClaimSeven
namespace Go.Proofs.YtlikeahoonjdaaaGreatDoor
namespace Rows

/-- THE TIED CARD OF 'trunnellaw01.SpaceNearest'. -/
def spaceNearestCard : Claim7 := { stood := { row := spaceNearestRow, standIns := [], harness := (true, "b0d9647cec5d10207b4983312c92a194c51118650cbad07c7e7488c9a955915a"), looks := true }, kinds := [], alts := [], laidByText := true, laidKinds := [.data, .data, .data, .data, .sentinel, .sentinel, .pinned], laidTests := true, laidLooks := .later }
def SpaceNearestCardSaid : Prop := Claim7.holds Tryz.pinned (.plain (OpenSpec.ofChange spaceNearestSpec)) spaceNearestCard

/-- THE SECOND FORM's CARD OF 'trunnellaw01.SpaceNearest'. -/
def spaceNearestUptoCard : Claim7 := { stood := { row := spaceNearestUptoRow, standIns := [], harness := (true, "b0d9647cec5d10207b4983312c92a194c51118650cbad07c7e7488c9a955915a"), looks := true }, kinds := [], alts := [], laidByText := true, laidKinds := [.data, .data, .data, .data, .sentinel, .sentinel, .pinned], laidTests := true, laidLooks := .later }
def SpaceNearestUptoCardSaid : Prop := Claim7.holds Tryz.pinned (.plain (OpenSpec.upto spaceNearestSpec)) spaceNearestUptoCard
end Rows
end Go.Proofs.YtlikeahoonjdaaaGreatDoor
