/-
  DERIVED. GIVEN WITH THE SEED: THE CARDS: each row of YtnghdaemmlagpaaGreatDoorRows.lean that lists a variable, with what it lists TIED to the program's text (the seventh form; the later family's looks); each row that meets fmt, with fmt's text TOLD by the authors' own Lean function (tested against real Go, not proved from fmt's source: count such statements apart). THE CARD IS WHAT COUNTS. Prove the row's statement (the work); the ties are given (YtnghdaemmlagpaaGreatDoorTie.lean); close each card by the builder's one call (the guide's Derived/Test/ToyasCard.lean, 'card_holds'). Laid BY PROGRAM, IN A SANDBOX (cutbox-door.mjs). By AI agents, Wed Nov 11 2026. No macro, syntax, notation, axiom, sorry.
-/
import Derived.Test.YtnghdaemmlagpaaGreatDoorRows
import GoSem.ClaimSeven
namespace Go.Proofs.YtnghdaemmlagpaaGreatDoor
namespace Rows

/-- THE TIED CARD OF 'trunnellaw01.SpaceComposed'. -/
def spaceComposedCard : Claim7 := { stood := { row := spaceComposedRow, standIns := [], harness := (true, "c3d3b445e6bfe3df9d77328e378c6aa15d8b8574f6083f3ec9b6eaaf2da2a608"), looks := true }, kinds := [], alts := [], laidByText := true, laidKinds := [.data, .data, .data, .data, .sentinel, .sentinel, .pinned], laidTests := true, laidLooks := .later }
def SpaceComposedCardSaid : Prop := Claim7.holds Tryz.pinned (.plain (OpenSpec.ofChange spaceComposedSpec)) spaceComposedCard

/-- THE SECOND FORM's CARD OF 'trunnellaw01.SpaceComposed'. -/
def spaceComposedUptoCard : Claim7 := { stood := { row := spaceComposedUptoRow, standIns := [], harness := (true, "c3d3b445e6bfe3df9d77328e378c6aa15d8b8574f6083f3ec9b6eaaf2da2a608"), looks := true }, kinds := [], alts := [], laidByText := true, laidKinds := [.data, .data, .data, .data, .sentinel, .sentinel, .pinned], laidTests := true, laidLooks := .later }
def SpaceComposedUptoCardSaid : Prop := Claim7.holds Tryz.pinned (.plain (OpenSpec.upto spaceComposedSpec)) spaceComposedUptoCard
end Rows
end Go.Proofs.YtnghdaemmlagpaaGreatDoor
