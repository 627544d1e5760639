/-
  DERIVED. GIVEN WITH THE SEED: THE CARDS: each row of YtbkfbobdmojgnaaGreatDoorRows.lean that lists a variable, with what it lists TIED to the program's text (the seventh form; the later family's looks); each row that meets fmt, with fmt's text TOLD by the authors' own Lean function (tested against real Go, not proved from fmt's source: count such statements apart). THE CARD IS WHAT COUNTS. Prove the row's statement (the work); the ties are given (YtbkfbobdmojgnaaGreatDoorTie.lean); close each card by the builder's one call (the guide's Derived/Test/ToyasCard.lean, 'card_holds'). Laid BY PROGRAM, IN A SANDBOX (cutbox-door.mjs). By AI agents, Wed Nov 11 2026. No macro, syntax, notation, axiom, sorry.
-/
import Derived.Test.YtbkfbobdmojgnaaGreatDoorRows
import GoSem.ClaimSeven
namespace Go.Proofs.YtbkfbobdmojgnaaGreatDoor
namespace Rows

/-- THE TIED CARD OF 'trunnellaw01.SpaceLagrange'. -/
def spaceLagrangeCard : Claim7 := { stood := { row := spaceLagrangeRow, standIns := [], harness := (true, "c6325e621d64e681ad2286b6b606a6e7c980be089a5f15c606fdb18cca192989"), looks := true }, kinds := [], alts := [], laidByText := true, laidKinds := [.data, .data, .data, .data, .sentinel, .sentinel, .pinned], laidTests := true, laidLooks := .later }
def SpaceLagrangeCardSaid : Prop := Claim7.holds Tryz.pinned (.plain (OpenSpec.ofChange spaceLagrangeSpec)) spaceLagrangeCard

/-- THE TIED CARD OF 'trunnellaw01.SpacePlanes'. -/
def spacePlanesCard : Claim7 := { stood := { row := spacePlanesRow, standIns := [], harness := (true, "c6325e621d64e681ad2286b6b606a6e7c980be089a5f15c606fdb18cca192989"), looks := true }, kinds := [], alts := [], laidByText := true, laidKinds := [.data, .data, .data, .data, .sentinel, .sentinel, .pinned], laidTests := true, laidLooks := .later }
def SpacePlanesCardSaid : Prop := Claim7.holds Tryz.pinned (.plain (OpenSpec.ofChange spacePlanesSpec)) spacePlanesCard

/-- THE TIED CARD OF 'trunnellaw01.SpaceNearest'. -/
def spaceNearestCard : Claim7 := { stood := { row := spaceNearestRow, standIns := [], harness := (true, "c6325e621d64e681ad2286b6b606a6e7c980be089a5f15c606fdb18cca192989"), looks := true }, kinds := [], alts := [], laidByText := true, laidKinds := [.data, .data, .data, .data, .sentinel, .sentinel, .pinned], laidTests := true, laidLooks := .later }
def SpaceNearestCardSaid : Prop := Claim7.holds Tryz.pinned (.plain (OpenSpec.ofChange spaceNearestSpec)) spaceNearestCard

/-- THE TIED CARD OF 'trunnellaw01.SpaceCoordinates'. -/
def spaceCoordinatesCard : Claim7 := { stood := { row := spaceCoordinatesRow, standIns := [], harness := (true, "c6325e621d64e681ad2286b6b606a6e7c980be089a5f15c606fdb18cca192989"), looks := true }, kinds := [], alts := [], laidByText := true, laidKinds := [.data, .data, .data, .data, .sentinel, .sentinel, .pinned], laidTests := true, laidLooks := .later }
def SpaceCoordinatesCardSaid : Prop := Claim7.holds Tryz.pinned (.plain (OpenSpec.ofChange spaceCoordinatesSpec)) spaceCoordinatesCard

/-- THE TIED CARD OF 'trunnellaw01.SpaceTurns'. -/
def spaceTurnsCard : Claim7 := { stood := { row := spaceTurnsRow, standIns := [], harness := (true, "c6325e621d64e681ad2286b6b606a6e7c980be089a5f15c606fdb18cca192989"), looks := true }, kinds := [], alts := [], laidByText := true, laidKinds := [.data, .data, .data, .data, .sentinel, .sentinel, .pinned], laidTests := true, laidLooks := .later }
def SpaceTurnsCardSaid : Prop := Claim7.holds Tryz.pinned (.plain (OpenSpec.ofChange spaceTurnsSpec)) spaceTurnsCard

/-- THE SECOND FORM's CARD OF 'trunnellaw01.SpaceLagrange'. -/
def spaceLagrangeUptoCard : Claim7 := { stood := { row := spaceLagrangeUptoRow, standIns := [], harness := (true, "c6325e621d64e681ad2286b6b606a6e7c980be089a5f15c606fdb18cca192989"), looks := true }, kinds := [], alts := [], laidByText := true, laidKinds := [.data, .data, .data, .data, .sentinel, .sentinel, .pinned], laidTests := true, laidLooks := .later }
def SpaceLagrangeUptoCardSaid : Prop := Claim7.holds Tryz.pinned (.plain (OpenSpec.upto spaceLagrangeSpec)) spaceLagrangeUptoCard

/-- THE SECOND FORM's CARD OF 'trunnellaw01.SpacePlanes'. -/
def spacePlanesUptoCard : Claim7 := { stood := { row := spacePlanesUptoRow, standIns := [], harness := (true, "c6325e621d64e681ad2286b6b606a6e7c980be089a5f15c606fdb18cca192989"), looks := true }, kinds := [], alts := [], laidByText := true, laidKinds := [.data, .data, .data, .data, .sentinel, .sentinel, .pinned], laidTests := true, laidLooks := .later }
def SpacePlanesUptoCardSaid : Prop := Claim7.holds Tryz.pinned (.plain (OpenSpec.upto spacePlanesSpec)) spacePlanesUptoCard

/-- THE SECOND FORM's CARD OF 'trunnellaw01.SpaceNearest'. -/
def spaceNearestUptoCard : Claim7 := { stood := { row := spaceNearestUptoRow, standIns := [], harness := (true, "c6325e621d64e681ad2286b6b606a6e7c980be089a5f15c606fdb18cca192989"), looks := true }, kinds := [], alts := [], laidByText := true, laidKinds := [.data, .data, .data, .data, .sentinel, .sentinel, .pinned], laidTests := true, laidLooks := .later }
def SpaceNearestUptoCardSaid : Prop := Claim7.holds Tryz.pinned (.plain (OpenSpec.upto spaceNearestSpec)) spaceNearestUptoCard

/-- THE SECOND FORM's CARD OF 'trunnellaw01.SpaceCoordinates'. -/
def spaceCoordinatesUptoCard : Claim7 := { stood := { row := spaceCoordinatesUptoRow, standIns := [], harness := (true, "c6325e621d64e681ad2286b6b606a6e7c980be089a5f15c606fdb18cca192989"), looks := true }, kinds := [], alts := [], laidByText := true, laidKinds := [.data, .data, .data, .data, .sentinel, .sentinel, .pinned], laidTests := true, laidLooks := .later }
def SpaceCoordinatesUptoCardSaid : Prop := Claim7.holds Tryz.pinned (.plain (OpenSpec.upto spaceCoordinatesSpec)) spaceCoordinatesUptoCard

/-- THE SECOND FORM's CARD OF 'trunnellaw01.SpaceTurns'. -/
def spaceTurnsUptoCard : Claim7 := { stood := { row := spaceTurnsUptoRow, standIns := [], harness := (true, "c6325e621d64e681ad2286b6b606a6e7c980be089a5f15c606fdb18cca192989"), looks := true }, kinds := [], alts := [], laidByText := true, laidKinds := [.data, .data, .data, .data, .sentinel, .sentinel, .pinned], laidTests := true, laidLooks := .later }
def SpaceTurnsUptoCardSaid : Prop := Claim7.holds Tryz.pinned (.plain (OpenSpec.upto spaceTurnsSpec)) spaceTurnsUptoCard
end Rows
end Go.Proofs.YtbkfbobdmojgnaaGreatDoor
