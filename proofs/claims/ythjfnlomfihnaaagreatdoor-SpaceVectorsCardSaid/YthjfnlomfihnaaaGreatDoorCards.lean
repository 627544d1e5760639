/-
  DERIVED. GIVEN WITH THE SEED: THE CARDS: each row of YthjfnlomfihnaaaGreatDoorRows.lean that lists a variable, with what it lists TIED to the program's text (the seventh form; the later family's looks); each row that meets fmt, with fmt's text TOLD by the authors' own Lean function (tested against real Go, not proved from fmt's source: count such statements apart). THE CARD IS WHAT COUNTS. Prove the row's statement (the work); the ties are given (YthjfnlomfihnaaaGreatDoorTie.lean); close each card by the builder's one call (the guide's Derived/Test/ToyasCard.lean, 'card_holds'). Laid BY PROGRAM, IN A SANDBOX (cutbox-door.mjs). By AI agents, Wed Nov 11 2026. No macro, syntax, notation, axiom, sorry.
-/
import Derived.Test.YthjfnlomfihnaaaGreatDoorRows
import GoSem.ClaimSeven
namespace Go.Proofs.YthjfnlomfihnaaaGreatDoor
namespace Rows

/-- THE TIED CARD OF 'trunnellaw01.SpaceVectors'. -/
def spaceVectorsCard : Claim7 := { stood := { row := spaceVectorsRow, standIns := [], harness := (true, "fefef88ead85b55e50cf1f9985370bfaf216e808177709ff70afebdc9a3b8ba6"), looks := true }, kinds := [], alts := [], laidByText := true, laidKinds := [.data, .data, .data, .data, .sentinel, .sentinel, .pinned], laidTests := true, laidLooks := .later }
def SpaceVectorsCardSaid : Prop := Claim7.holds Tryz.pinned (.plain (OpenSpec.ofChange spaceVectorsSpec)) spaceVectorsCard

/-- THE SECOND FORM's CARD OF 'trunnellaw01.SpaceVectors'. -/
def spaceVectorsUptoCard : Claim7 := { stood := { row := spaceVectorsUptoRow, standIns := [], harness := (true, "fefef88ead85b55e50cf1f9985370bfaf216e808177709ff70afebdc9a3b8ba6"), looks := true }, kinds := [], alts := [], laidByText := true, laidKinds := [.data, .data, .data, .data, .sentinel, .sentinel, .pinned], laidTests := true, laidLooks := .later }
def SpaceVectorsUptoCardSaid : Prop := Claim7.holds Tryz.pinned (.plain (OpenSpec.upto spaceVectorsSpec)) spaceVectorsUptoCard
end Rows
end Go.Proofs.YthjfnlomfihnaaaGreatDoor
