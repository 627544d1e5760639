/-
  DERIVED. GIVEN WITH THE SEED: THE CARDS: each row of YtbhgaclbijocmaaGreatDoorRows.lean that lists a variable, with what it lists TIED to the program's text (the seventh form; the later family's looks); each row that meets fmt, with fmt's text TOLD by the authors' own Lean function (tested against real Go, not proved from fmt's source: count such statements apart). THE CARD IS WHAT COUNTS. Prove the row's statement (the work); the ties are given (YtbhgaclbijocmaaGreatDoorTie.lean); close each card by the builder's one call (the guide's Derived/Test/ToyasCard.lean, 'card_holds'). Laid BY PROGRAM, IN A SANDBOX (cutbox-door.mjs). By AI agents, Wed Nov 11 2026. No macro, syntax, notation, axiom, sorry.
-/
import Derived.Test.YtbhgaclbijocmaaGreatDoorRows
import GoSem.ClaimSeven
namespace Go.Proofs.YtbhgaclbijocmaaGreatDoor
namespace Rows

/-- THE TIED CARD OF 'trunnellaw01.SpaceNumbers'. -/
def spaceNumbersCard : Claim7 := { stood := { row := spaceNumbersRow, standIns := [], harness := (true, "70a3086abe5d3cf13fe44fd833d7a07aed02f3e1600e22f6353309ab4604dd02"), looks := true }, kinds := [], alts := [], laidByText := true, laidKinds := [.data, .data, .data, .data, .sentinel, .sentinel, .pinned], laidTests := true, laidLooks := .later }
def SpaceNumbersCardSaid : Prop := Claim7.holds Tryz.pinned (.plain (OpenSpec.ofChange spaceNumbersSpec)) spaceNumbersCard

/-- THE TIED CARD OF 'trunnellaw01.SpaceVectors'. -/
def spaceVectorsCard : Claim7 := { stood := { row := spaceVectorsRow, standIns := [], harness := (true, "70a3086abe5d3cf13fe44fd833d7a07aed02f3e1600e22f6353309ab4604dd02"), looks := true }, kinds := [], alts := [], laidByText := true, laidKinds := [.data, .data, .data, .data, .sentinel, .sentinel, .pinned], laidTests := true, laidLooks := .later }
def SpaceVectorsCardSaid : Prop := Claim7.holds Tryz.pinned (.plain (OpenSpec.ofChange spaceVectorsSpec)) spaceVectorsCard

/-- THE SECOND FORM's CARD OF 'trunnellaw01.SpaceNumbers'. -/
def spaceNumbersUptoCard : Claim7 := { stood := { row := spaceNumbersUptoRow, standIns := [], harness := (true, "70a3086abe5d3cf13fe44fd833d7a07aed02f3e1600e22f6353309ab4604dd02"), looks := true }, kinds := [], alts := [], laidByText := true, laidKinds := [.data, .data, .data, .data, .sentinel, .sentinel, .pinned], laidTests := true, laidLooks := .later }
def SpaceNumbersUptoCardSaid : Prop := Claim7.holds Tryz.pinned (.plain (OpenSpec.upto spaceNumbersSpec)) spaceNumbersUptoCard

/-- THE SECOND FORM's CARD OF 'trunnellaw01.SpaceVectors'. -/
def spaceVectorsUptoCard : Claim7 := { stood := { row := spaceVectorsUptoRow, standIns := [], harness := (true, "70a3086abe5d3cf13fe44fd833d7a07aed02f3e1600e22f6353309ab4604dd02"), looks := true }, kinds := [], alts := [], laidByText := true, laidKinds := [.data, .data, .data, .data, .sentinel, .sentinel, .pinned], laidTests := true, laidLooks := .later }
def SpaceVectorsUptoCardSaid : Prop := Claim7.holds Tryz.pinned (.plain (OpenSpec.upto spaceVectorsSpec)) spaceVectorsUptoCard
end Rows
end Go.Proofs.YtbhgaclbijocmaaGreatDoor
