/-
  DERIVED. GIVEN WITH THE SEED: THE CARDS: each row of YthpooihkdnbafaaGreatDoorRows.lean that lists a variable, with what it lists TIED to the program's text (the seventh form; the later family's looks); each row that meets fmt, with fmt's text TOLD by the authors' own Lean function (tested against real Go, not proved from fmt's source: count such statements apart). THE CARD IS WHAT COUNTS. Prove the row's statement (the work); the ties are given (YthpooihkdnbafaaGreatDoorTie.lean); close each card by the builder's one call (the guide's Derived/Test/ToyasCard.lean, 'card_holds'). Laid BY PROGRAM, IN A SANDBOX (cutbox-door.mjs). By AI agents, Wed Nov 11 2026. No macro, syntax, notation, axiom, sorry.
-/
import Derived.Test.YthpooihkdnbafaaGreatDoorRows
import GoSem.ClaimSeven
namespace Go.Proofs.YthpooihkdnbafaaGreatDoor
namespace Rows

/-- THE TIED CARD OF 'trunnellaw06.NestBoards'. -/
def nestBoardsCard : Claim7 := { stood := { row := nestBoardsRow, standIns := [], harness := (true, "d06d76fe1f6d798c45431b6b2f8637725d2dcfc2914b5a4c0e5e1130377697b0"), looks := true }, kinds := [], alts := [], laidByText := true, laidKinds := [.data, .data, .data, .sentinel, .sentinel], laidTests := true, laidLooks := .later }
def NestBoardsCardSaid : Prop := Claim7.holds Tryz.pinned (.plain (OpenSpec.ofChange nestBoardsSpec)) nestBoardsCard

/-- THE SECOND FORM's CARD OF 'trunnellaw06.NestBoards'. -/
def nestBoardsUptoCard : Claim7 := { stood := { row := nestBoardsUptoRow, standIns := [], harness := (true, "d06d76fe1f6d798c45431b6b2f8637725d2dcfc2914b5a4c0e5e1130377697b0"), looks := true }, kinds := [], alts := [], laidByText := true, laidKinds := [.data, .data, .data, .sentinel, .sentinel], laidTests := true, laidLooks := .later }
def NestBoardsUptoCardSaid : Prop := Claim7.holds Tryz.pinned (.plain (OpenSpec.upto nestBoardsSpec)) nestBoardsUptoCard
end Rows
end Go.Proofs.YthpooihkdnbafaaGreatDoor
