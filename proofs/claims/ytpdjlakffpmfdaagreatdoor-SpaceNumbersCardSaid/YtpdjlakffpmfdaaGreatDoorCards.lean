/-
  DERIVED. GIVEN WITH THE SEED: THE CARDS: each row of YtpdjlakffpmfdaaGreatDoorRows.lean that lists a variable, with what it lists TIED to the program's text (the seventh form; the later family's looks); each row that meets fmt, with fmt's text TOLD by the authors' own Lean function (tested against real Go, not proved from fmt's source: count such statements apart). THE CARD IS WHAT COUNTS. Prove the row's statement (the work); the ties are given (YtpdjlakffpmfdaaGreatDoorTie.lean); close each card by the builder's one call (the guide's Derived/Test/ToyasCard.lean, 'card_holds'). Laid BY PROGRAM, IN A SANDBOX (cutbox-door.mjs). By AI agents, Wed Nov 11 2026. No macro, syntax, notation, axiom, sorry.
-/
import Derived.Test.YtpdjlakffpmfdaaGreatDoorRows
import GoSem.ClaimSeven
namespace Go.Proofs.YtpdjlakffpmfdaaGreatDoor
namespace Rows

/-- THE TIED CARD OF 'trunnellaw01.SpaceNumbers'. -/
def spaceNumbersCard : Claim7 := { stood := { row := spaceNumbersRow, standIns := [], harness := (true, "289daa7aafcf7eaca0535c810ab90237c998a6cfef3fdd1ae467e965fd52e5d2"), looks := true }, kinds := [], alts := [], laidByText := true, laidKinds := [.data, .data, .data, .data, .sentinel, .sentinel, .pinned], laidTests := true, laidLooks := .later }
def SpaceNumbersCardSaid : Prop := Claim7.holds Tryz.pinned (.plain (OpenSpec.ofChange spaceNumbersSpec)) spaceNumbersCard

/-- THE SECOND FORM's CARD OF 'trunnellaw01.SpaceNumbers'. -/
def spaceNumbersUptoCard : Claim7 := { stood := { row := spaceNumbersUptoRow, standIns := [], harness := (true, "289daa7aafcf7eaca0535c810ab90237c998a6cfef3fdd1ae467e965fd52e5d2"), looks := true }, kinds := [], alts := [], laidByText := true, laidKinds := [.data, .data, .data, .data, .sentinel, .sentinel, .pinned], laidTests := true, laidLooks := .later }
def SpaceNumbersUptoCardSaid : Prop := Claim7.holds Tryz.pinned (.plain (OpenSpec.upto spaceNumbersSpec)) spaceNumbersUptoCard
end Rows
end Go.Proofs.YtpdjlakffpmfdaaGreatDoor
