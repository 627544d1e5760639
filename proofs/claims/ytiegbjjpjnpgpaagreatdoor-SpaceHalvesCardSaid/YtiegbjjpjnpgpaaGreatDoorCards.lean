/-
  DERIVED. GIVEN WITH THE SEED: THE CARDS: each row of YtiegbjjpjnpgpaaGreatDoorRows.lean that lists a variable, with what it lists TIED to the program's text (the seventh form; the later family's looks); each row that meets fmt, with fmt's text TOLD by the authors' own Lean function (tested against real Go, not proved from fmt's source: count such statements apart). THE CARD IS WHAT COUNTS. Prove the row's statement (the work); the ties are given (YtiegbjjpjnpgpaaGreatDoorTie.lean); close each card by the builder's one call (the guide's Derived/Test/ToyasCard.lean, 'card_holds'). Laid BY PROGRAM, IN A SANDBOX (cutbox-door.mjs). By AI agents, Wed Nov 11 2026. No macro, syntax, notation, axiom, sorry.
-/
import Derived.Test.YtiegbjjpjnpgpaaGreatDoorRows
import GoSem.ClaimSeven
namespace Go.Proofs.YtiegbjjpjnpgpaaGreatDoor
namespace Rows

/-- THE TIED CARD OF 'trunnellaw01.SpaceHalves'. -/
def spaceHalvesCard : Claim7 := { stood := { row := spaceHalvesRow, standIns := [], harness := (true, "284177e3b7959a8c47a951bfb55c91ca548ee7b983eb9197ef2c2f08001b8c4d"), looks := true }, kinds := [], alts := [], laidByText := true, laidKinds := [.data, .data, .data, .data, .sentinel, .sentinel, .pinned], laidTests := true, laidLooks := .later }
def SpaceHalvesCardSaid : Prop := Claim7.holds Tryz.pinned (.plain (OpenSpec.ofChange spaceHalvesSpec)) spaceHalvesCard

/-- THE SECOND FORM's CARD OF 'trunnellaw01.SpaceHalves'. -/
def spaceHalvesUptoCard : Claim7 := { stood := { row := spaceHalvesUptoRow, standIns := [], harness := (true, "284177e3b7959a8c47a951bfb55c91ca548ee7b983eb9197ef2c2f08001b8c4d"), looks := true }, kinds := [], alts := [], laidByText := true, laidKinds := [.data, .data, .data, .data, .sentinel, .sentinel, .pinned], laidTests := true, laidLooks := .later }
def SpaceHalvesUptoCardSaid : Prop := Claim7.holds Tryz.pinned (.plain (OpenSpec.upto spaceHalvesSpec)) spaceHalvesUptoCard
end Rows
end Go.Proofs.YtiegbjjpjnpgpaaGreatDoor
