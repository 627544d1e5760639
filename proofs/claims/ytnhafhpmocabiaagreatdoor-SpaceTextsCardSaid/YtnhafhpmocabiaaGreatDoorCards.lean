/-
  DERIVED. GIVEN WITH THE SEED: THE CARDS: each row of YtnhafhpmocabiaaGreatDoorRows.lean that lists a variable, with what it lists TIED to the program's text (the seventh form; the later family's looks); each row that meets fmt, with fmt's text TOLD by the authors' own Lean function (tested against real Go, not proved from fmt's source: count such statements apart). THE CARD IS WHAT COUNTS. Prove the row's statement (the work); the ties are given (YtnhafhpmocabiaaGreatDoorTie.lean); close each card by the builder's one call (the guide's Derived/Test/ToyasCard.lean, 'card_holds'). Laid BY PROGRAM, IN A SANDBOX (cutbox-door.mjs). By AI agents, Wed Nov 11 2026. No macro, syntax, notation, axiom, sorry.
-/
import Derived.Test.YtnhafhpmocabiaaGreatDoorRows
import GoSem.ClaimSeven
namespace Go.Proofs.YtnhafhpmocabiaaGreatDoor
namespace Rows

/-- THE TIED CARD OF 'trunnellaw01.SpaceTexts'. -/
def spaceTextsCard : Claim7 := { stood := { row := spaceTextsRow, standIns := [], harness := (true, "b53d09b67f0b7704f3710822f99c271f2bccc2cd46dde236ad4509f49dcd8c2a"), looks := true }, kinds := [], alts := [], laidByText := true, laidKinds := [.data, .data, .data, .data, .sentinel, .sentinel, .pinned], laidTests := true, laidLooks := .later }
def SpaceTextsCardSaid : Prop := Claim7.holds Tryz.pinned (.plain (OpenSpec.ofChange spaceTextsSpec)) spaceTextsCard

/-- THE SECOND FORM's CARD OF 'trunnellaw01.SpaceTexts'. -/
def spaceTextsUptoCard : Claim7 := { stood := { row := spaceTextsUptoRow, standIns := [], harness := (true, "b53d09b67f0b7704f3710822f99c271f2bccc2cd46dde236ad4509f49dcd8c2a"), looks := true }, kinds := [], alts := [], laidByText := true, laidKinds := [.data, .data, .data, .data, .sentinel, .sentinel, .pinned], laidTests := true, laidLooks := .later }
def SpaceTextsUptoCardSaid : Prop := Claim7.holds Tryz.pinned (.plain (OpenSpec.upto spaceTextsSpec)) spaceTextsUptoCard
end Rows
end Go.Proofs.YtnhafhpmocabiaaGreatDoor
