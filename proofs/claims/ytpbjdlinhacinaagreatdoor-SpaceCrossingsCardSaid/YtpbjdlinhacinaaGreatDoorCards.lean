/-
  DERIVED. GIVEN WITH THE SEED: THE CARDS: each row of YtpbjdlinhacinaaGreatDoorRows.lean that lists a variable, with what it lists TIED to the program's text (the seventh form; the later family's looks); each row that meets fmt, with fmt's text TOLD by the authors' own Lean function (tested against real Go, not proved from fmt's source: count such statements apart). THE CARD IS WHAT COUNTS. Prove the row's statement (the work); the ties are given (YtpbjdlinhacinaaGreatDoorTie.lean); close each card by the builder's one call (the guide's Derived/Test/ToyasCard.lean, 'card_holds'). Laid BY PROGRAM, IN A SANDBOX (cutbox-door.mjs). By AI agents, Wed Nov 11 2026. No macro, syntax, notation, axiom, sorry.
-/
import Derived.Test.YtpbjdlinhacinaaGreatDoorRows
import GoSem.ClaimSeven
namespace Go.Proofs.YtpbjdlinhacinaaGreatDoor
namespace Rows

/-- THE TIED CARD OF 'trunnellaw01.SpaceCrossings'. -/
def spaceCrossingsCard : Claim7 := { stood := { row := spaceCrossingsRow, standIns := [], harness := (true, "9b1637a6a58c96bae54a2128f2bb4688a10e3bb8c526cfe944e918d15752a69a"), looks := true }, kinds := [], alts := [], laidByText := true, laidKinds := [.data, .data, .data, .data, .sentinel, .sentinel, .pinned], laidTests := true, laidLooks := .later }
def SpaceCrossingsCardSaid : Prop := Claim7.holds Tryz.pinned (.plain (OpenSpec.ofChange spaceCrossingsSpec)) spaceCrossingsCard

/-- THE SECOND FORM's CARD OF 'trunnellaw01.SpaceCrossings'. -/
def spaceCrossingsUptoCard : Claim7 := { stood := { row := spaceCrossingsUptoRow, standIns := [], harness := (true, "9b1637a6a58c96bae54a2128f2bb4688a10e3bb8c526cfe944e918d15752a69a"), looks := true }, kinds := [], alts := [], laidByText := true, laidKinds := [.data, .data, .data, .data, .sentinel, .sentinel, .pinned], laidTests := true, laidLooks := .later }
def SpaceCrossingsUptoCardSaid : Prop := Claim7.holds Tryz.pinned (.plain (OpenSpec.upto spaceCrossingsSpec)) spaceCrossingsUptoCard
end Rows
end Go.Proofs.YtpbjdlinhacinaaGreatDoor
