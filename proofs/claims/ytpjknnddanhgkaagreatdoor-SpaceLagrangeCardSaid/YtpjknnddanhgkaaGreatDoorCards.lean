/-
  DERIVED. GIVEN WITH THE SEED: THE CARDS: each row of YtpjknnddanhgkaaGreatDoorRows.lean that lists a variable, with what it lists TIED to the program's text (the seventh form; the later family's looks); each row that meets fmt, with fmt's text TOLD by the authors' own Lean function (tested against real Go, not proved from fmt's source: count such statements apart). THE CARD IS WHAT COUNTS. Prove the row's statement (the work); the ties are given (YtpjknnddanhgkaaGreatDoorTie.lean); close each card by the builder's one call (the guide's Derived/Test/ToyasCard.lean, 'card_holds'). Laid BY PROGRAM, IN A SANDBOX (cutbox-door.mjs). By AI agents, Wed Nov 11 2026. No macro, syntax, notation, axiom, sorry.
-/
import Derived.Test.YtpjknnddanhgkaaGreatDoorRows
import GoSem.ClaimSeven
namespace Go.Proofs.YtpjknnddanhgkaaGreatDoor
namespace Rows

/-- THE TIED CARD OF 'trunnellaw01.SpaceLagrange'. -/
def spaceLagrangeCard : Claim7 := { stood := { row := spaceLagrangeRow, standIns := [], harness := (true, "141f3a734c677f57f699a5e8cb78fb5292698d0fa7a5cb58a0cd7744d3659fbb"), looks := true }, kinds := [], alts := [], laidByText := true, laidKinds := [.data, .data, .data, .data, .sentinel, .sentinel, .pinned], laidTests := true, laidLooks := .later }
def SpaceLagrangeCardSaid : Prop := Claim7.holds Tryz.pinned (.plain (OpenSpec.ofChange spaceLagrangeSpec)) spaceLagrangeCard

/-- THE SECOND FORM's CARD OF 'trunnellaw01.SpaceLagrange'. -/
def spaceLagrangeUptoCard : Claim7 := { stood := { row := spaceLagrangeUptoRow, standIns := [], harness := (true, "141f3a734c677f57f699a5e8cb78fb5292698d0fa7a5cb58a0cd7744d3659fbb"), looks := true }, kinds := [], alts := [], laidByText := true, laidKinds := [.data, .data, .data, .data, .sentinel, .sentinel, .pinned], laidTests := true, laidLooks := .later }
def SpaceLagrangeUptoCardSaid : Prop := Claim7.holds Tryz.pinned (.plain (OpenSpec.upto spaceLagrangeSpec)) spaceLagrangeUptoCard
end Rows
end Go.Proofs.YtpjknnddanhgkaaGreatDoor
