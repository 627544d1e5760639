/-
  DERIVED. GIVEN WITH THE SEED: THE CARDS: each row of YtkcjdjpgimekfaaGreatDoorRows.lean that lists a variable, with what it lists TIED to the program's text (the seventh form; the later family's looks); each row that meets fmt, with fmt's text TOLD by the authors' own Lean function (tested against real Go, not proved from fmt's source: count such statements apart). THE CARD IS WHAT COUNTS. Prove the row's statement (the work); the ties are given (YtkcjdjpgimekfaaGreatDoorTie.lean); close each card by the builder's one call (the guide's Derived/Test/ToyasCard.lean, 'card_holds'). Laid BY PROGRAM, IN A SANDBOX (cutbox-door.mjs). By AI agents, Wed Nov 11 2026. No macro, syntax, notation, axiom, sorry.
-/
import Derived.Test.YtkcjdjpgimekfaaGreatDoorRows
import GoSem.ClaimSeven
namespace Go.Proofs.YtkcjdjpgimekfaaGreatDoor
namespace Rows

/-- THE TIED CARD OF 'trunnellaw06.NestLogs'. -/
def nestLogsCard : Claim7 := { stood := { row := nestLogsRow, standIns := [], harness := (true, "2de059cd0dcfca46a3e14cfd83d49959fb03311a70ab583dd4a2d9ab04b12acf"), looks := true }, kinds := [], alts := [], laidByText := true, laidKinds := [.data, .data, .data, .sentinel, .sentinel], laidTests := true, laidLooks := .later }
def NestLogsCardSaid : Prop := Claim7.holds Tryz.pinned (.plain (OpenSpec.ofChange nestLogsSpec)) nestLogsCard

/-- THE SECOND FORM's CARD OF 'trunnellaw06.NestLogs'. -/
def nestLogsUptoCard : Claim7 := { stood := { row := nestLogsUptoRow, standIns := [], harness := (true, "2de059cd0dcfca46a3e14cfd83d49959fb03311a70ab583dd4a2d9ab04b12acf"), looks := true }, kinds := [], alts := [], laidByText := true, laidKinds := [.data, .data, .data, .sentinel, .sentinel], laidTests := true, laidLooks := .later }
def NestLogsUptoCardSaid : Prop := Claim7.holds Tryz.pinned (.plain (OpenSpec.upto nestLogsSpec)) nestLogsUptoCard
end Rows
end Go.Proofs.YtkcjdjpgimekfaaGreatDoor
