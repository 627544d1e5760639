/-
  DERIVED. GIVEN WITH THE SEED: THE CARDS: each row of YtlnnipmbfcpaoaaGreatDoorRows.lean that lists a variable, with what it lists TIED to the program's text (the seventh form; the later family's looks); each row that meets fmt, with fmt's text TOLD by the authors' own Lean function (tested against real Go, not proved from fmt's source: count such statements apart). THE CARD IS WHAT COUNTS. Prove the row's statement (the work); the ties are given (YtlnnipmbfcpaoaaGreatDoorTie.lean); close each card by the builder's one call (the guide's Derived/Test/ToyasCard.lean, 'card_holds'). Laid BY PROGRAM, IN A SANDBOX (cutbox-door.mjs). By AI agents, Wed Nov 11 2026. No macro, syntax, notation, axiom, sorry.
-/
import Derived.Test.YtlnnipmbfcpaoaaGreatDoorRows
import GoSem.ClaimSeven
namespace Go.Proofs.YtlnnipmbfcpaoaaGreatDoor
namespace Rows

/-- THE TIED CARD OF 'trunnellaw01.SpacePlanes'. -/
def spacePlanesCard : Claim7 := { stood := { row := spacePlanesRow, standIns := [], harness := (true, "e28ba9e5d22bf7d92de7162f6ff22915523e8017066911cd3be83456d8696eaf"), looks := true }, kinds := [], alts := [], laidByText := true, laidKinds := [.data, .data, .data, .data, .sentinel, .sentinel, .pinned], laidTests := true, laidLooks := .later }
def SpacePlanesCardSaid : Prop := Claim7.holds Tryz.pinned (.plain (OpenSpec.ofChange spacePlanesSpec)) spacePlanesCard

/-- THE SECOND FORM's CARD OF 'trunnellaw01.SpacePlanes'. -/
def spacePlanesUptoCard : Claim7 := { stood := { row := spacePlanesUptoRow, standIns := [], harness := (true, "e28ba9e5d22bf7d92de7162f6ff22915523e8017066911cd3be83456d8696eaf"), looks := true }, kinds := [], alts := [], laidByText := true, laidKinds := [.data, .data, .data, .data, .sentinel, .sentinel, .pinned], laidTests := true, laidLooks := .later }
def SpacePlanesUptoCardSaid : Prop := Claim7.holds Tryz.pinned (.plain (OpenSpec.upto spacePlanesSpec)) spacePlanesUptoCard
end Rows
end Go.Proofs.YtlnnipmbfcpaoaaGreatDoor
