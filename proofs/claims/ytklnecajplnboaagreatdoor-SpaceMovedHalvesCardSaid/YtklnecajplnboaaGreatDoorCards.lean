/-
  DERIVED. GIVEN WITH THE SEED: THE CARDS: each row of YtklnecajplnboaaGreatDoorRows.lean that lists a variable, with what it lists TIED to the program's text (the seventh form; the later family's looks); each row that meets fmt, with fmt's text TOLD by the authors' own Lean function (tested against real Go, not proved from fmt's source: count such statements apart). THE CARD IS WHAT COUNTS. Prove the row's statement (the work); the ties are given (YtklnecajplnboaaGreatDoorTie.lean); close each card by the builder's one call (the guide's Derived/Test/ToyasCard.lean, 'card_holds'). Laid BY PROGRAM, IN A SANDBOX (cutbox-door.mjs). By AI agents, Wed Nov 11 2026. No macro, syntax, notation, axiom, sorry.
-/
import Derived.Test.YtklnecajplnboaaGreatDoorRows
import GoSem.ClaimSeven
namespace Go.Proofs.YtklnecajplnboaaGreatDoor
namespace Rows

/-- THE TIED CARD OF 'trunnellaw01.SpaceMovedHalves'. -/
def spaceMovedHalvesCard : Claim7 := { stood := { row := spaceMovedHalvesRow, standIns := [], harness := (true, "bfb863a4bbd9909255f70bc790d98a1dafb21bc629e70dcaad354554f580f31a"), looks := true }, kinds := [], alts := [], laidByText := true, laidKinds := [.data, .data, .data, .data, .sentinel, .sentinel, .pinned], laidTests := true, laidLooks := .later }
def SpaceMovedHalvesCardSaid : Prop := Claim7.holds Tryz.pinned (.plain (OpenSpec.ofChange spaceMovedHalvesSpec)) spaceMovedHalvesCard

/-- THE SECOND FORM's CARD OF 'trunnellaw01.SpaceMovedHalves'. -/
def spaceMovedHalvesUptoCard : Claim7 := { stood := { row := spaceMovedHalvesUptoRow, standIns := [], harness := (true, "bfb863a4bbd9909255f70bc790d98a1dafb21bc629e70dcaad354554f580f31a"), looks := true }, kinds := [], alts := [], laidByText := true, laidKinds := [.data, .data, .data, .data, .sentinel, .sentinel, .pinned], laidTests := true, laidLooks := .later }
def SpaceMovedHalvesUptoCardSaid : Prop := Claim7.holds Tryz.pinned (.plain (OpenSpec.upto spaceMovedHalvesSpec)) spaceMovedHalvesUptoCard
end Rows
end Go.Proofs.YtklnecajplnboaaGreatDoor
