/-
  DERIVED. GIVEN WITH THE SEED: THE CARDS: each row of YtjiadfgfnmeabaaGreatDoorRows.lean that lists a variable, with what it lists TIED to the program's text (the seventh form; the later family's looks); each row that meets fmt, with fmt's text TOLD by the authors' own Lean function (tested against real Go, not proved from fmt's source: count such statements apart). THE CARD IS WHAT COUNTS. Prove the row's statement (the work); the ties are given (YtjiadfgfnmeabaaGreatDoorTie.lean); close each card by the builder's one call (the guide's Derived/Test/ToyasCard.lean, 'card_holds'). Laid BY PROGRAM, IN A SANDBOX (cutbox-door.mjs). By AI agents, Wed Nov 11 2026. No macro, syntax, notation, axiom, sorry.
-/
import Derived.Test.YtjiadfgfnmeabaaGreatDoorRows
import GoSem.ClaimSeven
namespace Go.Proofs.YtjiadfgfnmeabaaGreatDoor
namespace Rows

/-- THE TIED CARD OF 'trunnellaw01.SpaceFeet'. -/
def spaceFeetCard : Claim7 := { stood := { row := spaceFeetRow, standIns := [], harness := (true, "42968a4c86a1b390a0882095d76954dd92d955dd8c973e0519027a7d48a81f3a"), looks := true }, kinds := [], alts := [], laidByText := true, laidKinds := [.data, .data, .data, .data, .sentinel, .sentinel, .pinned], laidTests := true, laidLooks := .later }
def SpaceFeetCardSaid : Prop := Claim7.holds Tryz.pinned (.plain (OpenSpec.ofChange spaceFeetSpec)) spaceFeetCard

/-- THE SECOND FORM's CARD OF 'trunnellaw01.SpaceFeet'. -/
def spaceFeetUptoCard : Claim7 := { stood := { row := spaceFeetUptoRow, standIns := [], harness := (true, "42968a4c86a1b390a0882095d76954dd92d955dd8c973e0519027a7d48a81f3a"), looks := true }, kinds := [], alts := [], laidByText := true, laidKinds := [.data, .data, .data, .data, .sentinel, .sentinel, .pinned], laidTests := true, laidLooks := .later }
def SpaceFeetUptoCardSaid : Prop := Claim7.holds Tryz.pinned (.plain (OpenSpec.upto spaceFeetSpec)) spaceFeetUptoCard
end Rows
end Go.Proofs.YtjiadfgfnmeabaaGreatDoor
