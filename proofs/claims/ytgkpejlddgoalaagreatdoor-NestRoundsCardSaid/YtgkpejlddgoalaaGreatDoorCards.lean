/-
  DERIVED. GIVEN WITH THE SEED: THE CARDS: each row of YtgkpejlddgoalaaGreatDoorRows.lean that lists a variable, with what it lists TIED to the program's text (the seventh form; the later family's looks); each row that meets fmt, with fmt's text TOLD by the authors' own Lean function (tested against real Go, not proved from fmt's source: count such statements apart). THE CARD IS WHAT COUNTS. Prove the row's statement (the work); the ties are given (YtgkpejlddgoalaaGreatDoorTie.lean); close each card by the builder's one call (the guide's Derived/Test/ToyasCard.lean, 'card_holds'). Laid BY PROGRAM, IN A SANDBOX (cutbox-door.mjs). By AI agents, Wed Nov 11 2026. No macro, syntax, notation, axiom, sorry.
-/
import Derived.Test.YtgkpejlddgoalaaGreatDoorRows
import GoSem.ClaimSeven
namespace Go.Proofs.YtgkpejlddgoalaaGreatDoor
namespace Rows

/-- THE TIED CARD OF 'trunnellaw06.NestBoards'. -/
def nestBoardsCard : Claim7 := { stood := { row := nestBoardsRow, standIns := [], harness := (true, "53923239aaafebb22a9b3845926dd1935999b84530e086e80cb943f1c0c9f693"), looks := true }, kinds := [], alts := [], laidByText := true, laidKinds := [.data, .data, .data, .sentinel, .sentinel], laidTests := true, laidLooks := .later }
def NestBoardsCardSaid : Prop := Claim7.holds Tryz.pinned (.plain (OpenSpec.ofChange nestBoardsSpec)) nestBoardsCard

/-- THE TIED CARD OF 'trunnellaw06.NestRounds'. -/
def nestRoundsCard : Claim7 := { stood := { row := nestRoundsRow, standIns := [], harness := (true, "53923239aaafebb22a9b3845926dd1935999b84530e086e80cb943f1c0c9f693"), looks := true }, kinds := [], alts := [], laidByText := true, laidKinds := [.data, .data, .data, .sentinel, .sentinel], laidTests := true, laidLooks := .later }
def NestRoundsCardSaid : Prop := Claim7.holds Tryz.pinned (.plain (OpenSpec.ofChange nestRoundsSpec)) nestRoundsCard

/-- THE TIED CARD OF 'trunnellaw06.NestStocks'. -/
def nestStocksCard : Claim7 := { stood := { row := nestStocksRow, standIns := [], harness := (true, "53923239aaafebb22a9b3845926dd1935999b84530e086e80cb943f1c0c9f693"), looks := true }, kinds := [], alts := [], laidByText := true, laidKinds := [.data, .data, .data, .sentinel, .sentinel], laidTests := true, laidLooks := .later }
def NestStocksCardSaid : Prop := Claim7.holds Tryz.pinned (.plain (OpenSpec.ofChange nestStocksSpec)) nestStocksCard

/-- THE TIED CARD OF 'trunnellaw06.NestKerfs'. -/
def nestKerfsCard : Claim7 := { stood := { row := nestKerfsRow, standIns := [], harness := (true, "53923239aaafebb22a9b3845926dd1935999b84530e086e80cb943f1c0c9f693"), looks := true }, kinds := [], alts := [], laidByText := true, laidKinds := [.data, .data, .data, .sentinel, .sentinel], laidTests := true, laidLooks := .later }
def NestKerfsCardSaid : Prop := Claim7.holds Tryz.pinned (.plain (OpenSpec.ofChange nestKerfsSpec)) nestKerfsCard

/-- THE TIED CARD OF 'trunnellaw06.NestMatches'. -/
def nestMatchesCard : Claim7 := { stood := { row := nestMatchesRow, standIns := [], harness := (true, "53923239aaafebb22a9b3845926dd1935999b84530e086e80cb943f1c0c9f693"), looks := true }, kinds := [], alts := [], laidByText := true, laidKinds := [.data, .data, .data, .sentinel, .sentinel], laidTests := true, laidLooks := .later }
def NestMatchesCardSaid : Prop := Claim7.holds Tryz.pinned (.plain (OpenSpec.ofChange nestMatchesSpec)) nestMatchesCard

/-- THE TIED CARD OF 'trunnellaw06.NestAssigns'. -/
def nestAssignsCard : Claim7 := { stood := { row := nestAssignsRow, standIns := [], harness := (true, "53923239aaafebb22a9b3845926dd1935999b84530e086e80cb943f1c0c9f693"), looks := true }, kinds := [], alts := [], laidByText := true, laidKinds := [.data, .data, .data, .sentinel, .sentinel], laidTests := true, laidLooks := .later }
def NestAssignsCardSaid : Prop := Claim7.holds Tryz.pinned (.plain (OpenSpec.ofChange nestAssignsSpec)) nestAssignsCard

/-- THE SECOND FORM's CARD OF 'trunnellaw06.NestBoards'. -/
def nestBoardsUptoCard : Claim7 := { stood := { row := nestBoardsUptoRow, standIns := [], harness := (true, "53923239aaafebb22a9b3845926dd1935999b84530e086e80cb943f1c0c9f693"), looks := true }, kinds := [], alts := [], laidByText := true, laidKinds := [.data, .data, .data, .sentinel, .sentinel], laidTests := true, laidLooks := .later }
def NestBoardsUptoCardSaid : Prop := Claim7.holds Tryz.pinned (.plain (OpenSpec.upto nestBoardsSpec)) nestBoardsUptoCard

/-- THE SECOND FORM's CARD OF 'trunnellaw06.NestRounds'. -/
def nestRoundsUptoCard : Claim7 := { stood := { row := nestRoundsUptoRow, standIns := [], harness := (true, "53923239aaafebb22a9b3845926dd1935999b84530e086e80cb943f1c0c9f693"), looks := true }, kinds := [], alts := [], laidByText := true, laidKinds := [.data, .data, .data, .sentinel, .sentinel], laidTests := true, laidLooks := .later }
def NestRoundsUptoCardSaid : Prop := Claim7.holds Tryz.pinned (.plain (OpenSpec.upto nestRoundsSpec)) nestRoundsUptoCard

/-- THE SECOND FORM's CARD OF 'trunnellaw06.NestStocks'. -/
def nestStocksUptoCard : Claim7 := { stood := { row := nestStocksUptoRow, standIns := [], harness := (true, "53923239aaafebb22a9b3845926dd1935999b84530e086e80cb943f1c0c9f693"), looks := true }, kinds := [], alts := [], laidByText := true, laidKinds := [.data, .data, .data, .sentinel, .sentinel], laidTests := true, laidLooks := .later }
def NestStocksUptoCardSaid : Prop := Claim7.holds Tryz.pinned (.plain (OpenSpec.upto nestStocksSpec)) nestStocksUptoCard

/-- THE SECOND FORM's CARD OF 'trunnellaw06.NestKerfs'. -/
def nestKerfsUptoCard : Claim7 := { stood := { row := nestKerfsUptoRow, standIns := [], harness := (true, "53923239aaafebb22a9b3845926dd1935999b84530e086e80cb943f1c0c9f693"), looks := true }, kinds := [], alts := [], laidByText := true, laidKinds := [.data, .data, .data, .sentinel, .sentinel], laidTests := true, laidLooks := .later }
def NestKerfsUptoCardSaid : Prop := Claim7.holds Tryz.pinned (.plain (OpenSpec.upto nestKerfsSpec)) nestKerfsUptoCard

/-- THE SECOND FORM's CARD OF 'trunnellaw06.NestMatches'. -/
def nestMatchesUptoCard : Claim7 := { stood := { row := nestMatchesUptoRow, standIns := [], harness := (true, "53923239aaafebb22a9b3845926dd1935999b84530e086e80cb943f1c0c9f693"), looks := true }, kinds := [], alts := [], laidByText := true, laidKinds := [.data, .data, .data, .sentinel, .sentinel], laidTests := true, laidLooks := .later }
def NestMatchesUptoCardSaid : Prop := Claim7.holds Tryz.pinned (.plain (OpenSpec.upto nestMatchesSpec)) nestMatchesUptoCard

/-- THE SECOND FORM's CARD OF 'trunnellaw06.NestAssigns'. -/
def nestAssignsUptoCard : Claim7 := { stood := { row := nestAssignsUptoRow, standIns := [], harness := (true, "53923239aaafebb22a9b3845926dd1935999b84530e086e80cb943f1c0c9f693"), looks := true }, kinds := [], alts := [], laidByText := true, laidKinds := [.data, .data, .data, .sentinel, .sentinel], laidTests := true, laidLooks := .later }
def NestAssignsUptoCardSaid : Prop := Claim7.holds Tryz.pinned (.plain (OpenSpec.upto nestAssignsSpec)) nestAssignsUptoCard
end Rows
end Go.Proofs.YtgkpejlddgoalaaGreatDoor
