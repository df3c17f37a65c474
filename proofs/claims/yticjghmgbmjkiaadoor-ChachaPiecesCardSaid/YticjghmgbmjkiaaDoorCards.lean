/-
  DERIVED. GIVEN WITH THE SEED: THE CARDS: each row of YticjghmgbmjkiaaDoorRows.lean that lists a variable, with what it lists TIED to the program's text (the seventh form; the later family's looks); each row that meets fmt, with fmt's text TOLD by the authors' own Lean function (tested against real Go, not proved from fmt's source: count such statements apart). THE CARD IS WHAT COUNTS. Prove the row's statement (the work); the ties are given (YticjghmgbmjkiaaDoorTie.lean); close each card by the builder's one call (the guide's Derived/Test/ToyasCard.lean, 'card_holds'). Laid BY PROGRAM, IN A SANDBOX (cutbox-door.mjs). By AI agents, Wed Nov 11 2026. No macro, syntax, notation, axiom, sorry.
-/
import Derived.Test.YticjghmgbmjkiaaDoorRows
import GoSem.ClaimSeven
namespace Go.Proofs.YticjghmgbmjkiaaDoor
namespace Rows

/-- THE TIED CARD OF 'burrowlaw03.ChachaPieces'. -/
def chachaPiecesCard : Claim7 := { stood := { row := chachaPiecesRow, standIns := [], harness := (true, "e5f334e97a4890ed0e6fddbccb3216ac90d9bb88ad7ab1a1515118a0c7312b92"), looks := true }, kinds := [], alts := [], laidByText := true, laidKinds := [.data, .data], laidTests := true, laidLooks := .later }
def ChachaPiecesCardSaid : Prop := Claim7.holds Tryd.pinned (.plain (OpenSpec.ofChange chachaPiecesSpec)) chachaPiecesCard

/-- THE TIED CARD OF 'burrowlaw03.ChachaMixes'. -/
def chachaMixesCard : Claim7 := { stood := { row := chachaMixesRow, standIns := [], harness := (true, "e5f334e97a4890ed0e6fddbccb3216ac90d9bb88ad7ab1a1515118a0c7312b92"), looks := true }, kinds := [], alts := [], laidByText := true, laidKinds := [.data, .data], laidTests := true, laidLooks := .later }
def ChachaMixesCardSaid : Prop := Claim7.holds Tryd.pinned (.plain (OpenSpec.ofChange chachaMixesSpec)) chachaMixesCard

/-- THE TIED CARD OF 'burrowlaw03.ChachaTwice'. -/
def chachaTwiceCard : Claim7 := { stood := { row := chachaTwiceRow, standIns := [], harness := (true, "e5f334e97a4890ed0e6fddbccb3216ac90d9bb88ad7ab1a1515118a0c7312b92"), looks := true }, kinds := [], alts := [], laidByText := true, laidKinds := [.data, .data], laidTests := true, laidLooks := .later }
def ChachaTwiceCardSaid : Prop := Claim7.holds Tryd.pinned (.plain (OpenSpec.ofChange chachaTwiceSpec)) chachaTwiceCard

/-- THE TIED CARD OF 'burrowlaw03.ChachaJoins'. -/
def chachaJoinsCard : Claim7 := { stood := { row := chachaJoinsRow, standIns := [], harness := (true, "e5f334e97a4890ed0e6fddbccb3216ac90d9bb88ad7ab1a1515118a0c7312b92"), looks := true }, kinds := [], alts := [], laidByText := true, laidKinds := [.data, .data], laidTests := true, laidLooks := .later }
def ChachaJoinsCardSaid : Prop := Claim7.holds Tryd.pinned (.plain (OpenSpec.ofChange chachaJoinsSpec)) chachaJoinsCard

/-- THE TIED CARD OF 'burrowlaw13.SeatNodes'. -/
def seatNodesCard : Claim7 := { stood := { row := seatNodesRow, standIns := [], harness := (true, "e5f334e97a4890ed0e6fddbccb3216ac90d9bb88ad7ab1a1515118a0c7312b92"), looks := true }, kinds := [], alts := [], laidByText := true, laidKinds := [.data], laidTests := true, laidLooks := .later }
def SeatNodesCardSaid : Prop := Claim7.holds Tryd.pinned (.plain (OpenSpec.ofChange seatNodesSpec)) seatNodesCard

/-- THE TIED CARD OF 'burrowlaw13.SeatPaths'. -/
def seatPathsCard : Claim7 := { stood := { row := seatPathsRow, standIns := [], harness := (true, "e5f334e97a4890ed0e6fddbccb3216ac90d9bb88ad7ab1a1515118a0c7312b92"), looks := true }, kinds := [], alts := [], laidByText := true, laidKinds := [.data], laidTests := true, laidLooks := .later }
def SeatPathsCardSaid : Prop := Claim7.holds Tryd.pinned (.plain (OpenSpec.ofChange seatPathsSpec)) seatPathsCard

/-- THE TIED CARD OF 'burrowlaw13.SeatCommon'. -/
def seatCommonCard : Claim7 := { stood := { row := seatCommonRow, standIns := [], harness := (true, "e5f334e97a4890ed0e6fddbccb3216ac90d9bb88ad7ab1a1515118a0c7312b92"), looks := true }, kinds := [], alts := [], laidByText := true, laidKinds := [.data], laidTests := true, laidLooks := .later }
def SeatCommonCardSaid : Prop := Claim7.holds Tryd.pinned (.plain (OpenSpec.ofChange seatCommonSpec)) seatCommonCard

/-- THE TIED CARD OF 'burrowlaw13.SeatTree'. -/
def seatTreeCard : Claim7 := { stood := { row := seatTreeRow, standIns := [], harness := (true, "e5f334e97a4890ed0e6fddbccb3216ac90d9bb88ad7ab1a1515118a0c7312b92"), looks := true }, kinds := [], alts := [], laidByText := true, laidKinds := [.data], laidTests := true, laidLooks := .later }
def SeatTreeCardSaid : Prop := Claim7.holds Tryd.pinned (.plain (OpenSpec.ofChange seatTreeSpec)) seatTreeCard

/-- THE TIED CARD OF 'burrowlaw13.SeatMeets'. -/
def seatMeetsCard : Claim7 := { stood := { row := seatMeetsRow, standIns := [], harness := (true, "e5f334e97a4890ed0e6fddbccb3216ac90d9bb88ad7ab1a1515118a0c7312b92"), looks := true }, kinds := [], alts := [], laidByText := true, laidKinds := [.data], laidTests := true, laidLooks := .later }
def SeatMeetsCardSaid : Prop := Claim7.holds Tryd.pinned (.plain (OpenSpec.ofChange seatMeetsSpec)) seatMeetsCard

/-- THE SECOND FORM's CARD OF 'burrowlaw03.ChachaPieces'. -/
def chachaPiecesUptoCard : Claim7 := { stood := { row := chachaPiecesUptoRow, standIns := [], harness := (true, "e5f334e97a4890ed0e6fddbccb3216ac90d9bb88ad7ab1a1515118a0c7312b92"), looks := true }, kinds := [], alts := [], laidByText := true, laidKinds := [.data, .data], laidTests := true, laidLooks := .later }
def ChachaPiecesUptoCardSaid : Prop := Claim7.holds Tryd.pinned (.plain (OpenSpec.upto chachaPiecesSpec)) chachaPiecesUptoCard

/-- THE SECOND FORM's CARD OF 'burrowlaw03.ChachaMixes'. -/
def chachaMixesUptoCard : Claim7 := { stood := { row := chachaMixesUptoRow, standIns := [], harness := (true, "e5f334e97a4890ed0e6fddbccb3216ac90d9bb88ad7ab1a1515118a0c7312b92"), looks := true }, kinds := [], alts := [], laidByText := true, laidKinds := [.data, .data], laidTests := true, laidLooks := .later }
def ChachaMixesUptoCardSaid : Prop := Claim7.holds Tryd.pinned (.plain (OpenSpec.upto chachaMixesSpec)) chachaMixesUptoCard

/-- THE SECOND FORM's CARD OF 'burrowlaw03.ChachaTwice'. -/
def chachaTwiceUptoCard : Claim7 := { stood := { row := chachaTwiceUptoRow, standIns := [], harness := (true, "e5f334e97a4890ed0e6fddbccb3216ac90d9bb88ad7ab1a1515118a0c7312b92"), looks := true }, kinds := [], alts := [], laidByText := true, laidKinds := [.data, .data], laidTests := true, laidLooks := .later }
def ChachaTwiceUptoCardSaid : Prop := Claim7.holds Tryd.pinned (.plain (OpenSpec.upto chachaTwiceSpec)) chachaTwiceUptoCard

/-- THE SECOND FORM's CARD OF 'burrowlaw03.ChachaJoins'. -/
def chachaJoinsUptoCard : Claim7 := { stood := { row := chachaJoinsUptoRow, standIns := [], harness := (true, "e5f334e97a4890ed0e6fddbccb3216ac90d9bb88ad7ab1a1515118a0c7312b92"), looks := true }, kinds := [], alts := [], laidByText := true, laidKinds := [.data, .data], laidTests := true, laidLooks := .later }
def ChachaJoinsUptoCardSaid : Prop := Claim7.holds Tryd.pinned (.plain (OpenSpec.upto chachaJoinsSpec)) chachaJoinsUptoCard

/-- THE SECOND FORM's CARD OF 'burrowlaw13.SeatNodes'. -/
def seatNodesUptoCard : Claim7 := { stood := { row := seatNodesUptoRow, standIns := [], harness := (true, "e5f334e97a4890ed0e6fddbccb3216ac90d9bb88ad7ab1a1515118a0c7312b92"), looks := true }, kinds := [], alts := [], laidByText := true, laidKinds := [.data], laidTests := true, laidLooks := .later }
def SeatNodesUptoCardSaid : Prop := Claim7.holds Tryd.pinned (.plain (OpenSpec.upto seatNodesSpec)) seatNodesUptoCard

/-- THE SECOND FORM's CARD OF 'burrowlaw13.SeatPaths'. -/
def seatPathsUptoCard : Claim7 := { stood := { row := seatPathsUptoRow, standIns := [], harness := (true, "e5f334e97a4890ed0e6fddbccb3216ac90d9bb88ad7ab1a1515118a0c7312b92"), looks := true }, kinds := [], alts := [], laidByText := true, laidKinds := [.data], laidTests := true, laidLooks := .later }
def SeatPathsUptoCardSaid : Prop := Claim7.holds Tryd.pinned (.plain (OpenSpec.upto seatPathsSpec)) seatPathsUptoCard

/-- THE SECOND FORM's CARD OF 'burrowlaw13.SeatCommon'. -/
def seatCommonUptoCard : Claim7 := { stood := { row := seatCommonUptoRow, standIns := [], harness := (true, "e5f334e97a4890ed0e6fddbccb3216ac90d9bb88ad7ab1a1515118a0c7312b92"), looks := true }, kinds := [], alts := [], laidByText := true, laidKinds := [.data], laidTests := true, laidLooks := .later }
def SeatCommonUptoCardSaid : Prop := Claim7.holds Tryd.pinned (.plain (OpenSpec.upto seatCommonSpec)) seatCommonUptoCard

/-- THE SECOND FORM's CARD OF 'burrowlaw13.SeatTree'. -/
def seatTreeUptoCard : Claim7 := { stood := { row := seatTreeUptoRow, standIns := [], harness := (true, "e5f334e97a4890ed0e6fddbccb3216ac90d9bb88ad7ab1a1515118a0c7312b92"), looks := true }, kinds := [], alts := [], laidByText := true, laidKinds := [.data], laidTests := true, laidLooks := .later }
def SeatTreeUptoCardSaid : Prop := Claim7.holds Tryd.pinned (.plain (OpenSpec.upto seatTreeSpec)) seatTreeUptoCard

/-- THE SECOND FORM's CARD OF 'burrowlaw13.SeatMeets'. -/
def seatMeetsUptoCard : Claim7 := { stood := { row := seatMeetsUptoRow, standIns := [], harness := (true, "e5f334e97a4890ed0e6fddbccb3216ac90d9bb88ad7ab1a1515118a0c7312b92"), looks := true }, kinds := [], alts := [], laidByText := true, laidKinds := [.data], laidTests := true, laidLooks := .later }
def SeatMeetsUptoCardSaid : Prop := Claim7.holds Tryd.pinned (.plain (OpenSpec.upto seatMeetsSpec)) seatMeetsUptoCard
end Rows
end Go.Proofs.YticjghmgbmjkiaaDoor
