/-
  DERIVED. GIVEN WITH THE SEED: THE CARDS: each row of YthfkppjajmjpnaaDoorRows.lean that lists a variable, with what it lists TIED to the program's text (the seventh form; the later family's looks); each row that meets fmt, with fmt's text TOLD by the authors' own Lean function (tested against real Go, not proved from fmt's source: count such statements apart). THE CARD IS WHAT COUNTS. Prove the row's statement (the work); the ties are given (YthfkppjajmjpnaaDoorTie.lean); close each card by the builder's one call (the guide's Derived/Test/ToyasCard.lean, 'card_holds'). Laid BY PROGRAM, IN A SANDBOX (cutbox-door.mjs). By AI agents, Wed Nov 11 2026. No macro, syntax, notation, axiom, sorry.
-/
import Derived.Test.YthfkppjajmjpnaaDoorRows
import GoSem.ClaimSeven
namespace Go.Proofs.YthfkppjajmjpnaaDoor
namespace Rows

/-- THE TIED CARD OF 'burrowlaw15.MarkDigests'. -/
def markDigestsCard : Claim7 := { stood := { row := markDigestsRow, standIns := [], harness := (true, "c77951977f6659421ac9e572d440303130efc7b22ae1364e299d21aff57fb218"), looks := false }, kinds := [], alts := [], laidByText := true, laidKinds := [.data, .data, .data], laidTests := true, laidLooks := .later }
def MarkDigestsCardSaid : Prop := Claim7.holds Tryd.pinned (.plain (OpenSpec.ofChange markDigestsSpec)) markDigestsCard

/-- THE TIED CARD OF 'burrowlaw15.MarkMarks'. -/
def markMarksCard : Claim7 := { stood := { row := markMarksRow, standIns := [], harness := (true, "c77951977f6659421ac9e572d440303130efc7b22ae1364e299d21aff57fb218"), looks := false }, kinds := [], alts := [], laidByText := true, laidKinds := [.data, .data, .data], laidTests := true, laidLooks := .later }
def MarkMarksCardSaid : Prop := Claim7.holds Tryd.pinned (.plain (OpenSpec.ofChange markMarksSpec)) markMarksCard

/-- THE TIED CARD OF 'burrowlaw15.MarkBound'. -/
def markBoundCard : Claim7 := { stood := { row := markBoundRow, standIns := [], harness := (true, "c77951977f6659421ac9e572d440303130efc7b22ae1364e299d21aff57fb218"), looks := false }, kinds := [], alts := [], laidByText := true, laidKinds := [.data, .data, .data], laidTests := true, laidLooks := .later }
def MarkBoundCardSaid : Prop := Claim7.holds Tryd.pinned (.plain (OpenSpec.ofChange markBoundSpec)) markBoundCard

/-- THE TIED CARD OF 'burrowlaw15.MarkUnlike'. -/
def markUnlikeCard : Claim7 := { stood := { row := markUnlikeRow, standIns := [], harness := (true, "c77951977f6659421ac9e572d440303130efc7b22ae1364e299d21aff57fb218"), looks := false }, kinds := [], alts := [], laidByText := true, laidKinds := [.data, .data, .data], laidTests := true, laidLooks := .later }
def MarkUnlikeCardSaid : Prop := Claim7.holds Tryd.pinned (.plain (OpenSpec.ofChange markUnlikeSpec)) markUnlikeCard

/-- THE TIED CARD OF 'burrowlaw15.MarkKeeps'. -/
def markKeepsCard : Claim7 := { stood := { row := markKeepsRow, standIns := [], harness := (true, "c77951977f6659421ac9e572d440303130efc7b22ae1364e299d21aff57fb218"), looks := false }, kinds := [], alts := [], laidByText := true, laidKinds := [.data, .data, .data], laidTests := true, laidLooks := .later }
def MarkKeepsCardSaid : Prop := Claim7.holds Tryd.pinned (.plain (OpenSpec.ofChange markKeepsSpec)) markKeepsCard

/-- THE SECOND FORM's CARD OF 'burrowlaw15.MarkDigests'. -/
def markDigestsUptoCard : Claim7 := { stood := { row := markDigestsUptoRow, standIns := [], harness := (true, "c77951977f6659421ac9e572d440303130efc7b22ae1364e299d21aff57fb218"), looks := false }, kinds := [], alts := [], laidByText := true, laidKinds := [.data, .data, .data], laidTests := true, laidLooks := .later }
def MarkDigestsUptoCardSaid : Prop := Claim7.holds Tryd.pinned (.plain (OpenSpec.upto markDigestsSpec)) markDigestsUptoCard

/-- THE SECOND FORM's CARD OF 'burrowlaw15.MarkMarks'. -/
def markMarksUptoCard : Claim7 := { stood := { row := markMarksUptoRow, standIns := [], harness := (true, "c77951977f6659421ac9e572d440303130efc7b22ae1364e299d21aff57fb218"), looks := false }, kinds := [], alts := [], laidByText := true, laidKinds := [.data, .data, .data], laidTests := true, laidLooks := .later }
def MarkMarksUptoCardSaid : Prop := Claim7.holds Tryd.pinned (.plain (OpenSpec.upto markMarksSpec)) markMarksUptoCard

/-- THE SECOND FORM's CARD OF 'burrowlaw15.MarkBound'. -/
def markBoundUptoCard : Claim7 := { stood := { row := markBoundUptoRow, standIns := [], harness := (true, "c77951977f6659421ac9e572d440303130efc7b22ae1364e299d21aff57fb218"), looks := false }, kinds := [], alts := [], laidByText := true, laidKinds := [.data, .data, .data], laidTests := true, laidLooks := .later }
def MarkBoundUptoCardSaid : Prop := Claim7.holds Tryd.pinned (.plain (OpenSpec.upto markBoundSpec)) markBoundUptoCard

/-- THE SECOND FORM's CARD OF 'burrowlaw15.MarkUnlike'. -/
def markUnlikeUptoCard : Claim7 := { stood := { row := markUnlikeUptoRow, standIns := [], harness := (true, "c77951977f6659421ac9e572d440303130efc7b22ae1364e299d21aff57fb218"), looks := false }, kinds := [], alts := [], laidByText := true, laidKinds := [.data, .data, .data], laidTests := true, laidLooks := .later }
def MarkUnlikeUptoCardSaid : Prop := Claim7.holds Tryd.pinned (.plain (OpenSpec.upto markUnlikeSpec)) markUnlikeUptoCard

/-- THE SECOND FORM's CARD OF 'burrowlaw15.MarkKeeps'. -/
def markKeepsUptoCard : Claim7 := { stood := { row := markKeepsUptoRow, standIns := [], harness := (true, "c77951977f6659421ac9e572d440303130efc7b22ae1364e299d21aff57fb218"), looks := false }, kinds := [], alts := [], laidByText := true, laidKinds := [.data, .data, .data], laidTests := true, laidLooks := .later }
def MarkKeepsUptoCardSaid : Prop := Claim7.holds Tryd.pinned (.plain (OpenSpec.upto markKeepsSpec)) markKeepsUptoCard
end Rows
end Go.Proofs.YthfkppjajmjpnaaDoor
