/-
  DERIVED. GIVEN WITH THE SEED: THE CARDS: each row of YtmljnchhgkfemaaDoorRows.lean that lists a variable, with what it lists TIED to the program's text (the seventh form; the later family's looks); each row that meets fmt, with fmt's text TOLD by the authors' own Lean function (tested against real Go, not proved from fmt's source: count such statements apart). THE CARD IS WHAT COUNTS. Prove the row's statement (the work); the ties are given (YtmljnchhgkfemaaDoorTie.lean); close each card by the builder's one call (the guide's Derived/Test/ToyasCard.lean, 'card_holds'). Laid BY PROGRAM, IN A SANDBOX (cutbox-door.mjs). By AI agents, Wed Nov 11 2026. No macro, syntax, notation, axiom, sorry.
-/
import Derived.Test.YtmljnchhgkfemaaDoorRows
import GoSem.ClaimSeven
namespace Go.Proofs.YtmljnchhgkfemaaDoor
namespace Rows

/-- THE TIED CARD OF 'burrowlaw16.BoxWhole'. -/
def boxWholeCard : Claim7 := { stood := { row := boxWholeRow, standIns := [], harness := (true, "89591ecba39bf075b14b813e998fb2ee52c34f3ad6d96784058ada1b9c0014f5"), looks := true }, kinds := [], alts := [], laidByText := true, laidKinds := [.data, .data, .data, .data], laidTests := true, laidLooks := .later }
def BoxWholeCardSaid : Prop := Claim7.holds Tryd.pinned (.plain (OpenSpec.ofChange boxWholeSpec)) boxWholeCard

/-- THE SECOND FORM's CARD OF 'burrowlaw16.BoxWhole'. -/
def boxWholeUptoCard : Claim7 := { stood := { row := boxWholeUptoRow, standIns := [], harness := (true, "89591ecba39bf075b14b813e998fb2ee52c34f3ad6d96784058ada1b9c0014f5"), looks := true }, kinds := [], alts := [], laidByText := true, laidKinds := [.data, .data, .data, .data], laidTests := true, laidLooks := .later }
def BoxWholeUptoCardSaid : Prop := Claim7.holds Tryd.pinned (.plain (OpenSpec.upto boxWholeSpec)) boxWholeUptoCard
end Rows
end Go.Proofs.YtmljnchhgkfemaaDoor
