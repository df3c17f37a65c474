/-
  DERIVED. GIVEN WITH THE SEED: THE CARDS: each row of YtophlgnnjjkkiaaDoorRows.lean that lists a variable, with what it lists TIED to the program's text (the seventh form; the later family's looks); each row that meets fmt, with fmt's text TOLD by the authors' own Lean function (tested against real Go, not proved from fmt's source: count such statements apart). THE CARD IS WHAT COUNTS. Prove the row's statement (the work); the ties are given (YtophlgnnjjkkiaaDoorTie.lean); close each card by the builder's one call (the guide's Derived/Test/ToyasCard.lean, 'card_holds'). Laid BY PROGRAM, IN A SANDBOX (cutbox-door.mjs). By AI agents, Wed Nov 11 2026. No macro, syntax, notation, axiom, sorry.
-/
import Derived.Test.YtophlgnnjjkkiaaDoorRows
import GoSem.ClaimSeven
namespace Go.Proofs.YtophlgnnjjkkiaaDoor
namespace Rows

/-- THE TIED CARD OF 'burrowlaw10.CipherHides'. -/
def cipherHidesCard : Claim7 := { stood := { row := cipherHidesRow, standIns := [], harness := (true, "3cd84be60c9fd4eddeab8a64530c07dfcf2e5eb11ee4da80b661860885e3b790"), looks := true }, kinds := [], alts := [], laidByText := true, laidKinds := [.data, .data, .data, .data], laidTests := true, laidLooks := .later }
def CipherHidesCardSaid : Prop := Claim7.holds Tryd.pinned (.plain (OpenSpec.ofChange cipherHidesSpec)) cipherHidesCard

/-- THE TIED CARD OF 'burrowlaw10.CipherBoth'. -/
def cipherBothCard : Claim7 := { stood := { row := cipherBothRow, standIns := [], harness := (true, "3cd84be60c9fd4eddeab8a64530c07dfcf2e5eb11ee4da80b661860885e3b790"), looks := true }, kinds := [], alts := [], laidByText := true, laidKinds := [.data, .data, .data, .data], laidTests := true, laidLooks := .later }
def CipherBothCardSaid : Prop := Claim7.holds Tryd.pinned (.plain (OpenSpec.ofChange cipherBothSpec)) cipherBothCard

/-- THE TIED CARD OF 'burrowlaw10.CipherNone'. -/
def cipherNoneCard : Claim7 := { stood := { row := cipherNoneRow, standIns := [], harness := (true, "3cd84be60c9fd4eddeab8a64530c07dfcf2e5eb11ee4da80b661860885e3b790"), looks := true }, kinds := [], alts := [], laidByText := true, laidKinds := [.data, .data, .data, .data], laidTests := true, laidLooks := .later }
def CipherNoneCardSaid : Prop := Claim7.holds Tryd.pinned (.plain (OpenSpec.ofChange cipherNoneSpec)) cipherNoneCard

/-- THE SECOND FORM's CARD OF 'burrowlaw10.CipherHides'. -/
def cipherHidesUptoCard : Claim7 := { stood := { row := cipherHidesUptoRow, standIns := [], harness := (true, "3cd84be60c9fd4eddeab8a64530c07dfcf2e5eb11ee4da80b661860885e3b790"), looks := true }, kinds := [], alts := [], laidByText := true, laidKinds := [.data, .data, .data, .data], laidTests := true, laidLooks := .later }
def CipherHidesUptoCardSaid : Prop := Claim7.holds Tryd.pinned (.plain (OpenSpec.upto cipherHidesSpec)) cipherHidesUptoCard

/-- THE SECOND FORM's CARD OF 'burrowlaw10.CipherBoth'. -/
def cipherBothUptoCard : Claim7 := { stood := { row := cipherBothUptoRow, standIns := [], harness := (true, "3cd84be60c9fd4eddeab8a64530c07dfcf2e5eb11ee4da80b661860885e3b790"), looks := true }, kinds := [], alts := [], laidByText := true, laidKinds := [.data, .data, .data, .data], laidTests := true, laidLooks := .later }
def CipherBothUptoCardSaid : Prop := Claim7.holds Tryd.pinned (.plain (OpenSpec.upto cipherBothSpec)) cipherBothUptoCard

/-- THE SECOND FORM's CARD OF 'burrowlaw10.CipherNone'. -/
def cipherNoneUptoCard : Claim7 := { stood := { row := cipherNoneUptoRow, standIns := [], harness := (true, "3cd84be60c9fd4eddeab8a64530c07dfcf2e5eb11ee4da80b661860885e3b790"), looks := true }, kinds := [], alts := [], laidByText := true, laidKinds := [.data, .data, .data, .data], laidTests := true, laidLooks := .later }
def CipherNoneUptoCardSaid : Prop := Claim7.holds Tryd.pinned (.plain (OpenSpec.upto cipherNoneSpec)) cipherNoneUptoCard
end Rows
end Go.Proofs.YtophlgnnjjkkiaaDoor
