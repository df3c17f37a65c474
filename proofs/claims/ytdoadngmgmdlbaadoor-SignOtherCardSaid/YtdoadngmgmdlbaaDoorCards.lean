/-
  DERIVED. GIVEN WITH THE SEED: THE CARDS: each row of YtdoadngmgmdlbaaDoorRows.lean that lists a variable, with what it lists TIED to the program's text (the seventh form; the later family's looks); each row that meets fmt, with fmt's text TOLD by the authors' own Lean function (tested against real Go, not proved from fmt's source: count such statements apart). THE CARD IS WHAT COUNTS. Prove the row's statement (the work); the ties are given (YtdoadngmgmdlbaaDoorTie.lean); close each card by the builder's one call (the guide's Derived/Test/ToyasCard.lean, 'card_holds'). Laid BY PROGRAM, IN A SANDBOX (cutbox-door.mjs). By AI agents, Wed Nov 11 2026. No macro, syntax, notation, axiom, sorry.
-/
import Derived.Test.YtdoadngmgmdlbaaDoorRows
import GoSem.ClaimSeven
namespace Go.Proofs.YtdoadngmgmdlbaaDoor
namespace Rows

/-- THE TIED CARD OF 'burrowlaw08.SignPublic'. -/
def signPublicCard : Claim7 := { stood := { row := signPublicRow, standIns := [], harness := (true, "ad5c79906cda6af978589f0ada542ccb0c504338c3852226a9fe5a40393c405f"), looks := false }, kinds := [], alts := [], laidByText := true, laidKinds := [.data, .data, .data, .data, .data, .data], laidTests := true, laidLooks := .later }
def SignPublicCardSaid : Prop := Claim7.holds Tryd.pinned (.plain (OpenSpec.ofChange signPublicSpec)) signPublicCard

/-- THE TIED CARD OF 'burrowlaw08.SignSigns'. -/
def signSignsCard : Claim7 := { stood := { row := signSignsRow, standIns := [], harness := (true, "ad5c79906cda6af978589f0ada542ccb0c504338c3852226a9fe5a40393c405f"), looks := false }, kinds := [], alts := [], laidByText := true, laidKinds := [.data, .data, .data, .data, .data, .data], laidTests := true, laidLooks := .later }
def SignSignsCardSaid : Prop := Claim7.holds Tryd.pinned (.plain (OpenSpec.ofChange signSignsSpec)) signSignsCard

/-- THE TIED CARD OF 'burrowlaw08.SignVerifies'. -/
def signVerifiesCard : Claim7 := { stood := { row := signVerifiesRow, standIns := [], harness := (true, "ad5c79906cda6af978589f0ada542ccb0c504338c3852226a9fe5a40393c405f"), looks := false }, kinds := [], alts := [], laidByText := true, laidKinds := [.data, .data, .data, .data, .data, .data], laidTests := true, laidLooks := .later }
def SignVerifiesCardSaid : Prop := Claim7.holds Tryd.pinned (.plain (OpenSpec.ofChange signVerifiesSpec)) signVerifiesCard

/-- THE TIED CARD OF 'burrowlaw08.SignBack'. -/
def signBackCard : Claim7 := { stood := { row := signBackRow, standIns := [], harness := (true, "ad5c79906cda6af978589f0ada542ccb0c504338c3852226a9fe5a40393c405f"), looks := false }, kinds := [], alts := [], laidByText := true, laidKinds := [.data, .data, .data, .data, .data, .data], laidTests := true, laidLooks := .later }
def SignBackCardSaid : Prop := Claim7.holds Tryd.pinned (.plain (OpenSpec.ofChange signBackSpec)) signBackCard

/-- THE TIED CARD OF 'burrowlaw08.SignOnce'. -/
def signOnceCard : Claim7 := { stood := { row := signOnceRow, standIns := [], harness := (true, "ad5c79906cda6af978589f0ada542ccb0c504338c3852226a9fe5a40393c405f"), looks := false }, kinds := [], alts := [], laidByText := true, laidKinds := [.data, .data, .data, .data, .data, .data], laidTests := true, laidLooks := .later }
def SignOnceCardSaid : Prop := Claim7.holds Tryd.pinned (.plain (OpenSpec.ofChange signOnceSpec)) signOnceCard

/-- THE TIED CARD OF 'burrowlaw08.SignOther'. -/
def signOtherCard : Claim7 := { stood := { row := signOtherRow, standIns := [], harness := (true, "ad5c79906cda6af978589f0ada542ccb0c504338c3852226a9fe5a40393c405f"), looks := false }, kinds := [], alts := [], laidByText := true, laidKinds := [.data, .data, .data, .data, .data, .data], laidTests := true, laidLooks := .later }
def SignOtherCardSaid : Prop := Claim7.holds Tryd.pinned (.plain (OpenSpec.ofChange signOtherSpec)) signOtherCard

/-- THE SECOND FORM's CARD OF 'burrowlaw08.SignPublic'. -/
def signPublicUptoCard : Claim7 := { stood := { row := signPublicUptoRow, standIns := [], harness := (true, "ad5c79906cda6af978589f0ada542ccb0c504338c3852226a9fe5a40393c405f"), looks := false }, kinds := [], alts := [], laidByText := true, laidKinds := [.data, .data, .data, .data, .data, .data], laidTests := true, laidLooks := .later }
def SignPublicUptoCardSaid : Prop := Claim7.holds Tryd.pinned (.plain (OpenSpec.upto signPublicSpec)) signPublicUptoCard

/-- THE SECOND FORM's CARD OF 'burrowlaw08.SignSigns'. -/
def signSignsUptoCard : Claim7 := { stood := { row := signSignsUptoRow, standIns := [], harness := (true, "ad5c79906cda6af978589f0ada542ccb0c504338c3852226a9fe5a40393c405f"), looks := false }, kinds := [], alts := [], laidByText := true, laidKinds := [.data, .data, .data, .data, .data, .data], laidTests := true, laidLooks := .later }
def SignSignsUptoCardSaid : Prop := Claim7.holds Tryd.pinned (.plain (OpenSpec.upto signSignsSpec)) signSignsUptoCard

/-- THE SECOND FORM's CARD OF 'burrowlaw08.SignVerifies'. -/
def signVerifiesUptoCard : Claim7 := { stood := { row := signVerifiesUptoRow, standIns := [], harness := (true, "ad5c79906cda6af978589f0ada542ccb0c504338c3852226a9fe5a40393c405f"), looks := false }, kinds := [], alts := [], laidByText := true, laidKinds := [.data, .data, .data, .data, .data, .data], laidTests := true, laidLooks := .later }
def SignVerifiesUptoCardSaid : Prop := Claim7.holds Tryd.pinned (.plain (OpenSpec.upto signVerifiesSpec)) signVerifiesUptoCard

/-- THE SECOND FORM's CARD OF 'burrowlaw08.SignBack'. -/
def signBackUptoCard : Claim7 := { stood := { row := signBackUptoRow, standIns := [], harness := (true, "ad5c79906cda6af978589f0ada542ccb0c504338c3852226a9fe5a40393c405f"), looks := false }, kinds := [], alts := [], laidByText := true, laidKinds := [.data, .data, .data, .data, .data, .data], laidTests := true, laidLooks := .later }
def SignBackUptoCardSaid : Prop := Claim7.holds Tryd.pinned (.plain (OpenSpec.upto signBackSpec)) signBackUptoCard

/-- THE SECOND FORM's CARD OF 'burrowlaw08.SignOnce'. -/
def signOnceUptoCard : Claim7 := { stood := { row := signOnceUptoRow, standIns := [], harness := (true, "ad5c79906cda6af978589f0ada542ccb0c504338c3852226a9fe5a40393c405f"), looks := false }, kinds := [], alts := [], laidByText := true, laidKinds := [.data, .data, .data, .data, .data, .data], laidTests := true, laidLooks := .later }
def SignOnceUptoCardSaid : Prop := Claim7.holds Tryd.pinned (.plain (OpenSpec.upto signOnceSpec)) signOnceUptoCard

/-- THE SECOND FORM's CARD OF 'burrowlaw08.SignOther'. -/
def signOtherUptoCard : Claim7 := { stood := { row := signOtherUptoRow, standIns := [], harness := (true, "ad5c79906cda6af978589f0ada542ccb0c504338c3852226a9fe5a40393c405f"), looks := false }, kinds := [], alts := [], laidByText := true, laidKinds := [.data, .data, .data, .data, .data, .data], laidTests := true, laidLooks := .later }
def SignOtherUptoCardSaid : Prop := Claim7.holds Tryd.pinned (.plain (OpenSpec.upto signOtherSpec)) signOtherUptoCard
end Rows
end Go.Proofs.YtdoadngmgmdlbaaDoor
