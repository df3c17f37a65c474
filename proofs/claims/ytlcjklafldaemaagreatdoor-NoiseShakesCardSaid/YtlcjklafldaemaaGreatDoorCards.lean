/-
  DERIVED. GIVEN WITH THE SEED: THE CARDS: each row of YtlcjklafldaemaaGreatDoorRows.lean that lists a variable, with what it lists TIED to the program's text (the seventh form; the later family's looks); each row that meets fmt, with fmt's text TOLD by the authors' own Lean function (tested against real Go, not proved from fmt's source: count such statements apart). THE CARD IS WHAT COUNTS. Prove the row's statement (the work); the ties are given (YtlcjklafldaemaaGreatDoorTie.lean); close each card by the builder's one call (the guide's Derived/Test/ToyasCard.lean, 'card_holds'). Laid BY PROGRAM, IN A SANDBOX (cutbox-door.mjs). By AI agents, Wed Nov 11 2026. No macro, syntax, notation, axiom, sorry.
-/
import Derived.Test.YtlcjklafldaemaaGreatDoorRows
import GoSem.ClaimSeven
namespace Go.Proofs.YtlcjklafldaemaaGreatDoor
namespace Rows

/-- THE TIED CARD OF 'burrowlaw11.NoisePlays'. -/
def noisePlaysCard : Claim7 := { stood := { row := noisePlaysRow, standIns := [], harness := (true, "866108b9442d0137607ccf44659db6e19372523556d7d9168f6e1364413311d3"), looks := true }, kinds := [], alts := [], laidByText := true, laidKinds := [.data, .data, .data, .data], laidTests := true, laidLooks := .later }
def NoisePlaysCardSaid : Prop := Claim7.holds Tryz.pinned (.plain (OpenSpec.ofChange noisePlaysSpec)) noisePlaysCard

/-- THE TIED CARD OF 'burrowlaw11.NoiseShakes'. -/
def noiseShakesCard : Claim7 := { stood := { row := noiseShakesRow, standIns := [], harness := (true, "866108b9442d0137607ccf44659db6e19372523556d7d9168f6e1364413311d3"), looks := true }, kinds := [], alts := [], laidByText := true, laidKinds := [.data, .data, .data, .data], laidTests := true, laidLooks := .later }
def NoiseShakesCardSaid : Prop := Claim7.holds Tryz.pinned (.plain (OpenSpec.ofChange noiseShakesSpec)) noiseShakesCard

/-- THE TIED CARD OF 'burrowlaw11.NoiseApart'. -/
def noiseApartCard : Claim7 := { stood := { row := noiseApartRow, standIns := [], harness := (true, "866108b9442d0137607ccf44659db6e19372523556d7d9168f6e1364413311d3"), looks := true }, kinds := [], alts := [], laidByText := true, laidKinds := [.data, .data, .data, .data], laidTests := true, laidLooks := .later }
def NoiseApartCardSaid : Prop := Claim7.holds Tryz.pinned (.plain (OpenSpec.ofChange noiseApartSpec)) noiseApartCard

/-- THE TIED CARD OF 'burrowlaw11.NoiseNone'. -/
def noiseNoneCard : Claim7 := { stood := { row := noiseNoneRow, standIns := [], harness := (true, "866108b9442d0137607ccf44659db6e19372523556d7d9168f6e1364413311d3"), looks := true }, kinds := [], alts := [], laidByText := true, laidKinds := [.data, .data, .data, .data], laidTests := true, laidLooks := .later }
def NoiseNoneCardSaid : Prop := Claim7.holds Tryz.pinned (.plain (OpenSpec.ofChange noiseNoneSpec)) noiseNoneCard

/-- THE SECOND FORM's CARD OF 'burrowlaw11.NoisePlays'. -/
def noisePlaysUptoCard : Claim7 := { stood := { row := noisePlaysUptoRow, standIns := [], harness := (true, "866108b9442d0137607ccf44659db6e19372523556d7d9168f6e1364413311d3"), looks := true }, kinds := [], alts := [], laidByText := true, laidKinds := [.data, .data, .data, .data], laidTests := true, laidLooks := .later }
def NoisePlaysUptoCardSaid : Prop := Claim7.holds Tryz.pinned (.plain (OpenSpec.upto noisePlaysSpec)) noisePlaysUptoCard

/-- THE SECOND FORM's CARD OF 'burrowlaw11.NoiseShakes'. -/
def noiseShakesUptoCard : Claim7 := { stood := { row := noiseShakesUptoRow, standIns := [], harness := (true, "866108b9442d0137607ccf44659db6e19372523556d7d9168f6e1364413311d3"), looks := true }, kinds := [], alts := [], laidByText := true, laidKinds := [.data, .data, .data, .data], laidTests := true, laidLooks := .later }
def NoiseShakesUptoCardSaid : Prop := Claim7.holds Tryz.pinned (.plain (OpenSpec.upto noiseShakesSpec)) noiseShakesUptoCard

/-- THE SECOND FORM's CARD OF 'burrowlaw11.NoiseApart'. -/
def noiseApartUptoCard : Claim7 := { stood := { row := noiseApartUptoRow, standIns := [], harness := (true, "866108b9442d0137607ccf44659db6e19372523556d7d9168f6e1364413311d3"), looks := true }, kinds := [], alts := [], laidByText := true, laidKinds := [.data, .data, .data, .data], laidTests := true, laidLooks := .later }
def NoiseApartUptoCardSaid : Prop := Claim7.holds Tryz.pinned (.plain (OpenSpec.upto noiseApartSpec)) noiseApartUptoCard

/-- THE SECOND FORM's CARD OF 'burrowlaw11.NoiseNone'. -/
def noiseNoneUptoCard : Claim7 := { stood := { row := noiseNoneUptoRow, standIns := [], harness := (true, "866108b9442d0137607ccf44659db6e19372523556d7d9168f6e1364413311d3"), looks := true }, kinds := [], alts := [], laidByText := true, laidKinds := [.data, .data, .data, .data], laidTests := true, laidLooks := .later }
def NoiseNoneUptoCardSaid : Prop := Claim7.holds Tryz.pinned (.plain (OpenSpec.upto noiseNoneSpec)) noiseNoneUptoCard
end Rows
end Go.Proofs.YtlcjklafldaemaaGreatDoor
