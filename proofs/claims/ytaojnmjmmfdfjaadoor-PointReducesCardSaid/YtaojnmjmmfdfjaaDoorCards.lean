/-
  DERIVED. GIVEN WITH THE SEED: THE CARDS: each row of YtaojnmjmmfdfjaaDoorRows.lean that lists a variable, with what it lists TIED to the program's text (the seventh form; the later family's looks); each row that meets fmt, with fmt's text TOLD by the authors' own Lean function (tested against real Go, not proved from fmt's source: count such statements apart). THE CARD IS WHAT COUNTS. Prove the row's statement (the work); the ties are given (YtaojnmjmmfdfjaaDoorTie.lean); close each card by the builder's one call (the guide's Derived/Test/ToyasCard.lean, 'card_holds'). Laid BY PROGRAM, IN A SANDBOX (cutbox-door.mjs). By AI agents, Wed Nov 11 2026. No macro, syntax, notation, axiom, sorry.
-/
import Derived.Test.YtaojnmjmmfdfjaaDoorRows
import GoSem.ClaimSeven
namespace Go.Proofs.YtaojnmjmmfdfjaaDoor
namespace Rows

/-- THE TIED CARD OF 'burrowlaw07.PointFrom'. -/
def pointFromCard : Claim7 := { stood := { row := pointFromRow, standIns := [], harness := (true, "d1225d870feae036ea2bf7842dfe0c4df420b6395852743ffaf29346ca8983a2"), looks := false }, kinds := [], alts := [], laidByText := true, laidKinds := [.data, .data, .data], laidTests := true, laidLooks := .later }
def PointFromCardSaid : Prop := Claim7.holds Tryd.pinned (.plain (OpenSpec.ofChange pointFromSpec)) pointFromCard

/-- THE TIED CARD OF 'burrowlaw07.PointAdds'. -/
def pointAddsCard : Claim7 := { stood := { row := pointAddsRow, standIns := [], harness := (true, "d1225d870feae036ea2bf7842dfe0c4df420b6395852743ffaf29346ca8983a2"), looks := false }, kinds := [], alts := [], laidByText := true, laidKinds := [.data, .data, .data], laidTests := true, laidLooks := .later }
def PointAddsCardSaid : Prop := Claim7.holds Tryd.pinned (.plain (OpenSpec.ofChange pointAddsSpec)) pointAddsCard

/-- THE TIED CARD OF 'burrowlaw07.PointTimes'. -/
def pointTimesCard : Claim7 := { stood := { row := pointTimesRow, standIns := [], harness := (true, "d1225d870feae036ea2bf7842dfe0c4df420b6395852743ffaf29346ca8983a2"), looks := false }, kinds := [], alts := [], laidByText := true, laidKinds := [.data, .data, .data], laidTests := true, laidLooks := .later }
def PointTimesCardSaid : Prop := Claim7.holds Tryd.pinned (.plain (OpenSpec.ofChange pointTimesSpec)) pointTimesCard

/-- THE TIED CARD OF 'burrowlaw07.PointGroup'. -/
def pointGroupCard : Claim7 := { stood := { row := pointGroupRow, standIns := [], harness := (true, "d1225d870feae036ea2bf7842dfe0c4df420b6395852743ffaf29346ca8983a2"), looks := false }, kinds := [], alts := [], laidByText := true, laidKinds := [.data, .data, .data, .data], laidTests := true, laidLooks := .later }
def PointGroupCardSaid : Prop := Claim7.holds Tryd.pinned (.plain (OpenSpec.ofChange pointGroupSpec)) pointGroupCard

/-- THE TIED CARD OF 'burrowlaw07.PointReduces'. -/
def pointReducesCard : Claim7 := { stood := { row := pointReducesRow, standIns := [], harness := (true, "d1225d870feae036ea2bf7842dfe0c4df420b6395852743ffaf29346ca8983a2"), looks := false }, kinds := [], alts := [], laidByText := true, laidKinds := [.data], laidTests := true, laidLooks := .later }
def PointReducesCardSaid : Prop := Claim7.holds Tryd.pinned (.plain (OpenSpec.ofChange pointReducesSpec)) pointReducesCard

/-- THE TIED CARD OF 'burrowlaw07.PointMuls'. -/
def pointMulsCard : Claim7 := { stood := { row := pointMulsRow, standIns := [], harness := (true, "d1225d870feae036ea2bf7842dfe0c4df420b6395852743ffaf29346ca8983a2"), looks := false }, kinds := [], alts := [], laidByText := true, laidKinds := [.data], laidTests := true, laidLooks := .later }
def PointMulsCardSaid : Prop := Claim7.holds Tryd.pinned (.plain (OpenSpec.ofChange pointMulsSpec)) pointMulsCard

/-- THE TIED CARD OF 'burrowlaw07.PointDoubles'. -/
def pointDoublesCard : Claim7 := { stood := { row := pointDoublesRow, standIns := [], harness := (true, "d1225d870feae036ea2bf7842dfe0c4df420b6395852743ffaf29346ca8983a2"), looks := false }, kinds := [], alts := [], laidByText := true, laidKinds := [.data, .data, .data], laidTests := true, laidLooks := .later }
def PointDoublesCardSaid : Prop := Claim7.holds Tryd.pinned (.plain (OpenSpec.ofChange pointDoublesSpec)) pointDoublesCard

/-- THE SECOND FORM's CARD OF 'burrowlaw07.PointFrom'. -/
def pointFromUptoCard : Claim7 := { stood := { row := pointFromUptoRow, standIns := [], harness := (true, "d1225d870feae036ea2bf7842dfe0c4df420b6395852743ffaf29346ca8983a2"), looks := false }, kinds := [], alts := [], laidByText := true, laidKinds := [.data, .data, .data], laidTests := true, laidLooks := .later }
def PointFromUptoCardSaid : Prop := Claim7.holds Tryd.pinned (.plain (OpenSpec.upto pointFromSpec)) pointFromUptoCard

/-- THE SECOND FORM's CARD OF 'burrowlaw07.PointAdds'. -/
def pointAddsUptoCard : Claim7 := { stood := { row := pointAddsUptoRow, standIns := [], harness := (true, "d1225d870feae036ea2bf7842dfe0c4df420b6395852743ffaf29346ca8983a2"), looks := false }, kinds := [], alts := [], laidByText := true, laidKinds := [.data, .data, .data], laidTests := true, laidLooks := .later }
def PointAddsUptoCardSaid : Prop := Claim7.holds Tryd.pinned (.plain (OpenSpec.upto pointAddsSpec)) pointAddsUptoCard

/-- THE SECOND FORM's CARD OF 'burrowlaw07.PointTimes'. -/
def pointTimesUptoCard : Claim7 := { stood := { row := pointTimesUptoRow, standIns := [], harness := (true, "d1225d870feae036ea2bf7842dfe0c4df420b6395852743ffaf29346ca8983a2"), looks := false }, kinds := [], alts := [], laidByText := true, laidKinds := [.data, .data, .data], laidTests := true, laidLooks := .later }
def PointTimesUptoCardSaid : Prop := Claim7.holds Tryd.pinned (.plain (OpenSpec.upto pointTimesSpec)) pointTimesUptoCard

/-- THE SECOND FORM's CARD OF 'burrowlaw07.PointGroup'. -/
def pointGroupUptoCard : Claim7 := { stood := { row := pointGroupUptoRow, standIns := [], harness := (true, "d1225d870feae036ea2bf7842dfe0c4df420b6395852743ffaf29346ca8983a2"), looks := false }, kinds := [], alts := [], laidByText := true, laidKinds := [.data, .data, .data, .data], laidTests := true, laidLooks := .later }
def PointGroupUptoCardSaid : Prop := Claim7.holds Tryd.pinned (.plain (OpenSpec.upto pointGroupSpec)) pointGroupUptoCard

/-- THE SECOND FORM's CARD OF 'burrowlaw07.PointReduces'. -/
def pointReducesUptoCard : Claim7 := { stood := { row := pointReducesUptoRow, standIns := [], harness := (true, "d1225d870feae036ea2bf7842dfe0c4df420b6395852743ffaf29346ca8983a2"), looks := false }, kinds := [], alts := [], laidByText := true, laidKinds := [.data], laidTests := true, laidLooks := .later }
def PointReducesUptoCardSaid : Prop := Claim7.holds Tryd.pinned (.plain (OpenSpec.upto pointReducesSpec)) pointReducesUptoCard

/-- THE SECOND FORM's CARD OF 'burrowlaw07.PointMuls'. -/
def pointMulsUptoCard : Claim7 := { stood := { row := pointMulsUptoRow, standIns := [], harness := (true, "d1225d870feae036ea2bf7842dfe0c4df420b6395852743ffaf29346ca8983a2"), looks := false }, kinds := [], alts := [], laidByText := true, laidKinds := [.data], laidTests := true, laidLooks := .later }
def PointMulsUptoCardSaid : Prop := Claim7.holds Tryd.pinned (.plain (OpenSpec.upto pointMulsSpec)) pointMulsUptoCard

/-- THE SECOND FORM's CARD OF 'burrowlaw07.PointDoubles'. -/
def pointDoublesUptoCard : Claim7 := { stood := { row := pointDoublesUptoRow, standIns := [], harness := (true, "d1225d870feae036ea2bf7842dfe0c4df420b6395852743ffaf29346ca8983a2"), looks := false }, kinds := [], alts := [], laidByText := true, laidKinds := [.data, .data, .data], laidTests := true, laidLooks := .later }
def PointDoublesUptoCardSaid : Prop := Claim7.holds Tryd.pinned (.plain (OpenSpec.upto pointDoublesSpec)) pointDoublesUptoCard
end Rows
end Go.Proofs.YtaojnmjmmfdfjaaDoor
