/-
  DERIVED. GIVEN WITH THE SEED: THE CARDS: each row of YtioglfpngaddfaaDoorRows.lean that lists a variable, with what it lists TIED to the program's text (the seventh form; the later family's looks); each row that meets fmt, with fmt's text TOLD by the authors' own Lean function (tested against real Go, not proved from fmt's source: count such statements apart). THE CARD IS WHAT COUNTS. Prove the row's statement (the work); the ties are given (YtioglfpngaddfaaDoorTie.lean); close each card by the builder's one call (the guide's Derived/Test/ToyasCard.lean, 'card_holds'). Laid BY PROGRAM, IN A SANDBOX (cutbox-door.mjs). By AI agents, Wed Nov 11 2026. No macro, syntax, notation, axiom, sorry.
-/
import Derived.Test.YtioglfpngaddfaaDoorRows
import GoSem.ClaimSeven
namespace Go.Proofs.YtioglfpngaddfaaDoor
namespace Rows

/-- THE TIED CARD OF 'burrowlaw23.PacketOnce'. -/
def packetOnceCard : Claim7 := { stood := { row := packetOnceRow, standIns := [], harness := (true, "879bd9c98c7e403ddc067e1b2cb7df8bce50f04837ff42334fe5bedd4ccbd629"), looks := true }, kinds := [], alts := [], laidByText := true, laidKinds := [.data, .data, .data, .data, .data], laidTests := true, laidLooks := .later }
def PacketOnceCardSaid : Prop := Claim7.holds Tryd.pinned (.plain (OpenSpec.ofChange packetOnceSpec)) packetOnceCard

/-- THE TIED CARD OF 'burrowlaw23.PacketNone'. -/
def packetNoneCard : Claim7 := { stood := { row := packetNoneRow, standIns := [], harness := (true, "879bd9c98c7e403ddc067e1b2cb7df8bce50f04837ff42334fe5bedd4ccbd629"), looks := true }, kinds := [], alts := [], laidByText := true, laidKinds := [.data, .data, .data, .data, .data], laidTests := true, laidLooks := .later }
def PacketNoneCardSaid : Prop := Claim7.holds Tryd.pinned (.plain (OpenSpec.ofChange packetNoneSpec)) packetNoneCard

/-- THE SECOND FORM's CARD OF 'burrowlaw23.PacketOnce'. -/
def packetOnceUptoCard : Claim7 := { stood := { row := packetOnceUptoRow, standIns := [], harness := (true, "879bd9c98c7e403ddc067e1b2cb7df8bce50f04837ff42334fe5bedd4ccbd629"), looks := true }, kinds := [], alts := [], laidByText := true, laidKinds := [.data, .data, .data, .data, .data], laidTests := true, laidLooks := .later }
def PacketOnceUptoCardSaid : Prop := Claim7.holds Tryd.pinned (.plain (OpenSpec.upto packetOnceSpec)) packetOnceUptoCard

/-- THE SECOND FORM's CARD OF 'burrowlaw23.PacketNone'. -/
def packetNoneUptoCard : Claim7 := { stood := { row := packetNoneUptoRow, standIns := [], harness := (true, "879bd9c98c7e403ddc067e1b2cb7df8bce50f04837ff42334fe5bedd4ccbd629"), looks := true }, kinds := [], alts := [], laidByText := true, laidKinds := [.data, .data, .data, .data, .data], laidTests := true, laidLooks := .later }
def PacketNoneUptoCardSaid : Prop := Claim7.holds Tryd.pinned (.plain (OpenSpec.upto packetNoneSpec)) packetNoneUptoCard
end Rows
end Go.Proofs.YtioglfpngaddfaaDoor
