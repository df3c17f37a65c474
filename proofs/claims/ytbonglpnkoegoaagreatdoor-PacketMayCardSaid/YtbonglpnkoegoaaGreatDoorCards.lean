/-
  DERIVED. GIVEN WITH THE SEED: THE CARDS: each row of YtbonglpnkoegoaaGreatDoorRows.lean that lists a variable, with what it lists TIED to the program's text (the seventh form; the later family's looks); each row that meets fmt, with fmt's text TOLD by the authors' own Lean function (tested against real Go, not proved from fmt's source: count such statements apart). THE CARD IS WHAT COUNTS. Prove the row's statement (the work); the ties are given (YtbonglpnkoegoaaGreatDoorTie.lean); close each card by the builder's one call (the guide's Derived/Test/ToyasCard.lean, 'card_holds'). Laid BY PROGRAM, IN A SANDBOX (cutbox-door.mjs). By AI agents, Wed Nov 11 2026. No macro, syntax, notation, axiom, sorry.
-/
import Derived.Test.YtbonglpnkoegoaaGreatDoorRows
import GoSem.ClaimSeven
namespace Go.Proofs.YtbonglpnkoegoaaGreatDoor
namespace Rows

/-- THE TIED CARD OF 'burrowlaw23.PacketMay'. -/
def packetMayCard : Claim7 := { stood := { row := packetMayRow, standIns := [], harness := (true, "ca0e5413b5f84ab626ff913ac54172b67f6c486a85c8754db6e55e70fc8f6849"), looks := true }, kinds := [], alts := [], laidByText := true, laidKinds := [.data, .data, .data, .data, .data], laidTests := true, laidLooks := .later }
def PacketMayCardSaid : Prop := Claim7.holds Tryz.pinned (.plain (OpenSpec.ofChange packetMaySpec)) packetMayCard

/-- THE SECOND FORM's CARD OF 'burrowlaw23.PacketMay'. -/
def packetMayUptoCard : Claim7 := { stood := { row := packetMayUptoRow, standIns := [], harness := (true, "ca0e5413b5f84ab626ff913ac54172b67f6c486a85c8754db6e55e70fc8f6849"), looks := true }, kinds := [], alts := [], laidByText := true, laidKinds := [.data, .data, .data, .data, .data], laidTests := true, laidLooks := .later }
def PacketMayUptoCardSaid : Prop := Claim7.holds Tryz.pinned (.plain (OpenSpec.upto packetMaySpec)) packetMayUptoCard
end Rows
end Go.Proofs.YtbonglpnkoegoaaGreatDoor
