/-
  DERIVED. GIVEN WITH THE SEED: THE CARDS: each row of YtoiendjhplbjjaaDoorRows.lean that lists a variable, with what it lists TIED to the program's text (the seventh form; the later family's looks); each row that meets fmt, with fmt's text TOLD by the authors' own Lean function (tested against real Go, not proved from fmt's source: count such statements apart). THE CARD IS WHAT COUNTS. Prove the row's statement (the work); the ties are given (YtoiendjhplbjjaaDoorTie.lean); close each card by the builder's one call (the guide's Derived/Test/ToyasCard.lean, 'card_holds'). Laid BY PROGRAM, IN A SANDBOX (cutbox-door.mjs). By AI agents, Wed Nov 11 2026. No macro, syntax, notation, axiom, sorry.
-/
import Derived.Test.YtoiendjhplbjjaaDoorRows
import GoSem.ClaimSeven
namespace Go.Proofs.YtoiendjhplbjjaaDoor
namespace Rows

/-- THE TIED CARD OF 'burrowlaw10.CipherHides'. -/
def cipherHidesCard : Claim7 := { stood := { row := cipherHidesRow, standIns := [], harness := (true, "9dd225653f826da7e3d3fae99603684099cad314a0b570e030e926c021089195"), looks := true }, kinds := [], alts := [], laidByText := true, laidKinds := [.data, .data, .data, .data], laidTests := true, laidLooks := .later }
def CipherHidesCardSaid : Prop := Claim7.holds Tryd.pinned (.plain (OpenSpec.ofChange cipherHidesSpec)) cipherHidesCard

/-- THE TIED CARD OF 'burrowlaw10.CipherBoth'. -/
def cipherBothCard : Claim7 := { stood := { row := cipherBothRow, standIns := [], harness := (true, "9dd225653f826da7e3d3fae99603684099cad314a0b570e030e926c021089195"), looks := true }, kinds := [], alts := [], laidByText := true, laidKinds := [.data, .data, .data, .data], laidTests := true, laidLooks := .later }
def CipherBothCardSaid : Prop := Claim7.holds Tryd.pinned (.plain (OpenSpec.ofChange cipherBothSpec)) cipherBothCard

/-- THE TIED CARD OF 'burrowlaw10.CipherNone'. -/
def cipherNoneCard : Claim7 := { stood := { row := cipherNoneRow, standIns := [], harness := (true, "9dd225653f826da7e3d3fae99603684099cad314a0b570e030e926c021089195"), looks := true }, kinds := [], alts := [], laidByText := true, laidKinds := [.data, .data, .data, .data], laidTests := true, laidLooks := .later }
def CipherNoneCardSaid : Prop := Claim7.holds Tryd.pinned (.plain (OpenSpec.ofChange cipherNoneSpec)) cipherNoneCard

/-- THE TIED CARD OF 'burrowlaw12.LinkPlays'. -/
def linkPlaysCard : Claim7 := { stood := { row := linkPlaysRow, standIns := [], harness := (true, "9dd225653f826da7e3d3fae99603684099cad314a0b570e030e926c021089195"), looks := true }, kinds := [], alts := [], laidByText := true, laidKinds := [.data, .data], laidTests := true, laidLooks := .later }
def LinkPlaysCardSaid : Prop := Claim7.holds Tryd.pinned (.plain (OpenSpec.ofChange linkPlaysSpec)) linkPlaysCard

/-- THE TIED CARD OF 'burrowlaw12.LinkAll'. -/
def linkAllCard : Claim7 := { stood := { row := linkAllRow, standIns := [], harness := (true, "9dd225653f826da7e3d3fae99603684099cad314a0b570e030e926c021089195"), looks := true }, kinds := [], alts := [], laidByText := true, laidKinds := [.data, .data], laidTests := true, laidLooks := .later }
def LinkAllCardSaid : Prop := Claim7.holds Tryd.pinned (.plain (OpenSpec.ofChange linkAllSpec)) linkAllCard

/-- THE TIED CARD OF 'burrowlaw12.LinkNone'. -/
def linkNoneCard : Claim7 := { stood := { row := linkNoneRow, standIns := [], harness := (true, "9dd225653f826da7e3d3fae99603684099cad314a0b570e030e926c021089195"), looks := true }, kinds := [], alts := [], laidByText := true, laidKinds := [.data, .data], laidTests := true, laidLooks := .later }
def LinkNoneCardSaid : Prop := Claim7.holds Tryd.pinned (.plain (OpenSpec.ofChange linkNoneSpec)) linkNoneCard

/-- THE TIED CARD OF 'burrowlaw12.LinkBoth'. -/
def linkBothCard : Claim7 := { stood := { row := linkBothRow, standIns := [], harness := (true, "9dd225653f826da7e3d3fae99603684099cad314a0b570e030e926c021089195"), looks := true }, kinds := [], alts := [], laidByText := true, laidKinds := [.data, .data], laidTests := true, laidLooks := .later }
def LinkBothCardSaid : Prop := Claim7.holds Tryd.pinned (.plain (OpenSpec.ofChange linkBothSpec)) linkBothCard

/-- THE TIED CARD OF 'burrowlaw19.ChainPlays'. -/
def chainPlaysCard : Claim7 := { stood := { row := chainPlaysRow, standIns := [], harness := (true, "9dd225653f826da7e3d3fae99603684099cad314a0b570e030e926c021089195"), looks := true }, kinds := [], alts := [], laidByText := true, laidKinds := [.data, .data, .data], laidTests := true, laidLooks := .later }
def ChainPlaysCardSaid : Prop := Claim7.holds Tryd.pinned (.plain (OpenSpec.ofChange chainPlaysSpec)) chainPlaysCard

/-- THE TIED CARD OF 'burrowlaw19.ChainOnce'. -/
def chainOnceCard : Claim7 := { stood := { row := chainOnceRow, standIns := [], harness := (true, "9dd225653f826da7e3d3fae99603684099cad314a0b570e030e926c021089195"), looks := true }, kinds := [], alts := [], laidByText := true, laidKinds := [.data, .data, .data], laidTests := true, laidLooks := .later }
def ChainOnceCardSaid : Prop := Claim7.holds Tryd.pinned (.plain (OpenSpec.ofChange chainOnceSpec)) chainOnceCard

/-- THE TIED CARD OF 'burrowlaw19.ChainNone'. -/
def chainNoneCard : Claim7 := { stood := { row := chainNoneRow, standIns := [], harness := (true, "9dd225653f826da7e3d3fae99603684099cad314a0b570e030e926c021089195"), looks := true }, kinds := [], alts := [], laidByText := true, laidKinds := [.data, .data, .data], laidTests := true, laidLooks := .later }
def ChainNoneCardSaid : Prop := Claim7.holds Tryd.pinned (.plain (OpenSpec.ofChange chainNoneSpec)) chainNoneCard

/-- THE TIED CARD OF 'burrowlaw19.ChainLinks'. -/
def chainLinksCard : Claim7 := { stood := { row := chainLinksRow, standIns := [], harness := (true, "9dd225653f826da7e3d3fae99603684099cad314a0b570e030e926c021089195"), looks := true }, kinds := [], alts := [], laidByText := true, laidKinds := [.data, .data, .data], laidTests := true, laidLooks := .later }
def ChainLinksCardSaid : Prop := Claim7.holds Tryd.pinned (.plain (OpenSpec.ofChange chainLinksSpec)) chainLinksCard

/-- THE TIED CARD OF 'burrowlaw19.ChainErases'. -/
def chainErasesCard : Claim7 := { stood := { row := chainErasesRow, standIns := [], harness := (true, "9dd225653f826da7e3d3fae99603684099cad314a0b570e030e926c021089195"), looks := true }, kinds := [], alts := [], laidByText := true, laidKinds := [.data, .data, .data], laidTests := true, laidLooks := .later }
def ChainErasesCardSaid : Prop := Claim7.holds Tryd.pinned (.plain (OpenSpec.ofChange chainErasesSpec)) chainErasesCard

/-- THE SECOND FORM's CARD OF 'burrowlaw10.CipherHides'. -/
def cipherHidesUptoCard : Claim7 := { stood := { row := cipherHidesUptoRow, standIns := [], harness := (true, "9dd225653f826da7e3d3fae99603684099cad314a0b570e030e926c021089195"), looks := true }, kinds := [], alts := [], laidByText := true, laidKinds := [.data, .data, .data, .data], laidTests := true, laidLooks := .later }
def CipherHidesUptoCardSaid : Prop := Claim7.holds Tryd.pinned (.plain (OpenSpec.upto cipherHidesSpec)) cipherHidesUptoCard

/-- THE SECOND FORM's CARD OF 'burrowlaw10.CipherBoth'. -/
def cipherBothUptoCard : Claim7 := { stood := { row := cipherBothUptoRow, standIns := [], harness := (true, "9dd225653f826da7e3d3fae99603684099cad314a0b570e030e926c021089195"), looks := true }, kinds := [], alts := [], laidByText := true, laidKinds := [.data, .data, .data, .data], laidTests := true, laidLooks := .later }
def CipherBothUptoCardSaid : Prop := Claim7.holds Tryd.pinned (.plain (OpenSpec.upto cipherBothSpec)) cipherBothUptoCard

/-- THE SECOND FORM's CARD OF 'burrowlaw10.CipherNone'. -/
def cipherNoneUptoCard : Claim7 := { stood := { row := cipherNoneUptoRow, standIns := [], harness := (true, "9dd225653f826da7e3d3fae99603684099cad314a0b570e030e926c021089195"), looks := true }, kinds := [], alts := [], laidByText := true, laidKinds := [.data, .data, .data, .data], laidTests := true, laidLooks := .later }
def CipherNoneUptoCardSaid : Prop := Claim7.holds Tryd.pinned (.plain (OpenSpec.upto cipherNoneSpec)) cipherNoneUptoCard

/-- THE SECOND FORM's CARD OF 'burrowlaw12.LinkPlays'. -/
def linkPlaysUptoCard : Claim7 := { stood := { row := linkPlaysUptoRow, standIns := [], harness := (true, "9dd225653f826da7e3d3fae99603684099cad314a0b570e030e926c021089195"), looks := true }, kinds := [], alts := [], laidByText := true, laidKinds := [.data, .data], laidTests := true, laidLooks := .later }
def LinkPlaysUptoCardSaid : Prop := Claim7.holds Tryd.pinned (.plain (OpenSpec.upto linkPlaysSpec)) linkPlaysUptoCard

/-- THE SECOND FORM's CARD OF 'burrowlaw12.LinkAll'. -/
def linkAllUptoCard : Claim7 := { stood := { row := linkAllUptoRow, standIns := [], harness := (true, "9dd225653f826da7e3d3fae99603684099cad314a0b570e030e926c021089195"), looks := true }, kinds := [], alts := [], laidByText := true, laidKinds := [.data, .data], laidTests := true, laidLooks := .later }
def LinkAllUptoCardSaid : Prop := Claim7.holds Tryd.pinned (.plain (OpenSpec.upto linkAllSpec)) linkAllUptoCard

/-- THE SECOND FORM's CARD OF 'burrowlaw12.LinkNone'. -/
def linkNoneUptoCard : Claim7 := { stood := { row := linkNoneUptoRow, standIns := [], harness := (true, "9dd225653f826da7e3d3fae99603684099cad314a0b570e030e926c021089195"), looks := true }, kinds := [], alts := [], laidByText := true, laidKinds := [.data, .data], laidTests := true, laidLooks := .later }
def LinkNoneUptoCardSaid : Prop := Claim7.holds Tryd.pinned (.plain (OpenSpec.upto linkNoneSpec)) linkNoneUptoCard

/-- THE SECOND FORM's CARD OF 'burrowlaw12.LinkBoth'. -/
def linkBothUptoCard : Claim7 := { stood := { row := linkBothUptoRow, standIns := [], harness := (true, "9dd225653f826da7e3d3fae99603684099cad314a0b570e030e926c021089195"), looks := true }, kinds := [], alts := [], laidByText := true, laidKinds := [.data, .data], laidTests := true, laidLooks := .later }
def LinkBothUptoCardSaid : Prop := Claim7.holds Tryd.pinned (.plain (OpenSpec.upto linkBothSpec)) linkBothUptoCard

/-- THE SECOND FORM's CARD OF 'burrowlaw19.ChainPlays'. -/
def chainPlaysUptoCard : Claim7 := { stood := { row := chainPlaysUptoRow, standIns := [], harness := (true, "9dd225653f826da7e3d3fae99603684099cad314a0b570e030e926c021089195"), looks := true }, kinds := [], alts := [], laidByText := true, laidKinds := [.data, .data, .data], laidTests := true, laidLooks := .later }
def ChainPlaysUptoCardSaid : Prop := Claim7.holds Tryd.pinned (.plain (OpenSpec.upto chainPlaysSpec)) chainPlaysUptoCard

/-- THE SECOND FORM's CARD OF 'burrowlaw19.ChainOnce'. -/
def chainOnceUptoCard : Claim7 := { stood := { row := chainOnceUptoRow, standIns := [], harness := (true, "9dd225653f826da7e3d3fae99603684099cad314a0b570e030e926c021089195"), looks := true }, kinds := [], alts := [], laidByText := true, laidKinds := [.data, .data, .data], laidTests := true, laidLooks := .later }
def ChainOnceUptoCardSaid : Prop := Claim7.holds Tryd.pinned (.plain (OpenSpec.upto chainOnceSpec)) chainOnceUptoCard

/-- THE SECOND FORM's CARD OF 'burrowlaw19.ChainNone'. -/
def chainNoneUptoCard : Claim7 := { stood := { row := chainNoneUptoRow, standIns := [], harness := (true, "9dd225653f826da7e3d3fae99603684099cad314a0b570e030e926c021089195"), looks := true }, kinds := [], alts := [], laidByText := true, laidKinds := [.data, .data, .data], laidTests := true, laidLooks := .later }
def ChainNoneUptoCardSaid : Prop := Claim7.holds Tryd.pinned (.plain (OpenSpec.upto chainNoneSpec)) chainNoneUptoCard

/-- THE SECOND FORM's CARD OF 'burrowlaw19.ChainLinks'. -/
def chainLinksUptoCard : Claim7 := { stood := { row := chainLinksUptoRow, standIns := [], harness := (true, "9dd225653f826da7e3d3fae99603684099cad314a0b570e030e926c021089195"), looks := true }, kinds := [], alts := [], laidByText := true, laidKinds := [.data, .data, .data], laidTests := true, laidLooks := .later }
def ChainLinksUptoCardSaid : Prop := Claim7.holds Tryd.pinned (.plain (OpenSpec.upto chainLinksSpec)) chainLinksUptoCard

/-- THE SECOND FORM's CARD OF 'burrowlaw19.ChainErases'. -/
def chainErasesUptoCard : Claim7 := { stood := { row := chainErasesUptoRow, standIns := [], harness := (true, "9dd225653f826da7e3d3fae99603684099cad314a0b570e030e926c021089195"), looks := true }, kinds := [], alts := [], laidByText := true, laidKinds := [.data, .data, .data], laidTests := true, laidLooks := .later }
def ChainErasesUptoCardSaid : Prop := Claim7.holds Tryd.pinned (.plain (OpenSpec.upto chainErasesSpec)) chainErasesUptoCard
end Rows
end Go.Proofs.YtoiendjhplbjjaaDoor
