/-
  DERIVED. GIVEN WITH THE SEED: THE CARDS: each row of YtfkldohjeepbkaaDoorRows.lean that lists a variable, with what it lists TIED to the program's text (the seventh form; the later family's looks); each row that meets fmt, with fmt's text TOLD by the authors' own Lean function (tested against real Go, not proved from fmt's source: count such statements apart). THE CARD IS WHAT COUNTS. Prove the row's statement (the work); the ties are given (YtfkldohjeepbkaaDoorTie.lean); close each card by the builder's one call (the guide's Derived/Test/ToyasCard.lean, 'card_holds'). Laid BY PROGRAM, IN A SANDBOX (cutbox-door.mjs). By AI agents, Wed Nov 11 2026. No macro, syntax, notation, axiom, sorry.
-/
import Derived.Test.YtfkldohjeepbkaaDoorRows
import GoSem.ClaimSeven
namespace Go.Proofs.YtfkldohjeepbkaaDoor
namespace Rows

/-- THE TIED CARD OF 'burrowlaw04.AeadMarks'. -/
def aeadMarksCard : Claim7 := { stood := { row := aeadMarksRow, standIns := [], harness := (true, "8a2480bb2858b595ae8568e89e138be66dd8e66abd4f5d0c426b15ec5890cc8b"), looks := true }, kinds := [], alts := [], laidByText := true, laidKinds := [.data, .data], laidTests := true, laidLooks := .later }
def AeadMarksCardSaid : Prop := Claim7.holds Tryd.pinned (.plain (OpenSpec.ofChange aeadMarksSpec)) aeadMarksCard

/-- THE TIED CARD OF 'burrowlaw04.AeadSeals'. -/
def aeadSealsCard : Claim7 := { stood := { row := aeadSealsRow, standIns := [], harness := (true, "8a2480bb2858b595ae8568e89e138be66dd8e66abd4f5d0c426b15ec5890cc8b"), looks := true }, kinds := [], alts := [], laidByText := true, laidKinds := [.data, .data], laidTests := true, laidLooks := .later }
def AeadSealsCardSaid : Prop := Claim7.holds Tryd.pinned (.plain (OpenSpec.ofChange aeadSealsSpec)) aeadSealsCard

/-- THE TIED CARD OF 'burrowlaw04.AeadOpens'. -/
def aeadOpensCard : Claim7 := { stood := { row := aeadOpensRow, standIns := [], harness := (true, "8a2480bb2858b595ae8568e89e138be66dd8e66abd4f5d0c426b15ec5890cc8b"), looks := true }, kinds := [], alts := [], laidByText := true, laidKinds := [.data, .data], laidTests := true, laidLooks := .later }
def AeadOpensCardSaid : Prop := Claim7.holds Tryd.pinned (.plain (OpenSpec.ofChange aeadOpensSpec)) aeadOpensCard

/-- THE TIED CARD OF 'burrowlaw04.AeadBack'. -/
def aeadBackCard : Claim7 := { stood := { row := aeadBackRow, standIns := [], harness := (true, "8a2480bb2858b595ae8568e89e138be66dd8e66abd4f5d0c426b15ec5890cc8b"), looks := true }, kinds := [], alts := [], laidByText := true, laidKinds := [.data, .data], laidTests := true, laidLooks := .later }
def AeadBackCardSaid : Prop := Claim7.holds Tryd.pinned (.plain (OpenSpec.ofChange aeadBackSpec)) aeadBackCard

/-- THE TIED CARD OF 'burrowlaw04.AeadSpoilt'. -/
def aeadSpoiltCard : Claim7 := { stood := { row := aeadSpoiltRow, standIns := [], harness := (true, "8a2480bb2858b595ae8568e89e138be66dd8e66abd4f5d0c426b15ec5890cc8b"), looks := true }, kinds := [], alts := [], laidByText := true, laidKinds := [.data, .data], laidTests := true, laidLooks := .later }
def AeadSpoiltCardSaid : Prop := Claim7.holds Tryd.pinned (.plain (OpenSpec.ofChange aeadSpoiltSpec)) aeadSpoiltCard

/-- THE TIED CARD OF 'burrowlaw04.AeadCuts'. -/
def aeadCutsCard : Claim7 := { stood := { row := aeadCutsRow, standIns := [], harness := (true, "8a2480bb2858b595ae8568e89e138be66dd8e66abd4f5d0c426b15ec5890cc8b"), looks := true }, kinds := [], alts := [], laidByText := true, laidKinds := [.data, .data], laidTests := true, laidLooks := .later }
def AeadCutsCardSaid : Prop := Claim7.holds Tryd.pinned (.plain (OpenSpec.ofChange aeadCutsSpec)) aeadCutsCard

/-- THE TIED CARD OF 'burrowlaw10.CipherHides'. -/
def cipherHidesCard : Claim7 := { stood := { row := cipherHidesRow, standIns := [], harness := (true, "8a2480bb2858b595ae8568e89e138be66dd8e66abd4f5d0c426b15ec5890cc8b"), looks := true }, kinds := [], alts := [], laidByText := true, laidKinds := [.data, .data, .data, .data], laidTests := true, laidLooks := .later }
def CipherHidesCardSaid : Prop := Claim7.holds Tryd.pinned (.plain (OpenSpec.ofChange cipherHidesSpec)) cipherHidesCard

/-- THE TIED CARD OF 'burrowlaw10.CipherBoth'. -/
def cipherBothCard : Claim7 := { stood := { row := cipherBothRow, standIns := [], harness := (true, "8a2480bb2858b595ae8568e89e138be66dd8e66abd4f5d0c426b15ec5890cc8b"), looks := true }, kinds := [], alts := [], laidByText := true, laidKinds := [.data, .data, .data, .data], laidTests := true, laidLooks := .later }
def CipherBothCardSaid : Prop := Claim7.holds Tryd.pinned (.plain (OpenSpec.ofChange cipherBothSpec)) cipherBothCard

/-- THE TIED CARD OF 'burrowlaw10.CipherNone'. -/
def cipherNoneCard : Claim7 := { stood := { row := cipherNoneRow, standIns := [], harness := (true, "8a2480bb2858b595ae8568e89e138be66dd8e66abd4f5d0c426b15ec5890cc8b"), looks := true }, kinds := [], alts := [], laidByText := true, laidKinds := [.data, .data, .data, .data], laidTests := true, laidLooks := .later }
def CipherNoneCardSaid : Prop := Claim7.holds Tryd.pinned (.plain (OpenSpec.ofChange cipherNoneSpec)) cipherNoneCard

/-- THE TIED CARD OF 'burrowlaw12.LinkPlays'. -/
def linkPlaysCard : Claim7 := { stood := { row := linkPlaysRow, standIns := [], harness := (true, "8a2480bb2858b595ae8568e89e138be66dd8e66abd4f5d0c426b15ec5890cc8b"), looks := true }, kinds := [], alts := [], laidByText := true, laidKinds := [.data, .data], laidTests := true, laidLooks := .later }
def LinkPlaysCardSaid : Prop := Claim7.holds Tryd.pinned (.plain (OpenSpec.ofChange linkPlaysSpec)) linkPlaysCard

/-- THE TIED CARD OF 'burrowlaw12.LinkAll'. -/
def linkAllCard : Claim7 := { stood := { row := linkAllRow, standIns := [], harness := (true, "8a2480bb2858b595ae8568e89e138be66dd8e66abd4f5d0c426b15ec5890cc8b"), looks := true }, kinds := [], alts := [], laidByText := true, laidKinds := [.data, .data], laidTests := true, laidLooks := .later }
def LinkAllCardSaid : Prop := Claim7.holds Tryd.pinned (.plain (OpenSpec.ofChange linkAllSpec)) linkAllCard

/-- THE TIED CARD OF 'burrowlaw12.LinkNone'. -/
def linkNoneCard : Claim7 := { stood := { row := linkNoneRow, standIns := [], harness := (true, "8a2480bb2858b595ae8568e89e138be66dd8e66abd4f5d0c426b15ec5890cc8b"), looks := true }, kinds := [], alts := [], laidByText := true, laidKinds := [.data, .data], laidTests := true, laidLooks := .later }
def LinkNoneCardSaid : Prop := Claim7.holds Tryd.pinned (.plain (OpenSpec.ofChange linkNoneSpec)) linkNoneCard

/-- THE TIED CARD OF 'burrowlaw12.LinkBoth'. -/
def linkBothCard : Claim7 := { stood := { row := linkBothRow, standIns := [], harness := (true, "8a2480bb2858b595ae8568e89e138be66dd8e66abd4f5d0c426b15ec5890cc8b"), looks := true }, kinds := [], alts := [], laidByText := true, laidKinds := [.data, .data], laidTests := true, laidLooks := .later }
def LinkBothCardSaid : Prop := Claim7.holds Tryd.pinned (.plain (OpenSpec.ofChange linkBothSpec)) linkBothCard

/-- THE TIED CARD OF 'burrowlaw19.ChainPlays'. -/
def chainPlaysCard : Claim7 := { stood := { row := chainPlaysRow, standIns := [], harness := (true, "8a2480bb2858b595ae8568e89e138be66dd8e66abd4f5d0c426b15ec5890cc8b"), looks := true }, kinds := [], alts := [], laidByText := true, laidKinds := [.data, .data, .data], laidTests := true, laidLooks := .later }
def ChainPlaysCardSaid : Prop := Claim7.holds Tryd.pinned (.plain (OpenSpec.ofChange chainPlaysSpec)) chainPlaysCard

/-- THE TIED CARD OF 'burrowlaw19.ChainOnce'. -/
def chainOnceCard : Claim7 := { stood := { row := chainOnceRow, standIns := [], harness := (true, "8a2480bb2858b595ae8568e89e138be66dd8e66abd4f5d0c426b15ec5890cc8b"), looks := true }, kinds := [], alts := [], laidByText := true, laidKinds := [.data, .data, .data], laidTests := true, laidLooks := .later }
def ChainOnceCardSaid : Prop := Claim7.holds Tryd.pinned (.plain (OpenSpec.ofChange chainOnceSpec)) chainOnceCard

/-- THE TIED CARD OF 'burrowlaw19.ChainNone'. -/
def chainNoneCard : Claim7 := { stood := { row := chainNoneRow, standIns := [], harness := (true, "8a2480bb2858b595ae8568e89e138be66dd8e66abd4f5d0c426b15ec5890cc8b"), looks := true }, kinds := [], alts := [], laidByText := true, laidKinds := [.data, .data, .data], laidTests := true, laidLooks := .later }
def ChainNoneCardSaid : Prop := Claim7.holds Tryd.pinned (.plain (OpenSpec.ofChange chainNoneSpec)) chainNoneCard

/-- THE TIED CARD OF 'burrowlaw19.ChainLinks'. -/
def chainLinksCard : Claim7 := { stood := { row := chainLinksRow, standIns := [], harness := (true, "8a2480bb2858b595ae8568e89e138be66dd8e66abd4f5d0c426b15ec5890cc8b"), looks := true }, kinds := [], alts := [], laidByText := true, laidKinds := [.data, .data, .data], laidTests := true, laidLooks := .later }
def ChainLinksCardSaid : Prop := Claim7.holds Tryd.pinned (.plain (OpenSpec.ofChange chainLinksSpec)) chainLinksCard

/-- THE TIED CARD OF 'burrowlaw19.ChainErases'. -/
def chainErasesCard : Claim7 := { stood := { row := chainErasesRow, standIns := [], harness := (true, "8a2480bb2858b595ae8568e89e138be66dd8e66abd4f5d0c426b15ec5890cc8b"), looks := true }, kinds := [], alts := [], laidByText := true, laidKinds := [.data, .data, .data], laidTests := true, laidLooks := .later }
def ChainErasesCardSaid : Prop := Claim7.holds Tryd.pinned (.plain (OpenSpec.ofChange chainErasesSpec)) chainErasesCard

/-- THE SECOND FORM's CARD OF 'burrowlaw04.AeadMarks'. -/
def aeadMarksUptoCard : Claim7 := { stood := { row := aeadMarksUptoRow, standIns := [], harness := (true, "8a2480bb2858b595ae8568e89e138be66dd8e66abd4f5d0c426b15ec5890cc8b"), looks := true }, kinds := [], alts := [], laidByText := true, laidKinds := [.data, .data], laidTests := true, laidLooks := .later }
def AeadMarksUptoCardSaid : Prop := Claim7.holds Tryd.pinned (.plain (OpenSpec.upto aeadMarksSpec)) aeadMarksUptoCard

/-- THE SECOND FORM's CARD OF 'burrowlaw04.AeadSeals'. -/
def aeadSealsUptoCard : Claim7 := { stood := { row := aeadSealsUptoRow, standIns := [], harness := (true, "8a2480bb2858b595ae8568e89e138be66dd8e66abd4f5d0c426b15ec5890cc8b"), looks := true }, kinds := [], alts := [], laidByText := true, laidKinds := [.data, .data], laidTests := true, laidLooks := .later }
def AeadSealsUptoCardSaid : Prop := Claim7.holds Tryd.pinned (.plain (OpenSpec.upto aeadSealsSpec)) aeadSealsUptoCard

/-- THE SECOND FORM's CARD OF 'burrowlaw04.AeadOpens'. -/
def aeadOpensUptoCard : Claim7 := { stood := { row := aeadOpensUptoRow, standIns := [], harness := (true, "8a2480bb2858b595ae8568e89e138be66dd8e66abd4f5d0c426b15ec5890cc8b"), looks := true }, kinds := [], alts := [], laidByText := true, laidKinds := [.data, .data], laidTests := true, laidLooks := .later }
def AeadOpensUptoCardSaid : Prop := Claim7.holds Tryd.pinned (.plain (OpenSpec.upto aeadOpensSpec)) aeadOpensUptoCard

/-- THE SECOND FORM's CARD OF 'burrowlaw04.AeadBack'. -/
def aeadBackUptoCard : Claim7 := { stood := { row := aeadBackUptoRow, standIns := [], harness := (true, "8a2480bb2858b595ae8568e89e138be66dd8e66abd4f5d0c426b15ec5890cc8b"), looks := true }, kinds := [], alts := [], laidByText := true, laidKinds := [.data, .data], laidTests := true, laidLooks := .later }
def AeadBackUptoCardSaid : Prop := Claim7.holds Tryd.pinned (.plain (OpenSpec.upto aeadBackSpec)) aeadBackUptoCard

/-- THE SECOND FORM's CARD OF 'burrowlaw04.AeadSpoilt'. -/
def aeadSpoiltUptoCard : Claim7 := { stood := { row := aeadSpoiltUptoRow, standIns := [], harness := (true, "8a2480bb2858b595ae8568e89e138be66dd8e66abd4f5d0c426b15ec5890cc8b"), looks := true }, kinds := [], alts := [], laidByText := true, laidKinds := [.data, .data], laidTests := true, laidLooks := .later }
def AeadSpoiltUptoCardSaid : Prop := Claim7.holds Tryd.pinned (.plain (OpenSpec.upto aeadSpoiltSpec)) aeadSpoiltUptoCard

/-- THE SECOND FORM's CARD OF 'burrowlaw04.AeadCuts'. -/
def aeadCutsUptoCard : Claim7 := { stood := { row := aeadCutsUptoRow, standIns := [], harness := (true, "8a2480bb2858b595ae8568e89e138be66dd8e66abd4f5d0c426b15ec5890cc8b"), looks := true }, kinds := [], alts := [], laidByText := true, laidKinds := [.data, .data], laidTests := true, laidLooks := .later }
def AeadCutsUptoCardSaid : Prop := Claim7.holds Tryd.pinned (.plain (OpenSpec.upto aeadCutsSpec)) aeadCutsUptoCard

/-- THE SECOND FORM's CARD OF 'burrowlaw10.CipherHides'. -/
def cipherHidesUptoCard : Claim7 := { stood := { row := cipherHidesUptoRow, standIns := [], harness := (true, "8a2480bb2858b595ae8568e89e138be66dd8e66abd4f5d0c426b15ec5890cc8b"), looks := true }, kinds := [], alts := [], laidByText := true, laidKinds := [.data, .data, .data, .data], laidTests := true, laidLooks := .later }
def CipherHidesUptoCardSaid : Prop := Claim7.holds Tryd.pinned (.plain (OpenSpec.upto cipherHidesSpec)) cipherHidesUptoCard

/-- THE SECOND FORM's CARD OF 'burrowlaw10.CipherBoth'. -/
def cipherBothUptoCard : Claim7 := { stood := { row := cipherBothUptoRow, standIns := [], harness := (true, "8a2480bb2858b595ae8568e89e138be66dd8e66abd4f5d0c426b15ec5890cc8b"), looks := true }, kinds := [], alts := [], laidByText := true, laidKinds := [.data, .data, .data, .data], laidTests := true, laidLooks := .later }
def CipherBothUptoCardSaid : Prop := Claim7.holds Tryd.pinned (.plain (OpenSpec.upto cipherBothSpec)) cipherBothUptoCard

/-- THE SECOND FORM's CARD OF 'burrowlaw10.CipherNone'. -/
def cipherNoneUptoCard : Claim7 := { stood := { row := cipherNoneUptoRow, standIns := [], harness := (true, "8a2480bb2858b595ae8568e89e138be66dd8e66abd4f5d0c426b15ec5890cc8b"), looks := true }, kinds := [], alts := [], laidByText := true, laidKinds := [.data, .data, .data, .data], laidTests := true, laidLooks := .later }
def CipherNoneUptoCardSaid : Prop := Claim7.holds Tryd.pinned (.plain (OpenSpec.upto cipherNoneSpec)) cipherNoneUptoCard

/-- THE SECOND FORM's CARD OF 'burrowlaw12.LinkPlays'. -/
def linkPlaysUptoCard : Claim7 := { stood := { row := linkPlaysUptoRow, standIns := [], harness := (true, "8a2480bb2858b595ae8568e89e138be66dd8e66abd4f5d0c426b15ec5890cc8b"), looks := true }, kinds := [], alts := [], laidByText := true, laidKinds := [.data, .data], laidTests := true, laidLooks := .later }
def LinkPlaysUptoCardSaid : Prop := Claim7.holds Tryd.pinned (.plain (OpenSpec.upto linkPlaysSpec)) linkPlaysUptoCard

/-- THE SECOND FORM's CARD OF 'burrowlaw12.LinkAll'. -/
def linkAllUptoCard : Claim7 := { stood := { row := linkAllUptoRow, standIns := [], harness := (true, "8a2480bb2858b595ae8568e89e138be66dd8e66abd4f5d0c426b15ec5890cc8b"), looks := true }, kinds := [], alts := [], laidByText := true, laidKinds := [.data, .data], laidTests := true, laidLooks := .later }
def LinkAllUptoCardSaid : Prop := Claim7.holds Tryd.pinned (.plain (OpenSpec.upto linkAllSpec)) linkAllUptoCard

/-- THE SECOND FORM's CARD OF 'burrowlaw12.LinkNone'. -/
def linkNoneUptoCard : Claim7 := { stood := { row := linkNoneUptoRow, standIns := [], harness := (true, "8a2480bb2858b595ae8568e89e138be66dd8e66abd4f5d0c426b15ec5890cc8b"), looks := true }, kinds := [], alts := [], laidByText := true, laidKinds := [.data, .data], laidTests := true, laidLooks := .later }
def LinkNoneUptoCardSaid : Prop := Claim7.holds Tryd.pinned (.plain (OpenSpec.upto linkNoneSpec)) linkNoneUptoCard

/-- THE SECOND FORM's CARD OF 'burrowlaw12.LinkBoth'. -/
def linkBothUptoCard : Claim7 := { stood := { row := linkBothUptoRow, standIns := [], harness := (true, "8a2480bb2858b595ae8568e89e138be66dd8e66abd4f5d0c426b15ec5890cc8b"), looks := true }, kinds := [], alts := [], laidByText := true, laidKinds := [.data, .data], laidTests := true, laidLooks := .later }
def LinkBothUptoCardSaid : Prop := Claim7.holds Tryd.pinned (.plain (OpenSpec.upto linkBothSpec)) linkBothUptoCard

/-- THE SECOND FORM's CARD OF 'burrowlaw19.ChainPlays'. -/
def chainPlaysUptoCard : Claim7 := { stood := { row := chainPlaysUptoRow, standIns := [], harness := (true, "8a2480bb2858b595ae8568e89e138be66dd8e66abd4f5d0c426b15ec5890cc8b"), looks := true }, kinds := [], alts := [], laidByText := true, laidKinds := [.data, .data, .data], laidTests := true, laidLooks := .later }
def ChainPlaysUptoCardSaid : Prop := Claim7.holds Tryd.pinned (.plain (OpenSpec.upto chainPlaysSpec)) chainPlaysUptoCard

/-- THE SECOND FORM's CARD OF 'burrowlaw19.ChainOnce'. -/
def chainOnceUptoCard : Claim7 := { stood := { row := chainOnceUptoRow, standIns := [], harness := (true, "8a2480bb2858b595ae8568e89e138be66dd8e66abd4f5d0c426b15ec5890cc8b"), looks := true }, kinds := [], alts := [], laidByText := true, laidKinds := [.data, .data, .data], laidTests := true, laidLooks := .later }
def ChainOnceUptoCardSaid : Prop := Claim7.holds Tryd.pinned (.plain (OpenSpec.upto chainOnceSpec)) chainOnceUptoCard

/-- THE SECOND FORM's CARD OF 'burrowlaw19.ChainNone'. -/
def chainNoneUptoCard : Claim7 := { stood := { row := chainNoneUptoRow, standIns := [], harness := (true, "8a2480bb2858b595ae8568e89e138be66dd8e66abd4f5d0c426b15ec5890cc8b"), looks := true }, kinds := [], alts := [], laidByText := true, laidKinds := [.data, .data, .data], laidTests := true, laidLooks := .later }
def ChainNoneUptoCardSaid : Prop := Claim7.holds Tryd.pinned (.plain (OpenSpec.upto chainNoneSpec)) chainNoneUptoCard

/-- THE SECOND FORM's CARD OF 'burrowlaw19.ChainLinks'. -/
def chainLinksUptoCard : Claim7 := { stood := { row := chainLinksUptoRow, standIns := [], harness := (true, "8a2480bb2858b595ae8568e89e138be66dd8e66abd4f5d0c426b15ec5890cc8b"), looks := true }, kinds := [], alts := [], laidByText := true, laidKinds := [.data, .data, .data], laidTests := true, laidLooks := .later }
def ChainLinksUptoCardSaid : Prop := Claim7.holds Tryd.pinned (.plain (OpenSpec.upto chainLinksSpec)) chainLinksUptoCard

/-- THE SECOND FORM's CARD OF 'burrowlaw19.ChainErases'. -/
def chainErasesUptoCard : Claim7 := { stood := { row := chainErasesUptoRow, standIns := [], harness := (true, "8a2480bb2858b595ae8568e89e138be66dd8e66abd4f5d0c426b15ec5890cc8b"), looks := true }, kinds := [], alts := [], laidByText := true, laidKinds := [.data, .data, .data], laidTests := true, laidLooks := .later }
def ChainErasesUptoCardSaid : Prop := Claim7.holds Tryd.pinned (.plain (OpenSpec.upto chainErasesSpec)) chainErasesUptoCard
end Rows
end Go.Proofs.YtfkldohjeepbkaaDoor
