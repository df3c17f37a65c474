/-
  DERIVED. GIVEN WITH THE SEED: THE CARDS: each row of YtjldjdlhllgakaaDoorRows.lean that lists a variable, with what it lists TIED to the program's text (the seventh form; the later family's looks); each row that meets fmt, with fmt's text TOLD by the authors' own Lean function (tested against real Go, not proved from fmt's source: count such statements apart). THE CARD IS WHAT COUNTS. Prove the row's statement (the work); the ties are given (YtjldjdlhllgakaaDoorTie.lean); close each card by the builder's one call (the guide's Derived/Test/ToyasCard.lean, 'card_holds'). Laid BY PROGRAM, IN A SANDBOX (cutbox-door.mjs). By AI agents, Wed Nov 11 2026. No macro, syntax, notation, axiom, sorry.
-/
import Derived.Test.YtjldjdlhllgakaaDoorRows
import GoSem.ClaimSeven
namespace Go.Proofs.YtjldjdlhllgakaaDoor
namespace Rows

/-- THE TIED CARD OF 'burrowlaw04.AeadMarks'. -/
def aeadMarksCard : Claim7 := { stood := { row := aeadMarksRow, standIns := [], harness := (true, "016bd7426bba981d99ec6c0970a4e2b4d83f6ff7365af097ba0a72bf89e7935b"), looks := true }, kinds := [], alts := [], laidByText := true, laidKinds := [.data, .data], laidTests := true, laidLooks := .later }
def AeadMarksCardSaid : Prop := Claim7.holds Tryd.pinned (.plain (OpenSpec.ofChange aeadMarksSpec)) aeadMarksCard

/-- THE TIED CARD OF 'burrowlaw04.AeadSeals'. -/
def aeadSealsCard : Claim7 := { stood := { row := aeadSealsRow, standIns := [], harness := (true, "016bd7426bba981d99ec6c0970a4e2b4d83f6ff7365af097ba0a72bf89e7935b"), looks := true }, kinds := [], alts := [], laidByText := true, laidKinds := [.data, .data], laidTests := true, laidLooks := .later }
def AeadSealsCardSaid : Prop := Claim7.holds Tryd.pinned (.plain (OpenSpec.ofChange aeadSealsSpec)) aeadSealsCard

/-- THE TIED CARD OF 'burrowlaw04.AeadOpens'. -/
def aeadOpensCard : Claim7 := { stood := { row := aeadOpensRow, standIns := [], harness := (true, "016bd7426bba981d99ec6c0970a4e2b4d83f6ff7365af097ba0a72bf89e7935b"), looks := true }, kinds := [], alts := [], laidByText := true, laidKinds := [.data, .data], laidTests := true, laidLooks := .later }
def AeadOpensCardSaid : Prop := Claim7.holds Tryd.pinned (.plain (OpenSpec.ofChange aeadOpensSpec)) aeadOpensCard

/-- THE TIED CARD OF 'burrowlaw04.AeadBack'. -/
def aeadBackCard : Claim7 := { stood := { row := aeadBackRow, standIns := [], harness := (true, "016bd7426bba981d99ec6c0970a4e2b4d83f6ff7365af097ba0a72bf89e7935b"), looks := true }, kinds := [], alts := [], laidByText := true, laidKinds := [.data, .data], laidTests := true, laidLooks := .later }
def AeadBackCardSaid : Prop := Claim7.holds Tryd.pinned (.plain (OpenSpec.ofChange aeadBackSpec)) aeadBackCard

/-- THE TIED CARD OF 'burrowlaw04.AeadSpoilt'. -/
def aeadSpoiltCard : Claim7 := { stood := { row := aeadSpoiltRow, standIns := [], harness := (true, "016bd7426bba981d99ec6c0970a4e2b4d83f6ff7365af097ba0a72bf89e7935b"), looks := true }, kinds := [], alts := [], laidByText := true, laidKinds := [.data, .data], laidTests := true, laidLooks := .later }
def AeadSpoiltCardSaid : Prop := Claim7.holds Tryd.pinned (.plain (OpenSpec.ofChange aeadSpoiltSpec)) aeadSpoiltCard

/-- THE TIED CARD OF 'burrowlaw04.AeadCuts'. -/
def aeadCutsCard : Claim7 := { stood := { row := aeadCutsRow, standIns := [], harness := (true, "016bd7426bba981d99ec6c0970a4e2b4d83f6ff7365af097ba0a72bf89e7935b"), looks := true }, kinds := [], alts := [], laidByText := true, laidKinds := [.data, .data], laidTests := true, laidLooks := .later }
def AeadCutsCardSaid : Prop := Claim7.holds Tryd.pinned (.plain (OpenSpec.ofChange aeadCutsSpec)) aeadCutsCard

/-- THE SECOND FORM's CARD OF 'burrowlaw04.AeadMarks'. -/
def aeadMarksUptoCard : Claim7 := { stood := { row := aeadMarksUptoRow, standIns := [], harness := (true, "016bd7426bba981d99ec6c0970a4e2b4d83f6ff7365af097ba0a72bf89e7935b"), looks := true }, kinds := [], alts := [], laidByText := true, laidKinds := [.data, .data], laidTests := true, laidLooks := .later }
def AeadMarksUptoCardSaid : Prop := Claim7.holds Tryd.pinned (.plain (OpenSpec.upto aeadMarksSpec)) aeadMarksUptoCard

/-- THE SECOND FORM's CARD OF 'burrowlaw04.AeadSeals'. -/
def aeadSealsUptoCard : Claim7 := { stood := { row := aeadSealsUptoRow, standIns := [], harness := (true, "016bd7426bba981d99ec6c0970a4e2b4d83f6ff7365af097ba0a72bf89e7935b"), looks := true }, kinds := [], alts := [], laidByText := true, laidKinds := [.data, .data], laidTests := true, laidLooks := .later }
def AeadSealsUptoCardSaid : Prop := Claim7.holds Tryd.pinned (.plain (OpenSpec.upto aeadSealsSpec)) aeadSealsUptoCard

/-- THE SECOND FORM's CARD OF 'burrowlaw04.AeadOpens'. -/
def aeadOpensUptoCard : Claim7 := { stood := { row := aeadOpensUptoRow, standIns := [], harness := (true, "016bd7426bba981d99ec6c0970a4e2b4d83f6ff7365af097ba0a72bf89e7935b"), looks := true }, kinds := [], alts := [], laidByText := true, laidKinds := [.data, .data], laidTests := true, laidLooks := .later }
def AeadOpensUptoCardSaid : Prop := Claim7.holds Tryd.pinned (.plain (OpenSpec.upto aeadOpensSpec)) aeadOpensUptoCard

/-- THE SECOND FORM's CARD OF 'burrowlaw04.AeadBack'. -/
def aeadBackUptoCard : Claim7 := { stood := { row := aeadBackUptoRow, standIns := [], harness := (true, "016bd7426bba981d99ec6c0970a4e2b4d83f6ff7365af097ba0a72bf89e7935b"), looks := true }, kinds := [], alts := [], laidByText := true, laidKinds := [.data, .data], laidTests := true, laidLooks := .later }
def AeadBackUptoCardSaid : Prop := Claim7.holds Tryd.pinned (.plain (OpenSpec.upto aeadBackSpec)) aeadBackUptoCard

/-- THE SECOND FORM's CARD OF 'burrowlaw04.AeadSpoilt'. -/
def aeadSpoiltUptoCard : Claim7 := { stood := { row := aeadSpoiltUptoRow, standIns := [], harness := (true, "016bd7426bba981d99ec6c0970a4e2b4d83f6ff7365af097ba0a72bf89e7935b"), looks := true }, kinds := [], alts := [], laidByText := true, laidKinds := [.data, .data], laidTests := true, laidLooks := .later }
def AeadSpoiltUptoCardSaid : Prop := Claim7.holds Tryd.pinned (.plain (OpenSpec.upto aeadSpoiltSpec)) aeadSpoiltUptoCard

/-- THE SECOND FORM's CARD OF 'burrowlaw04.AeadCuts'. -/
def aeadCutsUptoCard : Claim7 := { stood := { row := aeadCutsUptoRow, standIns := [], harness := (true, "016bd7426bba981d99ec6c0970a4e2b4d83f6ff7365af097ba0a72bf89e7935b"), looks := true }, kinds := [], alts := [], laidByText := true, laidKinds := [.data, .data], laidTests := true, laidLooks := .later }
def AeadCutsUptoCardSaid : Prop := Claim7.holds Tryd.pinned (.plain (OpenSpec.upto aeadCutsSpec)) aeadCutsUptoCard
end Rows
end Go.Proofs.YtjldjdlhllgakaaDoor
