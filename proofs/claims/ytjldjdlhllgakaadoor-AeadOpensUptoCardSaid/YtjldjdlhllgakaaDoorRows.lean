/-
  NARROWER THAN 'FOR EVERY INPUT', by the rows' own cells (each row's printed sentence says how): AeadMarks: laid · AeadSeals: laid · AeadOpens: laid · AeadBack: laid · AeadSpoilt: laid · AeadCuts: laid.
  DERIVED. THE GIVEN ROWS OF THIS SEAT. 6 by the template 'for every input the law returns true; each argument reads behind the call as it read before'; 0 by the template 'total and deterministic' (their statements: YtjldjdlhllgakaaDoorTotals.lean).
  GIVEN WITH THE SEED: the statements are not yours to turn. If you find one false, say at which input.
  Laid BY PROGRAM, IN A SANDBOX (cutbox-rows.mjs): the forced cells as the released guide's own fill.sh prints them over the translation deb0d995012a32a0… (all of the seat's roots in one cut). By AI agents, Wed Nov 11 2026. No macro, syntax, notation, axiom, sorry.
-/
import Derived.Test.YtjldjdlhllgakaaDoorChecked
import GoSem.Claim
import GoSem.ClaimJoined
import GoSem.ClaimMapViews
import Derived.JoinedTies
import Derived.KernelRfl
namespace Go.Proofs.YtjldjdlhllgakaaDoor
/- THE CELL 'sum', in the pinned program and in every row, IS THE sha256 OF THE DUMP (.gsa) THAT YtjldjdlhllgakaaDoorProg.lean LOADS. Nothing in Lean hashes anything: it is a label: what it is worth is what the hold of that sum in a sandbox is worth. -/
noncomputable def Tryd.pinned : Pinned := { name := "ytjldjdlhllgakaadoor", sum := "deb0d995012a32a0a62901df49eaaa0b251e1bc2f624ec1483cd423e7c5c5495", checked := Tryd.checked }
namespace Rows
def none {H : Type} : Left H := { results := [], args := [] }

/- WHAT THE LISTED PACKAGE-LEVEL VARIABLES READ AS WHEN THE CALL BEGINS. Each datum BY PROGRAM (the guide's laid-datum.mjs) off the statement by which the dump's own 'gosem.cut.vars' lays the variable. In a bare row this is a premise. The card (YtjldjdlhllgakaaDoorCards.lean) ties it to the program's text. -/
def laid_burrow_chacha_heads {H : Type} : DataW H := .agg [.lit (.int .u32 1634760805), .lit (.int .u32 857760878), .lit (.int .u32 2036477234), .lit (.int .u32 1797285236)]
def laid_burrow_chacha_quarters {H : Type} : DataW H := .agg [.agg [.lit (.int .i64 0), .lit (.int .i64 4), .lit (.int .i64 8), .lit (.int .i64 12)], .agg [.lit (.int .i64 1), .lit (.int .i64 5), .lit (.int .i64 9), .lit (.int .i64 13)], .agg [.lit (.int .i64 2), .lit (.int .i64 6), .lit (.int .i64 10), .lit (.int .i64 14)], .agg [.lit (.int .i64 3), .lit (.int .i64 7), .lit (.int .i64 11), .lit (.int .i64 15)], .agg [.lit (.int .i64 0), .lit (.int .i64 5), .lit (.int .i64 10), .lit (.int .i64 15)], .agg [.lit (.int .i64 1), .lit (.int .i64 6), .lit (.int .i64 11), .lit (.int .i64 12)], .agg [.lit (.int .i64 2), .lit (.int .i64 7), .lit (.int .i64 8), .lit (.int .i64 13)], .agg [.lit (.int .i64 3), .lit (.int .i64 4), .lit (.int .i64 9), .lit (.int .i64 14)]]

/-- 'burrowlaw04.AeadMarks': WHATEVER THE INPUT: true; the input reads as it did. -/
def aeadMarksSpec : ChangeSpec := { name := "aeadMarks", fn := fun _ => fun
  | [d1, d2, d3] => { results := [.lit (.bool true)], args := [d1, d2, d3] }
  | _ => none }
def aeadMarksRow : OpenClaim := { program := "ytjldjdlhllgakaadoor", sum := "deb0d995012a32a0a62901df49eaaa0b251e1bc2f624ec1483cd423e7c5c5495", func := "burrow/burrowlaw04.AeadMarks", spec := "aeadMarks", inPlace := ["math/bits.Add64"], unfollowed := true, recurses := true, named := ["burrow/chacha.heads", "burrow/chacha.quarters"], apart := false, laid := [("burrow/chacha.heads", laid_burrow_chacha_heads), ("burrow/chacha.quarters", laid_burrow_chacha_quarters)] }
def AeadMarksSaid : Prop := aeadMarksRow.holds Tryd.pinned (OpenSpec.ofChange aeadMarksSpec)

/-- ITS FALSE NEIGHBOUR: 'it returns false'. Refute it at one input. -/
def aeadMarksWrong : ChangeSpec := { name := "aeadMarks", fn := fun _ => fun
  | [d1, d2, d3] => { results := [.lit (.bool false)], args := [d1, d2, d3] }
  | _ => none }
def AeadMarksWrongFalsely : Prop := aeadMarksRow.holds Tryd.pinned (OpenSpec.ofChange aeadMarksWrong)

/-- 'burrowlaw04.AeadSeals': WHATEVER THE INPUT: true; the input reads as it did. -/
def aeadSealsSpec : ChangeSpec := { name := "aeadSeals", fn := fun _ => fun
  | [d] => { results := [.lit (.bool true)], args := [d] }
  | _ => none }
def aeadSealsRow : OpenClaim := { program := "ytjldjdlhllgakaadoor", sum := "deb0d995012a32a0a62901df49eaaa0b251e1bc2f624ec1483cd423e7c5c5495", func := "burrow/burrowlaw04.AeadSeals", spec := "aeadSeals", inPlace := ["math/bits.Add64"], unfollowed := true, recurses := true, named := ["burrow/chacha.heads", "burrow/chacha.quarters"], apart := false, laid := [("burrow/chacha.heads", laid_burrow_chacha_heads), ("burrow/chacha.quarters", laid_burrow_chacha_quarters)] }
def AeadSealsSaid : Prop := aeadSealsRow.holds Tryd.pinned (OpenSpec.ofChange aeadSealsSpec)

/-- ITS FALSE NEIGHBOUR: 'it returns false'. Refute it at one input. -/
def aeadSealsWrong : ChangeSpec := { name := "aeadSeals", fn := fun _ => fun
  | [d] => { results := [.lit (.bool false)], args := [d] }
  | _ => none }
def AeadSealsWrongFalsely : Prop := aeadSealsRow.holds Tryd.pinned (OpenSpec.ofChange aeadSealsWrong)

/-- 'burrowlaw04.AeadOpens': WHATEVER THE INPUT: true; the input reads as it did. -/
def aeadOpensSpec : ChangeSpec := { name := "aeadOpens", fn := fun _ => fun
  | [d] => { results := [.lit (.bool true)], args := [d] }
  | _ => none }
def aeadOpensRow : OpenClaim := { program := "ytjldjdlhllgakaadoor", sum := "deb0d995012a32a0a62901df49eaaa0b251e1bc2f624ec1483cd423e7c5c5495", func := "burrow/burrowlaw04.AeadOpens", spec := "aeadOpens", inPlace := ["math/bits.Add64"], unfollowed := true, recurses := true, named := ["burrow/chacha.heads", "burrow/chacha.quarters"], apart := false, laid := [("burrow/chacha.heads", laid_burrow_chacha_heads), ("burrow/chacha.quarters", laid_burrow_chacha_quarters)] }
def AeadOpensSaid : Prop := aeadOpensRow.holds Tryd.pinned (OpenSpec.ofChange aeadOpensSpec)

/-- ITS FALSE NEIGHBOUR: 'it returns false'. Refute it at one input. -/
def aeadOpensWrong : ChangeSpec := { name := "aeadOpens", fn := fun _ => fun
  | [d] => { results := [.lit (.bool false)], args := [d] }
  | _ => none }
def AeadOpensWrongFalsely : Prop := aeadOpensRow.holds Tryd.pinned (OpenSpec.ofChange aeadOpensWrong)

/-- 'burrowlaw04.AeadBack': WHATEVER THE INPUT: true; the input reads as it did. -/
def aeadBackSpec : ChangeSpec := { name := "aeadBack", fn := fun _ => fun
  | [d] => { results := [.lit (.bool true)], args := [d] }
  | _ => none }
def aeadBackRow : OpenClaim := { program := "ytjldjdlhllgakaadoor", sum := "deb0d995012a32a0a62901df49eaaa0b251e1bc2f624ec1483cd423e7c5c5495", func := "burrow/burrowlaw04.AeadBack", spec := "aeadBack", inPlace := ["math/bits.Add64"], unfollowed := true, recurses := true, named := ["burrow/chacha.heads", "burrow/chacha.quarters"], apart := false, laid := [("burrow/chacha.heads", laid_burrow_chacha_heads), ("burrow/chacha.quarters", laid_burrow_chacha_quarters)] }
def AeadBackSaid : Prop := aeadBackRow.holds Tryd.pinned (OpenSpec.ofChange aeadBackSpec)

/-- ITS FALSE NEIGHBOUR: 'it returns false'. Refute it at one input. -/
def aeadBackWrong : ChangeSpec := { name := "aeadBack", fn := fun _ => fun
  | [d] => { results := [.lit (.bool false)], args := [d] }
  | _ => none }
def AeadBackWrongFalsely : Prop := aeadBackRow.holds Tryd.pinned (OpenSpec.ofChange aeadBackWrong)

/-- 'burrowlaw04.AeadSpoilt': WHATEVER THE INPUT: true; the input reads as it did. -/
def aeadSpoiltSpec : ChangeSpec := { name := "aeadSpoilt", fn := fun _ => fun
  | [d1, d2, d3] => { results := [.lit (.bool true)], args := [d1, d2, d3] }
  | _ => none }
def aeadSpoiltRow : OpenClaim := { program := "ytjldjdlhllgakaadoor", sum := "deb0d995012a32a0a62901df49eaaa0b251e1bc2f624ec1483cd423e7c5c5495", func := "burrow/burrowlaw04.AeadSpoilt", spec := "aeadSpoilt", inPlace := ["math/bits.Add64"], unfollowed := true, recurses := true, named := ["burrow/chacha.heads", "burrow/chacha.quarters"], apart := false, laid := [("burrow/chacha.heads", laid_burrow_chacha_heads), ("burrow/chacha.quarters", laid_burrow_chacha_quarters)] }
def AeadSpoiltSaid : Prop := aeadSpoiltRow.holds Tryd.pinned (OpenSpec.ofChange aeadSpoiltSpec)

/-- ITS FALSE NEIGHBOUR: 'it returns false'. Refute it at one input. -/
def aeadSpoiltWrong : ChangeSpec := { name := "aeadSpoilt", fn := fun _ => fun
  | [d1, d2, d3] => { results := [.lit (.bool false)], args := [d1, d2, d3] }
  | _ => none }
def AeadSpoiltWrongFalsely : Prop := aeadSpoiltRow.holds Tryd.pinned (OpenSpec.ofChange aeadSpoiltWrong)

/-- 'burrowlaw04.AeadCuts': WHATEVER THE INPUT: true; the input reads as it did. -/
def aeadCutsSpec : ChangeSpec := { name := "aeadCuts", fn := fun _ => fun
  | [d1, d2] => { results := [.lit (.bool true)], args := [d1, d2] }
  | _ => none }
def aeadCutsRow : OpenClaim := { program := "ytjldjdlhllgakaadoor", sum := "deb0d995012a32a0a62901df49eaaa0b251e1bc2f624ec1483cd423e7c5c5495", func := "burrow/burrowlaw04.AeadCuts", spec := "aeadCuts", inPlace := ["math/bits.Add64"], unfollowed := true, recurses := true, named := ["burrow/chacha.heads", "burrow/chacha.quarters"], apart := false, laid := [("burrow/chacha.heads", laid_burrow_chacha_heads), ("burrow/chacha.quarters", laid_burrow_chacha_quarters)] }
def AeadCutsSaid : Prop := aeadCutsRow.holds Tryd.pinned (OpenSpec.ofChange aeadCutsSpec)

/-- ITS FALSE NEIGHBOUR: 'it returns false'. Refute it at one input. -/
def aeadCutsWrong : ChangeSpec := { name := "aeadCuts", fn := fun _ => fun
  | [d1, d2] => { results := [.lit (.bool false)], args := [d1, d2] }
  | _ => none }
def AeadCutsWrongFalsely : Prop := aeadCutsRow.holds Tryd.pinned (OpenSpec.ofChange aeadCutsWrong)

/- THE SECOND FORM. 'bulk': how many values and letters a reading holds, each counted each time it is reached (what is shared counts as often as it is met; a slice's spare places count too). A statement '..UptoSaid' is the law's where the arguments, and the package variables that the reading takes, are together of bulk at most 1048576: NARROWER than '..Said'. Prove '..Said' where nothing that the law and all that it calls make is longer than what came in: it says more and counts as full. Else prove '..UptoSaid'. A law counts once. -/
mutual
def uptoBulk {H : Type} : DataW H → Nat
  | .lit (.string bytes) => bytes.length + 1
  | .lit _ => 1
  | .nil => 1
  | .ptr d => uptoBulk d + 1
  | .slice elems spare => uptoBulkAll elems + uptoBulkAll spare + 1
  | .agg parts => uptoBulkAll parts + 1
  | .iface _ d => uptoBulk d + 1
  | .map entries => uptoBulkEntries entries + 1
  | .held _ => 1
def uptoBulkAll {H : Type} : List (DataW H) → Nat
  | [] => 0
  | d :: r => uptoBulk d + uptoBulkAll r
def uptoBulkEntries {H : Type} : List (Lit × DataW H) → Nat
  | [] => 0
  | x :: r => uptoBulkEntry x + uptoBulkEntries r
def uptoBulkEntry {H : Type} : Lit × DataW H → Nat
  | (.string bytes, d) => bytes.length + uptoBulk d + 1
  | (_, d) => uptoBulk d + 1
 end
def uptoSmall : (H : Type) → List (DataW H) → Bool := fun _ ds => decide (uptoBulkAll ds ≤ 1048576)
def OpenSpec.upto (s : _root_.Go.ChangeSpec) : _root_.Go.OpenSpec := { _root_.Go.OpenSpec.ofChange s with cond := some uptoSmall }

/-- 'burrowlaw04.AeadMarks', WHERE WHAT IT READS IS OF BULK AT MOST 1048576: true; the input reads as it did. -/
def aeadMarksUptoRow : OpenClaim := { program := "ytjldjdlhllgakaadoor", sum := "deb0d995012a32a0a62901df49eaaa0b251e1bc2f624ec1483cd423e7c5c5495", func := "burrow/burrowlaw04.AeadMarks", spec := "aeadMarks", inPlace := ["math/bits.Add64"], unfollowed := true, recurses := true, named := ["burrow/chacha.heads", "burrow/chacha.quarters"], apart := false, laid := [("burrow/chacha.heads", laid_burrow_chacha_heads), ("burrow/chacha.quarters", laid_burrow_chacha_quarters)], narrowed := true }
def AeadMarksUptoSaid : Prop := aeadMarksUptoRow.holds Tryd.pinned (OpenSpec.upto aeadMarksSpec)

/-- 'burrowlaw04.AeadSeals', WHERE WHAT IT READS IS OF BULK AT MOST 1048576: true; the input reads as it did. -/
def aeadSealsUptoRow : OpenClaim := { program := "ytjldjdlhllgakaadoor", sum := "deb0d995012a32a0a62901df49eaaa0b251e1bc2f624ec1483cd423e7c5c5495", func := "burrow/burrowlaw04.AeadSeals", spec := "aeadSeals", inPlace := ["math/bits.Add64"], unfollowed := true, recurses := true, named := ["burrow/chacha.heads", "burrow/chacha.quarters"], apart := false, laid := [("burrow/chacha.heads", laid_burrow_chacha_heads), ("burrow/chacha.quarters", laid_burrow_chacha_quarters)], narrowed := true }
def AeadSealsUptoSaid : Prop := aeadSealsUptoRow.holds Tryd.pinned (OpenSpec.upto aeadSealsSpec)

/-- 'burrowlaw04.AeadOpens', WHERE WHAT IT READS IS OF BULK AT MOST 1048576: true; the input reads as it did. -/
def aeadOpensUptoRow : OpenClaim := { program := "ytjldjdlhllgakaadoor", sum := "deb0d995012a32a0a62901df49eaaa0b251e1bc2f624ec1483cd423e7c5c5495", func := "burrow/burrowlaw04.AeadOpens", spec := "aeadOpens", inPlace := ["math/bits.Add64"], unfollowed := true, recurses := true, named := ["burrow/chacha.heads", "burrow/chacha.quarters"], apart := false, laid := [("burrow/chacha.heads", laid_burrow_chacha_heads), ("burrow/chacha.quarters", laid_burrow_chacha_quarters)], narrowed := true }
def AeadOpensUptoSaid : Prop := aeadOpensUptoRow.holds Tryd.pinned (OpenSpec.upto aeadOpensSpec)

/-- 'burrowlaw04.AeadBack', WHERE WHAT IT READS IS OF BULK AT MOST 1048576: true; the input reads as it did. -/
def aeadBackUptoRow : OpenClaim := { program := "ytjldjdlhllgakaadoor", sum := "deb0d995012a32a0a62901df49eaaa0b251e1bc2f624ec1483cd423e7c5c5495", func := "burrow/burrowlaw04.AeadBack", spec := "aeadBack", inPlace := ["math/bits.Add64"], unfollowed := true, recurses := true, named := ["burrow/chacha.heads", "burrow/chacha.quarters"], apart := false, laid := [("burrow/chacha.heads", laid_burrow_chacha_heads), ("burrow/chacha.quarters", laid_burrow_chacha_quarters)], narrowed := true }
def AeadBackUptoSaid : Prop := aeadBackUptoRow.holds Tryd.pinned (OpenSpec.upto aeadBackSpec)

/-- 'burrowlaw04.AeadSpoilt', WHERE WHAT IT READS IS OF BULK AT MOST 1048576: true; the input reads as it did. -/
def aeadSpoiltUptoRow : OpenClaim := { program := "ytjldjdlhllgakaadoor", sum := "deb0d995012a32a0a62901df49eaaa0b251e1bc2f624ec1483cd423e7c5c5495", func := "burrow/burrowlaw04.AeadSpoilt", spec := "aeadSpoilt", inPlace := ["math/bits.Add64"], unfollowed := true, recurses := true, named := ["burrow/chacha.heads", "burrow/chacha.quarters"], apart := false, laid := [("burrow/chacha.heads", laid_burrow_chacha_heads), ("burrow/chacha.quarters", laid_burrow_chacha_quarters)], narrowed := true }
def AeadSpoiltUptoSaid : Prop := aeadSpoiltUptoRow.holds Tryd.pinned (OpenSpec.upto aeadSpoiltSpec)

/-- 'burrowlaw04.AeadCuts', WHERE WHAT IT READS IS OF BULK AT MOST 1048576: true; the input reads as it did. -/
def aeadCutsUptoRow : OpenClaim := { program := "ytjldjdlhllgakaadoor", sum := "deb0d995012a32a0a62901df49eaaa0b251e1bc2f624ec1483cd423e7c5c5495", func := "burrow/burrowlaw04.AeadCuts", spec := "aeadCuts", inPlace := ["math/bits.Add64"], unfollowed := true, recurses := true, named := ["burrow/chacha.heads", "burrow/chacha.quarters"], apart := false, laid := [("burrow/chacha.heads", laid_burrow_chacha_heads), ("burrow/chacha.quarters", laid_burrow_chacha_quarters)], narrowed := true }
def AeadCutsUptoSaid : Prop := aeadCutsUptoRow.holds Tryd.pinned (OpenSpec.upto aeadCutsSpec)

end Rows
end Go.Proofs.YtjldjdlhllgakaaDoor
