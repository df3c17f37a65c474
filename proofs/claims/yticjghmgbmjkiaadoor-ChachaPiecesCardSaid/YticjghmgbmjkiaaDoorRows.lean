/-
  NARROWER THAN 'FOR EVERY INPUT', by the rows' own cells (each row's printed sentence says how): ChachaPieces: laid · ChachaMixes: laid · ChachaTwice: laid · ChachaJoins: laid · SeatNodes: laid · SeatPaths: laid · SeatCommon: laid · SeatTree: laid · SeatMeets: laid.
  DERIVED. THE GIVEN ROWS OF THIS SEAT. 9 by the template 'for every input the law returns true; each argument reads behind the call as it read before'; 0 by the template 'total and deterministic' (their statements: YticjghmgbmjkiaaDoorTotals.lean).
  GIVEN WITH THE SEED: the statements are not yours to turn. If you find one false, say at which input.
  Laid BY PROGRAM, IN A SANDBOX (cutbox-rows.mjs): the forced cells as the released guide's own fill.sh prints them over the translation b7ac7b111505a6a5… (all of the seat's roots in one cut). By AI agents, Wed Nov 11 2026. No macro, syntax, notation, axiom, sorry.
-/
import Derived.Test.YticjghmgbmjkiaaDoorChecked
import GoSem.Claim
import GoSem.ClaimJoined
import GoSem.ClaimMapViews
import Derived.JoinedTies
import Derived.KernelRfl
namespace Go.Proofs.YticjghmgbmjkiaaDoor
/- THE CELL 'sum', in the pinned program and in every row, IS THE sha256 OF THE DUMP (.gsa) THAT YticjghmgbmjkiaaDoorProg.lean LOADS. Nothing in Lean hashes anything: it is a label: what it is worth is what the hold of that sum in a sandbox is worth. -/
noncomputable def Tryd.pinned : Pinned := { name := "yticjghmgbmjkiaadoor", sum := "b7ac7b111505a6a516435d35cc6f2a3fae922bf8f4406cbba1701173142cfd0d", checked := Tryd.checked }
namespace Rows
def none {H : Type} : Left H := { results := [], args := [] }

/- WHAT THE LISTED PACKAGE-LEVEL VARIABLES READ AS WHEN THE CALL BEGINS. Each datum BY PROGRAM (the guide's laid-datum.mjs) off the statement by which the dump's own 'gosem.cut.vars' lays the variable. In a bare row this is a premise. The card (YticjghmgbmjkiaaDoorCards.lean) ties it to the program's text. -/
def laid_burrow_chacha_heads {H : Type} : DataW H := .agg [.lit (.int .u32 1634760805), .lit (.int .u32 857760878), .lit (.int .u32 2036477234), .lit (.int .u32 1797285236)]
def laid_burrow_chacha_quarters {H : Type} : DataW H := .agg [.agg [.lit (.int .i64 0), .lit (.int .i64 4), .lit (.int .i64 8), .lit (.int .i64 12)], .agg [.lit (.int .i64 1), .lit (.int .i64 5), .lit (.int .i64 9), .lit (.int .i64 13)], .agg [.lit (.int .i64 2), .lit (.int .i64 6), .lit (.int .i64 10), .lit (.int .i64 14)], .agg [.lit (.int .i64 3), .lit (.int .i64 7), .lit (.int .i64 11), .lit (.int .i64 15)], .agg [.lit (.int .i64 0), .lit (.int .i64 5), .lit (.int .i64 10), .lit (.int .i64 15)], .agg [.lit (.int .i64 1), .lit (.int .i64 6), .lit (.int .i64 11), .lit (.int .i64 12)], .agg [.lit (.int .i64 2), .lit (.int .i64 7), .lit (.int .i64 8), .lit (.int .i64 13)], .agg [.lit (.int .i64 3), .lit (.int .i64 4), .lit (.int .i64 9), .lit (.int .i64 14)]]
def laid_math_bits_deBruijn64tab {H : Type} : DataW H := .agg [.lit (.int .u8 0), .lit (.int .u8 1), .lit (.int .u8 56), .lit (.int .u8 2), .lit (.int .u8 57), .lit (.int .u8 49), .lit (.int .u8 28), .lit (.int .u8 3), .lit (.int .u8 61), .lit (.int .u8 58), .lit (.int .u8 42), .lit (.int .u8 50), .lit (.int .u8 38), .lit (.int .u8 29), .lit (.int .u8 17), .lit (.int .u8 4), .lit (.int .u8 62), .lit (.int .u8 47), .lit (.int .u8 59), .lit (.int .u8 36), .lit (.int .u8 45), .lit (.int .u8 43), .lit (.int .u8 51), .lit (.int .u8 22), .lit (.int .u8 53), .lit (.int .u8 39), .lit (.int .u8 33), .lit (.int .u8 30), .lit (.int .u8 24), .lit (.int .u8 18), .lit (.int .u8 12), .lit (.int .u8 5), .lit (.int .u8 63), .lit (.int .u8 55), .lit (.int .u8 48), .lit (.int .u8 27), .lit (.int .u8 60), .lit (.int .u8 41), .lit (.int .u8 37), .lit (.int .u8 16), .lit (.int .u8 46), .lit (.int .u8 35), .lit (.int .u8 44), .lit (.int .u8 21), .lit (.int .u8 52), .lit (.int .u8 32), .lit (.int .u8 23), .lit (.int .u8 11), .lit (.int .u8 54), .lit (.int .u8 26), .lit (.int .u8 40), .lit (.int .u8 15), .lit (.int .u8 34), .lit (.int .u8 20), .lit (.int .u8 31), .lit (.int .u8 10), .lit (.int .u8 25), .lit (.int .u8 14), .lit (.int .u8 19), .lit (.int .u8 9), .lit (.int .u8 13), .lit (.int .u8 8), .lit (.int .u8 7), .lit (.int .u8 6)]

/-- 'burrowlaw03.ChachaPieces': WHATEVER THE INPUT: true; the input reads as it did. -/
def chachaPiecesSpec : ChangeSpec := { name := "chachaPieces", fn := fun _ => fun
  | [d1, d2] => { results := [.lit (.bool true)], args := [d1, d2] }
  | _ => none }
def chachaPiecesRow : OpenClaim := { program := "yticjghmgbmjkiaadoor", sum := "b7ac7b111505a6a516435d35cc6f2a3fae922bf8f4406cbba1701173142cfd0d", func := "burrow/burrowlaw03.ChachaPieces", spec := "chachaPieces", unfollowed := true, recurses := true, named := ["burrow/chacha.heads", "burrow/chacha.quarters"], apart := false, laid := [("burrow/chacha.heads", laid_burrow_chacha_heads), ("burrow/chacha.quarters", laid_burrow_chacha_quarters)] }
def ChachaPiecesSaid : Prop := chachaPiecesRow.holds Tryd.pinned (OpenSpec.ofChange chachaPiecesSpec)

/-- ITS FALSE NEIGHBOUR: 'it returns false'. Refute it at one input. -/
def chachaPiecesWrong : ChangeSpec := { name := "chachaPieces", fn := fun _ => fun
  | [d1, d2] => { results := [.lit (.bool false)], args := [d1, d2] }
  | _ => none }
def ChachaPiecesWrongFalsely : Prop := chachaPiecesRow.holds Tryd.pinned (OpenSpec.ofChange chachaPiecesWrong)

/-- 'burrowlaw03.ChachaMixes': WHATEVER THE INPUT: true; the input reads as it did. -/
def chachaMixesSpec : ChangeSpec := { name := "chachaMixes", fn := fun _ => fun
  | [d] => { results := [.lit (.bool true)], args := [d] }
  | _ => none }
def chachaMixesRow : OpenClaim := { program := "yticjghmgbmjkiaadoor", sum := "b7ac7b111505a6a516435d35cc6f2a3fae922bf8f4406cbba1701173142cfd0d", func := "burrow/burrowlaw03.ChachaMixes", spec := "chachaMixes", unfollowed := true, recurses := true, named := ["burrow/chacha.heads", "burrow/chacha.quarters"], apart := false, laid := [("burrow/chacha.heads", laid_burrow_chacha_heads), ("burrow/chacha.quarters", laid_burrow_chacha_quarters)] }
def ChachaMixesSaid : Prop := chachaMixesRow.holds Tryd.pinned (OpenSpec.ofChange chachaMixesSpec)

/-- ITS FALSE NEIGHBOUR: 'it returns false'. Refute it at one input. -/
def chachaMixesWrong : ChangeSpec := { name := "chachaMixes", fn := fun _ => fun
  | [d] => { results := [.lit (.bool false)], args := [d] }
  | _ => none }
def ChachaMixesWrongFalsely : Prop := chachaMixesRow.holds Tryd.pinned (OpenSpec.ofChange chachaMixesWrong)

/-- 'burrowlaw03.ChachaTwice': WHATEVER THE INPUT: true; the input reads as it did. -/
def chachaTwiceSpec : ChangeSpec := { name := "chachaTwice", fn := fun _ => fun
  | [d1, d2] => { results := [.lit (.bool true)], args := [d1, d2] }
  | _ => none }
def chachaTwiceRow : OpenClaim := { program := "yticjghmgbmjkiaadoor", sum := "b7ac7b111505a6a516435d35cc6f2a3fae922bf8f4406cbba1701173142cfd0d", func := "burrow/burrowlaw03.ChachaTwice", spec := "chachaTwice", unfollowed := true, recurses := true, named := ["burrow/chacha.heads", "burrow/chacha.quarters"], apart := false, laid := [("burrow/chacha.heads", laid_burrow_chacha_heads), ("burrow/chacha.quarters", laid_burrow_chacha_quarters)] }
def ChachaTwiceSaid : Prop := chachaTwiceRow.holds Tryd.pinned (OpenSpec.ofChange chachaTwiceSpec)

/-- ITS FALSE NEIGHBOUR: 'it returns false'. Refute it at one input. -/
def chachaTwiceWrong : ChangeSpec := { name := "chachaTwice", fn := fun _ => fun
  | [d1, d2] => { results := [.lit (.bool false)], args := [d1, d2] }
  | _ => none }
def ChachaTwiceWrongFalsely : Prop := chachaTwiceRow.holds Tryd.pinned (OpenSpec.ofChange chachaTwiceWrong)

/-- 'burrowlaw03.ChachaJoins': WHATEVER THE INPUT: true; the input reads as it did. -/
def chachaJoinsSpec : ChangeSpec := { name := "chachaJoins", fn := fun _ => fun
  | [d1, d2] => { results := [.lit (.bool true)], args := [d1, d2] }
  | _ => none }
def chachaJoinsRow : OpenClaim := { program := "yticjghmgbmjkiaadoor", sum := "b7ac7b111505a6a516435d35cc6f2a3fae922bf8f4406cbba1701173142cfd0d", func := "burrow/burrowlaw03.ChachaJoins", spec := "chachaJoins", unfollowed := true, recurses := true, named := ["burrow/chacha.heads", "burrow/chacha.quarters"], apart := false, laid := [("burrow/chacha.heads", laid_burrow_chacha_heads), ("burrow/chacha.quarters", laid_burrow_chacha_quarters)] }
def ChachaJoinsSaid : Prop := chachaJoinsRow.holds Tryd.pinned (OpenSpec.ofChange chachaJoinsSpec)

/-- ITS FALSE NEIGHBOUR: 'it returns false'. Refute it at one input. -/
def chachaJoinsWrong : ChangeSpec := { name := "chachaJoins", fn := fun _ => fun
  | [d1, d2] => { results := [.lit (.bool false)], args := [d1, d2] }
  | _ => none }
def ChachaJoinsWrongFalsely : Prop := chachaJoinsRow.holds Tryd.pinned (OpenSpec.ofChange chachaJoinsWrong)

/-- 'burrowlaw13.SeatNodes': WHATEVER THE INPUT: true; the input reads as it did. -/
def seatNodesSpec : ChangeSpec := { name := "seatNodes", fn := fun _ => fun
  | [d1, d2] => { results := [.lit (.bool true)], args := [d1, d2] }
  | _ => none }
def seatNodesRow : OpenClaim := { program := "yticjghmgbmjkiaadoor", sum := "b7ac7b111505a6a516435d35cc6f2a3fae922bf8f4406cbba1701173142cfd0d", func := "burrow/burrowlaw13.SeatNodes", spec := "seatNodes", named := ["math/bits.deBruijn64tab"], apart := false, laid := [("math/bits.deBruijn64tab", laid_math_bits_deBruijn64tab)] }
def SeatNodesSaid : Prop := seatNodesRow.holds Tryd.pinned (OpenSpec.ofChange seatNodesSpec)

/-- ITS FALSE NEIGHBOUR: 'it returns false'. Refute it at one input. -/
def seatNodesWrong : ChangeSpec := { name := "seatNodes", fn := fun _ => fun
  | [d1, d2] => { results := [.lit (.bool false)], args := [d1, d2] }
  | _ => none }
def SeatNodesWrongFalsely : Prop := seatNodesRow.holds Tryd.pinned (OpenSpec.ofChange seatNodesWrong)

/-- 'burrowlaw13.SeatPaths': WHATEVER THE INPUT: true; the input reads as it did. -/
def seatPathsSpec : ChangeSpec := { name := "seatPaths", fn := fun _ => fun
  | [d1, d2, d3] => { results := [.lit (.bool true)], args := [d1, d2, d3] }
  | _ => none }
def seatPathsRow : OpenClaim := { program := "yticjghmgbmjkiaadoor", sum := "b7ac7b111505a6a516435d35cc6f2a3fae922bf8f4406cbba1701173142cfd0d", func := "burrow/burrowlaw13.SeatPaths", spec := "seatPaths", unfollowed := true, recurses := true, named := ["math/bits.deBruijn64tab"], apart := false, laid := [("math/bits.deBruijn64tab", laid_math_bits_deBruijn64tab)] }
def SeatPathsSaid : Prop := seatPathsRow.holds Tryd.pinned (OpenSpec.ofChange seatPathsSpec)

/-- ITS FALSE NEIGHBOUR: 'it returns false'. Refute it at one input. -/
def seatPathsWrong : ChangeSpec := { name := "seatPaths", fn := fun _ => fun
  | [d1, d2, d3] => { results := [.lit (.bool false)], args := [d1, d2, d3] }
  | _ => none }
def SeatPathsWrongFalsely : Prop := seatPathsRow.holds Tryd.pinned (OpenSpec.ofChange seatPathsWrong)

/-- 'burrowlaw13.SeatCommon': WHATEVER THE INPUT: true; the input reads as it did. -/
def seatCommonSpec : ChangeSpec := { name := "seatCommon", fn := fun _ => fun
  | [d1, d2, d3] => { results := [.lit (.bool true)], args := [d1, d2, d3] }
  | _ => none }
def seatCommonRow : OpenClaim := { program := "yticjghmgbmjkiaadoor", sum := "b7ac7b111505a6a516435d35cc6f2a3fae922bf8f4406cbba1701173142cfd0d", func := "burrow/burrowlaw13.SeatCommon", spec := "seatCommon", unfollowed := true, recurses := true, named := ["math/bits.deBruijn64tab"], apart := false, laid := [("math/bits.deBruijn64tab", laid_math_bits_deBruijn64tab)] }
def SeatCommonSaid : Prop := seatCommonRow.holds Tryd.pinned (OpenSpec.ofChange seatCommonSpec)

/-- ITS FALSE NEIGHBOUR: 'it returns false'. Refute it at one input. -/
def seatCommonWrong : ChangeSpec := { name := "seatCommon", fn := fun _ => fun
  | [d1, d2, d3] => { results := [.lit (.bool false)], args := [d1, d2, d3] }
  | _ => none }
def SeatCommonWrongFalsely : Prop := seatCommonRow.holds Tryd.pinned (OpenSpec.ofChange seatCommonWrong)

/-- 'burrowlaw13.SeatTree': WHATEVER THE INPUT: true; the input reads as it did. -/
def seatTreeSpec : ChangeSpec := { name := "seatTree", fn := fun _ => fun
  | [d] => { results := [.lit (.bool true)], args := [d] }
  | _ => none }
def seatTreeRow : OpenClaim := { program := "yticjghmgbmjkiaadoor", sum := "b7ac7b111505a6a516435d35cc6f2a3fae922bf8f4406cbba1701173142cfd0d", func := "burrow/burrowlaw13.SeatTree", spec := "seatTree", named := ["math/bits.deBruijn64tab"], apart := false, laid := [("math/bits.deBruijn64tab", laid_math_bits_deBruijn64tab)] }
def SeatTreeSaid : Prop := seatTreeRow.holds Tryd.pinned (OpenSpec.ofChange seatTreeSpec)

/-- ITS FALSE NEIGHBOUR: 'it returns false'. Refute it at one input. -/
def seatTreeWrong : ChangeSpec := { name := "seatTree", fn := fun _ => fun
  | [d] => { results := [.lit (.bool false)], args := [d] }
  | _ => none }
def SeatTreeWrongFalsely : Prop := seatTreeRow.holds Tryd.pinned (OpenSpec.ofChange seatTreeWrong)

/-- 'burrowlaw13.SeatMeets': WHATEVER THE INPUT: true; the input reads as it did. -/
def seatMeetsSpec : ChangeSpec := { name := "seatMeets", fn := fun _ => fun
  | [d1, d2, d3] => { results := [.lit (.bool true)], args := [d1, d2, d3] }
  | _ => none }
def seatMeetsRow : OpenClaim := { program := "yticjghmgbmjkiaadoor", sum := "b7ac7b111505a6a516435d35cc6f2a3fae922bf8f4406cbba1701173142cfd0d", func := "burrow/burrowlaw13.SeatMeets", spec := "seatMeets", unfollowed := true, recurses := true, named := ["math/bits.deBruijn64tab"], apart := false, laid := [("math/bits.deBruijn64tab", laid_math_bits_deBruijn64tab)] }
def SeatMeetsSaid : Prop := seatMeetsRow.holds Tryd.pinned (OpenSpec.ofChange seatMeetsSpec)

/-- ITS FALSE NEIGHBOUR: 'it returns false'. Refute it at one input. -/
def seatMeetsWrong : ChangeSpec := { name := "seatMeets", fn := fun _ => fun
  | [d1, d2, d3] => { results := [.lit (.bool false)], args := [d1, d2, d3] }
  | _ => none }
def SeatMeetsWrongFalsely : Prop := seatMeetsRow.holds Tryd.pinned (OpenSpec.ofChange seatMeetsWrong)

/- THE SECOND FORM. 'bulk': how many values and letters a reading holds, each counted each time it is reached (what is shared counts as often as it is met; a slice's spare places count too). A statement '..UptoSaid' is the law's where the arguments, and the package variables that the reading takes, are together of bulk at most 1048576: NARROWER than '..Said'. Prove '..Said' where nothing that the law and all that it calls make is longer than what came in: it says more and counts as full. Else prove '..UptoSaid'. A law counts once. -/
mutual
def uptoBulk {H : Type} : DataW H → Nat
  | .lit (.string bytes) => bytes.length + 1
  | .lit _ => 1
  | .nil => 1
  | .ptr d => uptoBulk d + 1
  | .slice elems spare => uptoBulkAll elems + uptoBulkAll spare + 1
  | .agg parts => uptoBulkAll parts + 1
  | .iface _ d => uptoBulk d + 1
  | .map entries => uptoBulkEntries entries + 1
  | .held _ => 1
def uptoBulkAll {H : Type} : List (DataW H) → Nat
  | [] => 0
  | d :: r => uptoBulk d + uptoBulkAll r
def uptoBulkEntries {H : Type} : List (Lit × DataW H) → Nat
  | [] => 0
  | x :: r => uptoBulkEntry x + uptoBulkEntries r
def uptoBulkEntry {H : Type} : Lit × DataW H → Nat
  | (.string bytes, d) => bytes.length + uptoBulk d + 1
  | (_, d) => uptoBulk d + 1
 end
def uptoSmall : (H : Type) → List (DataW H) → Bool := fun _ ds => decide (uptoBulkAll ds ≤ 1048576)
def OpenSpec.upto (s : _root_.Go.ChangeSpec) : _root_.Go.OpenSpec := { _root_.Go.OpenSpec.ofChange s with cond := some uptoSmall }

/-- 'burrowlaw03.ChachaPieces', WHERE WHAT IT READS IS OF BULK AT MOST 1048576: true; the input reads as it did. -/
def chachaPiecesUptoRow : OpenClaim := { program := "yticjghmgbmjkiaadoor", sum := "b7ac7b111505a6a516435d35cc6f2a3fae922bf8f4406cbba1701173142cfd0d", func := "burrow/burrowlaw03.ChachaPieces", spec := "chachaPieces", unfollowed := true, recurses := true, named := ["burrow/chacha.heads", "burrow/chacha.quarters"], apart := false, laid := [("burrow/chacha.heads", laid_burrow_chacha_heads), ("burrow/chacha.quarters", laid_burrow_chacha_quarters)], narrowed := true }
def ChachaPiecesUptoSaid : Prop := chachaPiecesUptoRow.holds Tryd.pinned (OpenSpec.upto chachaPiecesSpec)

/-- 'burrowlaw03.ChachaMixes', WHERE WHAT IT READS IS OF BULK AT MOST 1048576: true; the input reads as it did. -/
def chachaMixesUptoRow : OpenClaim := { program := "yticjghmgbmjkiaadoor", sum := "b7ac7b111505a6a516435d35cc6f2a3fae922bf8f4406cbba1701173142cfd0d", func := "burrow/burrowlaw03.ChachaMixes", spec := "chachaMixes", unfollowed := true, recurses := true, named := ["burrow/chacha.heads", "burrow/chacha.quarters"], apart := false, laid := [("burrow/chacha.heads", laid_burrow_chacha_heads), ("burrow/chacha.quarters", laid_burrow_chacha_quarters)], narrowed := true }
def ChachaMixesUptoSaid : Prop := chachaMixesUptoRow.holds Tryd.pinned (OpenSpec.upto chachaMixesSpec)

/-- 'burrowlaw03.ChachaTwice', WHERE WHAT IT READS IS OF BULK AT MOST 1048576: true; the input reads as it did. -/
def chachaTwiceUptoRow : OpenClaim := { program := "yticjghmgbmjkiaadoor", sum := "b7ac7b111505a6a516435d35cc6f2a3fae922bf8f4406cbba1701173142cfd0d", func := "burrow/burrowlaw03.ChachaTwice", spec := "chachaTwice", unfollowed := true, recurses := true, named := ["burrow/chacha.heads", "burrow/chacha.quarters"], apart := false, laid := [("burrow/chacha.heads", laid_burrow_chacha_heads), ("burrow/chacha.quarters", laid_burrow_chacha_quarters)], narrowed := true }
def ChachaTwiceUptoSaid : Prop := chachaTwiceUptoRow.holds Tryd.pinned (OpenSpec.upto chachaTwiceSpec)

/-- 'burrowlaw03.ChachaJoins', WHERE WHAT IT READS IS OF BULK AT MOST 1048576: true; the input reads as it did. -/
def chachaJoinsUptoRow : OpenClaim := { program := "yticjghmgbmjkiaadoor", sum := "b7ac7b111505a6a516435d35cc6f2a3fae922bf8f4406cbba1701173142cfd0d", func := "burrow/burrowlaw03.ChachaJoins", spec := "chachaJoins", unfollowed := true, recurses := true, named := ["burrow/chacha.heads", "burrow/chacha.quarters"], apart := false, laid := [("burrow/chacha.heads", laid_burrow_chacha_heads), ("burrow/chacha.quarters", laid_burrow_chacha_quarters)], narrowed := true }
def ChachaJoinsUptoSaid : Prop := chachaJoinsUptoRow.holds Tryd.pinned (OpenSpec.upto chachaJoinsSpec)

/-- 'burrowlaw13.SeatNodes', WHERE WHAT IT READS IS OF BULK AT MOST 1048576: true; the input reads as it did. -/
def seatNodesUptoRow : OpenClaim := { program := "yticjghmgbmjkiaadoor", sum := "b7ac7b111505a6a516435d35cc6f2a3fae922bf8f4406cbba1701173142cfd0d", func := "burrow/burrowlaw13.SeatNodes", spec := "seatNodes", named := ["math/bits.deBruijn64tab"], apart := false, laid := [("math/bits.deBruijn64tab", laid_math_bits_deBruijn64tab)], narrowed := true }
def SeatNodesUptoSaid : Prop := seatNodesUptoRow.holds Tryd.pinned (OpenSpec.upto seatNodesSpec)

/-- 'burrowlaw13.SeatPaths', WHERE WHAT IT READS IS OF BULK AT MOST 1048576: true; the input reads as it did. -/
def seatPathsUptoRow : OpenClaim := { program := "yticjghmgbmjkiaadoor", sum := "b7ac7b111505a6a516435d35cc6f2a3fae922bf8f4406cbba1701173142cfd0d", func := "burrow/burrowlaw13.SeatPaths", spec := "seatPaths", unfollowed := true, recurses := true, named := ["math/bits.deBruijn64tab"], apart := false, laid := [("math/bits.deBruijn64tab", laid_math_bits_deBruijn64tab)], narrowed := true }
def SeatPathsUptoSaid : Prop := seatPathsUptoRow.holds Tryd.pinned (OpenSpec.upto seatPathsSpec)

/-- 'burrowlaw13.SeatCommon', WHERE WHAT IT READS IS OF BULK AT MOST 1048576: true; the input reads as it did. -/
def seatCommonUptoRow : OpenClaim := { program := "yticjghmgbmjkiaadoor", sum := "b7ac7b111505a6a516435d35cc6f2a3fae922bf8f4406cbba1701173142cfd0d", func := "burrow/burrowlaw13.SeatCommon", spec := "seatCommon", unfollowed := true, recurses := true, named := ["math/bits.deBruijn64tab"], apart := false, laid := [("math/bits.deBruijn64tab", laid_math_bits_deBruijn64tab)], narrowed := true }
def SeatCommonUptoSaid : Prop := seatCommonUptoRow.holds Tryd.pinned (OpenSpec.upto seatCommonSpec)

/-- 'burrowlaw13.SeatTree', WHERE WHAT IT READS IS OF BULK AT MOST 1048576: true; the input reads as it did. -/
def seatTreeUptoRow : OpenClaim := { program := "yticjghmgbmjkiaadoor", sum := "b7ac7b111505a6a516435d35cc6f2a3fae922bf8f4406cbba1701173142cfd0d", func := "burrow/burrowlaw13.SeatTree", spec := "seatTree", named := ["math/bits.deBruijn64tab"], apart := false, laid := [("math/bits.deBruijn64tab", laid_math_bits_deBruijn64tab)], narrowed := true }
def SeatTreeUptoSaid : Prop := seatTreeUptoRow.holds Tryd.pinned (OpenSpec.upto seatTreeSpec)

/-- 'burrowlaw13.SeatMeets', WHERE WHAT IT READS IS OF BULK AT MOST 1048576: true; the input reads as it did. -/
def seatMeetsUptoRow : OpenClaim := { program := "yticjghmgbmjkiaadoor", sum := "b7ac7b111505a6a516435d35cc6f2a3fae922bf8f4406cbba1701173142cfd0d", func := "burrow/burrowlaw13.SeatMeets", spec := "seatMeets", unfollowed := true, recurses := true, named := ["math/bits.deBruijn64tab"], apart := false, laid := [("math/bits.deBruijn64tab", laid_math_bits_deBruijn64tab)], narrowed := true }
def SeatMeetsUptoSaid : Prop := seatMeetsUptoRow.holds Tryd.pinned (OpenSpec.upto seatMeetsSpec)

end Rows
end Go.Proofs.YticjghmgbmjkiaaDoor
