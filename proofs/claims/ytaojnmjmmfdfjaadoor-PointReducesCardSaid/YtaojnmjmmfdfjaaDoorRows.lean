/-
  NARROWER THAN 'FOR EVERY INPUT', by the rows' own cells (each row's printed sentence says how): PointFrom: laid · PointAdds: laid · PointTimes: laid · PointGroup: laid · PointReduces: laid · PointMuls: laid · PointDoubles: laid.
  DERIVED. THE GIVEN ROWS OF THIS SEAT. 7 by the template 'for every input the law returns true; each argument reads behind the call as it read before'; 0 by the template 'total and deterministic' (their statements: YtaojnmjmmfdfjaaDoorTotals.lean).
  GIVEN WITH THE SEED: the statements are not yours to turn. If you find one false, say at which input.
  Laid BY PROGRAM, IN A SANDBOX (cutbox-rows.mjs): the forced cells as the released guide's own fill.sh prints them over the translation f9a2ff61fd39f9d7… (all of the seat's roots in one cut). By AI agents, Wed Nov 11 2026. No macro, syntax, notation, axiom, sorry.
-/
import Derived.Test.YtaojnmjmmfdfjaaDoorChecked
import GoSem.Claim
import GoSem.ClaimJoined
import GoSem.ClaimMapViews
import Derived.JoinedTies
import Derived.KernelRfl
namespace Go.Proofs.YtaojnmjmmfdfjaaDoor
/- THE CELL 'sum', in the pinned program and in every row, IS THE sha256 OF THE DUMP (.gsa) THAT YtaojnmjmmfdfjaaDoorProg.lean LOADS. Nothing in Lean hashes anything: it is a label: what it is worth is what the hold of that sum in a sandbox is worth. -/
noncomputable def Tryd.pinned : Pinned := { name := "ytaojnmjmmfdfjaadoor", sum := "f9a2ff61fd39f9d7ecf87407d507e126d7a958cdad7a2ca68a687557e52510b6", checked := Tryd.checked }
namespace Rows
def none {H : Type} : Left H := { results := [], args := [] }

/- WHAT THE LISTED PACKAGE-LEVEL VARIABLES READ AS WHEN THE CALL BEGINS. Each datum BY PROGRAM (the guide's laid-datum.mjs) off the statement by which the dump's own 'gosem.cut.vars' lays the variable. In a bare row this is a premise. The card (YtaojnmjmmfdfjaaDoorCards.lean) ties it to the program's text. -/
def laid_burrow_point_bend {H : Type} : DataW H := .agg [.lit (.int .u8 163), .lit (.int .u8 120), .lit (.int .u8 89), .lit (.int .u8 19), .lit (.int .u8 202), .lit (.int .u8 77), .lit (.int .u8 235), .lit (.int .u8 117), .lit (.int .u8 171), .lit (.int .u8 216), .lit (.int .u8 65), .lit (.int .u8 65), .lit (.int .u8 77), .lit (.int .u8 10), .lit (.int .u8 112), .lit (.int .u8 0), .lit (.int .u8 152), .lit (.int .u8 232), .lit (.int .u8 121), .lit (.int .u8 119), .lit (.int .u8 121), .lit (.int .u8 64), .lit (.int .u8 199), .lit (.int .u8 140), .lit (.int .u8 115), .lit (.int .u8 254), .lit (.int .u8 111), .lit (.int .u8 43), .lit (.int .u8 238), .lit (.int .u8 108), .lit (.int .u8 3), .lit (.int .u8 82)]
def laid_burrow_point_baseX {H : Type} : DataW H := .agg [.lit (.int .u8 26), .lit (.int .u8 213), .lit (.int .u8 37), .lit (.int .u8 143), .lit (.int .u8 96), .lit (.int .u8 45), .lit (.int .u8 86), .lit (.int .u8 201), .lit (.int .u8 178), .lit (.int .u8 167), .lit (.int .u8 37), .lit (.int .u8 149), .lit (.int .u8 96), .lit (.int .u8 199), .lit (.int .u8 44), .lit (.int .u8 105), .lit (.int .u8 92), .lit (.int .u8 220), .lit (.int .u8 214), .lit (.int .u8 253), .lit (.int .u8 49), .lit (.int .u8 226), .lit (.int .u8 164), .lit (.int .u8 192), .lit (.int .u8 254), .lit (.int .u8 83), .lit (.int .u8 110), .lit (.int .u8 205), .lit (.int .u8 211), .lit (.int .u8 54), .lit (.int .u8 105), .lit (.int .u8 33)]
def laid_burrow_point_baseY {H : Type} : DataW H := .agg [.lit (.int .u8 88), .lit (.int .u8 102), .lit (.int .u8 102), .lit (.int .u8 102), .lit (.int .u8 102), .lit (.int .u8 102), .lit (.int .u8 102), .lit (.int .u8 102), .lit (.int .u8 102), .lit (.int .u8 102), .lit (.int .u8 102), .lit (.int .u8 102), .lit (.int .u8 102), .lit (.int .u8 102), .lit (.int .u8 102), .lit (.int .u8 102), .lit (.int .u8 102), .lit (.int .u8 102), .lit (.int .u8 102), .lit (.int .u8 102), .lit (.int .u8 102), .lit (.int .u8 102), .lit (.int .u8 102), .lit (.int .u8 102), .lit (.int .u8 102), .lit (.int .u8 102), .lit (.int .u8 102), .lit (.int .u8 102), .lit (.int .u8 102), .lit (.int .u8 102), .lit (.int .u8 102), .lit (.int .u8 102)]
def laid_burrow_point_order {H : Type} : DataW H := .agg [.lit (.int .u64 6346243789798364141), .lit (.int .u64 1503914060200516822), .lit (.int .u64 0), .lit (.int .u64 1152921504606846976)]

/-- 'burrowlaw07.PointFrom': WHATEVER THE INPUT: true; the input reads as it did. -/
def pointFromSpec : ChangeSpec := { name := "pointFrom", fn := fun _ => fun
  | [d] => { results := [.lit (.bool true)], args := [d] }
  | _ => none }
def pointFromRow : OpenClaim := { program := "ytaojnmjmmfdfjaadoor", sum := "f9a2ff61fd39f9d7ecf87407d507e126d7a958cdad7a2ca68a687557e52510b6", func := "burrow/burrowlaw07.PointFrom", spec := "pointFrom", inPlace := ["math/bits.Add64", "math/bits.Sub64"], unfollowed := true, recurses := true, named := ["burrow/point.baseX", "burrow/point.baseY", "burrow/point.bend"], apart := false, laid := [("burrow/point.bend", laid_burrow_point_bend), ("burrow/point.baseX", laid_burrow_point_baseX), ("burrow/point.baseY", laid_burrow_point_baseY)] }
def PointFromSaid : Prop := pointFromRow.holds Tryd.pinned (OpenSpec.ofChange pointFromSpec)

/-- ITS FALSE NEIGHBOUR: 'it returns false'. Refute it at one input. -/
def pointFromWrong : ChangeSpec := { name := "pointFrom", fn := fun _ => fun
  | [d] => { results := [.lit (.bool false)], args := [d] }
  | _ => none }
def PointFromWrongFalsely : Prop := pointFromRow.holds Tryd.pinned (OpenSpec.ofChange pointFromWrong)

/-- 'burrowlaw07.PointAdds': WHATEVER THE INPUT: true; the input reads as it did. -/
def pointAddsSpec : ChangeSpec := { name := "pointAdds", fn := fun _ => fun
  | [d1, d2] => { results := [.lit (.bool true)], args := [d1, d2] }
  | _ => none }
def pointAddsRow : OpenClaim := { program := "ytaojnmjmmfdfjaadoor", sum := "f9a2ff61fd39f9d7ecf87407d507e126d7a958cdad7a2ca68a687557e52510b6", func := "burrow/burrowlaw07.PointAdds", spec := "pointAdds", inPlace := ["math/bits.Add64", "math/bits.Sub64"], unfollowed := true, recurses := true, named := ["burrow/point.baseX", "burrow/point.baseY", "burrow/point.bend"], apart := false, laid := [("burrow/point.bend", laid_burrow_point_bend), ("burrow/point.baseX", laid_burrow_point_baseX), ("burrow/point.baseY", laid_burrow_point_baseY)] }
def PointAddsSaid : Prop := pointAddsRow.holds Tryd.pinned (OpenSpec.ofChange pointAddsSpec)

/-- ITS FALSE NEIGHBOUR: 'it returns false'. Refute it at one input. -/
def pointAddsWrong : ChangeSpec := { name := "pointAdds", fn := fun _ => fun
  | [d1, d2] => { results := [.lit (.bool false)], args := [d1, d2] }
  | _ => none }
def PointAddsWrongFalsely : Prop := pointAddsRow.holds Tryd.pinned (OpenSpec.ofChange pointAddsWrong)

/-- 'burrowlaw07.PointTimes': WHATEVER THE INPUT: true; the input reads as it did. -/
def pointTimesSpec : ChangeSpec := { name := "pointTimes", fn := fun _ => fun
  | [d1, d2] => { results := [.lit (.bool true)], args := [d1, d2] }
  | _ => none }
def pointTimesRow : OpenClaim := { program := "ytaojnmjmmfdfjaadoor", sum := "f9a2ff61fd39f9d7ecf87407d507e126d7a958cdad7a2ca68a687557e52510b6", func := "burrow/burrowlaw07.PointTimes", spec := "pointTimes", inPlace := ["math/bits.Add64", "math/bits.Sub64"], unfollowed := true, recurses := true, named := ["burrow/point.baseX", "burrow/point.baseY", "burrow/point.bend"], apart := false, laid := [("burrow/point.bend", laid_burrow_point_bend), ("burrow/point.baseX", laid_burrow_point_baseX), ("burrow/point.baseY", laid_burrow_point_baseY)] }
def PointTimesSaid : Prop := pointTimesRow.holds Tryd.pinned (OpenSpec.ofChange pointTimesSpec)

/-- ITS FALSE NEIGHBOUR: 'it returns false'. Refute it at one input. -/
def pointTimesWrong : ChangeSpec := { name := "pointTimes", fn := fun _ => fun
  | [d1, d2] => { results := [.lit (.bool false)], args := [d1, d2] }
  | _ => none }
def PointTimesWrongFalsely : Prop := pointTimesRow.holds Tryd.pinned (OpenSpec.ofChange pointTimesWrong)

/-- 'burrowlaw07.PointGroup': WHATEVER THE INPUT: true; the input reads as it did. -/
def pointGroupSpec : ChangeSpec := { name := "pointGroup", fn := fun _ => fun
  | [d1, d2, d3] => { results := [.lit (.bool true)], args := [d1, d2, d3] }
  | _ => none }
def pointGroupRow : OpenClaim := { program := "ytaojnmjmmfdfjaadoor", sum := "f9a2ff61fd39f9d7ecf87407d507e126d7a958cdad7a2ca68a687557e52510b6", func := "burrow/burrowlaw07.PointGroup", spec := "pointGroup", inPlace := ["math/bits.Add64", "math/bits.Sub64"], unfollowed := true, recurses := true, named := ["burrow/point.baseX", "burrow/point.baseY", "burrow/point.bend", "burrow/point.order"], apart := false, laid := [("burrow/point.bend", laid_burrow_point_bend), ("burrow/point.baseX", laid_burrow_point_baseX), ("burrow/point.baseY", laid_burrow_point_baseY), ("burrow/point.order", laid_burrow_point_order)] }
def PointGroupSaid : Prop := pointGroupRow.holds Tryd.pinned (OpenSpec.ofChange pointGroupSpec)

/-- ITS FALSE NEIGHBOUR: 'it returns false'. Refute it at one input. -/
def pointGroupWrong : ChangeSpec := { name := "pointGroup", fn := fun _ => fun
  | [d1, d2, d3] => { results := [.lit (.bool false)], args := [d1, d2, d3] }
  | _ => none }
def PointGroupWrongFalsely : Prop := pointGroupRow.holds Tryd.pinned (OpenSpec.ofChange pointGroupWrong)

/-- 'burrowlaw07.PointReduces': WHATEVER THE INPUT: true; the input reads as it did. -/
def pointReducesSpec : ChangeSpec := { name := "pointReduces", fn := fun _ => fun
  | [d] => { results := [.lit (.bool true)], args := [d] }
  | _ => none }
def pointReducesRow : OpenClaim := { program := "ytaojnmjmmfdfjaadoor", sum := "f9a2ff61fd39f9d7ecf87407d507e126d7a958cdad7a2ca68a687557e52510b6", func := "burrow/burrowlaw07.PointReduces", spec := "pointReduces", inPlace := ["math/bits.Add64", "math/bits.Sub64"], unfollowed := true, recurses := true, named := ["burrow/point.order"], apart := false, laid := [("burrow/point.order", laid_burrow_point_order)] }
def PointReducesSaid : Prop := pointReducesRow.holds Tryd.pinned (OpenSpec.ofChange pointReducesSpec)

/-- ITS FALSE NEIGHBOUR: 'it returns false'. Refute it at one input. -/
def pointReducesWrong : ChangeSpec := { name := "pointReduces", fn := fun _ => fun
  | [d] => { results := [.lit (.bool false)], args := [d] }
  | _ => none }
def PointReducesWrongFalsely : Prop := pointReducesRow.holds Tryd.pinned (OpenSpec.ofChange pointReducesWrong)

/-- 'burrowlaw07.PointMuls': WHATEVER THE INPUT: true; the input reads as it did. -/
def pointMulsSpec : ChangeSpec := { name := "pointMuls", fn := fun _ => fun
  | [d1, d2, d3] => { results := [.lit (.bool true)], args := [d1, d2, d3] }
  | _ => none }
def pointMulsRow : OpenClaim := { program := "ytaojnmjmmfdfjaadoor", sum := "f9a2ff61fd39f9d7ecf87407d507e126d7a958cdad7a2ca68a687557e52510b6", func := "burrow/burrowlaw07.PointMuls", spec := "pointMuls", inPlace := ["math/bits.Add64", "math/bits.Sub64"], unfollowed := true, recurses := true, named := ["burrow/point.order"], apart := false, laid := [("burrow/point.order", laid_burrow_point_order)] }
def PointMulsSaid : Prop := pointMulsRow.holds Tryd.pinned (OpenSpec.ofChange pointMulsSpec)

/-- ITS FALSE NEIGHBOUR: 'it returns false'. Refute it at one input. -/
def pointMulsWrong : ChangeSpec := { name := "pointMuls", fn := fun _ => fun
  | [d1, d2, d3] => { results := [.lit (.bool false)], args := [d1, d2, d3] }
  | _ => none }
def PointMulsWrongFalsely : Prop := pointMulsRow.holds Tryd.pinned (OpenSpec.ofChange pointMulsWrong)

/-- 'burrowlaw07.PointDoubles': WHATEVER THE INPUT: true; the input reads as it did. -/
def pointDoublesSpec : ChangeSpec := { name := "pointDoubles", fn := fun _ => fun
  | [d1, d2, d3] => { results := [.lit (.bool true)], args := [d1, d2, d3] }
  | _ => none }
def pointDoublesRow : OpenClaim := { program := "ytaojnmjmmfdfjaadoor", sum := "f9a2ff61fd39f9d7ecf87407d507e126d7a958cdad7a2ca68a687557e52510b6", func := "burrow/burrowlaw07.PointDoubles", spec := "pointDoubles", inPlace := ["math/bits.Add64", "math/bits.Sub64"], unfollowed := true, recurses := true, named := ["burrow/point.baseX", "burrow/point.baseY", "burrow/point.bend"], apart := false, laid := [("burrow/point.bend", laid_burrow_point_bend), ("burrow/point.baseX", laid_burrow_point_baseX), ("burrow/point.baseY", laid_burrow_point_baseY)] }
def PointDoublesSaid : Prop := pointDoublesRow.holds Tryd.pinned (OpenSpec.ofChange pointDoublesSpec)

/-- ITS FALSE NEIGHBOUR: 'it returns false'. Refute it at one input. -/
def pointDoublesWrong : ChangeSpec := { name := "pointDoubles", fn := fun _ => fun
  | [d1, d2, d3] => { results := [.lit (.bool false)], args := [d1, d2, d3] }
  | _ => none }
def PointDoublesWrongFalsely : Prop := pointDoublesRow.holds Tryd.pinned (OpenSpec.ofChange pointDoublesWrong)

/- THE SECOND FORM. 'bulk': how many values and letters a reading holds, each counted each time it is reached (what is shared counts as often as it is met; a slice's spare places count too). A statement '..UptoSaid' is the law's where the arguments, and the package variables that the reading takes, are together of bulk at most 1048576: NARROWER than '..Said'. Prove '..Said' where nothing that the law and all that it calls make is longer than what came in: it says more and counts as full. Else prove '..UptoSaid'. A law counts once. -/
mutual
def uptoBulk {H : Type} : DataW H → Nat
  | .lit (.string bytes) => bytes.length + 1
  | .lit _ => 1
  | .nil => 1
  | .ptr d => uptoBulk d + 1
  | .slice elems spare => uptoBulkAll elems + uptoBulkAll spare + 1
  | .agg parts => uptoBulkAll parts + 1
  | .iface _ d => uptoBulk d + 1
  | .map entries => uptoBulkEntries entries + 1
  | .held _ => 1
def uptoBulkAll {H : Type} : List (DataW H) → Nat
  | [] => 0
  | d :: r => uptoBulk d + uptoBulkAll r
def uptoBulkEntries {H : Type} : List (Lit × DataW H) → Nat
  | [] => 0
  | x :: r => uptoBulkEntry x + uptoBulkEntries r
def uptoBulkEntry {H : Type} : Lit × DataW H → Nat
  | (.string bytes, d) => bytes.length + uptoBulk d + 1
  | (_, d) => uptoBulk d + 1
 end
def uptoSmall : (H : Type) → List (DataW H) → Bool := fun _ ds => decide (uptoBulkAll ds ≤ 1048576)
def OpenSpec.upto (s : _root_.Go.ChangeSpec) : _root_.Go.OpenSpec := { _root_.Go.OpenSpec.ofChange s with cond := some uptoSmall }

/-- 'burrowlaw07.PointFrom', WHERE WHAT IT READS IS OF BULK AT MOST 1048576: true; the input reads as it did. -/
def pointFromUptoRow : OpenClaim := { program := "ytaojnmjmmfdfjaadoor", sum := "f9a2ff61fd39f9d7ecf87407d507e126d7a958cdad7a2ca68a687557e52510b6", func := "burrow/burrowlaw07.PointFrom", spec := "pointFrom", inPlace := ["math/bits.Add64", "math/bits.Sub64"], unfollowed := true, recurses := true, named := ["burrow/point.baseX", "burrow/point.baseY", "burrow/point.bend"], apart := false, laid := [("burrow/point.bend", laid_burrow_point_bend), ("burrow/point.baseX", laid_burrow_point_baseX), ("burrow/point.baseY", laid_burrow_point_baseY)], narrowed := true }
def PointFromUptoSaid : Prop := pointFromUptoRow.holds Tryd.pinned (OpenSpec.upto pointFromSpec)

/-- 'burrowlaw07.PointAdds', WHERE WHAT IT READS IS OF BULK AT MOST 1048576: true; the input reads as it did. -/
def pointAddsUptoRow : OpenClaim := { program := "ytaojnmjmmfdfjaadoor", sum := "f9a2ff61fd39f9d7ecf87407d507e126d7a958cdad7a2ca68a687557e52510b6", func := "burrow/burrowlaw07.PointAdds", spec := "pointAdds", inPlace := ["math/bits.Add64", "math/bits.Sub64"], unfollowed := true, recurses := true, named := ["burrow/point.baseX", "burrow/point.baseY", "burrow/point.bend"], apart := false, laid := [("burrow/point.bend", laid_burrow_point_bend), ("burrow/point.baseX", laid_burrow_point_baseX), ("burrow/point.baseY", laid_burrow_point_baseY)], narrowed := true }
def PointAddsUptoSaid : Prop := pointAddsUptoRow.holds Tryd.pinned (OpenSpec.upto pointAddsSpec)

/-- 'burrowlaw07.PointTimes', WHERE WHAT IT READS IS OF BULK AT MOST 1048576: true; the input reads as it did. -/
def pointTimesUptoRow : OpenClaim := { program := "ytaojnmjmmfdfjaadoor", sum := "f9a2ff61fd39f9d7ecf87407d507e126d7a958cdad7a2ca68a687557e52510b6", func := "burrow/burrowlaw07.PointTimes", spec := "pointTimes", inPlace := ["math/bits.Add64", "math/bits.Sub64"], unfollowed := true, recurses := true, named := ["burrow/point.baseX", "burrow/point.baseY", "burrow/point.bend"], apart := false, laid := [("burrow/point.bend", laid_burrow_point_bend), ("burrow/point.baseX", laid_burrow_point_baseX), ("burrow/point.baseY", laid_burrow_point_baseY)], narrowed := true }
def PointTimesUptoSaid : Prop := pointTimesUptoRow.holds Tryd.pinned (OpenSpec.upto pointTimesSpec)

/-- 'burrowlaw07.PointGroup', WHERE WHAT IT READS IS OF BULK AT MOST 1048576: true; the input reads as it did. -/
def pointGroupUptoRow : OpenClaim := { program := "ytaojnmjmmfdfjaadoor", sum := "f9a2ff61fd39f9d7ecf87407d507e126d7a958cdad7a2ca68a687557e52510b6", func := "burrow/burrowlaw07.PointGroup", spec := "pointGroup", inPlace := ["math/bits.Add64", "math/bits.Sub64"], unfollowed := true, recurses := true, named := ["burrow/point.baseX", "burrow/point.baseY", "burrow/point.bend", "burrow/point.order"], apart := false, laid := [("burrow/point.bend", laid_burrow_point_bend), ("burrow/point.baseX", laid_burrow_point_baseX), ("burrow/point.baseY", laid_burrow_point_baseY), ("burrow/point.order", laid_burrow_point_order)], narrowed := true }
def PointGroupUptoSaid : Prop := pointGroupUptoRow.holds Tryd.pinned (OpenSpec.upto pointGroupSpec)

/-- 'burrowlaw07.PointReduces', WHERE WHAT IT READS IS OF BULK AT MOST 1048576: true; the input reads as it did. -/
def pointReducesUptoRow : OpenClaim := { program := "ytaojnmjmmfdfjaadoor", sum := "f9a2ff61fd39f9d7ecf87407d507e126d7a958cdad7a2ca68a687557e52510b6", func := "burrow/burrowlaw07.PointReduces", spec := "pointReduces", inPlace := ["math/bits.Add64", "math/bits.Sub64"], unfollowed := true, recurses := true, named := ["burrow/point.order"], apart := false, laid := [("burrow/point.order", laid_burrow_point_order)], narrowed := true }
def PointReducesUptoSaid : Prop := pointReducesUptoRow.holds Tryd.pinned (OpenSpec.upto pointReducesSpec)

/-- 'burrowlaw07.PointMuls', WHERE WHAT IT READS IS OF BULK AT MOST 1048576: true; the input reads as it did. -/
def pointMulsUptoRow : OpenClaim := { program := "ytaojnmjmmfdfjaadoor", sum := "f9a2ff61fd39f9d7ecf87407d507e126d7a958cdad7a2ca68a687557e52510b6", func := "burrow/burrowlaw07.PointMuls", spec := "pointMuls", inPlace := ["math/bits.Add64", "math/bits.Sub64"], unfollowed := true, recurses := true, named := ["burrow/point.order"], apart := false, laid := [("burrow/point.order", laid_burrow_point_order)], narrowed := true }
def PointMulsUptoSaid : Prop := pointMulsUptoRow.holds Tryd.pinned (OpenSpec.upto pointMulsSpec)

/-- 'burrowlaw07.PointDoubles', WHERE WHAT IT READS IS OF BULK AT MOST 1048576: true; the input reads as it did. -/
def pointDoublesUptoRow : OpenClaim := { program := "ytaojnmjmmfdfjaadoor", sum := "f9a2ff61fd39f9d7ecf87407d507e126d7a958cdad7a2ca68a687557e52510b6", func := "burrow/burrowlaw07.PointDoubles", spec := "pointDoubles", inPlace := ["math/bits.Add64", "math/bits.Sub64"], unfollowed := true, recurses := true, named := ["burrow/point.baseX", "burrow/point.baseY", "burrow/point.bend"], apart := false, laid := [("burrow/point.bend", laid_burrow_point_bend), ("burrow/point.baseX", laid_burrow_point_baseX), ("burrow/point.baseY", laid_burrow_point_baseY)], narrowed := true }
def PointDoublesUptoSaid : Prop := pointDoublesUptoRow.holds Tryd.pinned (OpenSpec.upto pointDoublesSpec)

end Rows
end Go.Proofs.YtaojnmjmmfdfjaaDoor
