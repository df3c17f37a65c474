/-
  NARROWER THAN 'FOR EVERY INPUT', by the rows' own cells (each row's printed sentence says how): CipherHides: laid · CipherBoth: laid · CipherNone: laid · LinkPlays: laid · LinkAll: laid · LinkNone: laid · LinkBoth: laid · ChainPlays: laid · ChainOnce: laid · ChainNone: laid · ChainLinks: laid · ChainErases: laid.
  DERIVED. THE GIVEN ROWS OF THIS SEAT. 12 by the template 'for every input the law returns true; each argument reads behind the call as it read before'; 0 by the template 'total and deterministic' (their statements: YtoiendjhplbjjaaDoorTotals.lean).
  GIVEN WITH THE SEED: the statements are not yours to turn. If you find one false, say at which input.
  Laid BY PROGRAM, IN A SANDBOX (cutbox-rows.mjs): the forced cells as the released guide's own fill.sh prints them over the translation cd4e84119f230a31… (all of the seat's roots in one cut). By AI agents, Wed Nov 11 2026. No macro, syntax, notation, axiom, sorry.
-/
import Derived.Test.YtoiendjhplbjjaaDoorChecked
import GoSem.Claim
import GoSem.ClaimJoined
import GoSem.ClaimMapViews
import Derived.JoinedTies
import Derived.KernelRfl
namespace Go.Proofs.YtoiendjhplbjjaaDoor
/- THE CELL 'sum', in the pinned program and in every row, IS THE sha256 OF THE DUMP (.gsa) THAT YtoiendjhplbjjaaDoorProg.lean LOADS. Nothing in Lean hashes anything: it is a label: what it is worth is what the hold of that sum in a sandbox is worth. -/
noncomputable def Tryd.pinned : Pinned := { name := "ytoiendjhplbjjaadoor", sum := "cd4e84119f230a31ed22270e30c293825635d9143cd56993bde825a19c40c75d", checked := Tryd.checked }
namespace Rows
def none {H : Type} : Left H := { results := [], args := [] }

/- WHAT THE LISTED PACKAGE-LEVEL VARIABLES READ AS WHEN THE CALL BEGINS. Each datum BY PROGRAM (the guide's laid-datum.mjs) off the statement by which the dump's own 'gosem.cut.vars' lays the variable. In a bare row this is a premise. The card (YtoiendjhplbjjaaDoorCards.lean) ties it to the program's text. -/
def laid_burrow_sha_cubes {H : Type} : DataW H := .agg [.lit (.int .u64 4794697086780616226), .lit (.int .u64 8158064640168781261), .lit (.int .u64 13096744586834688815), .lit (.int .u64 16840607885511220156), .lit (.int .u64 4131703408338449720), .lit (.int .u64 6480981068601479193), .lit (.int .u64 10538285296894168987), .lit (.int .u64 12329834152419229976), .lit (.int .u64 15566598209576043074), .lit (.int .u64 1334009975649890238), .lit (.int .u64 2608012711638119052), .lit (.int .u64 6128411473006802146), .lit (.int .u64 8268148722764581231), .lit (.int .u64 9286055187155687089), .lit (.int .u64 11230858885718282805), .lit (.int .u64 13951009754708518548), .lit (.int .u64 16472876342353939154), .lit (.int .u64 17275323862435702243), .lit (.int .u64 1135362057144423861), .lit (.int .u64 2597628984639134821), .lit (.int .u64 3308224258029322869), .lit (.int .u64 5365058923640841347), .lit (.int .u64 6679025012923562964), .lit (.int .u64 8573033837759648693), .lit (.int .u64 10970295158949994411), .lit (.int .u64 12119686244451234320), .lit (.int .u64 12683024718118986047), .lit (.int .u64 13788192230050041572), .lit (.int .u64 14330467153632333762), .lit (.int .u64 15395433587784984357), .lit (.int .u64 489312712824947311), .lit (.int .u64 1452737877330783856), .lit (.int .u64 2861767655752347644), .lit (.int .u64 3322285676063803686), .lit (.int .u64 5560940570517711597), .lit (.int .u64 5996557281743188959), .lit (.int .u64 7280758554555802590), .lit (.int .u64 8532644243296465576), .lit (.int .u64 9350256976987008742), .lit (.int .u64 10552545826968843579), .lit (.int .u64 11727347734174303076), .lit (.int .u64 12113106623233404929), .lit (.int .u64 14000437183269869457), .lit (.int .u64 14369950271660146224), .lit (.int .u64 15101387698204529176), .lit (.int .u64 15463397548674623760), .lit (.int .u64 17586052441742319658), .lit (.int .u64 1182934255886127544), .lit (.int .u64 1847814050463011016), .lit (.int .u64 2177327727835720531), .lit (.int .u64 2830643537854262169), .lit (.int .u64 3796741975233480872), .lit (.int .u64 4115178125766777443), .lit (.int .u64 5681478168544905931), .lit (.int .u64 6601373596472566643), .lit (.int .u64 7507060721942968483), .lit (.int .u64 8399075790359081724), .lit (.int .u64 8693463985226723168), .lit (.int .u64 9568029438360202098), .lit (.int .u64 10144078919501101548), .lit (.int .u64 10430055236837252648), .lit (.int .u64 11840083180663258601), .lit (.int .u64 13761210420658862357), .lit (.int .u64 14299343276471374635), .lit (.int .u64 14566680578165727644), .lit (.int .u64 15097957966210449927), .lit (.int .u64 16922976911328602910), .lit (.int .u64 17689382322260857208), .lit (.int .u64 500013540394364858), .lit (.int .u64 748580250866718886), .lit (.int .u64 1242879168328830382), .lit (.int .u64 1977374033974150939), .lit (.int .u64 2944078676154940804), .lit (.int .u64 3659926193048069267), .lit (.int .u64 4368137639120453308), .lit (.int .u64 4836135668995329356), .lit (.int .u64 5532061633213252278), .lit (.int .u64 6448918945643986474), .lit (.int .u64 6902733635092675308), .lit (.int .u64 7801388544844847127)]
def laid_burrow_sha_squares {H : Type} : DataW H := .agg [.lit (.int .u64 7640891576956012808), .lit (.int .u64 13503953896175478587), .lit (.int .u64 4354685564936845355), .lit (.int .u64 11912009170470909681), .lit (.int .u64 5840696475078001361), .lit (.int .u64 11170449401992604703), .lit (.int .u64 2270897969802886507), .lit (.int .u64 6620516959819538809)]
def laid_burrow_chacha_heads {H : Type} : DataW H := .agg [.lit (.int .u32 1634760805), .lit (.int .u32 857760878), .lit (.int .u32 2036477234), .lit (.int .u32 1797285236)]
def laid_burrow_chacha_quarters {H : Type} : DataW H := .agg [.agg [.lit (.int .i64 0), .lit (.int .i64 4), .lit (.int .i64 8), .lit (.int .i64 12)], .agg [.lit (.int .i64 1), .lit (.int .i64 5), .lit (.int .i64 9), .lit (.int .i64 13)], .agg [.lit (.int .i64 2), .lit (.int .i64 6), .lit (.int .i64 10), .lit (.int .i64 14)], .agg [.lit (.int .i64 3), .lit (.int .i64 7), .lit (.int .i64 11), .lit (.int .i64 15)], .agg [.lit (.int .i64 0), .lit (.int .i64 5), .lit (.int .i64 10), .lit (.int .i64 15)], .agg [.lit (.int .i64 1), .lit (.int .i64 6), .lit (.int .i64 11), .lit (.int .i64 12)], .agg [.lit (.int .i64 2), .lit (.int .i64 7), .lit (.int .i64 8), .lit (.int .i64 13)], .agg [.lit (.int .i64 3), .lit (.int .i64 4), .lit (.int .i64 9), .lit (.int .i64 14)]]
def laid_math_bits_deBruijn64tab {H : Type} : DataW H := .agg [.lit (.int .u8 0), .lit (.int .u8 1), .lit (.int .u8 56), .lit (.int .u8 2), .lit (.int .u8 57), .lit (.int .u8 49), .lit (.int .u8 28), .lit (.int .u8 3), .lit (.int .u8 61), .lit (.int .u8 58), .lit (.int .u8 42), .lit (.int .u8 50), .lit (.int .u8 38), .lit (.int .u8 29), .lit (.int .u8 17), .lit (.int .u8 4), .lit (.int .u8 62), .lit (.int .u8 47), .lit (.int .u8 59), .lit (.int .u8 36), .lit (.int .u8 45), .lit (.int .u8 43), .lit (.int .u8 51), .lit (.int .u8 22), .lit (.int .u8 53), .lit (.int .u8 39), .lit (.int .u8 33), .lit (.int .u8 30), .lit (.int .u8 24), .lit (.int .u8 18), .lit (.int .u8 12), .lit (.int .u8 5), .lit (.int .u8 63), .lit (.int .u8 55), .lit (.int .u8 48), .lit (.int .u8 27), .lit (.int .u8 60), .lit (.int .u8 41), .lit (.int .u8 37), .lit (.int .u8 16), .lit (.int .u8 46), .lit (.int .u8 35), .lit (.int .u8 44), .lit (.int .u8 21), .lit (.int .u8 52), .lit (.int .u8 32), .lit (.int .u8 23), .lit (.int .u8 11), .lit (.int .u8 54), .lit (.int .u8 26), .lit (.int .u8 40), .lit (.int .u8 15), .lit (.int .u8 34), .lit (.int .u8 20), .lit (.int .u8 31), .lit (.int .u8 10), .lit (.int .u8 25), .lit (.int .u8 14), .lit (.int .u8 19), .lit (.int .u8 9), .lit (.int .u8 13), .lit (.int .u8 8), .lit (.int .u8 7), .lit (.int .u8 6)]

/-- 'burrowlaw10.CipherHides': WHATEVER THE INPUT: true; the input reads as it did. -/
def cipherHidesSpec : ChangeSpec := { name := "cipherHides", fn := fun _ => fun
  | [d1, d2, d3] => { results := [.lit (.bool true)], args := [d1, d2, d3] }
  | _ => none }
def cipherHidesRow : OpenClaim := { program := "ytoiendjhplbjjaadoor", sum := "cd4e84119f230a31ed22270e30c293825635d9143cd56993bde825a19c40c75d", func := "burrow/burrowlaw10.CipherHides", spec := "cipherHides", inPlace := ["math/bits.Add64"], unfollowed := true, recurses := true, named := ["burrow/sha.squares", "burrow/sha.cubes", "burrow/chacha.heads", "burrow/chacha.quarters"], apart := false, laid := [("burrow/sha.cubes", laid_burrow_sha_cubes), ("burrow/sha.squares", laid_burrow_sha_squares), ("burrow/chacha.heads", laid_burrow_chacha_heads), ("burrow/chacha.quarters", laid_burrow_chacha_quarters)] }
def CipherHidesSaid : Prop := cipherHidesRow.holds Tryd.pinned (OpenSpec.ofChange cipherHidesSpec)

/-- ITS FALSE NEIGHBOUR: 'it returns false'. Refute it at one input. -/
def cipherHidesWrong : ChangeSpec := { name := "cipherHides", fn := fun _ => fun
  | [d1, d2, d3] => { results := [.lit (.bool false)], args := [d1, d2, d3] }
  | _ => none }
def CipherHidesWrongFalsely : Prop := cipherHidesRow.holds Tryd.pinned (OpenSpec.ofChange cipherHidesWrong)

/-- 'burrowlaw10.CipherBoth': WHATEVER THE INPUT: true; the input reads as it did. -/
def cipherBothSpec : ChangeSpec := { name := "cipherBoth", fn := fun _ => fun
  | [d1, d2] => { results := [.lit (.bool true)], args := [d1, d2] }
  | _ => none }
def cipherBothRow : OpenClaim := { program := "ytoiendjhplbjjaadoor", sum := "cd4e84119f230a31ed22270e30c293825635d9143cd56993bde825a19c40c75d", func := "burrow/burrowlaw10.CipherBoth", spec := "cipherBoth", inPlace := ["math/bits.Add64"], unfollowed := true, recurses := true, named := ["burrow/sha.squares", "burrow/sha.cubes", "burrow/chacha.heads", "burrow/chacha.quarters"], apart := false, laid := [("burrow/sha.cubes", laid_burrow_sha_cubes), ("burrow/sha.squares", laid_burrow_sha_squares), ("burrow/chacha.heads", laid_burrow_chacha_heads), ("burrow/chacha.quarters", laid_burrow_chacha_quarters)] }
def CipherBothSaid : Prop := cipherBothRow.holds Tryd.pinned (OpenSpec.ofChange cipherBothSpec)

/-- ITS FALSE NEIGHBOUR: 'it returns false'. Refute it at one input. -/
def cipherBothWrong : ChangeSpec := { name := "cipherBoth", fn := fun _ => fun
  | [d1, d2] => { results := [.lit (.bool false)], args := [d1, d2] }
  | _ => none }
def CipherBothWrongFalsely : Prop := cipherBothRow.holds Tryd.pinned (OpenSpec.ofChange cipherBothWrong)

/-- 'burrowlaw10.CipherNone': WHATEVER THE INPUT: true; the input reads as it did. -/
def cipherNoneSpec : ChangeSpec := { name := "cipherNone", fn := fun _ => fun
  | [d1, d2] => { results := [.lit (.bool true)], args := [d1, d2] }
  | _ => none }
def cipherNoneRow : OpenClaim := { program := "ytoiendjhplbjjaadoor", sum := "cd4e84119f230a31ed22270e30c293825635d9143cd56993bde825a19c40c75d", func := "burrow/burrowlaw10.CipherNone", spec := "cipherNone", inPlace := ["math/bits.Add64"], unfollowed := true, recurses := true, named := ["burrow/sha.squares", "burrow/sha.cubes", "burrow/chacha.heads", "burrow/chacha.quarters"], apart := false, laid := [("burrow/sha.cubes", laid_burrow_sha_cubes), ("burrow/sha.squares", laid_burrow_sha_squares), ("burrow/chacha.heads", laid_burrow_chacha_heads), ("burrow/chacha.quarters", laid_burrow_chacha_quarters)] }
def CipherNoneSaid : Prop := cipherNoneRow.holds Tryd.pinned (OpenSpec.ofChange cipherNoneSpec)

/-- ITS FALSE NEIGHBOUR: 'it returns false'. Refute it at one input. -/
def cipherNoneWrong : ChangeSpec := { name := "cipherNone", fn := fun _ => fun
  | [d1, d2] => { results := [.lit (.bool false)], args := [d1, d2] }
  | _ => none }
def CipherNoneWrongFalsely : Prop := cipherNoneRow.holds Tryd.pinned (OpenSpec.ofChange cipherNoneWrong)

/-- 'burrowlaw12.LinkPlays': WHATEVER THE INPUT: true; the input reads as it did. -/
def linkPlaysSpec : ChangeSpec := { name := "linkPlays", fn := fun _ => fun
  | [d1, d2, d3] => { results := [.lit (.bool true)], args := [d1, d2, d3] }
  | _ => none }
def linkPlaysRow : OpenClaim := { program := "ytoiendjhplbjjaadoor", sum := "cd4e84119f230a31ed22270e30c293825635d9143cd56993bde825a19c40c75d", func := "burrow/burrowlaw12.LinkPlays", spec := "linkPlays", inPlace := ["math/bits.Add64"], unfollowed := true, recurses := true, named := ["burrow/chacha.heads", "burrow/chacha.quarters"], apart := false, laid := [("burrow/chacha.heads", laid_burrow_chacha_heads), ("burrow/chacha.quarters", laid_burrow_chacha_quarters)] }
def LinkPlaysSaid : Prop := linkPlaysRow.holds Tryd.pinned (OpenSpec.ofChange linkPlaysSpec)

/-- ITS FALSE NEIGHBOUR: 'it returns false'. Refute it at one input. -/
def linkPlaysWrong : ChangeSpec := { name := "linkPlays", fn := fun _ => fun
  | [d1, d2, d3] => { results := [.lit (.bool false)], args := [d1, d2, d3] }
  | _ => none }
def LinkPlaysWrongFalsely : Prop := linkPlaysRow.holds Tryd.pinned (OpenSpec.ofChange linkPlaysWrong)

/-- 'burrowlaw12.LinkAll': WHATEVER THE INPUT: true; the input reads as it did. -/
def linkAllSpec : ChangeSpec := { name := "linkAll", fn := fun _ => fun
  | [d] => { results := [.lit (.bool true)], args := [d] }
  | _ => none }
def linkAllRow : OpenClaim := { program := "ytoiendjhplbjjaadoor", sum := "cd4e84119f230a31ed22270e30c293825635d9143cd56993bde825a19c40c75d", func := "burrow/burrowlaw12.LinkAll", spec := "linkAll", inPlace := ["math/bits.Add64"], unfollowed := true, recurses := true, named := ["burrow/chacha.heads", "burrow/chacha.quarters"], apart := false, laid := [("burrow/chacha.heads", laid_burrow_chacha_heads), ("burrow/chacha.quarters", laid_burrow_chacha_quarters)] }
def LinkAllSaid : Prop := linkAllRow.holds Tryd.pinned (OpenSpec.ofChange linkAllSpec)

/-- ITS FALSE NEIGHBOUR: 'it returns false'. Refute it at one input. -/
def linkAllWrong : ChangeSpec := { name := "linkAll", fn := fun _ => fun
  | [d] => { results := [.lit (.bool false)], args := [d] }
  | _ => none }
def LinkAllWrongFalsely : Prop := linkAllRow.holds Tryd.pinned (OpenSpec.ofChange linkAllWrong)

/-- 'burrowlaw12.LinkNone': WHATEVER THE INPUT: true; the input reads as it did. -/
def linkNoneSpec : ChangeSpec := { name := "linkNone", fn := fun _ => fun
  | [d1, d2] => { results := [.lit (.bool true)], args := [d1, d2] }
  | _ => none }
def linkNoneRow : OpenClaim := { program := "ytoiendjhplbjjaadoor", sum := "cd4e84119f230a31ed22270e30c293825635d9143cd56993bde825a19c40c75d", func := "burrow/burrowlaw12.LinkNone", spec := "linkNone", inPlace := ["math/bits.Add64"], unfollowed := true, recurses := true, named := ["burrow/chacha.heads", "burrow/chacha.quarters"], apart := false, laid := [("burrow/chacha.heads", laid_burrow_chacha_heads), ("burrow/chacha.quarters", laid_burrow_chacha_quarters)] }
def LinkNoneSaid : Prop := linkNoneRow.holds Tryd.pinned (OpenSpec.ofChange linkNoneSpec)

/-- ITS FALSE NEIGHBOUR: 'it returns false'. Refute it at one input. -/
def linkNoneWrong : ChangeSpec := { name := "linkNone", fn := fun _ => fun
  | [d1, d2] => { results := [.lit (.bool false)], args := [d1, d2] }
  | _ => none }
def LinkNoneWrongFalsely : Prop := linkNoneRow.holds Tryd.pinned (OpenSpec.ofChange linkNoneWrong)

/-- 'burrowlaw12.LinkBoth': WHATEVER THE INPUT: true; the input reads as it did. -/
def linkBothSpec : ChangeSpec := { name := "linkBoth", fn := fun _ => fun
  | [d1, d2, d3] => { results := [.lit (.bool true)], args := [d1, d2, d3] }
  | _ => none }
def linkBothRow : OpenClaim := { program := "ytoiendjhplbjjaadoor", sum := "cd4e84119f230a31ed22270e30c293825635d9143cd56993bde825a19c40c75d", func := "burrow/burrowlaw12.LinkBoth", spec := "linkBoth", inPlace := ["math/bits.Add64"], unfollowed := true, recurses := true, named := ["burrow/chacha.heads", "burrow/chacha.quarters"], apart := false, laid := [("burrow/chacha.heads", laid_burrow_chacha_heads), ("burrow/chacha.quarters", laid_burrow_chacha_quarters)] }
def LinkBothSaid : Prop := linkBothRow.holds Tryd.pinned (OpenSpec.ofChange linkBothSpec)

/-- ITS FALSE NEIGHBOUR: 'it returns false'. Refute it at one input. -/
def linkBothWrong : ChangeSpec := { name := "linkBoth", fn := fun _ => fun
  | [d1, d2, d3] => { results := [.lit (.bool false)], args := [d1, d2, d3] }
  | _ => none }
def LinkBothWrongFalsely : Prop := linkBothRow.holds Tryd.pinned (OpenSpec.ofChange linkBothWrong)

/-- 'burrowlaw19.ChainPlays': WHATEVER THE INPUT: true; the input reads as it did. -/
def chainPlaysSpec : ChangeSpec := { name := "chainPlays", fn := fun _ => fun
  | [d1, d2, d3] => { results := [.lit (.bool true)], args := [d1, d2, d3] }
  | _ => none }
def chainPlaysRow : OpenClaim := { program := "ytoiendjhplbjjaadoor", sum := "cd4e84119f230a31ed22270e30c293825635d9143cd56993bde825a19c40c75d", func := "burrow/burrowlaw19.ChainPlays", spec := "chainPlays", unfollowed := true, recurses := true, named := ["math/bits.deBruijn64tab", "burrow/sha.squares", "burrow/sha.cubes"], apart := false, laid := [("math/bits.deBruijn64tab", laid_math_bits_deBruijn64tab), ("burrow/sha.cubes", laid_burrow_sha_cubes), ("burrow/sha.squares", laid_burrow_sha_squares)] }
def ChainPlaysSaid : Prop := chainPlaysRow.holds Tryd.pinned (OpenSpec.ofChange chainPlaysSpec)

/-- ITS FALSE NEIGHBOUR: 'it returns false'. Refute it at one input. -/
def chainPlaysWrong : ChangeSpec := { name := "chainPlays", fn := fun _ => fun
  | [d1, d2, d3] => { results := [.lit (.bool false)], args := [d1, d2, d3] }
  | _ => none }
def ChainPlaysWrongFalsely : Prop := chainPlaysRow.holds Tryd.pinned (OpenSpec.ofChange chainPlaysWrong)

/-- 'burrowlaw19.ChainOnce': WHATEVER THE INPUT: true; the input reads as it did. -/
def chainOnceSpec : ChangeSpec := { name := "chainOnce", fn := fun _ => fun
  | [d1, d2, d3] => { results := [.lit (.bool true)], args := [d1, d2, d3] }
  | _ => none }
def chainOnceRow : OpenClaim := { program := "ytoiendjhplbjjaadoor", sum := "cd4e84119f230a31ed22270e30c293825635d9143cd56993bde825a19c40c75d", func := "burrow/burrowlaw19.ChainOnce", spec := "chainOnce", unfollowed := true, recurses := true, named := ["math/bits.deBruijn64tab", "burrow/sha.squares", "burrow/sha.cubes"], apart := false, laid := [("math/bits.deBruijn64tab", laid_math_bits_deBruijn64tab), ("burrow/sha.cubes", laid_burrow_sha_cubes), ("burrow/sha.squares", laid_burrow_sha_squares)] }
def ChainOnceSaid : Prop := chainOnceRow.holds Tryd.pinned (OpenSpec.ofChange chainOnceSpec)

/-- ITS FALSE NEIGHBOUR: 'it returns false'. Refute it at one input. -/
def chainOnceWrong : ChangeSpec := { name := "chainOnce", fn := fun _ => fun
  | [d1, d2, d3] => { results := [.lit (.bool false)], args := [d1, d2, d3] }
  | _ => none }
def ChainOnceWrongFalsely : Prop := chainOnceRow.holds Tryd.pinned (OpenSpec.ofChange chainOnceWrong)

/-- 'burrowlaw19.ChainNone': WHATEVER THE INPUT: true; the input reads as it did. -/
def chainNoneSpec : ChangeSpec := { name := "chainNone", fn := fun _ => fun
  | [d1, d2] => { results := [.lit (.bool true)], args := [d1, d2] }
  | _ => none }
def chainNoneRow : OpenClaim := { program := "ytoiendjhplbjjaadoor", sum := "cd4e84119f230a31ed22270e30c293825635d9143cd56993bde825a19c40c75d", func := "burrow/burrowlaw19.ChainNone", spec := "chainNone", unfollowed := true, recurses := true, named := ["math/bits.deBruijn64tab", "burrow/sha.squares", "burrow/sha.cubes"], apart := false, laid := [("math/bits.deBruijn64tab", laid_math_bits_deBruijn64tab), ("burrow/sha.cubes", laid_burrow_sha_cubes), ("burrow/sha.squares", laid_burrow_sha_squares)] }
def ChainNoneSaid : Prop := chainNoneRow.holds Tryd.pinned (OpenSpec.ofChange chainNoneSpec)

/-- ITS FALSE NEIGHBOUR: 'it returns false'. Refute it at one input. -/
def chainNoneWrong : ChangeSpec := { name := "chainNone", fn := fun _ => fun
  | [d1, d2] => { results := [.lit (.bool false)], args := [d1, d2] }
  | _ => none }
def ChainNoneWrongFalsely : Prop := chainNoneRow.holds Tryd.pinned (OpenSpec.ofChange chainNoneWrong)

/-- 'burrowlaw19.ChainLinks': WHATEVER THE INPUT: true; the input reads as it did. -/
def chainLinksSpec : ChangeSpec := { name := "chainLinks", fn := fun _ => fun
  | [d1, d2] => { results := [.lit (.bool true)], args := [d1, d2] }
  | _ => none }
def chainLinksRow : OpenClaim := { program := "ytoiendjhplbjjaadoor", sum := "cd4e84119f230a31ed22270e30c293825635d9143cd56993bde825a19c40c75d", func := "burrow/burrowlaw19.ChainLinks", spec := "chainLinks", unfollowed := true, recurses := true, named := ["math/bits.deBruijn64tab", "burrow/sha.squares", "burrow/sha.cubes"], apart := false, laid := [("math/bits.deBruijn64tab", laid_math_bits_deBruijn64tab), ("burrow/sha.cubes", laid_burrow_sha_cubes), ("burrow/sha.squares", laid_burrow_sha_squares)] }
def ChainLinksSaid : Prop := chainLinksRow.holds Tryd.pinned (OpenSpec.ofChange chainLinksSpec)

/-- ITS FALSE NEIGHBOUR: 'it returns false'. Refute it at one input. -/
def chainLinksWrong : ChangeSpec := { name := "chainLinks", fn := fun _ => fun
  | [d1, d2] => { results := [.lit (.bool false)], args := [d1, d2] }
  | _ => none }
def ChainLinksWrongFalsely : Prop := chainLinksRow.holds Tryd.pinned (OpenSpec.ofChange chainLinksWrong)

/-- 'burrowlaw19.ChainErases': WHATEVER THE INPUT: true; the input reads as it did. -/
def chainErasesSpec : ChangeSpec := { name := "chainErases", fn := fun _ => fun
  | [d1, d2] => { results := [.lit (.bool true)], args := [d1, d2] }
  | _ => none }
def chainErasesRow : OpenClaim := { program := "ytoiendjhplbjjaadoor", sum := "cd4e84119f230a31ed22270e30c293825635d9143cd56993bde825a19c40c75d", func := "burrow/burrowlaw19.ChainErases", spec := "chainErases", unfollowed := true, recurses := true, named := ["math/bits.deBruijn64tab", "burrow/sha.squares", "burrow/sha.cubes"], apart := false, laid := [("math/bits.deBruijn64tab", laid_math_bits_deBruijn64tab), ("burrow/sha.cubes", laid_burrow_sha_cubes), ("burrow/sha.squares", laid_burrow_sha_squares)] }
def ChainErasesSaid : Prop := chainErasesRow.holds Tryd.pinned (OpenSpec.ofChange chainErasesSpec)

/-- ITS FALSE NEIGHBOUR: 'it returns false'. Refute it at one input. -/
def chainErasesWrong : ChangeSpec := { name := "chainErases", fn := fun _ => fun
  | [d1, d2] => { results := [.lit (.bool false)], args := [d1, d2] }
  | _ => none }
def ChainErasesWrongFalsely : Prop := chainErasesRow.holds Tryd.pinned (OpenSpec.ofChange chainErasesWrong)

/- THE SECOND FORM. 'bulk': how many values and letters a reading holds, each counted each time it is reached (what is shared counts as often as it is met; a slice's spare places count too). A statement '..UptoSaid' is the law's where the arguments, and the package variables that the reading takes, are together of bulk at most 1048576: NARROWER than '..Said'. Prove '..Said' where nothing that the law and all that it calls make is longer than what came in: it says more and counts as full. Else prove '..UptoSaid'. A law counts once. -/
mutual
def uptoBulk {H : Type} : DataW H → Nat
  | .lit (.string bytes) => bytes.length + 1
  | .lit _ => 1
  | .nil => 1
  | .ptr d => uptoBulk d + 1
  | .slice elems spare => uptoBulkAll elems + uptoBulkAll spare + 1
  | .agg parts => uptoBulkAll parts + 1
  | .iface _ d => uptoBulk d + 1
  | .map entries => uptoBulkEntries entries + 1
  | .held _ => 1
def uptoBulkAll {H : Type} : List (DataW H) → Nat
  | [] => 0
  | d :: r => uptoBulk d + uptoBulkAll r
def uptoBulkEntries {H : Type} : List (Lit × DataW H) → Nat
  | [] => 0
  | x :: r => uptoBulkEntry x + uptoBulkEntries r
def uptoBulkEntry {H : Type} : Lit × DataW H → Nat
  | (.string bytes, d) => bytes.length + uptoBulk d + 1
  | (_, d) => uptoBulk d + 1
 end
def uptoSmall : (H : Type) → List (DataW H) → Bool := fun _ ds => decide (uptoBulkAll ds ≤ 1048576)
def OpenSpec.upto (s : _root_.Go.ChangeSpec) : _root_.Go.OpenSpec := { _root_.Go.OpenSpec.ofChange s with cond := some uptoSmall }

/-- 'burrowlaw10.CipherHides', WHERE WHAT IT READS IS OF BULK AT MOST 1048576: true; the input reads as it did. -/
def cipherHidesUptoRow : OpenClaim := { program := "ytoiendjhplbjjaadoor", sum := "cd4e84119f230a31ed22270e30c293825635d9143cd56993bde825a19c40c75d", func := "burrow/burrowlaw10.CipherHides", spec := "cipherHides", inPlace := ["math/bits.Add64"], unfollowed := true, recurses := true, named := ["burrow/sha.squares", "burrow/sha.cubes", "burrow/chacha.heads", "burrow/chacha.quarters"], apart := false, laid := [("burrow/sha.cubes", laid_burrow_sha_cubes), ("burrow/sha.squares", laid_burrow_sha_squares), ("burrow/chacha.heads", laid_burrow_chacha_heads), ("burrow/chacha.quarters", laid_burrow_chacha_quarters)], narrowed := true }
def CipherHidesUptoSaid : Prop := cipherHidesUptoRow.holds Tryd.pinned (OpenSpec.upto cipherHidesSpec)

/-- 'burrowlaw10.CipherBoth', WHERE WHAT IT READS IS OF BULK AT MOST 1048576: true; the input reads as it did. -/
def cipherBothUptoRow : OpenClaim := { program := "ytoiendjhplbjjaadoor", sum := "cd4e84119f230a31ed22270e30c293825635d9143cd56993bde825a19c40c75d", func := "burrow/burrowlaw10.CipherBoth", spec := "cipherBoth", inPlace := ["math/bits.Add64"], unfollowed := true, recurses := true, named := ["burrow/sha.squares", "burrow/sha.cubes", "burrow/chacha.heads", "burrow/chacha.quarters"], apart := false, laid := [("burrow/sha.cubes", laid_burrow_sha_cubes), ("burrow/sha.squares", laid_burrow_sha_squares), ("burrow/chacha.heads", laid_burrow_chacha_heads), ("burrow/chacha.quarters", laid_burrow_chacha_quarters)], narrowed := true }
def CipherBothUptoSaid : Prop := cipherBothUptoRow.holds Tryd.pinned (OpenSpec.upto cipherBothSpec)

/-- 'burrowlaw10.CipherNone', WHERE WHAT IT READS IS OF BULK AT MOST 1048576: true; the input reads as it did. -/
def cipherNoneUptoRow : OpenClaim := { program := "ytoiendjhplbjjaadoor", sum := "cd4e84119f230a31ed22270e30c293825635d9143cd56993bde825a19c40c75d", func := "burrow/burrowlaw10.CipherNone", spec := "cipherNone", inPlace := ["math/bits.Add64"], unfollowed := true, recurses := true, named := ["burrow/sha.squares", "burrow/sha.cubes", "burrow/chacha.heads", "burrow/chacha.quarters"], apart := false, laid := [("burrow/sha.cubes", laid_burrow_sha_cubes), ("burrow/sha.squares", laid_burrow_sha_squares), ("burrow/chacha.heads", laid_burrow_chacha_heads), ("burrow/chacha.quarters", laid_burrow_chacha_quarters)], narrowed := true }
def CipherNoneUptoSaid : Prop := cipherNoneUptoRow.holds Tryd.pinned (OpenSpec.upto cipherNoneSpec)

/-- 'burrowlaw12.LinkPlays', WHERE WHAT IT READS IS OF BULK AT MOST 1048576: true; the input reads as it did. -/
def linkPlaysUptoRow : OpenClaim := { program := "ytoiendjhplbjjaadoor", sum := "cd4e84119f230a31ed22270e30c293825635d9143cd56993bde825a19c40c75d", func := "burrow/burrowlaw12.LinkPlays", spec := "linkPlays", inPlace := ["math/bits.Add64"], unfollowed := true, recurses := true, named := ["burrow/chacha.heads", "burrow/chacha.quarters"], apart := false, laid := [("burrow/chacha.heads", laid_burrow_chacha_heads), ("burrow/chacha.quarters", laid_burrow_chacha_quarters)], narrowed := true }
def LinkPlaysUptoSaid : Prop := linkPlaysUptoRow.holds Tryd.pinned (OpenSpec.upto linkPlaysSpec)

/-- 'burrowlaw12.LinkAll', WHERE WHAT IT READS IS OF BULK AT MOST 1048576: true; the input reads as it did. -/
def linkAllUptoRow : OpenClaim := { program := "ytoiendjhplbjjaadoor", sum := "cd4e84119f230a31ed22270e30c293825635d9143cd56993bde825a19c40c75d", func := "burrow/burrowlaw12.LinkAll", spec := "linkAll", inPlace := ["math/bits.Add64"], unfollowed := true, recurses := true, named := ["burrow/chacha.heads", "burrow/chacha.quarters"], apart := false, laid := [("burrow/chacha.heads", laid_burrow_chacha_heads), ("burrow/chacha.quarters", laid_burrow_chacha_quarters)], narrowed := true }
def LinkAllUptoSaid : Prop := linkAllUptoRow.holds Tryd.pinned (OpenSpec.upto linkAllSpec)

/-- 'burrowlaw12.LinkNone', WHERE WHAT IT READS IS OF BULK AT MOST 1048576: true; the input reads as it did. -/
def linkNoneUptoRow : OpenClaim := { program := "ytoiendjhplbjjaadoor", sum := "cd4e84119f230a31ed22270e30c293825635d9143cd56993bde825a19c40c75d", func := "burrow/burrowlaw12.LinkNone", spec := "linkNone", inPlace := ["math/bits.Add64"], unfollowed := true, recurses := true, named := ["burrow/chacha.heads", "burrow/chacha.quarters"], apart := false, laid := [("burrow/chacha.heads", laid_burrow_chacha_heads), ("burrow/chacha.quarters", laid_burrow_chacha_quarters)], narrowed := true }
def LinkNoneUptoSaid : Prop := linkNoneUptoRow.holds Tryd.pinned (OpenSpec.upto linkNoneSpec)

/-- 'burrowlaw12.LinkBoth', WHERE WHAT IT READS IS OF BULK AT MOST 1048576: true; the input reads as it did. -/
def linkBothUptoRow : OpenClaim := { program := "ytoiendjhplbjjaadoor", sum := "cd4e84119f230a31ed22270e30c293825635d9143cd56993bde825a19c40c75d", func := "burrow/burrowlaw12.LinkBoth", spec := "linkBoth", inPlace := ["math/bits.Add64"], unfollowed := true, recurses := true, named := ["burrow/chacha.heads", "burrow/chacha.quarters"], apart := false, laid := [("burrow/chacha.heads", laid_burrow_chacha_heads), ("burrow/chacha.quarters", laid_burrow_chacha_quarters)], narrowed := true }
def LinkBothUptoSaid : Prop := linkBothUptoRow.holds Tryd.pinned (OpenSpec.upto linkBothSpec)

/-- 'burrowlaw19.ChainPlays', WHERE WHAT IT READS IS OF BULK AT MOST 1048576: true; the input reads as it did. -/
def chainPlaysUptoRow : OpenClaim := { program := "ytoiendjhplbjjaadoor", sum := "cd4e84119f230a31ed22270e30c293825635d9143cd56993bde825a19c40c75d", func := "burrow/burrowlaw19.ChainPlays", spec := "chainPlays", unfollowed := true, recurses := true, named := ["math/bits.deBruijn64tab", "burrow/sha.squares", "burrow/sha.cubes"], apart := false, laid := [("math/bits.deBruijn64tab", laid_math_bits_deBruijn64tab), ("burrow/sha.cubes", laid_burrow_sha_cubes), ("burrow/sha.squares", laid_burrow_sha_squares)], narrowed := true }
def ChainPlaysUptoSaid : Prop := chainPlaysUptoRow.holds Tryd.pinned (OpenSpec.upto chainPlaysSpec)

/-- 'burrowlaw19.ChainOnce', WHERE WHAT IT READS IS OF BULK AT MOST 1048576: true; the input reads as it did. -/
def chainOnceUptoRow : OpenClaim := { program := "ytoiendjhplbjjaadoor", sum := "cd4e84119f230a31ed22270e30c293825635d9143cd56993bde825a19c40c75d", func := "burrow/burrowlaw19.ChainOnce", spec := "chainOnce", unfollowed := true, recurses := true, named := ["math/bits.deBruijn64tab", "burrow/sha.squares", "burrow/sha.cubes"], apart := false, laid := [("math/bits.deBruijn64tab", laid_math_bits_deBruijn64tab), ("burrow/sha.cubes", laid_burrow_sha_cubes), ("burrow/sha.squares", laid_burrow_sha_squares)], narrowed := true }
def ChainOnceUptoSaid : Prop := chainOnceUptoRow.holds Tryd.pinned (OpenSpec.upto chainOnceSpec)

/-- 'burrowlaw19.ChainNone', WHERE WHAT IT READS IS OF BULK AT MOST 1048576: true; the input reads as it did. -/
def chainNoneUptoRow : OpenClaim := { program := "ytoiendjhplbjjaadoor", sum := "cd4e84119f230a31ed22270e30c293825635d9143cd56993bde825a19c40c75d", func := "burrow/burrowlaw19.ChainNone", spec := "chainNone", unfollowed := true, recurses := true, named := ["math/bits.deBruijn64tab", "burrow/sha.squares", "burrow/sha.cubes"], apart := false, laid := [("math/bits.deBruijn64tab", laid_math_bits_deBruijn64tab), ("burrow/sha.cubes", laid_burrow_sha_cubes), ("burrow/sha.squares", laid_burrow_sha_squares)], narrowed := true }
def ChainNoneUptoSaid : Prop := chainNoneUptoRow.holds Tryd.pinned (OpenSpec.upto chainNoneSpec)

/-- 'burrowlaw19.ChainLinks', WHERE WHAT IT READS IS OF BULK AT MOST 1048576: true; the input reads as it did. -/
def chainLinksUptoRow : OpenClaim := { program := "ytoiendjhplbjjaadoor", sum := "cd4e84119f230a31ed22270e30c293825635d9143cd56993bde825a19c40c75d", func := "burrow/burrowlaw19.ChainLinks", spec := "chainLinks", unfollowed := true, recurses := true, named := ["math/bits.deBruijn64tab", "burrow/sha.squares", "burrow/sha.cubes"], apart := false, laid := [("math/bits.deBruijn64tab", laid_math_bits_deBruijn64tab), ("burrow/sha.cubes", laid_burrow_sha_cubes), ("burrow/sha.squares", laid_burrow_sha_squares)], narrowed := true }
def ChainLinksUptoSaid : Prop := chainLinksUptoRow.holds Tryd.pinned (OpenSpec.upto chainLinksSpec)

/-- 'burrowlaw19.ChainErases', WHERE WHAT IT READS IS OF BULK AT MOST 1048576: true; the input reads as it did. -/
def chainErasesUptoRow : OpenClaim := { program := "ytoiendjhplbjjaadoor", sum := "cd4e84119f230a31ed22270e30c293825635d9143cd56993bde825a19c40c75d", func := "burrow/burrowlaw19.ChainErases", spec := "chainErases", unfollowed := true, recurses := true, named := ["math/bits.deBruijn64tab", "burrow/sha.squares", "burrow/sha.cubes"], apart := false, laid := [("math/bits.deBruijn64tab", laid_math_bits_deBruijn64tab), ("burrow/sha.cubes", laid_burrow_sha_cubes), ("burrow/sha.squares", laid_burrow_sha_squares)], narrowed := true }
def ChainErasesUptoSaid : Prop := chainErasesUptoRow.holds Tryd.pinned (OpenSpec.upto chainErasesSpec)

end Rows
end Go.Proofs.YtoiendjhplbjjaaDoor
