/- The law PacketMay (the fixed fact: a payload that one box seals is opened once by another, and the second time it is a replay; then a new box is entered three times with the same number, the same tree and the same leaf, the third time with another group, and each time it answers just as the document's box answers, an error's number for an error, and stands as the document's: the same epochs, the same next number) returns true for every group, every number, every number of leaves and every leaf, and changes nothing of its world, in any world in which package sha's two tables, package chacha's two tables and the table of package math/bits lie as they are laid (card). -/
import Derived.Test.YtbonglpnkoegoaaGreatDoorCards
import Derived.Test.YtbonglpnkoegoaaGreatDoorTie
import Derived.Test.YtbonglpnkoegoaaGreatDoorZM5
import Derived.WalkKit
import Derived.ProofKit
import Derived.OpenShut
import Derived.ShutString
import Derived.ChangeOld
import Derived.Below
import Derived.Deep.DeepHandedRow
import Derived.Lib.LaidTab
import Derived.Lib.SmallJoins
namespace Go.Proofs.YtbonglpnkoegoaaGreatDoor.packetMayF
open Go.ChangeShapes Go.WideShapes Go.ChangeAt Go.RowKit
open Go.Proofs.YtbonglpnkoegoaaGreatDoor.Rely
set_option linter.unusedVariables false

theorem own : ownKnob Tryz.prog.godebug = none := by kernel_rfl
theorem laidOut : laidOutB Tryz.prog = true := by kernel_rfl
open Go.Proofs.YtbonglpnkoegoaaGreatDoor.Auto Go.Proofs.YtbonglpnkoegoaaGreatDoor.Sha in
theorem rowC {W : World} (h : laidMetH Tryz.prog Rows.packetMayRow.laid W) : ∃ t, W.heap[4]? = some (.cells (ints .u64 (QaM)) t) :=
  QeN (P := Tryz.prog) (laid := Rows.packetMayRow.laid) (n := "burrow/sha.cubes") (t := 200) (e := 93) (m := 80) (k := .u64) (zs := QaM) h (List.Mem.tail _ (List.Mem.head _)) (by kernel_rfl) (by kernel_rfl) (by kernel_rfl) (by kernel_rfl) (by kernel_rfl) (by kernel_rfl) (by decide)
open Go.Proofs.YtbonglpnkoegoaaGreatDoor.Auto Go.Proofs.YtbonglpnkoegoaaGreatDoor.Sha in
theorem rowS {W : World} (h : laidMetH Tryz.prog Rows.packetMayRow.laid W) : ∃ t, W.heap[3]? = some (.cells (ints .u64 (Qa5)) t) :=
  QeN (P := Tryz.prog) (laid := Rows.packetMayRow.laid) (n := "burrow/sha.squares") (t := 196) (e := 93) (m := 8) (k := .u64) (zs := Qa5) h (List.Mem.tail _ (List.Mem.tail _ (List.Mem.head _))) (by kernel_rfl) (by kernel_rfl) (by kernel_rfl) (by kernel_rfl) (by kernel_rfl) (by kernel_rfl) (by decide)
open Go.Proofs.YtbonglpnkoegoaaGreatDoor.Auto Go.Proofs.YtbonglpnkoegoaaGreatDoor.Sha in
theorem rowT {W : World} (h : laidMetH Tryz.prog Rows.packetMayRow.laid W) : ∃ t, W.heap[2]? = some (.cells (ints .u8 (Lib.deBruijn64tab.map Int.ofNat)) t) :=
  QeN (P := Tryz.prog) (laid := Rows.packetMayRow.laid) (n := "math/bits.deBruijn64tab") (t := 120) (e := 5) (m := 64) (k := .u8) (zs := Lib.deBruijn64tab.map Int.ofNat) h (List.Mem.head _) (by kernel_rfl) (by kernel_rfl) (by kernel_rfl) (by kernel_rfl) (by kernel_rfl) (by kernel_rfl) (by decide)
theorem table {W : World} (h : laidMetH Tryz.prog Rows.packetMayRow.laid W) : Go.Proofs.YtbonglpnkoegoaaGreatDoor.Seat.TabAt W := by
  obtain ⟨t, ht⟩ := rowT h
  refine ⟨Qaq ht, fun j hj => Qdc ht ?_⟩
  have hl : Lib.deBruijn64tab.length = 64 := rfl
  rw [QaD _ _ _ (by rw [List.length_map, hl]; exact hj)]
  unfold nth
  rw [List.getD_eq_getElem?_getD, List.getElem?_map, List.getD_eq_getElem?_getD, List.getElem?_eq_getElem (show j < Lib.deBruijn64tab.length by omega)]
  rfl
open Go.Proofs.YtbonglpnkoegoaaGreatDoor.Auto Go.Proofs.YtbonglpnkoegoaaGreatDoor.Sha in
theorem rowH {W : World} (h : laidMetH Tryz.prog Rows.packetMayRow.laid W) : ∃ t, W.heap[0]? = some (.cells (ints .u32 ([1634760805, 857760878, 2036477234, 1797285236])) t) :=
  QeN (P := Tryz.prog) (laid := Rows.packetMayRow.laid) (n := "burrow/chacha.heads") (t := 152) (e := 139) (m := 4) (k := .u32) (zs := [1634760805, 857760878, 2036477234, 1797285236]) h (List.Mem.tail _ (List.Mem.tail _ (List.Mem.tail _ (List.Mem.head _)))) (by kernel_rfl) (by kernel_rfl) (by kernel_rfl) (by kernel_rfl) (by kernel_rfl) (by kernel_rfl) (by decide)
open Go.Proofs.YtbonglpnkoegoaaGreatDoor.Auto in
theorem rowQ {W : World} (h : laidMetH Tryz.prog Rows.packetMayRow.laid W) : ∃ t, W.heap[1]? = some (.cells (ints .i64 [0, 4, 8, 12, 1, 5, 9, 13, 2, 6, 10, 14, 3, 7, 11, 15, 0, 5, 10, 15, 1, 6, 11, 12, 2, 7, 8, 13, 3, 4, 9, 14]) t) :=
  Qko (P := Tryz.prog) (laid := Rows.packetMayRow.laid) (n := "burrow/chacha.quarters") (t := 155) (e := 154) (i := 3) (m1 := 8) (m := 4) (k := .i64) (zss := [[0, 4, 8, 12], [1, 5, 9, 13], [2, 6, 10, 14], [3, 7, 11, 15], [0, 5, 10, 15], [1, 6, 11, 12], [2, 7, 8, 13], [3, 4, 9, 14]]) h (List.Mem.tail _ (List.Mem.tail _ (List.Mem.tail _ (List.Mem.tail _ (List.Mem.head _))))) (by kernel_rfl) (by kernel_rfl) (by kernel_rfl) (by kernel_rfl) (by kernel_rfl) (by kernel_rfl) (by kernel_rfl) (by kernel_rfl) (by decide)

set_option maxRecDepth 100000 in
theorem contract (H : Type) (enc : TypeId × Value → H) (W : World) (base : Nat) (args : Array Value) (ds gs : List (DataW H)) (before : List MemPlace)
    (hval : ∀ (j : Nat) t v, Tryz.f3.params[j]? = some t → args[j]? = some v → Value.okWide Tryz.prog W .any base t v)
    (hW : DataW.Whole enc Tryz.prog Tryz.f3.params.toList Rows.packetMaySpec.vars false W args.toList ds gs before) (hL : laidMetH Tryz.prog Rows.packetMayRow.laid W) :
    Calls Tryz.prog 3 args W fun e W' => ∃ v, e = .returned v ∧ Rows.packetMaySpec.post enc Tryz.prog Tryz.f3 false true false false W args v W' := by
  have hW' := hW
  obtain ⟨p, q, hA0, hV, rfl, hfz, hnd⟩ := hW
  have hA : DataW.TrodAll enc Tryz.prog W 0 (fun _ => true) true Tryz.f3.params.toList args.toList ds p := hA0
  rw [Tryz.params3] at hA hval
  obtain ⟨v0, vs0, d0, ds0, p0, q0, hargs, rfl, rfl, h0, r0⟩ := trodAll_cons hA
  obtain ⟨rfl, rfl, rfl⟩ := trodAll_nil r0
  obtain rfl : args = #[v0] := by cases args; simp_all
  obtain ⟨rfl, rfl⟩ := trodVars_none hV
  have k0 := h0
  have lt0 : ∀ x ∈ p0, x.block < W.heap.size := by obtain ⟨m, hm⟩ := k0; exact DataW.trod_lt m _ _ _ hm
  obtain ⟨L0_0, L0_1, L0_2, L0_3, y0_0, y0_1, y0_2, y0_3, m0, rfl, hy0_0, hy0_1, hy0_2, hy0_3⟩ := Go.Proofs.YtbonglpnkoegoaaGreatDoor.Auto.open_st4 (n0 := 32) (n1 := 1) (n2 := 1) (n3 := 1) Tryz.underlying25 ⟨by kernel_rfl, by kernel_rfl, by kernel_rfl, by kernel_rfl⟩ ⟨by kernel_rfl, by kernel_rfl, by kernel_rfl, by kernel_rfl⟩ (by kernel_rfl) (hval 0 25 v0 rfl rfl) h0
  obtain ⟨z0_0, rfl, hz0_0, w0_0⟩ := Go.Proofs.YtbonglpnkoegoaaGreatDoor.Auto.open_raw Tryz.underlying23 Tryz.underlying5 (by kernel_rfl) (by kernel_rfl) hy0_0
  obtain ⟨x0_1, rfl, -, wx0_1⟩ := DataW.trod_int Tryz.underlying3 hy0_1
  obtain ⟨x0_2, rfl, -, wx0_2⟩ := DataW.trod_int Tryz.underlying3 hy0_2
  obtain ⟨x0_3, rfl, -, wx0_3⟩ := DataW.trod_int Tryz.underlying3 hy0_3
  clear hA0
  have walk : Calls Tryz.prog 3 #[.agg (z0_0.map (Value.int .u8) ++ [Value.int .i64 x0_1] ++ [Value.int .i64 x0_2] ++ [Value.int .i64 x0_3]).toArray] W fun e w' => e = .returned (.bool true) ∧ Below W.heap.size W w' := by
    obtain ⟨tC, hC⟩ := rowC hL
    obtain ⟨tS, hS⟩ := rowS hL
    obtain ⟨tH, hH⟩ := rowH hL
    obtain ⟨tQ, hQ⟩ := rowQ hL
    have hT := table hL
    have h := Go.Proofs.YtbonglpnkoegoaaGreatDoor.Pk.may_C tC tS tH tQ W hC hS hQ hH hT z0_0 hz0_0 w0_0 x0_1 x0_2 x0_3
    have e : ∀ (x : List Int) (a b c : Int), (List.map (Value.int .u8) x ++ [Value.int .i64 a] ++ [Value.int .i64 b] ++ [Value.int .i64 c]).toArray = Go.Proofs.YtbonglpnkoegoaaGreatDoor.Auto.cat [Go.Proofs.YtbonglpnkoegoaaGreatDoor.Rely.ints .u8 x, #[.int .i64 a], #[.int .i64 b], #[.int .i64 c]] := fun x a b c => by
      apply Array.ext'
      simp [Go.Proofs.YtbonglpnkoegoaaGreatDoor.Auto.cat, Go.Proofs.YtbonglpnkoegoaaGreatDoor.Rely.ints]
    rw [e]
    exact h
  refine walk.mono fun e W' ⟨he, bel⟩ => ?_
  subst he
  exact ⟨_, rfl, _, _, _, [], _, [], hW', trodAll_mk1 (shut_bool Tryz.underlying4 _), (trodAll_cons_mk (Below.trod laidOut (by kernel_rfl) (of_decide_eq_true (by kernel_rfl)) k0 bel lt0) trodAll_mk0), rfl, bel.frame _, fun h => by cases h⟩

noncomputable def laidWorld (os : Os) : World :=
  { World.holding Tryz.prog os ⟨#[], #[], []⟩ with heap := ((((((World.holding Tryz.prog os ⟨#[], #[], []⟩).heap.modify 2 fun
      | .cells _ t frozen => .cells #[.int .u8 0, .int .u8 1, .int .u8 56, .int .u8 2, .int .u8 57, .int .u8 49, .int .u8 28, .int .u8 3, .int .u8 61, .int .u8 58, .int .u8 42, .int .u8 50, .int .u8 38, .int .u8 29, .int .u8 17, .int .u8 4, .int .u8 62, .int .u8 47, .int .u8 59, .int .u8 36, .int .u8 45, .int .u8 43, .int .u8 51, .int .u8 22, .int .u8 53, .int .u8 39, .int .u8 33, .int .u8 30, .int .u8 24, .int .u8 18, .int .u8 12, .int .u8 5, .int .u8 63, .int .u8 55, .int .u8 48, .int .u8 27, .int .u8 60, .int .u8 41, .int .u8 37, .int .u8 16, .int .u8 46, .int .u8 35, .int .u8 44, .int .u8 21, .int .u8 52, .int .u8 32, .int .u8 23, .int .u8 11, .int .u8 54, .int .u8 26, .int .u8 40, .int .u8 15, .int .u8 34, .int .u8 20, .int .u8 31, .int .u8 10, .int .u8 25, .int .u8 14, .int .u8 19, .int .u8 9, .int .u8 13, .int .u8 8, .int .u8 7, .int .u8 6] t frozen
      | o => o).modify 4 fun
      | .cells _ t frozen => .cells #[.int .u64 4794697086780616226, .int .u64 8158064640168781261, .int .u64 13096744586834688815, .int .u64 16840607885511220156, .int .u64 4131703408338449720, .int .u64 6480981068601479193, .int .u64 10538285296894168987, .int .u64 12329834152419229976, .int .u64 15566598209576043074, .int .u64 1334009975649890238, .int .u64 2608012711638119052, .int .u64 6128411473006802146, .int .u64 8268148722764581231, .int .u64 9286055187155687089, .int .u64 11230858885718282805, .int .u64 13951009754708518548, .int .u64 16472876342353939154, .int .u64 17275323862435702243, .int .u64 1135362057144423861, .int .u64 2597628984639134821, .int .u64 3308224258029322869, .int .u64 5365058923640841347, .int .u64 6679025012923562964, .int .u64 8573033837759648693, .int .u64 10970295158949994411, .int .u64 12119686244451234320, .int .u64 12683024718118986047, .int .u64 13788192230050041572, .int .u64 14330467153632333762, .int .u64 15395433587784984357, .int .u64 489312712824947311, .int .u64 1452737877330783856, .int .u64 2861767655752347644, .int .u64 3322285676063803686, .int .u64 5560940570517711597, .int .u64 5996557281743188959, .int .u64 7280758554555802590, .int .u64 8532644243296465576, .int .u64 9350256976987008742, .int .u64 10552545826968843579, .int .u64 11727347734174303076, .int .u64 12113106623233404929, .int .u64 14000437183269869457, .int .u64 14369950271660146224, .int .u64 15101387698204529176, .int .u64 15463397548674623760, .int .u64 17586052441742319658, .int .u64 1182934255886127544, .int .u64 1847814050463011016, .int .u64 2177327727835720531, .int .u64 2830643537854262169, .int .u64 3796741975233480872, .int .u64 4115178125766777443, .int .u64 5681478168544905931, .int .u64 6601373596472566643, .int .u64 7507060721942968483, .int .u64 8399075790359081724, .int .u64 8693463985226723168, .int .u64 9568029438360202098, .int .u64 10144078919501101548, .int .u64 10430055236837252648, .int .u64 11840083180663258601, .int .u64 13761210420658862357, .int .u64 14299343276471374635, .int .u64 14566680578165727644, .int .u64 15097957966210449927, .int .u64 16922976911328602910, .int .u64 17689382322260857208, .int .u64 500013540394364858, .int .u64 748580250866718886, .int .u64 1242879168328830382, .int .u64 1977374033974150939, .int .u64 2944078676154940804, .int .u64 3659926193048069267, .int .u64 4368137639120453308, .int .u64 4836135668995329356, .int .u64 5532061633213252278, .int .u64 6448918945643986474, .int .u64 6902733635092675308, .int .u64 7801388544844847127] t frozen
      | o => o).modify 3 fun
      | .cells _ t frozen => .cells #[.int .u64 7640891576956012808, .int .u64 13503953896175478587, .int .u64 4354685564936845355, .int .u64 11912009170470909681, .int .u64 5840696475078001361, .int .u64 11170449401992604703, .int .u64 2270897969802886507, .int .u64 6620516959819538809] t frozen
      | o => o).modify 0 fun
      | .cells _ t frozen => .cells #[.int .u32 1634760805, .int .u32 857760878, .int .u32 2036477234, .int .u32 1797285236] t frozen
      | o => o).modify 1 fun
      | .cells _ t frozen => .cells #[.int .i64 0, .int .i64 4, .int .i64 8, .int .i64 12, .int .i64 1, .int .i64 5, .int .i64 9, .int .i64 13, .int .i64 2, .int .i64 6, .int .i64 10, .int .i64 14, .int .i64 3, .int .i64 7, .int .i64 11, .int .i64 15, .int .i64 0, .int .i64 5, .int .i64 10, .int .i64 15, .int .i64 1, .int .i64 6, .int .i64 11, .int .i64 12, .int .i64 2, .int .i64 7, .int .i64 8, .int .i64 13, .int .i64 3, .int .i64 4, .int .i64 9, .int .i64 14] t frozen
      | o => o) }
theorem laid_met (os : Os) : laidMet Tryz.prog Rows.packetMayRow.laid ((laidWorld os).forCall (fun _ _ => 0) ⟨#[], #[Value.agg (Array.replicate 32 (Value.int .u8 0) ++ #[Value.int .i64 0] ++ #[Value.int .i64 0] ++ #[Value.int .i64 0])], []⟩).memory :=
  laidMet_of_run' 8 (by kernel_rfl) (by kernel_rfl)
theorem reads (os : Os) {H : Type} (enc : TypeId × Value → H) : ∃ places, DataW.whole enc Tryz.prog ((laidWorld os).forCall (fun _ _ => 0) ⟨#[], #[Value.agg (Array.replicate 32 (Value.int .u8 0) ++ #[Value.int .i64 0] ++ #[Value.int .i64 0] ++ #[Value.int .i64 0])], []⟩).memory Tryz.f3.params.toList Rows.packetMaySpec.vars false (#[Value.agg (Array.replicate 32 (Value.int .u8 0) ++ #[Value.int .i64 0] ++ #[Value.int .i64 0] ++ #[Value.int .i64 0])]).toList 8 = some ([.agg [.agg (List.replicate 32 (.lit (.int .u8 0))), .lit (.int .i64 0), .lit (.int .i64 0), .lit (.int .i64 0)]], [], places) :=
  ⟨[], by kernel_rfl⟩

set_option maxRecDepth 100000 in
theorem lifted (os : Os) (started : os.Started) (H : Type) (enc : TypeId × Value → H) (F : Stop.Interp) :
    ReturnsInHanded {} Tryz.checked os 3 .any ((OpenSpec.ofChange Rows.packetMaySpec).preRow enc Tryz.prog Tryz.f3 Rows.packetMayRow.domain false Rows.packetMayRow.laid) (((OpenSpec.ofChange Rows.packetMaySpec).at F).post enc Tryz.prog Tryz.f3 false true false false) := by
  obtain ⟨places, hx⟩ := reads os enc
  refine returnsInHanded_of_row (C := Tryz.checked) (s := OpenSpec.ofChange Rows.packetMaySpec) own started (by kernel_rfl) Tryz.func3
    (witness_row_at (enc := enc) (C := Tryz.checked) false (laidWorld os) #[Value.agg (Array.replicate 32 (Value.int .u8 0) ++ #[Value.int .i64 0] ++ #[Value.int .i64 0] ++ #[Value.int .i64 0])] rfl (by kernel_rfl) (by kernel_rfl) (by kernel_rfl)
      (OpenSpec.preRow_of_cond 8 hx (by kernel_rfl) (fun k hk => by cases hk) (by kernel_rfl) (laid_met os))) ?_
  intro W base args ds gs before hval hW _ hcond _ hL _ _
  exact contract H enc W base args ds gs before hval hW hL

theorem said : Rows.PacketMaySaid :=
  OpenClaim.holds_of_cond 3 Tryz.f3 rfl rfl rfl rfl rfl rfl rfl ⟨rfl, rfl, rfl, rfl, rfl⟩ rfl rfl rfl rfl rfl (by kernel_rfl) Tryz.func3 (by kernel_rfl)
    (of_decide_eq_true (by kernel_rfl)) (by unfold Func.isWrapper; first | (rw [if_pos (by decide +kernel)]; kernel_rfl) | (rw [if_neg (by decide +kernel)]; exact ⟨rfl, rfl⟩))
    (fun os started H enc _ F => by rw [OpenClaim.pre_eq_preRow]; exact lifted os started H enc F)

theorem plain (f : FuncId) (fn : Func) (hf : Tryz.pinned.checked.prog.funcNamed "burrow/burrowlaw23.PacketMay" = some f) (hfn : Tryz.pinned.checked.prog.funcs[f]? = some fn) :
    true = Tryz.pinned.checked.prog.looks [] ∧ ∀ (j : Nat) t, fn.params[j]? = some t → Tryz.pinned.checked.prog.wantsStandIn t = false := by
  obtain rfl : f = 3 := Option.some.inj ((show Tryz.prog.funcNamed "burrow/burrowlaw23.PacketMay" = some 3 by kernel_rfl).symm.trans hf) |>.symm
  obtain rfl : fn = Tryz.f3 := (Option.some.inj (Tryz.func3.symm.trans hfn)).symm
  refine ⟨by kernel_rfl, fun j t ht => ?_⟩
  rw [Tryz.params3] at ht
  have ht' := Array.mem_of_getElem? ht
  simp only [List.mem_toArray, List.mem_cons, List.not_mem_nil, or_false] at ht'
  subst ht'
  exact (show Tryz.prog.wantsStandIn 25 = false by kernel_rfl)

theorem card : Rows.PacketMayCardSaid :=
  Claim7.holds_tied_plain_at .later [] _ _ _ _ said (fun _ h => by cases h) (by kernel_rfl) (fun _ h => by cases h) packetMay_row_tie rfl ⟨rfl, rfl⟩ (by kernel_rfl) rfl plain (by kernel_rfl)
end Go.Proofs.YtbonglpnkoegoaaGreatDoor.packetMayF
