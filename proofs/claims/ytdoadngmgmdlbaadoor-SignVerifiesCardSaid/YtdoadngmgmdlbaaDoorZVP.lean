/- The law SignVerifies (the fixed fact; the program finds a signature right just where the document does) returns true for every public key, every 64 bytes and every slice of bytes, of any length (beyond 1000 it claims nothing), nil or of any capacity, in any world in which the curve's numbers, the group's order and package sha's tables lie as they are laid (card). -/
import Derived.Test.YtdoadngmgmdlbaaDoorCards
import Derived.Test.YtdoadngmgmdlbaaDoorTie
import Derived.Test.YtdoadngmgmdlbaaDoorZV6
import Derived.WalkKit
import Derived.ProofKit
import Derived.OpenShut
import Derived.ShutString
import Derived.ChangeOld
import Derived.Below
import Derived.Deep.DeepHandedRow
import Derived.Lib.LaidTab
import Derived.Lib.SmallJoins
namespace Go.Proofs.YtdoadngmgmdlbaaDoor.signVerifiesF
open Go.ChangeShapes Go.WideShapes Go.ChangeAt Go.RowKit
open Go.Proofs.YtdoadngmgmdlbaaDoor.Rely
set_option linter.unusedVariables false

theorem own : ownKnob Tryd.prog.godebug = none := by kernel_rfl
theorem laidOut : laidOutB Tryd.prog = true := by kernel_rfl
open Go.Proofs.YtdoadngmgmdlbaaDoor.Field Go.Proofs.YtdoadngmgmdlbaaDoor.Sha5 in
theorem rowC {W : World} (h : laidMetH Tryd.prog Rows.signVerifiesRow.laid W) : ∃ t, W.heap[5]? = some (.cells (ints .u64 (Qc4)) t) :=
  Field.laid_row (P := Tryd.prog) (laid := Rows.signVerifiesRow.laid) (n := "burrow/sha.cubes") (t := 132) (e := 46) (m := 80) (k := .u64) (zs := Qc4) h (List.Mem.head _) (by kernel_rfl) (by kernel_rfl) (by kernel_rfl) (by kernel_rfl) (by kernel_rfl) (by kernel_rfl) (by decide)
open Go.Proofs.YtdoadngmgmdlbaaDoor.Field Go.Proofs.YtdoadngmgmdlbaaDoor.Sha5 in
theorem rowS {W : World} (h : laidMetH Tryd.prog Rows.signVerifiesRow.laid W) : ∃ t, W.heap[4]? = some (.cells (ints .u64 (Qbn)) t) :=
  Field.laid_row (P := Tryd.prog) (laid := Rows.signVerifiesRow.laid) (n := "burrow/sha.squares") (t := 85) (e := 46) (m := 8) (k := .u64) (zs := Qbn) h (List.Mem.tail _ (List.Mem.head _)) (by kernel_rfl) (by kernel_rfl) (by kernel_rfl) (by kernel_rfl) (by kernel_rfl) (by kernel_rfl) (by decide)
open Go.Proofs.YtdoadngmgmdlbaaDoor.Field Go.Proofs.YtdoadngmgmdlbaaDoor.Sha5 in
theorem rowB {W : World} (h : laidMetH Tryd.prog Rows.signVerifiesRow.laid W) : ∃ t, W.heap[2]? = some (.cells (ints .u8 (Qb4)) t) :=
  Field.laid_row (P := Tryd.prog) (laid := Rows.signVerifiesRow.laid) (n := "burrow/point.bend") (t := 23) (e := 5) (m := 32) (k := .u8) (zs := Qb4) h (List.Mem.tail _ (List.Mem.tail _ (List.Mem.head _))) (by kernel_rfl) (by kernel_rfl) (by kernel_rfl) (by kernel_rfl) (by kernel_rfl) (by kernel_rfl) (by decide)
open Go.Proofs.YtdoadngmgmdlbaaDoor.Field Go.Proofs.YtdoadngmgmdlbaaDoor.Sha5 in
theorem rowX {W : World} (h : laidMetH Tryd.prog Rows.signVerifiesRow.laid W) : ∃ t, W.heap[0]? = some (.cells (ints .u8 (QbM)) t) :=
  Field.laid_row (P := Tryd.prog) (laid := Rows.signVerifiesRow.laid) (n := "burrow/point.baseX") (t := 23) (e := 5) (m := 32) (k := .u8) (zs := QbM) h (List.Mem.tail _ (List.Mem.tail _ (List.Mem.tail _ (List.Mem.head _)))) (by kernel_rfl) (by kernel_rfl) (by kernel_rfl) (by kernel_rfl) (by kernel_rfl) (by kernel_rfl) (by decide)
open Go.Proofs.YtdoadngmgmdlbaaDoor.Field Go.Proofs.YtdoadngmgmdlbaaDoor.Sha5 in
theorem rowY {W : World} (h : laidMetH Tryd.prog Rows.signVerifiesRow.laid W) : ∃ t, W.heap[1]? = some (.cells (ints .u8 (QbL)) t) :=
  Field.laid_row (P := Tryd.prog) (laid := Rows.signVerifiesRow.laid) (n := "burrow/point.baseY") (t := 23) (e := 5) (m := 32) (k := .u8) (zs := QbL) h (List.Mem.tail _ (List.Mem.tail _ (List.Mem.tail _ (List.Mem.tail _ (List.Mem.head _))))) (by kernel_rfl) (by kernel_rfl) (by kernel_rfl) (by kernel_rfl) (by kernel_rfl) (by kernel_rfl) (by decide)
open Go.Proofs.YtdoadngmgmdlbaaDoor.Field Go.Proofs.YtdoadngmgmdlbaaDoor.Sha5 in
theorem rowO {W : World} (h : laidMetH Tryd.prog Rows.signVerifiesRow.laid W) : ∃ t, W.heap[3]? = some (.cells (QbY) t) :=
  Field.laid_row (P := Tryd.prog) (laid := Rows.signVerifiesRow.laid) (n := "burrow/point.order") (t := 47) (e := 46) (m := 4) (k := .u64) (zs := [6346243789798364141, 1503914060200516822, 0, 1152921504606846976]) h (List.Mem.tail _ (List.Mem.tail _ (List.Mem.tail _ (List.Mem.tail _ (List.Mem.tail _ (List.Mem.head _)))))) (by kernel_rfl) (by kernel_rfl) (by kernel_rfl) (by kernel_rfl) (by kernel_rfl) (by kernel_rfl) (by decide)
theorem tabs {W : World} (h : laidMetH Tryd.prog Rows.signVerifiesRow.laid W) : ∃ tc tq tO tB tX tY, Go.Proofs.YtdoadngmgmdlbaaDoor.Sgn.Tabs tc tq tO tB tX tY W := by
  obtain ⟨tc, hc⟩ := rowC h
  obtain ⟨tq, hq⟩ := rowS h
  obtain ⟨tO, hO⟩ := rowO h
  obtain ⟨tB, hB⟩ := rowB h
  obtain ⟨tX, hX⟩ := rowX h
  obtain ⟨tY, hY⟩ := rowY h
  exact ⟨tc, tq, tO, tB, tX, tY, hc, hq, hO, hB, hX, hY⟩

set_option maxRecDepth 100000 in
theorem contract (H : Type) (enc : TypeId × Value → H) (W : World) (base : Nat) (args : Array Value) (ds gs : List (DataW H)) (before : List MemPlace)
    (hval : ∀ (j : Nat) t v, Tryd.f5.params[j]? = some t → args[j]? = some v → Value.okWide Tryd.prog W .any base t v)
    (hW : DataW.Whole enc Tryd.prog Tryd.f5.params.toList Rows.signVerifiesSpec.vars false W args.toList ds gs before) (hL : laidMetH Tryd.prog Rows.signVerifiesRow.laid W) :
    Calls Tryd.prog 5 args W fun e W' => ∃ v, e = .returned v ∧ Rows.signVerifiesSpec.post enc Tryd.prog Tryd.f5 false true false false W args v W' := by
  have hW' := hW
  obtain ⟨p, q, hA0, hV, rfl, hfz, hnd⟩ := hW
  have hA : DataW.TrodAll enc Tryd.prog W 0 (fun _ => true) true Tryd.f5.params.toList args.toList ds p := hA0
  rw [Tryd.params5] at hA hval
  obtain ⟨v0, vs0, d0, ds0, p0, q0, hargs, rfl, rfl, h0, r0⟩ := trodAll_cons hA
  obtain ⟨rfl, rfl, rfl⟩ := trodAll_nil r0
  obtain rfl : args = #[v0] := by cases args; simp_all
  obtain ⟨rfl, rfl⟩ := trodVars_none hV
  have k0 := h0
  have lt0 : ∀ x ∈ p0, x.block < W.heap.size := by obtain ⟨m, hm⟩ := k0; exact DataW.trod_lt m _ _ _ hm
  obtain ⟨L0_0, L0_1, L0_2, y0_0, y0_1, y0_2, m0, rfl, hy0_0, hy0_1, hy0_2⟩ := Go.Proofs.YtdoadngmgmdlbaaDoor.Auto.open_st3 (n0 := 32) (n1 := 64) (n2 := 1) Tryd.underlying36 ⟨by kernel_rfl, by kernel_rfl, by kernel_rfl⟩ ⟨by kernel_rfl, by kernel_rfl, by kernel_rfl⟩ (by kernel_rfl) (hval 0 36 v0 rfl rfl) h0
  obtain ⟨z0_0, rfl, hz0_0, w0_0⟩ := Go.Proofs.YtdoadngmgmdlbaaDoor.Auto.open_raw Tryd.underlying23 Tryd.underlying5 (by kernel_rfl) (by kernel_rfl) hy0_0
  obtain ⟨z0_1, rfl, hz0_1, w0_1⟩ := Go.Proofs.YtdoadngmgmdlbaaDoor.Auto.open_raw Tryd.underlying30 Tryd.underlying5 (by kernel_rfl) (by kernel_rfl) hy0_1
  obtain ⟨a0_2, len0_2, cap0_2, z0_2, e0_2, w0_2⟩ : ∃ a len cap zs, L0_2 = [.slice a len cap] ∧ QqG .u8 W a len cap zs := by
    rcases open_ints Tryd.underlying27 Tryd.underlying5 (by kernel_rfl) hy0_2 with ⟨hcs, _⟩ | ⟨x, l, c, zs, hcs, _, hl, hm, hz, _, hcell, hwz⟩
    · exact ⟨none, 0, 0, [], hcs, .inl ⟨rfl, rfl, rfl, rfl⟩⟩
    · exact ⟨_, _, _, zs, hcs, .inr ⟨_, rfl, hl, hm, by simpa using hz, hcell, hwz⟩⟩
  subst e0_2
  clear hA0
  have walk : Calls Tryd.prog 5 #[.agg (z0_0.map (Value.int .u8) ++ z0_1.map (Value.int .u8) ++ [Value.slice a0_2 len0_2 cap0_2]).toArray] W fun e w' => e = .returned (.bool true) ∧ Below W.heap.size W w' := by
    obtain ⟨tc, tq, tO, tB, tX, tY, hT⟩ := tabs hL
    obtain ⟨r0_2, l0_2, f0_2⟩ := Go.Proofs.YtdoadngmgmdlbaaDoor.Auto.rdK_of_row w0_2
    have h := Go.Proofs.YtdoadngmgmdlbaaDoor.Sgn.lawVerifies z0_0 z0_1 hz0_0 w0_0 hz0_1 w0_1 (z0_2.take len0_2) a0_2 cap0_2 _ (Go.Proofs.YtdoadngmgmdlbaaDoor.Auto.bytes_wf f0_2) tc tq tO tB tX tY _ hT (by rw [l0_2]; exact r0_2)
    rw [l0_2] at h
    have e : ∀ (x y : List Int) (v : Value), (List.map (Value.int .u8) x ++ List.map (Value.int .u8) y ++ [v]).toArray = Go.Proofs.YtdoadngmgmdlbaaDoor.Auto.cat [Go.Proofs.YtdoadngmgmdlbaaDoor.Rely.ints .u8 x, Go.Proofs.YtdoadngmgmdlbaaDoor.Rely.ints .u8 y, #[v]] := fun x y v => by
      apply Array.ext'
      simp [Go.Proofs.YtdoadngmgmdlbaaDoor.Auto.cat, Go.Proofs.YtdoadngmgmdlbaaDoor.Rely.ints]
    rw [e]
    exact h
  refine walk.mono fun e W' ⟨he, bel⟩ => ?_
  subst he
  exact ⟨_, rfl, _, _, _, [], _, [], hW', trodAll_mk1 (shut_bool Tryd.underlying4 _), (trodAll_cons_mk (Below.trod laidOut (by kernel_rfl) (of_decide_eq_true (by kernel_rfl)) k0 bel lt0) trodAll_mk0), rfl, bel.frame _, fun h => by cases h⟩

noncomputable def laidWorld (os : Os) : World :=
  { World.holding Tryd.prog os ⟨#[], #[], []⟩ with heap := (((((((World.holding Tryd.prog os ⟨#[], #[], []⟩).heap.modify 5 fun
      | .cells _ t frozen => .cells #[.int .u64 4794697086780616226, .int .u64 8158064640168781261, .int .u64 13096744586834688815, .int .u64 16840607885511220156, .int .u64 4131703408338449720, .int .u64 6480981068601479193, .int .u64 10538285296894168987, .int .u64 12329834152419229976, .int .u64 15566598209576043074, .int .u64 1334009975649890238, .int .u64 2608012711638119052, .int .u64 6128411473006802146, .int .u64 8268148722764581231, .int .u64 9286055187155687089, .int .u64 11230858885718282805, .int .u64 13951009754708518548, .int .u64 16472876342353939154, .int .u64 17275323862435702243, .int .u64 1135362057144423861, .int .u64 2597628984639134821, .int .u64 3308224258029322869, .int .u64 5365058923640841347, .int .u64 6679025012923562964, .int .u64 8573033837759648693, .int .u64 10970295158949994411, .int .u64 12119686244451234320, .int .u64 12683024718118986047, .int .u64 13788192230050041572, .int .u64 14330467153632333762, .int .u64 15395433587784984357, .int .u64 489312712824947311, .int .u64 1452737877330783856, .int .u64 2861767655752347644, .int .u64 3322285676063803686, .int .u64 5560940570517711597, .int .u64 5996557281743188959, .int .u64 7280758554555802590, .int .u64 8532644243296465576, .int .u64 9350256976987008742, .int .u64 10552545826968843579, .int .u64 11727347734174303076, .int .u64 12113106623233404929, .int .u64 14000437183269869457, .int .u64 14369950271660146224, .int .u64 15101387698204529176, .int .u64 15463397548674623760, .int .u64 17586052441742319658, .int .u64 1182934255886127544, .int .u64 1847814050463011016, .int .u64 2177327727835720531, .int .u64 2830643537854262169, .int .u64 3796741975233480872, .int .u64 4115178125766777443, .int .u64 5681478168544905931, .int .u64 6601373596472566643, .int .u64 7507060721942968483, .int .u64 8399075790359081724, .int .u64 8693463985226723168, .int .u64 9568029438360202098, .int .u64 10144078919501101548, .int .u64 10430055236837252648, .int .u64 11840083180663258601, .int .u64 13761210420658862357, .int .u64 14299343276471374635, .int .u64 14566680578165727644, .int .u64 15097957966210449927, .int .u64 16922976911328602910, .int .u64 17689382322260857208, .int .u64 500013540394364858, .int .u64 748580250866718886, .int .u64 1242879168328830382, .int .u64 1977374033974150939, .int .u64 2944078676154940804, .int .u64 3659926193048069267, .int .u64 4368137639120453308, .int .u64 4836135668995329356, .int .u64 5532061633213252278, .int .u64 6448918945643986474, .int .u64 6902733635092675308, .int .u64 7801388544844847127] t frozen
      | o => o).modify 4 fun
      | .cells _ t frozen => .cells #[.int .u64 7640891576956012808, .int .u64 13503953896175478587, .int .u64 4354685564936845355, .int .u64 11912009170470909681, .int .u64 5840696475078001361, .int .u64 11170449401992604703, .int .u64 2270897969802886507, .int .u64 6620516959819538809] t frozen
      | o => o).modify 2 fun
      | .cells _ t frozen => .cells #[.int .u8 163, .int .u8 120, .int .u8 89, .int .u8 19, .int .u8 202, .int .u8 77, .int .u8 235, .int .u8 117, .int .u8 171, .int .u8 216, .int .u8 65, .int .u8 65, .int .u8 77, .int .u8 10, .int .u8 112, .int .u8 0, .int .u8 152, .int .u8 232, .int .u8 121, .int .u8 119, .int .u8 121, .int .u8 64, .int .u8 199, .int .u8 140, .int .u8 115, .int .u8 254, .int .u8 111, .int .u8 43, .int .u8 238, .int .u8 108, .int .u8 3, .int .u8 82] t frozen
      | o => o).modify 0 fun
      | .cells _ t frozen => .cells #[.int .u8 26, .int .u8 213, .int .u8 37, .int .u8 143, .int .u8 96, .int .u8 45, .int .u8 86, .int .u8 201, .int .u8 178, .int .u8 167, .int .u8 37, .int .u8 149, .int .u8 96, .int .u8 199, .int .u8 44, .int .u8 105, .int .u8 92, .int .u8 220, .int .u8 214, .int .u8 253, .int .u8 49, .int .u8 226, .int .u8 164, .int .u8 192, .int .u8 254, .int .u8 83, .int .u8 110, .int .u8 205, .int .u8 211, .int .u8 54, .int .u8 105, .int .u8 33] t frozen
      | o => o).modify 1 fun
      | .cells _ t frozen => .cells #[.int .u8 88, .int .u8 102, .int .u8 102, .int .u8 102, .int .u8 102, .int .u8 102, .int .u8 102, .int .u8 102, .int .u8 102, .int .u8 102, .int .u8 102, .int .u8 102, .int .u8 102, .int .u8 102, .int .u8 102, .int .u8 102, .int .u8 102, .int .u8 102, .int .u8 102, .int .u8 102, .int .u8 102, .int .u8 102, .int .u8 102, .int .u8 102, .int .u8 102, .int .u8 102, .int .u8 102, .int .u8 102, .int .u8 102, .int .u8 102, .int .u8 102, .int .u8 102] t frozen
      | o => o).modify 3 fun
      | .cells _ t frozen => .cells #[.int .u64 6346243789798364141, .int .u64 1503914060200516822, .int .u64 0, .int .u64 1152921504606846976] t frozen
      | o => o) }
theorem laid_met (os : Os) : laidMet Tryd.prog Rows.signVerifiesRow.laid ((laidWorld os).forCall (fun _ _ => 0) ⟨#[], #[Value.agg (Array.replicate 32 (Value.int .u8 0) ++ Array.replicate 64 (Value.int .u8 0) ++ #[Value.slice none 0 0])], []⟩).memory :=
  laidMet_of_run' 8 (by kernel_rfl) (by kernel_rfl)
theorem reads (os : Os) {H : Type} (enc : TypeId × Value → H) : ∃ places, DataW.whole enc Tryd.prog ((laidWorld os).forCall (fun _ _ => 0) ⟨#[], #[Value.agg (Array.replicate 32 (Value.int .u8 0) ++ Array.replicate 64 (Value.int .u8 0) ++ #[Value.slice none 0 0])], []⟩).memory Tryd.f5.params.toList Rows.signVerifiesSpec.vars false (#[Value.agg (Array.replicate 32 (Value.int .u8 0) ++ Array.replicate 64 (Value.int .u8 0) ++ #[Value.slice none 0 0])]).toList 8 = some ([.agg [.agg (List.replicate 32 (.lit (.int .u8 0))), .agg (List.replicate 64 (.lit (.int .u8 0))), .nil]], [], places) :=
  ⟨[], by kernel_rfl⟩

set_option maxRecDepth 100000 in
theorem lifted (os : Os) (started : os.Started) (H : Type) (enc : TypeId × Value → H) (F : Stop.Interp) :
    ReturnsInHanded {} Tryd.checked os 5 .any ((OpenSpec.ofChange Rows.signVerifiesSpec).preRow enc Tryd.prog Tryd.f5 Rows.signVerifiesRow.domain false Rows.signVerifiesRow.laid) (((OpenSpec.ofChange Rows.signVerifiesSpec).at F).post enc Tryd.prog Tryd.f5 false true false false) := by
  obtain ⟨places, hx⟩ := reads os enc
  refine returnsInHanded_of_row (C := Tryd.checked) (s := OpenSpec.ofChange Rows.signVerifiesSpec) own started (by kernel_rfl) Tryd.func5
    (witness_row_at (enc := enc) (C := Tryd.checked) false (laidWorld os) #[Value.agg (Array.replicate 32 (Value.int .u8 0) ++ Array.replicate 64 (Value.int .u8 0) ++ #[Value.slice none 0 0])] rfl (by kernel_rfl) (by kernel_rfl) (by kernel_rfl)
      (OpenSpec.preRow_of_cond 8 hx (by kernel_rfl) (fun k hk => by cases hk) (by kernel_rfl) (laid_met os))) ?_
  intro W base args ds gs before hval hW _ hcond _ hL _ _
  exact contract H enc W base args ds gs before hval hW hL

theorem said : Rows.SignVerifiesSaid :=
  OpenClaim.holds_of_cond 5 Tryd.f5 rfl rfl rfl rfl rfl rfl rfl ⟨rfl, rfl, rfl, rfl, rfl⟩ rfl rfl rfl rfl rfl (by kernel_rfl) Tryd.func5 (by kernel_rfl)
    (of_decide_eq_true (by kernel_rfl)) (by unfold Func.isWrapper; first | (rw [if_pos (by decide +kernel)]; kernel_rfl) | (rw [if_neg (by decide +kernel)]; exact ⟨rfl, rfl⟩))
    (fun os started H enc _ F => by rw [OpenClaim.pre_eq_preRow]; exact lifted os started H enc F)

theorem plain (f : FuncId) (fn : Func) (hf : Tryd.pinned.checked.prog.funcNamed "burrow/burrowlaw08.SignVerifies" = some f) (hfn : Tryd.pinned.checked.prog.funcs[f]? = some fn) :
    false = Tryd.pinned.checked.prog.looks [] ∧ ∀ (j : Nat) t, fn.params[j]? = some t → Tryd.pinned.checked.prog.wantsStandIn t = false := by
  obtain rfl : f = 5 := Option.some.inj ((show Tryd.prog.funcNamed "burrow/burrowlaw08.SignVerifies" = some 5 by kernel_rfl).symm.trans hf) |>.symm
  obtain rfl : fn = Tryd.f5 := (Option.some.inj (Tryd.func5.symm.trans hfn)).symm
  refine ⟨by kernel_rfl, fun j t ht => ?_⟩
  rw [Tryd.params5] at ht
  have ht' := Array.mem_of_getElem? ht
  simp only [List.mem_toArray, List.mem_cons, List.not_mem_nil, or_false] at ht'
  subst ht'
  exact (show Tryd.prog.wantsStandIn 36 = false by kernel_rfl)

theorem card : Rows.SignVerifiesCardSaid :=
  Claim7.holds_tied_plain_at .later [] _ _ _ _ said (fun _ h => by cases h) (by kernel_rfl) (fun _ h => by cases h) signVerifies_row_tie rfl ⟨rfl, rfl⟩ (by kernel_rfl) rfl plain (by kernel_rfl)
end Go.Proofs.YtdoadngmgmdlbaaDoor.signVerifiesF
