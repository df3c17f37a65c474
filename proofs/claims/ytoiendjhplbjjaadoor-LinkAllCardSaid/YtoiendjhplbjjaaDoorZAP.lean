/- The law LinkAll (of up to 200 messages that one link sends, in whatever order and however often they come, each payload is taken once at most, as it was sent, whichever isn't older than 64 is taken the first time, and the highest number is the one that was taken) returns true for every two keys, every count and every slice of ints, of any length (more than 400: nothing is claimed by the law itself) or of any capacity, and changes nothing of its world, in any world in which package chacha's two tables lie as they are laid (card). -/
import Derived.Test.YtoiendjhplbjjaaDoorCards
import Derived.Test.YtoiendjhplbjjaaDoorTie
import Derived.Test.YtoiendjhplbjjaaDoorZA4
import Derived.WalkKit
import Derived.ProofKit
import Derived.OpenShut
import Derived.ShutString
import Derived.ChangeOld
import Derived.Below
import Derived.Deep.DeepHandedRow
import Derived.Lib.LaidTab
import Derived.Lib.SmallJoins
namespace Go.Proofs.YtoiendjhplbjjaaDoor.linkAllF
open Go.ChangeShapes Go.WideShapes Go.ChangeAt Go.RowKit
open Go.Proofs.YtoiendjhplbjjaaDoor.Rely
set_option linter.unusedVariables false

theorem own : ownKnob Tryd.prog.godebug = none := by kernel_rfl
theorem laidOut : laidOutB Tryd.prog = true := by kernel_rfl
open Go.Proofs.YtoiendjhplbjjaaDoor.Auto in
theorem rowH {W : World} (h : laidMetH Tryd.prog Rows.linkAllRow.laid W) : ∃ t, W.heap[2]? = some (.cells (ints .u32 [1634760805, 857760878, 2036477234, 1797285236]) t) :=
  Qg7 (P := Tryd.prog) (laid := Rows.linkAllRow.laid) (n := "burrow/chacha.heads") (t := 214) (e := 162) (m := 4) (k := .u32) (zs := [1634760805, 857760878, 2036477234, 1797285236]) h (List.Mem.head _) (by kernel_rfl) (by kernel_rfl) (by kernel_rfl) (by kernel_rfl) (by kernel_rfl) (by kernel_rfl) (by decide)
open Go.Proofs.YtoiendjhplbjjaaDoor.Auto in
theorem rowQ {W : World} (h : laidMetH Tryd.prog Rows.linkAllRow.laid W) : ∃ t, W.heap[3]? = some (.cells (ints .i64 [0, 4, 8, 12, 1, 5, 9, 13, 2, 6, 10, 14, 3, 7, 11, 15, 0, 5, 10, 15, 1, 6, 11, 12, 2, 7, 8, 13, 3, 4, 9, 14]) t) :=
  Qga (P := Tryd.prog) (laid := Rows.linkAllRow.laid) (n := "burrow/chacha.quarters") (t := 217) (e := 216) (i := 3) (m1 := 8) (m := 4) (k := .i64) (zss := [[0, 4, 8, 12], [1, 5, 9, 13], [2, 6, 10, 14], [3, 7, 11, 15], [0, 5, 10, 15], [1, 6, 11, 12], [2, 7, 8, 13], [3, 4, 9, 14]]) h (List.Mem.tail _ (List.Mem.head _)) (by kernel_rfl) (by kernel_rfl) (by kernel_rfl) (by kernel_rfl) (by kernel_rfl) (by kernel_rfl) (by kernel_rfl) (by kernel_rfl) (by decide)

set_option maxRecDepth 100000 in
theorem contract (H : Type) (enc : TypeId × Value → H) (W : World) (base : Nat) (args : Array Value) (ds gs : List (DataW H)) (before : List MemPlace)
    (hval : ∀ (j : Nat) t v, Tryd.f7.params[j]? = some t → args[j]? = some v → Value.okWide Tryd.prog W .any base t v)
    (hW : DataW.Whole enc Tryd.prog Tryd.f7.params.toList Rows.linkAllSpec.vars false W args.toList ds gs before) (hL : laidMetH Tryd.prog Rows.linkAllRow.laid W) :
    Calls Tryd.prog 7 args W fun e W' => ∃ v, e = .returned v ∧ Rows.linkAllSpec.post enc Tryd.prog Tryd.f7 false true false false W args v W' := by
  have hW' := hW
  obtain ⟨p, q, hA0, hV, rfl, hfz, hnd⟩ := hW
  have hA : DataW.TrodAll enc Tryd.prog W 0 (fun _ => true) true Tryd.f7.params.toList args.toList ds p := hA0
  rw [Tryd.params7] at hA hval
  obtain ⟨v0, vs0, d0, ds0, p0, q0, hargs, rfl, rfl, h0, r0⟩ := trodAll_cons hA
  obtain ⟨rfl, rfl, rfl⟩ := trodAll_nil r0
  obtain rfl : args = #[v0] := by cases args; simp_all
  obtain ⟨rfl, rfl⟩ := trodVars_none hV
  have k0 := h0
  have lt0 : ∀ x ∈ p0, x.block < W.heap.size := by obtain ⟨m, hm⟩ := k0; exact DataW.trod_lt m _ _ _ hm
  obtain ⟨L0_0, L0_1, L0_2, L0_3, y0_0, y0_1, y0_2, y0_3, m0, rfl, hy0_0, hy0_1, hy0_2, hy0_3⟩ := Go.Proofs.YtoiendjhplbjjaaDoor.Auto.open_st4 (n0 := 32) (n1 := 32) (n2 := 1) (n3 := 1) Tryd.underlying76 ⟨by kernel_rfl, by kernel_rfl, by kernel_rfl, by kernel_rfl⟩ ⟨by kernel_rfl, by kernel_rfl, by kernel_rfl, by kernel_rfl⟩ (by kernel_rfl) (hval 0 76 v0 rfl rfl) h0
  obtain ⟨z0_0, rfl, hz0_0, w0_0⟩ := Go.Proofs.YtoiendjhplbjjaaDoor.Auto.open_raw Tryd.underlying23 Tryd.underlying5 (by kernel_rfl) (by kernel_rfl) hy0_0
  obtain ⟨z0_1, rfl, hz0_1, w0_1⟩ := Go.Proofs.YtoiendjhplbjjaaDoor.Auto.open_raw Tryd.underlying23 Tryd.underlying5 (by kernel_rfl) (by kernel_rfl) hy0_1
  obtain ⟨x0_2, rfl, -, wx0_2⟩ := DataW.trod_int Tryd.underlying3 hy0_2
  obtain ⟨a0_3, len0_3, cap0_3, z0_3, e0_3, w0_3⟩ : ∃ a len cap zs, L0_3 = [.slice a len cap] ∧ Qif .i64 W a len cap zs := by
    rcases open_ints Tryd.underlying66 Tryd.underlying3 (by kernel_rfl) hy0_3 with ⟨hcs, _⟩ | ⟨x, l, c, zs, hcs, _, hl, hm, hz, _, hcell, hwz⟩
    · exact ⟨none, 0, 0, [], hcs, .inl ⟨rfl, rfl, rfl, rfl⟩⟩
    · exact ⟨_, _, _, zs, hcs, .inr ⟨_, rfl, hl, hm, by simpa using hz, hcell, hwz⟩⟩
  subst e0_3
  clear hA0
  have walk : Calls Tryd.prog 7 #[.agg (z0_0.map (Value.int .u8) ++ z0_1.map (Value.int .u8) ++ [Value.int .i64 x0_2] ++ [Value.slice a0_3 len0_3 cap0_3]).toArray] W fun e w' => e = .returned (.bool true) ∧ Below W.heap.size W w' := by
    obtain ⟨tH, hH⟩ := rowH hL
    obtain ⟨tQ, hQ⟩ := rowQ hL
    obtain ⟨r0_3, l0_3, f0_3⟩ := Go.Proofs.YtoiendjhplbjjaaDoor.Auto.rdK_of_row w0_3
    exact Go.Proofs.YtoiendjhplbjjaaDoor.Ll.lawAllF z0_0 z0_1 _ x0_2 _ _ _ tH tQ _ hH hQ hz0_0 hz0_1 r0_3 l0_3
  refine walk.mono fun e W' ⟨he, bel⟩ => ?_
  subst he
  exact ⟨_, rfl, _, _, _, [], _, [], hW', trodAll_mk1 (shut_bool Tryd.underlying4 _), (trodAll_cons_mk (Below.trod laidOut (by kernel_rfl) (of_decide_eq_true (by kernel_rfl)) k0 bel lt0) trodAll_mk0), rfl, bel.frame _, fun h => by cases h⟩

noncomputable def laidWorld (os : Os) : World :=
  { World.holding Tryd.prog os ⟨#[], #[], []⟩ with heap := (((World.holding Tryd.prog os ⟨#[], #[], []⟩).heap.modify 2 fun
      | .cells _ t frozen => .cells #[.int .u32 1634760805, .int .u32 857760878, .int .u32 2036477234, .int .u32 1797285236] t frozen
      | o => o).modify 3 fun
      | .cells _ t frozen => .cells #[.int .i64 0, .int .i64 4, .int .i64 8, .int .i64 12, .int .i64 1, .int .i64 5, .int .i64 9, .int .i64 13, .int .i64 2, .int .i64 6, .int .i64 10, .int .i64 14, .int .i64 3, .int .i64 7, .int .i64 11, .int .i64 15, .int .i64 0, .int .i64 5, .int .i64 10, .int .i64 15, .int .i64 1, .int .i64 6, .int .i64 11, .int .i64 12, .int .i64 2, .int .i64 7, .int .i64 8, .int .i64 13, .int .i64 3, .int .i64 4, .int .i64 9, .int .i64 14] t frozen
      | o => o) }
theorem laid_met (os : Os) : laidMet Tryd.prog Rows.linkAllRow.laid ((laidWorld os).forCall (fun _ _ => 0) ⟨#[], #[Value.agg (Array.replicate 32 (Value.int .u8 0) ++ Array.replicate 32 (Value.int .u8 0) ++ #[Value.int .i64 0] ++ #[Value.slice none 0 0])], []⟩).memory :=
  laidMet_of_run' 8 (by kernel_rfl) (by kernel_rfl)
theorem reads (os : Os) {H : Type} (enc : TypeId × Value → H) : ∃ places, DataW.whole enc Tryd.prog ((laidWorld os).forCall (fun _ _ => 0) ⟨#[], #[Value.agg (Array.replicate 32 (Value.int .u8 0) ++ Array.replicate 32 (Value.int .u8 0) ++ #[Value.int .i64 0] ++ #[Value.slice none 0 0])], []⟩).memory Tryd.f7.params.toList Rows.linkAllSpec.vars false (#[Value.agg (Array.replicate 32 (Value.int .u8 0) ++ Array.replicate 32 (Value.int .u8 0) ++ #[Value.int .i64 0] ++ #[Value.slice none 0 0])]).toList 8 = some ([.agg [.agg (List.replicate 32 (.lit (.int .u8 0))), .agg (List.replicate 32 (.lit (.int .u8 0))), .lit (.int .i64 0), .nil]], [], places) :=
  ⟨[], by kernel_rfl⟩

set_option maxRecDepth 100000 in
theorem lifted (os : Os) (started : os.Started) (H : Type) (enc : TypeId × Value → H) (F : Stop.Interp) :
    ReturnsInHanded {} Tryd.checked os 7 .any ((OpenSpec.ofChange Rows.linkAllSpec).preRow enc Tryd.prog Tryd.f7 Rows.linkAllRow.domain false Rows.linkAllRow.laid) (((OpenSpec.ofChange Rows.linkAllSpec).at F).post enc Tryd.prog Tryd.f7 false true false false) := by
  obtain ⟨places, hx⟩ := reads os enc
  refine returnsInHanded_of_row (C := Tryd.checked) (s := OpenSpec.ofChange Rows.linkAllSpec) own started (by kernel_rfl) Tryd.func7
    (witness_row_at (enc := enc) (C := Tryd.checked) false (laidWorld os) #[Value.agg (Array.replicate 32 (Value.int .u8 0) ++ Array.replicate 32 (Value.int .u8 0) ++ #[Value.int .i64 0] ++ #[Value.slice none 0 0])] rfl (by kernel_rfl) (by kernel_rfl) (by kernel_rfl)
      (OpenSpec.preRow_of_cond 8 hx (by kernel_rfl) (fun k hk => by cases hk) (by kernel_rfl) (laid_met os))) ?_
  intro W base args ds gs before hval hW _ hcond _ hL _ _
  exact contract H enc W base args ds gs before hval hW hL

theorem said : Rows.LinkAllSaid :=
  OpenClaim.holds_of_cond 7 Tryd.f7 rfl rfl rfl rfl rfl rfl rfl ⟨rfl, rfl, rfl, rfl, rfl⟩ rfl rfl rfl rfl rfl (by kernel_rfl) Tryd.func7 (by kernel_rfl)
    (of_decide_eq_true (by kernel_rfl)) (by unfold Func.isWrapper; first | (rw [if_pos (by decide +kernel)]; kernel_rfl) | (rw [if_neg (by decide +kernel)]; exact ⟨rfl, rfl⟩))
    (fun os started H enc _ F => by rw [OpenClaim.pre_eq_preRow]; exact lifted os started H enc F)

theorem plain (f : FuncId) (fn : Func) (hf : Tryd.pinned.checked.prog.funcNamed "burrow/burrowlaw12.LinkAll" = some f) (hfn : Tryd.pinned.checked.prog.funcs[f]? = some fn) :
    true = Tryd.pinned.checked.prog.looks [] ∧ ∀ (j : Nat) t, fn.params[j]? = some t → Tryd.pinned.checked.prog.wantsStandIn t = false := by
  obtain rfl : f = 7 := Option.some.inj ((show Tryd.prog.funcNamed "burrow/burrowlaw12.LinkAll" = some 7 by kernel_rfl).symm.trans hf) |>.symm
  obtain rfl : fn = Tryd.f7 := (Option.some.inj (Tryd.func7.symm.trans hfn)).symm
  refine ⟨by kernel_rfl, fun j t ht => ?_⟩
  rw [Tryd.params7] at ht
  have ht' := Array.mem_of_getElem? ht
  simp only [List.mem_toArray, List.mem_cons, List.not_mem_nil, or_false] at ht'
  subst ht'
  exact (show Tryd.prog.wantsStandIn 76 = false by kernel_rfl)

theorem card : Rows.LinkAllCardSaid :=
  Claim7.holds_tied_plain_at .later [] _ _ _ _ said (fun _ h => by cases h) (by kernel_rfl) (fun _ h => by cases h) linkAll_row_tie rfl ⟨rfl, rfl⟩ (by kernel_rfl) rfl plain (by kernel_rfl)
end Go.Proofs.YtoiendjhplbjjaaDoor.linkAllF
