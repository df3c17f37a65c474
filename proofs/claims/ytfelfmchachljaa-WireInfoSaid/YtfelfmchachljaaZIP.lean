/- The law WireInfo (which bytes an info has, by the reference's word, or that it is refused; that it is read back from these bytes; that what is read does not hang on the bytes; and the fixed fact of the zero packet) returns true for every info: every group, epoch, confirmed digest, tag, leaf and signature, and every tree: a slice of nodes, nil or of any capacity, each with every slice of ints, nil or of any capacity (of a tree of more than 101 nodes, or with a node of 100 ints or more, nothing is claimed by the law itself), and changes nothing of its world. No conditions. -/
import Derived.Test.YtfelfmchachljaaRows
import Derived.Test.YtfelfmchachljaaZI3
import Derived.WalkKit
import Derived.ProofKit
import Derived.OpenShut
import Derived.ShutString
import Derived.ChangeOld
import Derived.Below
import Derived.Deep.DeepHandedRow
import Derived.Lib.LaidTab
import Derived.Lib.SmallJoins
namespace Go.Proofs.Ytfelfmchachljaa.wireInfoF
open Go.ChangeShapes Go.WideShapes Go.ChangeAt Go.RowKit
open Go.Proofs.Ytfelfmchachljaa.Rely
set_option linter.unusedVariables false

theorem own : ownKnob Try.prog.godebug = none := by kernel_rfl
theorem laidOut : laidOutB Try.prog = true := by kernel_rfl


set_option maxRecDepth 100000 in
theorem contract (H : Type) (enc : TypeId × Value → H) (W : World) (base : Nat) (args : Array Value) (ds gs : List (DataW H)) (before : List MemPlace)
    (hval : ∀ (j : Nat) t v, Try.f6.params[j]? = some t → args[j]? = some v → Value.okWide Try.prog W .any base t v)
    (hW : DataW.Whole enc Try.prog Try.f6.params.toList Rows.wireInfoSpec.vars false W args.toList ds gs before) :
    Calls Try.prog 6 args W fun e W' => ∃ v, e = .returned v ∧ Rows.wireInfoSpec.post enc Try.prog Try.f6 false true false false W args v W' := by
  have hW' := hW
  obtain ⟨p, q, hA0, hV, rfl, hfz, hnd⟩ := hW
  have hA : DataW.TrodAll enc Try.prog W 0 (fun _ => true) true Try.f6.params.toList args.toList ds p := hA0
  rw [Try.params6] at hA hval
  obtain ⟨v0, vs0, d0, ds0, p0, q0, hargs, rfl, rfl, h0, r0⟩ := trodAll_cons hA
  obtain ⟨rfl, rfl, rfl⟩ := trodAll_nil r0
  obtain rfl : args = #[v0] := by cases args; simp_all
  obtain ⟨rfl, rfl⟩ := trodVars_none hV
  have k0 := h0
  have lt0 : ∀ x ∈ p0, x.block < W.heap.size := by obtain ⟨m, hm⟩ := k0; exact DataW.trod_lt m _ _ _ hm
  obtain ⟨L0_0, L0_1, L0_2, L0_3, L0_4, L0_5, L0_6, y0_0, y0_1, y0_2, y0_3, y0_4, y0_5, y0_6, m0, rfl, hy0_0, hy0_1, hy0_2, hy0_3, hy0_4, hy0_5, hy0_6⟩ := Go.Proofs.Ytfelfmchachljaa.Auto.open_st7 (n0 := 32) (n1 := 1) (n2 := 1) (n3 := 32) (n4 := 32) (n5 := 1) (n6 := 64) Try.underlying67 ⟨by kernel_rfl, by kernel_rfl, by kernel_rfl, by kernel_rfl, by kernel_rfl, by kernel_rfl, by kernel_rfl⟩ ⟨by kernel_rfl, by kernel_rfl, by kernel_rfl, by kernel_rfl, by kernel_rfl, by kernel_rfl, by kernel_rfl⟩ (by kernel_rfl) (hval 0 67 v0 rfl rfl) h0
  obtain ⟨z0_0, rfl, hz0_0, w0_0⟩ := Go.Proofs.Ytfelfmchachljaa.Auto.open_raw Try.underlying39 Try.underlying5 (by kernel_rfl) (by kernel_rfl) hy0_0
  obtain ⟨x0_1, rfl, -, wx0_1⟩ := DataW.trod_int Try.underlying3 hy0_1
  obtain ⟨a0_2, len0_2, cap0_2, ts0_2, e0_2, htl0_2, htr0_2, hok0_2⟩ := Go.Proofs.Ytfelfmchachljaa.Wr.open_tree_sub Try.underlying23 Try.underlying43 ⟨by kernel_rfl, by kernel_rfl, by kernel_rfl, by kernel_rfl, by kernel_rfl, by kernel_rfl⟩ ⟨by kernel_rfl, by kernel_rfl, by kernel_rfl, by kernel_rfl, by kernel_rfl, by kernel_rfl⟩ (by kernel_rfl) Try.underlying4 Try.underlying3 Try.underlying40 Try.underlying40 Try.underlying39 Try.underlying41 Try.underlying5 (by kernel_rfl) Try.underlying3 (by kernel_rfl) hy0_2
  subst e0_2
  obtain ⟨z0_3, rfl, hz0_3, w0_3⟩ := Go.Proofs.Ytfelfmchachljaa.Auto.open_raw Try.underlying39 Try.underlying5 (by kernel_rfl) (by kernel_rfl) hy0_3
  obtain ⟨z0_4, rfl, hz0_4, w0_4⟩ := Go.Proofs.Ytfelfmchachljaa.Auto.open_raw Try.underlying39 Try.underlying5 (by kernel_rfl) (by kernel_rfl) hy0_4
  obtain ⟨x0_5, rfl, -, wx0_5⟩ := DataW.trod_int Try.underlying3 hy0_5
  obtain ⟨z0_6, rfl, hz0_6, w0_6⟩ := Go.Proofs.Ytfelfmchachljaa.Auto.open_raw Try.underlying45 Try.underlying5 (by kernel_rfl) (by kernel_rfl) hy0_6
  clear hA0
  have walk : Calls Try.prog 6 #[.agg (z0_0.map (Value.int .u8) ++ [Value.int .i64 x0_1] ++ [Value.slice a0_2 len0_2 cap0_2] ++ z0_3.map (Value.int .u8) ++ z0_4.map (Value.int .u8) ++ [Value.int .i64 x0_5] ++ z0_6.map (Value.int .u8)).toArray] W fun e w' => e = .returned (.bool true) ∧ Below W.heap.size W w' := by
    have h := Go.Proofs.Ytfelfmchachljaa.Wr.lawI z0_0 x0_1 ts0_2 z0_3 z0_4 x0_5 z0_6 a0_2 cap0_2 W hz0_0 w0_0 hz0_3 w0_3 hz0_4 w0_4 hz0_6 w0_6 hok0_2 htr0_2
    rw [htl0_2] at h
    have e : (z0_0.map (Value.int .u8) ++ [Value.int .i64 x0_1] ++ [Value.slice a0_2 len0_2 cap0_2] ++ z0_3.map (Value.int .u8) ++ z0_4.map (Value.int .u8) ++ [Value.int .i64 x0_5] ++ z0_6.map (Value.int .u8)).toArray = Go.Proofs.Ytfelfmchachljaa.Auto.cat [Go.Proofs.Ytfelfmchachljaa.Rely.ints .u8 z0_0, #[.int .i64 x0_1], #[.slice a0_2 len0_2 cap0_2], Go.Proofs.Ytfelfmchachljaa.Rely.ints .u8 z0_3, Go.Proofs.Ytfelfmchachljaa.Rely.ints .u8 z0_4, #[.int .i64 x0_5], Go.Proofs.Ytfelfmchachljaa.Rely.ints .u8 z0_6] := by
      apply Array.ext'
      simp [Go.Proofs.Ytfelfmchachljaa.Auto.cat, Go.Proofs.Ytfelfmchachljaa.Rely.ints]
    rw [e]
    exact h
  refine walk.mono fun e W' ⟨he, bel⟩ => ?_
  subst he
  exact ⟨_, rfl, _, _, _, [], _, [], hW', trodAll_mk1 (shut_bool Try.underlying4 _), (trodAll_cons_mk (Below.trod laidOut (by kernel_rfl) (of_decide_eq_true (by kernel_rfl)) k0 bel lt0) trodAll_mk0), rfl, bel.frame _, fun h => by cases h⟩

set_option maxRecDepth 100000 in
theorem lifted (os : Os) (started : os.Started) (H : Type) (enc : TypeId × Value → H) :
    ReturnsInHanded {} Try.checked os 6 .any (Rows.wireInfoSpec.pre6 enc Try.prog Try.f6 Rows.wireInfoRow.domain false) (Rows.wireInfoSpec.post enc Try.prog Try.f6 false true false false) := by
  refine returnsInHanded_of_change (C := Try.checked) own started (by kernel_rfl) Try.func6
    (ChangeSpec.witness6 (enc := enc) (C := Try.checked) false ⟨#[], #[.agg (Array.replicate 32 (Value.int .u8 0) ++ #[Value.int .i64 0] ++ #[Value.slice none 0 0] ++ Array.replicate 32 (Value.int .u8 0) ++ Array.replicate 32 (Value.int .u8 0) ++ #[Value.int .i64 0] ++ Array.replicate 64 (Value.int .u8 0))], []⟩ 8 (by kernel_rfl) (by kernel_rfl) (by kernel_rfl) (by kernel_rfl)) ?_
  intro W base args ds gs before hval hW _ _
  exact contract H enc W base args ds gs before hval hW

theorem proved : Rows.WireInfoSaid :=
  OpenClaim.holds_of_wide 6 Try.f6 rfl rfl rfl rfl rfl rfl rfl ⟨rfl, rfl, rfl, rfl, rfl⟩ rfl rfl rfl rfl rfl (by kernel_rfl) Try.func6 (by kernel_rfl)
    (of_decide_eq_true (by kernel_rfl)) (by unfold Func.isWrapper; first | (rw [if_pos (by decide +kernel)]; kernel_rfl) | (rw [if_neg (by decide +kernel)]; exact ⟨rfl, rfl⟩))
    (fun os started H enc _ => lifted os started H enc)
end Go.Proofs.Ytfelfmchachljaa.wireInfoF
