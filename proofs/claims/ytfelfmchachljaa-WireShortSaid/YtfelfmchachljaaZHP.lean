/- The law WireShort (a commit's bytes, and a packet's bytes, cut at any place, or with a byte more, are refused with the error of the form) returns true for every commit, every packet, every place to cut and every byte: slices nil or of any capacity, of any length (of 51 proposals or more, of a path with a node of 100 ints or more, of more than 10 steps, of more than 300 rows in a step, of a row of 301 up to 65535 bytes, of a packet of more than 1000 sealed bytes, or with a proposal whose node has 100 ints or more, nothing is claimed by the law itself), and changes nothing of its world. No conditions. -/
import Derived.Test.YtfelfmchachljaaRows
import Derived.Test.YtfelfmchachljaaZH4
import Derived.WalkKit
import Derived.ProofKit
import Derived.OpenShut
import Derived.ShutString
import Derived.ChangeOld
import Derived.Below
import Derived.Deep.DeepHandedRow
import Derived.Lib.LaidTab
import Derived.Lib.SmallJoins
namespace Go.Proofs.Ytfelfmchachljaa.wireShortF
open Go.ChangeShapes Go.WideShapes Go.ChangeAt Go.RowKit
open Go.Proofs.Ytfelfmchachljaa.Rely
set_option linter.unusedVariables false

theorem own : ownKnob Try.prog.godebug = none := by kernel_rfl
theorem laidOut : laidOutB Try.prog = true := by kernel_rfl


set_option maxRecDepth 100000 in
theorem contract (H : Type) (enc : TypeId × Value → H) (W : World) (base : Nat) (args : Array Value) (ds gs : List (DataW H)) (before : List MemPlace)
    (hval : ∀ (j : Nat) t v, Try.f11.params[j]? = some t → args[j]? = some v → Value.okWide Try.prog W .any base t v)
    (hW : DataW.Whole enc Try.prog Try.f11.params.toList Rows.wireShortSpec.vars false W args.toList ds gs before) :
    Calls Try.prog 11 args W fun e W' => ∃ v, e = .returned v ∧ Rows.wireShortSpec.post enc Try.prog Try.f11 false true false false W args v W' := by
  have hW' := hW
  obtain ⟨p, q, hA0, hV, rfl, hfz, hnd⟩ := hW
  have hA : DataW.TrodAll enc Try.prog W 0 (fun _ => true) true Try.f11.params.toList args.toList ds p := hA0
  rw [Try.params11] at hA hval
  obtain ⟨v0, vs0, d0, ds0, p0, q0, hargs, rfl, rfl, h0, r0⟩ := trodAll_cons hA
  obtain ⟨rfl, rfl, rfl⟩ := trodAll_nil r0
  obtain rfl : args = #[v0] := by cases args; simp_all
  obtain ⟨rfl, rfl⟩ := trodVars_none hV
  have k0 := h0
  have lt0 : ∀ x ∈ p0, x.block < W.heap.size := by obtain ⟨m, hm⟩ := k0; exact DataW.trod_lt m _ _ _ hm
  obtain ⟨L0_0, L0_1, L0_2, L0_3, y0_0, y0_1, y0_2, y0_3, m0, rfl, hy0_0, hy0_1, hy0_2, hy0_3⟩ := Go.Proofs.Ytfelfmchachljaa.Auto.open_st4 (n0 := 263) (n1 := 36) (n2 := 1) (n3 := 1) Try.underlying107 ⟨by kernel_rfl, by kernel_rfl, by kernel_rfl, by kernel_rfl⟩ ⟨by kernel_rfl, by kernel_rfl, by kernel_rfl, by kernel_rfl⟩ (by kernel_rfl) (hval 0 107 v0 rfl rfl) h0
  obtain ⟨L0_0_0, L0_0_1, L0_0_2, L0_0_3, L0_0_4, L0_0_5, L0_0_6, L0_0_7, y0_0_0, y0_0_1, y0_0_2, y0_0_3, y0_0_4, y0_0_5, y0_0_6, y0_0_7, m0_0, rfl, hy0_0_0, hy0_0_1, hy0_0_2, hy0_0_3, hy0_0_4, hy0_0_5, hy0_0_6, hy0_0_7⟩ := Go.Proofs.Ytfelfmchachljaa.Auto.sub_st8 (n0 := 32) (n1 := 1) (n2 := 1) (n3 := 32) (n4 := 1) (n5 := 100) (n6 := 32) (n7 := 64) Try.underlying59 ⟨by kernel_rfl, by kernel_rfl, by kernel_rfl, by kernel_rfl, by kernel_rfl, by kernel_rfl, by kernel_rfl, by kernel_rfl⟩ ⟨by kernel_rfl, by kernel_rfl, by kernel_rfl, by kernel_rfl, by kernel_rfl, by kernel_rfl, by kernel_rfl, by kernel_rfl⟩ (by kernel_rfl) hy0_0
  obtain ⟨z0_0_0, rfl, hz0_0_0, w0_0_0⟩ := Go.Proofs.Ytfelfmchachljaa.Auto.open_raw Try.underlying39 Try.underlying5 (by kernel_rfl) (by kernel_rfl) hy0_0_0
  obtain ⟨x0_0_1, rfl, -, wx0_0_1⟩ := DataW.trod_int Try.underlying3 hy0_0_1
  obtain ⟨x0_0_2, rfl, -, wx0_0_2⟩ := DataW.trod_int Try.underlying3 hy0_0_2
  obtain ⟨z0_0_3, rfl, hz0_0_3, w0_0_3⟩ := Go.Proofs.Ytfelfmchachljaa.Auto.open_raw Try.underlying39 Try.underlying5 (by kernel_rfl) (by kernel_rfl) hy0_0_3
  obtain ⟨a0_0_4, len0_0_4, cap0_0_4, ts0_0_4, e0_0_4, htl0_0_4, hls0_0_4⟩ := Go.Proofs.Ytfelfmchachljaa.Wr.open_props hy0_0_4
  subst e0_0_4
  obtain ⟨L0_0_5_0, L0_0_5_1, y0_0_5_0, y0_0_5_1, m0_0_5, rfl, hy0_0_5_0, hy0_0_5_1⟩ := Go.Proofs.Ytfelfmchachljaa.Auto.sub_st2 (n0 := 99) (n1 := 1) Try.underlying57 ⟨by kernel_rfl, by kernel_rfl⟩ ⟨by kernel_rfl, by kernel_rfl⟩ (by kernel_rfl) hy0_0_5
  obtain ⟨L0_0_5_0_0, L0_0_5_0_1, L0_0_5_0_2, L0_0_5_0_3, L0_0_5_0_4, L0_0_5_0_5, y0_0_5_0_0, y0_0_5_0_1, y0_0_5_0_2, y0_0_5_0_3, y0_0_5_0_4, y0_0_5_0_5, m0_0_5_0, rfl, hy0_0_5_0_0, hy0_0_5_0_1, hy0_0_5_0_2, hy0_0_5_0_3, hy0_0_5_0_4, hy0_0_5_0_5⟩ := Go.Proofs.Ytfelfmchachljaa.Auto.sub_st6 (n0 := 1) (n1 := 1) (n2 := 32) (n3 := 32) (n4 := 32) (n5 := 1) Try.underlying43 ⟨by kernel_rfl, by kernel_rfl, by kernel_rfl, by kernel_rfl, by kernel_rfl, by kernel_rfl⟩ ⟨by kernel_rfl, by kernel_rfl, by kernel_rfl, by kernel_rfl, by kernel_rfl, by kernel_rfl⟩ (by kernel_rfl) hy0_0_5_0
  obtain ⟨b0_0_5_0_0, rfl, -⟩ := DataW.trod_bool Try.underlying4 hy0_0_5_0_0
  obtain ⟨x0_0_5_0_1, rfl, -, wx0_0_5_0_1⟩ := DataW.trod_int Try.underlying3 hy0_0_5_0_1
  obtain ⟨z0_0_5_0_2, rfl, hz0_0_5_0_2, w0_0_5_0_2⟩ := Go.Proofs.Ytfelfmchachljaa.Auto.open_raw Try.underlying40 Try.underlying5 (by kernel_rfl) (by kernel_rfl) hy0_0_5_0_2
  obtain ⟨z0_0_5_0_3, rfl, hz0_0_5_0_3, w0_0_5_0_3⟩ := Go.Proofs.Ytfelfmchachljaa.Auto.open_raw Try.underlying40 Try.underlying5 (by kernel_rfl) (by kernel_rfl) hy0_0_5_0_3
  obtain ⟨z0_0_5_0_4, rfl, hz0_0_5_0_4, w0_0_5_0_4⟩ := Go.Proofs.Ytfelfmchachljaa.Auto.open_raw Try.underlying39 Try.underlying5 (by kernel_rfl) (by kernel_rfl) hy0_0_5_0_4
  obtain ⟨a0_0_5_0_5, len0_0_5_0_5, cap0_0_5_0_5, z0_0_5_0_5, e0_0_5_0_5, w0_0_5_0_5⟩ : ∃ a len cap zs, L0_0_5_0_5 = [.slice a len cap] ∧ QhA .i64 W a len cap zs := by
    rcases open_ints Try.underlying41 Try.underlying3 (by kernel_rfl) hy0_0_5_0_5 with ⟨hcs, _⟩ | ⟨x, l, c, zs, hcs, _, hl, hm, hz, _, hcell, hwz⟩
    · exact ⟨none, 0, 0, [], hcs, .inl ⟨rfl, rfl, rfl, rfl⟩⟩
    · exact ⟨_, _, _, zs, hcs, .inr ⟨_, rfl, hl, hm, by simpa using hz, hcell, hwz⟩⟩
  subst e0_0_5_0_5
  obtain ⟨a0_0_5_1, len0_0_5_1, cap0_0_5_1, ts0_0_5_1, e0_0_5_1, htl0_0_5_1, hls0_0_5_1⟩ := Go.Proofs.Ytfelfmchachljaa.Wr.open_steps hy0_0_5_1
  subst e0_0_5_1
  obtain ⟨z0_0_6, rfl, hz0_0_6, w0_0_6⟩ := Go.Proofs.Ytfelfmchachljaa.Auto.open_raw Try.underlying39 Try.underlying5 (by kernel_rfl) (by kernel_rfl) hy0_0_6
  obtain ⟨z0_0_7, rfl, hz0_0_7, w0_0_7⟩ := Go.Proofs.Ytfelfmchachljaa.Auto.open_raw Try.underlying45 Try.underlying5 (by kernel_rfl) (by kernel_rfl) hy0_0_7
  obtain ⟨L0_1_0, L0_1_1, L0_1_2, L0_1_3, L0_1_4, y0_1_0, y0_1_1, y0_1_2, y0_1_3, y0_1_4, m0_1, rfl, hy0_1_0, hy0_1_1, hy0_1_2, hy0_1_3, hy0_1_4⟩ := Go.Proofs.Ytfelfmchachljaa.Auto.sub_st5 (n0 := 32) (n1 := 1) (n2 := 1) (n3 := 1) (n4 := 1) Try.underlying81 ⟨by kernel_rfl, by kernel_rfl, by kernel_rfl, by kernel_rfl, by kernel_rfl⟩ ⟨by kernel_rfl, by kernel_rfl, by kernel_rfl, by kernel_rfl, by kernel_rfl⟩ (by kernel_rfl) hy0_1
  obtain ⟨z0_1_0, rfl, hz0_1_0, w0_1_0⟩ := Go.Proofs.Ytfelfmchachljaa.Auto.open_raw Try.underlying39 Try.underlying5 (by kernel_rfl) (by kernel_rfl) hy0_1_0
  obtain ⟨x0_1_1, rfl, -, wx0_1_1⟩ := DataW.trod_int Try.underlying3 hy0_1_1
  obtain ⟨x0_1_2, rfl, -, wx0_1_2⟩ := DataW.trod_int Try.underlying3 hy0_1_2
  obtain ⟨x0_1_3, rfl, -, wx0_1_3⟩ := DataW.trod_int Try.underlying3 hy0_1_3
  obtain ⟨a0_1_4, len0_1_4, cap0_1_4, z0_1_4, e0_1_4, w0_1_4⟩ : ∃ a len cap zs, L0_1_4 = [.slice a len cap] ∧ QhA .u8 W a len cap zs := by
    rcases open_ints Try.underlying26 Try.underlying5 (by kernel_rfl) hy0_1_4 with ⟨hcs, _⟩ | ⟨x, l, c, zs, hcs, _, hl, hm, hz, _, hcell, hwz⟩
    · exact ⟨none, 0, 0, [], hcs, .inl ⟨rfl, rfl, rfl, rfl⟩⟩
    · exact ⟨_, _, _, zs, hcs, .inr ⟨_, rfl, hl, hm, by simpa using hz, hcell, hwz⟩⟩
  subst e0_1_4
  obtain ⟨x0_2, rfl, -, wx0_2⟩ := DataW.trod_int Try.underlying3 hy0_2
  obtain ⟨x0_3, rfl, -, wx0_3⟩ := DataW.trod_int Try.underlying5 hy0_3
  clear hA0
  have walk : Calls Try.prog 11 #[.agg ((z0_0_0.map (Value.int .u8) ++ [Value.int .i64 x0_0_1] ++ [Value.int .i64 x0_0_2] ++ z0_0_3.map (Value.int .u8) ++ [Value.slice a0_0_4 len0_0_4 cap0_0_4] ++ (([Value.bool b0_0_5_0_0] ++ [Value.int .i64 x0_0_5_0_1] ++ z0_0_5_0_2.map (Value.int .u8) ++ z0_0_5_0_3.map (Value.int .u8) ++ z0_0_5_0_4.map (Value.int .u8) ++ [Value.slice a0_0_5_0_5 len0_0_5_0_5 cap0_0_5_0_5]) ++ [Value.slice a0_0_5_1 len0_0_5_1 cap0_0_5_1]) ++ z0_0_6.map (Value.int .u8) ++ z0_0_7.map (Value.int .u8)) ++ (z0_1_0.map (Value.int .u8) ++ [Value.int .i64 x0_1_1] ++ [Value.int .i64 x0_1_2] ++ [Value.int .i64 x0_1_3] ++ [Value.slice a0_1_4 len0_1_4 cap0_1_4]) ++ [Value.int .i64 x0_2] ++ [Value.int .u8 x0_3]).toArray] W fun e w' => e = .returned (.bool true) ∧ Below W.heap.size W w' := by
    obtain ⟨r9, l9, f9⟩ := Go.Proofs.Ytfelfmchachljaa.Auto.rdK_of_row w0_0_5_0_5
    obtain ⟨r8, l8, f8⟩ := Go.Proofs.Ytfelfmchachljaa.Auto.rdK_of_row w0_1_4
    have h := Go.Proofs.Ytfelfmchachljaa.Wr.lawSh z0_0_0 x0_0_1 x0_0_2 z0_0_3 ts0_0_4 ⟨b0_0_5_0_0, x0_0_5_0_1, z0_0_5_0_2, z0_0_5_0_3, z0_0_5_0_4, z0_0_5_0_5.take len0_0_5_0_5⟩ ts0_0_5_1 z0_0_6 z0_0_7 a0_0_4 cap0_0_4 a0_0_5_0_5 cap0_0_5_0_5 a0_0_5_1 cap0_0_5_1 z0_1_0 x0_1_1 x0_1_2 x0_1_3 (z0_1_4.take len0_1_4) a0_1_4 cap0_1_4 x0_2 x0_3 W ⟨hz0_0_0, w0_0_0, hz0_0_3, w0_0_3, ⟨hz0_0_5_0_2, hz0_0_5_0_3, hz0_0_5_0_4, w0_0_5_0_2, w0_0_5_0_3, w0_0_5_0_4⟩, hz0_0_6, w0_0_6, hz0_0_7, w0_0_7⟩ ⟨hls0_0_4, (by show Go.Proofs.Ytfelfmchachljaa.Auto.RdK .i64 _ _ (.slice _ (z0_0_5_0_5.take len0_0_5_0_5).length _) W; rw [l9]; exact r9), hls0_0_5_1⟩ hz0_1_0 w0_1_0 (Go.Proofs.Ytfelfmchachljaa.Auto.bytes_wf f8) (by rw [l8]; exact r8) (Go.Proofs.Ytfelfmchachljaa.Auto.bytes_wf fun n hn => by rw [List.mem_singleton.1 hn]; exact wx0_3)
    dsimp only at h
    rw [l9, l8, htl0_0_4, htl0_0_5_1] at h
    have e : ((z0_0_0.map (Value.int .u8) ++ [Value.int .i64 x0_0_1] ++ [Value.int .i64 x0_0_2] ++ z0_0_3.map (Value.int .u8) ++ [Value.slice a0_0_4 len0_0_4 cap0_0_4] ++ (([Value.bool b0_0_5_0_0] ++ [Value.int .i64 x0_0_5_0_1] ++ z0_0_5_0_2.map (Value.int .u8) ++ z0_0_5_0_3.map (Value.int .u8) ++ z0_0_5_0_4.map (Value.int .u8) ++ [Value.slice a0_0_5_0_5 len0_0_5_0_5 cap0_0_5_0_5]) ++ [Value.slice a0_0_5_1 len0_0_5_1 cap0_0_5_1]) ++ z0_0_6.map (Value.int .u8) ++ z0_0_7.map (Value.int .u8)) ++ (z0_1_0.map (Value.int .u8) ++ [Value.int .i64 x0_1_1] ++ [Value.int .i64 x0_1_2] ++ [Value.int .i64 x0_1_3] ++ [Value.slice a0_1_4 len0_1_4 cap0_1_4]) ++ [Value.int .i64 x0_2] ++ [Value.int .u8 x0_3]).toArray = Go.Proofs.Ytfelfmchachljaa.Auto.cat [Go.Proofs.Ytfelfmchachljaa.Rely.ints .u8 z0_0_0, #[.int .i64 x0_0_1], #[.int .i64 x0_0_2], Go.Proofs.Ytfelfmchachljaa.Rely.ints .u8 z0_0_3, #[.slice a0_0_4 len0_0_4 cap0_0_4], #[.bool b0_0_5_0_0], #[.int .i64 x0_0_5_0_1], Go.Proofs.Ytfelfmchachljaa.Rely.ints .u8 z0_0_5_0_2, Go.Proofs.Ytfelfmchachljaa.Rely.ints .u8 z0_0_5_0_3, Go.Proofs.Ytfelfmchachljaa.Rely.ints .u8 z0_0_5_0_4, #[.slice a0_0_5_0_5 len0_0_5_0_5 cap0_0_5_0_5], #[.slice a0_0_5_1 len0_0_5_1 cap0_0_5_1], Go.Proofs.Ytfelfmchachljaa.Rely.ints .u8 z0_0_6, Go.Proofs.Ytfelfmchachljaa.Rely.ints .u8 z0_0_7, Go.Proofs.Ytfelfmchachljaa.Rely.ints .u8 z0_1_0, #[.int .i64 x0_1_1], #[.int .i64 x0_1_2], #[.int .i64 x0_1_3], #[.slice a0_1_4 len0_1_4 cap0_1_4], #[.int .i64 x0_2], #[.int .u8 x0_3]] := by
      apply Array.ext'
      simp [Go.Proofs.Ytfelfmchachljaa.Auto.cat, Go.Proofs.Ytfelfmchachljaa.Rely.ints]
    rw [e]
    exact h
  refine walk.mono fun e W' ⟨he, bel⟩ => ?_
  subst he
  exact ⟨_, rfl, _, _, _, [], _, [], hW', trodAll_mk1 (shut_bool Try.underlying4 _), (trodAll_cons_mk (Below.trod laidOut (by kernel_rfl) (of_decide_eq_true (by kernel_rfl)) k0 bel lt0) trodAll_mk0), rfl, bel.frame _, fun h => by cases h⟩

set_option maxRecDepth 100000 in
theorem lifted (os : Os) (started : os.Started) (H : Type) (enc : TypeId × Value → H) :
    ReturnsInHanded {} Try.checked os 11 .any (Rows.wireShortSpec.pre6 enc Try.prog Try.f11 Rows.wireShortRow.domain false) (Rows.wireShortSpec.post enc Try.prog Try.f11 false true false false) := by
  refine returnsInHanded_of_change (C := Try.checked) own started (by kernel_rfl) Try.func11
    (ChangeSpec.witness6 (enc := enc) (C := Try.checked) false ⟨#[], #[.agg (Array.replicate 32 (Value.int .u8 0) ++ #[Value.int .i64 0] ++ #[Value.int .i64 0] ++ Array.replicate 32 (Value.int .u8 0) ++ #[Value.slice none 0 0] ++ #[Value.bool false] ++ #[Value.int .i64 0] ++ Array.replicate 32 (Value.int .u8 0) ++ Array.replicate 32 (Value.int .u8 0) ++ Array.replicate 32 (Value.int .u8 0) ++ #[Value.slice none 0 0] ++ #[Value.slice none 0 0] ++ Array.replicate 32 (Value.int .u8 0) ++ Array.replicate 64 (Value.int .u8 0) ++ Array.replicate 32 (Value.int .u8 0) ++ #[Value.int .i64 0] ++ #[Value.int .i64 0] ++ #[Value.int .i64 0] ++ #[Value.slice none 0 0] ++ #[Value.int .i64 0] ++ #[Value.int .u8 0])], []⟩ 8 (by kernel_rfl) (by kernel_rfl) (by kernel_rfl) (by kernel_rfl)) ?_
  intro W base args ds gs before hval hW _ _
  exact contract H enc W base args ds gs before hval hW

theorem proved : Rows.WireShortSaid :=
  OpenClaim.holds_of_wide 11 Try.f11 rfl rfl rfl rfl rfl rfl rfl ⟨rfl, rfl, rfl, rfl, rfl⟩ rfl rfl rfl rfl rfl (by kernel_rfl) Try.func11 (by kernel_rfl)
    (of_decide_eq_true (by kernel_rfl)) (by unfold Func.isWrapper; first | (rw [if_pos (by decide +kernel)]; kernel_rfl) | (rw [if_neg (by decide +kernel)]; exact ⟨rfl, rfl⟩))
    (fun os started H enc _ => lifted os started H enc)
end Go.Proofs.Ytfelfmchachljaa.wireShortF
