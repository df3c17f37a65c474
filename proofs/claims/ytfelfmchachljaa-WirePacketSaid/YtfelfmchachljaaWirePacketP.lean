/- The law WirePacket (which bytes a packet has, by the reference's word, or that it is refused; and that it comes back from its bytes, sharing nothing with them; and the fixed fact of the zero packet) returns true for every packet: every group, epoch, sender and number, and every slice of bytes, nil or of any capacity (one of 70000 bytes or more: nothing is claimed by the law itself), and changes nothing of its world. No conditions. -/
import Derived.Test.YtfelfmchachljaaRows
import Derived.Test.YtfelfmchachljaaWrZ
import Derived.Test.YtfelfmchachljaaLaid
import Derived.Test.YtfelfmchachljaaSt5
import Derived.WalkKit
import Derived.ProofKit
import Derived.OpenShut
import Derived.ShutString
import Derived.ChangeOld
import Derived.Below
import Derived.Deep.DeepHandedRow
import Derived.Lib.LaidTab
import Derived.Lib.SmallJoins
namespace Go.Proofs.Ytfelfmchachljaa.wirePacketF
open Go.ChangeShapes Go.WideShapes Go.ChangeAt Go.RowKit
open Go.Proofs.Ytfelfmchachljaa.Rely
set_option linter.unusedVariables false

theorem own : ownKnob Try.prog.godebug = none := by kernel_rfl
theorem laidOut : laidOutB Try.prog = true := by kernel_rfl


set_option maxRecDepth 100000 in
theorem contract (H : Type) (enc : TypeId × Value → H) (W : World) (base : Nat) (args : Array Value) (ds gs : List (DataW H)) (before : List MemPlace)
    (hval : ∀ (j : Nat) t v, Try.f8.params[j]? = some t → args[j]? = some v → Value.okWide Try.prog W .any base t v)
    (hW : DataW.Whole enc Try.prog Try.f8.params.toList Rows.wirePacketSpec.vars false W args.toList ds gs before) :
    Calls Try.prog 8 args W fun e W' => ∃ v, e = .returned v ∧ Rows.wirePacketSpec.post enc Try.prog Try.f8 false true false false W args v W' := by
  have hW' := hW
  obtain ⟨p, q, hA0, hV, rfl, hfz, hnd⟩ := hW
  have hA : DataW.TrodAll enc Try.prog W 0 (fun _ => true) true Try.f8.params.toList args.toList ds p := hA0
  rw [Try.params8] at hA hval
  obtain ⟨v0, vs0, d0, ds0, p0, q0, hargs, rfl, rfl, h0, r0⟩ := trodAll_cons hA
  obtain ⟨rfl, rfl, rfl⟩ := trodAll_nil r0
  obtain rfl : args = #[v0] := by cases args; simp_all
  obtain ⟨rfl, rfl⟩ := trodVars_none hV
  have k0 := h0
  have lt0 : ∀ x ∈ p0, x.block < W.heap.size := by obtain ⟨m, hm⟩ := k0; exact DataW.trod_lt m _ _ _ hm
  obtain ⟨L0_0, L0_1, L0_2, L0_3, L0_4, y0_0, y0_1, y0_2, y0_3, y0_4, m0, rfl, hy0_0, hy0_1, hy0_2, hy0_3, hy0_4⟩ := Go.Proofs.Ytfelfmchachljaa.Auto.open_st5 (n0 := 32) (n1 := 1) (n2 := 1) (n3 := 1) (n4 := 1) Try.underlying81 ⟨by kernel_rfl, by kernel_rfl, by kernel_rfl, by kernel_rfl, by kernel_rfl⟩ ⟨by kernel_rfl, by kernel_rfl, by kernel_rfl, by kernel_rfl, by kernel_rfl⟩ (by kernel_rfl) (hval 0 81 v0 rfl rfl) h0
  obtain ⟨z0_0, rfl, hz0_0, w0_0⟩ := Go.Proofs.Ytfelfmchachljaa.Auto.open_raw Try.underlying39 Try.underlying5 (by kernel_rfl) (by kernel_rfl) hy0_0
  obtain ⟨x0_1, rfl, -, wx0_1⟩ := DataW.trod_int Try.underlying3 hy0_1
  obtain ⟨x0_2, rfl, -, wx0_2⟩ := DataW.trod_int Try.underlying3 hy0_2
  obtain ⟨x0_3, rfl, -, wx0_3⟩ := DataW.trod_int Try.underlying3 hy0_3
  obtain ⟨a0_4, len0_4, cap0_4, z0_4, e0_4, w0_4⟩ : ∃ a len cap zs, L0_4 = [.slice a len cap] ∧ IsRow .u8 W a len cap zs := by
    rcases open_ints Try.underlying26 Try.underlying5 (by kernel_rfl) hy0_4 with ⟨hcs, _⟩ | ⟨x, l, c, zs, hcs, _, hl, hm, hz, _, hcell, hwz⟩
    · exact ⟨none, 0, 0, [], hcs, .inl ⟨rfl, rfl, rfl, rfl⟩⟩
    · exact ⟨_, _, _, zs, hcs, .inr ⟨_, rfl, hl, hm, by simpa using hz, hcell, hwz⟩⟩
  subst e0_4
  clear hA0
  have walk : Calls Try.prog 8 #[.agg (z0_0.map (Value.int .u8) ++ [Value.int .i64 x0_1] ++ [Value.int .i64 x0_2] ++ [Value.int .i64 x0_3] ++ [Value.slice a0_4 len0_4 cap0_4]).toArray] W fun e w' => e = .returned (.bool true) ∧ Below W.heap.size W w' := by
    obtain ⟨r0_4, l0_4, f0_4⟩ := Go.Proofs.Ytfelfmchachljaa.Auto.rdK_of_row w0_4
    have h := Go.Proofs.Ytfelfmchachljaa.Wr.lawPacket z0_0 x0_1 x0_2 x0_3 (z0_4.take len0_4) a0_4 cap0_4 W hz0_0 w0_0 (Go.Proofs.Ytfelfmchachljaa.Auto.bytes_wf f0_4) (by rw [l0_4]; exact r0_4)
    rw [l0_4] at h
    have e : (z0_0.map (Value.int .u8) ++ [Value.int .i64 x0_1] ++ [Value.int .i64 x0_2] ++ [Value.int .i64 x0_3] ++ [Value.slice a0_4 len0_4 cap0_4]).toArray = Go.Proofs.Ytfelfmchachljaa.Auto.cat [Go.Proofs.Ytfelfmchachljaa.Rely.ints .u8 z0_0, #[.int .i64 x0_1], #[.int .i64 x0_2], #[.int .i64 x0_3], #[.slice a0_4 len0_4 cap0_4]] := by
      apply Array.ext'
      simp [Go.Proofs.Ytfelfmchachljaa.Auto.cat, Go.Proofs.Ytfelfmchachljaa.Rely.ints]
    rw [e]
    exact h
  refine walk.mono fun e W' ⟨he, bel⟩ => ?_
  subst he
  exact ⟨_, rfl, _, _, _, [], _, [], hW', trodAll_mk1 (shut_bool Try.underlying4 _), (trodAll_cons_mk (Below.trod laidOut (by kernel_rfl) (of_decide_eq_true (by kernel_rfl)) k0 bel lt0) trodAll_mk0), rfl, bel.frame _, fun h => by cases h⟩

set_option maxRecDepth 100000 in
theorem lifted (os : Os) (started : os.Started) (H : Type) (enc : TypeId × Value → H) :
    ReturnsInHanded {} Try.checked os 8 .any (Rows.wirePacketSpec.pre6 enc Try.prog Try.f8 Rows.wirePacketRow.domain false) (Rows.wirePacketSpec.post enc Try.prog Try.f8 false true false false) := by
  refine returnsInHanded_of_change (C := Try.checked) own started (by kernel_rfl) Try.func8
    (ChangeSpec.witness6 (enc := enc) (C := Try.checked) false ⟨#[], #[.agg (Array.replicate 32 (Value.int .u8 0) ++ #[Value.int .i64 0] ++ #[Value.int .i64 0] ++ #[Value.int .i64 0] ++ #[Value.slice none 0 0])], []⟩ 8 (by kernel_rfl) (by kernel_rfl) (by kernel_rfl) (by kernel_rfl)) ?_
  intro W base args ds gs before hval hW _ _
  exact contract H enc W base args ds gs before hval hW

theorem proved : Rows.WirePacketSaid :=
  OpenClaim.holds_of_wide 8 Try.f8 rfl rfl rfl rfl rfl rfl rfl ⟨rfl, rfl, rfl, rfl, rfl⟩ rfl rfl rfl rfl rfl (by kernel_rfl) Try.func8 (by kernel_rfl)
    (of_decide_eq_true (by kernel_rfl)) (by unfold Func.isWrapper; first | (rw [if_pos (by decide +kernel)]; kernel_rfl) | (rw [if_neg (by decide +kernel)]; exact ⟨rfl, rfl⟩))
    (fun os started H enc _ => lifted os started H enc)
end Go.Proofs.Ytfelfmchachljaa.wirePacketF
