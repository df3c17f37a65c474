/- The law AeadOpens (what any bytes are opened to, or the error, is the reference's, the arguments stay as they were, and what is answered shares no memory with them) returns true for every key and every three slices of bytes, nil, overlapping or of any capacity, and changes nothing of its world, in any world in which package chacha's two tables lie as they are laid; this is the second form: where all that comes in holds at most 1048576 values (card). -/
import Derived.Test.YtjldjdlhllgakaaDoorCards
import Derived.Test.YtjldjdlhllgakaaDoorTie
import Derived.Test.YtjldjdlhllgakaaDoorZO5
import Derived.WalkKit
import Derived.ProofKit
import Derived.OpenShut
import Derived.ShutString
import Derived.ChangeOld
import Derived.Below
import Derived.Deep.DeepHandedRow
import Derived.Lib.LaidTab
import Derived.Lib.SmallJoins
namespace Go.Proofs.YtjldjdlhllgakaaDoor.aeadOpensF
open Go.ChangeShapes Go.WideShapes Go.ChangeAt Go.RowKit
open Go.Proofs.YtjldjdlhllgakaaDoor.Rely
set_option linter.unusedVariables false

theorem own : ownKnob Tryd.prog.godebug = none := by kernel_rfl
theorem laidOut : laidOutB Tryd.prog = true := by kernel_rfl
open Go.Proofs.YtjldjdlhllgakaaDoor.Auto in
theorem rowH {W : World} (h : laidMetH Tryd.prog Rows.aeadOpensRow.laid W) : ∃ t, W.heap[0]? = some (.cells (ints .u32 [1634760805, 857760878, 2036477234, 1797285236]) t) :=
  QiC (P := Tryd.prog) (laid := Rows.aeadOpensRow.laid) (n := "burrow/chacha.heads") (t := 98) (e := 87) (m := 4) (k := .u32) (zs := [1634760805, 857760878, 2036477234, 1797285236]) h (List.Mem.head _) (by kernel_rfl) (by kernel_rfl) (by kernel_rfl) (by kernel_rfl) (by kernel_rfl) (by kernel_rfl) (by decide)
open Go.Proofs.YtjldjdlhllgakaaDoor.Auto in
theorem rowQ {W : World} (h : laidMetH Tryd.prog Rows.aeadOpensRow.laid W) : ∃ t, W.heap[1]? = some (.cells (ints .i64 [0, 4, 8, 12, 1, 5, 9, 13, 2, 6, 10, 14, 3, 7, 11, 15, 0, 5, 10, 15, 1, 6, 11, 12, 2, 7, 8, 13, 3, 4, 9, 14]) t) :=
  QhX (P := Tryd.prog) (laid := Rows.aeadOpensRow.laid) (n := "burrow/chacha.quarters") (t := 100) (e := 68) (i := 3) (m1 := 8) (m := 4) (k := .i64) (zss := [[0, 4, 8, 12], [1, 5, 9, 13], [2, 6, 10, 14], [3, 7, 11, 15], [0, 5, 10, 15], [1, 6, 11, 12], [2, 7, 8, 13], [3, 4, 9, 14]]) h (List.Mem.tail _ (List.Mem.head _)) (by kernel_rfl) (by kernel_rfl) (by kernel_rfl) (by kernel_rfl) (by kernel_rfl) (by kernel_rfl) (by kernel_rfl) (by kernel_rfl) (by decide)

set_option maxRecDepth 100000 in
theorem contract (H : Type) (enc : TypeId × Value → H) (W : World) (base : Nat) (args : Array Value) (ds gs : List (DataW H)) (before : List MemPlace)
    (hval : ∀ (j : Nat) t v, Tryd.f5.params[j]? = some t → args[j]? = some v → Value.okWide Tryd.prog W .any base t v)
    (hW : DataW.Whole enc Tryd.prog Tryd.f5.params.toList Rows.aeadOpensSpec.vars false W args.toList ds gs before) (hL : laidMetH Tryd.prog Rows.aeadOpensRow.laid W) (hk : Rows.uptoSmall H (ds ++ gs) = true) :
    Calls Tryd.prog 5 args W fun e W' => ∃ v, e = .returned v ∧ Rows.aeadOpensSpec.post enc Tryd.prog Tryd.f5 false true false false W args v W' := by
  have hW' := hW
  obtain ⟨p, q, hA0, hV, rfl, hfz, hnd⟩ := hW
  have hA : DataW.TrodAll enc Tryd.prog W 0 (fun _ => true) true Tryd.f5.params.toList args.toList ds p := hA0
  rw [Tryd.params5] at hA hval
  obtain ⟨v0, vs0, d0, ds0, p0, q0, hargs, rfl, rfl, h0, r0⟩ := trodAll_cons hA
  obtain ⟨rfl, rfl, rfl⟩ := trodAll_nil r0
  obtain rfl : args = #[v0] := by cases args; simp_all
  obtain ⟨rfl, rfl⟩ := trodVars_none hV
  have k0 := h0
  have lt0 : ∀ x ∈ p0, x.block < W.heap.size := by obtain ⟨m, hm⟩ := k0; exact DataW.trod_lt m _ _ _ hm
  obtain ⟨L0_0, L0_1, L0_2, L0_3, y0_0, y0_1, y0_2, y0_3, m0, rfl, hy0_0, hy0_1, hy0_2, hy0_3, hdd0⟩ := Go.Proofs.YtjldjdlhllgakaaDoor.Auto.open_st4U (n0 := 32) (n1 := 1) (n2 := 1) (n3 := 1) Tryd.underlying33 ⟨by kernel_rfl, by kernel_rfl, by kernel_rfl, by kernel_rfl⟩ ⟨by kernel_rfl, by kernel_rfl, by kernel_rfl, by kernel_rfl⟩ (by kernel_rfl) (hval 0 33 v0 rfl rfl) h0
  obtain ⟨z0_0, rfl, hz0_0, w0_0⟩ := Go.Proofs.YtjldjdlhllgakaaDoor.Auto.open_raw Tryd.underlying23 Tryd.underlying5 (by kernel_rfl) (by kernel_rfl) hy0_0
  obtain ⟨a0_1, len0_1, cap0_1, z0_1, e0_1, w0_1⟩ : ∃ a len cap zs, L0_1 = [.slice a len cap] ∧ QiW .u8 W a len cap zs := by
    rcases open_ints Tryd.underlying24 Tryd.underlying5 (by kernel_rfl) hy0_1 with ⟨hcs, _⟩ | ⟨x, l, c, zs, hcs, _, hl, hm, hz, _, hcell, hwz⟩
    · exact ⟨none, 0, 0, [], hcs, .inl ⟨rfl, rfl, rfl, rfl⟩⟩
    · exact ⟨_, _, _, zs, hcs, .inr ⟨_, rfl, hl, hm, by simpa using hz, hcell, hwz⟩⟩
  subst e0_1
  obtain ⟨a0_2, len0_2, cap0_2, z0_2, e0_2, w0_2⟩ : ∃ a len cap zs, L0_2 = [.slice a len cap] ∧ QiW .u8 W a len cap zs := by
    rcases open_ints Tryd.underlying24 Tryd.underlying5 (by kernel_rfl) hy0_2 with ⟨hcs, _⟩ | ⟨x, l, c, zs, hcs, _, hl, hm, hz, _, hcell, hwz⟩
    · exact ⟨none, 0, 0, [], hcs, .inl ⟨rfl, rfl, rfl, rfl⟩⟩
    · exact ⟨_, _, _, zs, hcs, .inr ⟨_, rfl, hl, hm, by simpa using hz, hcell, hwz⟩⟩
  subst e0_2
  obtain ⟨a0_3, len0_3, cap0_3, z0_3, e0_3, w0_3⟩ : ∃ a len cap zs, L0_3 = [.slice a len cap] ∧ QiW .u8 W a len cap zs := by
    rcases open_ints Tryd.underlying24 Tryd.underlying5 (by kernel_rfl) hy0_3 with ⟨hcs, _⟩ | ⟨x, l, c, zs, hcs, _, hl, hm, hz, _, hcell, hwz⟩
    · exact ⟨none, 0, 0, [], hcs, .inl ⟨rfl, rfl, rfl, rfl⟩⟩
    · exact ⟨_, _, _, zs, hcs, .inr ⟨_, rfl, hl, hm, by simpa using hz, hcell, hwz⟩⟩
  subst e0_3
  have hbk : Rows.uptoBulkAll [d0] ≤ 1048576 := by have h := of_decide_eq_true hk; simpa only [List.append_nil, List.cons_append, List.nil_append] using h
  subst hdd0
  have hb0_1 : len0_1 ≤ 1048576 := by
    rcases open_ints Tryd.underlying24 Tryd.underlying5 (by kernel_rfl) hy0_1 with ⟨hcs, _⟩ | ⟨x, l, c, zs, hcs, _, hl, hm, hz, hxx, hcell, hwz⟩
    · simp only [List.cons.injEq, Value.slice.injEq, and_true] at hcs
      obtain ⟨-, rfl, -⟩ := hcs
      omega
    · simp only [List.cons.injEq, Value.slice.injEq, and_true] at hcs
      obtain ⟨rfl, rfl, rfl⟩ := hcs
      have hd : y0_1.1 = _ := congrArg Prod.fst hxx
      simp only at hd
      have h1 := Go.Proofs.YtjldjdlhllgakaaDoor.Auto.bulk_slice (H := H) (lits .u8 (zs.take len0_1)) (lits .u8 (zs.drop len0_1))
      have h2 : len0_1 ≤ zs.length := by rw [hz]; split <;> omega
      have h3 : (lits (H := H) .u8 (zs.take len0_1)).length = len0_1 := by unfold lits; rw [List.length_map, List.length_take]; omega
      rw [← hd] at h1
      simp only [Rows.uptoBulkAll, Rows.uptoBulk] at hbk
      omega
  have hb0_2 : len0_2 ≤ 1048576 := by
    rcases open_ints Tryd.underlying24 Tryd.underlying5 (by kernel_rfl) hy0_2 with ⟨hcs, _⟩ | ⟨x, l, c, zs, hcs, _, hl, hm, hz, hxx, hcell, hwz⟩
    · simp only [List.cons.injEq, Value.slice.injEq, and_true] at hcs
      obtain ⟨-, rfl, -⟩ := hcs
      omega
    · simp only [List.cons.injEq, Value.slice.injEq, and_true] at hcs
      obtain ⟨rfl, rfl, rfl⟩ := hcs
      have hd : y0_2.1 = _ := congrArg Prod.fst hxx
      simp only at hd
      have h1 := Go.Proofs.YtjldjdlhllgakaaDoor.Auto.bulk_slice (H := H) (lits .u8 (zs.take len0_2)) (lits .u8 (zs.drop len0_2))
      have h2 : len0_2 ≤ zs.length := by rw [hz]; split <;> omega
      have h3 : (lits (H := H) .u8 (zs.take len0_2)).length = len0_2 := by unfold lits; rw [List.length_map, List.length_take]; omega
      rw [← hd] at h1
      simp only [Rows.uptoBulkAll, Rows.uptoBulk] at hbk
      omega
  have hb0_3 : len0_3 ≤ 1048576 := by
    rcases open_ints Tryd.underlying24 Tryd.underlying5 (by kernel_rfl) hy0_3 with ⟨hcs, _⟩ | ⟨x, l, c, zs, hcs, _, hl, hm, hz, hxx, hcell, hwz⟩
    · simp only [List.cons.injEq, Value.slice.injEq, and_true] at hcs
      obtain ⟨-, rfl, -⟩ := hcs
      omega
    · simp only [List.cons.injEq, Value.slice.injEq, and_true] at hcs
      obtain ⟨rfl, rfl, rfl⟩ := hcs
      have hd : y0_3.1 = _ := congrArg Prod.fst hxx
      simp only at hd
      have h1 := Go.Proofs.YtjldjdlhllgakaaDoor.Auto.bulk_slice (H := H) (lits .u8 (zs.take len0_3)) (lits .u8 (zs.drop len0_3))
      have h2 : len0_3 ≤ zs.length := by rw [hz]; split <;> omega
      have h3 : (lits (H := H) .u8 (zs.take len0_3)).length = len0_3 := by unfold lits; rw [List.length_map, List.length_take]; omega
      rw [← hd] at h1
      simp only [Rows.uptoBulkAll, Rows.uptoBulk] at hbk
      omega
  clear hA0
  have walk : Calls Tryd.prog 5 #[.agg (z0_0.map (Value.int .u8) ++ [Value.slice a0_1 len0_1 cap0_1] ++ [Value.slice a0_2 len0_2 cap0_2] ++ [Value.slice a0_3 len0_3 cap0_3]).toArray] W fun e w' => e = .returned (.bool true) ∧ Below W.heap.size W w' := by
    obtain ⟨tH, hH⟩ := rowH hL
    obtain ⟨tQ, hQ⟩ := rowQ hL
    obtain ⟨r0_1, l0_1, f0_1⟩ := Go.Proofs.YtjldjdlhllgakaaDoor.Auto.rdK_of_row w0_1
    obtain ⟨r0_2, l0_2, f0_2⟩ := Go.Proofs.YtjldjdlhllgakaaDoor.Auto.rdK_of_row w0_2
    obtain ⟨r0_3, l0_3, f0_3⟩ := Go.Proofs.YtjldjdlhllgakaaDoor.Auto.rdK_of_row w0_3
    exact Go.Proofs.YtjldjdlhllgakaaDoor.Ae.lawOpensF z0_0 _ _ _ _ _ _ _ _ _ _ _ _ tH tQ _ hH hQ hz0_0 w0_0 (Go.Proofs.YtjldjdlhllgakaaDoor.Auto.bytes_wf f0_1) (Go.Proofs.YtjldjdlhllgakaaDoor.Auto.bytes_wf f0_2) (Go.Proofs.YtjldjdlhllgakaaDoor.Auto.bytes_wf f0_3) r0_1 r0_2 r0_3 l0_1 l0_2 l0_3 hb0_1 hb0_2 hb0_3
  refine walk.mono fun e W' ⟨he, bel⟩ => ?_
  subst he
  exact ⟨_, rfl, _, _, _, [], _, [], hW', trodAll_mk1 (shut_bool Tryd.underlying4 _), (trodAll_cons_mk (Below.trod laidOut (by kernel_rfl) (of_decide_eq_true (by kernel_rfl)) k0 bel lt0) trodAll_mk0), rfl, bel.frame _, fun h => by cases h⟩

noncomputable def laidWorld (os : Os) : World :=
  { World.holding Tryd.prog os ⟨#[], #[], []⟩ with heap := (((World.holding Tryd.prog os ⟨#[], #[], []⟩).heap.modify 0 fun
      | .cells _ t frozen => .cells #[.int .u32 1634760805, .int .u32 857760878, .int .u32 2036477234, .int .u32 1797285236] t frozen
      | o => o).modify 1 fun
      | .cells _ t frozen => .cells #[.int .i64 0, .int .i64 4, .int .i64 8, .int .i64 12, .int .i64 1, .int .i64 5, .int .i64 9, .int .i64 13, .int .i64 2, .int .i64 6, .int .i64 10, .int .i64 14, .int .i64 3, .int .i64 7, .int .i64 11, .int .i64 15, .int .i64 0, .int .i64 5, .int .i64 10, .int .i64 15, .int .i64 1, .int .i64 6, .int .i64 11, .int .i64 12, .int .i64 2, .int .i64 7, .int .i64 8, .int .i64 13, .int .i64 3, .int .i64 4, .int .i64 9, .int .i64 14] t frozen
      | o => o) }
theorem laid_met (os : Os) : laidMet Tryd.prog Rows.aeadOpensRow.laid ((laidWorld os).forCall (fun _ _ => 0) ⟨#[], #[Value.agg (Array.replicate 32 (Value.int .u8 0) ++ #[Value.slice none 0 0] ++ #[Value.slice none 0 0] ++ #[Value.slice none 0 0])], []⟩).memory :=
  laidMet_of_run' 8 (by kernel_rfl) (by kernel_rfl)
theorem reads (os : Os) {H : Type} (enc : TypeId × Value → H) : ∃ places, DataW.whole enc Tryd.prog ((laidWorld os).forCall (fun _ _ => 0) ⟨#[], #[Value.agg (Array.replicate 32 (Value.int .u8 0) ++ #[Value.slice none 0 0] ++ #[Value.slice none 0 0] ++ #[Value.slice none 0 0])], []⟩).memory Tryd.f5.params.toList Rows.aeadOpensSpec.vars false (#[Value.agg (Array.replicate 32 (Value.int .u8 0) ++ #[Value.slice none 0 0] ++ #[Value.slice none 0 0] ++ #[Value.slice none 0 0])]).toList 8 = some ([.agg [.agg (List.replicate 32 (.lit (.int .u8 0))), .nil, .nil, .nil]], [], places) :=
  ⟨[], by kernel_rfl⟩

set_option maxRecDepth 100000 in
theorem lifted (os : Os) (started : os.Started) (H : Type) (enc : TypeId × Value → H) (F : Stop.Interp) :
    ReturnsInHanded {} Tryd.checked os 5 .any ((Rows.OpenSpec.upto Rows.aeadOpensSpec).preRow enc Tryd.prog Tryd.f5 Rows.aeadOpensUptoRow.domain false Rows.aeadOpensUptoRow.laid) (((Rows.OpenSpec.upto Rows.aeadOpensSpec).at F).post enc Tryd.prog Tryd.f5 false true false false) := by
  obtain ⟨places, hx⟩ := reads os enc
  refine returnsInHanded_of_row (C := Tryd.checked) (s := Rows.OpenSpec.upto Rows.aeadOpensSpec) own started (by kernel_rfl) Tryd.func5
    (witness_row_at (enc := enc) (C := Tryd.checked) false (laidWorld os) #[Value.agg (Array.replicate 32 (Value.int .u8 0) ++ #[Value.slice none 0 0] ++ #[Value.slice none 0 0] ++ #[Value.slice none 0 0])] rfl (by kernel_rfl) (by kernel_rfl) (by kernel_rfl)
      (OpenSpec.preRow_of_cond 8 hx (by kernel_rfl) (fun k hk => by cases hk; kernel_rfl) (by kernel_rfl) (laid_met os))) ?_
  intro W base args ds gs before hval hW _ hcond _ hL _ _
  exact contract H enc W base args ds gs before hval hW hL (hcond _ rfl)

theorem said : Rows.AeadOpensUptoSaid :=
  OpenClaim.holds_of_cond 5 Tryd.f5 rfl rfl rfl rfl rfl rfl rfl ⟨rfl, rfl, rfl, rfl, rfl⟩ rfl rfl rfl rfl rfl (by kernel_rfl) Tryd.func5 (by kernel_rfl)
    (of_decide_eq_true (by kernel_rfl)) (by unfold Func.isWrapper; first | (rw [if_pos (by decide +kernel)]; kernel_rfl) | (rw [if_neg (by decide +kernel)]; exact ⟨rfl, rfl⟩))
    (fun os started H enc _ F => by rw [OpenClaim.pre_eq_preRow]; exact lifted os started H enc F)

theorem plain (f : FuncId) (fn : Func) (hf : Tryd.pinned.checked.prog.funcNamed "burrow/burrowlaw04.AeadOpens" = some f) (hfn : Tryd.pinned.checked.prog.funcs[f]? = some fn) :
    true = Tryd.pinned.checked.prog.looks [] ∧ ∀ (j : Nat) t, fn.params[j]? = some t → Tryd.pinned.checked.prog.wantsStandIn t = false := by
  obtain rfl : f = 5 := Option.some.inj ((show Tryd.prog.funcNamed "burrow/burrowlaw04.AeadOpens" = some 5 by kernel_rfl).symm.trans hf) |>.symm
  obtain rfl : fn = Tryd.f5 := (Option.some.inj (Tryd.func5.symm.trans hfn)).symm
  refine ⟨by kernel_rfl, fun j t ht => ?_⟩
  rw [Tryd.params5] at ht
  have ht' := Array.mem_of_getElem? ht
  simp only [List.mem_toArray, List.mem_cons, List.not_mem_nil, or_false] at ht'
  subst ht'
  exact (show Tryd.prog.wantsStandIn 33 = false by kernel_rfl)

theorem card : Rows.AeadOpensUptoCardSaid :=
  Claim7.holds_tied_plain_at .later [] _ _ _ _ said (fun _ h => by cases h) (by kernel_rfl) (fun _ h => by cases h) aeadOpensUpto_row_tie rfl ⟨rfl, rfl⟩ (by kernel_rfl) rfl plain (by kernel_rfl)
end Go.Proofs.YtjldjdlhllgakaaDoor.aeadOpensF
