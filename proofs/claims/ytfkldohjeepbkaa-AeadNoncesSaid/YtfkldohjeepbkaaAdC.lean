/- Nonces: the program; the same bytes. -/
import Derived.Test.YtfkldohjeepbkaaAdB
namespace Go.Proofs.Ytfkldohjeepbkaa.Ad
open Go Go.RowKit
open Go.Proofs.Ytfkldohjeepbkaa.Rely Go.Proofs.Ytfkldohjeepbkaa.Auto Go.Proofs.Ytfkldohjeepbkaa.Own
set_option linter.unusedVariables false

set_option maxHeartbeats 4000000 in
theorem nonceC (n : Int) (w : World) : Calls Try.prog 5 #[.int .i64 n] w (Gives w (OwnB w.heap.size ([0, 0, 0, 0] ++ leN n))) := by
  refine enter 7 [(0, .int .i64 n)] Try.func5 rfl rfl (by kernel_rfl) rfl ?_
  refine wp_seq_k fun K1 hK1 => ?_
  refine region_lit ?_
  refine seq_val (.slice none 0 0) 2 rfl (by kernel_rfl) (by kernel_rfl) ?_
  refine seq_nil ?_
  refine hK1 _ _ ?_
  try clear hK1 K1
  refine wp_seq_k fun K2 hK2 => ?_
  refine any_regionF 4 [⟨none, []⟩, ⟨none, [(0, none)]⟩, ⟨none, [(4, some 1)]⟩, ⟨none, [(3, some 0), (5, some 2)]⟩] (by kernel_rfl) (by kernel_rfl) fun F hF => ?_
  refine step_run (FullB w.heap.size [0, 0, 0, 0]) (FullB.stable _ _) (fun ρ W hR hh => ?_) ?_
  · refine ⟨_, _, run_makeI 22 _ _ .i64 .i64 4 5 rfl (by kernel_rfl) (by kernel_rfl) (by kernel_rfl) (.inr (by kernel_rfl)) (by decide), ext_alloc _ _, _, _, rfl, own_of_row [0, 0, 0, 0] ?_ (heap_alloc_new _ _) (by decide)⟩
    exact hR.size
  refine step_run (fun v W => v = .int .i64 n) (fun _ _ _ _ h => h) (fun ρ W hR hh => ?_) ?_
  · have h0 : ρ 0 = .int .i64 n := hh.1.trans (by kernel_rfl)
    refine ⟨_, _, ?_, Ext.refl _, rfl⟩
    rw [← h0]; kernel_rfl
  refine step_calls (OwnB w.heap.size (leN n)) (OwnB.stable _ _) 17 #[.int .i64 n] (fun ρ W hR hh => ?_) (fun W hR => (littleC n W).mono ?_) ?_
  · have h4 : ρ 4 = .int .i64 n := hh.1
    rw [← h4]
    show (execOp (Rely.look ρ) _).run _ W = _
    kernel_rfl
  · rintro e W' ⟨v, rfl, e1, hv⟩
    exact ⟨v, rfl, e1, hv.base (by exact hR.size)⟩
  refine step_run (OwnB w.heap.size ([0, 0, 0, 0] ++ leN n)) (OwnB.stable _ _) (fun ρ W hR hh => ?_) ?_
  · exact step_append_full 3 5 22 (by rfl) (by kernel_rfl) hh.1 hh.2.1 (show 4 + 8 ≤ 1000000 by decide) (show 0 < 8 by decide) (by exact hR.size)
  refine hF _ fun W1 x1 => ?_
  intro v3 h3 v4 h4 v5 h5 v6 h6
  show WL _ _ _ _ _ _
  have x1_ : Ext w W1 := Ext.tr (Rely.Ext.refl w) x1
  refine seq_val (v6) 2 rfl (by kernel_rfl) (by kernel_rfl) ?_
  refine seq_nil ?_
  refine hK2 _ _ ?_
  try clear hK2 K2
  refine wp_ret ?_
  repeat (first | with_reducible refine goR1 ?_ | with_reducible refine goR2 ?_)
  exact (show bodyPost _ _ _ .ret _ _ from ret1 (v6) rfl (res_tmp (by kernel_rfl)) ⟨_, rfl, x1_, h6⟩)
set_option maxHeartbeats 4000000 in
theorem sameC (x y : Value) (xs ys : List Int) (w : World) (hx : BytesAt w x xs) (hy : BytesAt w y ys) : Calls Try.prog 6 #[x, y] w (Ret w (.bool (decide (xs = ys)))) := by
  have hse : ((strOf xs).toList == (strOf ys).toList) = decide (xs = ys) := by
    obtain ⟨_, _, _, _, bx, _⟩ := hx
    obtain ⟨_, _, _, _, by', _⟩ := hy
    exact strOf_beq bx by'
  refine enter 10 [(0, x), (1, y)] Try.func6 rfl rfl (by kernel_rfl) rfl ?_
  refine wp_seq_k fun K1 hK1 => ?_
  refine region_lit ?_
  refine seq_val (.bool false) 4 rfl (by kernel_rfl) (by kernel_rfl) ?_
  refine seq_nil ?_
  refine hK1 _ _ ?_
  try clear hK1 K1
  refine wp_seq_k fun K2 hK2 => ?_
  refine region_lit ?_
  refine seq_val (x) 5 rfl (by kernel_rfl) (by kernel_rfl) ?_
  refine seq_val (.string (strOf xs)) 6 rfl (by kernel_rfl) (run_conv8 _ x rfl (by kernel_rfl) xs (hx.ext (Rely.Ext.refl w))) ?_
  refine seq_val (y) 7 rfl (by kernel_rfl) (by kernel_rfl) ?_
  refine seq_val (.string (strOf ys)) 8 rfl (by kernel_rfl) (run_conv8 _ y rfl (by kernel_rfl) ys (hy.ext (Rely.Ext.refl w))) ?_
  refine seq_val (.bool (decide (xs = ys))) 9 rfl (by kernel_rfl) (run_eq (u := .bool ((strOf xs).toList == (strOf ys).toList)) (by kernel_rfl) (congrArg Value.bool hse)) ?_
  refine seq_val (.bool (decide (xs = ys))) 4 rfl (by kernel_rfl) (by kernel_rfl) ?_
  refine seq_nil ?_
  refine hK2 _ _ ?_
  try clear hK2 K2
  refine wp_ret ?_
  repeat (first | with_reducible refine goR1 ?_ | with_reducible refine goR2 ?_)
  exact (show bodyPost _ _ _ .ret _ _ from ret1 (.bool (decide (xs = ys))) rfl (res_tmp (by kernel_rfl)) ⟨rfl, (Rely.Ext.refl w)⟩)

end Go.Proofs.Ytfkldohjeepbkaa.Ad
