/- The walk of the law LadderPublic. -/
import Derived.Test.YtaojnmjmmfdfjaaAutoT
import Derived.Test.YtaojnmjmmfdfjaaClamp
import Derived.Test.YtaojnmjmmfdfjaaLadFn
namespace Go.Proofs.Ytaojnmjmmfdfjaa.Field
open Go Go.RowKit
open Go.Proofs.Ytaojnmjmmfdfjaa.Rely Go.Proofs.Ytaojnmjmmfdfjaa.Auto Go.Proofs.Ytaojnmjmmfdfjaa.Ladder
set_option linter.unusedVariables false

set_option maxHeartbeats 2000000 in
theorem publicLaw (xs : List Int) (hx : xs.length = 32) (hb : AreBytes xs) (w : World) : Calls Try.prog 13 #[.agg (ints .u8 xs)] w fun e w' => e = .returned (.bool true) ∧ Below w.heap.size w w' := by
  refine enter 21 [(0, .agg (ints .u8 (xs)))] Try.func13 rfl rfl (by kernel_rfl) rfl ?_
  refine wp_seq_k fun K1 hK1 => ?_
  refine region_lit ?_
  refine seq_alloc (ints .u8 (xs)) 23 1 rfl (by kernel_rfl) (by kernel_rfl) fun g2 W1 l2 e1 r2_1 => ?_
  have x1 : Ext w W1 := Ext.tr (Rely.Ext.refl w) e1
  have b2 : w.heap.size ≤ g2 := Nat.le_trans (Rely.Ext.refl w).size l2
  refine seq_val (.bool false) 2 rfl (by kernel_rfl) (by kernel_rfl) ?_
  refine seq_nil ?_
  refine hK1 _ _ ?_
  try clear hK1 K1
  refine wp_seq_k fun K3 hK3 => ?_
  refine region_lit ?_
  refine seq_val (.agg (ints .u8 (xs))) 4 rfl (by kernel_rfl) (run_load_row 23 _ g2 23 _ _ r2_1 rfl (by kernel_rfl) (by kernel_rfl) (isz (n := 32) (by kernel_rfl) ((ints_size _ _).trans hx))) ?_
  refine seq_call (.agg (ints .u8 (pubL xs))) 41 #[.agg (ints .u8 (xs))] 5 rfl (by kernel_rfl) (by kernel_rfl) ((refPublic xs hx hb) _) fun W2 e2 => ?_
  have x2 : Ext w W2 := Ext.tr x1 e2
  refine seq_alloc (ints .u8 (List.replicate 32 0)) 23 3 rfl (by kernel_rfl) (by kernel_rfl) fun g4 W3 l4 e3 r4_3 => ?_
  have x3 : Ext w W3 := Ext.tr x2 e3
  have b4 : w.heap.size ≤ g4 := Nat.le_trans x2.size l4
  refine seq_store g4 _ (ints .u8 (pubL xs)) 23 r4_3 rfl (by kernel_rfl) (run_store_row 23 _ _ g4 23 _ _ r4_3 rfl (by kernel_rfl) (by kernel_rfl) (isz (n := 32) (by kernel_rfl) ((ints_size _ _).trans (pubL_len xs))) (eqsz (n := 32) ((ints_size _ _).trans zlen) ((ints_size _ _).trans (pubL_len xs))) (ints_one _ _)) fun W4 p4 r4_4 => ?_
  have x4 : Ext w W4 := Puts.ext p4 x3 b4
  refine seq_nil ?_
  refine hK3 _ _ ?_
  try clear hK3 K3
  refine wp_seq_k fun K5 hK5 => ?_
  refine any_region 15 [⟨none, []⟩, ⟨none, [(6, some 0)]⟩, ⟨some (7, true), [(1, none), (7, some 1)]⟩, ⟨some (7, true), [(8, some 2), (7, some 1)]⟩, ⟨some (7, true), [(3, none), (7, some 1)]⟩, ⟨some (7, true), [(9, some 3), (10, some 4), (7, some 1)]⟩, ⟨none, [(7, some 1), (11, some 5)]⟩, ⟨none, [(12, some 6)]⟩, ⟨some (13, true), [(1, none), (13, some 7)]⟩, ⟨some (13, true), [(14, some 8), (13, some 7)]⟩, ⟨some (13, true), [(1, none), (13, some 7)]⟩, ⟨some (13, true), [(3, none), (13, some 7)]⟩, ⟨some (13, true), [(16, some 10), (17, some 11), (13, some 7)]⟩, ⟨some (13, true), [(15, some 9), (18, some 12), (13, some 7)]⟩, ⟨none, [(13, some 7), (19, some 13)]⟩] (by kernel_rfl) (by kernel_rfl) fun F hF => ?_
  refine any_call (.bool true) 42 #[] (by kernel_rfl) (by kernel_rfl) (fun W => by kernel_rfl) (fun W hR => alive6 W) ?_
  refine any_val (.bool true) (by kernel_rfl) (by kernel_rfl) (fun W => by kernel_rfl) ?_
  have r2_2 := (row_ext r2_1 e2)
  have r2_4 := (Puts.row p4 (row_ext (row_ext r2_1 e2) e3) (ne_of_old r2_2 l4))
  refine any_read (.agg (ints .u8 (xs))) (by kernel_rfl) (by kernel_rfl) (fun W hR => (run_load_row 23 _ g2 23 _ _ (row_ext (row_ext r2_4 (ext_drew _)) hR) rfl (by kernel_rfl) (by kernel_rfl) (isz (n := 32) (by kernel_rfl) ((ints_size _ _).trans hx)))) ?_
  refine any_call (.agg (ints .u8 (pubL xs))) 43 #[.agg (ints .u8 (xs))] (by kernel_rfl) (by kernel_rfl) (fun W => by kernel_rfl) (fun W hR => (public_ xs hx hb) W) ?_
  refine any_read (.agg (ints .u8 (pubL xs))) (by kernel_rfl) (by kernel_rfl) (fun W hR => (run_load_row 23 _ g4 23 _ _ (row_ext (row_ext r4_4 (ext_drew _)) hR) rfl (by kernel_rfl) (by kernel_rfl) (isz (n := 32) (by kernel_rfl) ((ints_size _ _).trans (pubL_len xs))))) ?_
  refine any_val (.bool true) (by kernel_rfl) (by kernel_rfl) (fun W => (run_eql_agg 23 _ _ _ _ _ (.bool true) rfl (by kernel_rfl) (by kernel_rfl) (by kernel_rfl) (eql_same 23 (e := 5) (k := .u8) _ (pubL_len xs) (by kernel_rfl) (by kernel_rfl) (by kernel_rfl) _))) ?_
  refine any_val (.bool true) (by kernel_rfl) (by kernel_rfl) (fun W => by kernel_rfl) ?_
  refine any_val (.bool true) (by kernel_rfl) (by kernel_rfl) (fun W => by kernel_rfl) ?_
  refine any_read (.agg (ints .u8 (xs))) (by kernel_rfl) (by kernel_rfl) (fun W hR => (run_load_row 23 _ g2 23 _ _ (row_ext (row_ext r2_4 (ext_drew _)) hR) rfl (by kernel_rfl) (by kernel_rfl) (isz (n := 32) (by kernel_rfl) ((ints_size _ _).trans hx)))) ?_
  refine any_call (.agg (cat [ints .u8 (xs), ints .u8 (pubL xs)])) 44 #[.agg (ints .u8 (xs))] (by kernel_rfl) (by kernel_rfl) (fun W => by kernel_rfl) (fun W hR => (new_ xs hx hb) W) ?_
  refine any_read (.agg (ints .u8 (xs))) (by kernel_rfl) (by kernel_rfl) (fun W hR => (run_load_row 23 _ g2 23 _ _ (row_ext (row_ext r2_4 (ext_drew _)) hR) rfl (by kernel_rfl) (by kernel_rfl) (isz (n := 32) (by kernel_rfl) ((ints_size _ _).trans hx)))) ?_
  refine any_read (.agg (ints .u8 (pubL xs))) (by kernel_rfl) (by kernel_rfl) (fun W hR => (run_load_row 23 _ g4 23 _ _ (row_ext (row_ext r4_4 (ext_drew _)) hR) rfl (by kernel_rfl) (by kernel_rfl) (isz (n := 32) (by kernel_rfl) ((ints_size _ _).trans (pubL_len xs))))) ?_
  refine any_val (.agg (cat [ints .u8 (xs), ints .u8 (pubL xs)])) (by kernel_rfl) (by kernel_rfl) (fun W => (run_buildC 57 _ (.agg (cat [ints .u8 (List.replicate 32 0), ints .u8 (List.replicate 32 0)])) #[(0, 32), (32, 32)] [(0, 32, .agg (ints .u8 (xs)), ints .u8 (xs)), (1, 32, .agg (ints .u8 (pubL xs)), ints .u8 (pubL xs))] rfl (by kernel_rfl) ⟨(by kernel_rfl), rfl, ((ints_size _ _).trans hx), (by kernel_rfl), rfl, ((ints_size _ _).trans (pubL_len xs)), trivial⟩ (by kernel_rfl) (by kernel_rfl) (by kernel_rfl) (by kernel_rfl))) ?_
  refine any_val (.bool true) (by kernel_rfl) (by kernel_rfl) (fun W => (run_eql_agg 57 _ _ _ _ _ (.bool true) rfl (by kernel_rfl) (by kernel_rfl) (by kernel_rfl) (eql_pair _ _ hx (pubL_len xs) _))) ?_
  refine any_val (.bool true) (by kernel_rfl) (by kernel_rfl) (fun W => by kernel_rfl) ?_
  refine steps_nil (hF _ (by kernel_rfl) fun W5 e5 => ?_)
  simp only [ups, up, Kn.val, List.take_succ_cons, List.take_zero, List.drop_succ_cons, List.drop_zero, List.nil_append, List.cons_append]
  clear hF
  have x5 : Ext w W5 := Ext.tr x4 e5
  refine seq_val (.bool true) 2 rfl (by kernel_rfl) (by kernel_rfl) ?_
  refine seq_nil ?_
  refine hK5 _ _ ?_
  try clear hK5 K5
  refine wp_ret ?_
  exact (show bodyPost _ _ _ .ret _ _ from ret1 (.bool true) rfl (res_tmp (by kernel_rfl)) ⟨rfl, x5⟩)
end Go.Proofs.Ytaojnmjmmfdfjaa.Field
