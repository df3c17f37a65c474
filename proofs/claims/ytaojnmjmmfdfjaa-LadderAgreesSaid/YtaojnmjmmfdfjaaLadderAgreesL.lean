/- The walk of the law LadderAgrees. -/
import Derived.Test.YtaojnmjmmfdfjaaAutoT
import Derived.Test.YtaojnmjmmfdfjaaClamp
import Derived.Test.YtaojnmjmmfdfjaaLadFn
namespace Go.Proofs.Ytaojnmjmmfdfjaa.Field
open Go Go.RowKit
open Go.Proofs.Ytaojnmjmmfdfjaa.Rely Go.Proofs.Ytaojnmjmmfdfjaa.Auto Go.Proofs.Ytaojnmjmmfdfjaa.Ladder
set_option linter.unusedVariables false

set_option maxHeartbeats 2000000 in
theorem agreesLaw_0 (xs ps : List Int) (hx : xs.length = 32) (hb : AreBytes xs) (hp : ps.length = 32) (hbp : AreBytes ps) (h0 : (agN xs ps == 0) = false) (w : World) : Calls Try.prog 14 #[.agg (ints .u8 xs), .agg (ints .u8 ps)] w fun e w' => e = .returned (.bool true) ∧ Below w.heap.size w w' := by
  refine enter 32 [(0, .agg (ints .u8 (xs))), (1, .agg (ints .u8 (ps)))] Try.func14 rfl rfl (by kernel_rfl) rfl ?_
  refine wp_seq_k fun K1 hK1 => ?_
  refine region_lit ?_
  refine seq_alloc (ints .u8 (xs)) 23 2 rfl (by kernel_rfl) (by kernel_rfl) fun g2 W1 l2 e1 r2_1 => ?_
  have x1 : Ext w W1 := Ext.tr (Rely.Ext.refl w) e1
  have b2 : w.heap.size ≤ g2 := Nat.le_trans (Rely.Ext.refl w).size l2
  refine seq_alloc (ints .u8 (ps)) 23 3 rfl (by kernel_rfl) (by kernel_rfl) fun g3 W2 l3 e2 r3_2 => ?_
  have x2 : Ext w W2 := Ext.tr x1 e2
  have b3 : w.heap.size ≤ g3 := Nat.le_trans x1.size l3
  refine seq_val (.bool false) 4 rfl (by kernel_rfl) (by kernel_rfl) ?_
  refine seq_nil ?_
  refine hK1 _ _ ?_
  try clear hK1 K1
  refine wp_seq_k fun K4 hK4 => ?_
  refine wp_seq_k fun K5 hK5 => ?_
  refine region_lit ?_
  refine seq_call (.bool true) 42 #[] 9 rfl (by kernel_rfl) (by kernel_rfl) (alive6 _) fun W3 e3 => ?_
  have x3 : Ext w W3 := Ext.tr x2 e3
  refine seq_val (.bool false) 10 rfl (by kernel_rfl) (by kernel_rfl) ?_
  refine seq_nil ?_
  refine hK5 _ _ ?_
  try clear hK5 K5
  refine cond_false (by kernel_rfl) ?_
  refine wp_skip ?_
  refine hK4 _ _ ?_
  try clear hK4 K4
  refine wp_seq_k fun K6 hK6 => ?_
  refine region_lit ?_
  have r2_3 := (row_ext (row_ext r2_1 e2) e3)
  refine seq_val (.agg (ints .u8 (xs))) 12 rfl (by kernel_rfl) (run_load_row 23 _ g2 23 _ _ r2_3 rfl (by kernel_rfl) (by kernel_rfl) (isz (n := 32) (by kernel_rfl) ((ints_size _ _).trans hx))) ?_
  have r3_3 := (row_ext r3_2 e3)
  refine seq_val (.agg (ints .u8 (ps))) 13 rfl (by kernel_rfl) (run_load_row 23 _ g3 23 _ _ r3_3 rfl (by kernel_rfl) (by kernel_rfl) (isz (n := 32) (by kernel_rfl) ((ints_size _ _).trans hp))) ?_
  refine seq_call (.tuple #[.agg (ints .u8 (bytesOf (agN xs ps))), .nilIface]) 45 #[.agg (ints .u8 (xs)), .agg (ints .u8 (ps))] 14 rfl (by kernel_rfl) (by kernel_rfl) ((agree_0 xs ps hx hb hp hbp h0) _) fun W4 e4 => ?_
  have x4 : Ext w W4 := Ext.tr x3 e4
  refine seq_val (.tuple #[.agg (ints .u8 (bytesOf (agN xs ps))), .nilIface]) 11 rfl (by kernel_rfl) (by kernel_rfl) ?_
  refine seq_val (.agg (ints .u8 (bytesOf (agN xs ps)))) 15 rfl (by kernel_rfl) (by kernel_rfl) ?_
  refine seq_val (.nilIface) 16 rfl (by kernel_rfl) (by kernel_rfl) ?_
  refine seq_alloc (ints .u8 (List.replicate 32 0)) 23 5 rfl (by kernel_rfl) (by kernel_rfl) fun g7 W5 l7 e5 r7_5 => ?_
  have x5 : Ext w W5 := Ext.tr x4 e5
  have b7 : w.heap.size ≤ g7 := Nat.le_trans x4.size l7
  refine seq_store g7 _ (ints .u8 (bytesOf (agN xs ps))) 23 r7_5 rfl (by kernel_rfl) (run_store_row 23 _ _ g7 23 _ _ r7_5 rfl (by kernel_rfl) (by kernel_rfl) (isz (n := 32) (by kernel_rfl) ((ints_size _ _).trans (bytesOf_len (agN xs ps)))) (eqsz (n := 32) ((ints_size _ _).trans zlen) ((ints_size _ _).trans (bytesOf_len (agN xs ps)))) (ints_one _ _)) fun W6 p6 r7_6 => ?_
  have x6 : Ext w W6 := Puts.ext p6 x5 b7
  refine seq_val (.nilIface) 6 rfl (by kernel_rfl) (by kernel_rfl) ?_
  refine seq_nil ?_
  refine hK6 _ _ ?_
  try clear hK6 K6
  refine wp_seq_k fun K8 hK8 => ?_
  refine region_lit ?_
  have r2_4 := (row_ext r2_3 e4)
  have r2_6 := (Puts.row p6 (row_ext (row_ext r2_3 e4) e5) (ne_of_old r2_4 l7))
  refine seq_val (.agg (ints .u8 (xs))) 18 rfl (by kernel_rfl) (run_load_row 23 _ g2 23 _ _ r2_6 rfl (by kernel_rfl) (by kernel_rfl) (isz (n := 32) (by kernel_rfl) ((ints_size _ _).trans hx))) ?_
  have r3_4 := (row_ext r3_3 e4)
  have r3_6 := (Puts.row p6 (row_ext (row_ext r3_3 e4) e5) (ne_of_old r3_4 l7))
  refine seq_val (.agg (ints .u8 (ps))) 19 rfl (by kernel_rfl) (run_load_row 23 _ g3 23 _ _ r3_6 rfl (by kernel_rfl) (by kernel_rfl) (isz (n := 32) (by kernel_rfl) ((ints_size _ _).trans hp))) ?_
  refine seq_call (.tuple #[.agg (ints .u8 (bytesOf (agN xs ps))), .int .i64 (0)]) 46 #[.agg (ints .u8 (xs)), .agg (ints .u8 (ps))] 20 rfl (by kernel_rfl) (by kernel_rfl) ((refAgree_0 xs ps hx hb hp hbp h0) _) fun W7 e7 => ?_
  have x7 : Ext w W7 := Ext.tr x6 e7
  refine seq_val (.tuple #[.agg (ints .u8 (bytesOf (agN xs ps))), .int .i64 (0)]) 17 rfl (by kernel_rfl) (by kernel_rfl) ?_
  refine seq_val (.agg (ints .u8 (bytesOf (agN xs ps)))) 21 rfl (by kernel_rfl) (by kernel_rfl) ?_
  refine seq_val (.int .i64 (0)) 22 rfl (by kernel_rfl) (by kernel_rfl) ?_
  refine seq_alloc (ints .u8 (List.replicate 32 0)) 23 7 rfl (by kernel_rfl) (by kernel_rfl) fun g9 W8 l9 e8 r9_8 => ?_
  have x8 : Ext w W8 := Ext.tr x7 e8
  have b9 : w.heap.size ≤ g9 := Nat.le_trans x7.size l9
  refine seq_store g9 _ (ints .u8 (bytesOf (agN xs ps))) 23 r9_8 rfl (by kernel_rfl) (run_store_row 23 _ _ g9 23 _ _ r9_8 rfl (by kernel_rfl) (by kernel_rfl) (isz (n := 32) (by kernel_rfl) ((ints_size _ _).trans (bytesOf_len (agN xs ps)))) (eqsz (n := 32) ((ints_size _ _).trans zlen) ((ints_size _ _).trans (bytesOf_len (agN xs ps)))) (ints_one _ _)) fun W9 p9 r9_9 => ?_
  have x9 : Ext w W9 := Puts.ext p9 x8 b9
  refine seq_val (.int .i64 (0)) 8 rfl (by kernel_rfl) (by kernel_rfl) ?_
  refine seq_nil ?_
  refine hK8 _ _ ?_
  try clear hK8 K8
  refine wp_seq_k fun K10 hK10 => ?_
  refine region_lit ?_
  have r7_7 := (row_ext r7_6 e7)
  have r7_9 := (Puts.row p9 (row_ext (row_ext r7_6 e7) e8) (ne_of_old r7_7 l9))
  refine seq_val (.agg (ints .u8 (bytesOf (agN xs ps)))) 23 rfl (by kernel_rfl) (run_load_row 23 _ g7 23 _ _ r7_9 rfl (by kernel_rfl) (by kernel_rfl) (isz (n := 32) (by kernel_rfl) ((ints_size _ _).trans (bytesOf_len (agN xs ps))))) ?_
  refine seq_val (.agg (ints .u8 (bytesOf (agN xs ps)))) 24 rfl (by kernel_rfl) (run_load_row 23 _ g9 23 _ _ r9_9 rfl (by kernel_rfl) (by kernel_rfl) (isz (n := 32) (by kernel_rfl) ((ints_size _ _).trans (bytesOf_len (agN xs ps))))) ?_
  refine seq_val (.bool true) 25 rfl (by kernel_rfl) (run_eql_agg 23 _ _ _ _ _ (.bool true) rfl (by kernel_rfl) (by kernel_rfl) (by kernel_rfl) (eql_same 23 (e := 5) (k := .u8) _ (bytesOf_len (agN xs ps)) (by kernel_rfl) (by kernel_rfl) (by kernel_rfl) _)) ?_
  refine seq_val (.bool true) 26 rfl (by kernel_rfl) (by kernel_rfl) ?_
  refine seq_val (.nilIface) 27 rfl (by kernel_rfl) (by kernel_rfl) ?_
  refine seq_call (.int .i64 0) 47 #[.nilIface] 28 rfl (by kernel_rfl) (by kernel_rfl) (num_nil _) fun W10 e10 => ?_
  have x10 : Ext w W10 := Ext.tr x9 e10
  refine seq_val (.int .i64 (0)) 29 rfl (by kernel_rfl) (by kernel_rfl) ?_
  refine seq_val (.bool true) 30 rfl (by kernel_rfl) (by kernel_rfl) ?_
  refine seq_val (.bool true) 31 rfl (by kernel_rfl) (by kernel_rfl) ?_
  refine seq_val (.bool true) 4 rfl (by kernel_rfl) (by kernel_rfl) ?_
  refine seq_nil ?_
  refine hK10 _ _ ?_
  try clear hK10 K10
  refine wp_ret ?_
  exact (show bodyPost _ _ _ .ret _ _ from ret1 (.bool true) rfl (res_tmp (by kernel_rfl)) ⟨rfl, x10⟩)
set_option maxHeartbeats 2000000 in
theorem agreesLaw_1 (xs ps : List Int) (hx : xs.length = 32) (hb : AreBytes xs) (hp : ps.length = 32) (hbp : AreBytes ps) (h0 : (agN xs ps == 0) = true) (w : World) : Calls Try.prog 14 #[.agg (ints .u8 xs), .agg (ints .u8 ps)] w fun e w' => e = .returned (.bool true) ∧ Below w.heap.size w w' := by
  refine enter 32 [(0, .agg (ints .u8 (xs))), (1, .agg (ints .u8 (ps)))] Try.func14 rfl rfl (by kernel_rfl) rfl ?_
  refine wp_seq_k fun K1 hK1 => ?_
  refine region_lit ?_
  refine seq_alloc (ints .u8 (xs)) 23 2 rfl (by kernel_rfl) (by kernel_rfl) fun g2 W1 l2 e1 r2_1 => ?_
  have x1 : Ext w W1 := Ext.tr (Rely.Ext.refl w) e1
  have b2 : w.heap.size ≤ g2 := Nat.le_trans (Rely.Ext.refl w).size l2
  refine seq_alloc (ints .u8 (ps)) 23 3 rfl (by kernel_rfl) (by kernel_rfl) fun g3 W2 l3 e2 r3_2 => ?_
  have x2 : Ext w W2 := Ext.tr x1 e2
  have b3 : w.heap.size ≤ g3 := Nat.le_trans x1.size l3
  refine seq_val (.bool false) 4 rfl (by kernel_rfl) (by kernel_rfl) ?_
  refine seq_nil ?_
  refine hK1 _ _ ?_
  try clear hK1 K1
  refine wp_seq_k fun K4 hK4 => ?_
  refine wp_seq_k fun K5 hK5 => ?_
  refine region_lit ?_
  refine seq_call (.bool true) 42 #[] 9 rfl (by kernel_rfl) (by kernel_rfl) (alive6 _) fun W3 e3 => ?_
  have x3 : Ext w W3 := Ext.tr x2 e3
  refine seq_val (.bool false) 10 rfl (by kernel_rfl) (by kernel_rfl) ?_
  refine seq_nil ?_
  refine hK5 _ _ ?_
  try clear hK5 K5
  refine cond_false (by kernel_rfl) ?_
  refine wp_skip ?_
  refine hK4 _ _ ?_
  try clear hK4 K4
  refine wp_seq_k fun K6 hK6 => ?_
  refine region_lit ?_
  have r2_3 := (row_ext (row_ext r2_1 e2) e3)
  refine seq_val (.agg (ints .u8 (xs))) 12 rfl (by kernel_rfl) (run_load_row 23 _ g2 23 _ _ r2_3 rfl (by kernel_rfl) (by kernel_rfl) (isz (n := 32) (by kernel_rfl) ((ints_size _ _).trans hx))) ?_
  have r3_3 := (row_ext r3_2 e3)
  refine seq_val (.agg (ints .u8 (ps))) 13 rfl (by kernel_rfl) (run_load_row 23 _ g3 23 _ _ r3_3 rfl (by kernel_rfl) (by kernel_rfl) (isz (n := 32) (by kernel_rfl) ((ints_size _ _).trans hp))) ?_
  refine seq_call (.tuple #[.agg (ints .u8 (List.replicate 32 0)), .iface 80 (.int .i64 4)]) 45 #[.agg (ints .u8 (xs)), .agg (ints .u8 (ps))] 14 rfl (by kernel_rfl) (by kernel_rfl) ((agree_1 xs ps hx hb hp hbp h0) _) fun W4 e4 => ?_
  have x4 : Ext w W4 := Ext.tr x3 e4
  refine seq_val (.tuple #[.agg (ints .u8 (List.replicate 32 0)), .iface 80 (.int .i64 4)]) 11 rfl (by kernel_rfl) (by kernel_rfl) ?_
  refine seq_val (.agg (ints .u8 (List.replicate 32 0))) 15 rfl (by kernel_rfl) (by kernel_rfl) ?_
  refine seq_val (.iface 80 (.int .i64 4)) 16 rfl (by kernel_rfl) (by kernel_rfl) ?_
  refine seq_alloc (ints .u8 (List.replicate 32 0)) 23 5 rfl (by kernel_rfl) (by kernel_rfl) fun g7 W5 l7 e5 r7_5 => ?_
  have x5 : Ext w W5 := Ext.tr x4 e5
  have b7 : w.heap.size ≤ g7 := Nat.le_trans x4.size l7
  refine seq_store g7 _ (ints .u8 (List.replicate 32 0)) 23 r7_5 rfl (by kernel_rfl) (run_store_row 23 _ _ g7 23 _ _ r7_5 rfl (by kernel_rfl) (by kernel_rfl) (isz (n := 32) (by kernel_rfl) ((ints_size _ _).trans zlen)) (eqsz (n := 32) ((ints_size _ _).trans zlen) ((ints_size _ _).trans zlen)) (ints_one _ _)) fun W6 p6 r7_6 => ?_
  have x6 : Ext w W6 := Puts.ext p6 x5 b7
  refine seq_val (.iface 80 (.int .i64 4)) 6 rfl (by kernel_rfl) (by kernel_rfl) ?_
  refine seq_nil ?_
  refine hK6 _ _ ?_
  try clear hK6 K6
  refine wp_seq_k fun K8 hK8 => ?_
  refine region_lit ?_
  have r2_4 := (row_ext r2_3 e4)
  have r2_6 := (Puts.row p6 (row_ext (row_ext r2_3 e4) e5) (ne_of_old r2_4 l7))
  refine seq_val (.agg (ints .u8 (xs))) 18 rfl (by kernel_rfl) (run_load_row 23 _ g2 23 _ _ r2_6 rfl (by kernel_rfl) (by kernel_rfl) (isz (n := 32) (by kernel_rfl) ((ints_size _ _).trans hx))) ?_
  have r3_4 := (row_ext r3_3 e4)
  have r3_6 := (Puts.row p6 (row_ext (row_ext r3_3 e4) e5) (ne_of_old r3_4 l7))
  refine seq_val (.agg (ints .u8 (ps))) 19 rfl (by kernel_rfl) (run_load_row 23 _ g3 23 _ _ r3_6 rfl (by kernel_rfl) (by kernel_rfl) (isz (n := 32) (by kernel_rfl) ((ints_size _ _).trans hp))) ?_
  refine seq_call (.tuple #[.agg (ints .u8 (bytesOf (agN xs ps))), .int .i64 (4)]) 46 #[.agg (ints .u8 (xs)), .agg (ints .u8 (ps))] 20 rfl (by kernel_rfl) (by kernel_rfl) ((refAgree_1 xs ps hx hb hp hbp h0) _) fun W7 e7 => ?_
  have x7 : Ext w W7 := Ext.tr x6 e7
  refine seq_val (.tuple #[.agg (ints .u8 (bytesOf (agN xs ps))), .int .i64 (4)]) 17 rfl (by kernel_rfl) (by kernel_rfl) ?_
  refine seq_val (.agg (ints .u8 (bytesOf (agN xs ps)))) 21 rfl (by kernel_rfl) (by kernel_rfl) ?_
  refine seq_val (.int .i64 (4)) 22 rfl (by kernel_rfl) (by kernel_rfl) ?_
  refine seq_alloc (ints .u8 (List.replicate 32 0)) 23 7 rfl (by kernel_rfl) (by kernel_rfl) fun g9 W8 l9 e8 r9_8 => ?_
  have x8 : Ext w W8 := Ext.tr x7 e8
  have b9 : w.heap.size ≤ g9 := Nat.le_trans x7.size l9
  refine seq_store g9 _ (ints .u8 (bytesOf (agN xs ps))) 23 r9_8 rfl (by kernel_rfl) (run_store_row 23 _ _ g9 23 _ _ r9_8 rfl (by kernel_rfl) (by kernel_rfl) (isz (n := 32) (by kernel_rfl) ((ints_size _ _).trans (bytesOf_len (agN xs ps)))) (eqsz (n := 32) ((ints_size _ _).trans zlen) ((ints_size _ _).trans (bytesOf_len (agN xs ps)))) (ints_one _ _)) fun W9 p9 r9_9 => ?_
  have x9 : Ext w W9 := Puts.ext p9 x8 b9
  refine seq_val (.int .i64 (4)) 8 rfl (by kernel_rfl) (by kernel_rfl) ?_
  refine seq_nil ?_
  refine hK8 _ _ ?_
  try clear hK8 K8
  refine wp_seq_k fun K10 hK10 => ?_
  refine region_lit ?_
  have r7_7 := (row_ext r7_6 e7)
  have r7_9 := (Puts.row p9 (row_ext (row_ext r7_6 e7) e8) (ne_of_old r7_7 l9))
  refine seq_val (.agg (ints .u8 (List.replicate 32 0))) 23 rfl (by kernel_rfl) (run_load_row 23 _ g7 23 _ _ r7_9 rfl (by kernel_rfl) (by kernel_rfl) (isz (n := 32) (by kernel_rfl) ((ints_size _ _).trans zlen))) ?_
  refine seq_val (.agg (ints .u8 (bytesOf (agN xs ps)))) 24 rfl (by kernel_rfl) (run_load_row 23 _ g9 23 _ _ r9_9 rfl (by kernel_rfl) (by kernel_rfl) (isz (n := 32) (by kernel_rfl) ((ints_size _ _).trans (bytesOf_len (agN xs ps))))) ?_
  refine seq_val (.bool true) 25 rfl (by kernel_rfl) (run_eql_agg 23 _ _ _ _ _ (.bool true) rfl (by kernel_rfl) (by kernel_rfl) (by kernel_rfl) (eql_is 23 (e := 5) (k := .u8) _ _ true zlen (bytesOf_len _) (by kernel_rfl) (by kernel_rfl) (by kernel_rfl) (by rw [zero_bytes_eq h0]; exact decide_eq_true rfl) _)) ?_
  refine seq_val (.bool true) 26 rfl (by kernel_rfl) (by kernel_rfl) ?_
  refine seq_val (.iface 80 (.int .i64 4)) 27 rfl (by kernel_rfl) (by kernel_rfl) ?_
  refine seq_call (.int .i64 4) 47 #[.iface 80 (.int .i64 4)] 28 rfl (by kernel_rfl) (by kernel_rfl) (num_4 _) fun W10 e10 => ?_
  have x10 : Ext w W10 := Ext.tr x9 e10
  refine seq_val (.int .i64 (4)) 29 rfl (by kernel_rfl) (by kernel_rfl) ?_
  refine seq_val (.bool true) 30 rfl (by kernel_rfl) (by kernel_rfl) ?_
  refine seq_val (.bool true) 31 rfl (by kernel_rfl) (by kernel_rfl) ?_
  refine seq_val (.bool true) 4 rfl (by kernel_rfl) (by kernel_rfl) ?_
  refine seq_nil ?_
  refine hK10 _ _ ?_
  try clear hK10 K10
  refine wp_ret ?_
  exact (show bodyPost _ _ _ .ret _ _ from ret1 (.bool true) rfl (res_tmp (by kernel_rfl)) ⟨rfl, x10⟩)
theorem agreesLaw (xs ps : List Int) (hx : xs.length = 32) (hp : ps.length = 32) (hb : AreBytes xs) (hbp : AreBytes ps) (w : World) : Calls Try.prog 14 #[.agg (ints .u8 xs), .agg (ints .u8 ps)] w fun e w' => e = .returned (.bool true) ∧ Below w.heap.size w w' := by
  cases h : (agN xs ps == 0)
  · exact agreesLaw_0 xs ps hx hb hp hbp h w
  · exact agreesLaw_1 xs ps hx hb hp hbp h w

end Go.Proofs.Ytaojnmjmmfdfjaa.Field
