/- The ladder's functions. -/
import Derived.Test.YtaojnmjmmfdfjaaAutoT
import Derived.Test.YtaojnmjmmfdfjaaClamp
import Derived.Test.YtaojnmjmmfdfjaaLadFn0
namespace Go.Proofs.Ytaojnmjmmfdfjaa.Field
open Go Go.RowKit
open Go.Proofs.Ytaojnmjmmfdfjaa.Rely Go.Proofs.Ytaojnmjmmfdfjaa.Auto Go.Proofs.Ytaojnmjmmfdfjaa.Ladder
set_option linter.unusedVariables false

set_option maxHeartbeats 1000000 in
theorem public_ (xs : List Int) (hx : xs.length = 32) (hb : AreBytes xs) (w : World) : Calls Try.prog 43 #[.agg (ints .u8 (xs))] w (Ret w (.agg (ints .u8 (pubL xs)))) := by
  refine enter 7 [(0, .agg (ints .u8 (xs)))] Try.func43 rfl rfl (by kernel_rfl) rfl ?_
  refine wp_seq_k fun K1 hK1 => ?_
  refine region_lit ?_
  refine seq_alloc (ints .u8 (xs)) 23 1 rfl (by kernel_rfl) (by kernel_rfl) fun g2 W1 l2 e1 r2_1 => ?_
  have x1 : Ext w W1 := Ext.tr (Rely.Ext.refl w) e1
  have b2 : w.heap.size ≤ g2 := Nat.le_trans (Rely.Ext.refl w).size l2
  refine seq_alloc (ints .u8 (List.replicate 32 0)) 23 2 rfl (by kernel_rfl) (by kernel_rfl) fun g3 W2 l3 e2 r3_2 => ?_
  have x2 : Ext w W2 := Ext.tr x1 e2
  have b3 : w.heap.size ≤ g3 := Nat.le_trans x1.size l3
  refine seq_nil ?_
  refine hK1 _ _ ?_
  try clear hK1 K1
  refine wp_seq_k fun K4 hK4 => ?_
  refine any_region 4 [⟨none, [(1, none)]⟩, ⟨none, []⟩, ⟨none, [(3, some 0), (4, some 1)]⟩, ⟨none, [(5, some 2)]⟩] (by kernel_rfl) (by kernel_rfl) fun F hF => ?_
  have r2_2 := (row_ext r2_1 e2)
  refine any_read (.agg (ints .u8 (xs))) (by kernel_rfl) (by kernel_rfl) (fun W hR => (run_load_row 23 _ g2 23 _ _ (row_ext (row_ext r2_2 (ext_drew _)) hR) rfl (by kernel_rfl) (by kernel_rfl) (isz (n := 32) (by kernel_rfl) ((ints_size _ _).trans hx)))) ?_
  refine any_call (.agg (numA (9))) 22 #[.int .i64 9] (by kernel_rfl) (by kernel_rfl) (fun W => by kernel_rfl) (fun W hR => (small_k 9 (by decide)) W) ?_
  refine any_call (.agg (numA (outN 9 (crungs 9 (clamp xs) 0)))) 61 #[.agg (ints .u8 (xs)), .agg (numA (9))] (by kernel_rfl) (by kernel_rfl) (fun W => by kernel_rfl) (fun W hR => (climb_ref xs hx hb 9 nine_isN) W) ?_
  refine any_call (.agg (ints .u8 (pubL xs))) 48 #[.agg (numA (outN 9 (crungs 9 (clamp xs) 0)))] (by kernel_rfl) (by kernel_rfl) (fun W => by kernel_rfl) (fun W hR => (bytes _ (isN_mod _)) W) ?_
  refine steps_nil (hF _ (by kernel_rfl) fun W3 e3 => ?_)
  simp only [ups, up, Kn.val, List.take_succ_cons, List.take_zero, List.drop_succ_cons, List.drop_zero, List.nil_append, List.cons_append]
  clear hF
  have x3 : Ext w W3 := Ext.tr x2 e3
  have r3_3 := (row_ext r3_2 e3)
  refine seq_store g3 _ (ints .u8 (pubL xs)) 23 r3_3 rfl (by kernel_rfl) (run_store_row 23 _ _ g3 23 _ _ r3_3 rfl (by kernel_rfl) (by kernel_rfl) (isz (n := 32) (by kernel_rfl) ((ints_size _ _).trans (pubL_len xs))) (eqsz (n := 32) ((ints_size _ _).trans zlen) ((ints_size _ _).trans (pubL_len xs))) (ints_one _ _)) fun W4 p4 r3_4 => ?_
  have x4 : Ext w W4 := Puts.ext p4 x3 b3
  refine seq_nil ?_
  refine hK4 _ _ ?_
  try clear hK4 K4
  refine wp_ret ?_
  exact (show bodyPost _ _ _ .ret _ _ from ret1 (.agg (ints .u8 (pubL xs))) rfl (res_cell g3 23 _ r3_4 (by kernel_rfl) (by kernel_rfl) (isz (n := 32) (by kernel_rfl) ((ints_size _ _).trans (pubL_len xs)))) ⟨rfl, x4⟩)
set_option maxHeartbeats 1000000 in
theorem refPublic (xs : List Int) (hx : xs.length = 32) (hb : AreBytes xs) (w : World) : Calls Try.prog 41 #[.agg (ints .u8 (xs))] w (Ret w (.agg (ints .u8 (pubL xs)))) := by
  refine enter 6 [(0, .agg (ints .u8 (xs)))] Try.func41 rfl rfl (by kernel_rfl) rfl ?_
  refine wp_seq_k fun K1 hK1 => ?_
  refine region_lit ?_
  refine seq_alloc (ints .u8 (xs)) 23 1 rfl (by kernel_rfl) (by kernel_rfl) fun g2 W1 l2 e1 r2_1 => ?_
  have x1 : Ext w W1 := Ext.tr (Rely.Ext.refl w) e1
  have b2 : w.heap.size ≤ g2 := Nat.le_trans (Rely.Ext.refl w).size l2
  refine seq_alloc (ints .u8 (List.replicate 32 0)) 23 2 rfl (by kernel_rfl) (by kernel_rfl) fun g3 W2 l3 e2 r3_2 => ?_
  have x2 : Ext w W2 := Ext.tr x1 e2
  have b3 : w.heap.size ≤ g3 := Nat.le_trans x1.size l3
  refine seq_nil ?_
  refine hK1 _ _ ?_
  try clear hK1 K1
  refine wp_seq_k fun K4 hK4 => ?_
  refine any_region 3 [⟨none, [(1, none)]⟩, ⟨none, []⟩, ⟨none, [(3, some 0), (4, some 1)]⟩] (by kernel_rfl) (by kernel_rfl) fun F hF => ?_
  have r2_2 := (row_ext r2_1 e2)
  refine any_read (.agg (ints .u8 (xs))) (by kernel_rfl) (by kernel_rfl) (fun W hR => (run_load_row 23 _ g2 23 _ _ (row_ext (row_ext r2_2 (ext_drew _)) hR) rfl (by kernel_rfl) (by kernel_rfl) (isz (n := 32) (by kernel_rfl) ((ints_size _ _).trans hx)))) ?_
  refine any_call (.agg (ints .i64 (lims (9)))) 23 #[.int .i64 9] (by kernel_rfl) (by kernel_rfl) (fun W => by kernel_rfl) (fun W hR => (lsmall_k 9 (by decide)) W) ?_
  refine any_call (.agg (ints .u8 (pubL xs))) 60 #[.agg (ints .u8 (xs)), .agg (ints .i64 (lims (9)))] (by kernel_rfl) (by kernel_rfl) (fun W => by kernel_rfl) (fun W hR => (come xs hx hb 9 nine_isN) W) ?_
  refine steps_nil (hF _ (by kernel_rfl) fun W3 e3 => ?_)
  simp only [ups, up, Kn.val, List.take_succ_cons, List.take_zero, List.drop_succ_cons, List.drop_zero, List.nil_append, List.cons_append]
  clear hF
  have x3 : Ext w W3 := Ext.tr x2 e3
  have r3_3 := (row_ext r3_2 e3)
  refine seq_store g3 _ (ints .u8 (pubL xs)) 23 r3_3 rfl (by kernel_rfl) (run_store_row 23 _ _ g3 23 _ _ r3_3 rfl (by kernel_rfl) (by kernel_rfl) (isz (n := 32) (by kernel_rfl) ((ints_size _ _).trans (pubL_len xs))) (eqsz (n := 32) ((ints_size _ _).trans zlen) ((ints_size _ _).trans (pubL_len xs))) (ints_one _ _)) fun W4 p4 r3_4 => ?_
  have x4 : Ext w W4 := Puts.ext p4 x3 b3
  refine seq_nil ?_
  refine hK4 _ _ ?_
  try clear hK4 K4
  refine wp_ret ?_
  exact (show bodyPost _ _ _ .ret _ _ from ret1 (.agg (ints .u8 (pubL xs))) rfl (res_cell g3 23 _ r3_4 (by kernel_rfl) (by kernel_rfl) (isz (n := 32) (by kernel_rfl) ((ints_size _ _).trans (pubL_len xs)))) ⟨rfl, x4⟩)
set_option maxHeartbeats 1000000 in
theorem new_ (xs : List Int) (hx : xs.length = 32) (hb : AreBytes xs) (w : World) : Calls Try.prog 44 #[.agg (ints .u8 (xs))] w (Ret w (.agg (cat [ints .u8 xs, ints .u8 (pubL xs)]))) := by
  refine enter 7 [(0, .agg (ints .u8 (xs)))] Try.func44 rfl rfl (by kernel_rfl) rfl ?_
  refine wp_seq_k fun K1 hK1 => ?_
  refine region_lit ?_
  refine seq_alloc (ints .u8 (xs)) 23 1 rfl (by kernel_rfl) (by kernel_rfl) fun g2 W1 l2 e1 r2_1 => ?_
  have x1 : Ext w W1 := Ext.tr (Rely.Ext.refl w) e1
  have b2 : w.heap.size ≤ g2 := Nat.le_trans (Rely.Ext.refl w).size l2
  refine seq_alloc (cat [ints .u8 (List.replicate 32 0), ints .u8 (List.replicate 32 0)]) 57 2 rfl (by kernel_rfl) (by kernel_rfl) fun g3 W2 l3 e2 r3_2 => ?_
  have x2 : Ext w W2 := Ext.tr x1 e2
  have b3 : w.heap.size ≤ g3 := Nat.le_trans x1.size l3
  refine seq_nil ?_
  refine hK1 _ _ ?_
  try clear hK1 K1
  refine wp_seq_k fun K4 hK4 => ?_
  refine any_region 4 [⟨none, [(1, none)]⟩, ⟨none, [(1, none)]⟩, ⟨none, [(4, some 1)]⟩, ⟨none, [(3, some 0), (5, some 2)]⟩] (by kernel_rfl) (by kernel_rfl) fun F hF => ?_
  have r2_2 := (row_ext r2_1 e2)
  refine any_read (.agg (ints .u8 (xs))) (by kernel_rfl) (by kernel_rfl) (fun W hR => (run_load_row 23 _ g2 23 _ _ (row_ext (row_ext r2_2 (ext_drew _)) hR) rfl (by kernel_rfl) (by kernel_rfl) (isz (n := 32) (by kernel_rfl) ((ints_size _ _).trans hx)))) ?_
  refine any_read (.agg (ints .u8 (xs))) (by kernel_rfl) (by kernel_rfl) (fun W hR => (run_load_row 23 _ g2 23 _ _ (row_ext (row_ext r2_2 (ext_drew _)) hR) rfl (by kernel_rfl) (by kernel_rfl) (isz (n := 32) (by kernel_rfl) ((ints_size _ _).trans hx)))) ?_
  refine any_call (.agg (ints .u8 (pubL xs))) 43 #[.agg (ints .u8 (xs))] (by kernel_rfl) (by kernel_rfl) (fun W => by kernel_rfl) (fun W hR => (public_ xs hx hb) W) ?_
  refine any_val (.agg (cat [ints .u8 (xs), ints .u8 (pubL xs)])) (by kernel_rfl) (by kernel_rfl) (fun W => (run_buildC 57 _ (.agg (cat [ints .u8 (List.replicate 32 0), ints .u8 (List.replicate 32 0)])) #[(0, 32), (32, 32)] [(0, 32, .agg (ints .u8 (xs)), ints .u8 (xs)), (1, 32, .agg (ints .u8 (pubL xs)), ints .u8 (pubL xs))] rfl (by kernel_rfl) ⟨(by kernel_rfl), rfl, ((ints_size _ _).trans hx), (by kernel_rfl), rfl, ((ints_size _ _).trans (pubL_len xs)), trivial⟩ (by kernel_rfl) (by kernel_rfl) (by kernel_rfl) (by kernel_rfl))) ?_
  refine steps_nil (hF _ (by kernel_rfl) fun W3 e3 => ?_)
  simp only [ups, up, Kn.val, List.take_succ_cons, List.take_zero, List.drop_succ_cons, List.drop_zero, List.nil_append, List.cons_append]
  clear hF
  have x3 : Ext w W3 := Ext.tr x2 e3
  have r3_3 := (row_ext r3_2 e3)
  refine seq_store g3 _ (cat [ints .u8 (xs), ints .u8 (pubL xs)]) 57 r3_3 rfl (by kernel_rfl) (run_store_row 57 _ _ g3 57 _ _ r3_3 rfl (by kernel_rfl) (by kernel_rfl) (isz (n := 64) (by kernel_rfl) (by rw [cat_cons, cat_cons]; simp only [Array.size_append, cat, ((ints_size _ _).trans (pubL_len xs)), ((ints_size _ _).trans hx)]; rfl)) (eqsz (n := 64) (by rw [cat_cons, cat_cons]; simp only [Array.size_append, cat, ((ints_size _ _).trans zlen)]; rfl) (by rw [cat_cons, cat_cons]; simp only [Array.size_append, cat, ((ints_size _ _).trans (pubL_len xs)), ((ints_size _ _).trans hx)]; rfl)) (cat_one _ (by intro a ha; simp only [List.mem_cons, List.not_mem_nil, or_false] at ha; rcases ha with rfl | rfl; exact (ints_one _ _); exact (ints_one _ _)))) fun W4 p4 r3_4 => ?_
  have x4 : Ext w W4 := Puts.ext p4 x3 b3
  refine seq_nil ?_
  refine hK4 _ _ ?_
  try clear hK4 K4
  refine wp_ret ?_
  exact (show bodyPost _ _ _ .ret _ _ from ret1 (.agg (cat [ints .u8 (xs), ints .u8 (pubL xs)])) rfl (res_cell g3 57 _ r3_4 (by kernel_rfl) (by kernel_rfl) (isz (n := 64) (by kernel_rfl) (by rw [cat_cons, cat_cons]; simp only [Array.size_append, cat, ((ints_size _ _).trans (pubL_len xs)), ((ints_size _ _).trans hx)]; rfl))) ⟨rfl, x4⟩)
set_option maxHeartbeats 1000000 in
theorem num_nil  (w : World) : Calls Try.prog 47 #[.nilIface] w (Ret w (.int .i64 0)) := by
  refine enter 19 [(0, .nilIface)] Try.func47 rfl rfl (by kernel_rfl) rfl ?_
  refine wp_seq_k fun K1 hK1 => ?_
  refine region_lit ?_
  refine seq_val (.int .i64 0) 2 rfl (by kernel_rfl) (by kernel_rfl) ?_
  refine seq_nil ?_
  refine hK1 _ _ ?_
  try clear hK1 K1
  refine wp_seq_k fun K2 hK2 => ?_
  refine wp_seq_k fun K3 hK3 => ?_
  refine region_lit ?_
  refine seq_val (.nilIface) 5 rfl (by kernel_rfl) (by kernel_rfl) ?_
  refine seq_val (.bool true) 6 rfl (by kernel_rfl) (by kernel_rfl) ?_
  refine seq_nil ?_
  refine hK3 _ _ ?_
  try clear hK3 K3
  refine cond_true (by kernel_rfl) ?_
  refine wp_seq_k fun K4 hK4 => ?_
  refine region_lit ?_
  refine seq_val (.int .i64 0) 2 rfl (by kernel_rfl) (by kernel_rfl) ?_
  refine seq_nil ?_
  refine hK4 _ _ ?_
  try clear hK4 K4
  refine wp_ret ?_
  exact (show bodyPost _ _ _ .ret _ _ from ret1 (.int .i64 0) rfl (res_tmp (by kernel_rfl)) ⟨rfl, (Rely.Ext.refl w)⟩)
set_option maxHeartbeats 1000000 in
theorem num_4  (w : World) : Calls Try.prog 47 #[.iface 80 (.int .i64 4)] w (Ret w (.int .i64 4)) := by
  refine enter 19 [(0, .iface 80 (.int .i64 4))] Try.func47 rfl rfl (by kernel_rfl) rfl ?_
  refine wp_seq_k fun K1 hK1 => ?_
  refine region_lit ?_
  refine seq_val (.int .i64 0) 2 rfl (by kernel_rfl) (by kernel_rfl) ?_
  refine seq_nil ?_
  refine hK1 _ _ ?_
  try clear hK1 K1
  refine wp_seq_k fun K2 hK2 => ?_
  refine wp_seq_k fun K3 hK3 => ?_
  refine region_lit ?_
  refine seq_val (.iface 80 (.int .i64 4)) 5 rfl (by kernel_rfl) (by kernel_rfl) ?_
  refine seq_val (.bool false) 6 rfl (by kernel_rfl) (by kernel_rfl) ?_
  refine seq_nil ?_
  refine hK3 _ _ ?_
  try clear hK3 K3
  refine cond_false (by kernel_rfl) ?_
  refine wp_skip ?_
  refine hK2 _ _ ?_
  try clear hK2 K2
  refine wp_seq_k fun K4 hK4 => ?_
  refine region_lit ?_
  refine seq_val (.iface 80 (.int .i64 4)) 8 rfl (by kernel_rfl) (by kernel_rfl) ?_
  refine seq_val (.tuple #[.int .i64 4, .bool true]) 9 rfl (by kernel_rfl) (by kernel_rfl) ?_
  refine seq_val (.tuple #[.int .i64 4, .bool true]) 7 rfl (by kernel_rfl) (by kernel_rfl) ?_
  refine seq_val (.int .i64 4) 10 rfl (by kernel_rfl) (by kernel_rfl) ?_
  refine seq_val (.bool true) 11 rfl (by kernel_rfl) (by kernel_rfl) ?_
  refine seq_val (.int .i64 4) 3 rfl (by kernel_rfl) (by kernel_rfl) ?_
  refine seq_val (.bool true) 4 rfl (by kernel_rfl) (by kernel_rfl) ?_
  refine seq_nil ?_
  refine hK4 _ _ ?_
  try clear hK4 K4
  refine wp_seq_k fun K5 hK5 => ?_
  refine wp_seq_k fun K6 hK6 => ?_
  refine region_lit ?_
  refine seq_val (.bool true) 12 rfl (by kernel_rfl) (by kernel_rfl) ?_
  refine seq_val (.bool false) 13 rfl (by kernel_rfl) (by kernel_rfl) ?_
  refine seq_val (.bool false) 14 rfl (by kernel_rfl) (by kernel_rfl) ?_
  refine seq_val (.int .i64 4) 15 rfl (by kernel_rfl) (by kernel_rfl) ?_
  refine seq_val (.bool false) 16 rfl (by kernel_rfl) (by kernel_rfl) ?_
  refine seq_val (.bool false) 17 rfl (by kernel_rfl) (by kernel_rfl) ?_
  refine seq_nil ?_
  refine hK6 _ _ ?_
  try clear hK6 K6
  refine cond_false (by kernel_rfl) ?_
  refine wp_skip ?_
  refine hK5 _ _ ?_
  try clear hK5 K5
  refine wp_seq_k fun K7 hK7 => ?_
  refine region_lit ?_
  refine seq_val (.int .i64 4) 18 rfl (by kernel_rfl) (by kernel_rfl) ?_
  refine seq_val (.int .i64 4) 2 rfl (by kernel_rfl) (by kernel_rfl) ?_
  refine seq_nil ?_
  refine hK7 _ _ ?_
  try clear hK7 K7
  refine wp_ret ?_
  exact (show bodyPost _ _ _ .ret _ _ from ret1 (.int .i64 4) rfl (res_tmp (by kernel_rfl)) ⟨rfl, (Rely.Ext.refl w)⟩)
set_option maxHeartbeats 1000000 in
theorem agree_0 (xs ps : List Int) (hx : xs.length = 32) (hb : AreBytes xs) (hp : ps.length = 32) (hbp : AreBytes ps) (h0 : (agN xs ps == 0) = false) (w : World) : Calls Try.prog 45 #[.agg (ints .u8 (xs)), .agg (ints .u8 (ps))] w (Ret w (.tuple #[.agg (ints .u8 (bytesOf (agN xs ps))), .nilIface])) := by
  refine enter 18 [(0, .agg (ints .u8 (xs))), (1, .agg (ints .u8 (ps)))] Try.func45 rfl rfl (by kernel_rfl) rfl ?_
  refine wp_seq_k fun K1 hK1 => ?_
  refine region_lit ?_
  refine seq_alloc (ints .u8 (xs)) 23 2 rfl (by kernel_rfl) (by kernel_rfl) fun g2 W1 l2 e1 r2_1 => ?_
  have x1 : Ext w W1 := Ext.tr (Rely.Ext.refl w) e1
  have b2 : w.heap.size ≤ g2 := Nat.le_trans (Rely.Ext.refl w).size l2
  refine seq_alloc (ints .u8 (ps)) 23 3 rfl (by kernel_rfl) (by kernel_rfl) fun g3 W2 l3 e2 r3_2 => ?_
  have x2 : Ext w W2 := Ext.tr x1 e2
  have b3 : w.heap.size ≤ g3 := Nat.le_trans x1.size l3
  refine seq_alloc (ints .u8 (List.replicate 32 0)) 23 4 rfl (by kernel_rfl) (by kernel_rfl) fun g4 W3 l4 e3 r4_3 => ?_
  have x3 : Ext w W3 := Ext.tr x2 e3
  have b4 : w.heap.size ≤ g4 := Nat.le_trans x2.size l4
  refine seq_val (.nilIface) 5 rfl (by kernel_rfl) (by kernel_rfl) ?_
  refine seq_nil ?_
  refine hK1 _ _ ?_
  try clear hK1 K1
  refine wp_seq_k fun K5 hK5 => ?_
  refine any_regionD 5 [⟨none, [(2, none)]⟩, ⟨none, [(3, none)]⟩, ⟨none, [(8, some 1)]⟩, ⟨none, [(7, some 0), (9, some 2)]⟩, ⟨none, []⟩] [4] (by kernel_rfl) (by kernel_rfl) (by kernel_rfl) fun F hF => ?_
  have r2_3 := (row_ext (row_ext r2_1 e2) e3)
  refine any_read (.agg (ints .u8 (xs))) (by kernel_rfl) (by kernel_rfl) (fun W hR => (run_load_row 23 _ g2 23 _ _ (row_ext (row_ext r2_3 (ext_drew _)) hR) rfl (by kernel_rfl) (by kernel_rfl) (isz (n := 32) (by kernel_rfl) ((ints_size _ _).trans hx)))) ?_
  have r3_3 := (row_ext r3_2 e3)
  refine any_read (.agg (ints .u8 (ps))) (by kernel_rfl) (by kernel_rfl) (fun W hR => (run_load_row 23 _ g3 23 _ _ (row_ext (row_ext r3_3 (ext_drew _)) hR) rfl (by kernel_rfl) (by kernel_rfl) (isz (n := 32) (by kernel_rfl) ((ints_size _ _).trans hp)))) ?_
  refine any_call (.agg (numA (keyNum ps))) 20 #[.agg (ints .u8 (ps))] (by kernel_rfl) (by kernel_rfl) (fun W => by kernel_rfl) (fun W hR => (from_ ps hp hbp) W) ?_
  refine any_call (.agg (numA (agN xs ps))) 61 #[.agg (ints .u8 (xs)), .agg (numA (keyNum ps))] (by kernel_rfl) (by kernel_rfl) (fun W => by kernel_rfl) (fun W hR => (climb_ref xs hx hb (keyNum ps) (keyNum_isN ps)) W) ?_
  refine any_new (numA (0)) 29 (by kernel_rfl) (Nat.le_refl _) (by kernel_rfl) (fun W => by kernel_rfl) ?_
  refine steps_nil (hF _ (by kernel_rfl) fun W4 e4 => ?_)
  simp only [fins, up, List.take_succ_cons, List.take_zero, List.drop_succ_cons, List.drop_zero, List.nil_append, List.cons_append]
  intro g6 l6 r6_4 n6
  have b6 : w.heap.size ≤ g6 := Nat.le_trans x3.size l6
  clear hF
  have x4 : Ext w W4 := Ext.tr x3 e4
  refine seq_store g6 _ (numA (agN xs ps)) 29 r6_4 rfl (by kernel_rfl) (run_store_row 29 _ _ g6 29 _ _ r6_4 rfl (by kernel_rfl) (by kernel_rfl) (isz (n := 4) (by kernel_rfl) (by kernel_rfl)) (eqsz (n := 4) (by kernel_rfl) (by kernel_rfl)) (by kernel_rfl)) fun W5 p5 r6_5 => ?_
  have x5 : Ext w W5 := Puts.ext p5 x4 b6
  refine seq_nil ?_
  refine hK5 _ _ ?_
  try clear hK5 K5
  refine wp_seq_k fun K7 hK7 => ?_
  refine wp_seq_k fun K8 hK8 => ?_
  refine any_region 3 [⟨none, [(6, none)]⟩, ⟨none, []⟩, ⟨none, [(11, some 0), (12, some 1)]⟩] (by kernel_rfl) (by kernel_rfl) fun F hF => ?_
  refine any_read (.agg (numA (agN xs ps))) (by kernel_rfl) (by kernel_rfl) (fun W hR => (run_load_row 29 _ g6 29 _ _ (row_ext (row_ext r6_5 (ext_drew _)) hR) rfl (by kernel_rfl) (by kernel_rfl) (isz (n := 4) (by kernel_rfl) (by kernel_rfl)))) ?_
  refine any_call (.agg (numA (0))) 22 #[.int .i64 0] (by kernel_rfl) (by kernel_rfl) (fun W => by kernel_rfl) (fun W hR => (small_k 0 (by decide)) W) ?_
  refine any_call (.bool false) 29 #[.agg (numA (agN xs ps)), .agg (numA (0))] (by kernel_rfl) (by kernel_rfl) (fun W => by kernel_rfl) (fun W hR => (equal_is _ _ (isN_mod _) zero_isN h0) W) ?_
  refine steps_nil (hF _ (by kernel_rfl) fun W6 e6 => ?_)
  simp only [ups, up, Kn.val, List.take_succ_cons, List.take_zero, List.drop_succ_cons, List.drop_zero, List.nil_append, List.cons_append]
  clear hF
  have x6 : Ext w W6 := Ext.tr x5 e6
  refine seq_nil ?_
  refine hK8 _ _ ?_
  try clear hK8 K8
  refine cond_false (by kernel_rfl) ?_
  refine wp_skip ?_
  refine hK7 _ _ ?_
  try clear hK7 K7
  refine wp_seq_k fun K9 hK9 => ?_
  refine region_lit ?_
  have r6_6 := (row_ext r6_5 e6)
  refine seq_val (.agg (numA (agN xs ps))) 16 rfl (by kernel_rfl) (run_load_row 29 _ g6 29 _ _ r6_6 rfl (by kernel_rfl) (by kernel_rfl) (isz (n := 4) (by kernel_rfl) (by kernel_rfl))) ?_
  refine seq_call (.agg (ints .u8 (bytesOf (agN xs ps)))) 48 #[.agg (numA (agN xs ps))] 17 rfl (by kernel_rfl) (by kernel_rfl) ((bytes _ (isN_mod _)) _) fun W7 e7 => ?_
  have x7 : Ext w W7 := Ext.tr x6 e7
  have r4_7 := (row_ext (row_ext (Puts.row p5 (row_ext r4_3 e4) (ne_of_old r4_3 l6)) e6) e7)
  refine seq_store g4 _ (ints .u8 (bytesOf (agN xs ps))) 23 r4_7 rfl (by kernel_rfl) (run_store_row 23 _ _ g4 23 _ _ r4_7 rfl (by kernel_rfl) (by kernel_rfl) (isz (n := 32) (by kernel_rfl) ((ints_size _ _).trans (bytesOf_len (agN xs ps)))) (eqsz (n := 32) ((ints_size _ _).trans zlen) ((ints_size _ _).trans (bytesOf_len (agN xs ps)))) (ints_one _ _)) fun W8 p8 r4_8 => ?_
  have x8 : Ext w W8 := Puts.ext p8 x7 b4
  refine seq_val (.nilIface) 5 rfl (by kernel_rfl) (by kernel_rfl) ?_
  refine seq_nil ?_
  refine hK9 _ _ ?_
  try clear hK9 K9
  refine wp_ret ?_
  exact (show bodyPost _ _ _ .ret _ _ from ret2 (.agg (ints .u8 (bytesOf (agN xs ps)))) (.nilIface) rfl (res_cell g4 23 _ r4_8 (by kernel_rfl) (by kernel_rfl) (isz (n := 32) (by kernel_rfl) ((ints_size _ _).trans (bytesOf_len (agN xs ps))))) (res_tmp (by kernel_rfl)) ⟨rfl, x8⟩)
set_option maxHeartbeats 1000000 in
theorem refAgree_0 (xs ps : List Int) (hx : xs.length = 32) (hb : AreBytes xs) (hp : ps.length = 32) (hbp : AreBytes ps) (h0 : (agN xs ps == 0) = false) (w : World) : Calls Try.prog 46 #[.agg (ints .u8 (xs)), .agg (ints .u8 (ps))] w (Ret w (.tuple #[.agg (ints .u8 (bytesOf (agN xs ps))), .int .i64 0])) := by
  refine enter 16 [(0, .agg (ints .u8 (xs))), (1, .agg (ints .u8 (ps)))] Try.func46 rfl rfl (by kernel_rfl) rfl ?_
  refine wp_seq_k fun K1 hK1 => ?_
  refine region_lit ?_
  refine seq_alloc (ints .u8 (xs)) 23 2 rfl (by kernel_rfl) (by kernel_rfl) fun g2 W1 l2 e1 r2_1 => ?_
  have x1 : Ext w W1 := Ext.tr (Rely.Ext.refl w) e1
  have b2 : w.heap.size ≤ g2 := Nat.le_trans (Rely.Ext.refl w).size l2
  refine seq_alloc (ints .u8 (ps)) 23 3 rfl (by kernel_rfl) (by kernel_rfl) fun g3 W2 l3 e2 r3_2 => ?_
  have x2 : Ext w W2 := Ext.tr x1 e2
  have b3 : w.heap.size ≤ g3 := Nat.le_trans x1.size l3
  refine seq_alloc (ints .u8 (List.replicate 32 0)) 23 4 rfl (by kernel_rfl) (by kernel_rfl) fun g4 W3 l4 e3 r4_3 => ?_
  have x3 : Ext w W3 := Ext.tr x2 e3
  have b4 : w.heap.size ≤ g4 := Nat.le_trans x2.size l4
  refine seq_val (.int .i64 0) 5 rfl (by kernel_rfl) (by kernel_rfl) ?_
  refine seq_nil ?_
  refine hK1 _ _ ?_
  try clear hK1 K1
  refine wp_seq_k fun K5 hK5 => ?_
  refine any_regionD 5 [⟨none, [(2, none)]⟩, ⟨none, [(3, none)]⟩, ⟨none, [(8, some 1)]⟩, ⟨none, [(7, some 0), (9, some 2)]⟩, ⟨none, []⟩] [4] (by kernel_rfl) (by kernel_rfl) (by kernel_rfl) fun F hF => ?_
  have r2_3 := (row_ext (row_ext r2_1 e2) e3)
  refine any_read (.agg (ints .u8 (xs))) (by kernel_rfl) (by kernel_rfl) (fun W hR => (run_load_row 23 _ g2 23 _ _ (row_ext (row_ext r2_3 (ext_drew _)) hR) rfl (by kernel_rfl) (by kernel_rfl) (isz (n := 32) (by kernel_rfl) ((ints_size _ _).trans hx)))) ?_
  have r3_3 := (row_ext r3_2 e3)
  refine any_read (.agg (ints .u8 (ps))) (by kernel_rfl) (by kernel_rfl) (fun W hR => (run_load_row 23 _ g3 23 _ _ (row_ext (row_ext r3_3 (ext_drew _)) hR) rfl (by kernel_rfl) (by kernel_rfl) (isz (n := 32) (by kernel_rfl) ((ints_size _ _).trans hp)))) ?_
  refine any_call (.agg (ints .i64 (lims (keyNum ps)))) 21 #[.agg (ints .u8 (ps))] (by kernel_rfl) (by kernel_rfl) (fun W => by kernel_rfl) (fun W hR => (lFrom ps hp hbp) W) ?_
  refine any_call (.agg (ints .u8 (bytesOf (agN xs ps)))) 60 #[.agg (ints .u8 (xs)), .agg (ints .i64 (lims (keyNum ps)))] (by kernel_rfl) (by kernel_rfl) (fun W => by kernel_rfl) (fun W hR => (come xs hx hb (keyNum ps) (keyNum_isN ps)) W) ?_
  refine any_new (ints .u8 (List.replicate 32 0)) 23 (by kernel_rfl) (Nat.le_refl _) (by kernel_rfl) (fun W => by kernel_rfl) ?_
  refine steps_nil (hF _ (by kernel_rfl) fun W4 e4 => ?_)
  simp only [fins, up, List.take_succ_cons, List.take_zero, List.drop_succ_cons, List.drop_zero, List.nil_append, List.cons_append]
  intro g6 l6 r6_4 n6
  have b6 : w.heap.size ≤ g6 := Nat.le_trans x3.size l6
  clear hF
  have x4 : Ext w W4 := Ext.tr x3 e4
  refine seq_store g6 _ (ints .u8 (bytesOf (agN xs ps))) 23 r6_4 rfl (by kernel_rfl) (run_store_row 23 _ _ g6 23 _ _ r6_4 rfl (by kernel_rfl) (by kernel_rfl) (isz (n := 32) (by kernel_rfl) ((ints_size _ _).trans (bytesOf_len (agN xs ps)))) (eqsz (n := 32) ((ints_size _ _).trans zlen) ((ints_size _ _).trans (bytesOf_len (agN xs ps)))) (ints_one _ _)) fun W5 p5 r6_5 => ?_
  have x5 : Ext w W5 := Puts.ext p5 x4 b6
  refine seq_nil ?_
  refine hK5 _ _ ?_
  try clear hK5 K5
  refine wp_seq_k fun K7 hK7 => ?_
  refine wp_seq_k fun K8 hK8 => ?_
  refine region_lit ?_
  refine seq_val (.agg (ints .u8 (bytesOf (agN xs ps)))) 11 rfl (by kernel_rfl) (run_load_row 23 _ g6 23 _ _ r6_5 rfl (by kernel_rfl) (by kernel_rfl) (isz (n := 32) (by kernel_rfl) ((ints_size _ _).trans (bytesOf_len (agN xs ps))))) ?_
  refine seq_val (.agg (ints .u8 (List.replicate 32 0))) 12 rfl (by kernel_rfl) (by kernel_rfl) ?_
  refine seq_val (.bool false) 13 rfl (by kernel_rfl) (run_eql_agg 23 _ _ _ _ _ (.bool false) rfl (by kernel_rfl) (by kernel_rfl) (by kernel_rfl) (eql_is 23 (e := 5) (k := .u8) _ _ false (bytesOf_len _) zlen (by kernel_rfl) (by kernel_rfl) (by kernel_rfl) (zero_bytes_0 h0) _)) ?_
  refine seq_nil ?_
  refine hK8 _ _ ?_
  try clear hK8 K8
  refine cond_false (by kernel_rfl) ?_
  refine wp_skip ?_
  refine hK7 _ _ ?_
  try clear hK7 K7
  refine wp_seq_k fun K9 hK9 => ?_
  refine region_lit ?_
  refine seq_val (.agg (ints .u8 (bytesOf (agN xs ps)))) 15 rfl (by kernel_rfl) (run_load_row 23 _ g6 23 _ _ r6_5 rfl (by kernel_rfl) (by kernel_rfl) (isz (n := 32) (by kernel_rfl) ((ints_size _ _).trans (bytesOf_len (agN xs ps))))) ?_
  have r4_5 := (Puts.row p5 (row_ext r4_3 e4) (ne_of_old r4_3 l6))
  refine seq_store g4 _ (ints .u8 (bytesOf (agN xs ps))) 23 r4_5 rfl (by kernel_rfl) (run_store_row 23 _ _ g4 23 _ _ r4_5 rfl (by kernel_rfl) (by kernel_rfl) (isz (n := 32) (by kernel_rfl) ((ints_size _ _).trans (bytesOf_len (agN xs ps)))) (eqsz (n := 32) ((ints_size _ _).trans zlen) ((ints_size _ _).trans (bytesOf_len (agN xs ps)))) (ints_one _ _)) fun W6 p6 r4_6 => ?_
  have x6 : Ext w W6 := Puts.ext p6 x5 b4
  refine seq_val (.int .i64 0) 5 rfl (by kernel_rfl) (by kernel_rfl) ?_
  refine seq_nil ?_
  refine hK9 _ _ ?_
  try clear hK9 K9
  refine wp_ret ?_
  exact (show bodyPost _ _ _ .ret _ _ from ret2 (.agg (ints .u8 (bytesOf (agN xs ps)))) (.int .i64 0) rfl (res_cell g4 23 _ r4_6 (by kernel_rfl) (by kernel_rfl) (isz (n := 32) (by kernel_rfl) ((ints_size _ _).trans (bytesOf_len (agN xs ps))))) (res_tmp (by kernel_rfl)) ⟨rfl, x6⟩)
set_option maxHeartbeats 1000000 in
theorem agree_1 (xs ps : List Int) (hx : xs.length = 32) (hb : AreBytes xs) (hp : ps.length = 32) (hbp : AreBytes ps) (h0 : (agN xs ps == 0) = true) (w : World) : Calls Try.prog 45 #[.agg (ints .u8 (xs)), .agg (ints .u8 (ps))] w (Ret w (.tuple #[.agg (ints .u8 (List.replicate 32 0)), .iface 80 (.int .i64 4)])) := by
  refine enter 18 [(0, .agg (ints .u8 (xs))), (1, .agg (ints .u8 (ps)))] Try.func45 rfl rfl (by kernel_rfl) rfl ?_
  refine wp_seq_k fun K1 hK1 => ?_
  refine region_lit ?_
  refine seq_alloc (ints .u8 (xs)) 23 2 rfl (by kernel_rfl) (by kernel_rfl) fun g2 W1 l2 e1 r2_1 => ?_
  have x1 : Ext w W1 := Ext.tr (Rely.Ext.refl w) e1
  have b2 : w.heap.size ≤ g2 := Nat.le_trans (Rely.Ext.refl w).size l2
  refine seq_alloc (ints .u8 (ps)) 23 3 rfl (by kernel_rfl) (by kernel_rfl) fun g3 W2 l3 e2 r3_2 => ?_
  have x2 : Ext w W2 := Ext.tr x1 e2
  have b3 : w.heap.size ≤ g3 := Nat.le_trans x1.size l3
  refine seq_alloc (ints .u8 (List.replicate 32 0)) 23 4 rfl (by kernel_rfl) (by kernel_rfl) fun g4 W3 l4 e3 r4_3 => ?_
  have x3 : Ext w W3 := Ext.tr x2 e3
  have b4 : w.heap.size ≤ g4 := Nat.le_trans x2.size l4
  refine seq_val (.nilIface) 5 rfl (by kernel_rfl) (by kernel_rfl) ?_
  refine seq_nil ?_
  refine hK1 _ _ ?_
  try clear hK1 K1
  refine wp_seq_k fun K5 hK5 => ?_
  refine any_regionD 5 [⟨none, [(2, none)]⟩, ⟨none, [(3, none)]⟩, ⟨none, [(8, some 1)]⟩, ⟨none, [(7, some 0), (9, some 2)]⟩, ⟨none, []⟩] [4] (by kernel_rfl) (by kernel_rfl) (by kernel_rfl) fun F hF => ?_
  have r2_3 := (row_ext (row_ext r2_1 e2) e3)
  refine any_read (.agg (ints .u8 (xs))) (by kernel_rfl) (by kernel_rfl) (fun W hR => (run_load_row 23 _ g2 23 _ _ (row_ext (row_ext r2_3 (ext_drew _)) hR) rfl (by kernel_rfl) (by kernel_rfl) (isz (n := 32) (by kernel_rfl) ((ints_size _ _).trans hx)))) ?_
  have r3_3 := (row_ext r3_2 e3)
  refine any_read (.agg (ints .u8 (ps))) (by kernel_rfl) (by kernel_rfl) (fun W hR => (run_load_row 23 _ g3 23 _ _ (row_ext (row_ext r3_3 (ext_drew _)) hR) rfl (by kernel_rfl) (by kernel_rfl) (isz (n := 32) (by kernel_rfl) ((ints_size _ _).trans hp)))) ?_
  refine any_call (.agg (numA (keyNum ps))) 20 #[.agg (ints .u8 (ps))] (by kernel_rfl) (by kernel_rfl) (fun W => by kernel_rfl) (fun W hR => (from_ ps hp hbp) W) ?_
  refine any_call (.agg (numA (agN xs ps))) 61 #[.agg (ints .u8 (xs)), .agg (numA (keyNum ps))] (by kernel_rfl) (by kernel_rfl) (fun W => by kernel_rfl) (fun W hR => (climb_ref xs hx hb (keyNum ps) (keyNum_isN ps)) W) ?_
  refine any_new (numA (0)) 29 (by kernel_rfl) (Nat.le_refl _) (by kernel_rfl) (fun W => by kernel_rfl) ?_
  refine steps_nil (hF _ (by kernel_rfl) fun W4 e4 => ?_)
  simp only [fins, up, List.take_succ_cons, List.take_zero, List.drop_succ_cons, List.drop_zero, List.nil_append, List.cons_append]
  intro g6 l6 r6_4 n6
  have b6 : w.heap.size ≤ g6 := Nat.le_trans x3.size l6
  clear hF
  have x4 : Ext w W4 := Ext.tr x3 e4
  refine seq_store g6 _ (numA (agN xs ps)) 29 r6_4 rfl (by kernel_rfl) (run_store_row 29 _ _ g6 29 _ _ r6_4 rfl (by kernel_rfl) (by kernel_rfl) (isz (n := 4) (by kernel_rfl) (by kernel_rfl)) (eqsz (n := 4) (by kernel_rfl) (by kernel_rfl)) (by kernel_rfl)) fun W5 p5 r6_5 => ?_
  have x5 : Ext w W5 := Puts.ext p5 x4 b6
  refine seq_nil ?_
  refine hK5 _ _ ?_
  try clear hK5 K5
  refine wp_seq_k fun K7 hK7 => ?_
  refine wp_seq_k fun K8 hK8 => ?_
  refine any_region 3 [⟨none, [(6, none)]⟩, ⟨none, []⟩, ⟨none, [(11, some 0), (12, some 1)]⟩] (by kernel_rfl) (by kernel_rfl) fun F hF => ?_
  refine any_read (.agg (numA (agN xs ps))) (by kernel_rfl) (by kernel_rfl) (fun W hR => (run_load_row 29 _ g6 29 _ _ (row_ext (row_ext r6_5 (ext_drew _)) hR) rfl (by kernel_rfl) (by kernel_rfl) (isz (n := 4) (by kernel_rfl) (by kernel_rfl)))) ?_
  refine any_call (.agg (numA (0))) 22 #[.int .i64 0] (by kernel_rfl) (by kernel_rfl) (fun W => by kernel_rfl) (fun W hR => (small_k 0 (by decide)) W) ?_
  refine any_call (.bool true) 29 #[.agg (numA (agN xs ps)), .agg (numA (0))] (by kernel_rfl) (by kernel_rfl) (fun W => by kernel_rfl) (fun W hR => (equal_is _ _ (isN_mod _) zero_isN h0) W) ?_
  refine steps_nil (hF _ (by kernel_rfl) fun W6 e6 => ?_)
  simp only [ups, up, Kn.val, List.take_succ_cons, List.take_zero, List.drop_succ_cons, List.drop_zero, List.nil_append, List.cons_append]
  clear hF
  have x6 : Ext w W6 := Ext.tr x5 e6
  refine seq_nil ?_
  refine hK8 _ _ ?_
  try clear hK8 K8
  refine cond_true (by kernel_rfl) ?_
  refine wp_seq_k fun K9 hK9 => ?_
  refine region_lit ?_
  refine seq_val (.agg (ints .u8 (List.replicate 32 0))) 14 rfl (by kernel_rfl) (by kernel_rfl) ?_
  refine seq_val (.iface 80 (.int .i64 4)) 15 rfl (by kernel_rfl) (by kernel_rfl) ?_
  have r4_6 := (row_ext (Puts.row p5 (row_ext r4_3 e4) (ne_of_old r4_3 l6)) e6)
  refine seq_store g4 _ (ints .u8 (List.replicate 32 0)) 23 r4_6 rfl (by kernel_rfl) (run_store_row 23 _ _ g4 23 _ _ r4_6 rfl (by kernel_rfl) (by kernel_rfl) (isz (n := 32) (by kernel_rfl) ((ints_size _ _).trans zlen)) (eqsz (n := 32) ((ints_size _ _).trans zlen) ((ints_size _ _).trans zlen)) (ints_one _ _)) fun W7 p7 r4_7 => ?_
  have x7 : Ext w W7 := Puts.ext p7 x6 b4
  refine seq_val (.iface 80 (.int .i64 4)) 5 rfl (by kernel_rfl) (by kernel_rfl) ?_
  refine seq_nil ?_
  refine hK9 _ _ ?_
  try clear hK9 K9
  refine wp_ret ?_
  exact (show bodyPost _ _ _ .ret _ _ from ret2 (.agg (ints .u8 (List.replicate 32 0))) (.iface 80 (.int .i64 4)) rfl (res_cell g4 23 _ r4_7 (by kernel_rfl) (by kernel_rfl) (isz (n := 32) (by kernel_rfl) ((ints_size _ _).trans zlen))) (res_tmp (by kernel_rfl)) ⟨rfl, x7⟩)
set_option maxHeartbeats 1000000 in
theorem refAgree_1 (xs ps : List Int) (hx : xs.length = 32) (hb : AreBytes xs) (hp : ps.length = 32) (hbp : AreBytes ps) (h0 : (agN xs ps == 0) = true) (w : World) : Calls Try.prog 46 #[.agg (ints .u8 (xs)), .agg (ints .u8 (ps))] w (Ret w (.tuple #[.agg (ints .u8 (bytesOf (agN xs ps))), .int .i64 4])) := by
  refine enter 16 [(0, .agg (ints .u8 (xs))), (1, .agg (ints .u8 (ps)))] Try.func46 rfl rfl (by kernel_rfl) rfl ?_
  refine wp_seq_k fun K1 hK1 => ?_
  refine region_lit ?_
  refine seq_alloc (ints .u8 (xs)) 23 2 rfl (by kernel_rfl) (by kernel_rfl) fun g2 W1 l2 e1 r2_1 => ?_
  have x1 : Ext w W1 := Ext.tr (Rely.Ext.refl w) e1
  have b2 : w.heap.size ≤ g2 := Nat.le_trans (Rely.Ext.refl w).size l2
  refine seq_alloc (ints .u8 (ps)) 23 3 rfl (by kernel_rfl) (by kernel_rfl) fun g3 W2 l3 e2 r3_2 => ?_
  have x2 : Ext w W2 := Ext.tr x1 e2
  have b3 : w.heap.size ≤ g3 := Nat.le_trans x1.size l3
  refine seq_alloc (ints .u8 (List.replicate 32 0)) 23 4 rfl (by kernel_rfl) (by kernel_rfl) fun g4 W3 l4 e3 r4_3 => ?_
  have x3 : Ext w W3 := Ext.tr x2 e3
  have b4 : w.heap.size ≤ g4 := Nat.le_trans x2.size l4
  refine seq_val (.int .i64 0) 5 rfl (by kernel_rfl) (by kernel_rfl) ?_
  refine seq_nil ?_
  refine hK1 _ _ ?_
  try clear hK1 K1
  refine wp_seq_k fun K5 hK5 => ?_
  refine any_regionD 5 [⟨none, [(2, none)]⟩, ⟨none, [(3, none)]⟩, ⟨none, [(8, some 1)]⟩, ⟨none, [(7, some 0), (9, some 2)]⟩, ⟨none, []⟩] [4] (by kernel_rfl) (by kernel_rfl) (by kernel_rfl) fun F hF => ?_
  have r2_3 := (row_ext (row_ext r2_1 e2) e3)
  refine any_read (.agg (ints .u8 (xs))) (by kernel_rfl) (by kernel_rfl) (fun W hR => (run_load_row 23 _ g2 23 _ _ (row_ext (row_ext r2_3 (ext_drew _)) hR) rfl (by kernel_rfl) (by kernel_rfl) (isz (n := 32) (by kernel_rfl) ((ints_size _ _).trans hx)))) ?_
  have r3_3 := (row_ext r3_2 e3)
  refine any_read (.agg (ints .u8 (ps))) (by kernel_rfl) (by kernel_rfl) (fun W hR => (run_load_row 23 _ g3 23 _ _ (row_ext (row_ext r3_3 (ext_drew _)) hR) rfl (by kernel_rfl) (by kernel_rfl) (isz (n := 32) (by kernel_rfl) ((ints_size _ _).trans hp)))) ?_
  refine any_call (.agg (ints .i64 (lims (keyNum ps)))) 21 #[.agg (ints .u8 (ps))] (by kernel_rfl) (by kernel_rfl) (fun W => by kernel_rfl) (fun W hR => (lFrom ps hp hbp) W) ?_
  refine any_call (.agg (ints .u8 (bytesOf (agN xs ps)))) 60 #[.agg (ints .u8 (xs)), .agg (ints .i64 (lims (keyNum ps)))] (by kernel_rfl) (by kernel_rfl) (fun W => by kernel_rfl) (fun W hR => (come xs hx hb (keyNum ps) (keyNum_isN ps)) W) ?_
  refine any_new (ints .u8 (List.replicate 32 0)) 23 (by kernel_rfl) (Nat.le_refl _) (by kernel_rfl) (fun W => by kernel_rfl) ?_
  refine steps_nil (hF _ (by kernel_rfl) fun W4 e4 => ?_)
  simp only [fins, up, List.take_succ_cons, List.take_zero, List.drop_succ_cons, List.drop_zero, List.nil_append, List.cons_append]
  intro g6 l6 r6_4 n6
  have b6 : w.heap.size ≤ g6 := Nat.le_trans x3.size l6
  clear hF
  have x4 : Ext w W4 := Ext.tr x3 e4
  refine seq_store g6 _ (ints .u8 (bytesOf (agN xs ps))) 23 r6_4 rfl (by kernel_rfl) (run_store_row 23 _ _ g6 23 _ _ r6_4 rfl (by kernel_rfl) (by kernel_rfl) (isz (n := 32) (by kernel_rfl) ((ints_size _ _).trans (bytesOf_len (agN xs ps)))) (eqsz (n := 32) ((ints_size _ _).trans zlen) ((ints_size _ _).trans (bytesOf_len (agN xs ps)))) (ints_one _ _)) fun W5 p5 r6_5 => ?_
  have x5 : Ext w W5 := Puts.ext p5 x4 b6
  refine seq_nil ?_
  refine hK5 _ _ ?_
  try clear hK5 K5
  refine wp_seq_k fun K7 hK7 => ?_
  refine wp_seq_k fun K8 hK8 => ?_
  refine region_lit ?_
  refine seq_val (.agg (ints .u8 (bytesOf (agN xs ps)))) 11 rfl (by kernel_rfl) (run_load_row 23 _ g6 23 _ _ r6_5 rfl (by kernel_rfl) (by kernel_rfl) (isz (n := 32) (by kernel_rfl) ((ints_size _ _).trans (bytesOf_len (agN xs ps))))) ?_
  refine seq_val (.agg (ints .u8 (List.replicate 32 0))) 12 rfl (by kernel_rfl) (by kernel_rfl) ?_
  refine seq_val (.bool true) 13 rfl (by kernel_rfl) (run_eql_agg 23 _ _ _ _ _ (.bool true) rfl (by kernel_rfl) (by kernel_rfl) (by kernel_rfl) (eql_is 23 (e := 5) (k := .u8) _ _ true (bytesOf_len _) zlen (by kernel_rfl) (by kernel_rfl) (by kernel_rfl) (zero_bytes_1 h0) _)) ?_
  refine seq_nil ?_
  refine hK8 _ _ ?_
  try clear hK8 K8
  refine cond_true (by kernel_rfl) ?_
  refine wp_seq_k fun K9 hK9 => ?_
  refine region_lit ?_
  refine seq_val (.agg (ints .u8 (bytesOf (agN xs ps)))) 14 rfl (by kernel_rfl) (run_load_row 23 _ g6 23 _ _ r6_5 rfl (by kernel_rfl) (by kernel_rfl) (isz (n := 32) (by kernel_rfl) ((ints_size _ _).trans (bytesOf_len (agN xs ps))))) ?_
  have r4_5 := (Puts.row p5 (row_ext r4_3 e4) (ne_of_old r4_3 l6))
  refine seq_store g4 _ (ints .u8 (bytesOf (agN xs ps))) 23 r4_5 rfl (by kernel_rfl) (run_store_row 23 _ _ g4 23 _ _ r4_5 rfl (by kernel_rfl) (by kernel_rfl) (isz (n := 32) (by kernel_rfl) ((ints_size _ _).trans (bytesOf_len (agN xs ps)))) (eqsz (n := 32) ((ints_size _ _).trans zlen) ((ints_size _ _).trans (bytesOf_len (agN xs ps)))) (ints_one _ _)) fun W6 p6 r4_6 => ?_
  have x6 : Ext w W6 := Puts.ext p6 x5 b4
  refine seq_val (.int .i64 4) 5 rfl (by kernel_rfl) (by kernel_rfl) ?_
  refine seq_nil ?_
  refine hK9 _ _ ?_
  try clear hK9 K9
  refine wp_ret ?_
  exact (show bodyPost _ _ _ .ret _ _ from ret2 (.agg (ints .u8 (bytesOf (agN xs ps)))) (.int .i64 4) rfl (res_cell g4 23 _ r4_6 (by kernel_rfl) (by kernel_rfl) (isz (n := 32) (by kernel_rfl) ((ints_size _ _).trans (bytesOf_len (agN xs ps))))) (res_tmp (by kernel_rfl)) ⟨rfl, x6⟩)
set_option maxHeartbeats 1000000 in
theorem alive6  (w : World) : Calls Try.prog 42 #[] w (Ret w (.bool true)) := by
  refine enter 17 [] Try.func42 rfl rfl (by kernel_rfl) rfl ?_
  refine wp_seq_k fun K1 hK1 => ?_
  refine region_lit ?_
  refine seq_val (.bool false) 0 rfl (by kernel_rfl) (by kernel_rfl) ?_
  refine seq_nil ?_
  refine hK1 _ _ ?_
  try clear hK1 K1
  refine wp_seq_k fun K2 hK2 => ?_
  refine region_lit ?_
  refine seq_val (.agg (ints .u8 (one32))) 2 rfl (by kernel_rfl) (by kernel_rfl) ?_
  refine seq_call (.agg (ints .u8 (pubL one32))) 43 #[.agg (ints .u8 (one32))] 3 rfl (by kernel_rfl) (by kernel_rfl) ((public_ one32 one_len one_bytes) _) fun W1 e1 => ?_
  have x1 : Ext w W1 := Ext.tr (Rely.Ext.refl w) e1
  refine seq_alloc (ints .u8 (List.replicate 32 0)) 23 1 rfl (by kernel_rfl) (by kernel_rfl) fun g3 W2 l3 e2 r3_2 => ?_
  have x2 : Ext w W2 := Ext.tr x1 e2
  have b3 : w.heap.size ≤ g3 := Nat.le_trans x1.size l3
  refine seq_store g3 _ (ints .u8 (pubL one32)) 23 r3_2 rfl (by kernel_rfl) (run_store_row 23 _ _ g3 23 _ _ r3_2 rfl (by kernel_rfl) (by kernel_rfl) (isz (n := 32) (by kernel_rfl) ((ints_size _ _).trans (pubL_len one32))) (eqsz (n := 32) ((ints_size _ _).trans zlen) ((ints_size _ _).trans (pubL_len one32))) (ints_one _ _)) fun W3 p3 r3_3 => ?_
  have x3 : Ext w W3 := Puts.ext p3 x2 b3
  refine seq_nil ?_
  refine hK2 _ _ ?_
  try clear hK2 K2
  refine wp_seq_k fun K4 hK4 => ?_
  refine region_lit ?_
  refine seq_val (.pointer (some ⟨g3, 0, none⟩)) 4 rfl (by kernel_rfl) (by kernel_rfl) ?_
  refine seq_val (.int .u8 (47)) 5 rfl (by kernel_rfl) (run_loadC1 5 _ g3 0 23 _ (.int .u8 (47)) _ r3_3 rfl (by kernel_rfl) ((ints_get _ _ _ (Nat.lt_of_lt_of_eq (by decide) (pubL_len one32).symm)).trans (congrArg (fun z => some (Value.int .u8 z)) one_0)) (by kernel_rfl)) ?_
  refine seq_val (.bool true) 6 rfl (by kernel_rfl) (by kernel_rfl) ?_
  refine seq_val (.bool true) 7 rfl (by kernel_rfl) (by kernel_rfl) ?_
  refine seq_val (.pointer (some ⟨g3, 1, none⟩)) 8 rfl (by kernel_rfl) (by kernel_rfl) ?_
  refine seq_val (.int .u8 (229)) 9 rfl (by kernel_rfl) (run_loadC1 5 _ g3 1 23 _ (.int .u8 (229)) _ r3_3 rfl (by kernel_rfl) ((ints_get _ _ _ (Nat.lt_of_lt_of_eq (by decide) (pubL_len one32).symm)).trans (congrArg (fun z => some (Value.int .u8 z)) one_1)) (by kernel_rfl)) ?_
  refine seq_val (.bool true) 10 rfl (by kernel_rfl) (by kernel_rfl) ?_
  refine seq_val (.bool true) 11 rfl (by kernel_rfl) (by kernel_rfl) ?_
  refine seq_val (.bool true) 12 rfl (by kernel_rfl) (by kernel_rfl) ?_
  refine seq_val (.pointer (some ⟨g3, 31, none⟩)) 13 rfl (by kernel_rfl) (by kernel_rfl) ?_
  refine seq_val (.int .u8 (116)) 14 rfl (by kernel_rfl) (run_loadC1 5 _ g3 31 23 _ (.int .u8 (116)) _ r3_3 rfl (by kernel_rfl) ((ints_get _ _ _ (Nat.lt_of_lt_of_eq (by decide) (pubL_len one32).symm)).trans (congrArg (fun z => some (Value.int .u8 z)) one_31)) (by kernel_rfl)) ?_
  refine seq_val (.bool true) 15 rfl (by kernel_rfl) (by kernel_rfl) ?_
  refine seq_val (.bool true) 16 rfl (by kernel_rfl) (by kernel_rfl) ?_
  refine seq_val (.bool true) 0 rfl (by kernel_rfl) (by kernel_rfl) ?_
  refine seq_nil ?_
  refine hK4 _ _ ?_
  try clear hK4 K4
  refine wp_ret ?_
  exact (show bodyPost _ _ _ .ret _ _ from ret1 (.bool true) rfl (res_tmp (by kernel_rfl)) ⟨rfl, x3⟩)

end Go.Proofs.Ytaojnmjmmfdfjaa.Field
