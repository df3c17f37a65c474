/- Points: the fixed fact; the law of bytes. -/
import Derived.Test.YtaojnmjmmfdfjaaDoorPtBase
import Derived.Test.YtaojnmjmmfdfjaaDoorAutoV
namespace Go.Proofs.YtaojnmjmmfdfjaaDoor.Field
open Go Go.RowKit
open Go.Proofs.YtaojnmjmmfdfjaaDoor.Rely Go.Proofs.YtaojnmjmmfdfjaaDoor.Auto.V
open Go.Proofs.YtaojnmjmmfdfjaaDoor.Auto hiding isT tailT readsT storesT okT TailRun tailsOf pureOk stepsT stepsT_found InvT rem Phase isT_some mem_tails mem_rem rem_nodup list_false rem_sorted rem_set filter_ne holdsC wpAny_of_T t_store t_op t_skip t_val t_read t_call t_new t_nil TailEnv tail_env te_nil te_store any_regionT
set_option linter.unusedVariables false

theorem base_len : baseBL.length = 32 := by decide
theorem base_b0 : nth baseBL 0 = 88 := by decide
theorem base_b1 : nth baseBL 1 = 102 := by decide
theorem base_b31 : nth baseBL 31 = 102 := by decide
set_option maxHeartbeats 4000000 in
theorem alive7  (w : World) (tB : TypeId) (hB : w.heap[0]? = some (.cells (ints .u8 bendL) tB)) (tX : TypeId) (hX : w.heap[1]? = some (.cells (ints .u8 baseXL) tX)) (tY : TypeId) (hY : w.heap[2]? = some (.cells (ints .u8 baseYL) tY)) : Calls Tryd.prog 10 #[] w (Ret w (.bool true)) := by
  refine enter 25 [] Tryd.func10 rfl rfl (by kernel_rfl) rfl ?_
  refine wp_seq_k fun K4 hK4 => ?_
  refine region_lit ?_
  refine seq_val (.bool false) 0 rfl (by kernel_rfl) (by kernel_rfl) ?_
  refine seq_nil ?_
  refine hK4 _ _ ?_
  try clear hK4 K4
  refine wp_seq_k fun K5 hK5 => ?_
  refine region_lit ?_
  refine seq_call (.agg (cat [numA (bxN), numA (blN)])) 22 #[] 2 rfl (by kernel_rfl) (by kernel_rfl) (base_k _ tX hX tY hY) fun W1 e1 => ?_
  have x1 : Ext w W1 := Ext.tr (Rely.Ext.refl w) e1
  refine seq_call (.agg (ints .u8 (baseBL))) 13 #[.agg (cat [numA (bxN), numA (blN)])] 3 rfl (by kernel_rfl) (by kernel_rfl) (base_bytes _) fun W2 e2 => ?_
  have x2 : Ext w W2 := Ext.tr x1 e2
  refine seq_alloc (ints .u8 (List.replicate 32 0)) 23 1 rfl (by kernel_rfl) (by kernel_rfl) fun g6 W3 l6 e3 r6_3 => ?_
  have x3 : Ext w W3 := Ext.tr x2 e3
  have b6 : w.heap.size ≤ g6 := Nat.le_trans x2.size l6
  refine seq_store g6 _ (ints .u8 (baseBL)) 23 r6_3 rfl (by kernel_rfl) (run_store_row 23 _ _ g6 23 _ _ r6_3 rfl (by kernel_rfl) (by kernel_rfl) (isz (n := 32) (by kernel_rfl) ((ints_size _ _).trans base_len)) (eqsz (n := 32) ((ints_size _ _).trans zlen) ((ints_size _ _).trans base_len)) (ints_one _ _)) fun W4 p4 r6_4 => ?_
  have x4 : Ext w W4 := Puts.ext p4 x3 b6
  refine seq_nil ?_
  refine hK5 _ _ ?_
  try clear hK5 K5
  refine wp_seq_k fun K7 hK7 => ?_
  refine region_lit ?_
  refine seq_val (.pointer (some ⟨g6, 0, none⟩)) 4 rfl (by kernel_rfl) (by kernel_rfl) ?_
  refine seq_val (.int .u8 (88)) 5 rfl (by kernel_rfl) (run_loadC1 5 _ g6 0 23 _ (.int .u8 (88)) _ r6_4 rfl (by kernel_rfl) ((ints_get _ _ _ (Nat.lt_of_lt_of_eq (by decide) base_len.symm)).trans (congrArg (fun z => some (Value.int .u8 z)) base_b0)) (by kernel_rfl)) ?_
  refine seq_val (.bool true) 6 rfl (by kernel_rfl) (by kernel_rfl) ?_
  refine seq_val (.bool true) 7 rfl (by kernel_rfl) (by kernel_rfl) ?_
  refine seq_val (.pointer (some ⟨g6, 1, none⟩)) 8 rfl (by kernel_rfl) (by kernel_rfl) ?_
  refine seq_val (.int .u8 (102)) 9 rfl (by kernel_rfl) (run_loadC1 5 _ g6 1 23 _ (.int .u8 (102)) _ r6_4 rfl (by kernel_rfl) ((ints_get _ _ _ (Nat.lt_of_lt_of_eq (by decide) base_len.symm)).trans (congrArg (fun z => some (Value.int .u8 z)) base_b1)) (by kernel_rfl)) ?_
  refine seq_val (.bool true) 10 rfl (by kernel_rfl) (by kernel_rfl) ?_
  refine seq_val (.bool true) 11 rfl (by kernel_rfl) (by kernel_rfl) ?_
  refine seq_val (.bool true) 12 rfl (by kernel_rfl) (by kernel_rfl) ?_
  refine seq_val (.pointer (some ⟨g6, 31, none⟩)) 13 rfl (by kernel_rfl) (by kernel_rfl) ?_
  refine seq_val (.int .u8 (102)) 14 rfl (by kernel_rfl) (run_loadC1 5 _ g6 31 23 _ (.int .u8 (102)) _ r6_4 rfl (by kernel_rfl) ((ints_get _ _ _ (Nat.lt_of_lt_of_eq (by decide) base_len.symm)).trans (congrArg (fun z => some (Value.int .u8 z)) base_b31)) (by kernel_rfl)) ?_
  refine seq_val (.bool true) 15 rfl (by kernel_rfl) (by kernel_rfl) ?_
  refine seq_val (.bool true) 16 rfl (by kernel_rfl) (by kernel_rfl) ?_
  refine seq_val (.bool true) 17 rfl (by kernel_rfl) (by kernel_rfl) ?_
  have r2_2 := (row_ext (row_ext hX e1) e2)
  have r2_4 := (Puts.row p4 (row_ext (row_ext (row_ext hX e1) e2) e3) (ne_of_old r2_2 l6))
  have r3_2 := (row_ext (row_ext hY e1) e2)
  have r3_4 := (Puts.row p4 (row_ext (row_ext (row_ext hY e1) e2) e3) (ne_of_old r3_2 l6))
  refine seq_call (.agg (cat [numA (bxN), numA (blN)])) 22 #[] 18 rfl (by kernel_rfl) (by kernel_rfl) (base_k _ tX r2_4 tY r3_4) fun W5 e5 => ?_
  have x5 : Ext w W5 := Ext.tr x4 e5
  have r2_5 := (row_ext r2_4 e5)
  have r3_5 := (row_ext r3_4 e5)
  refine seq_call (.agg (cat [numA (bxN), numA (blN)])) 22 #[] 19 rfl (by kernel_rfl) (by kernel_rfl) (base_k _ tX r2_5 tY r3_5) fun W6 e6 => ?_
  have x6 : Ext w W6 := Ext.tr x5 e6
  refine seq_call (.agg (cat [numA (nbxN), numA (blN)])) 17 #[.agg (cat [numA (bxN), numA (blN)])] 20 rfl (by kernel_rfl) (by kernel_rfl) (base_neg _) fun W7 e7 => ?_
  have x7 : Ext w W7 := Ext.tr x6 e7
  have r1_2 := (row_ext (row_ext hB e1) e2)
  have r1_7 := (row_ext (row_ext (row_ext (Puts.row p4 (row_ext (row_ext (row_ext hB e1) e2) e3) (ne_of_old r1_2 l6)) e5) e6) e7)
  refine seq_call (.agg (cat [numA (0), numA (0)])) 15 #[.agg (cat [numA (bxN), numA (blN)]), .agg (cat [numA (nbxN), numA (blN)])] 21 rfl (by kernel_rfl) (by kernel_rfl) (base_add _ tB r1_7) fun W8 e8 => ?_
  have x8 : Ext w W8 := Ext.tr x7 e8
  refine seq_val (.agg (cat [numA (0), numA (0)])) 22 rfl (by kernel_rfl) (by kernel_rfl) ?_
  refine seq_call (.bool true) 19 #[.agg (cat [numA (0), numA (0)]), .agg (cat [numA (0), numA (0)])] 23 rfl (by kernel_rfl) (by kernel_rfl) (base_zero _) fun W9 e9 => ?_
  have x9 : Ext w W9 := Ext.tr x8 e9
  refine seq_val (.bool true) 24 rfl (by kernel_rfl) (by kernel_rfl) ?_
  refine seq_val (.bool true) 0 rfl (by kernel_rfl) (by kernel_rfl) ?_
  refine seq_nil ?_
  refine hK7 _ _ ?_
  try clear hK7 K7
  refine wp_ret ?_
  exact (show bodyPost _ _ _ .ret _ _ from ret1 (.bool true) rfl (res_tmp (by kernel_rfl)) ⟨rfl, x9⟩)
theorem pfrom_ok (xs : List Int) (r : Bool) (hx : xs.length = 32) (hb : AreBytes xs) (h : okK xs = r) (w : World) (tB : TypeId) (hB : w.heap[0]? = some (.cells (ints .u8 bendL) tB)) :
    Calls Tryd.prog 11 #[.agg (ints .u8 xs)] w (Ret w (.tuple #[.agg (cat [numA (xK xs), numA (lK xs)]), .bool r])) := by
  have := pfromC xs hx hb w tB hB
  rw [h] at this
  exact this
theorem rfrom_ok (xs : List Int) (r : Bool) (hx : xs.length = 32) (hb : AreBytes xs) (h : okK xs = r) (w : World) :
    Calls Tryd.prog 12 #[.agg (ints .u8 xs)] w (Ret w (.tuple #[.agg (cat [ints .i64 (lims (xK xs)), ints .i64 (lims (zK xs)), ints .i64 (lims 1)]), .bool r])) := by
  have := rfromC xs hx hb w
  rw [h] at this
  exact this
set_option maxHeartbeats 4000000 in
theorem lawFrom_true (xs : List Int) (hx : xs.length = 32) (hb : AreBytes xs) (ho : okK xs = true) (w : World) (tB : TypeId) (hB : w.heap[0]? = some (.cells (ints .u8 bendL) tB)) (tX : TypeId) (hX : w.heap[1]? = some (.cells (ints .u8 baseXL) tX)) (tY : TypeId) (hY : w.heap[2]? = some (.cells (ints .u8 baseYL) tY)) : Calls Tryd.prog 3 #[.agg (ints .u8 (xs))] w (Ret w (.bool true)) := by
  refine enter 39 [(0, .agg (ints .u8 (xs)))] Tryd.func3 rfl rfl (by kernel_rfl) rfl ?_
  refine wp_seq_k fun K4 hK4 => ?_
  refine region_lit ?_
  refine seq_alloc (ints .u8 (xs)) 23 1 rfl (by kernel_rfl) (by kernel_rfl) fun g5 W1 l5 e1 r5_1 => ?_
  have x1 : Ext w W1 := Ext.tr (Rely.Ext.refl w) e1
  have b5 : w.heap.size ≤ g5 := Nat.le_trans (Rely.Ext.refl w).size l5
  refine seq_val (.bool false) 2 rfl (by kernel_rfl) (by kernel_rfl) ?_
  refine seq_nil ?_
  refine hK4 _ _ ?_
  try clear hK4 K4
  refine wp_seq_k fun K6 hK6 => ?_
  refine wp_seq_k fun K7 hK7 => ?_
  refine region_lit ?_
  have r1_1 := (row_ext hB e1)
  have r2_1 := (row_ext hX e1)
  have r3_1 := (row_ext hY e1)
  refine seq_call (.bool true) 10 #[] 7 rfl (by kernel_rfl) (by kernel_rfl) (alive7 _ tB r1_1 tX r2_1 tY r3_1) fun W2 e2 => ?_
  have x2 : Ext w W2 := Ext.tr x1 e2
  refine seq_val (.bool false) 8 rfl (by kernel_rfl) (by kernel_rfl) ?_
  refine seq_nil ?_
  refine hK7 _ _ ?_
  try clear hK7 K7
  refine cond_false (by kernel_rfl) ?_
  refine wp_skip ?_
  refine hK6 _ _ ?_
  try clear hK6 K6
  refine wp_seq_k fun K8 hK8 => ?_
  refine region_lit ?_
  have r5_2 := (row_ext r5_1 e2)
  refine seq_val (.agg (ints .u8 (xs))) 10 rfl (by kernel_rfl) (run_load_row 23 _ g5 23 _ _ r5_2 rfl (by kernel_rfl) (by kernel_rfl) (isz (n := 32) (by kernel_rfl) ((ints_size _ _).trans hx))) ?_
  have r1_2 := (row_ext r1_1 e2)
  refine seq_call (.tuple #[.agg (cat [numA (xK xs), numA (lK xs)]), .bool true]) 11 #[.agg (ints .u8 (xs))] 11 rfl (by kernel_rfl) (by kernel_rfl) (pfrom_ok xs true hx hb ho _ tB r1_2) fun W3 e3 => ?_
  have x3 : Ext w W3 := Ext.tr x2 e3
  refine seq_val (.tuple #[.agg (cat [numA (xK xs), numA (lK xs)]), .bool true]) 9 rfl (by kernel_rfl) (by kernel_rfl) ?_
  refine seq_val (.agg (cat [numA (xK xs), numA (lK xs)])) 12 rfl (by kernel_rfl) (by kernel_rfl) ?_
  refine seq_val (.bool true) 13 rfl (by kernel_rfl) (by kernel_rfl) ?_
  refine seq_alloc (cat [numA (0), numA (0)]) 30 3 rfl (by kernel_rfl) (by kernel_rfl) fun g9 W4 l9 e4 r9_4 => ?_
  have x4 : Ext w W4 := Ext.tr x3 e4
  have b9 : w.heap.size ≤ g9 := Nat.le_trans x3.size l9
  refine seq_store g9 _ (cat [numA (xK xs), numA (lK xs)]) 30 r9_4 rfl (by kernel_rfl) (run_store_row 30 _ _ g9 30 _ _ r9_4 rfl (by kernel_rfl) (by kernel_rfl) (isz (n := 8) (by kernel_rfl) (by kernel_rfl)) (eqsz (n := 8) (by kernel_rfl) (by kernel_rfl)) (by kernel_rfl)) fun W5 p5 r9_5 => ?_
  have x5 : Ext w W5 := Puts.ext p5 x4 b9
  refine seq_val (.bool true) 4 rfl (by kernel_rfl) (by kernel_rfl) ?_
  refine seq_nil ?_
  refine hK8 _ _ ?_
  try clear hK8 K8
  refine wp_seq_k fun K10 hK10 => ?_
  refine region_lit ?_
  have r5_3 := (row_ext r5_2 e3)
  have r5_5 := (Puts.row p5 (row_ext (row_ext r5_2 e3) e4) (ne_of_old r5_3 l9))
  refine seq_val (.agg (ints .u8 (xs))) 15 rfl (by kernel_rfl) (run_load_row 23 _ g5 23 _ _ r5_5 rfl (by kernel_rfl) (by kernel_rfl) (isz (n := 32) (by kernel_rfl) ((ints_size _ _).trans hx))) ?_
  refine seq_call (.tuple #[.agg (cat [ints .i64 (lims (xK xs)), ints .i64 (lims (zK xs)), ints .i64 (lims (1))]), .bool true]) 12 #[.agg (ints .u8 (xs))] 16 rfl (by kernel_rfl) (by kernel_rfl) ((rfrom_ok xs true hx hb ho) _) fun W6 e6 => ?_
  have x6 : Ext w W6 := Ext.tr x5 e6
  refine seq_val (.tuple #[.agg (cat [ints .i64 (lims (xK xs)), ints .i64 (lims (zK xs)), ints .i64 (lims (1))]), .bool true]) 14 rfl (by kernel_rfl) (by kernel_rfl) ?_
  refine seq_val (.agg (cat [ints .i64 (lims (xK xs)), ints .i64 (lims (zK xs)), ints .i64 (lims (1))])) 17 rfl (by kernel_rfl) (by kernel_rfl) ?_
  refine seq_val (.bool true) 18 rfl (by kernel_rfl) (by kernel_rfl) ?_
  refine seq_alloc (cat [ints .i64 (lims (0)), ints .i64 (lims (0)), ints .i64 (lims (0))]) 36 5 rfl (by kernel_rfl) (by kernel_rfl) fun g11 W7 l11 e7 r11_7 => ?_
  have x7 : Ext w W7 := Ext.tr x6 e7
  have b11 : w.heap.size ≤ g11 := Nat.le_trans x6.size l11
  refine seq_store g11 _ (cat [ints .i64 (lims (xK xs)), ints .i64 (lims (zK xs)), ints .i64 (lims (1))]) 36 r11_7 rfl (by kernel_rfl) (run_store_row 36 _ _ g11 36 _ _ r11_7 rfl (by kernel_rfl) (by kernel_rfl) (isz (n := 48) (by kernel_rfl) (by kernel_rfl)) (eqsz (n := 48) (by kernel_rfl) (by kernel_rfl)) (by kernel_rfl)) fun W8 p8 r11_8 => ?_
  have x8 : Ext w W8 := Puts.ext p8 x7 b11
  refine seq_val (.bool true) 6 rfl (by kernel_rfl) (by kernel_rfl) ?_
  refine seq_nil ?_
  refine hK10 _ _ ?_
  try clear hK10 K10
  refine wp_seq_k fun K12 hK12 => ?_
  refine any_region 20 [⟨none, [(4, none)]⟩, ⟨none, [(6, none)]⟩, ⟨none, [(19, some 0), (20, some 1)]⟩, ⟨none, [(21, some 2)]⟩, ⟨some (22, true), [(3, none), (22, some 3)]⟩, ⟨some (22, true), [(23, some 4), (22, some 3)]⟩, ⟨some (22, true), [(5, none), (22, some 3)]⟩, ⟨some (22, true), [(25, some 6), (22, some 3)]⟩, ⟨some (22, true), [(24, some 5), (26, some 7), (22, some 3)]⟩, ⟨none, [(22, some 3), (27, some 8)]⟩, ⟨none, [(28, some 9)]⟩, ⟨some (29, true), [(4, none), (29, some 10)]⟩, ⟨some (29, true), [(30, some 11), (29, some 10)]⟩, ⟨some (29, true), [(31, some 12), (29, some 10)]⟩, ⟨some (32, false), [(3, none), (32, some 13)]⟩, ⟨some (32, false), [(33, some 14), (32, some 13)]⟩, ⟨some (32, false), [(1, none), (32, some 13)]⟩, ⟨some (32, false), [(34, some 15), (35, some 16), (32, some 13)]⟩, ⟨some (29, true), [(32, some 13), (36, some 17), (29, some 10)]⟩, ⟨none, [(29, some 10), (37, some 18)]⟩] (by kernel_rfl) (by kernel_rfl) fun F hF => ?_
  refine any_val (.bool true) (by kernel_rfl) (by kernel_rfl) (fun W => by kernel_rfl) ?_
  refine any_val (.bool true) (by kernel_rfl) (by kernel_rfl) (fun W => by kernel_rfl) ?_
  refine any_val (.bool true) (by kernel_rfl) (by kernel_rfl) (fun W => by kernel_rfl) ?_
  refine any_val (.bool true) (by kernel_rfl) (by kernel_rfl) (fun W => by kernel_rfl) ?_
  have r9_6 := (row_ext r9_5 e6)
  have r9_8 := (Puts.row p8 (row_ext (row_ext r9_5 e6) e7) (ne_of_old r9_6 l11))
  refine any_read (.agg (cat [numA (xK xs), numA (lK xs)])) (by kernel_rfl) (by kernel_rfl) (fun W hR => (run_load_row 30 _ g9 30 _ _ (row_ext (row_ext r9_8 (ext_drew _)) hR) rfl (by kernel_rfl) (by kernel_rfl) (isz (n := 8) (by kernel_rfl) (by kernel_rfl)))) ?_
  refine any_call (.agg (ints .u8 (encK xs))) 13 #[.agg (cat [numA (xK xs), numA (lK xs)])] (by kernel_rfl) (by kernel_rfl) (fun W => by kernel_rfl) (fun W hR => (pbytesK xs) W) ?_
  refine any_read (.agg (cat [ints .i64 (lims (xK xs)), ints .i64 (lims (zK xs)), ints .i64 (lims (1))])) (by kernel_rfl) (by kernel_rfl) (fun W hR => (run_load_row 36 _ g11 36 _ _ (row_ext (row_ext r11_8 (ext_drew _)) hR) rfl (by kernel_rfl) (by kernel_rfl) (isz (n := 48) (by kernel_rfl) (by kernel_rfl)))) ?_
  refine any_call (.agg (ints .u8 (encK xs))) 14 #[.agg (cat [ints .i64 (lims (xK xs)), ints .i64 (lims (zK xs)), ints .i64 (lims (1))])] (by kernel_rfl) (by kernel_rfl) (fun W => by kernel_rfl) (fun W hR => (rbytesK xs) W) ?_
  refine any_val (.bool true) (by kernel_rfl) (by kernel_rfl) (fun W => (run_eql_agg 23 _ _ _ _ _ (.bool true) rfl (by kernel_rfl) (by kernel_rfl) (by kernel_rfl) (key_eql (encK xs) (encK xs) true (enc_len _ _) (enc_len _ _) (decide_eq_true rfl) _))) ?_
  refine any_val (.bool true) (by kernel_rfl) (by kernel_rfl) (fun W => by kernel_rfl) ?_
  refine any_val (.bool true) (by kernel_rfl) (by kernel_rfl) (fun W => by kernel_rfl) ?_
  refine any_val (.bool true) (by kernel_rfl) (by kernel_rfl) (fun W => by kernel_rfl) ?_
  refine any_val (.bool false) (by kernel_rfl) (by kernel_rfl) (fun W => by kernel_rfl) ?_
  refine any_val (.bool false) (by kernel_rfl) (by kernel_rfl) (fun W => by kernel_rfl) ?_
  refine any_read (.agg (cat [numA (xK xs), numA (lK xs)])) (by kernel_rfl) (by kernel_rfl) (fun W hR => (run_load_row 30 _ g9 30 _ _ (row_ext (row_ext r9_8 (ext_drew _)) hR) rfl (by kernel_rfl) (by kernel_rfl) (isz (n := 8) (by kernel_rfl) (by kernel_rfl)))) ?_
  refine any_call (.agg (ints .u8 (encK xs))) 13 #[.agg (cat [numA (xK xs), numA (lK xs)])] (by kernel_rfl) (by kernel_rfl) (fun W => by kernel_rfl) (fun W hR => (pbytesK xs) W) ?_
  have r5_6 := (row_ext r5_5 e6)
  have r5_8 := (Puts.row p8 (row_ext (row_ext r5_5 e6) e7) (ne_of_old r5_6 l11))
  refine any_read (.agg (ints .u8 (xs))) (by kernel_rfl) (by kernel_rfl) (fun W hR => (run_load_row 23 _ g5 23 _ _ (row_ext (row_ext r5_8 (ext_drew _)) hR) rfl (by kernel_rfl) (by kernel_rfl) (isz (n := 32) (by kernel_rfl) ((ints_size _ _).trans hx)))) ?_
  refine any_val (.bool true) (by kernel_rfl) (by kernel_rfl) (fun W => (run_eql_agg 23 _ _ _ _ _ (.bool true) rfl (by kernel_rfl) (by kernel_rfl) (by kernel_rfl) (key_eql (encK xs) xs true (enc_len _ _) hx (decide_eq_true (enc_K hx hb ho)) _))) ?_
  refine any_val (.bool true) (by kernel_rfl) (by kernel_rfl) (fun W => by kernel_rfl) ?_
  refine any_val (.bool true) (by kernel_rfl) (by kernel_rfl) (fun W => by kernel_rfl) ?_
  refine steps_nil (hF _ (by kernel_rfl) fun W9 e9 => ?_)
  simp only [ups, up, Kn.val, List.take_succ_cons, List.take_zero, List.drop_succ_cons, List.drop_zero, List.nil_append, List.cons_append]
  clear hF
  have x9 : Ext w W9 := Ext.tr x8 e9
  refine seq_val (.bool true) 2 rfl (by kernel_rfl) (by kernel_rfl) ?_
  refine seq_nil ?_
  refine hK12 _ _ ?_
  try clear hK12 K12
  refine wp_ret ?_
  exact (show bodyPost _ _ _ .ret _ _ from ret1 (.bool true) rfl (res_tmp (by kernel_rfl)) ⟨rfl, x9⟩)
set_option maxHeartbeats 4000000 in
theorem lawFrom_false (xs : List Int) (hx : xs.length = 32) (hb : AreBytes xs) (ho : okK xs = false) (w : World) (tB : TypeId) (hB : w.heap[0]? = some (.cells (ints .u8 bendL) tB)) (tX : TypeId) (hX : w.heap[1]? = some (.cells (ints .u8 baseXL) tX)) (tY : TypeId) (hY : w.heap[2]? = some (.cells (ints .u8 baseYL) tY)) : Calls Tryd.prog 3 #[.agg (ints .u8 (xs))] w (Ret w (.bool true)) := by
  refine enter 39 [(0, .agg (ints .u8 (xs)))] Tryd.func3 rfl rfl (by kernel_rfl) rfl ?_
  refine wp_seq_k fun K4 hK4 => ?_
  refine region_lit ?_
  refine seq_alloc (ints .u8 (xs)) 23 1 rfl (by kernel_rfl) (by kernel_rfl) fun g5 W1 l5 e1 r5_1 => ?_
  have x1 : Ext w W1 := Ext.tr (Rely.Ext.refl w) e1
  have b5 : w.heap.size ≤ g5 := Nat.le_trans (Rely.Ext.refl w).size l5
  refine seq_val (.bool false) 2 rfl (by kernel_rfl) (by kernel_rfl) ?_
  refine seq_nil ?_
  refine hK4 _ _ ?_
  try clear hK4 K4
  refine wp_seq_k fun K6 hK6 => ?_
  refine wp_seq_k fun K7 hK7 => ?_
  refine region_lit ?_
  have r1_1 := (row_ext hB e1)
  have r2_1 := (row_ext hX e1)
  have r3_1 := (row_ext hY e1)
  refine seq_call (.bool true) 10 #[] 7 rfl (by kernel_rfl) (by kernel_rfl) (alive7 _ tB r1_1 tX r2_1 tY r3_1) fun W2 e2 => ?_
  have x2 : Ext w W2 := Ext.tr x1 e2
  refine seq_val (.bool false) 8 rfl (by kernel_rfl) (by kernel_rfl) ?_
  refine seq_nil ?_
  refine hK7 _ _ ?_
  try clear hK7 K7
  refine cond_false (by kernel_rfl) ?_
  refine wp_skip ?_
  refine hK6 _ _ ?_
  try clear hK6 K6
  refine wp_seq_k fun K8 hK8 => ?_
  refine region_lit ?_
  have r5_2 := (row_ext r5_1 e2)
  refine seq_val (.agg (ints .u8 (xs))) 10 rfl (by kernel_rfl) (run_load_row 23 _ g5 23 _ _ r5_2 rfl (by kernel_rfl) (by kernel_rfl) (isz (n := 32) (by kernel_rfl) ((ints_size _ _).trans hx))) ?_
  have r1_2 := (row_ext r1_1 e2)
  refine seq_call (.tuple #[.agg (cat [numA (xK xs), numA (lK xs)]), .bool false]) 11 #[.agg (ints .u8 (xs))] 11 rfl (by kernel_rfl) (by kernel_rfl) (pfrom_ok xs false hx hb ho _ tB r1_2) fun W3 e3 => ?_
  have x3 : Ext w W3 := Ext.tr x2 e3
  refine seq_val (.tuple #[.agg (cat [numA (xK xs), numA (lK xs)]), .bool false]) 9 rfl (by kernel_rfl) (by kernel_rfl) ?_
  refine seq_val (.agg (cat [numA (xK xs), numA (lK xs)])) 12 rfl (by kernel_rfl) (by kernel_rfl) ?_
  refine seq_val (.bool false) 13 rfl (by kernel_rfl) (by kernel_rfl) ?_
  refine seq_alloc (cat [numA (0), numA (0)]) 30 3 rfl (by kernel_rfl) (by kernel_rfl) fun g9 W4 l9 e4 r9_4 => ?_
  have x4 : Ext w W4 := Ext.tr x3 e4
  have b9 : w.heap.size ≤ g9 := Nat.le_trans x3.size l9
  refine seq_store g9 _ (cat [numA (xK xs), numA (lK xs)]) 30 r9_4 rfl (by kernel_rfl) (run_store_row 30 _ _ g9 30 _ _ r9_4 rfl (by kernel_rfl) (by kernel_rfl) (isz (n := 8) (by kernel_rfl) (by kernel_rfl)) (eqsz (n := 8) (by kernel_rfl) (by kernel_rfl)) (by kernel_rfl)) fun W5 p5 r9_5 => ?_
  have x5 : Ext w W5 := Puts.ext p5 x4 b9
  refine seq_val (.bool false) 4 rfl (by kernel_rfl) (by kernel_rfl) ?_
  refine seq_nil ?_
  refine hK8 _ _ ?_
  try clear hK8 K8
  refine wp_seq_k fun K10 hK10 => ?_
  refine region_lit ?_
  have r5_3 := (row_ext r5_2 e3)
  have r5_5 := (Puts.row p5 (row_ext (row_ext r5_2 e3) e4) (ne_of_old r5_3 l9))
  refine seq_val (.agg (ints .u8 (xs))) 15 rfl (by kernel_rfl) (run_load_row 23 _ g5 23 _ _ r5_5 rfl (by kernel_rfl) (by kernel_rfl) (isz (n := 32) (by kernel_rfl) ((ints_size _ _).trans hx))) ?_
  refine seq_call (.tuple #[.agg (cat [ints .i64 (lims (xK xs)), ints .i64 (lims (zK xs)), ints .i64 (lims (1))]), .bool false]) 12 #[.agg (ints .u8 (xs))] 16 rfl (by kernel_rfl) (by kernel_rfl) ((rfrom_ok xs false hx hb ho) _) fun W6 e6 => ?_
  have x6 : Ext w W6 := Ext.tr x5 e6
  refine seq_val (.tuple #[.agg (cat [ints .i64 (lims (xK xs)), ints .i64 (lims (zK xs)), ints .i64 (lims (1))]), .bool false]) 14 rfl (by kernel_rfl) (by kernel_rfl) ?_
  refine seq_val (.agg (cat [ints .i64 (lims (xK xs)), ints .i64 (lims (zK xs)), ints .i64 (lims (1))])) 17 rfl (by kernel_rfl) (by kernel_rfl) ?_
  refine seq_val (.bool false) 18 rfl (by kernel_rfl) (by kernel_rfl) ?_
  refine seq_alloc (cat [ints .i64 (lims (0)), ints .i64 (lims (0)), ints .i64 (lims (0))]) 36 5 rfl (by kernel_rfl) (by kernel_rfl) fun g11 W7 l11 e7 r11_7 => ?_
  have x7 : Ext w W7 := Ext.tr x6 e7
  have b11 : w.heap.size ≤ g11 := Nat.le_trans x6.size l11
  refine seq_store g11 _ (cat [ints .i64 (lims (xK xs)), ints .i64 (lims (zK xs)), ints .i64 (lims (1))]) 36 r11_7 rfl (by kernel_rfl) (run_store_row 36 _ _ g11 36 _ _ r11_7 rfl (by kernel_rfl) (by kernel_rfl) (isz (n := 48) (by kernel_rfl) (by kernel_rfl)) (eqsz (n := 48) (by kernel_rfl) (by kernel_rfl)) (by kernel_rfl)) fun W8 p8 r11_8 => ?_
  have x8 : Ext w W8 := Puts.ext p8 x7 b11
  refine seq_val (.bool false) 6 rfl (by kernel_rfl) (by kernel_rfl) ?_
  refine seq_nil ?_
  refine hK10 _ _ ?_
  try clear hK10 K10
  refine wp_seq_k fun K12 hK12 => ?_
  refine any_region 20 [⟨none, [(4, none)]⟩, ⟨none, [(6, none)]⟩, ⟨none, [(19, some 0), (20, some 1)]⟩, ⟨none, [(21, some 2)]⟩, ⟨some (22, true), [(3, none), (22, some 3)]⟩, ⟨some (22, true), [(23, some 4), (22, some 3)]⟩, ⟨some (22, true), [(5, none), (22, some 3)]⟩, ⟨some (22, true), [(25, some 6), (22, some 3)]⟩, ⟨some (22, true), [(24, some 5), (26, some 7), (22, some 3)]⟩, ⟨none, [(22, some 3), (27, some 8)]⟩, ⟨none, [(28, some 9)]⟩, ⟨some (29, true), [(4, none), (29, some 10)]⟩, ⟨some (29, true), [(30, some 11), (29, some 10)]⟩, ⟨some (29, true), [(31, some 12), (29, some 10)]⟩, ⟨some (32, false), [(3, none), (32, some 13)]⟩, ⟨some (32, false), [(33, some 14), (32, some 13)]⟩, ⟨some (32, false), [(1, none), (32, some 13)]⟩, ⟨some (32, false), [(34, some 15), (35, some 16), (32, some 13)]⟩, ⟨some (29, true), [(32, some 13), (36, some 17), (29, some 10)]⟩, ⟨none, [(29, some 10), (37, some 18)]⟩] (by kernel_rfl) (by kernel_rfl) fun F hF => ?_
  refine any_val (.bool false) (by kernel_rfl) (by kernel_rfl) (fun W => by kernel_rfl) ?_
  refine any_val (.bool false) (by kernel_rfl) (by kernel_rfl) (fun W => by kernel_rfl) ?_
  refine any_val (.bool true) (by kernel_rfl) (by kernel_rfl) (fun W => by kernel_rfl) ?_
  refine any_val (.bool true) (by kernel_rfl) (by kernel_rfl) (fun W => by kernel_rfl) ?_
  have r9_6 := (row_ext r9_5 e6)
  have r9_8 := (Puts.row p8 (row_ext (row_ext r9_5 e6) e7) (ne_of_old r9_6 l11))
  refine any_read (.agg (cat [numA (xK xs), numA (lK xs)])) (by kernel_rfl) (by kernel_rfl) (fun W hR => (run_load_row 30 _ g9 30 _ _ (row_ext (row_ext r9_8 (ext_drew _)) hR) rfl (by kernel_rfl) (by kernel_rfl) (isz (n := 8) (by kernel_rfl) (by kernel_rfl)))) ?_
  refine any_call (.agg (ints .u8 (encK xs))) 13 #[.agg (cat [numA (xK xs), numA (lK xs)])] (by kernel_rfl) (by kernel_rfl) (fun W => by kernel_rfl) (fun W hR => (pbytesK xs) W) ?_
  refine any_read (.agg (cat [ints .i64 (lims (xK xs)), ints .i64 (lims (zK xs)), ints .i64 (lims (1))])) (by kernel_rfl) (by kernel_rfl) (fun W hR => (run_load_row 36 _ g11 36 _ _ (row_ext (row_ext r11_8 (ext_drew _)) hR) rfl (by kernel_rfl) (by kernel_rfl) (isz (n := 48) (by kernel_rfl) (by kernel_rfl)))) ?_
  refine any_call (.agg (ints .u8 (encK xs))) 14 #[.agg (cat [ints .i64 (lims (xK xs)), ints .i64 (lims (zK xs)), ints .i64 (lims (1))])] (by kernel_rfl) (by kernel_rfl) (fun W => by kernel_rfl) (fun W hR => (rbytesK xs) W) ?_
  refine any_val (.bool true) (by kernel_rfl) (by kernel_rfl) (fun W => (run_eql_agg 23 _ _ _ _ _ (.bool true) rfl (by kernel_rfl) (by kernel_rfl) (by kernel_rfl) (key_eql (encK xs) (encK xs) true (enc_len _ _) (enc_len _ _) (decide_eq_true rfl) _))) ?_
  refine any_val (.bool true) (by kernel_rfl) (by kernel_rfl) (fun W => by kernel_rfl) ?_
  refine any_val (.bool true) (by kernel_rfl) (by kernel_rfl) (fun W => by kernel_rfl) ?_
  refine any_val (.bool false) (by kernel_rfl) (by kernel_rfl) (fun W => by kernel_rfl) ?_
  refine any_val (.bool true) (by kernel_rfl) (by kernel_rfl) (fun W => by kernel_rfl) ?_
  refine any_val (.bool true) (by kernel_rfl) (by kernel_rfl) (fun W => by kernel_rfl) ?_
  refine any_skip (by kernel_rfl) (by kernel_rfl) ?_
  refine any_skip (by kernel_rfl) (by kernel_rfl) ?_
  refine any_skip (by kernel_rfl) (by kernel_rfl) ?_
  refine any_skip (by kernel_rfl) (by kernel_rfl) ?_
  refine any_val (.bool true) (by kernel_rfl) (by kernel_rfl) (fun W => by kernel_rfl) ?_
  refine any_val (.bool true) (by kernel_rfl) (by kernel_rfl) (fun W => by kernel_rfl) ?_
  refine steps_nil (hF _ (by kernel_rfl) fun W9 e9 => ?_)
  simp only [ups, up, Kn.val, List.take_succ_cons, List.take_zero, List.drop_succ_cons, List.drop_zero, List.nil_append, List.cons_append]
  clear hF
  have x9 : Ext w W9 := Ext.tr x8 e9
  refine seq_val (.bool true) 2 rfl (by kernel_rfl) (by kernel_rfl) ?_
  refine seq_nil ?_
  refine hK12 _ _ ?_
  try clear hK12 K12
  refine wp_ret ?_
  exact (show bodyPost _ _ _ .ret _ _ from ret1 (.bool true) rfl (res_tmp (by kernel_rfl)) ⟨rfl, x9⟩)

end Go.Proofs.YtaojnmjmmfdfjaaDoor.Field
