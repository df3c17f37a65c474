/- Points: the law of multiples. -/
import Derived.Test.YtaojnmjmmfdfjaaDoorPtPlain
import Derived.Test.YtaojnmjmmfdfjaaDoorPtLawFrom
namespace Go.Proofs.YtaojnmjmmfdfjaaDoor.Field
open Go Go.RowKit
open Go.Proofs.YtaojnmjmmfdfjaaDoor.Rely Go.Proofs.YtaojnmjmmfdfjaaDoor.Auto.V
open Go.Proofs.YtaojnmjmmfdfjaaDoor.Auto hiding isT tailT readsT storesT okT TailRun tailsOf pureOk stepsT stepsT_found InvT rem Phase isT_some mem_tails mem_rem rem_nodup list_false rem_sorted rem_set filter_ne holdsC wpAny_of_T t_store t_op t_skip t_val t_read t_call t_new t_nil TailEnv tail_env te_nil te_store any_regionT
set_option linter.unusedVariables false

set_option maxHeartbeats 4000000 in
theorem lawTimes (a b : List Int) (ha : a.length = 32) (hab : AreBytes a) (hb : b.length = 32) (hbb : AreBytes b) (w : World) (tB : TypeId) (hB : w.heap[0]? = some (.cells (ints .u8 bendL) tB)) (tX : TypeId) (hX : w.heap[1]? = some (.cells (ints .u8 baseXL) tX)) (tY : TypeId) (hY : w.heap[2]? = some (.cells (ints .u8 baseYL) tY)) : Calls Tryd.prog 5 #[.agg (ints .u8 (a)), .agg (ints .u8 (b))] w (Ret w (.bool true)) := by
  refine enter 35 [(0, .agg (ints .u8 (a))), (1, .agg (ints .u8 (b)))] Tryd.func5 rfl rfl (by kernel_rfl) rfl ?_
  refine wp_seq_k fun K4 hK4 => ?_
  refine region_lit ?_
  refine seq_alloc (ints .u8 (a)) 23 2 rfl (by kernel_rfl) (by kernel_rfl) fun g5 W1 l5 e1 r5_1 => ?_
  have x1 : Ext w W1 := Ext.tr (Rely.Ext.refl w) e1
  have b5 : w.heap.size ≤ g5 := Nat.le_trans (Rely.Ext.refl w).size l5
  refine seq_alloc (ints .u8 (b)) 23 3 rfl (by kernel_rfl) (by kernel_rfl) fun g6 W2 l6 e2 r6_2 => ?_
  have x2 : Ext w W2 := Ext.tr x1 e2
  have b6 : w.heap.size ≤ g6 := Nat.le_trans x1.size l6
  refine seq_val (.bool false) 4 rfl (by kernel_rfl) (by kernel_rfl) ?_
  refine seq_nil ?_
  refine hK4 _ _ ?_
  try clear hK4 K4
  refine wp_seq_k fun K7 hK7 => ?_
  refine wp_seq_k fun K8 hK8 => ?_
  refine region_lit ?_
  have r1_2 := (row_ext (row_ext hB e1) e2)
  have r2_2 := (row_ext (row_ext hX e1) e2)
  have r3_2 := (row_ext (row_ext hY e1) e2)
  refine seq_call (.bool true) 10 #[] 9 rfl (by kernel_rfl) (by kernel_rfl) (alive7 _ tB r1_2 tX r2_2 tY r3_2) fun W3 e3 => ?_
  have x3 : Ext w W3 := Ext.tr x2 e3
  refine seq_val (.bool false) 10 rfl (by kernel_rfl) (by kernel_rfl) ?_
  refine seq_nil ?_
  refine hK8 _ _ ?_
  try clear hK8 K8
  refine cond_false (by kernel_rfl) ?_
  refine wp_skip ?_
  refine hK7 _ _ ?_
  try clear hK7 K7
  refine wp_seq_k fun K9 hK9 => ?_
  refine region_lit ?_
  have r5_3 := (row_ext (row_ext r5_1 e2) e3)
  refine seq_val (.agg (ints .u8 (a))) 12 rfl (by kernel_rfl) (run_load_row 23 _ g5 23 _ _ r5_3 rfl (by kernel_rfl) (by kernel_rfl) (isz (n := 32) (by kernel_rfl) ((ints_size _ _).trans ha))) ?_
  have r1_3 := (row_ext r1_2 e3)
  refine seq_call (.tuple #[.agg (cat [numA (xK a), numA (lK a)]), .bool (okK a)]) 11 #[.agg (ints .u8 (a))] 13 rfl (by kernel_rfl) (by kernel_rfl) (pfromC a ha hab _ tB r1_3) fun W4 e4 => ?_
  have x4 : Ext w W4 := Ext.tr x3 e4
  refine seq_val (.tuple #[.agg (cat [numA (xK a), numA (lK a)]), .bool (okK a)]) 11 rfl (by kernel_rfl) (by kernel_rfl) ?_
  refine seq_val (.agg (cat [numA (xK a), numA (lK a)])) 14 rfl (by kernel_rfl) (by kernel_rfl) ?_
  refine seq_val (.bool (okK a)) 15 rfl (by kernel_rfl) (by kernel_rfl) ?_
  refine seq_alloc (cat [numA (0), numA (0)]) 30 5 rfl (by kernel_rfl) (by kernel_rfl) fun g10 W5 l10 e5 r10_5 => ?_
  have x5 : Ext w W5 := Ext.tr x4 e5
  have b10 : w.heap.size ≤ g10 := Nat.le_trans x4.size l10
  refine seq_store g10 _ (cat [numA (xK a), numA (lK a)]) 30 r10_5 rfl (by kernel_rfl) (run_store_row 30 _ _ g10 30 _ _ r10_5 rfl (by kernel_rfl) (by kernel_rfl) (isz (n := 8) (by kernel_rfl) (by kernel_rfl)) (eqsz (n := 8) (by kernel_rfl) (by kernel_rfl)) (by kernel_rfl)) fun W6 p6 r10_6 => ?_
  have x6 : Ext w W6 := Puts.ext p6 x5 b10
  refine seq_val (.bool (okK a)) 6 rfl (by kernel_rfl) (by kernel_rfl) ?_
  refine seq_nil ?_
  refine hK9 _ _ ?_
  try clear hK9 K9
  refine wp_seq_k fun K11 hK11 => ?_
  refine region_lit ?_
  have r5_4 := (row_ext r5_3 e4)
  have r5_6 := (Puts.row p6 (row_ext (row_ext r5_3 e4) e5) (ne_of_old r5_4 l10))
  refine seq_val (.agg (ints .u8 (a))) 17 rfl (by kernel_rfl) (run_load_row 23 _ g5 23 _ _ r5_6 rfl (by kernel_rfl) (by kernel_rfl) (isz (n := 32) (by kernel_rfl) ((ints_size _ _).trans ha))) ?_
  refine seq_call (.tuple #[.agg (cat [ints .i64 (lims (xK a)), ints .i64 (lims (zK a)), ints .i64 (lims (1))]), .bool (okK a)]) 12 #[.agg (ints .u8 (a))] 18 rfl (by kernel_rfl) (by kernel_rfl) ((rfromC a ha hab) _) fun W7 e7 => ?_
  have x7 : Ext w W7 := Ext.tr x6 e7
  refine seq_val (.tuple #[.agg (cat [ints .i64 (lims (xK a)), ints .i64 (lims (zK a)), ints .i64 (lims (1))]), .bool (okK a)]) 16 rfl (by kernel_rfl) (by kernel_rfl) ?_
  refine seq_val (.agg (cat [ints .i64 (lims (xK a)), ints .i64 (lims (zK a)), ints .i64 (lims (1))])) 19 rfl (by kernel_rfl) (by kernel_rfl) ?_
  refine seq_val (.bool (okK a)) 20 rfl (by kernel_rfl) (by kernel_rfl) ?_
  refine seq_alloc (cat [ints .i64 (lims (0)), ints .i64 (lims (0)), ints .i64 (lims (0))]) 36 7 rfl (by kernel_rfl) (by kernel_rfl) fun g12 W8 l12 e8 r12_8 => ?_
  have x8 : Ext w W8 := Ext.tr x7 e8
  have b12 : w.heap.size ≤ g12 := Nat.le_trans x7.size l12
  refine seq_store g12 _ (cat [ints .i64 (lims (xK a)), ints .i64 (lims (zK a)), ints .i64 (lims (1))]) 36 r12_8 rfl (by kernel_rfl) (run_store_row 36 _ _ g12 36 _ _ r12_8 rfl (by kernel_rfl) (by kernel_rfl) (isz (n := 48) (by kernel_rfl) (by kernel_rfl)) (eqsz (n := 48) (by kernel_rfl) (by kernel_rfl)) (by kernel_rfl)) fun W9 p9 r12_9 => ?_
  have x9 : Ext w W9 := Puts.ext p9 x8 b12
  refine seq_val (.bool (okK a)) 8 rfl (by kernel_rfl) (by kernel_rfl) ?_
  refine seq_nil ?_
  refine hK11 _ _ ?_
  try clear hK11 K11
  refine wp_seq_k fun K13 hK13 => ?_
  refine any_region 14 [⟨none, [(6, none)]⟩, ⟨none, [(8, none)]⟩, ⟨none, [(21, some 0), (22, some 1)]⟩, ⟨none, [(23, some 2)]⟩, ⟨some (24, true), [(5, none), (24, some 3)]⟩, ⟨some (24, true), [(3, none), (24, some 3)]⟩, ⟨some (24, true), [(25, some 4), (26, some 5), (24, some 3)]⟩, ⟨some (24, true), [(27, some 6), (24, some 3)]⟩, ⟨some (24, true), [(7, none), (24, some 3)]⟩, ⟨some (24, true), [(3, none), (24, some 3)]⟩, ⟨some (24, true), [(29, some 8), (30, some 9), (24, some 3)]⟩, ⟨some (24, true), [(31, some 10), (24, some 3)]⟩, ⟨some (24, true), [(28, some 7), (32, some 11), (24, some 3)]⟩, ⟨none, [(24, some 3), (33, some 12)]⟩] (by kernel_rfl) (by kernel_rfl) fun F hF => ?_
  refine any_val (.bool (okK a)) (by kernel_rfl) (by kernel_rfl) (fun W => by kernel_rfl) ?_
  refine any_val (.bool (okK a)) (by kernel_rfl) (by kernel_rfl) (fun W => by kernel_rfl) ?_
  refine any_val (.bool true) (by kernel_rfl) (by kernel_rfl) (fun W => (run_eq (u := .bool (okK a == okK a)) (by kernel_rfl) (congrArg Value.bool (beq_self_eq_true _)))) ?_
  refine any_val (.bool true) (by kernel_rfl) (by kernel_rfl) (fun W => by kernel_rfl) ?_
  have r10_7 := (row_ext r10_6 e7)
  have r10_9 := (Puts.row p9 (row_ext (row_ext r10_6 e7) e8) (ne_of_old r10_7 l12))
  refine any_read (.agg (cat [numA (xK a), numA (lK a)])) (by kernel_rfl) (by kernel_rfl) (fun W hR => (run_load_row 30 _ g10 30 _ _ (row_ext (row_ext r10_9 (ext_drew _)) hR) rfl (by kernel_rfl) (by kernel_rfl) (isz (n := 8) (by kernel_rfl) (by kernel_rfl)))) ?_
  have r6_4 := (row_ext (row_ext r6_2 e3) e4)
  have r6_7 := (row_ext (Puts.row p6 (row_ext r6_4 e5) (ne_of_old r6_4 l10)) e7)
  have r6_9 := (Puts.row p9 (row_ext (row_ext (Puts.row p6 (row_ext (row_ext (row_ext r6_2 e3) e4) e5) (ne_of_old r6_4 l10)) e7) e8) (ne_of_old r6_7 l12))
  refine any_read (.agg (ints .u8 (b))) (by kernel_rfl) (by kernel_rfl) (fun W hR => (run_load_row 23 _ g6 23 _ _ (row_ext (row_ext r6_9 (ext_drew _)) hR) rfl (by kernel_rfl) (by kernel_rfl) (isz (n := 32) (by kernel_rfl) ((ints_size _ _).trans hb)))) ?_
  have r1_4 := (row_ext r1_3 e4)
  have r1_7 := (row_ext (Puts.row p6 (row_ext r1_4 e5) (ne_of_old r1_4 l10)) e7)
  have r1_9 := (Puts.row p9 (row_ext (row_ext (Puts.row p6 (row_ext (row_ext r1_3 e4) e5) (ne_of_old r1_4 l10)) e7) e8) (ne_of_old r1_7 l12))
  refine any_call (.agg (cat [numA ((mulP a b).1), numA (((mulP a b).2 - 1) % p)])) 20 #[.agg (cat [numA (xK a), numA (lK a)]), .agg (ints .u8 (b))] (by kernel_rfl) (by kernel_rfl) (fun W => by kernel_rfl) (fun W hR => ptTimesK a b hb hbb W tB (row_ext (row_ext r1_9 (ext_drew _)) hR)) ?_
  refine any_call (.agg (ints .u8 (encP (mulP a b)))) 13 #[.agg (cat [numA ((mulP a b).1), numA (((mulP a b).2 - 1) % p)])] (by kernel_rfl) (by kernel_rfl) (fun W => by kernel_rfl) (fun W hR => (ptBytes (mulP_on a b)) W) ?_
  refine any_read (.agg (cat [ints .i64 (lims (xK a)), ints .i64 (lims (zK a)), ints .i64 (lims (1))])) (by kernel_rfl) (by kernel_rfl) (fun W hR => (run_load_row 36 _ g12 36 _ _ (row_ext (row_ext r12_9 (ext_drew _)) hR) rfl (by kernel_rfl) (by kernel_rfl) (isz (n := 48) (by kernel_rfl) (by kernel_rfl)))) ?_
  refine any_read (.agg (ints .u8 (b))) (by kernel_rfl) (by kernel_rfl) (fun W hR => (run_load_row 23 _ g6 23 _ _ (row_ext (row_ext r6_9 (ext_drew _)) hR) rfl (by kernel_rfl) (by kernel_rfl) (isz (n := 32) (by kernel_rfl) ((ints_size _ _).trans hb)))) ?_
  refine any_call (.agg (cat [ints .i64 (lims ((rruns (xK a, zK a, 1) Z0 b 0).1)), ints .i64 (lims ((rruns (xK a, zK a, 1) Z0 b 0).2.1)), ints .i64 (lims ((rruns (xK a, zK a, 1) Z0 b 0).2.2))])) 21 #[.agg (cat [ints .i64 (lims (xK a)), ints .i64 (lims (zK a)), ints .i64 (lims (1))]), .agg (ints .u8 (b))] (by kernel_rfl) (by kernel_rfl) (fun W => by kernel_rfl) (fun W hR => (rTimesK a b hb hbb) W) ?_
  refine any_call (.agg (ints .u8 (encP (mulP a b)))) 14 #[.agg (cat [ints .i64 (lims ((rruns (xK a, zK a, 1) Z0 b 0).1)), ints .i64 (lims ((rruns (xK a, zK a, 1) Z0 b 0).2.1)), ints .i64 (lims ((rruns (xK a, zK a, 1) Z0 b 0).2.2))])] (by kernel_rfl) (by kernel_rfl) (fun W => by kernel_rfl) (fun W hR => (rBytesK a b) W) ?_
  refine any_val (.bool true) (by kernel_rfl) (by kernel_rfl) (fun W => (run_eql_agg 23 _ _ _ _ _ (.bool true) rfl (by kernel_rfl) (by kernel_rfl) (by kernel_rfl) (key_eql (encP (mulP a b)) (encP (mulP a b)) true (encP_len _) (encP_len _) (decide_eq_true rfl) _))) ?_
  refine any_val (.bool true) (by kernel_rfl) (by kernel_rfl) (fun W => by kernel_rfl) ?_
  refine steps_nil (hF _ (by kernel_rfl) fun W10 e10 => ?_)
  simp only [ups, up, Kn.val, List.take_succ_cons, List.take_zero, List.drop_succ_cons, List.drop_zero, List.nil_append, List.cons_append]
  clear hF
  have x10 : Ext w W10 := Ext.tr x9 e10
  refine seq_val (.bool true) 4 rfl (by kernel_rfl) (by kernel_rfl) ?_
  refine seq_nil ?_
  refine hK13 _ _ ?_
  try clear hK13 K13
  refine wp_ret ?_
  exact (show bodyPost _ _ _ .ret _ _ from ret1 (.bool true) rfl (res_tmp (by kernel_rfl)) ⟨rfl, x10⟩)

end Go.Proofs.YtaojnmjmmfdfjaaDoor.Field
