/- Points: the law of the group. -/
import Derived.Test.YtaojnmjmmfdfjaaDoorPtOrder
import Derived.Test.YtaojnmjmmfdfjaaDoorPtLawFrom
namespace Go.Proofs.YtaojnmjmmfdfjaaDoor.Field
open Go Go.RowKit
open Go.Proofs.YtaojnmjmmfdfjaaDoor.Rely Go.Proofs.YtaojnmjmmfdfjaaDoor.Auto.V
open Go.Proofs.YtaojnmjmmfdfjaaDoor.Auto hiding isT tailT readsT storesT okT TailRun tailsOf pureOk stepsT stepsT_found InvT rem Phase isT_some mem_tails mem_rem rem_nodup list_false rem_sorted rem_set filter_ne holdsC wpAny_of_T t_store t_op t_skip t_val t_read t_call t_new t_nil TailEnv tail_env te_nil te_store any_regionT
set_option linter.unusedVariables false

theorem orderC (w : World) : Calls Tryd.prog 24 #[] w (Ret w (.agg (ints .u8 ordBL))) := by
  refine enter 2 [] Tryd.func24 rfl rfl (by kernel_rfl) rfl ?_
  refine wp_seq_k fun K1 hK1 => ?_
  refine region_lit ?_
  refine seq_alloc (ints .u8 (List.replicate 32 0)) 23 0 rfl (by kernel_rfl) (by kernel_rfl) fun g2 W1 l2 e1 r2_1 => ?_
  have x1 : Ext w W1 := Ext.tr (Rely.Ext.refl w) e1
  have b2 : w.heap.size ≤ g2 := Nat.le_trans (Rely.Ext.refl w).size l2
  refine seq_nil ?_
  refine hK1 _ _ ?_
  try clear hK1 K1
  refine wp_seq_k fun K3 hK3 => ?_
  refine region_lit ?_
  refine seq_val (.agg (ints .u8 (ordBL))) 1 rfl (by kernel_rfl) (by kernel_rfl) ?_
  refine seq_store g2 _ (ints .u8 (ordBL)) 23 r2_1 rfl (by kernel_rfl) (run_store_row 23 _ _ g2 23 _ _ r2_1 rfl (by kernel_rfl) (by kernel_rfl) (isz (n := 32) (by kernel_rfl) ((ints_size _ _).trans ordBL_len)) (eqsz (n := 32) ((ints_size _ _).trans zlen) ((ints_size _ _).trans ordBL_len)) (ints_one _ _)) fun W2 p2 r2_2 => ?_
  have x2 : Ext w W2 := Puts.ext p2 x1 b2
  refine seq_nil ?_
  refine hK3 _ _ ?_
  try clear hK3 K3
  refine wp_ret ?_
  exact (show bodyPost _ _ _ .ret _ _ from ret1 (.agg (ints .u8 (ordBL))) rfl (res_cell g2 23 _ r2_2 (by kernel_rfl) (by kernel_rfl) (isz (n := 32) (by kernel_rfl) ((ints_size _ _).trans ordBL_len))) ⟨rfl, x2⟩)
set_option maxHeartbeats 4000000 in
theorem lawGroup (za zb zc : List Int) (ha : za.length = 32) (hab : AreBytes za) (hb : zb.length = 32) (hbb : AreBytes zb) (hc : zc.length = 32) (hcb : AreBytes zc) (w : World) (tB : TypeId) (hB : w.heap[0]? = some (.cells (ints .u8 bendL) tB)) (tX : TypeId) (hX : w.heap[1]? = some (.cells (ints .u8 baseXL) tX)) (tY : TypeId) (hY : w.heap[2]? = some (.cells (ints .u8 baseYL) tY)) (tO : TypeId) (hO : w.heap[3]? = some (.cells orderA tO)) : Calls Tryd.prog 6 #[.agg (ints .u8 (za)), .agg (ints .u8 (zb)), .agg (ints .u8 (zc))] w (Ret w (.bool true)) := by
  refine enter 95 [(0, .agg (ints .u8 (za))), (1, .agg (ints .u8 (zb))), (2, .agg (ints .u8 (zc)))] Tryd.func6 rfl rfl (by kernel_rfl) rfl ?_
  refine wp_seq_k fun K5 hK5 => ?_
  refine region_lit ?_
  refine seq_alloc (ints .u8 (za)) 23 3 rfl (by kernel_rfl) (by kernel_rfl) fun g6 W1 l6 e1 r6_1 => ?_
  have x1 : Ext w W1 := Ext.tr (Rely.Ext.refl w) e1
  have b6 : w.heap.size ≤ g6 := Nat.le_trans (Rely.Ext.refl w).size l6
  refine seq_alloc (ints .u8 (zb)) 23 4 rfl (by kernel_rfl) (by kernel_rfl) fun g7 W2 l7 e2 r7_2 => ?_
  have x2 : Ext w W2 := Ext.tr x1 e2
  have b7 : w.heap.size ≤ g7 := Nat.le_trans x1.size l7
  refine seq_alloc (ints .u8 (zc)) 23 5 rfl (by kernel_rfl) (by kernel_rfl) fun g8 W3 l8 e3 r8_3 => ?_
  have x3 : Ext w W3 := Ext.tr x2 e3
  have b8 : w.heap.size ≤ g8 := Nat.le_trans x2.size l8
  refine seq_val (.bool false) 6 rfl (by kernel_rfl) (by kernel_rfl) ?_
  refine seq_nil ?_
  refine hK5 _ _ ?_
  try clear hK5 K5
  refine wp_seq_k fun K9 hK9 => ?_
  refine wp_seq_k fun K10 hK10 => ?_
  refine region_lit ?_
  have r1_3 := (row_ext (row_ext (row_ext hB e1) e2) e3)
  have r2_3 := (row_ext (row_ext (row_ext hX e1) e2) e3)
  have r3_3 := (row_ext (row_ext (row_ext hY e1) e2) e3)
  refine seq_call (.bool true) 10 #[] 13 rfl (by kernel_rfl) (by kernel_rfl) (alive7 _ tB r1_3 tX r2_3 tY r3_3) fun W4 e4 => ?_
  have x4 : Ext w W4 := Ext.tr x3 e4
  refine seq_val (.bool false) 14 rfl (by kernel_rfl) (by kernel_rfl) ?_
  refine seq_nil ?_
  refine hK10 _ _ ?_
  try clear hK10 K10
  refine cond_false (by kernel_rfl) ?_
  refine wp_skip ?_
  refine hK9 _ _ ?_
  try clear hK9 K9
  refine wp_seq_k fun K11 hK11 => ?_
  refine region_lit ?_
  have r2_4 := (row_ext r2_3 e4)
  have r3_4 := (row_ext r3_3 e4)
  refine seq_call (.agg (cat [numA ((BP).1), numA (((BP).2 - 1) % p)])) 22 #[] 15 rfl (by kernel_rfl) (by kernel_rfl) (ptBase _ tX r2_4 tY r3_4) fun W5 e5 => ?_
  have x5 : Ext w W5 := Ext.tr x4 e5
  refine seq_alloc (cat [numA (0), numA (0)]) 30 7 rfl (by kernel_rfl) (by kernel_rfl) fun g12 W6 l12 e6 r12_6 => ?_
  have x6 : Ext w W6 := Ext.tr x5 e6
  have b12 : w.heap.size ≤ g12 := Nat.le_trans x5.size l12
  refine seq_store g12 _ (cat [numA ((BP).1), numA (((BP).2 - 1) % p)]) 30 r12_6 rfl (by kernel_rfl) (run_store_row 30 _ _ g12 30 _ _ r12_6 rfl (by kernel_rfl) (by kernel_rfl) (isz (n := 8) (by kernel_rfl) (by kernel_rfl)) (eqsz (n := 8) (by kernel_rfl) (by kernel_rfl)) (by kernel_rfl)) fun W7 p7 r12_7 => ?_
  have x7 : Ext w W7 := Puts.ext p7 x6 b12
  refine seq_nil ?_
  refine hK11 _ _ ?_
  try clear hK11 K11
  refine wp_seq_k fun K13 hK13 => ?_
  refine any_regionD 12 [⟨none, [(7, none)]⟩, ⟨none, [(3, none)]⟩, ⟨none, [(16, some 0), (17, some 1)]⟩, ⟨none, [(7, none)]⟩, ⟨none, [(4, none)]⟩, ⟨none, [(19, some 3), (20, some 4)]⟩, ⟨none, [(7, none)]⟩, ⟨none, [(5, none)]⟩, ⟨none, [(22, some 6), (23, some 7)]⟩, ⟨none, []⟩, ⟨none, []⟩, ⟨none, []⟩] [9, 10, 11] (by kernel_rfl) (by kernel_rfl) (by kernel_rfl) fun F hF => ?_
  refine any_read (.agg (cat [numA ((BP).1), numA (((BP).2 - 1) % p)])) (by kernel_rfl) (by kernel_rfl) (fun W hR => (run_load_row 30 _ g12 30 _ _ (row_ext (row_ext r12_7 (ext_drew _)) hR) rfl (by kernel_rfl) (by kernel_rfl) (isz (n := 8) (by kernel_rfl) (by kernel_rfl)))) ?_
  have r6_5 := (row_ext (row_ext (row_ext (row_ext r6_1 e2) e3) e4) e5)
  have r6_7 := (Puts.row p7 (row_ext (row_ext (row_ext (row_ext (row_ext r6_1 e2) e3) e4) e5) e6) (ne_of_old r6_5 l12))
  refine any_read (.agg (ints .u8 (za))) (by kernel_rfl) (by kernel_rfl) (fun W hR => (run_load_row 23 _ g6 23 _ _ (row_ext (row_ext r6_7 (ext_drew _)) hR) rfl (by kernel_rfl) (by kernel_rfl) (isz (n := 32) (by kernel_rfl) ((ints_size _ _).trans ha)))) ?_
  have r1_5 := (row_ext (row_ext r1_3 e4) e5)
  have r1_7 := (Puts.row p7 (row_ext (row_ext (row_ext r1_3 e4) e5) e6) (ne_of_old r1_5 l12))
  refine any_call (.agg (cat [numA ((pa za).1), numA (((pa za).2 - 1) % p)])) 20 #[.agg (cat [numA ((BP).1), numA (((BP).2 - 1) % p)]), .agg (ints .u8 (za))] (by kernel_rfl) (by kernel_rfl) (fun W => by kernel_rfl) (fun W hR => ptTimes BP_on za ha hab W tB (row_ext (row_ext r1_7 (ext_drew _)) hR)) ?_
  refine any_read (.agg (cat [numA ((BP).1), numA (((BP).2 - 1) % p)])) (by kernel_rfl) (by kernel_rfl) (fun W hR => (run_load_row 30 _ g12 30 _ _ (row_ext (row_ext r12_7 (ext_drew _)) hR) rfl (by kernel_rfl) (by kernel_rfl) (isz (n := 8) (by kernel_rfl) (by kernel_rfl)))) ?_
  have r7_5 := (row_ext (row_ext (row_ext r7_2 e3) e4) e5)
  have r7_7 := (Puts.row p7 (row_ext (row_ext (row_ext (row_ext r7_2 e3) e4) e5) e6) (ne_of_old r7_5 l12))
  refine any_read (.agg (ints .u8 (zb))) (by kernel_rfl) (by kernel_rfl) (fun W hR => (run_load_row 23 _ g7 23 _ _ (row_ext (row_ext r7_7 (ext_drew _)) hR) rfl (by kernel_rfl) (by kernel_rfl) (isz (n := 32) (by kernel_rfl) ((ints_size _ _).trans hb)))) ?_
  refine any_call (.agg (cat [numA ((pa zb).1), numA (((pa zb).2 - 1) % p)])) 20 #[.agg (cat [numA ((BP).1), numA (((BP).2 - 1) % p)]), .agg (ints .u8 (zb))] (by kernel_rfl) (by kernel_rfl) (fun W => by kernel_rfl) (fun W hR => ptTimes BP_on zb hb hbb W tB (row_ext (row_ext r1_7 (ext_drew _)) hR)) ?_
  refine any_read (.agg (cat [numA ((BP).1), numA (((BP).2 - 1) % p)])) (by kernel_rfl) (by kernel_rfl) (fun W hR => (run_load_row 30 _ g12 30 _ _ (row_ext (row_ext r12_7 (ext_drew _)) hR) rfl (by kernel_rfl) (by kernel_rfl) (isz (n := 8) (by kernel_rfl) (by kernel_rfl)))) ?_
  have r8_5 := (row_ext (row_ext r8_3 e4) e5)
  have r8_7 := (Puts.row p7 (row_ext (row_ext (row_ext r8_3 e4) e5) e6) (ne_of_old r8_5 l12))
  refine any_read (.agg (ints .u8 (zc))) (by kernel_rfl) (by kernel_rfl) (fun W hR => (run_load_row 23 _ g8 23 _ _ (row_ext (row_ext r8_7 (ext_drew _)) hR) rfl (by kernel_rfl) (by kernel_rfl) (isz (n := 32) (by kernel_rfl) ((ints_size _ _).trans hc)))) ?_
  refine any_call (.agg (cat [numA ((pa zc).1), numA (((pa zc).2 - 1) % p)])) 20 #[.agg (cat [numA ((BP).1), numA (((BP).2 - 1) % p)]), .agg (ints .u8 (zc))] (by kernel_rfl) (by kernel_rfl) (fun W => by kernel_rfl) (fun W hR => ptTimes BP_on zc hc hcb W tB (row_ext (row_ext r1_7 (ext_drew _)) hR)) ?_
  refine any_new (cat [numA (0), numA (0)]) 30 (by kernel_rfl) (Nat.le_refl _) (by kernel_rfl) (fun W => by kernel_rfl) ?_
  refine any_new (cat [numA (0), numA (0)]) 30 (by kernel_rfl) (Nat.le_refl _) (by kernel_rfl) (fun W => by kernel_rfl) ?_
  refine any_new (cat [numA (0), numA (0)]) 30 (by kernel_rfl) (Nat.le_refl _) (by kernel_rfl) (fun W => by kernel_rfl) ?_
  refine steps_nil (hF _ (by kernel_rfl) fun W8 e8 => ?_)
  simp only [fins, up, List.take_succ_cons, List.take_zero, List.drop_succ_cons, List.drop_zero, List.nil_append, List.cons_append]
  intro g14 l14 r14_8 n14 g15 l15 r15_8 n15 g16 l16 r16_8 n16
  have b14 : w.heap.size ≤ g14 := Nat.le_trans x7.size l14
  have b15 : w.heap.size ≤ g15 := Nat.le_trans x7.size l15
  have n15_14 : g15 ≠ g14 := n15 _ (by simp)
  have b16 : w.heap.size ≤ g16 := Nat.le_trans x7.size l16
  have n16_14 : g16 ≠ g14 := n16 _ (by simp)
  have n16_15 : g16 ≠ g15 := n16 _ (by simp)
  clear hF
  have x8 : Ext w W8 := Ext.tr x7 e8
  refine seq_store g14 _ (cat [numA ((pa za).1), numA (((pa za).2 - 1) % p)]) 30 r14_8 rfl (by kernel_rfl) (run_store_row 30 _ _ g14 30 _ _ r14_8 rfl (by kernel_rfl) (by kernel_rfl) (isz (n := 8) (by kernel_rfl) (by kernel_rfl)) (eqsz (n := 8) (by kernel_rfl) (by kernel_rfl)) (by kernel_rfl)) fun W9 p9 r14_9 => ?_
  have x9 : Ext w W9 := Puts.ext p9 x8 b14
  have r15_9 := (Puts.row p9 r15_8 n15_14)
  refine seq_store g15 _ (cat [numA ((pa zb).1), numA (((pa zb).2 - 1) % p)]) 30 r15_9 rfl (by kernel_rfl) (run_store_row 30 _ _ g15 30 _ _ r15_9 rfl (by kernel_rfl) (by kernel_rfl) (isz (n := 8) (by kernel_rfl) (by kernel_rfl)) (eqsz (n := 8) (by kernel_rfl) (by kernel_rfl)) (by kernel_rfl)) fun W10 p10 r15_10 => ?_
  have x10 : Ext w W10 := Puts.ext p10 x9 b15
  have r16_10 := (Puts.row p10 (Puts.row p9 r16_8 n16_14) n16_15)
  refine seq_store g16 _ (cat [numA ((pa zc).1), numA (((pa zc).2 - 1) % p)]) 30 r16_10 rfl (by kernel_rfl) (run_store_row 30 _ _ g16 30 _ _ r16_10 rfl (by kernel_rfl) (by kernel_rfl) (isz (n := 8) (by kernel_rfl) (by kernel_rfl)) (eqsz (n := 8) (by kernel_rfl) (by kernel_rfl)) (by kernel_rfl)) fun W11 p11 r16_11 => ?_
  have x11 : Ext w W11 := Puts.ext p11 x10 b16
  refine seq_nil ?_
  refine hK13 _ _ ?_
  try clear hK13 K13
  refine wp_seq_k fun K17 hK17 => ?_
  refine wp_seq_k fun K18 hK18 => ?_
  refine any_region 39 [⟨none, [(8, none)]⟩, ⟨none, [(9, none)]⟩, ⟨none, [(25, some 0), (26, some 1)]⟩, ⟨none, [(9, none)]⟩, ⟨none, [(8, none)]⟩, ⟨none, [(28, some 3), (29, some 4)]⟩, ⟨none, [(27, some 2), (30, some 5)]⟩, ⟨none, [(31, some 6)]⟩, ⟨none, [(32, some 7)]⟩, ⟨some (33, false), [(8, none), (33, some 8)]⟩, ⟨some (33, false), [(9, none), (33, some 8)]⟩, ⟨some (33, false), [(34, some 9), (35, some 10), (33, some 8)]⟩, ⟨some (33, false), [(10, none), (33, some 8)]⟩, ⟨some (33, false), [(36, some 11), (37, some 12), (33, some 8)]⟩, ⟨some (33, false), [(8, none), (33, some 8)]⟩, ⟨some (33, false), [(9, none), (33, some 8)]⟩, ⟨some (33, false), [(10, none), (33, some 8)]⟩, ⟨some (33, false), [(40, some 15), (41, some 16), (33, some 8)]⟩, ⟨some (33, false), [(39, some 14), (42, some 17), (33, some 8)]⟩, ⟨some (33, false), [(38, some 13), (43, some 18), (33, some 8)]⟩, ⟨some (33, false), [(44, some 19), (33, some 8)]⟩, ⟨none, [(33, some 8), (45, some 20)]⟩, ⟨none, [(46, some 21)]⟩, ⟨some (47, false), [(8, none), (47, some 22)]⟩, ⟨some (47, false), [(47, some 22)]⟩, ⟨some (47, false), [(48, some 23), (49, some 24), (47, some 22)]⟩, ⟨some (47, false), [(8, none), (47, some 22)]⟩, ⟨some (47, false), [(50, some 25), (51, some 26), (47, some 22)]⟩, ⟨some (47, false), [(52, some 27), (47, some 22)]⟩, ⟨none, [(47, some 22), (53, some 28)]⟩, ⟨none, [(54, some 29)]⟩, ⟨some (55, false), [(8, none), (55, some 30)]⟩, ⟨some (55, false), [(8, none), (55, some 30)]⟩, ⟨some (55, false), [(57, some 32), (55, some 30)]⟩, ⟨some (55, false), [(56, some 31), (58, some 33), (55, some 30)]⟩, ⟨some (55, false), [(55, some 30)]⟩, ⟨some (55, false), [(59, some 34), (60, some 35), (55, some 30)]⟩, ⟨some (55, false), [(61, some 36), (55, some 30)]⟩, ⟨none, [(55, some 30), (62, some 37)]⟩] (by kernel_rfl) (by kernel_rfl) fun F hF => ?_
  have r14_11 := (Puts.row p11 (Puts.row p10 r14_9 (Ne.symm n15_14)) (Ne.symm n16_14))
  refine any_read (.agg (cat [numA ((pa za).1), numA (((pa za).2 - 1) % p)])) (by kernel_rfl) (by kernel_rfl) (fun W hR => (run_load_row 30 _ g14 30 _ _ (row_ext (row_ext r14_11 (ext_drew _)) hR) rfl (by kernel_rfl) (by kernel_rfl) (isz (n := 8) (by kernel_rfl) (by kernel_rfl)))) ?_
  have r15_11 := (Puts.row p11 r15_10 (Ne.symm n16_15))
  refine any_read (.agg (cat [numA ((pa zb).1), numA (((pa zb).2 - 1) % p)])) (by kernel_rfl) (by kernel_rfl) (fun W hR => (run_load_row 30 _ g15 30 _ _ (row_ext (row_ext r15_11 (ext_drew _)) hR) rfl (by kernel_rfl) (by kernel_rfl) (isz (n := 8) (by kernel_rfl) (by kernel_rfl)))) ?_
  have r1_11 := (Puts.row p11 (Puts.row p10 (Puts.row p9 (row_ext r1_7 e8) (ne_of_old r1_7 l14)) (ne_of_old r1_7 l15)) (ne_of_old r1_7 l16))
  refine any_call (.agg (cat [numA ((pAdd (pa za) (pa zb)).1), numA (((pAdd (pa za) (pa zb)).2 - 1) % p)])) 15 #[.agg (cat [numA ((pa za).1), numA (((pa za).2 - 1) % p)]), .agg (cat [numA ((pa zb).1), numA (((pa zb).2 - 1) % p)])] (by kernel_rfl) (by kernel_rfl) (fun W => by kernel_rfl) (fun W hR => ptAdd (pa_on za) (pa_on zb) W tB (row_ext (row_ext r1_11 (ext_drew _)) hR)) ?_
  refine any_read (.agg (cat [numA ((pa zb).1), numA (((pa zb).2 - 1) % p)])) (by kernel_rfl) (by kernel_rfl) (fun W hR => (run_load_row 30 _ g15 30 _ _ (row_ext (row_ext r15_11 (ext_drew _)) hR) rfl (by kernel_rfl) (by kernel_rfl) (isz (n := 8) (by kernel_rfl) (by kernel_rfl)))) ?_
  refine any_read (.agg (cat [numA ((pa za).1), numA (((pa za).2 - 1) % p)])) (by kernel_rfl) (by kernel_rfl) (fun W hR => (run_load_row 30 _ g14 30 _ _ (row_ext (row_ext r14_11 (ext_drew _)) hR) rfl (by kernel_rfl) (by kernel_rfl) (isz (n := 8) (by kernel_rfl) (by kernel_rfl)))) ?_
  refine any_call (.agg (cat [numA ((pAdd (pa zb) (pa za)).1), numA (((pAdd (pa zb) (pa za)).2 - 1) % p)])) 15 #[.agg (cat [numA ((pa zb).1), numA (((pa zb).2 - 1) % p)]), .agg (cat [numA ((pa za).1), numA (((pa za).2 - 1) % p)])] (by kernel_rfl) (by kernel_rfl) (fun W => by kernel_rfl) (fun W hR => ptAdd (pa_on zb) (pa_on za) W tB (row_ext (row_ext r1_11 (ext_drew _)) hR)) ?_
  refine any_call (.bool true) 19 #[.agg (cat [numA ((pAdd (pa za) (pa zb)).1), numA (((pAdd (pa za) (pa zb)).2 - 1) % p)]), .agg (cat [numA ((pAdd (pa zb) (pa za)).1), numA (((pAdd (pa zb) (pa za)).2 - 1) % p)])] (by kernel_rfl) (by kernel_rfl) (fun W => by kernel_rfl) (fun W hR => (ptSame (pAdd_on (pa_on za) (pa_on zb)) (pAdd_comm _ _)) W) ?_
  refine any_val (.bool false) (by kernel_rfl) (by kernel_rfl) (fun W => by kernel_rfl) ?_
  refine any_val (.bool false) (by kernel_rfl) (by kernel_rfl) (fun W => by kernel_rfl) ?_
  refine any_read (.agg (cat [numA ((pa za).1), numA (((pa za).2 - 1) % p)])) (by kernel_rfl) (by kernel_rfl) (fun W hR => (run_load_row 30 _ g14 30 _ _ (row_ext (row_ext r14_11 (ext_drew _)) hR) rfl (by kernel_rfl) (by kernel_rfl) (isz (n := 8) (by kernel_rfl) (by kernel_rfl)))) ?_
  refine any_read (.agg (cat [numA ((pa zb).1), numA (((pa zb).2 - 1) % p)])) (by kernel_rfl) (by kernel_rfl) (fun W hR => (run_load_row 30 _ g15 30 _ _ (row_ext (row_ext r15_11 (ext_drew _)) hR) rfl (by kernel_rfl) (by kernel_rfl) (isz (n := 8) (by kernel_rfl) (by kernel_rfl)))) ?_
  refine any_call (.agg (cat [numA ((pAdd (pa za) (pa zb)).1), numA (((pAdd (pa za) (pa zb)).2 - 1) % p)])) 15 #[.agg (cat [numA ((pa za).1), numA (((pa za).2 - 1) % p)]), .agg (cat [numA ((pa zb).1), numA (((pa zb).2 - 1) % p)])] (by kernel_rfl) (by kernel_rfl) (fun W => by kernel_rfl) (fun W hR => ptAdd (pa_on za) (pa_on zb) W tB (row_ext (row_ext r1_11 (ext_drew _)) hR)) ?_
  refine any_read (.agg (cat [numA ((pa zc).1), numA (((pa zc).2 - 1) % p)])) (by kernel_rfl) (by kernel_rfl) (fun W hR => (run_load_row 30 _ g16 30 _ _ (row_ext (row_ext r16_11 (ext_drew _)) hR) rfl (by kernel_rfl) (by kernel_rfl) (isz (n := 8) (by kernel_rfl) (by kernel_rfl)))) ?_
  refine any_call (.agg (cat [numA ((pAdd (pAdd (pa za) (pa zb)) (pa zc)).1), numA (((pAdd (pAdd (pa za) (pa zb)) (pa zc)).2 - 1) % p)])) 15 #[.agg (cat [numA ((pAdd (pa za) (pa zb)).1), numA (((pAdd (pa za) (pa zb)).2 - 1) % p)]), .agg (cat [numA ((pa zc).1), numA (((pa zc).2 - 1) % p)])] (by kernel_rfl) (by kernel_rfl) (fun W => by kernel_rfl) (fun W hR => ptAdd (pAdd_on (pa_on za) (pa_on zb)) (pa_on zc) W tB (row_ext (row_ext r1_11 (ext_drew _)) hR)) ?_
  refine any_read (.agg (cat [numA ((pa za).1), numA (((pa za).2 - 1) % p)])) (by kernel_rfl) (by kernel_rfl) (fun W hR => (run_load_row 30 _ g14 30 _ _ (row_ext (row_ext r14_11 (ext_drew _)) hR) rfl (by kernel_rfl) (by kernel_rfl) (isz (n := 8) (by kernel_rfl) (by kernel_rfl)))) ?_
  refine any_read (.agg (cat [numA ((pa zb).1), numA (((pa zb).2 - 1) % p)])) (by kernel_rfl) (by kernel_rfl) (fun W hR => (run_load_row 30 _ g15 30 _ _ (row_ext (row_ext r15_11 (ext_drew _)) hR) rfl (by kernel_rfl) (by kernel_rfl) (isz (n := 8) (by kernel_rfl) (by kernel_rfl)))) ?_
  refine any_read (.agg (cat [numA ((pa zc).1), numA (((pa zc).2 - 1) % p)])) (by kernel_rfl) (by kernel_rfl) (fun W hR => (run_load_row 30 _ g16 30 _ _ (row_ext (row_ext r16_11 (ext_drew _)) hR) rfl (by kernel_rfl) (by kernel_rfl) (isz (n := 8) (by kernel_rfl) (by kernel_rfl)))) ?_
  refine any_call (.agg (cat [numA ((pAdd (pa zb) (pa zc)).1), numA (((pAdd (pa zb) (pa zc)).2 - 1) % p)])) 15 #[.agg (cat [numA ((pa zb).1), numA (((pa zb).2 - 1) % p)]), .agg (cat [numA ((pa zc).1), numA (((pa zc).2 - 1) % p)])] (by kernel_rfl) (by kernel_rfl) (fun W => by kernel_rfl) (fun W hR => ptAdd (pa_on zb) (pa_on zc) W tB (row_ext (row_ext r1_11 (ext_drew _)) hR)) ?_
  refine any_call (.agg (cat [numA ((pAdd (pa za) (pAdd (pa zb) (pa zc))).1), numA (((pAdd (pa za) (pAdd (pa zb) (pa zc))).2 - 1) % p)])) 15 #[.agg (cat [numA ((pa za).1), numA (((pa za).2 - 1) % p)]), .agg (cat [numA ((pAdd (pa zb) (pa zc)).1), numA (((pAdd (pa zb) (pa zc)).2 - 1) % p)])] (by kernel_rfl) (by kernel_rfl) (fun W => by kernel_rfl) (fun W hR => ptAdd (pa_on za) (pAdd_on (pa_on zb) (pa_on zc)) W tB (row_ext (row_ext r1_11 (ext_drew _)) hR)) ?_
  refine any_call (.bool true) 19 #[.agg (cat [numA ((pAdd (pAdd (pa za) (pa zb)) (pa zc)).1), numA (((pAdd (pAdd (pa za) (pa zb)) (pa zc)).2 - 1) % p)]), .agg (cat [numA ((pAdd (pa za) (pAdd (pa zb) (pa zc))).1), numA (((pAdd (pa za) (pAdd (pa zb) (pa zc))).2 - 1) % p)])] (by kernel_rfl) (by kernel_rfl) (fun W => by kernel_rfl) (fun W hR => (ptSame (pAdd_on (pAdd_on (pa_on za) (pa_on zb)) (pa_on zc)) (pAdd_assoc (pa_on za) (pa_on zb) (pa_on zc))) W) ?_
  refine any_val (.bool false) (by kernel_rfl) (by kernel_rfl) (fun W => by kernel_rfl) ?_
  refine any_val (.bool false) (by kernel_rfl) (by kernel_rfl) (fun W => by kernel_rfl) ?_
  refine any_val (.bool false) (by kernel_rfl) (by kernel_rfl) (fun W => by kernel_rfl) ?_
  refine any_read (.agg (cat [numA ((pa za).1), numA (((pa za).2 - 1) % p)])) (by kernel_rfl) (by kernel_rfl) (fun W hR => (run_load_row 30 _ g14 30 _ _ (row_ext (row_ext r14_11 (ext_drew _)) hR) rfl (by kernel_rfl) (by kernel_rfl) (isz (n := 8) (by kernel_rfl) (by kernel_rfl)))) ?_
  refine any_val (.agg (cat [numA ((pZero).1), numA (((pZero).2 - 1) % p)])) (by kernel_rfl) (by kernel_rfl) (fun W => by kernel_rfl) ?_
  refine any_call (.agg (cat [numA ((pAdd (pa za) (pZero)).1), numA (((pAdd (pa za) (pZero)).2 - 1) % p)])) 15 #[.agg (cat [numA ((pa za).1), numA (((pa za).2 - 1) % p)]), .agg (cat [numA ((pZero).1), numA (((pZero).2 - 1) % p)])] (by kernel_rfl) (by kernel_rfl) (fun W => by kernel_rfl) (fun W hR => ptAdd (pa_on za) pZero_on W tB (row_ext (row_ext r1_11 (ext_drew _)) hR)) ?_
  refine any_read (.agg (cat [numA ((pa za).1), numA (((pa za).2 - 1) % p)])) (by kernel_rfl) (by kernel_rfl) (fun W hR => (run_load_row 30 _ g14 30 _ _ (row_ext (row_ext r14_11 (ext_drew _)) hR) rfl (by kernel_rfl) (by kernel_rfl) (isz (n := 8) (by kernel_rfl) (by kernel_rfl)))) ?_
  refine any_call (.bool true) 19 #[.agg (cat [numA ((pAdd (pa za) (pZero)).1), numA (((pAdd (pa za) (pZero)).2 - 1) % p)]), .agg (cat [numA ((pa za).1), numA (((pa za).2 - 1) % p)])] (by kernel_rfl) (by kernel_rfl) (fun W => by kernel_rfl) (fun W hR => (ptSame (pAdd_on (pa_on za) pZero_on) (pAdd_zero (pa_on za))) W) ?_
  refine any_val (.bool false) (by kernel_rfl) (by kernel_rfl) (fun W => by kernel_rfl) ?_
  refine any_val (.bool false) (by kernel_rfl) (by kernel_rfl) (fun W => by kernel_rfl) ?_
  refine any_val (.bool false) (by kernel_rfl) (by kernel_rfl) (fun W => by kernel_rfl) ?_
  refine any_read (.agg (cat [numA ((pa za).1), numA (((pa za).2 - 1) % p)])) (by kernel_rfl) (by kernel_rfl) (fun W hR => (run_load_row 30 _ g14 30 _ _ (row_ext (row_ext r14_11 (ext_drew _)) hR) rfl (by kernel_rfl) (by kernel_rfl) (isz (n := 8) (by kernel_rfl) (by kernel_rfl)))) ?_
  refine any_read (.agg (cat [numA ((pa za).1), numA (((pa za).2 - 1) % p)])) (by kernel_rfl) (by kernel_rfl) (fun W hR => (run_load_row 30 _ g14 30 _ _ (row_ext (row_ext r14_11 (ext_drew _)) hR) rfl (by kernel_rfl) (by kernel_rfl) (isz (n := 8) (by kernel_rfl) (by kernel_rfl)))) ?_
  refine any_call (.agg (cat [numA ((pNeg (pa za)).1), numA (((pNeg (pa za)).2 - 1) % p)])) 17 #[.agg (cat [numA ((pa za).1), numA (((pa za).2 - 1) % p)])] (by kernel_rfl) (by kernel_rfl) (fun W => by kernel_rfl) (fun W hR => (ptNeg (pa_on za)) W) ?_
  refine any_call (.agg (cat [numA ((pAdd (pa za) (pNeg (pa za))).1), numA (((pAdd (pa za) (pNeg (pa za))).2 - 1) % p)])) 15 #[.agg (cat [numA ((pa za).1), numA (((pa za).2 - 1) % p)]), .agg (cat [numA ((pNeg (pa za)).1), numA (((pNeg (pa za)).2 - 1) % p)])] (by kernel_rfl) (by kernel_rfl) (fun W => by kernel_rfl) (fun W hR => ptAdd (pa_on za) (pNeg_on (pa_on za)) W tB (row_ext (row_ext r1_11 (ext_drew _)) hR)) ?_
  refine any_val (.agg (cat [numA ((pZero).1), numA (((pZero).2 - 1) % p)])) (by kernel_rfl) (by kernel_rfl) (fun W => by kernel_rfl) ?_
  refine any_call (.bool true) 19 #[.agg (cat [numA ((pAdd (pa za) (pNeg (pa za))).1), numA (((pAdd (pa za) (pNeg (pa za))).2 - 1) % p)]), .agg (cat [numA ((pZero).1), numA (((pZero).2 - 1) % p)])] (by kernel_rfl) (by kernel_rfl) (fun W => by kernel_rfl) (fun W hR => (ptSame (pAdd_on (pa_on za) (pNeg_on (pa_on za))) (pAdd_neg (pa_on za))) W) ?_
  refine any_val (.bool false) (by kernel_rfl) (by kernel_rfl) (fun W => by kernel_rfl) ?_
  refine any_val (.bool false) (by kernel_rfl) (by kernel_rfl) (fun W => by kernel_rfl) ?_
  refine steps_nil (hF _ (by kernel_rfl) fun W12 e12 => ?_)
  simp only [ups, up, Kn.val, List.take_succ_cons, List.take_zero, List.drop_succ_cons, List.drop_zero, List.nil_append, List.cons_append]
  clear hF
  have x12 : Ext w W12 := Ext.tr x11 e12
  refine seq_nil ?_
  refine hK18 _ _ ?_
  try clear hK18 K18
  refine cond_false (by kernel_rfl) ?_
  refine wp_skip ?_
  refine hK17 _ _ ?_
  try clear hK17 K17
  refine wp_seq_k fun K19 hK19 => ?_
  refine region_lit ?_
  have r14_12 := (row_ext r14_11 e12)
  refine seq_val (.agg (cat [numA ((pa za).1), numA (((pa za).2 - 1) % p)])) 65 rfl (by kernel_rfl) (run_load_row 30 _ g14 30 _ _ r14_12 rfl (by kernel_rfl) (by kernel_rfl) (isz (n := 8) (by kernel_rfl) (by kernel_rfl))) ?_
  refine seq_call (.agg (ints .u8 (encP (pa za)))) 13 #[.agg (cat [numA ((pa za).1), numA (((pa za).2 - 1) % p)])] 66 rfl (by kernel_rfl) (by kernel_rfl) ((ptBytes (pa_on za)) _) fun W13 e13 => ?_
  have x13 : Ext w W13 := Ext.tr x12 e13
  have r1_13 := (row_ext (row_ext r1_11 e12) e13)
  refine seq_call (.tuple #[.agg (cat [numA ((pa za).1), numA (((pa za).2 - 1) % p)]), .bool (true)]) 11 #[.agg (ints .u8 (encP (pa za)))] 67 rfl (by kernel_rfl) (by kernel_rfl) (ptFrom (pa_on za) _ tB r1_13) fun W14 e14 => ?_
  have x14 : Ext w W14 := Ext.tr x13 e14
  refine seq_val (.tuple #[.agg (cat [numA ((pa za).1), numA (((pa za).2 - 1) % p)]), .bool (true)]) 64 rfl (by kernel_rfl) (by kernel_rfl) ?_
  refine seq_val (.agg (cat [numA ((pa za).1), numA (((pa za).2 - 1) % p)])) 68 rfl (by kernel_rfl) (by kernel_rfl) ?_
  refine seq_val (.bool (true)) 69 rfl (by kernel_rfl) (by kernel_rfl) ?_
  refine seq_alloc (cat [numA (0), numA (0)]) 30 11 rfl (by kernel_rfl) (by kernel_rfl) fun g20 W15 l20 e15 r20_15 => ?_
  have x15 : Ext w W15 := Ext.tr x14 e15
  have b20 : w.heap.size ≤ g20 := Nat.le_trans x14.size l20
  refine seq_store g20 _ (cat [numA ((pa za).1), numA (((pa za).2 - 1) % p)]) 30 r20_15 rfl (by kernel_rfl) (run_store_row 30 _ _ g20 30 _ _ r20_15 rfl (by kernel_rfl) (by kernel_rfl) (isz (n := 8) (by kernel_rfl) (by kernel_rfl)) (eqsz (n := 8) (by kernel_rfl) (by kernel_rfl)) (by kernel_rfl)) fun W16 p16 r20_16 => ?_
  have x16 : Ext w W16 := Puts.ext p16 x15 b20
  refine seq_val (.bool (true)) 12 rfl (by kernel_rfl) (by kernel_rfl) ?_
  refine seq_nil ?_
  refine hK19 _ _ ?_
  try clear hK19 K19
  refine wp_seq_k fun K21 hK21 => ?_
  refine any_region 25 [⟨none, [(12, none)]⟩, ⟨none, [(70, some 0)]⟩, ⟨some (71, true), [(11, none), (71, some 1)]⟩, ⟨some (71, true), [(8, none), (71, some 1)]⟩, ⟨some (71, true), [(72, some 2), (73, some 3), (71, some 1)]⟩, ⟨none, [(71, some 1), (74, some 4)]⟩, ⟨none, [(75, some 5)]⟩, ⟨some (76, true), [(7, none), (76, some 6)]⟩, ⟨some (76, true), [(3, none), (76, some 6)]⟩, ⟨some (76, true), [(76, some 6)]⟩, ⟨some (76, true), [(4, none), (76, some 6)]⟩, ⟨some (76, true), [(78, some 8), (79, some 9), (80, some 10), (76, some 6)]⟩, ⟨some (76, true), [(77, some 7), (81, some 11), (76, some 6)]⟩, ⟨some (76, true), [(8, none), (76, some 6)]⟩, ⟨some (76, true), [(9, none), (76, some 6)]⟩, ⟨some (76, true), [(83, some 13), (84, some 14), (76, some 6)]⟩, ⟨some (76, true), [(82, some 12), (85, some 15), (76, some 6)]⟩, ⟨none, [(76, some 6), (86, some 16)]⟩, ⟨none, [(87, some 17)]⟩, ⟨some (88, true), [(7, none), (88, some 18)]⟩, ⟨some (88, true), [(88, some 18)]⟩, ⟨some (88, true), [(89, some 19), (90, some 20), (88, some 18)]⟩, ⟨some (88, true), [(88, some 18)]⟩, ⟨some (88, true), [(91, some 21), (92, some 22), (88, some 18)]⟩, ⟨none, [(88, some 18), (93, some 23)]⟩] (by kernel_rfl) (by kernel_rfl) fun F hF => ?_
  refine any_val (.bool (true)) (by kernel_rfl) (by kernel_rfl) (fun W => by kernel_rfl) ?_
  refine any_val (.bool (true)) (by kernel_rfl) (by kernel_rfl) (fun W => by kernel_rfl) ?_
  refine any_read (.agg (cat [numA ((pa za).1), numA (((pa za).2 - 1) % p)])) (by kernel_rfl) (by kernel_rfl) (fun W hR => (run_load_row 30 _ g20 30 _ _ (row_ext (row_ext r20_16 (ext_drew _)) hR) rfl (by kernel_rfl) (by kernel_rfl) (isz (n := 8) (by kernel_rfl) (by kernel_rfl)))) ?_
  have r14_14 := (row_ext (row_ext r14_12 e13) e14)
  have r14_16 := (Puts.row p16 (row_ext (row_ext (row_ext r14_12 e13) e14) e15) (ne_of_old r14_14 l20))
  refine any_read (.agg (cat [numA ((pa za).1), numA (((pa za).2 - 1) % p)])) (by kernel_rfl) (by kernel_rfl) (fun W hR => (run_load_row 30 _ g14 30 _ _ (row_ext (row_ext r14_16 (ext_drew _)) hR) rfl (by kernel_rfl) (by kernel_rfl) (isz (n := 8) (by kernel_rfl) (by kernel_rfl)))) ?_
  refine any_call (.bool true) 19 #[.agg (cat [numA ((pa za).1), numA (((pa za).2 - 1) % p)]), .agg (cat [numA ((pa za).1), numA (((pa za).2 - 1) % p)])] (by kernel_rfl) (by kernel_rfl) (fun W => by kernel_rfl) (fun W hR => (ptSame (pa_on za) rfl) W) ?_
  refine any_val (.bool true) (by kernel_rfl) (by kernel_rfl) (fun W => by kernel_rfl) ?_
  refine any_val (.bool true) (by kernel_rfl) (by kernel_rfl) (fun W => by kernel_rfl) ?_
  have r12_14 := (row_ext (row_ext (row_ext (Puts.row p11 (Puts.row p10 (Puts.row p9 (row_ext r12_7 e8) (ne_of_old r12_7 l14)) (ne_of_old r12_7 l15)) (ne_of_old r12_7 l16)) e12) e13) e14)
  have r12_16 := (Puts.row p16 (row_ext (row_ext (row_ext (row_ext (Puts.row p11 (Puts.row p10 (Puts.row p9 (row_ext r12_7 e8) (ne_of_old r12_7 l14)) (ne_of_old r12_7 l15)) (ne_of_old r12_7 l16)) e12) e13) e14) e15) (ne_of_old r12_14 l20))
  refine any_read (.agg (cat [numA ((BP).1), numA (((BP).2 - 1) % p)])) (by kernel_rfl) (by kernel_rfl) (fun W hR => (run_load_row 30 _ g12 30 _ _ (row_ext (row_ext r12_16 (ext_drew _)) hR) rfl (by kernel_rfl) (by kernel_rfl) (isz (n := 8) (by kernel_rfl) (by kernel_rfl)))) ?_
  have r6_14 := (row_ext (row_ext (row_ext (Puts.row p11 (Puts.row p10 (Puts.row p9 (row_ext r6_7 e8) (ne_of_old r6_7 l14)) (ne_of_old r6_7 l15)) (ne_of_old r6_7 l16)) e12) e13) e14)
  have r6_16 := (Puts.row p16 (row_ext (row_ext (row_ext (row_ext (Puts.row p11 (Puts.row p10 (Puts.row p9 (row_ext r6_7 e8) (ne_of_old r6_7 l14)) (ne_of_old r6_7 l15)) (ne_of_old r6_7 l16)) e12) e13) e14) e15) (ne_of_old r6_14 l20))
  refine any_read (.agg (ints .u8 (za))) (by kernel_rfl) (by kernel_rfl) (fun W hR => (run_load_row 23 _ g6 23 _ _ (row_ext (row_ext r6_16 (ext_drew _)) hR) rfl (by kernel_rfl) (by kernel_rfl) (isz (n := 32) (by kernel_rfl) ((ints_size _ _).trans ha)))) ?_
  refine any_val (.agg (ints .u8 (key1 1))) (by kernel_rfl) (by kernel_rfl) (fun W => by kernel_rfl) ?_
  have r7_14 := (row_ext (row_ext (row_ext (Puts.row p11 (Puts.row p10 (Puts.row p9 (row_ext r7_7 e8) (ne_of_old r7_7 l14)) (ne_of_old r7_7 l15)) (ne_of_old r7_7 l16)) e12) e13) e14)
  have r7_16 := (Puts.row p16 (row_ext (row_ext (row_ext (row_ext (Puts.row p11 (Puts.row p10 (Puts.row p9 (row_ext r7_7 e8) (ne_of_old r7_7 l14)) (ne_of_old r7_7 l15)) (ne_of_old r7_7 l16)) e12) e13) e14) e15) (ne_of_old r7_14 l20))
  refine any_read (.agg (ints .u8 (zb))) (by kernel_rfl) (by kernel_rfl) (fun W hR => (run_load_row 23 _ g7 23 _ _ (row_ext (row_ext r7_16 (ext_drew _)) hR) rfl (by kernel_rfl) (by kernel_rfl) (isz (n := 32) (by kernel_rfl) ((ints_size _ _).trans hb)))) ?_
  have r4_5 := (row_ext (row_ext (row_ext (row_ext (row_ext hO e1) e2) e3) e4) e5)
  have r4_7 := (Puts.row p7 (row_ext r4_5 e6) (ne_of_old r4_5 l12))
  have r4_14 := (row_ext (row_ext (row_ext (Puts.row p11 (Puts.row p10 (Puts.row p9 (row_ext r4_7 e8) (ne_of_old r4_7 l14)) (ne_of_old r4_7 l15)) (ne_of_old r4_7 l16)) e12) e13) e14)
  have r4_16 := (Puts.row p16 (row_ext (row_ext (row_ext (row_ext (Puts.row p11 (Puts.row p10 (Puts.row p9 (row_ext (Puts.row p7 (row_ext (row_ext (row_ext (row_ext (row_ext (row_ext hO e1) e2) e3) e4) e5) e6) (ne_of_old r4_5 l12)) e8) (ne_of_old r4_7 l14)) (ne_of_old r4_7 l15)) (ne_of_old r4_7 l16)) e12) e13) e14) e15) (ne_of_old r4_14 l20))
  refine any_call (.agg (ints .u8 (kAB za zb))) 23 #[.agg (ints .u8 (za)), .agg (ints .u8 (key1 1)), .agg (ints .u8 (zb))] (by kernel_rfl) (by kernel_rfl) (fun W => by kernel_rfl) (fun W hR => mulAddC za (key1 1) zb ha hab (key1_len 1) (key1_bytes (by omega)) hb hbb W tO (row_ext (row_ext r4_16 (ext_drew _)) hR)) ?_
  have r1_14 := (row_ext r1_13 e14)
  have r1_16 := (Puts.row p16 (row_ext (row_ext r1_13 e14) e15) (ne_of_old r1_14 l20))
  refine any_call (.agg (cat [numA ((climbP BP (bitsB (kAB za zb))).1), numA (((climbP BP (bitsB (kAB za zb))).2 - 1) % p)])) 20 #[.agg (cat [numA ((BP).1), numA (((BP).2 - 1) % p)]), .agg (ints .u8 (kAB za zb))] (by kernel_rfl) (by kernel_rfl) (fun W => by kernel_rfl) (fun W hR => ptTimes BP_on (kAB za zb) (bytes_len _) (bytesOf_bytes _) W tB (row_ext (row_ext r1_16 (ext_drew _)) hR)) ?_
  refine any_read (.agg (cat [numA ((pa za).1), numA (((pa za).2 - 1) % p)])) (by kernel_rfl) (by kernel_rfl) (fun W hR => (run_load_row 30 _ g14 30 _ _ (row_ext (row_ext r14_16 (ext_drew _)) hR) rfl (by kernel_rfl) (by kernel_rfl) (isz (n := 8) (by kernel_rfl) (by kernel_rfl)))) ?_
  have r15_14 := (row_ext (row_ext (row_ext r15_11 e12) e13) e14)
  have r15_16 := (Puts.row p16 (row_ext (row_ext (row_ext (row_ext r15_11 e12) e13) e14) e15) (ne_of_old r15_14 l20))
  refine any_read (.agg (cat [numA ((pa zb).1), numA (((pa zb).2 - 1) % p)])) (by kernel_rfl) (by kernel_rfl) (fun W hR => (run_load_row 30 _ g15 30 _ _ (row_ext (row_ext r15_16 (ext_drew _)) hR) rfl (by kernel_rfl) (by kernel_rfl) (isz (n := 8) (by kernel_rfl) (by kernel_rfl)))) ?_
  refine any_call (.agg (cat [numA ((pAdd (pa za) (pa zb)).1), numA (((pAdd (pa za) (pa zb)).2 - 1) % p)])) 15 #[.agg (cat [numA ((pa za).1), numA (((pa za).2 - 1) % p)]), .agg (cat [numA ((pa zb).1), numA (((pa zb).2 - 1) % p)])] (by kernel_rfl) (by kernel_rfl) (fun W => by kernel_rfl) (fun W hR => ptAdd (pa_on za) (pa_on zb) W tB (row_ext (row_ext r1_16 (ext_drew _)) hR)) ?_
  refine any_call (.bool true) 19 #[.agg (cat [numA ((climbP BP (bitsB (kAB za zb))).1), numA (((climbP BP (bitsB (kAB za zb))).2 - 1) % p)]), .agg (cat [numA ((pAdd (pa za) (pa zb)).1), numA (((pAdd (pa za) (pa zb)).2 - 1) % p)])] (by kernel_rfl) (by kernel_rfl) (fun W => by kernel_rfl) (fun W hR => (ptSame (climbP_on BP_on _) (sum_eq za zb hab hb hbb)) W) ?_
  refine any_val (.bool true) (by kernel_rfl) (by kernel_rfl) (fun W => by kernel_rfl) ?_
  refine any_val (.bool true) (by kernel_rfl) (by kernel_rfl) (fun W => by kernel_rfl) ?_
  refine any_read (.agg (cat [numA ((BP).1), numA (((BP).2 - 1) % p)])) (by kernel_rfl) (by kernel_rfl) (fun W hR => (run_load_row 30 _ g12 30 _ _ (row_ext (row_ext r12_16 (ext_drew _)) hR) rfl (by kernel_rfl) (by kernel_rfl) (isz (n := 8) (by kernel_rfl) (by kernel_rfl)))) ?_
  refine any_call (.agg (ints .u8 (ordBL))) 24 #[] (by kernel_rfl) (by kernel_rfl) (fun W => by kernel_rfl) (fun W hR => orderC W) ?_
  refine any_call (.agg (cat [numA ((climbP BP (bitsB (ordBL))).1), numA (((climbP BP (bitsB (ordBL))).2 - 1) % p)])) 20 #[.agg (cat [numA ((BP).1), numA (((BP).2 - 1) % p)]), .agg (ints .u8 (ordBL))] (by kernel_rfl) (by kernel_rfl) (fun W => by kernel_rfl) (fun W hR => ptTimes BP_on (ordBL) ordBL_len ordBL_bytes W tB (row_ext (row_ext r1_16 (ext_drew _)) hR)) ?_
  refine any_val (.agg (cat [numA ((pZero).1), numA (((pZero).2 - 1) % p)])) (by kernel_rfl) (by kernel_rfl) (fun W => by kernel_rfl) ?_
  refine any_call (.bool true) 19 #[.agg (cat [numA ((climbP BP (bitsB (ordBL))).1), numA (((climbP BP (bitsB (ordBL))).2 - 1) % p)]), .agg (cat [numA ((pZero).1), numA (((pZero).2 - 1) % p)])] (by kernel_rfl) (by kernel_rfl) (fun W => by kernel_rfl) (fun W hR => (ptSame (climbP_on BP_on _) ord_zero) W) ?_
  refine any_val (.bool true) (by kernel_rfl) (by kernel_rfl) (fun W => by kernel_rfl) ?_
  refine steps_nil (hF _ (by kernel_rfl) fun W17 e17 => ?_)
  simp only [ups, up, Kn.val, List.take_succ_cons, List.take_zero, List.drop_succ_cons, List.drop_zero, List.nil_append, List.cons_append]
  clear hF
  have x17 : Ext w W17 := Ext.tr x16 e17
  refine seq_val (.bool true) 6 rfl (by kernel_rfl) (by kernel_rfl) ?_
  refine seq_nil ?_
  refine hK21 _ _ ?_
  try clear hK21 K21
  refine wp_ret ?_
  exact (show bodyPost _ _ _ .ret _ _ from ret1 (.bool true) rfl (res_tmp (by kernel_rfl)) ⟨rfl, x17⟩)

end Go.Proofs.YtaojnmjmmfdfjaaDoor.Field
