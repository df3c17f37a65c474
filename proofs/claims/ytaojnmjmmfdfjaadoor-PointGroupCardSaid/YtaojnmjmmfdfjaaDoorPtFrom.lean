/- Points: which point any bytes are. -/
import Derived.Test.YtaojnmjmmfdfjaaDoorPtBytes
import Derived.Test.YtaojnmjmmfdfjaaDoorAutoV
namespace Go.Proofs.YtaojnmjmmfdfjaaDoor.Field
open Go Go.RowKit
open Go.Proofs.YtaojnmjmmfdfjaaDoor.Rely Go.Proofs.YtaojnmjmmfdfjaaDoor.Auto.V
open Go.Proofs.YtaojnmjmmfdfjaaDoor.Auto hiding isT tailT readsT storesT okT TailRun tailsOf pureOk stepsT stepsT_found InvT rem Phase isT_some mem_tails mem_rem rem_nodup list_false rem_sorted rem_set filter_ne holdsC wpAny_of_T t_store t_op t_skip t_val t_read t_call t_new t_nil TailEnv tail_env te_nil te_store any_regionT
set_option linter.unusedVariables false

theorem shr7 (v : Int) : v.fdiv (2 ^ min (7 : Int).toNat IntKind.u8.bits) = v / 128 := by
  show Int.fdiv v 128 = v / 128
  exact Int.fdiv_eq_ediv_of_nonneg v (by decide)
set_option maxHeartbeats 4000000 in
theorem pfrom_A (xs ys : List Int) (hx : xs.length = 32) (hb : AreBytes xs) (ys_len : ys.length = 32) (s0 : Int) (ho : (nth xs 31 / 128 == 1) = false) (hc : decide (ys = (xs).set 31 (nth xs 31 % 128)) = false)
    (c0 : ∀ W, Calls Tryd.prog 29 #[.agg (ints .u8 ((xs).set 31 (nth xs 31 % 128)))] W (Ret W (.agg (numA (s0)))))
    (cb : ∀ W, Calls Tryd.prog 30 #[.agg (numA (s0))] W (Ret W (.agg (ints .u8 ys))))
    (w : World) (tB : TypeId) (hB : w.heap[0]? = some (.cells (ints .u8 bendL) tB)) : Calls Tryd.prog 11 #[.agg (ints .u8 (xs))] w (Ret w (.tuple #[.agg (cat [numA (0), numA (0)]), .bool false])) := by
  refine enter 63 [(0, .agg (ints .u8 (xs)))] Tryd.func11 rfl rfl (by kernel_rfl) rfl ?_
  refine wp_seq_k fun K2 hK2 => ?_
  refine region_lit ?_
  refine seq_alloc (ints .u8 (xs)) 23 1 rfl (by kernel_rfl) (by kernel_rfl) fun g3 W1 l3 e1 r3_1 => ?_
  have x1 : Ext w W1 := Ext.tr (Rely.Ext.refl w) e1
  have b3 : w.heap.size ≤ g3 := Nat.le_trans (Rely.Ext.refl w).size l3
  refine seq_alloc (cat [numA (0), numA (0)]) 30 2 rfl (by kernel_rfl) (by kernel_rfl) fun g4 W2 l4 e2 r4_2 => ?_
  have x2 : Ext w W2 := Ext.tr x1 e2
  have b4 : w.heap.size ≤ g4 := Nat.le_trans x1.size l4
  refine seq_val (.bool false) 3 rfl (by kernel_rfl) (by kernel_rfl) ?_
  refine seq_nil ?_
  refine hK2 _ _ ?_
  try clear hK2 K2
  refine wp_seq_k fun K5 hK5 => ?_
  refine region_lit ?_
  refine seq_val (.pointer (some ⟨g3, 31, none⟩)) 11 rfl (by kernel_rfl) (by kernel_rfl) ?_
  have r3_2 := (row_ext r3_1 e2)
  refine seq_val (.int .u8 (nth (xs) 31)) 12 rfl (by kernel_rfl) (run_loadC1 5 _ g3 31 23 _ (.int .u8 (nth (xs) 31)) _ r3_2 rfl (by kernel_rfl) (ints_get _ _ _ (Nat.lt_of_lt_of_eq (by decide) hx.symm)) (by kernel_rfl)) ?_
  refine seq_val (.int .u8 (nth xs 31 / 128)) 13 rfl (by kernel_rfl) (run_bin .shr _ _ _ _ .u8 .u64 _ _ _ rfl (by kernel_rfl) (by kernel_rfl) (b_shr _ _ _ _ _ _ (show (0 : Int) ≤ 7 by decide) (shr7 _))) ?_
  refine seq_val (.bool false) 14 rfl (by kernel_rfl) (run_eq (u := .bool (((nth xs 31 / 128) == 1))) (by kernel_rfl) (congrArg Value.bool ho)) ?_
  refine seq_val (.bool false) 4 rfl (by kernel_rfl) (by kernel_rfl) ?_
  refine seq_nil ?_
  refine hK5 _ _ ?_
  try clear hK5 K5
  refine wp_seq_k fun K6 hK6 => ?_
  refine region_lit ?_
  refine seq_val (.pointer (some ⟨g3, 31, none⟩)) 15 rfl (by kernel_rfl) (by kernel_rfl) ?_
  refine seq_val (.int .u8 (nth (xs) 31)) 16 rfl (by kernel_rfl) (run_loadC1 5 _ g3 31 23 _ (.int .u8 (nth (xs) 31)) _ r3_2 rfl (by kernel_rfl) (ints_get _ _ _ (Nat.lt_of_lt_of_eq (by decide) hx.symm)) (by kernel_rfl)) ?_
  refine seq_val (.int .u8 (nth xs 31 % 128)) 17 rfl (by kernel_rfl) (run_eq (u := .int .u8 (bits .and .u8 ((nth (xs) 31)) (127))) (by kernel_rfl) (congrArg (Value.int .u8) (and127 _ (hb.nth 31)))) ?_
  refine seq_val (.pointer (some ⟨g3, 31, none⟩)) 18 rfl (by kernel_rfl) (by kernel_rfl) ?_
  refine seq_store g3 _ (ints .u8 ((xs).set 31 (nth xs 31 % 128))) 23 r3_2 rfl (by kernel_rfl) (run_storeI 5 _ _ g3 31 23 _ _ r3_2 rfl (by kernel_rfl) (by kernel_rfl) (by kernel_rfl) (Nat.lt_of_lt_of_eq (by decide) hx.symm)) fun W3 p3 r3_3 => ?_
  have x3 : Ext w W3 := Puts.ext p3 x2 b3
  refine seq_nil ?_
  refine hK6 _ _ ?_
  try clear hK6 K6
  refine wp_seq_k fun K7 hK7 => ?_
  refine region_lit ?_
  refine seq_val (.agg (ints .u8 ((xs).set 31 (nth xs 31 % 128)))) 19 rfl (by kernel_rfl) (run_load_row 23 _ g3 23 _ _ r3_3 rfl (by kernel_rfl) (by kernel_rfl) (isz (n := 32) (by kernel_rfl) ((ints_size _ _).trans ((List.length_set ..).trans hx)))) ?_
  refine seq_call (.agg (numA (s0))) 29 #[.agg (ints .u8 ((xs).set 31 (nth xs 31 % 128)))] 20 rfl (by kernel_rfl) (by kernel_rfl) (c0 _) fun W4 e4 => ?_
  have x4 : Ext w W4 := Ext.tr x3 e4
  refine seq_alloc (numA (0)) 28 5 rfl (by kernel_rfl) (by kernel_rfl) fun g8 W5 l8 e5 r8_5 => ?_
  have x5 : Ext w W5 := Ext.tr x4 e5
  have b8 : w.heap.size ≤ g8 := Nat.le_trans x4.size l8
  refine seq_store g8 _ (numA (s0)) 28 r8_5 rfl (by kernel_rfl) (run_store_row 28 _ _ g8 28 _ _ r8_5 rfl (by kernel_rfl) (by kernel_rfl) (isz (n := 4) (by kernel_rfl) (by kernel_rfl)) (eqsz (n := 4) (by kernel_rfl) (by kernel_rfl)) (by kernel_rfl)) fun W6 p6 r8_6 => ?_
  have x6 : Ext w W6 := Puts.ext p6 x5 b8
  refine seq_nil ?_
  refine hK7 _ _ ?_
  try clear hK7 K7
  refine wp_seq_k fun K9 hK9 => ?_
  refine wp_seq_k fun K10 hK10 => ?_
  refine any_region 4 [⟨none, [(5, none)]⟩, ⟨none, [(21, some 0)]⟩, ⟨none, [(1, none)]⟩, ⟨none, [(22, some 1), (23, some 2)]⟩] (by kernel_rfl) (by kernel_rfl) fun F hF => ?_
  refine any_read (.agg (numA (s0))) (by kernel_rfl) (by kernel_rfl) (fun W hR => (run_load_row 28 _ g8 28 _ _ (row_ext (row_ext r8_6 (ext_drew _)) hR) rfl (by kernel_rfl) (by kernel_rfl) (isz (n := 4) (by kernel_rfl) (by kernel_rfl)))) ?_
  refine any_call (.agg (ints .u8 (ys))) 30 #[.agg (numA (s0))] (by kernel_rfl) (by kernel_rfl) (fun W => by kernel_rfl) (fun W hR => cb W) ?_
  have r3_4 := (row_ext r3_3 e4)
  have r3_6 := (Puts.row p6 (row_ext (row_ext r3_3 e4) e5) (ne_of_old r3_4 l8))
  refine any_read (.agg (ints .u8 ((xs).set 31 (nth xs 31 % 128)))) (by kernel_rfl) (by kernel_rfl) (fun W hR => (run_load_row 23 _ g3 23 _ _ (row_ext (row_ext r3_6 (ext_drew _)) hR) rfl (by kernel_rfl) (by kernel_rfl) (isz (n := 32) (by kernel_rfl) ((ints_size _ _).trans ((List.length_set ..).trans hx))))) ?_
  refine any_val (.bool true) (by kernel_rfl) (by kernel_rfl) (fun W => (run_neq_agg 23 _ _ _ _ _ (.bool true) rfl (by kernel_rfl) (by kernel_rfl) (by kernel_rfl) (key_neq _ _ false ys_len (by rw [List.length_set]; exact hx) hc _))) ?_
  refine steps_nil (hF _ (by kernel_rfl) fun W7 e7 => ?_)
  simp only [ups, up, Kn.val, List.take_succ_cons, List.take_zero, List.drop_succ_cons, List.drop_zero, List.nil_append, List.cons_append]
  clear hF
  have x7 : Ext w W7 := Ext.tr x6 e7
  refine seq_nil ?_
  refine hK10 _ _ ?_
  try clear hK10 K10
  refine cond_true (by kernel_rfl) ?_
  refine wp_seq_k fun K11 hK11 => ?_
  refine region_lit ?_
  refine seq_val (.agg (cat [numA (0), numA (0)])) 25 rfl (by kernel_rfl) (by kernel_rfl) ?_
  have r4_4 := (row_ext (Puts.row p3 r4_2 (ne_of_new r3_1 l4)) e4)
  have r4_7 := (row_ext (Puts.row p6 (row_ext (row_ext (Puts.row p3 r4_2 (ne_of_new r3_1 l4)) e4) e5) (ne_of_old r4_4 l8)) e7)
  refine seq_store g4 _ (cat [numA (0), numA (0)]) 30 r4_7 rfl (by kernel_rfl) (run_store_row 30 _ _ g4 30 _ _ r4_7 rfl (by kernel_rfl) (by kernel_rfl) (isz (n := 8) (by kernel_rfl) (by kernel_rfl)) (eqsz (n := 8) (by kernel_rfl) (by kernel_rfl)) (by kernel_rfl)) fun W8 p8 r4_8 => ?_
  have x8 : Ext w W8 := Puts.ext p8 x7 b4
  refine seq_val (.bool false) 3 rfl (by kernel_rfl) (by kernel_rfl) ?_
  refine seq_nil ?_
  refine hK11 _ _ ?_
  try clear hK11 K11
  refine wp_ret ?_
  exact (show bodyPost _ _ _ .ret _ _ from ret2 (.agg (cat [numA (0), numA (0)])) (.bool false) rfl (res_cell g4 30 _ r4_8 (by kernel_rfl) (by kernel_rfl) (isz (n := 8) (by kernel_rfl) (by kernel_rfl))) (res_tmp (by kernel_rfl)) ⟨rfl, x8⟩)
set_option maxHeartbeats 4000000 in
theorem pfrom_B (xs ys : List Int) (hx : xs.length = 32) (hb : AreBytes xs) (ys_len : ys.length = 32) (s0 s1 s2 s3 s4 s5 s6 r : Int) (ho : (nth xs 31 / 128 == 1) = false) (hc : decide (ys = (xs).set 31 (nth xs 31 % 128)) = true)
    (c0 : ∀ W, Calls Tryd.prog 29 #[.agg (ints .u8 ((xs).set 31 (nth xs 31 % 128)))] W (Ret W (.agg (numA (s0)))))
    (c1 : ∀ W, Calls Tryd.prog 31 #[.agg (numA (s0)), .agg (numA (s0))] W (Ret W (.agg (numA (s1)))))
    (c2 : ∀ W, Calls Tryd.prog 31 #[.agg (numA (s1)), .agg (numA (dN))] W (Ret W (.agg (numA (s2)))))
    (c3 : ∀ W, Calls Tryd.prog 33 #[.agg (numA (s2)), .agg (numA (1))] W (Ret W (.agg (numA (s3)))))
    (c4 : ∀ W, Calls Tryd.prog 34 #[.agg (numA (s1)), .agg (numA (1))] W (Ret W (.agg (numA (s4)))))
    (c5 : ∀ W, Calls Tryd.prog 35 #[.agg (numA (s3))] W (Ret W (.agg (numA (s5)))))
    (c6 : ∀ W, Calls Tryd.prog 31 #[.agg (numA (s4)), .agg (numA (s5))] W (Ret W (.agg (numA (s6)))))
    (cb : ∀ W, Calls Tryd.prog 30 #[.agg (numA (s0))] W (Ret W (.agg (ints .u8 ys))))
    (cr : ∀ W, Calls Tryd.prog 36 #[.agg (numA (s6))] W (Ret W (.tuple #[.agg (numA (r)), .bool false])))
    (w : World) (tB : TypeId) (hB : w.heap[0]? = some (.cells (ints .u8 bendL) tB)) : Calls Tryd.prog 11 #[.agg (ints .u8 (xs))] w (Ret w (.tuple #[.agg (cat [numA (0), numA (0)]), .bool false])) := by
  refine enter 63 [(0, .agg (ints .u8 (xs)))] Tryd.func11 rfl rfl (by kernel_rfl) rfl ?_
  refine wp_seq_k fun K2 hK2 => ?_
  refine region_lit ?_
  refine seq_alloc (ints .u8 (xs)) 23 1 rfl (by kernel_rfl) (by kernel_rfl) fun g3 W1 l3 e1 r3_1 => ?_
  have x1 : Ext w W1 := Ext.tr (Rely.Ext.refl w) e1
  have b3 : w.heap.size ≤ g3 := Nat.le_trans (Rely.Ext.refl w).size l3
  refine seq_alloc (cat [numA (0), numA (0)]) 30 2 rfl (by kernel_rfl) (by kernel_rfl) fun g4 W2 l4 e2 r4_2 => ?_
  have x2 : Ext w W2 := Ext.tr x1 e2
  have b4 : w.heap.size ≤ g4 := Nat.le_trans x1.size l4
  refine seq_val (.bool false) 3 rfl (by kernel_rfl) (by kernel_rfl) ?_
  refine seq_nil ?_
  refine hK2 _ _ ?_
  try clear hK2 K2
  refine wp_seq_k fun K5 hK5 => ?_
  refine region_lit ?_
  refine seq_val (.pointer (some ⟨g3, 31, none⟩)) 11 rfl (by kernel_rfl) (by kernel_rfl) ?_
  have r3_2 := (row_ext r3_1 e2)
  refine seq_val (.int .u8 (nth (xs) 31)) 12 rfl (by kernel_rfl) (run_loadC1 5 _ g3 31 23 _ (.int .u8 (nth (xs) 31)) _ r3_2 rfl (by kernel_rfl) (ints_get _ _ _ (Nat.lt_of_lt_of_eq (by decide) hx.symm)) (by kernel_rfl)) ?_
  refine seq_val (.int .u8 (nth xs 31 / 128)) 13 rfl (by kernel_rfl) (run_bin .shr _ _ _ _ .u8 .u64 _ _ _ rfl (by kernel_rfl) (by kernel_rfl) (b_shr _ _ _ _ _ _ (show (0 : Int) ≤ 7 by decide) (shr7 _))) ?_
  refine seq_val (.bool false) 14 rfl (by kernel_rfl) (run_eq (u := .bool (((nth xs 31 / 128) == 1))) (by kernel_rfl) (congrArg Value.bool ho)) ?_
  refine seq_val (.bool false) 4 rfl (by kernel_rfl) (by kernel_rfl) ?_
  refine seq_nil ?_
  refine hK5 _ _ ?_
  try clear hK5 K5
  refine wp_seq_k fun K6 hK6 => ?_
  refine region_lit ?_
  refine seq_val (.pointer (some ⟨g3, 31, none⟩)) 15 rfl (by kernel_rfl) (by kernel_rfl) ?_
  refine seq_val (.int .u8 (nth (xs) 31)) 16 rfl (by kernel_rfl) (run_loadC1 5 _ g3 31 23 _ (.int .u8 (nth (xs) 31)) _ r3_2 rfl (by kernel_rfl) (ints_get _ _ _ (Nat.lt_of_lt_of_eq (by decide) hx.symm)) (by kernel_rfl)) ?_
  refine seq_val (.int .u8 (nth xs 31 % 128)) 17 rfl (by kernel_rfl) (run_eq (u := .int .u8 (bits .and .u8 ((nth (xs) 31)) (127))) (by kernel_rfl) (congrArg (Value.int .u8) (and127 _ (hb.nth 31)))) ?_
  refine seq_val (.pointer (some ⟨g3, 31, none⟩)) 18 rfl (by kernel_rfl) (by kernel_rfl) ?_
  refine seq_store g3 _ (ints .u8 ((xs).set 31 (nth xs 31 % 128))) 23 r3_2 rfl (by kernel_rfl) (run_storeI 5 _ _ g3 31 23 _ _ r3_2 rfl (by kernel_rfl) (by kernel_rfl) (by kernel_rfl) (Nat.lt_of_lt_of_eq (by decide) hx.symm)) fun W3 p3 r3_3 => ?_
  have x3 : Ext w W3 := Puts.ext p3 x2 b3
  refine seq_nil ?_
  refine hK6 _ _ ?_
  try clear hK6 K6
  refine wp_seq_k fun K7 hK7 => ?_
  refine region_lit ?_
  refine seq_val (.agg (ints .u8 ((xs).set 31 (nth xs 31 % 128)))) 19 rfl (by kernel_rfl) (run_load_row 23 _ g3 23 _ _ r3_3 rfl (by kernel_rfl) (by kernel_rfl) (isz (n := 32) (by kernel_rfl) ((ints_size _ _).trans ((List.length_set ..).trans hx)))) ?_
  refine seq_call (.agg (numA (s0))) 29 #[.agg (ints .u8 ((xs).set 31 (nth xs 31 % 128)))] 20 rfl (by kernel_rfl) (by kernel_rfl) (c0 _) fun W4 e4 => ?_
  have x4 : Ext w W4 := Ext.tr x3 e4
  refine seq_alloc (numA (0)) 28 5 rfl (by kernel_rfl) (by kernel_rfl) fun g8 W5 l8 e5 r8_5 => ?_
  have x5 : Ext w W5 := Ext.tr x4 e5
  have b8 : w.heap.size ≤ g8 := Nat.le_trans x4.size l8
  refine seq_store g8 _ (numA (s0)) 28 r8_5 rfl (by kernel_rfl) (run_store_row 28 _ _ g8 28 _ _ r8_5 rfl (by kernel_rfl) (by kernel_rfl) (isz (n := 4) (by kernel_rfl) (by kernel_rfl)) (eqsz (n := 4) (by kernel_rfl) (by kernel_rfl)) (by kernel_rfl)) fun W6 p6 r8_6 => ?_
  have x6 : Ext w W6 := Puts.ext p6 x5 b8
  refine seq_nil ?_
  refine hK7 _ _ ?_
  try clear hK7 K7
  refine wp_seq_k fun K9 hK9 => ?_
  refine wp_seq_k fun K10 hK10 => ?_
  refine any_region 4 [⟨none, [(5, none)]⟩, ⟨none, [(21, some 0)]⟩, ⟨none, [(1, none)]⟩, ⟨none, [(22, some 1), (23, some 2)]⟩] (by kernel_rfl) (by kernel_rfl) fun F hF => ?_
  refine any_read (.agg (numA (s0))) (by kernel_rfl) (by kernel_rfl) (fun W hR => (run_load_row 28 _ g8 28 _ _ (row_ext (row_ext r8_6 (ext_drew _)) hR) rfl (by kernel_rfl) (by kernel_rfl) (isz (n := 4) (by kernel_rfl) (by kernel_rfl)))) ?_
  refine any_call (.agg (ints .u8 (ys))) 30 #[.agg (numA (s0))] (by kernel_rfl) (by kernel_rfl) (fun W => by kernel_rfl) (fun W hR => cb W) ?_
  have r3_4 := (row_ext r3_3 e4)
  have r3_6 := (Puts.row p6 (row_ext (row_ext r3_3 e4) e5) (ne_of_old r3_4 l8))
  refine any_read (.agg (ints .u8 ((xs).set 31 (nth xs 31 % 128)))) (by kernel_rfl) (by kernel_rfl) (fun W hR => (run_load_row 23 _ g3 23 _ _ (row_ext (row_ext r3_6 (ext_drew _)) hR) rfl (by kernel_rfl) (by kernel_rfl) (isz (n := 32) (by kernel_rfl) ((ints_size _ _).trans ((List.length_set ..).trans hx))))) ?_
  refine any_val (.bool false) (by kernel_rfl) (by kernel_rfl) (fun W => (run_neq_agg 23 _ _ _ _ _ (.bool false) rfl (by kernel_rfl) (by kernel_rfl) (by kernel_rfl) (key_neq _ _ true ys_len (by rw [List.length_set]; exact hx) hc _))) ?_
  refine steps_nil (hF _ (by kernel_rfl) fun W7 e7 => ?_)
  simp only [ups, up, Kn.val, List.take_succ_cons, List.take_zero, List.drop_succ_cons, List.drop_zero, List.nil_append, List.cons_append]
  clear hF
  have x7 : Ext w W7 := Ext.tr x6 e7
  refine seq_nil ?_
  refine hK10 _ _ ?_
  try clear hK10 K10
  refine cond_false (by kernel_rfl) ?_
  refine wp_skip ?_
  refine hK9 _ _ ?_
  try clear hK9 K9
  refine wp_seq_k fun K11 hK11 => ?_
  refine region_lit ?_
  have r8_7 := (row_ext r8_6 e7)
  refine seq_val (.agg (numA (s0))) 26 rfl (by kernel_rfl) (run_load_row 28 _ g8 28 _ _ r8_7 rfl (by kernel_rfl) (by kernel_rfl) (isz (n := 4) (by kernel_rfl) (by kernel_rfl))) ?_
  refine seq_val (.agg (numA (s0))) 27 rfl (by kernel_rfl) (run_load_row 28 _ g8 28 _ _ r8_7 rfl (by kernel_rfl) (by kernel_rfl) (isz (n := 4) (by kernel_rfl) (by kernel_rfl))) ?_
  refine seq_call (.agg (numA (s1))) 31 #[.agg (numA (s0)), .agg (numA (s0))] 28 rfl (by kernel_rfl) (by kernel_rfl) (c1 _) fun W8 e8 => ?_
  have x8 : Ext w W8 := Ext.tr x7 e8
  refine seq_call (.agg (numA (1))) 32 #[.int .i64 1] 29 rfl (by kernel_rfl) (by kernel_rfl) ((small_k 1 (by decide)) _) fun W9 e9 => ?_
  have x9 : Ext w W9 := Ext.tr x8 e9
  refine seq_alloc (numA (0)) 28 6 rfl (by kernel_rfl) (by kernel_rfl) fun g12 W10 l12 e10 r12_10 => ?_
  have x10 : Ext w W10 := Ext.tr x9 e10
  have b12 : w.heap.size ≤ g12 := Nat.le_trans x9.size l12
  refine seq_alloc (numA (0)) 28 7 rfl (by kernel_rfl) (by kernel_rfl) fun g13 W11 l13 e11 r13_11 => ?_
  have x11 : Ext w W11 := Ext.tr x10 e11
  have b13 : w.heap.size ≤ g13 := Nat.le_trans x10.size l13
  have r12_11 := (row_ext r12_10 e11)
  refine seq_store g12 _ (numA (s1)) 28 r12_11 rfl (by kernel_rfl) (run_store_row 28 _ _ g12 28 _ _ r12_11 rfl (by kernel_rfl) (by kernel_rfl) (isz (n := 4) (by kernel_rfl) (by kernel_rfl)) (eqsz (n := 4) (by kernel_rfl) (by kernel_rfl)) (by kernel_rfl)) fun W12 p12 r12_12 => ?_
  have x12 : Ext w W12 := Puts.ext p12 x11 b12
  have r13_12 := (Puts.row p12 r13_11 (ne_of_new r12_10 l13))
  refine seq_store g13 _ (numA (1)) 28 r13_12 rfl (by kernel_rfl) (run_store_row 28 _ _ g13 28 _ _ r13_12 rfl (by kernel_rfl) (by kernel_rfl) (isz (n := 4) (by kernel_rfl) (by kernel_rfl)) (eqsz (n := 4) (by kernel_rfl) (by kernel_rfl)) (by kernel_rfl)) fun W13 p13 r13_13 => ?_
  have x13 : Ext w W13 := Puts.ext p13 x12 b13
  refine seq_nil ?_
  refine hK11 _ _ ?_
  try clear hK11 K11
  refine wp_seq_k fun K14 hK14 => ?_
  refine any_regionD 7 [⟨none, [(6, none)]⟩, ⟨none, []⟩, ⟨none, [(31, some 1)]⟩, ⟨none, [(30, some 0), (32, some 2)]⟩, ⟨none, [(7, none)]⟩, ⟨none, [(33, some 3), (34, some 4)]⟩, ⟨none, []⟩] [6] (by kernel_rfl) (by kernel_rfl) (by kernel_rfl) fun F hF => ?_
  have r12_13 := (Puts.row p13 r12_12 (ne_of_old r12_10 l13))
  refine any_read (.agg (numA (s1))) (by kernel_rfl) (by kernel_rfl) (fun W hR => (run_load_row 28 _ g12 28 _ _ (row_ext (row_ext r12_13 (ext_drew _)) hR) rfl (by kernel_rfl) (by kernel_rfl) (isz (n := 4) (by kernel_rfl) (by kernel_rfl)))) ?_
  have r1_4 := (row_ext (Puts.row p3 (row_ext (row_ext hB e1) e2) (ne_of_old hB l3)) e4)
  have r1_9 := (row_ext (row_ext (row_ext (Puts.row p6 (row_ext r1_4 e5) (ne_of_old r1_4 l8)) e7) e8) e9)
  have r1_10 := (row_ext r1_9 e10)
  have r1_13 := (Puts.row p13 (Puts.row p12 (row_ext (row_ext (row_ext (row_ext (row_ext (Puts.row p6 (row_ext (row_ext (Puts.row p3 (row_ext (row_ext hB e1) e2) (ne_of_old hB l3)) e4) e5) (ne_of_old r1_4 l8)) e7) e8) e9) e10) e11) (ne_of_old r1_9 l12)) (ne_of_old r1_10 l13))
  refine any_read (.agg (ints .u8 (bendL))) (by kernel_rfl) (by kernel_rfl) (fun W hR => (run_load_row 23 _ 0 tB _ _ (row_ext (row_ext r1_13 (ext_drew _)) hR) rfl (by kernel_rfl) (by kernel_rfl) (isz (n := 32) (by kernel_rfl) ((ints_size _ _).trans (by decide))))) ?_
  refine any_call (.agg (numA (dN))) 29 #[.agg (ints .u8 (bendL))] (by kernel_rfl) (by kernel_rfl) (fun W => by kernel_rfl) (fun W hR => from_d W) ?_
  refine any_call (.agg (numA (s2))) 31 #[.agg (numA (s1)), .agg (numA (dN))] (by kernel_rfl) (by kernel_rfl) (fun W => by kernel_rfl) (fun W hR => c2 W) ?_
  refine any_read (.agg (numA (1))) (by kernel_rfl) (by kernel_rfl) (fun W hR => (run_load_row 28 _ g13 28 _ _ (row_ext (row_ext r13_13 (ext_drew _)) hR) rfl (by kernel_rfl) (by kernel_rfl) (isz (n := 4) (by kernel_rfl) (by kernel_rfl)))) ?_
  refine any_call (.agg (numA (s3))) 33 #[.agg (numA (s2)), .agg (numA (1))] (by kernel_rfl) (by kernel_rfl) (fun W => by kernel_rfl) (fun W hR => c3 W) ?_
  refine any_new (numA (0)) 28 (by kernel_rfl) (Nat.le_refl _) (by kernel_rfl) (fun W => by kernel_rfl) ?_
  refine steps_nil (hF _ (by kernel_rfl) fun W14 e14 => ?_)
  simp only [fins, up, List.take_succ_cons, List.take_zero, List.drop_succ_cons, List.drop_zero, List.nil_append, List.cons_append]
  intro g15 l15 r15_14 n15
  have b15 : w.heap.size ≤ g15 := Nat.le_trans x13.size l15
  clear hF
  have x14 : Ext w W14 := Ext.tr x13 e14
  refine seq_store g15 _ (numA (s3)) 28 r15_14 rfl (by kernel_rfl) (run_store_row 28 _ _ g15 28 _ _ r15_14 rfl (by kernel_rfl) (by kernel_rfl) (isz (n := 4) (by kernel_rfl) (by kernel_rfl)) (eqsz (n := 4) (by kernel_rfl) (by kernel_rfl)) (by kernel_rfl)) fun W15 p15 r15_15 => ?_
  have x15 : Ext w W15 := Puts.ext p15 x14 b15
  refine seq_nil ?_
  refine hK14 _ _ ?_
  try clear hK14 K14
  refine wp_seq_k fun K16 hK16 => ?_
  refine any_regionT (fun W => True) [⟨none, [(6, none)]⟩, ⟨none, [(7, none)]⟩, ⟨none, [(37, some 0), (38, some 1)]⟩, ⟨none, [(8, none)]⟩, ⟨none, [(40, some 3)]⟩, ⟨none, [(39, some 2), (41, some 4)]⟩, ⟨none, [(42, some 5)]⟩, ⟨none, [(43, some 6)]⟩, ⟨none, [(36, some 7)]⟩, ⟨none, [(36, some 7)]⟩, ⟨none, []⟩, ⟨none, [(9, some 10), (44, some 8)]⟩, ⟨none, [(45, some 9)]⟩] [10] [9, 12] (by kernel_rfl) (by kernel_rfl) (by kernel_rfl) (fun W hR => trivial) fun F hF => ?_
  have r12_15 := (Puts.row p15 (row_ext r12_13 e14) (ne_of_old r12_13 l15))
  refine t_read (.agg (numA (s1))) (by kernel_rfl) (by kernel_rfl) (by kernel_rfl) rfl (fun W hR => (run_load_row 28 _ g12 28 _ _ (row_ext (row_ext r12_15 (ext_drew _)) hR) rfl (by kernel_rfl) (by kernel_rfl) (isz (n := 4) (by kernel_rfl) (by kernel_rfl)))) ?_
  have r13_15 := (Puts.row p15 (row_ext r13_13 e14) (ne_of_old r13_13 l15))
  refine t_read (.agg (numA (1))) (by kernel_rfl) (by kernel_rfl) (by kernel_rfl) rfl (fun W hR => (run_load_row 28 _ g13 28 _ _ (row_ext (row_ext r13_15 (ext_drew _)) hR) rfl (by kernel_rfl) (by kernel_rfl) (isz (n := 4) (by kernel_rfl) (by kernel_rfl)))) ?_
  refine t_call (.agg (numA (s4))) 34 #[.agg (numA (s1)), .agg (numA (1))] (by kernel_rfl) (by kernel_rfl) (by kernel_rfl) rfl (fun W => by kernel_rfl) (fun W hR => c4 W) ?_
  refine t_read (.agg (numA (s3))) (by kernel_rfl) (by kernel_rfl) (by kernel_rfl) rfl (fun W hR => (run_load_row 28 _ g15 28 _ _ (row_ext (row_ext r15_15 (ext_drew _)) hR) rfl (by kernel_rfl) (by kernel_rfl) (isz (n := 4) (by kernel_rfl) (by kernel_rfl)))) ?_
  refine t_call (.agg (numA (s5))) 35 #[.agg (numA (s3))] (by kernel_rfl) (by kernel_rfl) (by kernel_rfl) rfl (fun W => by kernel_rfl) (fun W hR => c5 W) ?_
  refine t_call (.agg (numA (s6))) 31 #[.agg (numA (s4)), .agg (numA (s5))] (by kernel_rfl) (by kernel_rfl) (by kernel_rfl) rfl (fun W => by kernel_rfl) (fun W hR => c6 W) ?_
  refine t_call (.tuple #[.agg (numA (r)), .bool false]) 36 #[.agg (numA (s6))] (by kernel_rfl) (by kernel_rfl) (by kernel_rfl) rfl (fun W => by kernel_rfl) (fun W hR => cr W) ?_
  refine t_val (.tuple #[.agg (numA (r)), .bool false]) (by kernel_rfl) (by kernel_rfl) rfl (fun W => by kernel_rfl) ?_
  refine t_val (.agg (numA (r))) (by kernel_rfl) (by kernel_rfl) rfl (fun W => by kernel_rfl) ?_
  refine t_val (.bool false) (by kernel_rfl) (by kernel_rfl) rfl (fun W => by kernel_rfl) ?_
  refine t_new (numA (0)) 28 (by kernel_rfl) (by kernel_rfl) (Nat.le_refl _) (by kernel_rfl) rfl (fun W => by kernel_rfl) ?_
  refine t_store rfl ?_
  refine t_val (.bool false) (by kernel_rfl) (by kernel_rfl) rfl (fun W => by kernel_rfl) ?_
  refine t_nil (hF _ (by kernel_rfl) fun W16 e16 => ?_)
  simp only [List.nil_append, List.cons_append, fins, up]
  intro g17 l17 r17_16 n17
  have b17 : w.heap.size ≤ g17 := Nat.le_trans x15.size l17
  clear hF
  have x16 : Ext w W16 := Ext.tr x15 e16
  refine te_store _ g17 _ (numA (r)) 28 r17_16 rfl (run_store_row 28 _ _ g17 28 _ _ r17_16 rfl (by kernel_rfl) (by kernel_rfl) (isz (n := 4) (by kernel_rfl) (by kernel_rfl)) (eqsz (n := 4) (by kernel_rfl) (by kernel_rfl)) (by kernel_rfl)) (fun W hp => trivial) fun W17 p17 r17_17 => ?_
  have x17 : Ext w W17 := Puts.ext p17 x16 b17
  refine te_nil ?_
  refine hK16 _ _ ?_
  try clear hK16 K16
  refine wp_seq_k fun K18 hK18 => ?_
  refine wp_seq_k fun K19 hK19 => ?_
  refine region_lit ?_
  refine seq_val (.bool false) 46 rfl (by kernel_rfl) (by kernel_rfl) ?_
  refine seq_val (.bool true) 47 rfl (by kernel_rfl) (by kernel_rfl) ?_
  refine seq_val (.bool true) 48 rfl (by kernel_rfl) (by kernel_rfl) ?_
  refine seq_skip 49 rfl (by kernel_rfl) ?_
  refine seq_skip 50 rfl (by kernel_rfl) ?_
  refine seq_skip 51 rfl (by kernel_rfl) ?_
  refine seq_skip 52 rfl (by kernel_rfl) ?_
  refine seq_skip 53 rfl (by kernel_rfl) ?_
  refine seq_skip 54 rfl (by kernel_rfl) ?_
  refine seq_val (.bool true) 55 rfl (by kernel_rfl) (by kernel_rfl) ?_
  refine seq_nil ?_
  refine hK19 _ _ ?_
  try clear hK19 K19
  refine cond_true (by kernel_rfl) ?_
  refine wp_seq_k fun K20 hK20 => ?_
  refine region_lit ?_
  refine seq_val (.agg (cat [numA (0), numA (0)])) 56 rfl (by kernel_rfl) (by kernel_rfl) ?_
  have r4_4 := (row_ext (Puts.row p3 r4_2 (ne_of_new r3_1 l4)) e4)
  have r4_9 := (row_ext (row_ext (row_ext (Puts.row p6 (row_ext r4_4 e5) (ne_of_old r4_4 l8)) e7) e8) e9)
  have r4_10 := (row_ext r4_9 e10)
  have r4_13 := (Puts.row p13 (Puts.row p12 (row_ext r4_10 e11) (ne_of_old r4_9 l12)) (ne_of_old r4_10 l13))
  have r4_15 := (Puts.row p15 (row_ext r4_13 e14) (ne_of_old r4_13 l15))
  have r4_17 := (Puts.row p17 (row_ext (Puts.row p15 (row_ext (Puts.row p13 (Puts.row p12 (row_ext (row_ext (row_ext (row_ext (row_ext (Puts.row p6 (row_ext (row_ext (Puts.row p3 r4_2 (ne_of_new r3_1 l4)) e4) e5) (ne_of_old r4_4 l8)) e7) e8) e9) e10) e11) (ne_of_old r4_9 l12)) (ne_of_old r4_10 l13)) e14) (ne_of_old r4_13 l15)) e16) (ne_of_old r4_15 l17))
  refine seq_store g4 _ (cat [numA (0), numA (0)]) 30 r4_17 rfl (by kernel_rfl) (run_store_row 30 _ _ g4 30 _ _ r4_17 rfl (by kernel_rfl) (by kernel_rfl) (isz (n := 8) (by kernel_rfl) (by kernel_rfl)) (eqsz (n := 8) (by kernel_rfl) (by kernel_rfl)) (by kernel_rfl)) fun W18 p18 r4_18 => ?_
  have x18 : Ext w W18 := Puts.ext p18 x17 b4
  refine seq_val (.bool false) 3 rfl (by kernel_rfl) (by kernel_rfl) ?_
  refine seq_nil ?_
  refine hK20 _ _ ?_
  try clear hK20 K20
  refine wp_ret ?_
  exact (show bodyPost _ _ _ .ret _ _ from ret2 (.agg (cat [numA (0), numA (0)])) (.bool false) rfl (res_cell g4 30 _ r4_18 (by kernel_rfl) (by kernel_rfl) (isz (n := 8) (by kernel_rfl) (by kernel_rfl))) (res_tmp (by kernel_rfl)) ⟨rfl, x18⟩)
set_option maxHeartbeats 4000000 in
theorem pfrom_C (xs ys : List Int) (hx : xs.length = 32) (hb : AreBytes xs) (ys_len : ys.length = 32) (s0 s1 s2 s3 s4 s5 s6 r : Int) (ho : (nth xs 31 / 128 == 1) = true) (hc : decide (ys = (xs).set 31 (nth xs 31 % 128)) = true)
    (c0 : ∀ W, Calls Tryd.prog 29 #[.agg (ints .u8 ((xs).set 31 (nth xs 31 % 128)))] W (Ret W (.agg (numA (s0)))))
    (c1 : ∀ W, Calls Tryd.prog 31 #[.agg (numA (s0)), .agg (numA (s0))] W (Ret W (.agg (numA (s1)))))
    (c2 : ∀ W, Calls Tryd.prog 31 #[.agg (numA (s1)), .agg (numA (dN))] W (Ret W (.agg (numA (s2)))))
    (c3 : ∀ W, Calls Tryd.prog 33 #[.agg (numA (s2)), .agg (numA (1))] W (Ret W (.agg (numA (s3)))))
    (c4 : ∀ W, Calls Tryd.prog 34 #[.agg (numA (s1)), .agg (numA (1))] W (Ret W (.agg (numA (s4)))))
    (c5 : ∀ W, Calls Tryd.prog 35 #[.agg (numA (s3))] W (Ret W (.agg (numA (s5)))))
    (c6 : ∀ W, Calls Tryd.prog 31 #[.agg (numA (s4)), .agg (numA (s5))] W (Ret W (.agg (numA (s6)))))
    (cb : ∀ W, Calls Tryd.prog 30 #[.agg (numA (s0))] W (Ret W (.agg (ints .u8 ys))))
    (cr : ∀ W, Calls Tryd.prog 36 #[.agg (numA (s6))] W (Ret W (.tuple #[.agg (numA (r)), .bool false])))
    (w : World) (tB : TypeId) (hB : w.heap[0]? = some (.cells (ints .u8 bendL) tB)) : Calls Tryd.prog 11 #[.agg (ints .u8 (xs))] w (Ret w (.tuple #[.agg (cat [numA (0), numA (0)]), .bool false])) := by
  refine enter 63 [(0, .agg (ints .u8 (xs)))] Tryd.func11 rfl rfl (by kernel_rfl) rfl ?_
  refine wp_seq_k fun K2 hK2 => ?_
  refine region_lit ?_
  refine seq_alloc (ints .u8 (xs)) 23 1 rfl (by kernel_rfl) (by kernel_rfl) fun g3 W1 l3 e1 r3_1 => ?_
  have x1 : Ext w W1 := Ext.tr (Rely.Ext.refl w) e1
  have b3 : w.heap.size ≤ g3 := Nat.le_trans (Rely.Ext.refl w).size l3
  refine seq_alloc (cat [numA (0), numA (0)]) 30 2 rfl (by kernel_rfl) (by kernel_rfl) fun g4 W2 l4 e2 r4_2 => ?_
  have x2 : Ext w W2 := Ext.tr x1 e2
  have b4 : w.heap.size ≤ g4 := Nat.le_trans x1.size l4
  refine seq_val (.bool false) 3 rfl (by kernel_rfl) (by kernel_rfl) ?_
  refine seq_nil ?_
  refine hK2 _ _ ?_
  try clear hK2 K2
  refine wp_seq_k fun K5 hK5 => ?_
  refine region_lit ?_
  refine seq_val (.pointer (some ⟨g3, 31, none⟩)) 11 rfl (by kernel_rfl) (by kernel_rfl) ?_
  have r3_2 := (row_ext r3_1 e2)
  refine seq_val (.int .u8 (nth (xs) 31)) 12 rfl (by kernel_rfl) (run_loadC1 5 _ g3 31 23 _ (.int .u8 (nth (xs) 31)) _ r3_2 rfl (by kernel_rfl) (ints_get _ _ _ (Nat.lt_of_lt_of_eq (by decide) hx.symm)) (by kernel_rfl)) ?_
  refine seq_val (.int .u8 (nth xs 31 / 128)) 13 rfl (by kernel_rfl) (run_bin .shr _ _ _ _ .u8 .u64 _ _ _ rfl (by kernel_rfl) (by kernel_rfl) (b_shr _ _ _ _ _ _ (show (0 : Int) ≤ 7 by decide) (shr7 _))) ?_
  refine seq_val (.bool true) 14 rfl (by kernel_rfl) (run_eq (u := .bool (((nth xs 31 / 128) == 1))) (by kernel_rfl) (congrArg Value.bool ho)) ?_
  refine seq_val (.bool true) 4 rfl (by kernel_rfl) (by kernel_rfl) ?_
  refine seq_nil ?_
  refine hK5 _ _ ?_
  try clear hK5 K5
  refine wp_seq_k fun K6 hK6 => ?_
  refine region_lit ?_
  refine seq_val (.pointer (some ⟨g3, 31, none⟩)) 15 rfl (by kernel_rfl) (by kernel_rfl) ?_
  refine seq_val (.int .u8 (nth (xs) 31)) 16 rfl (by kernel_rfl) (run_loadC1 5 _ g3 31 23 _ (.int .u8 (nth (xs) 31)) _ r3_2 rfl (by kernel_rfl) (ints_get _ _ _ (Nat.lt_of_lt_of_eq (by decide) hx.symm)) (by kernel_rfl)) ?_
  refine seq_val (.int .u8 (nth xs 31 % 128)) 17 rfl (by kernel_rfl) (run_eq (u := .int .u8 (bits .and .u8 ((nth (xs) 31)) (127))) (by kernel_rfl) (congrArg (Value.int .u8) (and127 _ (hb.nth 31)))) ?_
  refine seq_val (.pointer (some ⟨g3, 31, none⟩)) 18 rfl (by kernel_rfl) (by kernel_rfl) ?_
  refine seq_store g3 _ (ints .u8 ((xs).set 31 (nth xs 31 % 128))) 23 r3_2 rfl (by kernel_rfl) (run_storeI 5 _ _ g3 31 23 _ _ r3_2 rfl (by kernel_rfl) (by kernel_rfl) (by kernel_rfl) (Nat.lt_of_lt_of_eq (by decide) hx.symm)) fun W3 p3 r3_3 => ?_
  have x3 : Ext w W3 := Puts.ext p3 x2 b3
  refine seq_nil ?_
  refine hK6 _ _ ?_
  try clear hK6 K6
  refine wp_seq_k fun K7 hK7 => ?_
  refine region_lit ?_
  refine seq_val (.agg (ints .u8 ((xs).set 31 (nth xs 31 % 128)))) 19 rfl (by kernel_rfl) (run_load_row 23 _ g3 23 _ _ r3_3 rfl (by kernel_rfl) (by kernel_rfl) (isz (n := 32) (by kernel_rfl) ((ints_size _ _).trans ((List.length_set ..).trans hx)))) ?_
  refine seq_call (.agg (numA (s0))) 29 #[.agg (ints .u8 ((xs).set 31 (nth xs 31 % 128)))] 20 rfl (by kernel_rfl) (by kernel_rfl) (c0 _) fun W4 e4 => ?_
  have x4 : Ext w W4 := Ext.tr x3 e4
  refine seq_alloc (numA (0)) 28 5 rfl (by kernel_rfl) (by kernel_rfl) fun g8 W5 l8 e5 r8_5 => ?_
  have x5 : Ext w W5 := Ext.tr x4 e5
  have b8 : w.heap.size ≤ g8 := Nat.le_trans x4.size l8
  refine seq_store g8 _ (numA (s0)) 28 r8_5 rfl (by kernel_rfl) (run_store_row 28 _ _ g8 28 _ _ r8_5 rfl (by kernel_rfl) (by kernel_rfl) (isz (n := 4) (by kernel_rfl) (by kernel_rfl)) (eqsz (n := 4) (by kernel_rfl) (by kernel_rfl)) (by kernel_rfl)) fun W6 p6 r8_6 => ?_
  have x6 : Ext w W6 := Puts.ext p6 x5 b8
  refine seq_nil ?_
  refine hK7 _ _ ?_
  try clear hK7 K7
  refine wp_seq_k fun K9 hK9 => ?_
  refine wp_seq_k fun K10 hK10 => ?_
  refine any_region 4 [⟨none, [(5, none)]⟩, ⟨none, [(21, some 0)]⟩, ⟨none, [(1, none)]⟩, ⟨none, [(22, some 1), (23, some 2)]⟩] (by kernel_rfl) (by kernel_rfl) fun F hF => ?_
  refine any_read (.agg (numA (s0))) (by kernel_rfl) (by kernel_rfl) (fun W hR => (run_load_row 28 _ g8 28 _ _ (row_ext (row_ext r8_6 (ext_drew _)) hR) rfl (by kernel_rfl) (by kernel_rfl) (isz (n := 4) (by kernel_rfl) (by kernel_rfl)))) ?_
  refine any_call (.agg (ints .u8 (ys))) 30 #[.agg (numA (s0))] (by kernel_rfl) (by kernel_rfl) (fun W => by kernel_rfl) (fun W hR => cb W) ?_
  have r3_4 := (row_ext r3_3 e4)
  have r3_6 := (Puts.row p6 (row_ext (row_ext r3_3 e4) e5) (ne_of_old r3_4 l8))
  refine any_read (.agg (ints .u8 ((xs).set 31 (nth xs 31 % 128)))) (by kernel_rfl) (by kernel_rfl) (fun W hR => (run_load_row 23 _ g3 23 _ _ (row_ext (row_ext r3_6 (ext_drew _)) hR) rfl (by kernel_rfl) (by kernel_rfl) (isz (n := 32) (by kernel_rfl) ((ints_size _ _).trans ((List.length_set ..).trans hx))))) ?_
  refine any_val (.bool false) (by kernel_rfl) (by kernel_rfl) (fun W => (run_neq_agg 23 _ _ _ _ _ (.bool false) rfl (by kernel_rfl) (by kernel_rfl) (by kernel_rfl) (key_neq _ _ true ys_len (by rw [List.length_set]; exact hx) hc _))) ?_
  refine steps_nil (hF _ (by kernel_rfl) fun W7 e7 => ?_)
  simp only [ups, up, Kn.val, List.take_succ_cons, List.take_zero, List.drop_succ_cons, List.drop_zero, List.nil_append, List.cons_append]
  clear hF
  have x7 : Ext w W7 := Ext.tr x6 e7
  refine seq_nil ?_
  refine hK10 _ _ ?_
  try clear hK10 K10
  refine cond_false (by kernel_rfl) ?_
  refine wp_skip ?_
  refine hK9 _ _ ?_
  try clear hK9 K9
  refine wp_seq_k fun K11 hK11 => ?_
  refine region_lit ?_
  have r8_7 := (row_ext r8_6 e7)
  refine seq_val (.agg (numA (s0))) 26 rfl (by kernel_rfl) (run_load_row 28 _ g8 28 _ _ r8_7 rfl (by kernel_rfl) (by kernel_rfl) (isz (n := 4) (by kernel_rfl) (by kernel_rfl))) ?_
  refine seq_val (.agg (numA (s0))) 27 rfl (by kernel_rfl) (run_load_row 28 _ g8 28 _ _ r8_7 rfl (by kernel_rfl) (by kernel_rfl) (isz (n := 4) (by kernel_rfl) (by kernel_rfl))) ?_
  refine seq_call (.agg (numA (s1))) 31 #[.agg (numA (s0)), .agg (numA (s0))] 28 rfl (by kernel_rfl) (by kernel_rfl) (c1 _) fun W8 e8 => ?_
  have x8 : Ext w W8 := Ext.tr x7 e8
  refine seq_call (.agg (numA (1))) 32 #[.int .i64 1] 29 rfl (by kernel_rfl) (by kernel_rfl) ((small_k 1 (by decide)) _) fun W9 e9 => ?_
  have x9 : Ext w W9 := Ext.tr x8 e9
  refine seq_alloc (numA (0)) 28 6 rfl (by kernel_rfl) (by kernel_rfl) fun g12 W10 l12 e10 r12_10 => ?_
  have x10 : Ext w W10 := Ext.tr x9 e10
  have b12 : w.heap.size ≤ g12 := Nat.le_trans x9.size l12
  refine seq_alloc (numA (0)) 28 7 rfl (by kernel_rfl) (by kernel_rfl) fun g13 W11 l13 e11 r13_11 => ?_
  have x11 : Ext w W11 := Ext.tr x10 e11
  have b13 : w.heap.size ≤ g13 := Nat.le_trans x10.size l13
  have r12_11 := (row_ext r12_10 e11)
  refine seq_store g12 _ (numA (s1)) 28 r12_11 rfl (by kernel_rfl) (run_store_row 28 _ _ g12 28 _ _ r12_11 rfl (by kernel_rfl) (by kernel_rfl) (isz (n := 4) (by kernel_rfl) (by kernel_rfl)) (eqsz (n := 4) (by kernel_rfl) (by kernel_rfl)) (by kernel_rfl)) fun W12 p12 r12_12 => ?_
  have x12 : Ext w W12 := Puts.ext p12 x11 b12
  have r13_12 := (Puts.row p12 r13_11 (ne_of_new r12_10 l13))
  refine seq_store g13 _ (numA (1)) 28 r13_12 rfl (by kernel_rfl) (run_store_row 28 _ _ g13 28 _ _ r13_12 rfl (by kernel_rfl) (by kernel_rfl) (isz (n := 4) (by kernel_rfl) (by kernel_rfl)) (eqsz (n := 4) (by kernel_rfl) (by kernel_rfl)) (by kernel_rfl)) fun W13 p13 r13_13 => ?_
  have x13 : Ext w W13 := Puts.ext p13 x12 b13
  refine seq_nil ?_
  refine hK11 _ _ ?_
  try clear hK11 K11
  refine wp_seq_k fun K14 hK14 => ?_
  refine any_regionD 7 [⟨none, [(6, none)]⟩, ⟨none, []⟩, ⟨none, [(31, some 1)]⟩, ⟨none, [(30, some 0), (32, some 2)]⟩, ⟨none, [(7, none)]⟩, ⟨none, [(33, some 3), (34, some 4)]⟩, ⟨none, []⟩] [6] (by kernel_rfl) (by kernel_rfl) (by kernel_rfl) fun F hF => ?_
  have r12_13 := (Puts.row p13 r12_12 (ne_of_old r12_10 l13))
  refine any_read (.agg (numA (s1))) (by kernel_rfl) (by kernel_rfl) (fun W hR => (run_load_row 28 _ g12 28 _ _ (row_ext (row_ext r12_13 (ext_drew _)) hR) rfl (by kernel_rfl) (by kernel_rfl) (isz (n := 4) (by kernel_rfl) (by kernel_rfl)))) ?_
  have r1_4 := (row_ext (Puts.row p3 (row_ext (row_ext hB e1) e2) (ne_of_old hB l3)) e4)
  have r1_9 := (row_ext (row_ext (row_ext (Puts.row p6 (row_ext r1_4 e5) (ne_of_old r1_4 l8)) e7) e8) e9)
  have r1_10 := (row_ext r1_9 e10)
  have r1_13 := (Puts.row p13 (Puts.row p12 (row_ext (row_ext (row_ext (row_ext (row_ext (Puts.row p6 (row_ext (row_ext (Puts.row p3 (row_ext (row_ext hB e1) e2) (ne_of_old hB l3)) e4) e5) (ne_of_old r1_4 l8)) e7) e8) e9) e10) e11) (ne_of_old r1_9 l12)) (ne_of_old r1_10 l13))
  refine any_read (.agg (ints .u8 (bendL))) (by kernel_rfl) (by kernel_rfl) (fun W hR => (run_load_row 23 _ 0 tB _ _ (row_ext (row_ext r1_13 (ext_drew _)) hR) rfl (by kernel_rfl) (by kernel_rfl) (isz (n := 32) (by kernel_rfl) ((ints_size _ _).trans (by decide))))) ?_
  refine any_call (.agg (numA (dN))) 29 #[.agg (ints .u8 (bendL))] (by kernel_rfl) (by kernel_rfl) (fun W => by kernel_rfl) (fun W hR => from_d W) ?_
  refine any_call (.agg (numA (s2))) 31 #[.agg (numA (s1)), .agg (numA (dN))] (by kernel_rfl) (by kernel_rfl) (fun W => by kernel_rfl) (fun W hR => c2 W) ?_
  refine any_read (.agg (numA (1))) (by kernel_rfl) (by kernel_rfl) (fun W hR => (run_load_row 28 _ g13 28 _ _ (row_ext (row_ext r13_13 (ext_drew _)) hR) rfl (by kernel_rfl) (by kernel_rfl) (isz (n := 4) (by kernel_rfl) (by kernel_rfl)))) ?_
  refine any_call (.agg (numA (s3))) 33 #[.agg (numA (s2)), .agg (numA (1))] (by kernel_rfl) (by kernel_rfl) (fun W => by kernel_rfl) (fun W hR => c3 W) ?_
  refine any_new (numA (0)) 28 (by kernel_rfl) (Nat.le_refl _) (by kernel_rfl) (fun W => by kernel_rfl) ?_
  refine steps_nil (hF _ (by kernel_rfl) fun W14 e14 => ?_)
  simp only [fins, up, List.take_succ_cons, List.take_zero, List.drop_succ_cons, List.drop_zero, List.nil_append, List.cons_append]
  intro g15 l15 r15_14 n15
  have b15 : w.heap.size ≤ g15 := Nat.le_trans x13.size l15
  clear hF
  have x14 : Ext w W14 := Ext.tr x13 e14
  refine seq_store g15 _ (numA (s3)) 28 r15_14 rfl (by kernel_rfl) (run_store_row 28 _ _ g15 28 _ _ r15_14 rfl (by kernel_rfl) (by kernel_rfl) (isz (n := 4) (by kernel_rfl) (by kernel_rfl)) (eqsz (n := 4) (by kernel_rfl) (by kernel_rfl)) (by kernel_rfl)) fun W15 p15 r15_15 => ?_
  have x15 : Ext w W15 := Puts.ext p15 x14 b15
  refine seq_nil ?_
  refine hK14 _ _ ?_
  try clear hK14 K14
  refine wp_seq_k fun K16 hK16 => ?_
  refine any_regionT (fun W => True) [⟨none, [(6, none)]⟩, ⟨none, [(7, none)]⟩, ⟨none, [(37, some 0), (38, some 1)]⟩, ⟨none, [(8, none)]⟩, ⟨none, [(40, some 3)]⟩, ⟨none, [(39, some 2), (41, some 4)]⟩, ⟨none, [(42, some 5)]⟩, ⟨none, [(43, some 6)]⟩, ⟨none, [(36, some 7)]⟩, ⟨none, [(36, some 7)]⟩, ⟨none, []⟩, ⟨none, [(9, some 10), (44, some 8)]⟩, ⟨none, [(45, some 9)]⟩] [10] [9, 12] (by kernel_rfl) (by kernel_rfl) (by kernel_rfl) (fun W hR => trivial) fun F hF => ?_
  have r12_15 := (Puts.row p15 (row_ext r12_13 e14) (ne_of_old r12_13 l15))
  refine t_read (.agg (numA (s1))) (by kernel_rfl) (by kernel_rfl) (by kernel_rfl) rfl (fun W hR => (run_load_row 28 _ g12 28 _ _ (row_ext (row_ext r12_15 (ext_drew _)) hR) rfl (by kernel_rfl) (by kernel_rfl) (isz (n := 4) (by kernel_rfl) (by kernel_rfl)))) ?_
  have r13_15 := (Puts.row p15 (row_ext r13_13 e14) (ne_of_old r13_13 l15))
  refine t_read (.agg (numA (1))) (by kernel_rfl) (by kernel_rfl) (by kernel_rfl) rfl (fun W hR => (run_load_row 28 _ g13 28 _ _ (row_ext (row_ext r13_15 (ext_drew _)) hR) rfl (by kernel_rfl) (by kernel_rfl) (isz (n := 4) (by kernel_rfl) (by kernel_rfl)))) ?_
  refine t_call (.agg (numA (s4))) 34 #[.agg (numA (s1)), .agg (numA (1))] (by kernel_rfl) (by kernel_rfl) (by kernel_rfl) rfl (fun W => by kernel_rfl) (fun W hR => c4 W) ?_
  refine t_read (.agg (numA (s3))) (by kernel_rfl) (by kernel_rfl) (by kernel_rfl) rfl (fun W hR => (run_load_row 28 _ g15 28 _ _ (row_ext (row_ext r15_15 (ext_drew _)) hR) rfl (by kernel_rfl) (by kernel_rfl) (isz (n := 4) (by kernel_rfl) (by kernel_rfl)))) ?_
  refine t_call (.agg (numA (s5))) 35 #[.agg (numA (s3))] (by kernel_rfl) (by kernel_rfl) (by kernel_rfl) rfl (fun W => by kernel_rfl) (fun W hR => c5 W) ?_
  refine t_call (.agg (numA (s6))) 31 #[.agg (numA (s4)), .agg (numA (s5))] (by kernel_rfl) (by kernel_rfl) (by kernel_rfl) rfl (fun W => by kernel_rfl) (fun W hR => c6 W) ?_
  refine t_call (.tuple #[.agg (numA (r)), .bool false]) 36 #[.agg (numA (s6))] (by kernel_rfl) (by kernel_rfl) (by kernel_rfl) rfl (fun W => by kernel_rfl) (fun W hR => cr W) ?_
  refine t_val (.tuple #[.agg (numA (r)), .bool false]) (by kernel_rfl) (by kernel_rfl) rfl (fun W => by kernel_rfl) ?_
  refine t_val (.agg (numA (r))) (by kernel_rfl) (by kernel_rfl) rfl (fun W => by kernel_rfl) ?_
  refine t_val (.bool false) (by kernel_rfl) (by kernel_rfl) rfl (fun W => by kernel_rfl) ?_
  refine t_new (numA (0)) 28 (by kernel_rfl) (by kernel_rfl) (Nat.le_refl _) (by kernel_rfl) rfl (fun W => by kernel_rfl) ?_
  refine t_store rfl ?_
  refine t_val (.bool false) (by kernel_rfl) (by kernel_rfl) rfl (fun W => by kernel_rfl) ?_
  refine t_nil (hF _ (by kernel_rfl) fun W16 e16 => ?_)
  simp only [List.nil_append, List.cons_append, fins, up]
  intro g17 l17 r17_16 n17
  have b17 : w.heap.size ≤ g17 := Nat.le_trans x15.size l17
  clear hF
  have x16 : Ext w W16 := Ext.tr x15 e16
  refine te_store _ g17 _ (numA (r)) 28 r17_16 rfl (run_store_row 28 _ _ g17 28 _ _ r17_16 rfl (by kernel_rfl) (by kernel_rfl) (isz (n := 4) (by kernel_rfl) (by kernel_rfl)) (eqsz (n := 4) (by kernel_rfl) (by kernel_rfl)) (by kernel_rfl)) (fun W hp => trivial) fun W17 p17 r17_17 => ?_
  have x17 : Ext w W17 := Puts.ext p17 x16 b17
  refine te_nil ?_
  refine hK16 _ _ ?_
  try clear hK16 K16
  refine wp_seq_k fun K18 hK18 => ?_
  refine wp_seq_k fun K19 hK19 => ?_
  refine region_lit ?_
  refine seq_val (.bool false) 46 rfl (by kernel_rfl) (by kernel_rfl) ?_
  refine seq_val (.bool true) 47 rfl (by kernel_rfl) (by kernel_rfl) ?_
  refine seq_val (.bool true) 48 rfl (by kernel_rfl) (by kernel_rfl) ?_
  refine seq_skip 49 rfl (by kernel_rfl) ?_
  refine seq_skip 50 rfl (by kernel_rfl) ?_
  refine seq_skip 51 rfl (by kernel_rfl) ?_
  refine seq_skip 52 rfl (by kernel_rfl) ?_
  refine seq_skip 53 rfl (by kernel_rfl) ?_
  refine seq_skip 54 rfl (by kernel_rfl) ?_
  refine seq_val (.bool true) 55 rfl (by kernel_rfl) (by kernel_rfl) ?_
  refine seq_nil ?_
  refine hK19 _ _ ?_
  try clear hK19 K19
  refine cond_true (by kernel_rfl) ?_
  refine wp_seq_k fun K20 hK20 => ?_
  refine region_lit ?_
  refine seq_val (.agg (cat [numA (0), numA (0)])) 56 rfl (by kernel_rfl) (by kernel_rfl) ?_
  have r4_4 := (row_ext (Puts.row p3 r4_2 (ne_of_new r3_1 l4)) e4)
  have r4_9 := (row_ext (row_ext (row_ext (Puts.row p6 (row_ext r4_4 e5) (ne_of_old r4_4 l8)) e7) e8) e9)
  have r4_10 := (row_ext r4_9 e10)
  have r4_13 := (Puts.row p13 (Puts.row p12 (row_ext r4_10 e11) (ne_of_old r4_9 l12)) (ne_of_old r4_10 l13))
  have r4_15 := (Puts.row p15 (row_ext r4_13 e14) (ne_of_old r4_13 l15))
  have r4_17 := (Puts.row p17 (row_ext (Puts.row p15 (row_ext (Puts.row p13 (Puts.row p12 (row_ext (row_ext (row_ext (row_ext (row_ext (Puts.row p6 (row_ext (row_ext (Puts.row p3 r4_2 (ne_of_new r3_1 l4)) e4) e5) (ne_of_old r4_4 l8)) e7) e8) e9) e10) e11) (ne_of_old r4_9 l12)) (ne_of_old r4_10 l13)) e14) (ne_of_old r4_13 l15)) e16) (ne_of_old r4_15 l17))
  refine seq_store g4 _ (cat [numA (0), numA (0)]) 30 r4_17 rfl (by kernel_rfl) (run_store_row 30 _ _ g4 30 _ _ r4_17 rfl (by kernel_rfl) (by kernel_rfl) (isz (n := 8) (by kernel_rfl) (by kernel_rfl)) (eqsz (n := 8) (by kernel_rfl) (by kernel_rfl)) (by kernel_rfl)) fun W18 p18 r4_18 => ?_
  have x18 : Ext w W18 := Puts.ext p18 x17 b4
  refine seq_val (.bool false) 3 rfl (by kernel_rfl) (by kernel_rfl) ?_
  refine seq_nil ?_
  refine hK20 _ _ ?_
  try clear hK20 K20
  refine wp_ret ?_
  exact (show bodyPost _ _ _ .ret _ _ from ret2 (.agg (cat [numA (0), numA (0)])) (.bool false) rfl (res_cell g4 30 _ r4_18 (by kernel_rfl) (by kernel_rfl) (isz (n := 8) (by kernel_rfl) (by kernel_rfl))) (res_tmp (by kernel_rfl)) ⟨rfl, x18⟩)
set_option maxHeartbeats 4000000 in
theorem pfrom_D (xs ys : List Int) (hx : xs.length = 32) (hb : AreBytes xs) (ys_len : ys.length = 32) (s0 s1 s2 s3 s4 s5 s6 r : Int) (ho : (nth xs 31 / 128 == 1) = true) (hc : decide (ys = (xs).set 31 (nth xs 31 % 128)) = true) (h_r : isN r) (hz : (r == 0) = true)
    (c0 : ∀ W, Calls Tryd.prog 29 #[.agg (ints .u8 ((xs).set 31 (nth xs 31 % 128)))] W (Ret W (.agg (numA (s0)))))
    (c1 : ∀ W, Calls Tryd.prog 31 #[.agg (numA (s0)), .agg (numA (s0))] W (Ret W (.agg (numA (s1)))))
    (c2 : ∀ W, Calls Tryd.prog 31 #[.agg (numA (s1)), .agg (numA (dN))] W (Ret W (.agg (numA (s2)))))
    (c3 : ∀ W, Calls Tryd.prog 33 #[.agg (numA (s2)), .agg (numA (1))] W (Ret W (.agg (numA (s3)))))
    (c4 : ∀ W, Calls Tryd.prog 34 #[.agg (numA (s1)), .agg (numA (1))] W (Ret W (.agg (numA (s4)))))
    (c5 : ∀ W, Calls Tryd.prog 35 #[.agg (numA (s3))] W (Ret W (.agg (numA (s5)))))
    (c6 : ∀ W, Calls Tryd.prog 31 #[.agg (numA (s4)), .agg (numA (s5))] W (Ret W (.agg (numA (s6)))))
    (cb : ∀ W, Calls Tryd.prog 30 #[.agg (numA (s0))] W (Ret W (.agg (ints .u8 ys))))
    (cr : ∀ W, Calls Tryd.prog 36 #[.agg (numA (s6))] W (Ret W (.tuple #[.agg (numA (r)), .bool true])))
    (w : World) (tB : TypeId) (hB : w.heap[0]? = some (.cells (ints .u8 bendL) tB)) : Calls Tryd.prog 11 #[.agg (ints .u8 (xs))] w (Ret w (.tuple #[.agg (cat [numA (0), numA (0)]), .bool false])) := by
  refine enter 63 [(0, .agg (ints .u8 (xs)))] Tryd.func11 rfl rfl (by kernel_rfl) rfl ?_
  refine wp_seq_k fun K2 hK2 => ?_
  refine region_lit ?_
  refine seq_alloc (ints .u8 (xs)) 23 1 rfl (by kernel_rfl) (by kernel_rfl) fun g3 W1 l3 e1 r3_1 => ?_
  have x1 : Ext w W1 := Ext.tr (Rely.Ext.refl w) e1
  have b3 : w.heap.size ≤ g3 := Nat.le_trans (Rely.Ext.refl w).size l3
  refine seq_alloc (cat [numA (0), numA (0)]) 30 2 rfl (by kernel_rfl) (by kernel_rfl) fun g4 W2 l4 e2 r4_2 => ?_
  have x2 : Ext w W2 := Ext.tr x1 e2
  have b4 : w.heap.size ≤ g4 := Nat.le_trans x1.size l4
  refine seq_val (.bool false) 3 rfl (by kernel_rfl) (by kernel_rfl) ?_
  refine seq_nil ?_
  refine hK2 _ _ ?_
  try clear hK2 K2
  refine wp_seq_k fun K5 hK5 => ?_
  refine region_lit ?_
  refine seq_val (.pointer (some ⟨g3, 31, none⟩)) 11 rfl (by kernel_rfl) (by kernel_rfl) ?_
  have r3_2 := (row_ext r3_1 e2)
  refine seq_val (.int .u8 (nth (xs) 31)) 12 rfl (by kernel_rfl) (run_loadC1 5 _ g3 31 23 _ (.int .u8 (nth (xs) 31)) _ r3_2 rfl (by kernel_rfl) (ints_get _ _ _ (Nat.lt_of_lt_of_eq (by decide) hx.symm)) (by kernel_rfl)) ?_
  refine seq_val (.int .u8 (nth xs 31 / 128)) 13 rfl (by kernel_rfl) (run_bin .shr _ _ _ _ .u8 .u64 _ _ _ rfl (by kernel_rfl) (by kernel_rfl) (b_shr _ _ _ _ _ _ (show (0 : Int) ≤ 7 by decide) (shr7 _))) ?_
  refine seq_val (.bool true) 14 rfl (by kernel_rfl) (run_eq (u := .bool (((nth xs 31 / 128) == 1))) (by kernel_rfl) (congrArg Value.bool ho)) ?_
  refine seq_val (.bool true) 4 rfl (by kernel_rfl) (by kernel_rfl) ?_
  refine seq_nil ?_
  refine hK5 _ _ ?_
  try clear hK5 K5
  refine wp_seq_k fun K6 hK6 => ?_
  refine region_lit ?_
  refine seq_val (.pointer (some ⟨g3, 31, none⟩)) 15 rfl (by kernel_rfl) (by kernel_rfl) ?_
  refine seq_val (.int .u8 (nth (xs) 31)) 16 rfl (by kernel_rfl) (run_loadC1 5 _ g3 31 23 _ (.int .u8 (nth (xs) 31)) _ r3_2 rfl (by kernel_rfl) (ints_get _ _ _ (Nat.lt_of_lt_of_eq (by decide) hx.symm)) (by kernel_rfl)) ?_
  refine seq_val (.int .u8 (nth xs 31 % 128)) 17 rfl (by kernel_rfl) (run_eq (u := .int .u8 (bits .and .u8 ((nth (xs) 31)) (127))) (by kernel_rfl) (congrArg (Value.int .u8) (and127 _ (hb.nth 31)))) ?_
  refine seq_val (.pointer (some ⟨g3, 31, none⟩)) 18 rfl (by kernel_rfl) (by kernel_rfl) ?_
  refine seq_store g3 _ (ints .u8 ((xs).set 31 (nth xs 31 % 128))) 23 r3_2 rfl (by kernel_rfl) (run_storeI 5 _ _ g3 31 23 _ _ r3_2 rfl (by kernel_rfl) (by kernel_rfl) (by kernel_rfl) (Nat.lt_of_lt_of_eq (by decide) hx.symm)) fun W3 p3 r3_3 => ?_
  have x3 : Ext w W3 := Puts.ext p3 x2 b3
  refine seq_nil ?_
  refine hK6 _ _ ?_
  try clear hK6 K6
  refine wp_seq_k fun K7 hK7 => ?_
  refine region_lit ?_
  refine seq_val (.agg (ints .u8 ((xs).set 31 (nth xs 31 % 128)))) 19 rfl (by kernel_rfl) (run_load_row 23 _ g3 23 _ _ r3_3 rfl (by kernel_rfl) (by kernel_rfl) (isz (n := 32) (by kernel_rfl) ((ints_size _ _).trans ((List.length_set ..).trans hx)))) ?_
  refine seq_call (.agg (numA (s0))) 29 #[.agg (ints .u8 ((xs).set 31 (nth xs 31 % 128)))] 20 rfl (by kernel_rfl) (by kernel_rfl) (c0 _) fun W4 e4 => ?_
  have x4 : Ext w W4 := Ext.tr x3 e4
  refine seq_alloc (numA (0)) 28 5 rfl (by kernel_rfl) (by kernel_rfl) fun g8 W5 l8 e5 r8_5 => ?_
  have x5 : Ext w W5 := Ext.tr x4 e5
  have b8 : w.heap.size ≤ g8 := Nat.le_trans x4.size l8
  refine seq_store g8 _ (numA (s0)) 28 r8_5 rfl (by kernel_rfl) (run_store_row 28 _ _ g8 28 _ _ r8_5 rfl (by kernel_rfl) (by kernel_rfl) (isz (n := 4) (by kernel_rfl) (by kernel_rfl)) (eqsz (n := 4) (by kernel_rfl) (by kernel_rfl)) (by kernel_rfl)) fun W6 p6 r8_6 => ?_
  have x6 : Ext w W6 := Puts.ext p6 x5 b8
  refine seq_nil ?_
  refine hK7 _ _ ?_
  try clear hK7 K7
  refine wp_seq_k fun K9 hK9 => ?_
  refine wp_seq_k fun K10 hK10 => ?_
  refine any_region 4 [⟨none, [(5, none)]⟩, ⟨none, [(21, some 0)]⟩, ⟨none, [(1, none)]⟩, ⟨none, [(22, some 1), (23, some 2)]⟩] (by kernel_rfl) (by kernel_rfl) fun F hF => ?_
  refine any_read (.agg (numA (s0))) (by kernel_rfl) (by kernel_rfl) (fun W hR => (run_load_row 28 _ g8 28 _ _ (row_ext (row_ext r8_6 (ext_drew _)) hR) rfl (by kernel_rfl) (by kernel_rfl) (isz (n := 4) (by kernel_rfl) (by kernel_rfl)))) ?_
  refine any_call (.agg (ints .u8 (ys))) 30 #[.agg (numA (s0))] (by kernel_rfl) (by kernel_rfl) (fun W => by kernel_rfl) (fun W hR => cb W) ?_
  have r3_4 := (row_ext r3_3 e4)
  have r3_6 := (Puts.row p6 (row_ext (row_ext r3_3 e4) e5) (ne_of_old r3_4 l8))
  refine any_read (.agg (ints .u8 ((xs).set 31 (nth xs 31 % 128)))) (by kernel_rfl) (by kernel_rfl) (fun W hR => (run_load_row 23 _ g3 23 _ _ (row_ext (row_ext r3_6 (ext_drew _)) hR) rfl (by kernel_rfl) (by kernel_rfl) (isz (n := 32) (by kernel_rfl) ((ints_size _ _).trans ((List.length_set ..).trans hx))))) ?_
  refine any_val (.bool false) (by kernel_rfl) (by kernel_rfl) (fun W => (run_neq_agg 23 _ _ _ _ _ (.bool false) rfl (by kernel_rfl) (by kernel_rfl) (by kernel_rfl) (key_neq _ _ true ys_len (by rw [List.length_set]; exact hx) hc _))) ?_
  refine steps_nil (hF _ (by kernel_rfl) fun W7 e7 => ?_)
  simp only [ups, up, Kn.val, List.take_succ_cons, List.take_zero, List.drop_succ_cons, List.drop_zero, List.nil_append, List.cons_append]
  clear hF
  have x7 : Ext w W7 := Ext.tr x6 e7
  refine seq_nil ?_
  refine hK10 _ _ ?_
  try clear hK10 K10
  refine cond_false (by kernel_rfl) ?_
  refine wp_skip ?_
  refine hK9 _ _ ?_
  try clear hK9 K9
  refine wp_seq_k fun K11 hK11 => ?_
  refine region_lit ?_
  have r8_7 := (row_ext r8_6 e7)
  refine seq_val (.agg (numA (s0))) 26 rfl (by kernel_rfl) (run_load_row 28 _ g8 28 _ _ r8_7 rfl (by kernel_rfl) (by kernel_rfl) (isz (n := 4) (by kernel_rfl) (by kernel_rfl))) ?_
  refine seq_val (.agg (numA (s0))) 27 rfl (by kernel_rfl) (run_load_row 28 _ g8 28 _ _ r8_7 rfl (by kernel_rfl) (by kernel_rfl) (isz (n := 4) (by kernel_rfl) (by kernel_rfl))) ?_
  refine seq_call (.agg (numA (s1))) 31 #[.agg (numA (s0)), .agg (numA (s0))] 28 rfl (by kernel_rfl) (by kernel_rfl) (c1 _) fun W8 e8 => ?_
  have x8 : Ext w W8 := Ext.tr x7 e8
  refine seq_call (.agg (numA (1))) 32 #[.int .i64 1] 29 rfl (by kernel_rfl) (by kernel_rfl) ((small_k 1 (by decide)) _) fun W9 e9 => ?_
  have x9 : Ext w W9 := Ext.tr x8 e9
  refine seq_alloc (numA (0)) 28 6 rfl (by kernel_rfl) (by kernel_rfl) fun g12 W10 l12 e10 r12_10 => ?_
  have x10 : Ext w W10 := Ext.tr x9 e10
  have b12 : w.heap.size ≤ g12 := Nat.le_trans x9.size l12
  refine seq_alloc (numA (0)) 28 7 rfl (by kernel_rfl) (by kernel_rfl) fun g13 W11 l13 e11 r13_11 => ?_
  have x11 : Ext w W11 := Ext.tr x10 e11
  have b13 : w.heap.size ≤ g13 := Nat.le_trans x10.size l13
  have r12_11 := (row_ext r12_10 e11)
  refine seq_store g12 _ (numA (s1)) 28 r12_11 rfl (by kernel_rfl) (run_store_row 28 _ _ g12 28 _ _ r12_11 rfl (by kernel_rfl) (by kernel_rfl) (isz (n := 4) (by kernel_rfl) (by kernel_rfl)) (eqsz (n := 4) (by kernel_rfl) (by kernel_rfl)) (by kernel_rfl)) fun W12 p12 r12_12 => ?_
  have x12 : Ext w W12 := Puts.ext p12 x11 b12
  have r13_12 := (Puts.row p12 r13_11 (ne_of_new r12_10 l13))
  refine seq_store g13 _ (numA (1)) 28 r13_12 rfl (by kernel_rfl) (run_store_row 28 _ _ g13 28 _ _ r13_12 rfl (by kernel_rfl) (by kernel_rfl) (isz (n := 4) (by kernel_rfl) (by kernel_rfl)) (eqsz (n := 4) (by kernel_rfl) (by kernel_rfl)) (by kernel_rfl)) fun W13 p13 r13_13 => ?_
  have x13 : Ext w W13 := Puts.ext p13 x12 b13
  refine seq_nil ?_
  refine hK11 _ _ ?_
  try clear hK11 K11
  refine wp_seq_k fun K14 hK14 => ?_
  refine any_regionD 7 [⟨none, [(6, none)]⟩, ⟨none, []⟩, ⟨none, [(31, some 1)]⟩, ⟨none, [(30, some 0), (32, some 2)]⟩, ⟨none, [(7, none)]⟩, ⟨none, [(33, some 3), (34, some 4)]⟩, ⟨none, []⟩] [6] (by kernel_rfl) (by kernel_rfl) (by kernel_rfl) fun F hF => ?_
  have r12_13 := (Puts.row p13 r12_12 (ne_of_old r12_10 l13))
  refine any_read (.agg (numA (s1))) (by kernel_rfl) (by kernel_rfl) (fun W hR => (run_load_row 28 _ g12 28 _ _ (row_ext (row_ext r12_13 (ext_drew _)) hR) rfl (by kernel_rfl) (by kernel_rfl) (isz (n := 4) (by kernel_rfl) (by kernel_rfl)))) ?_
  have r1_4 := (row_ext (Puts.row p3 (row_ext (row_ext hB e1) e2) (ne_of_old hB l3)) e4)
  have r1_9 := (row_ext (row_ext (row_ext (Puts.row p6 (row_ext r1_4 e5) (ne_of_old r1_4 l8)) e7) e8) e9)
  have r1_10 := (row_ext r1_9 e10)
  have r1_13 := (Puts.row p13 (Puts.row p12 (row_ext (row_ext (row_ext (row_ext (row_ext (Puts.row p6 (row_ext (row_ext (Puts.row p3 (row_ext (row_ext hB e1) e2) (ne_of_old hB l3)) e4) e5) (ne_of_old r1_4 l8)) e7) e8) e9) e10) e11) (ne_of_old r1_9 l12)) (ne_of_old r1_10 l13))
  refine any_read (.agg (ints .u8 (bendL))) (by kernel_rfl) (by kernel_rfl) (fun W hR => (run_load_row 23 _ 0 tB _ _ (row_ext (row_ext r1_13 (ext_drew _)) hR) rfl (by kernel_rfl) (by kernel_rfl) (isz (n := 32) (by kernel_rfl) ((ints_size _ _).trans (by decide))))) ?_
  refine any_call (.agg (numA (dN))) 29 #[.agg (ints .u8 (bendL))] (by kernel_rfl) (by kernel_rfl) (fun W => by kernel_rfl) (fun W hR => from_d W) ?_
  refine any_call (.agg (numA (s2))) 31 #[.agg (numA (s1)), .agg (numA (dN))] (by kernel_rfl) (by kernel_rfl) (fun W => by kernel_rfl) (fun W hR => c2 W) ?_
  refine any_read (.agg (numA (1))) (by kernel_rfl) (by kernel_rfl) (fun W hR => (run_load_row 28 _ g13 28 _ _ (row_ext (row_ext r13_13 (ext_drew _)) hR) rfl (by kernel_rfl) (by kernel_rfl) (isz (n := 4) (by kernel_rfl) (by kernel_rfl)))) ?_
  refine any_call (.agg (numA (s3))) 33 #[.agg (numA (s2)), .agg (numA (1))] (by kernel_rfl) (by kernel_rfl) (fun W => by kernel_rfl) (fun W hR => c3 W) ?_
  refine any_new (numA (0)) 28 (by kernel_rfl) (Nat.le_refl _) (by kernel_rfl) (fun W => by kernel_rfl) ?_
  refine steps_nil (hF _ (by kernel_rfl) fun W14 e14 => ?_)
  simp only [fins, up, List.take_succ_cons, List.take_zero, List.drop_succ_cons, List.drop_zero, List.nil_append, List.cons_append]
  intro g15 l15 r15_14 n15
  have b15 : w.heap.size ≤ g15 := Nat.le_trans x13.size l15
  clear hF
  have x14 : Ext w W14 := Ext.tr x13 e14
  refine seq_store g15 _ (numA (s3)) 28 r15_14 rfl (by kernel_rfl) (run_store_row 28 _ _ g15 28 _ _ r15_14 rfl (by kernel_rfl) (by kernel_rfl) (isz (n := 4) (by kernel_rfl) (by kernel_rfl)) (eqsz (n := 4) (by kernel_rfl) (by kernel_rfl)) (by kernel_rfl)) fun W15 p15 r15_15 => ?_
  have x15 : Ext w W15 := Puts.ext p15 x14 b15
  refine seq_nil ?_
  refine hK14 _ _ ?_
  try clear hK14 K14
  refine wp_seq_k fun K16 hK16 => ?_
  refine any_regionT (fun W => True) [⟨none, [(6, none)]⟩, ⟨none, [(7, none)]⟩, ⟨none, [(37, some 0), (38, some 1)]⟩, ⟨none, [(8, none)]⟩, ⟨none, [(40, some 3)]⟩, ⟨none, [(39, some 2), (41, some 4)]⟩, ⟨none, [(42, some 5)]⟩, ⟨none, [(43, some 6)]⟩, ⟨none, [(36, some 7)]⟩, ⟨none, [(36, some 7)]⟩, ⟨none, []⟩, ⟨none, [(9, some 10), (44, some 8)]⟩, ⟨none, [(45, some 9)]⟩] [10] [9, 12] (by kernel_rfl) (by kernel_rfl) (by kernel_rfl) (fun W hR => trivial) fun F hF => ?_
  have r12_15 := (Puts.row p15 (row_ext r12_13 e14) (ne_of_old r12_13 l15))
  refine t_read (.agg (numA (s1))) (by kernel_rfl) (by kernel_rfl) (by kernel_rfl) rfl (fun W hR => (run_load_row 28 _ g12 28 _ _ (row_ext (row_ext r12_15 (ext_drew _)) hR) rfl (by kernel_rfl) (by kernel_rfl) (isz (n := 4) (by kernel_rfl) (by kernel_rfl)))) ?_
  have r13_15 := (Puts.row p15 (row_ext r13_13 e14) (ne_of_old r13_13 l15))
  refine t_read (.agg (numA (1))) (by kernel_rfl) (by kernel_rfl) (by kernel_rfl) rfl (fun W hR => (run_load_row 28 _ g13 28 _ _ (row_ext (row_ext r13_15 (ext_drew _)) hR) rfl (by kernel_rfl) (by kernel_rfl) (isz (n := 4) (by kernel_rfl) (by kernel_rfl)))) ?_
  refine t_call (.agg (numA (s4))) 34 #[.agg (numA (s1)), .agg (numA (1))] (by kernel_rfl) (by kernel_rfl) (by kernel_rfl) rfl (fun W => by kernel_rfl) (fun W hR => c4 W) ?_
  refine t_read (.agg (numA (s3))) (by kernel_rfl) (by kernel_rfl) (by kernel_rfl) rfl (fun W hR => (run_load_row 28 _ g15 28 _ _ (row_ext (row_ext r15_15 (ext_drew _)) hR) rfl (by kernel_rfl) (by kernel_rfl) (isz (n := 4) (by kernel_rfl) (by kernel_rfl)))) ?_
  refine t_call (.agg (numA (s5))) 35 #[.agg (numA (s3))] (by kernel_rfl) (by kernel_rfl) (by kernel_rfl) rfl (fun W => by kernel_rfl) (fun W hR => c5 W) ?_
  refine t_call (.agg (numA (s6))) 31 #[.agg (numA (s4)), .agg (numA (s5))] (by kernel_rfl) (by kernel_rfl) (by kernel_rfl) rfl (fun W => by kernel_rfl) (fun W hR => c6 W) ?_
  refine t_call (.tuple #[.agg (numA (r)), .bool true]) 36 #[.agg (numA (s6))] (by kernel_rfl) (by kernel_rfl) (by kernel_rfl) rfl (fun W => by kernel_rfl) (fun W hR => cr W) ?_
  refine t_val (.tuple #[.agg (numA (r)), .bool true]) (by kernel_rfl) (by kernel_rfl) rfl (fun W => by kernel_rfl) ?_
  refine t_val (.agg (numA (r))) (by kernel_rfl) (by kernel_rfl) rfl (fun W => by kernel_rfl) ?_
  refine t_val (.bool true) (by kernel_rfl) (by kernel_rfl) rfl (fun W => by kernel_rfl) ?_
  refine t_new (numA (0)) 28 (by kernel_rfl) (by kernel_rfl) (Nat.le_refl _) (by kernel_rfl) rfl (fun W => by kernel_rfl) ?_
  refine t_store rfl ?_
  refine t_val (.bool true) (by kernel_rfl) (by kernel_rfl) rfl (fun W => by kernel_rfl) ?_
  refine t_nil (hF _ (by kernel_rfl) fun W16 e16 => ?_)
  simp only [List.nil_append, List.cons_append, fins, up]
  intro g17 l17 r17_16 n17
  have b17 : w.heap.size ≤ g17 := Nat.le_trans x15.size l17
  clear hF
  have x16 : Ext w W16 := Ext.tr x15 e16
  refine te_store _ g17 _ (numA (r)) 28 r17_16 rfl (run_store_row 28 _ _ g17 28 _ _ r17_16 rfl (by kernel_rfl) (by kernel_rfl) (isz (n := 4) (by kernel_rfl) (by kernel_rfl)) (eqsz (n := 4) (by kernel_rfl) (by kernel_rfl)) (by kernel_rfl)) (fun W hp => trivial) fun W17 p17 r17_17 => ?_
  have x17 : Ext w W17 := Puts.ext p17 x16 b17
  refine te_nil ?_
  refine hK16 _ _ ?_
  try clear hK16 K16
  refine wp_seq_k fun K18 hK18 => ?_
  refine wp_seq_k fun K19 hK19 => ?_
  refine region_lit ?_
  refine seq_val (.bool true) 46 rfl (by kernel_rfl) (by kernel_rfl) ?_
  refine seq_val (.bool false) 47 rfl (by kernel_rfl) (by kernel_rfl) ?_
  refine seq_val (.bool false) 48 rfl (by kernel_rfl) (by kernel_rfl) ?_
  refine seq_val (.bool true) 49 rfl (by kernel_rfl) (by kernel_rfl) ?_
  refine seq_val (.bool true) 50 rfl (by kernel_rfl) (by kernel_rfl) ?_
  refine seq_val (.agg (numA (r))) 51 rfl (by kernel_rfl) (run_load_row 28 _ g17 28 _ _ r17_17 rfl (by kernel_rfl) (by kernel_rfl) (isz (n := 4) (by kernel_rfl) (by kernel_rfl))) ?_
  refine seq_val (.agg (numA (0))) 52 rfl (by kernel_rfl) (by kernel_rfl) ?_
  refine seq_val (.bool true) 53 rfl (by kernel_rfl) (run_eql_agg 28 _ _ _ _ _ (.bool true) rfl (by kernel_rfl) (by kernel_rfl) (by kernel_rfl) (num_eql _ _ true h_r (num_isN 0) hz _)) ?_
  refine seq_val (.bool true) 54 rfl (by kernel_rfl) (by kernel_rfl) ?_
  refine seq_val (.bool true) 55 rfl (by kernel_rfl) (by kernel_rfl) ?_
  refine seq_nil ?_
  refine hK19 _ _ ?_
  try clear hK19 K19
  refine cond_true (by kernel_rfl) ?_
  refine wp_seq_k fun K20 hK20 => ?_
  refine region_lit ?_
  refine seq_val (.agg (cat [numA (0), numA (0)])) 56 rfl (by kernel_rfl) (by kernel_rfl) ?_
  have r4_4 := (row_ext (Puts.row p3 r4_2 (ne_of_new r3_1 l4)) e4)
  have r4_9 := (row_ext (row_ext (row_ext (Puts.row p6 (row_ext r4_4 e5) (ne_of_old r4_4 l8)) e7) e8) e9)
  have r4_10 := (row_ext r4_9 e10)
  have r4_13 := (Puts.row p13 (Puts.row p12 (row_ext r4_10 e11) (ne_of_old r4_9 l12)) (ne_of_old r4_10 l13))
  have r4_15 := (Puts.row p15 (row_ext r4_13 e14) (ne_of_old r4_13 l15))
  have r4_17 := (Puts.row p17 (row_ext (Puts.row p15 (row_ext (Puts.row p13 (Puts.row p12 (row_ext (row_ext (row_ext (row_ext (row_ext (Puts.row p6 (row_ext (row_ext (Puts.row p3 r4_2 (ne_of_new r3_1 l4)) e4) e5) (ne_of_old r4_4 l8)) e7) e8) e9) e10) e11) (ne_of_old r4_9 l12)) (ne_of_old r4_10 l13)) e14) (ne_of_old r4_13 l15)) e16) (ne_of_old r4_15 l17))
  refine seq_store g4 _ (cat [numA (0), numA (0)]) 30 r4_17 rfl (by kernel_rfl) (run_store_row 30 _ _ g4 30 _ _ r4_17 rfl (by kernel_rfl) (by kernel_rfl) (isz (n := 8) (by kernel_rfl) (by kernel_rfl)) (eqsz (n := 8) (by kernel_rfl) (by kernel_rfl)) (by kernel_rfl)) fun W18 p18 r4_18 => ?_
  have x18 : Ext w W18 := Puts.ext p18 x17 b4
  refine seq_val (.bool false) 3 rfl (by kernel_rfl) (by kernel_rfl) ?_
  refine seq_nil ?_
  refine hK20 _ _ ?_
  try clear hK20 K20
  refine wp_ret ?_
  exact (show bodyPost _ _ _ .ret _ _ from ret2 (.agg (cat [numA (0), numA (0)])) (.bool false) rfl (res_cell g4 30 _ r4_18 (by kernel_rfl) (by kernel_rfl) (isz (n := 8) (by kernel_rfl) (by kernel_rfl))) (res_tmp (by kernel_rfl)) ⟨rfl, x18⟩)
set_option maxHeartbeats 4000000 in
theorem pfrom_E (xs ys : List Int) (hx : xs.length = 32) (hb : AreBytes xs) (ys_len : ys.length = 32) (s0 s1 s2 s3 s4 s5 s6 r ng px pl : Int) (ho : (nth xs 31 / 128 == 1) = true) (hc : decide (ys = (xs).set 31 (nth xs 31 % 128)) = true) (h_r : isN r) (hz : (r == 0) = false)
    (c0 : ∀ W, Calls Tryd.prog 29 #[.agg (ints .u8 ((xs).set 31 (nth xs 31 % 128)))] W (Ret W (.agg (numA (s0)))))
    (c1 : ∀ W, Calls Tryd.prog 31 #[.agg (numA (s0)), .agg (numA (s0))] W (Ret W (.agg (numA (s1)))))
    (c2 : ∀ W, Calls Tryd.prog 31 #[.agg (numA (s1)), .agg (numA (dN))] W (Ret W (.agg (numA (s2)))))
    (c3 : ∀ W, Calls Tryd.prog 33 #[.agg (numA (s2)), .agg (numA (1))] W (Ret W (.agg (numA (s3)))))
    (c4 : ∀ W, Calls Tryd.prog 34 #[.agg (numA (s1)), .agg (numA (1))] W (Ret W (.agg (numA (s4)))))
    (c5 : ∀ W, Calls Tryd.prog 35 #[.agg (numA (s3))] W (Ret W (.agg (numA (s5)))))
    (c6 : ∀ W, Calls Tryd.prog 31 #[.agg (numA (s4)), .agg (numA (s5))] W (Ret W (.agg (numA (s6)))))
    (cb : ∀ W, Calls Tryd.prog 30 #[.agg (numA (s0))] W (Ret W (.agg (ints .u8 ys))))
    (cr : ∀ W, Calls Tryd.prog 36 #[.agg (numA (s6))] W (Ret W (.tuple #[.agg (numA (r)), .bool true])))
    (cn : ∀ W, Calls Tryd.prog 37 #[num r] W (Ret W (num ng)))
    (cp : ∀ W, Calls Tryd.prog 38 #[num ng, num s0] W (Ret W (.agg (cat [numA px, numA pl]))))
    (w : World) (tB : TypeId) (hB : w.heap[0]? = some (.cells (ints .u8 bendL) tB)) : Calls Tryd.prog 11 #[.agg (ints .u8 (xs))] w (Ret w (.tuple #[.agg (cat [numA (px), numA (pl)]), .bool true])) := by
  refine enter 63 [(0, .agg (ints .u8 (xs)))] Tryd.func11 rfl rfl (by kernel_rfl) rfl ?_
  refine wp_seq_k fun K2 hK2 => ?_
  refine region_lit ?_
  refine seq_alloc (ints .u8 (xs)) 23 1 rfl (by kernel_rfl) (by kernel_rfl) fun g3 W1 l3 e1 r3_1 => ?_
  have x1 : Ext w W1 := Ext.tr (Rely.Ext.refl w) e1
  have b3 : w.heap.size ≤ g3 := Nat.le_trans (Rely.Ext.refl w).size l3
  refine seq_alloc (cat [numA (0), numA (0)]) 30 2 rfl (by kernel_rfl) (by kernel_rfl) fun g4 W2 l4 e2 r4_2 => ?_
  have x2 : Ext w W2 := Ext.tr x1 e2
  have b4 : w.heap.size ≤ g4 := Nat.le_trans x1.size l4
  refine seq_val (.bool false) 3 rfl (by kernel_rfl) (by kernel_rfl) ?_
  refine seq_nil ?_
  refine hK2 _ _ ?_
  try clear hK2 K2
  refine wp_seq_k fun K5 hK5 => ?_
  refine region_lit ?_
  refine seq_val (.pointer (some ⟨g3, 31, none⟩)) 11 rfl (by kernel_rfl) (by kernel_rfl) ?_
  have r3_2 := (row_ext r3_1 e2)
  refine seq_val (.int .u8 (nth (xs) 31)) 12 rfl (by kernel_rfl) (run_loadC1 5 _ g3 31 23 _ (.int .u8 (nth (xs) 31)) _ r3_2 rfl (by kernel_rfl) (ints_get _ _ _ (Nat.lt_of_lt_of_eq (by decide) hx.symm)) (by kernel_rfl)) ?_
  refine seq_val (.int .u8 (nth xs 31 / 128)) 13 rfl (by kernel_rfl) (run_bin .shr _ _ _ _ .u8 .u64 _ _ _ rfl (by kernel_rfl) (by kernel_rfl) (b_shr _ _ _ _ _ _ (show (0 : Int) ≤ 7 by decide) (shr7 _))) ?_
  refine seq_val (.bool true) 14 rfl (by kernel_rfl) (run_eq (u := .bool (((nth xs 31 / 128) == 1))) (by kernel_rfl) (congrArg Value.bool ho)) ?_
  refine seq_val (.bool true) 4 rfl (by kernel_rfl) (by kernel_rfl) ?_
  refine seq_nil ?_
  refine hK5 _ _ ?_
  try clear hK5 K5
  refine wp_seq_k fun K6 hK6 => ?_
  refine region_lit ?_
  refine seq_val (.pointer (some ⟨g3, 31, none⟩)) 15 rfl (by kernel_rfl) (by kernel_rfl) ?_
  refine seq_val (.int .u8 (nth (xs) 31)) 16 rfl (by kernel_rfl) (run_loadC1 5 _ g3 31 23 _ (.int .u8 (nth (xs) 31)) _ r3_2 rfl (by kernel_rfl) (ints_get _ _ _ (Nat.lt_of_lt_of_eq (by decide) hx.symm)) (by kernel_rfl)) ?_
  refine seq_val (.int .u8 (nth xs 31 % 128)) 17 rfl (by kernel_rfl) (run_eq (u := .int .u8 (bits .and .u8 ((nth (xs) 31)) (127))) (by kernel_rfl) (congrArg (Value.int .u8) (and127 _ (hb.nth 31)))) ?_
  refine seq_val (.pointer (some ⟨g3, 31, none⟩)) 18 rfl (by kernel_rfl) (by kernel_rfl) ?_
  refine seq_store g3 _ (ints .u8 ((xs).set 31 (nth xs 31 % 128))) 23 r3_2 rfl (by kernel_rfl) (run_storeI 5 _ _ g3 31 23 _ _ r3_2 rfl (by kernel_rfl) (by kernel_rfl) (by kernel_rfl) (Nat.lt_of_lt_of_eq (by decide) hx.symm)) fun W3 p3 r3_3 => ?_
  have x3 : Ext w W3 := Puts.ext p3 x2 b3
  refine seq_nil ?_
  refine hK6 _ _ ?_
  try clear hK6 K6
  refine wp_seq_k fun K7 hK7 => ?_
  refine region_lit ?_
  refine seq_val (.agg (ints .u8 ((xs).set 31 (nth xs 31 % 128)))) 19 rfl (by kernel_rfl) (run_load_row 23 _ g3 23 _ _ r3_3 rfl (by kernel_rfl) (by kernel_rfl) (isz (n := 32) (by kernel_rfl) ((ints_size _ _).trans ((List.length_set ..).trans hx)))) ?_
  refine seq_call (.agg (numA (s0))) 29 #[.agg (ints .u8 ((xs).set 31 (nth xs 31 % 128)))] 20 rfl (by kernel_rfl) (by kernel_rfl) (c0 _) fun W4 e4 => ?_
  have x4 : Ext w W4 := Ext.tr x3 e4
  refine seq_alloc (numA (0)) 28 5 rfl (by kernel_rfl) (by kernel_rfl) fun g8 W5 l8 e5 r8_5 => ?_
  have x5 : Ext w W5 := Ext.tr x4 e5
  have b8 : w.heap.size ≤ g8 := Nat.le_trans x4.size l8
  refine seq_store g8 _ (numA (s0)) 28 r8_5 rfl (by kernel_rfl) (run_store_row 28 _ _ g8 28 _ _ r8_5 rfl (by kernel_rfl) (by kernel_rfl) (isz (n := 4) (by kernel_rfl) (by kernel_rfl)) (eqsz (n := 4) (by kernel_rfl) (by kernel_rfl)) (by kernel_rfl)) fun W6 p6 r8_6 => ?_
  have x6 : Ext w W6 := Puts.ext p6 x5 b8
  refine seq_nil ?_
  refine hK7 _ _ ?_
  try clear hK7 K7
  refine wp_seq_k fun K9 hK9 => ?_
  refine wp_seq_k fun K10 hK10 => ?_
  refine any_region 4 [⟨none, [(5, none)]⟩, ⟨none, [(21, some 0)]⟩, ⟨none, [(1, none)]⟩, ⟨none, [(22, some 1), (23, some 2)]⟩] (by kernel_rfl) (by kernel_rfl) fun F hF => ?_
  refine any_read (.agg (numA (s0))) (by kernel_rfl) (by kernel_rfl) (fun W hR => (run_load_row 28 _ g8 28 _ _ (row_ext (row_ext r8_6 (ext_drew _)) hR) rfl (by kernel_rfl) (by kernel_rfl) (isz (n := 4) (by kernel_rfl) (by kernel_rfl)))) ?_
  refine any_call (.agg (ints .u8 (ys))) 30 #[.agg (numA (s0))] (by kernel_rfl) (by kernel_rfl) (fun W => by kernel_rfl) (fun W hR => cb W) ?_
  have r3_4 := (row_ext r3_3 e4)
  have r3_6 := (Puts.row p6 (row_ext (row_ext r3_3 e4) e5) (ne_of_old r3_4 l8))
  refine any_read (.agg (ints .u8 ((xs).set 31 (nth xs 31 % 128)))) (by kernel_rfl) (by kernel_rfl) (fun W hR => (run_load_row 23 _ g3 23 _ _ (row_ext (row_ext r3_6 (ext_drew _)) hR) rfl (by kernel_rfl) (by kernel_rfl) (isz (n := 32) (by kernel_rfl) ((ints_size _ _).trans ((List.length_set ..).trans hx))))) ?_
  refine any_val (.bool false) (by kernel_rfl) (by kernel_rfl) (fun W => (run_neq_agg 23 _ _ _ _ _ (.bool false) rfl (by kernel_rfl) (by kernel_rfl) (by kernel_rfl) (key_neq _ _ true ys_len (by rw [List.length_set]; exact hx) hc _))) ?_
  refine steps_nil (hF _ (by kernel_rfl) fun W7 e7 => ?_)
  simp only [ups, up, Kn.val, List.take_succ_cons, List.take_zero, List.drop_succ_cons, List.drop_zero, List.nil_append, List.cons_append]
  clear hF
  have x7 : Ext w W7 := Ext.tr x6 e7
  refine seq_nil ?_
  refine hK10 _ _ ?_
  try clear hK10 K10
  refine cond_false (by kernel_rfl) ?_
  refine wp_skip ?_
  refine hK9 _ _ ?_
  try clear hK9 K9
  refine wp_seq_k fun K11 hK11 => ?_
  refine region_lit ?_
  have r8_7 := (row_ext r8_6 e7)
  refine seq_val (.agg (numA (s0))) 26 rfl (by kernel_rfl) (run_load_row 28 _ g8 28 _ _ r8_7 rfl (by kernel_rfl) (by kernel_rfl) (isz (n := 4) (by kernel_rfl) (by kernel_rfl))) ?_
  refine seq_val (.agg (numA (s0))) 27 rfl (by kernel_rfl) (run_load_row 28 _ g8 28 _ _ r8_7 rfl (by kernel_rfl) (by kernel_rfl) (isz (n := 4) (by kernel_rfl) (by kernel_rfl))) ?_
  refine seq_call (.agg (numA (s1))) 31 #[.agg (numA (s0)), .agg (numA (s0))] 28 rfl (by kernel_rfl) (by kernel_rfl) (c1 _) fun W8 e8 => ?_
  have x8 : Ext w W8 := Ext.tr x7 e8
  refine seq_call (.agg (numA (1))) 32 #[.int .i64 1] 29 rfl (by kernel_rfl) (by kernel_rfl) ((small_k 1 (by decide)) _) fun W9 e9 => ?_
  have x9 : Ext w W9 := Ext.tr x8 e9
  refine seq_alloc (numA (0)) 28 6 rfl (by kernel_rfl) (by kernel_rfl) fun g12 W10 l12 e10 r12_10 => ?_
  have x10 : Ext w W10 := Ext.tr x9 e10
  have b12 : w.heap.size ≤ g12 := Nat.le_trans x9.size l12
  refine seq_alloc (numA (0)) 28 7 rfl (by kernel_rfl) (by kernel_rfl) fun g13 W11 l13 e11 r13_11 => ?_
  have x11 : Ext w W11 := Ext.tr x10 e11
  have b13 : w.heap.size ≤ g13 := Nat.le_trans x10.size l13
  have r12_11 := (row_ext r12_10 e11)
  refine seq_store g12 _ (numA (s1)) 28 r12_11 rfl (by kernel_rfl) (run_store_row 28 _ _ g12 28 _ _ r12_11 rfl (by kernel_rfl) (by kernel_rfl) (isz (n := 4) (by kernel_rfl) (by kernel_rfl)) (eqsz (n := 4) (by kernel_rfl) (by kernel_rfl)) (by kernel_rfl)) fun W12 p12 r12_12 => ?_
  have x12 : Ext w W12 := Puts.ext p12 x11 b12
  have r13_12 := (Puts.row p12 r13_11 (ne_of_new r12_10 l13))
  refine seq_store g13 _ (numA (1)) 28 r13_12 rfl (by kernel_rfl) (run_store_row 28 _ _ g13 28 _ _ r13_12 rfl (by kernel_rfl) (by kernel_rfl) (isz (n := 4) (by kernel_rfl) (by kernel_rfl)) (eqsz (n := 4) (by kernel_rfl) (by kernel_rfl)) (by kernel_rfl)) fun W13 p13 r13_13 => ?_
  have x13 : Ext w W13 := Puts.ext p13 x12 b13
  refine seq_nil ?_
  refine hK11 _ _ ?_
  try clear hK11 K11
  refine wp_seq_k fun K14 hK14 => ?_
  refine any_regionD 7 [⟨none, [(6, none)]⟩, ⟨none, []⟩, ⟨none, [(31, some 1)]⟩, ⟨none, [(30, some 0), (32, some 2)]⟩, ⟨none, [(7, none)]⟩, ⟨none, [(33, some 3), (34, some 4)]⟩, ⟨none, []⟩] [6] (by kernel_rfl) (by kernel_rfl) (by kernel_rfl) fun F hF => ?_
  have r12_13 := (Puts.row p13 r12_12 (ne_of_old r12_10 l13))
  refine any_read (.agg (numA (s1))) (by kernel_rfl) (by kernel_rfl) (fun W hR => (run_load_row 28 _ g12 28 _ _ (row_ext (row_ext r12_13 (ext_drew _)) hR) rfl (by kernel_rfl) (by kernel_rfl) (isz (n := 4) (by kernel_rfl) (by kernel_rfl)))) ?_
  have r1_4 := (row_ext (Puts.row p3 (row_ext (row_ext hB e1) e2) (ne_of_old hB l3)) e4)
  have r1_9 := (row_ext (row_ext (row_ext (Puts.row p6 (row_ext r1_4 e5) (ne_of_old r1_4 l8)) e7) e8) e9)
  have r1_10 := (row_ext r1_9 e10)
  have r1_13 := (Puts.row p13 (Puts.row p12 (row_ext (row_ext (row_ext (row_ext (row_ext (Puts.row p6 (row_ext (row_ext (Puts.row p3 (row_ext (row_ext hB e1) e2) (ne_of_old hB l3)) e4) e5) (ne_of_old r1_4 l8)) e7) e8) e9) e10) e11) (ne_of_old r1_9 l12)) (ne_of_old r1_10 l13))
  refine any_read (.agg (ints .u8 (bendL))) (by kernel_rfl) (by kernel_rfl) (fun W hR => (run_load_row 23 _ 0 tB _ _ (row_ext (row_ext r1_13 (ext_drew _)) hR) rfl (by kernel_rfl) (by kernel_rfl) (isz (n := 32) (by kernel_rfl) ((ints_size _ _).trans (by decide))))) ?_
  refine any_call (.agg (numA (dN))) 29 #[.agg (ints .u8 (bendL))] (by kernel_rfl) (by kernel_rfl) (fun W => by kernel_rfl) (fun W hR => from_d W) ?_
  refine any_call (.agg (numA (s2))) 31 #[.agg (numA (s1)), .agg (numA (dN))] (by kernel_rfl) (by kernel_rfl) (fun W => by kernel_rfl) (fun W hR => c2 W) ?_
  refine any_read (.agg (numA (1))) (by kernel_rfl) (by kernel_rfl) (fun W hR => (run_load_row 28 _ g13 28 _ _ (row_ext (row_ext r13_13 (ext_drew _)) hR) rfl (by kernel_rfl) (by kernel_rfl) (isz (n := 4) (by kernel_rfl) (by kernel_rfl)))) ?_
  refine any_call (.agg (numA (s3))) 33 #[.agg (numA (s2)), .agg (numA (1))] (by kernel_rfl) (by kernel_rfl) (fun W => by kernel_rfl) (fun W hR => c3 W) ?_
  refine any_new (numA (0)) 28 (by kernel_rfl) (Nat.le_refl _) (by kernel_rfl) (fun W => by kernel_rfl) ?_
  refine steps_nil (hF _ (by kernel_rfl) fun W14 e14 => ?_)
  simp only [fins, up, List.take_succ_cons, List.take_zero, List.drop_succ_cons, List.drop_zero, List.nil_append, List.cons_append]
  intro g15 l15 r15_14 n15
  have b15 : w.heap.size ≤ g15 := Nat.le_trans x13.size l15
  clear hF
  have x14 : Ext w W14 := Ext.tr x13 e14
  refine seq_store g15 _ (numA (s3)) 28 r15_14 rfl (by kernel_rfl) (run_store_row 28 _ _ g15 28 _ _ r15_14 rfl (by kernel_rfl) (by kernel_rfl) (isz (n := 4) (by kernel_rfl) (by kernel_rfl)) (eqsz (n := 4) (by kernel_rfl) (by kernel_rfl)) (by kernel_rfl)) fun W15 p15 r15_15 => ?_
  have x15 : Ext w W15 := Puts.ext p15 x14 b15
  refine seq_nil ?_
  refine hK14 _ _ ?_
  try clear hK14 K14
  refine wp_seq_k fun K16 hK16 => ?_
  refine any_regionT (fun W => True) [⟨none, [(6, none)]⟩, ⟨none, [(7, none)]⟩, ⟨none, [(37, some 0), (38, some 1)]⟩, ⟨none, [(8, none)]⟩, ⟨none, [(40, some 3)]⟩, ⟨none, [(39, some 2), (41, some 4)]⟩, ⟨none, [(42, some 5)]⟩, ⟨none, [(43, some 6)]⟩, ⟨none, [(36, some 7)]⟩, ⟨none, [(36, some 7)]⟩, ⟨none, []⟩, ⟨none, [(9, some 10), (44, some 8)]⟩, ⟨none, [(45, some 9)]⟩] [10] [9, 12] (by kernel_rfl) (by kernel_rfl) (by kernel_rfl) (fun W hR => trivial) fun F hF => ?_
  have r12_15 := (Puts.row p15 (row_ext r12_13 e14) (ne_of_old r12_13 l15))
  refine t_read (.agg (numA (s1))) (by kernel_rfl) (by kernel_rfl) (by kernel_rfl) rfl (fun W hR => (run_load_row 28 _ g12 28 _ _ (row_ext (row_ext r12_15 (ext_drew _)) hR) rfl (by kernel_rfl) (by kernel_rfl) (isz (n := 4) (by kernel_rfl) (by kernel_rfl)))) ?_
  have r13_15 := (Puts.row p15 (row_ext r13_13 e14) (ne_of_old r13_13 l15))
  refine t_read (.agg (numA (1))) (by kernel_rfl) (by kernel_rfl) (by kernel_rfl) rfl (fun W hR => (run_load_row 28 _ g13 28 _ _ (row_ext (row_ext r13_15 (ext_drew _)) hR) rfl (by kernel_rfl) (by kernel_rfl) (isz (n := 4) (by kernel_rfl) (by kernel_rfl)))) ?_
  refine t_call (.agg (numA (s4))) 34 #[.agg (numA (s1)), .agg (numA (1))] (by kernel_rfl) (by kernel_rfl) (by kernel_rfl) rfl (fun W => by kernel_rfl) (fun W hR => c4 W) ?_
  refine t_read (.agg (numA (s3))) (by kernel_rfl) (by kernel_rfl) (by kernel_rfl) rfl (fun W hR => (run_load_row 28 _ g15 28 _ _ (row_ext (row_ext r15_15 (ext_drew _)) hR) rfl (by kernel_rfl) (by kernel_rfl) (isz (n := 4) (by kernel_rfl) (by kernel_rfl)))) ?_
  refine t_call (.agg (numA (s5))) 35 #[.agg (numA (s3))] (by kernel_rfl) (by kernel_rfl) (by kernel_rfl) rfl (fun W => by kernel_rfl) (fun W hR => c5 W) ?_
  refine t_call (.agg (numA (s6))) 31 #[.agg (numA (s4)), .agg (numA (s5))] (by kernel_rfl) (by kernel_rfl) (by kernel_rfl) rfl (fun W => by kernel_rfl) (fun W hR => c6 W) ?_
  refine t_call (.tuple #[.agg (numA (r)), .bool true]) 36 #[.agg (numA (s6))] (by kernel_rfl) (by kernel_rfl) (by kernel_rfl) rfl (fun W => by kernel_rfl) (fun W hR => cr W) ?_
  refine t_val (.tuple #[.agg (numA (r)), .bool true]) (by kernel_rfl) (by kernel_rfl) rfl (fun W => by kernel_rfl) ?_
  refine t_val (.agg (numA (r))) (by kernel_rfl) (by kernel_rfl) rfl (fun W => by kernel_rfl) ?_
  refine t_val (.bool true) (by kernel_rfl) (by kernel_rfl) rfl (fun W => by kernel_rfl) ?_
  refine t_new (numA (0)) 28 (by kernel_rfl) (by kernel_rfl) (Nat.le_refl _) (by kernel_rfl) rfl (fun W => by kernel_rfl) ?_
  refine t_store rfl ?_
  refine t_val (.bool true) (by kernel_rfl) (by kernel_rfl) rfl (fun W => by kernel_rfl) ?_
  refine t_nil (hF _ (by kernel_rfl) fun W16 e16 => ?_)
  simp only [List.nil_append, List.cons_append, fins, up]
  intro g17 l17 r17_16 n17
  have b17 : w.heap.size ≤ g17 := Nat.le_trans x15.size l17
  clear hF
  have x16 : Ext w W16 := Ext.tr x15 e16
  refine te_store _ g17 _ (numA (r)) 28 r17_16 rfl (run_store_row 28 _ _ g17 28 _ _ r17_16 rfl (by kernel_rfl) (by kernel_rfl) (isz (n := 4) (by kernel_rfl) (by kernel_rfl)) (eqsz (n := 4) (by kernel_rfl) (by kernel_rfl)) (by kernel_rfl)) (fun W hp => trivial) fun W17 p17 r17_17 => ?_
  have x17 : Ext w W17 := Puts.ext p17 x16 b17
  refine te_nil ?_
  refine hK16 _ _ ?_
  try clear hK16 K16
  refine wp_seq_k fun K18 hK18 => ?_
  refine wp_seq_k fun K19 hK19 => ?_
  refine region_lit ?_
  refine seq_val (.bool true) 46 rfl (by kernel_rfl) (by kernel_rfl) ?_
  refine seq_val (.bool false) 47 rfl (by kernel_rfl) (by kernel_rfl) ?_
  refine seq_val (.bool false) 48 rfl (by kernel_rfl) (by kernel_rfl) ?_
  refine seq_val (.bool true) 49 rfl (by kernel_rfl) (by kernel_rfl) ?_
  refine seq_val (.bool true) 50 rfl (by kernel_rfl) (by kernel_rfl) ?_
  refine seq_val (.agg (numA (r))) 51 rfl (by kernel_rfl) (run_load_row 28 _ g17 28 _ _ r17_17 rfl (by kernel_rfl) (by kernel_rfl) (isz (n := 4) (by kernel_rfl) (by kernel_rfl))) ?_
  refine seq_val (.agg (numA (0))) 52 rfl (by kernel_rfl) (by kernel_rfl) ?_
  refine seq_val (.bool false) 53 rfl (by kernel_rfl) (run_eql_agg 28 _ _ _ _ _ (.bool false) rfl (by kernel_rfl) (by kernel_rfl) (by kernel_rfl) (num_eql _ _ false h_r (num_isN 0) hz _)) ?_
  refine seq_val (.bool false) 54 rfl (by kernel_rfl) (by kernel_rfl) ?_
  refine seq_val (.bool false) 55 rfl (by kernel_rfl) (by kernel_rfl) ?_
  refine seq_nil ?_
  refine hK19 _ _ ?_
  try clear hK19 K19
  refine cond_false (by kernel_rfl) ?_
  refine wp_skip ?_
  refine hK18 _ _ ?_
  try clear hK18 K18
  refine wp_seq_k fun K20 hK20 => ?_
  refine wp_seq_k fun K21 hK21 => ?_
  refine region_lit ?_
  refine seq_val (.bool true) 57 rfl (by kernel_rfl) (by kernel_rfl) ?_
  refine seq_nil ?_
  refine hK21 _ _ ?_
  try clear hK21 K21
  refine cond_true (by kernel_rfl) ?_
  refine region_lit ?_
  refine seq_val (.agg (numA (r))) 58 rfl (by kernel_rfl) (run_load_row 28 _ g17 28 _ _ r17_17 rfl (by kernel_rfl) (by kernel_rfl) (isz (n := 4) (by kernel_rfl) (by kernel_rfl))) ?_
  refine seq_call (.agg (numA (ng))) 37 #[.agg (numA (r))] 59 rfl (by kernel_rfl) (by kernel_rfl) (cn _) fun W18 e18 => ?_
  have x18 : Ext w W18 := Ext.tr x17 e18
  have r17_18 := (row_ext r17_17 e18)
  refine seq_store g17 _ (numA (ng)) 28 r17_18 rfl (by kernel_rfl) (run_store_row 28 _ _ g17 28 _ _ r17_18 rfl (by kernel_rfl) (by kernel_rfl) (isz (n := 4) (by kernel_rfl) (by kernel_rfl)) (eqsz (n := 4) (by kernel_rfl) (by kernel_rfl)) (by kernel_rfl)) fun W19 p19 r17_19 => ?_
  have x19 : Ext w W19 := Puts.ext p19 x18 b17
  refine seq_nil ?_
  refine hK20 _ _ ?_
  try clear hK20 K20
  refine wp_seq_k fun K22 hK22 => ?_
  refine region_lit ?_
  refine seq_val (.agg (numA (ng))) 60 rfl (by kernel_rfl) (run_load_row 28 _ g17 28 _ _ r17_19 rfl (by kernel_rfl) (by kernel_rfl) (isz (n := 4) (by kernel_rfl) (by kernel_rfl))) ?_
  have r8_9 := (row_ext (row_ext r8_7 e8) e9)
  have r8_10 := (row_ext r8_9 e10)
  have r8_13 := (Puts.row p13 (Puts.row p12 (row_ext r8_10 e11) (ne_of_old r8_9 l12)) (ne_of_old r8_10 l13))
  have r8_15 := (Puts.row p15 (row_ext r8_13 e14) (ne_of_old r8_13 l15))
  have r8_19 := (Puts.row p19 (row_ext (Puts.row p17 (row_ext (Puts.row p15 (row_ext (Puts.row p13 (Puts.row p12 (row_ext (row_ext (row_ext (row_ext r8_7 e8) e9) e10) e11) (ne_of_old r8_9 l12)) (ne_of_old r8_10 l13)) e14) (ne_of_old r8_13 l15)) e16) (ne_of_old r8_15 l17)) e18) (ne_of_old r8_15 l17))
  refine seq_val (.agg (numA (s0))) 61 rfl (by kernel_rfl) (run_load_row 28 _ g8 28 _ _ r8_19 rfl (by kernel_rfl) (by kernel_rfl) (isz (n := 4) (by kernel_rfl) (by kernel_rfl))) ?_
  refine seq_call (.agg (cat [numA (px), numA (pl)])) 38 #[.agg (numA (ng)), .agg (numA (s0))] 62 rfl (by kernel_rfl) (by kernel_rfl) (cp _) fun W20 e20 => ?_
  have x20 : Ext w W20 := Ext.tr x19 e20
  have r4_4 := (row_ext (Puts.row p3 r4_2 (ne_of_new r3_1 l4)) e4)
  have r4_9 := (row_ext (row_ext (row_ext (Puts.row p6 (row_ext r4_4 e5) (ne_of_old r4_4 l8)) e7) e8) e9)
  have r4_10 := (row_ext r4_9 e10)
  have r4_13 := (Puts.row p13 (Puts.row p12 (row_ext r4_10 e11) (ne_of_old r4_9 l12)) (ne_of_old r4_10 l13))
  have r4_15 := (Puts.row p15 (row_ext r4_13 e14) (ne_of_old r4_13 l15))
  have r4_20 := (row_ext (Puts.row p19 (row_ext (Puts.row p17 (row_ext (Puts.row p15 (row_ext (Puts.row p13 (Puts.row p12 (row_ext (row_ext (row_ext (row_ext (row_ext (Puts.row p6 (row_ext (row_ext (Puts.row p3 r4_2 (ne_of_new r3_1 l4)) e4) e5) (ne_of_old r4_4 l8)) e7) e8) e9) e10) e11) (ne_of_old r4_9 l12)) (ne_of_old r4_10 l13)) e14) (ne_of_old r4_13 l15)) e16) (ne_of_old r4_15 l17)) e18) (ne_of_old r4_15 l17)) e20)
  refine seq_store g4 _ (cat [numA (px), numA (pl)]) 30 r4_20 rfl (by kernel_rfl) (run_store_row 30 _ _ g4 30 _ _ r4_20 rfl (by kernel_rfl) (by kernel_rfl) (isz (n := 8) (by kernel_rfl) (by kernel_rfl)) (eqsz (n := 8) (by kernel_rfl) (by kernel_rfl)) (by kernel_rfl)) fun W21 p21 r4_21 => ?_
  have x21 : Ext w W21 := Puts.ext p21 x20 b4
  refine seq_val (.bool true) 3 rfl (by kernel_rfl) (by kernel_rfl) ?_
  refine seq_nil ?_
  refine hK22 _ _ ?_
  try clear hK22 K22
  refine wp_ret ?_
  exact (show bodyPost _ _ _ .ret _ _ from ret2 (.agg (cat [numA (px), numA (pl)])) (.bool true) rfl (res_cell g4 30 _ r4_21 (by kernel_rfl) (by kernel_rfl) (isz (n := 8) (by kernel_rfl) (by kernel_rfl))) (res_tmp (by kernel_rfl)) ⟨rfl, x21⟩)
set_option maxHeartbeats 4000000 in
theorem pfrom_F (xs ys : List Int) (hx : xs.length = 32) (hb : AreBytes xs) (ys_len : ys.length = 32) (s0 s1 s2 s3 s4 s5 s6 r px pl : Int) (ho : (nth xs 31 / 128 == 1) = false) (hc : decide (ys = (xs).set 31 (nth xs 31 % 128)) = true)
    (c0 : ∀ W, Calls Tryd.prog 29 #[.agg (ints .u8 ((xs).set 31 (nth xs 31 % 128)))] W (Ret W (.agg (numA (s0)))))
    (c1 : ∀ W, Calls Tryd.prog 31 #[.agg (numA (s0)), .agg (numA (s0))] W (Ret W (.agg (numA (s1)))))
    (c2 : ∀ W, Calls Tryd.prog 31 #[.agg (numA (s1)), .agg (numA (dN))] W (Ret W (.agg (numA (s2)))))
    (c3 : ∀ W, Calls Tryd.prog 33 #[.agg (numA (s2)), .agg (numA (1))] W (Ret W (.agg (numA (s3)))))
    (c4 : ∀ W, Calls Tryd.prog 34 #[.agg (numA (s1)), .agg (numA (1))] W (Ret W (.agg (numA (s4)))))
    (c5 : ∀ W, Calls Tryd.prog 35 #[.agg (numA (s3))] W (Ret W (.agg (numA (s5)))))
    (c6 : ∀ W, Calls Tryd.prog 31 #[.agg (numA (s4)), .agg (numA (s5))] W (Ret W (.agg (numA (s6)))))
    (cb : ∀ W, Calls Tryd.prog 30 #[.agg (numA (s0))] W (Ret W (.agg (ints .u8 ys))))
    (cr : ∀ W, Calls Tryd.prog 36 #[.agg (numA (s6))] W (Ret W (.tuple #[.agg (numA (r)), .bool true])))
    (cp : ∀ W, Calls Tryd.prog 38 #[num r, num s0] W (Ret W (.agg (cat [numA px, numA pl]))))
    (w : World) (tB : TypeId) (hB : w.heap[0]? = some (.cells (ints .u8 bendL) tB)) : Calls Tryd.prog 11 #[.agg (ints .u8 (xs))] w (Ret w (.tuple #[.agg (cat [numA (px), numA (pl)]), .bool true])) := by
  refine enter 63 [(0, .agg (ints .u8 (xs)))] Tryd.func11 rfl rfl (by kernel_rfl) rfl ?_
  refine wp_seq_k fun K2 hK2 => ?_
  refine region_lit ?_
  refine seq_alloc (ints .u8 (xs)) 23 1 rfl (by kernel_rfl) (by kernel_rfl) fun g3 W1 l3 e1 r3_1 => ?_
  have x1 : Ext w W1 := Ext.tr (Rely.Ext.refl w) e1
  have b3 : w.heap.size ≤ g3 := Nat.le_trans (Rely.Ext.refl w).size l3
  refine seq_alloc (cat [numA (0), numA (0)]) 30 2 rfl (by kernel_rfl) (by kernel_rfl) fun g4 W2 l4 e2 r4_2 => ?_
  have x2 : Ext w W2 := Ext.tr x1 e2
  have b4 : w.heap.size ≤ g4 := Nat.le_trans x1.size l4
  refine seq_val (.bool false) 3 rfl (by kernel_rfl) (by kernel_rfl) ?_
  refine seq_nil ?_
  refine hK2 _ _ ?_
  try clear hK2 K2
  refine wp_seq_k fun K5 hK5 => ?_
  refine region_lit ?_
  refine seq_val (.pointer (some ⟨g3, 31, none⟩)) 11 rfl (by kernel_rfl) (by kernel_rfl) ?_
  have r3_2 := (row_ext r3_1 e2)
  refine seq_val (.int .u8 (nth (xs) 31)) 12 rfl (by kernel_rfl) (run_loadC1 5 _ g3 31 23 _ (.int .u8 (nth (xs) 31)) _ r3_2 rfl (by kernel_rfl) (ints_get _ _ _ (Nat.lt_of_lt_of_eq (by decide) hx.symm)) (by kernel_rfl)) ?_
  refine seq_val (.int .u8 (nth xs 31 / 128)) 13 rfl (by kernel_rfl) (run_bin .shr _ _ _ _ .u8 .u64 _ _ _ rfl (by kernel_rfl) (by kernel_rfl) (b_shr _ _ _ _ _ _ (show (0 : Int) ≤ 7 by decide) (shr7 _))) ?_
  refine seq_val (.bool false) 14 rfl (by kernel_rfl) (run_eq (u := .bool (((nth xs 31 / 128) == 1))) (by kernel_rfl) (congrArg Value.bool ho)) ?_
  refine seq_val (.bool false) 4 rfl (by kernel_rfl) (by kernel_rfl) ?_
  refine seq_nil ?_
  refine hK5 _ _ ?_
  try clear hK5 K5
  refine wp_seq_k fun K6 hK6 => ?_
  refine region_lit ?_
  refine seq_val (.pointer (some ⟨g3, 31, none⟩)) 15 rfl (by kernel_rfl) (by kernel_rfl) ?_
  refine seq_val (.int .u8 (nth (xs) 31)) 16 rfl (by kernel_rfl) (run_loadC1 5 _ g3 31 23 _ (.int .u8 (nth (xs) 31)) _ r3_2 rfl (by kernel_rfl) (ints_get _ _ _ (Nat.lt_of_lt_of_eq (by decide) hx.symm)) (by kernel_rfl)) ?_
  refine seq_val (.int .u8 (nth xs 31 % 128)) 17 rfl (by kernel_rfl) (run_eq (u := .int .u8 (bits .and .u8 ((nth (xs) 31)) (127))) (by kernel_rfl) (congrArg (Value.int .u8) (and127 _ (hb.nth 31)))) ?_
  refine seq_val (.pointer (some ⟨g3, 31, none⟩)) 18 rfl (by kernel_rfl) (by kernel_rfl) ?_
  refine seq_store g3 _ (ints .u8 ((xs).set 31 (nth xs 31 % 128))) 23 r3_2 rfl (by kernel_rfl) (run_storeI 5 _ _ g3 31 23 _ _ r3_2 rfl (by kernel_rfl) (by kernel_rfl) (by kernel_rfl) (Nat.lt_of_lt_of_eq (by decide) hx.symm)) fun W3 p3 r3_3 => ?_
  have x3 : Ext w W3 := Puts.ext p3 x2 b3
  refine seq_nil ?_
  refine hK6 _ _ ?_
  try clear hK6 K6
  refine wp_seq_k fun K7 hK7 => ?_
  refine region_lit ?_
  refine seq_val (.agg (ints .u8 ((xs).set 31 (nth xs 31 % 128)))) 19 rfl (by kernel_rfl) (run_load_row 23 _ g3 23 _ _ r3_3 rfl (by kernel_rfl) (by kernel_rfl) (isz (n := 32) (by kernel_rfl) ((ints_size _ _).trans ((List.length_set ..).trans hx)))) ?_
  refine seq_call (.agg (numA (s0))) 29 #[.agg (ints .u8 ((xs).set 31 (nth xs 31 % 128)))] 20 rfl (by kernel_rfl) (by kernel_rfl) (c0 _) fun W4 e4 => ?_
  have x4 : Ext w W4 := Ext.tr x3 e4
  refine seq_alloc (numA (0)) 28 5 rfl (by kernel_rfl) (by kernel_rfl) fun g8 W5 l8 e5 r8_5 => ?_
  have x5 : Ext w W5 := Ext.tr x4 e5
  have b8 : w.heap.size ≤ g8 := Nat.le_trans x4.size l8
  refine seq_store g8 _ (numA (s0)) 28 r8_5 rfl (by kernel_rfl) (run_store_row 28 _ _ g8 28 _ _ r8_5 rfl (by kernel_rfl) (by kernel_rfl) (isz (n := 4) (by kernel_rfl) (by kernel_rfl)) (eqsz (n := 4) (by kernel_rfl) (by kernel_rfl)) (by kernel_rfl)) fun W6 p6 r8_6 => ?_
  have x6 : Ext w W6 := Puts.ext p6 x5 b8
  refine seq_nil ?_
  refine hK7 _ _ ?_
  try clear hK7 K7
  refine wp_seq_k fun K9 hK9 => ?_
  refine wp_seq_k fun K10 hK10 => ?_
  refine any_region 4 [⟨none, [(5, none)]⟩, ⟨none, [(21, some 0)]⟩, ⟨none, [(1, none)]⟩, ⟨none, [(22, some 1), (23, some 2)]⟩] (by kernel_rfl) (by kernel_rfl) fun F hF => ?_
  refine any_read (.agg (numA (s0))) (by kernel_rfl) (by kernel_rfl) (fun W hR => (run_load_row 28 _ g8 28 _ _ (row_ext (row_ext r8_6 (ext_drew _)) hR) rfl (by kernel_rfl) (by kernel_rfl) (isz (n := 4) (by kernel_rfl) (by kernel_rfl)))) ?_
  refine any_call (.agg (ints .u8 (ys))) 30 #[.agg (numA (s0))] (by kernel_rfl) (by kernel_rfl) (fun W => by kernel_rfl) (fun W hR => cb W) ?_
  have r3_4 := (row_ext r3_3 e4)
  have r3_6 := (Puts.row p6 (row_ext (row_ext r3_3 e4) e5) (ne_of_old r3_4 l8))
  refine any_read (.agg (ints .u8 ((xs).set 31 (nth xs 31 % 128)))) (by kernel_rfl) (by kernel_rfl) (fun W hR => (run_load_row 23 _ g3 23 _ _ (row_ext (row_ext r3_6 (ext_drew _)) hR) rfl (by kernel_rfl) (by kernel_rfl) (isz (n := 32) (by kernel_rfl) ((ints_size _ _).trans ((List.length_set ..).trans hx))))) ?_
  refine any_val (.bool false) (by kernel_rfl) (by kernel_rfl) (fun W => (run_neq_agg 23 _ _ _ _ _ (.bool false) rfl (by kernel_rfl) (by kernel_rfl) (by kernel_rfl) (key_neq _ _ true ys_len (by rw [List.length_set]; exact hx) hc _))) ?_
  refine steps_nil (hF _ (by kernel_rfl) fun W7 e7 => ?_)
  simp only [ups, up, Kn.val, List.take_succ_cons, List.take_zero, List.drop_succ_cons, List.drop_zero, List.nil_append, List.cons_append]
  clear hF
  have x7 : Ext w W7 := Ext.tr x6 e7
  refine seq_nil ?_
  refine hK10 _ _ ?_
  try clear hK10 K10
  refine cond_false (by kernel_rfl) ?_
  refine wp_skip ?_
  refine hK9 _ _ ?_
  try clear hK9 K9
  refine wp_seq_k fun K11 hK11 => ?_
  refine region_lit ?_
  have r8_7 := (row_ext r8_6 e7)
  refine seq_val (.agg (numA (s0))) 26 rfl (by kernel_rfl) (run_load_row 28 _ g8 28 _ _ r8_7 rfl (by kernel_rfl) (by kernel_rfl) (isz (n := 4) (by kernel_rfl) (by kernel_rfl))) ?_
  refine seq_val (.agg (numA (s0))) 27 rfl (by kernel_rfl) (run_load_row 28 _ g8 28 _ _ r8_7 rfl (by kernel_rfl) (by kernel_rfl) (isz (n := 4) (by kernel_rfl) (by kernel_rfl))) ?_
  refine seq_call (.agg (numA (s1))) 31 #[.agg (numA (s0)), .agg (numA (s0))] 28 rfl (by kernel_rfl) (by kernel_rfl) (c1 _) fun W8 e8 => ?_
  have x8 : Ext w W8 := Ext.tr x7 e8
  refine seq_call (.agg (numA (1))) 32 #[.int .i64 1] 29 rfl (by kernel_rfl) (by kernel_rfl) ((small_k 1 (by decide)) _) fun W9 e9 => ?_
  have x9 : Ext w W9 := Ext.tr x8 e9
  refine seq_alloc (numA (0)) 28 6 rfl (by kernel_rfl) (by kernel_rfl) fun g12 W10 l12 e10 r12_10 => ?_
  have x10 : Ext w W10 := Ext.tr x9 e10
  have b12 : w.heap.size ≤ g12 := Nat.le_trans x9.size l12
  refine seq_alloc (numA (0)) 28 7 rfl (by kernel_rfl) (by kernel_rfl) fun g13 W11 l13 e11 r13_11 => ?_
  have x11 : Ext w W11 := Ext.tr x10 e11
  have b13 : w.heap.size ≤ g13 := Nat.le_trans x10.size l13
  have r12_11 := (row_ext r12_10 e11)
  refine seq_store g12 _ (numA (s1)) 28 r12_11 rfl (by kernel_rfl) (run_store_row 28 _ _ g12 28 _ _ r12_11 rfl (by kernel_rfl) (by kernel_rfl) (isz (n := 4) (by kernel_rfl) (by kernel_rfl)) (eqsz (n := 4) (by kernel_rfl) (by kernel_rfl)) (by kernel_rfl)) fun W12 p12 r12_12 => ?_
  have x12 : Ext w W12 := Puts.ext p12 x11 b12
  have r13_12 := (Puts.row p12 r13_11 (ne_of_new r12_10 l13))
  refine seq_store g13 _ (numA (1)) 28 r13_12 rfl (by kernel_rfl) (run_store_row 28 _ _ g13 28 _ _ r13_12 rfl (by kernel_rfl) (by kernel_rfl) (isz (n := 4) (by kernel_rfl) (by kernel_rfl)) (eqsz (n := 4) (by kernel_rfl) (by kernel_rfl)) (by kernel_rfl)) fun W13 p13 r13_13 => ?_
  have x13 : Ext w W13 := Puts.ext p13 x12 b13
  refine seq_nil ?_
  refine hK11 _ _ ?_
  try clear hK11 K11
  refine wp_seq_k fun K14 hK14 => ?_
  refine any_regionD 7 [⟨none, [(6, none)]⟩, ⟨none, []⟩, ⟨none, [(31, some 1)]⟩, ⟨none, [(30, some 0), (32, some 2)]⟩, ⟨none, [(7, none)]⟩, ⟨none, [(33, some 3), (34, some 4)]⟩, ⟨none, []⟩] [6] (by kernel_rfl) (by kernel_rfl) (by kernel_rfl) fun F hF => ?_
  have r12_13 := (Puts.row p13 r12_12 (ne_of_old r12_10 l13))
  refine any_read (.agg (numA (s1))) (by kernel_rfl) (by kernel_rfl) (fun W hR => (run_load_row 28 _ g12 28 _ _ (row_ext (row_ext r12_13 (ext_drew _)) hR) rfl (by kernel_rfl) (by kernel_rfl) (isz (n := 4) (by kernel_rfl) (by kernel_rfl)))) ?_
  have r1_4 := (row_ext (Puts.row p3 (row_ext (row_ext hB e1) e2) (ne_of_old hB l3)) e4)
  have r1_9 := (row_ext (row_ext (row_ext (Puts.row p6 (row_ext r1_4 e5) (ne_of_old r1_4 l8)) e7) e8) e9)
  have r1_10 := (row_ext r1_9 e10)
  have r1_13 := (Puts.row p13 (Puts.row p12 (row_ext (row_ext (row_ext (row_ext (row_ext (Puts.row p6 (row_ext (row_ext (Puts.row p3 (row_ext (row_ext hB e1) e2) (ne_of_old hB l3)) e4) e5) (ne_of_old r1_4 l8)) e7) e8) e9) e10) e11) (ne_of_old r1_9 l12)) (ne_of_old r1_10 l13))
  refine any_read (.agg (ints .u8 (bendL))) (by kernel_rfl) (by kernel_rfl) (fun W hR => (run_load_row 23 _ 0 tB _ _ (row_ext (row_ext r1_13 (ext_drew _)) hR) rfl (by kernel_rfl) (by kernel_rfl) (isz (n := 32) (by kernel_rfl) ((ints_size _ _).trans (by decide))))) ?_
  refine any_call (.agg (numA (dN))) 29 #[.agg (ints .u8 (bendL))] (by kernel_rfl) (by kernel_rfl) (fun W => by kernel_rfl) (fun W hR => from_d W) ?_
  refine any_call (.agg (numA (s2))) 31 #[.agg (numA (s1)), .agg (numA (dN))] (by kernel_rfl) (by kernel_rfl) (fun W => by kernel_rfl) (fun W hR => c2 W) ?_
  refine any_read (.agg (numA (1))) (by kernel_rfl) (by kernel_rfl) (fun W hR => (run_load_row 28 _ g13 28 _ _ (row_ext (row_ext r13_13 (ext_drew _)) hR) rfl (by kernel_rfl) (by kernel_rfl) (isz (n := 4) (by kernel_rfl) (by kernel_rfl)))) ?_
  refine any_call (.agg (numA (s3))) 33 #[.agg (numA (s2)), .agg (numA (1))] (by kernel_rfl) (by kernel_rfl) (fun W => by kernel_rfl) (fun W hR => c3 W) ?_
  refine any_new (numA (0)) 28 (by kernel_rfl) (Nat.le_refl _) (by kernel_rfl) (fun W => by kernel_rfl) ?_
  refine steps_nil (hF _ (by kernel_rfl) fun W14 e14 => ?_)
  simp only [fins, up, List.take_succ_cons, List.take_zero, List.drop_succ_cons, List.drop_zero, List.nil_append, List.cons_append]
  intro g15 l15 r15_14 n15
  have b15 : w.heap.size ≤ g15 := Nat.le_trans x13.size l15
  clear hF
  have x14 : Ext w W14 := Ext.tr x13 e14
  refine seq_store g15 _ (numA (s3)) 28 r15_14 rfl (by kernel_rfl) (run_store_row 28 _ _ g15 28 _ _ r15_14 rfl (by kernel_rfl) (by kernel_rfl) (isz (n := 4) (by kernel_rfl) (by kernel_rfl)) (eqsz (n := 4) (by kernel_rfl) (by kernel_rfl)) (by kernel_rfl)) fun W15 p15 r15_15 => ?_
  have x15 : Ext w W15 := Puts.ext p15 x14 b15
  refine seq_nil ?_
  refine hK14 _ _ ?_
  try clear hK14 K14
  refine wp_seq_k fun K16 hK16 => ?_
  refine any_regionT (fun W => True) [⟨none, [(6, none)]⟩, ⟨none, [(7, none)]⟩, ⟨none, [(37, some 0), (38, some 1)]⟩, ⟨none, [(8, none)]⟩, ⟨none, [(40, some 3)]⟩, ⟨none, [(39, some 2), (41, some 4)]⟩, ⟨none, [(42, some 5)]⟩, ⟨none, [(43, some 6)]⟩, ⟨none, [(36, some 7)]⟩, ⟨none, [(36, some 7)]⟩, ⟨none, []⟩, ⟨none, [(9, some 10), (44, some 8)]⟩, ⟨none, [(45, some 9)]⟩] [10] [9, 12] (by kernel_rfl) (by kernel_rfl) (by kernel_rfl) (fun W hR => trivial) fun F hF => ?_
  have r12_15 := (Puts.row p15 (row_ext r12_13 e14) (ne_of_old r12_13 l15))
  refine t_read (.agg (numA (s1))) (by kernel_rfl) (by kernel_rfl) (by kernel_rfl) rfl (fun W hR => (run_load_row 28 _ g12 28 _ _ (row_ext (row_ext r12_15 (ext_drew _)) hR) rfl (by kernel_rfl) (by kernel_rfl) (isz (n := 4) (by kernel_rfl) (by kernel_rfl)))) ?_
  have r13_15 := (Puts.row p15 (row_ext r13_13 e14) (ne_of_old r13_13 l15))
  refine t_read (.agg (numA (1))) (by kernel_rfl) (by kernel_rfl) (by kernel_rfl) rfl (fun W hR => (run_load_row 28 _ g13 28 _ _ (row_ext (row_ext r13_15 (ext_drew _)) hR) rfl (by kernel_rfl) (by kernel_rfl) (isz (n := 4) (by kernel_rfl) (by kernel_rfl)))) ?_
  refine t_call (.agg (numA (s4))) 34 #[.agg (numA (s1)), .agg (numA (1))] (by kernel_rfl) (by kernel_rfl) (by kernel_rfl) rfl (fun W => by kernel_rfl) (fun W hR => c4 W) ?_
  refine t_read (.agg (numA (s3))) (by kernel_rfl) (by kernel_rfl) (by kernel_rfl) rfl (fun W hR => (run_load_row 28 _ g15 28 _ _ (row_ext (row_ext r15_15 (ext_drew _)) hR) rfl (by kernel_rfl) (by kernel_rfl) (isz (n := 4) (by kernel_rfl) (by kernel_rfl)))) ?_
  refine t_call (.agg (numA (s5))) 35 #[.agg (numA (s3))] (by kernel_rfl) (by kernel_rfl) (by kernel_rfl) rfl (fun W => by kernel_rfl) (fun W hR => c5 W) ?_
  refine t_call (.agg (numA (s6))) 31 #[.agg (numA (s4)), .agg (numA (s5))] (by kernel_rfl) (by kernel_rfl) (by kernel_rfl) rfl (fun W => by kernel_rfl) (fun W hR => c6 W) ?_
  refine t_call (.tuple #[.agg (numA (r)), .bool true]) 36 #[.agg (numA (s6))] (by kernel_rfl) (by kernel_rfl) (by kernel_rfl) rfl (fun W => by kernel_rfl) (fun W hR => cr W) ?_
  refine t_val (.tuple #[.agg (numA (r)), .bool true]) (by kernel_rfl) (by kernel_rfl) rfl (fun W => by kernel_rfl) ?_
  refine t_val (.agg (numA (r))) (by kernel_rfl) (by kernel_rfl) rfl (fun W => by kernel_rfl) ?_
  refine t_val (.bool true) (by kernel_rfl) (by kernel_rfl) rfl (fun W => by kernel_rfl) ?_
  refine t_new (numA (0)) 28 (by kernel_rfl) (by kernel_rfl) (Nat.le_refl _) (by kernel_rfl) rfl (fun W => by kernel_rfl) ?_
  refine t_store rfl ?_
  refine t_val (.bool true) (by kernel_rfl) (by kernel_rfl) rfl (fun W => by kernel_rfl) ?_
  refine t_nil (hF _ (by kernel_rfl) fun W16 e16 => ?_)
  simp only [List.nil_append, List.cons_append, fins, up]
  intro g17 l17 r17_16 n17
  have b17 : w.heap.size ≤ g17 := Nat.le_trans x15.size l17
  clear hF
  have x16 : Ext w W16 := Ext.tr x15 e16
  refine te_store _ g17 _ (numA (r)) 28 r17_16 rfl (run_store_row 28 _ _ g17 28 _ _ r17_16 rfl (by kernel_rfl) (by kernel_rfl) (isz (n := 4) (by kernel_rfl) (by kernel_rfl)) (eqsz (n := 4) (by kernel_rfl) (by kernel_rfl)) (by kernel_rfl)) (fun W hp => trivial) fun W17 p17 r17_17 => ?_
  have x17 : Ext w W17 := Puts.ext p17 x16 b17
  refine te_nil ?_
  refine hK16 _ _ ?_
  try clear hK16 K16
  refine wp_seq_k fun K18 hK18 => ?_
  refine wp_seq_k fun K19 hK19 => ?_
  refine region_lit ?_
  refine seq_val (.bool true) 46 rfl (by kernel_rfl) (by kernel_rfl) ?_
  refine seq_val (.bool false) 47 rfl (by kernel_rfl) (by kernel_rfl) ?_
  refine seq_val (.bool false) 48 rfl (by kernel_rfl) (by kernel_rfl) ?_
  refine seq_val (.bool false) 49 rfl (by kernel_rfl) (by kernel_rfl) ?_
  refine seq_val (.bool false) 50 rfl (by kernel_rfl) (by kernel_rfl) ?_
  refine seq_skip 51 rfl (by kernel_rfl) ?_
  refine seq_skip 52 rfl (by kernel_rfl) ?_
  refine seq_skip 53 rfl (by kernel_rfl) ?_
  refine seq_val (.bool false) 54 rfl (by kernel_rfl) (by kernel_rfl) ?_
  refine seq_val (.bool false) 55 rfl (by kernel_rfl) (by kernel_rfl) ?_
  refine seq_nil ?_
  refine hK19 _ _ ?_
  try clear hK19 K19
  refine cond_false (by kernel_rfl) ?_
  refine wp_skip ?_
  refine hK18 _ _ ?_
  try clear hK18 K18
  refine wp_seq_k fun K20 hK20 => ?_
  refine wp_seq_k fun K21 hK21 => ?_
  refine region_lit ?_
  refine seq_val (.bool false) 57 rfl (by kernel_rfl) (by kernel_rfl) ?_
  refine seq_nil ?_
  refine hK21 _ _ ?_
  try clear hK21 K21
  refine cond_false (by kernel_rfl) ?_
  refine wp_skip ?_
  refine hK20 _ _ ?_
  try clear hK20 K20
  refine wp_seq_k fun K22 hK22 => ?_
  refine region_lit ?_
  refine seq_val (.agg (numA (r))) 60 rfl (by kernel_rfl) (run_load_row 28 _ g17 28 _ _ r17_17 rfl (by kernel_rfl) (by kernel_rfl) (isz (n := 4) (by kernel_rfl) (by kernel_rfl))) ?_
  have r8_9 := (row_ext (row_ext r8_7 e8) e9)
  have r8_10 := (row_ext r8_9 e10)
  have r8_13 := (Puts.row p13 (Puts.row p12 (row_ext r8_10 e11) (ne_of_old r8_9 l12)) (ne_of_old r8_10 l13))
  have r8_15 := (Puts.row p15 (row_ext r8_13 e14) (ne_of_old r8_13 l15))
  have r8_17 := (Puts.row p17 (row_ext (Puts.row p15 (row_ext (Puts.row p13 (Puts.row p12 (row_ext (row_ext (row_ext (row_ext r8_7 e8) e9) e10) e11) (ne_of_old r8_9 l12)) (ne_of_old r8_10 l13)) e14) (ne_of_old r8_13 l15)) e16) (ne_of_old r8_15 l17))
  refine seq_val (.agg (numA (s0))) 61 rfl (by kernel_rfl) (run_load_row 28 _ g8 28 _ _ r8_17 rfl (by kernel_rfl) (by kernel_rfl) (isz (n := 4) (by kernel_rfl) (by kernel_rfl))) ?_
  refine seq_call (.agg (cat [numA (px), numA (pl)])) 38 #[.agg (numA (r)), .agg (numA (s0))] 62 rfl (by kernel_rfl) (by kernel_rfl) (cp _) fun W18 e18 => ?_
  have x18 : Ext w W18 := Ext.tr x17 e18
  have r4_4 := (row_ext (Puts.row p3 r4_2 (ne_of_new r3_1 l4)) e4)
  have r4_9 := (row_ext (row_ext (row_ext (Puts.row p6 (row_ext r4_4 e5) (ne_of_old r4_4 l8)) e7) e8) e9)
  have r4_10 := (row_ext r4_9 e10)
  have r4_13 := (Puts.row p13 (Puts.row p12 (row_ext r4_10 e11) (ne_of_old r4_9 l12)) (ne_of_old r4_10 l13))
  have r4_15 := (Puts.row p15 (row_ext r4_13 e14) (ne_of_old r4_13 l15))
  have r4_18 := (row_ext (Puts.row p17 (row_ext (Puts.row p15 (row_ext (Puts.row p13 (Puts.row p12 (row_ext (row_ext (row_ext (row_ext (row_ext (Puts.row p6 (row_ext (row_ext (Puts.row p3 r4_2 (ne_of_new r3_1 l4)) e4) e5) (ne_of_old r4_4 l8)) e7) e8) e9) e10) e11) (ne_of_old r4_9 l12)) (ne_of_old r4_10 l13)) e14) (ne_of_old r4_13 l15)) e16) (ne_of_old r4_15 l17)) e18)
  refine seq_store g4 _ (cat [numA (px), numA (pl)]) 30 r4_18 rfl (by kernel_rfl) (run_store_row 30 _ _ g4 30 _ _ r4_18 rfl (by kernel_rfl) (by kernel_rfl) (isz (n := 8) (by kernel_rfl) (by kernel_rfl)) (eqsz (n := 8) (by kernel_rfl) (by kernel_rfl)) (by kernel_rfl)) fun W19 p19 r4_19 => ?_
  have x19 : Ext w W19 := Puts.ext p19 x18 b4
  refine seq_val (.bool true) 3 rfl (by kernel_rfl) (by kernel_rfl) ?_
  refine seq_nil ?_
  refine hK22 _ _ ?_
  try clear hK22 K22
  refine wp_ret ?_
  exact (show bodyPost _ _ _ .ret _ _ from ret2 (.agg (cat [numA (px), numA (pl)])) (.bool true) rfl (res_cell g4 30 _ r4_19 (by kernel_rfl) (by kernel_rfl) (isz (n := 8) (by kernel_rfl) (by kernel_rfl))) (res_tmp (by kernel_rfl)) ⟨rfl, x19⟩)
set_option maxHeartbeats 4000000 in
theorem pfrom_G (xs ys : List Int) (hx : xs.length = 32) (hb : AreBytes xs) (ys_len : ys.length = 32) (s0 : Int) (ho : (nth xs 31 / 128 == 1) = true) (hc : decide (ys = (xs).set 31 (nth xs 31 % 128)) = false)
    (c0 : ∀ W, Calls Tryd.prog 29 #[.agg (ints .u8 ((xs).set 31 (nth xs 31 % 128)))] W (Ret W (.agg (numA (s0)))))
    (cb : ∀ W, Calls Tryd.prog 30 #[.agg (numA (s0))] W (Ret W (.agg (ints .u8 ys))))
    (w : World) (tB : TypeId) (hB : w.heap[0]? = some (.cells (ints .u8 bendL) tB)) : Calls Tryd.prog 11 #[.agg (ints .u8 (xs))] w (Ret w (.tuple #[.agg (cat [numA (0), numA (0)]), .bool false])) := by
  refine enter 63 [(0, .agg (ints .u8 (xs)))] Tryd.func11 rfl rfl (by kernel_rfl) rfl ?_
  refine wp_seq_k fun K2 hK2 => ?_
  refine region_lit ?_
  refine seq_alloc (ints .u8 (xs)) 23 1 rfl (by kernel_rfl) (by kernel_rfl) fun g3 W1 l3 e1 r3_1 => ?_
  have x1 : Ext w W1 := Ext.tr (Rely.Ext.refl w) e1
  have b3 : w.heap.size ≤ g3 := Nat.le_trans (Rely.Ext.refl w).size l3
  refine seq_alloc (cat [numA (0), numA (0)]) 30 2 rfl (by kernel_rfl) (by kernel_rfl) fun g4 W2 l4 e2 r4_2 => ?_
  have x2 : Ext w W2 := Ext.tr x1 e2
  have b4 : w.heap.size ≤ g4 := Nat.le_trans x1.size l4
  refine seq_val (.bool false) 3 rfl (by kernel_rfl) (by kernel_rfl) ?_
  refine seq_nil ?_
  refine hK2 _ _ ?_
  try clear hK2 K2
  refine wp_seq_k fun K5 hK5 => ?_
  refine region_lit ?_
  refine seq_val (.pointer (some ⟨g3, 31, none⟩)) 11 rfl (by kernel_rfl) (by kernel_rfl) ?_
  have r3_2 := (row_ext r3_1 e2)
  refine seq_val (.int .u8 (nth (xs) 31)) 12 rfl (by kernel_rfl) (run_loadC1 5 _ g3 31 23 _ (.int .u8 (nth (xs) 31)) _ r3_2 rfl (by kernel_rfl) (ints_get _ _ _ (Nat.lt_of_lt_of_eq (by decide) hx.symm)) (by kernel_rfl)) ?_
  refine seq_val (.int .u8 (nth xs 31 / 128)) 13 rfl (by kernel_rfl) (run_bin .shr _ _ _ _ .u8 .u64 _ _ _ rfl (by kernel_rfl) (by kernel_rfl) (b_shr _ _ _ _ _ _ (show (0 : Int) ≤ 7 by decide) (shr7 _))) ?_
  refine seq_val (.bool true) 14 rfl (by kernel_rfl) (run_eq (u := .bool (((nth xs 31 / 128) == 1))) (by kernel_rfl) (congrArg Value.bool ho)) ?_
  refine seq_val (.bool true) 4 rfl (by kernel_rfl) (by kernel_rfl) ?_
  refine seq_nil ?_
  refine hK5 _ _ ?_
  try clear hK5 K5
  refine wp_seq_k fun K6 hK6 => ?_
  refine region_lit ?_
  refine seq_val (.pointer (some ⟨g3, 31, none⟩)) 15 rfl (by kernel_rfl) (by kernel_rfl) ?_
  refine seq_val (.int .u8 (nth (xs) 31)) 16 rfl (by kernel_rfl) (run_loadC1 5 _ g3 31 23 _ (.int .u8 (nth (xs) 31)) _ r3_2 rfl (by kernel_rfl) (ints_get _ _ _ (Nat.lt_of_lt_of_eq (by decide) hx.symm)) (by kernel_rfl)) ?_
  refine seq_val (.int .u8 (nth xs 31 % 128)) 17 rfl (by kernel_rfl) (run_eq (u := .int .u8 (bits .and .u8 ((nth (xs) 31)) (127))) (by kernel_rfl) (congrArg (Value.int .u8) (and127 _ (hb.nth 31)))) ?_
  refine seq_val (.pointer (some ⟨g3, 31, none⟩)) 18 rfl (by kernel_rfl) (by kernel_rfl) ?_
  refine seq_store g3 _ (ints .u8 ((xs).set 31 (nth xs 31 % 128))) 23 r3_2 rfl (by kernel_rfl) (run_storeI 5 _ _ g3 31 23 _ _ r3_2 rfl (by kernel_rfl) (by kernel_rfl) (by kernel_rfl) (Nat.lt_of_lt_of_eq (by decide) hx.symm)) fun W3 p3 r3_3 => ?_
  have x3 : Ext w W3 := Puts.ext p3 x2 b3
  refine seq_nil ?_
  refine hK6 _ _ ?_
  try clear hK6 K6
  refine wp_seq_k fun K7 hK7 => ?_
  refine region_lit ?_
  refine seq_val (.agg (ints .u8 ((xs).set 31 (nth xs 31 % 128)))) 19 rfl (by kernel_rfl) (run_load_row 23 _ g3 23 _ _ r3_3 rfl (by kernel_rfl) (by kernel_rfl) (isz (n := 32) (by kernel_rfl) ((ints_size _ _).trans ((List.length_set ..).trans hx)))) ?_
  refine seq_call (.agg (numA (s0))) 29 #[.agg (ints .u8 ((xs).set 31 (nth xs 31 % 128)))] 20 rfl (by kernel_rfl) (by kernel_rfl) (c0 _) fun W4 e4 => ?_
  have x4 : Ext w W4 := Ext.tr x3 e4
  refine seq_alloc (numA (0)) 28 5 rfl (by kernel_rfl) (by kernel_rfl) fun g8 W5 l8 e5 r8_5 => ?_
  have x5 : Ext w W5 := Ext.tr x4 e5
  have b8 : w.heap.size ≤ g8 := Nat.le_trans x4.size l8
  refine seq_store g8 _ (numA (s0)) 28 r8_5 rfl (by kernel_rfl) (run_store_row 28 _ _ g8 28 _ _ r8_5 rfl (by kernel_rfl) (by kernel_rfl) (isz (n := 4) (by kernel_rfl) (by kernel_rfl)) (eqsz (n := 4) (by kernel_rfl) (by kernel_rfl)) (by kernel_rfl)) fun W6 p6 r8_6 => ?_
  have x6 : Ext w W6 := Puts.ext p6 x5 b8
  refine seq_nil ?_
  refine hK7 _ _ ?_
  try clear hK7 K7
  refine wp_seq_k fun K9 hK9 => ?_
  refine wp_seq_k fun K10 hK10 => ?_
  refine any_region 4 [⟨none, [(5, none)]⟩, ⟨none, [(21, some 0)]⟩, ⟨none, [(1, none)]⟩, ⟨none, [(22, some 1), (23, some 2)]⟩] (by kernel_rfl) (by kernel_rfl) fun F hF => ?_
  refine any_read (.agg (numA (s0))) (by kernel_rfl) (by kernel_rfl) (fun W hR => (run_load_row 28 _ g8 28 _ _ (row_ext (row_ext r8_6 (ext_drew _)) hR) rfl (by kernel_rfl) (by kernel_rfl) (isz (n := 4) (by kernel_rfl) (by kernel_rfl)))) ?_
  refine any_call (.agg (ints .u8 (ys))) 30 #[.agg (numA (s0))] (by kernel_rfl) (by kernel_rfl) (fun W => by kernel_rfl) (fun W hR => cb W) ?_
  have r3_4 := (row_ext r3_3 e4)
  have r3_6 := (Puts.row p6 (row_ext (row_ext r3_3 e4) e5) (ne_of_old r3_4 l8))
  refine any_read (.agg (ints .u8 ((xs).set 31 (nth xs 31 % 128)))) (by kernel_rfl) (by kernel_rfl) (fun W hR => (run_load_row 23 _ g3 23 _ _ (row_ext (row_ext r3_6 (ext_drew _)) hR) rfl (by kernel_rfl) (by kernel_rfl) (isz (n := 32) (by kernel_rfl) ((ints_size _ _).trans ((List.length_set ..).trans hx))))) ?_
  refine any_val (.bool true) (by kernel_rfl) (by kernel_rfl) (fun W => (run_neq_agg 23 _ _ _ _ _ (.bool true) rfl (by kernel_rfl) (by kernel_rfl) (by kernel_rfl) (key_neq _ _ false ys_len (by rw [List.length_set]; exact hx) hc _))) ?_
  refine steps_nil (hF _ (by kernel_rfl) fun W7 e7 => ?_)
  simp only [ups, up, Kn.val, List.take_succ_cons, List.take_zero, List.drop_succ_cons, List.drop_zero, List.nil_append, List.cons_append]
  clear hF
  have x7 : Ext w W7 := Ext.tr x6 e7
  refine seq_nil ?_
  refine hK10 _ _ ?_
  try clear hK10 K10
  refine cond_true (by kernel_rfl) ?_
  refine wp_seq_k fun K11 hK11 => ?_
  refine region_lit ?_
  refine seq_val (.agg (cat [numA (0), numA (0)])) 25 rfl (by kernel_rfl) (by kernel_rfl) ?_
  have r4_4 := (row_ext (Puts.row p3 r4_2 (ne_of_new r3_1 l4)) e4)
  have r4_7 := (row_ext (Puts.row p6 (row_ext (row_ext (Puts.row p3 r4_2 (ne_of_new r3_1 l4)) e4) e5) (ne_of_old r4_4 l8)) e7)
  refine seq_store g4 _ (cat [numA (0), numA (0)]) 30 r4_7 rfl (by kernel_rfl) (run_store_row 30 _ _ g4 30 _ _ r4_7 rfl (by kernel_rfl) (by kernel_rfl) (isz (n := 8) (by kernel_rfl) (by kernel_rfl)) (eqsz (n := 8) (by kernel_rfl) (by kernel_rfl)) (by kernel_rfl)) fun W8 p8 r4_8 => ?_
  have x8 : Ext w W8 := Puts.ext p8 x7 b4
  refine seq_val (.bool false) 3 rfl (by kernel_rfl) (by kernel_rfl) ?_
  refine seq_nil ?_
  refine hK11 _ _ ?_
  try clear hK11 K11
  refine wp_ret ?_
  exact (show bodyPost _ _ _ .ret _ _ from ret2 (.agg (cat [numA (0), numA (0)])) (.bool false) rfl (res_cell g4 30 _ r4_8 (by kernel_rfl) (by kernel_rfl) (isz (n := 8) (by kernel_rfl) (by kernel_rfl))) (res_tmp (by kernel_rfl)) ⟨rfl, x8⟩)
set_option maxHeartbeats 4000000 in
theorem rfrom_A (xs ys : List Int) (hx : xs.length = 32) (hb : AreBytes xs) (ys_len : ys.length = 32) (s0 : Int) (ho : decide (nth xs 31 ≥ 128) = false) (hc : decide (ys = (xs).set 31 (nth xs 31 % 128)) = false)
    (c0 : ∀ W, Calls Tryd.prog 39 #[.agg (ints .u8 ((xs).set 31 (nth xs 31 % 128)))] W (Ret W (.agg (ints .i64 (lims (s0))))))
    (cb : ∀ W, Calls Tryd.prog 40 #[.agg (ints .i64 (lims (s0)))] W (Ret W (.agg (ints .u8 ys))))
    (w : World) : Calls Tryd.prog 12 #[.agg (ints .u8 (xs))] w (Ret w (.tuple #[.agg (cat [ints .i64 (lims (0)), ints .i64 (lims (1)), ints .i64 (lims (1))]), .bool false])) := by
  refine enter 63 [(0, .agg (ints .u8 (xs)))] Tryd.func12 rfl rfl (by kernel_rfl) rfl ?_
  refine wp_seq_k fun K1 hK1 => ?_
  refine region_lit ?_
  refine seq_alloc (ints .u8 (xs)) 23 1 rfl (by kernel_rfl) (by kernel_rfl) fun g2 W1 l2 e1 r2_1 => ?_
  have x1 : Ext w W1 := Ext.tr (Rely.Ext.refl w) e1
  have b2 : w.heap.size ≤ g2 := Nat.le_trans (Rely.Ext.refl w).size l2
  refine seq_alloc (cat [ints .i64 (lims (0)), ints .i64 (lims (0)), ints .i64 (lims (0))]) 36 2 rfl (by kernel_rfl) (by kernel_rfl) fun g3 W2 l3 e2 r3_2 => ?_
  have x2 : Ext w W2 := Ext.tr x1 e2
  have b3 : w.heap.size ≤ g3 := Nat.le_trans x1.size l3
  refine seq_val (.bool false) 3 rfl (by kernel_rfl) (by kernel_rfl) ?_
  refine seq_nil ?_
  refine hK1 _ _ ?_
  try clear hK1 K1
  refine wp_seq_k fun K4 hK4 => ?_
  refine region_lit ?_
  refine seq_val (.pointer (some ⟨g2, 31, none⟩)) 11 rfl (by kernel_rfl) (by kernel_rfl) ?_
  have r2_2 := (row_ext r2_1 e2)
  refine seq_val (.int .u8 (nth (xs) 31)) 12 rfl (by kernel_rfl) (run_loadC1 5 _ g2 31 23 _ (.int .u8 (nth (xs) 31)) _ r2_2 rfl (by kernel_rfl) (ints_get _ _ _ (Nat.lt_of_lt_of_eq (by decide) hx.symm)) (by kernel_rfl)) ?_
  refine seq_val (.bool false) 13 rfl (by kernel_rfl) (run_eq (u := .bool (decide ((nth (xs) 31) ≥ 128))) (by kernel_rfl) (congrArg Value.bool ho)) ?_
  refine seq_val (.bool false) 4 rfl (by kernel_rfl) (by kernel_rfl) ?_
  refine seq_nil ?_
  refine hK4 _ _ ?_
  try clear hK4 K4
  refine wp_seq_k fun K5 hK5 => ?_
  refine region_lit ?_
  refine seq_val (.pointer (some ⟨g2, 31, none⟩)) 14 rfl (by kernel_rfl) (by kernel_rfl) ?_
  refine seq_val (.int .u8 (nth (xs) 31)) 15 rfl (by kernel_rfl) (run_loadC1 5 _ g2 31 23 _ (.int .u8 (nth (xs) 31)) _ r2_2 rfl (by kernel_rfl) (ints_get _ _ _ (Nat.lt_of_lt_of_eq (by decide) hx.symm)) (by kernel_rfl)) ?_
  refine seq_val (.int .u8 (nth xs 31 % 128)) 16 rfl (by kernel_rfl) (run_eq (u := .int .u8 (Int.tmod ((nth (xs) 31)) (128))) (by kernel_rfl) (congrArg (Value.int .u8) (tmod128 _ (hb.nth 31)))) ?_
  refine seq_val (.pointer (some ⟨g2, 31, none⟩)) 17 rfl (by kernel_rfl) (by kernel_rfl) ?_
  refine seq_store g2 _ (ints .u8 ((xs).set 31 (nth xs 31 % 128))) 23 r2_2 rfl (by kernel_rfl) (run_storeI 5 _ _ g2 31 23 _ _ r2_2 rfl (by kernel_rfl) (by kernel_rfl) (by kernel_rfl) (Nat.lt_of_lt_of_eq (by decide) hx.symm)) fun W3 p3 r2_3 => ?_
  have x3 : Ext w W3 := Puts.ext p3 x2 b2
  refine seq_nil ?_
  refine hK5 _ _ ?_
  try clear hK5 K5
  refine wp_seq_k fun K6 hK6 => ?_
  refine region_lit ?_
  refine seq_val (.agg (ints .u8 ((xs).set 31 (nth xs 31 % 128)))) 18 rfl (by kernel_rfl) (run_load_row 23 _ g2 23 _ _ r2_3 rfl (by kernel_rfl) (by kernel_rfl) (isz (n := 32) (by kernel_rfl) ((ints_size _ _).trans ((List.length_set ..).trans hx)))) ?_
  refine seq_call (.agg (ints .i64 (lims (s0)))) 39 #[.agg (ints .u8 ((xs).set 31 (nth xs 31 % 128)))] 19 rfl (by kernel_rfl) (by kernel_rfl) (c0 _) fun W4 e4 => ?_
  have x4 : Ext w W4 := Ext.tr x3 e4
  refine seq_alloc (ints .i64 (lims (0))) 34 5 rfl (by kernel_rfl) (by kernel_rfl) fun g7 W5 l7 e5 r7_5 => ?_
  have x5 : Ext w W5 := Ext.tr x4 e5
  have b7 : w.heap.size ≤ g7 := Nat.le_trans x4.size l7
  refine seq_store g7 _ (ints .i64 (lims (s0))) 34 r7_5 rfl (by kernel_rfl) (run_store_row 34 _ _ g7 34 _ _ r7_5 rfl (by kernel_rfl) (by kernel_rfl) (isz (n := 16) (by kernel_rfl) (by kernel_rfl)) (eqsz (n := 16) (by kernel_rfl) (by kernel_rfl)) (by kernel_rfl)) fun W6 p6 r7_6 => ?_
  have x6 : Ext w W6 := Puts.ext p6 x5 b7
  refine seq_nil ?_
  refine hK6 _ _ ?_
  try clear hK6 K6
  refine wp_seq_k fun K8 hK8 => ?_
  refine wp_seq_k fun K9 hK9 => ?_
  refine any_region 4 [⟨none, [(5, none)]⟩, ⟨none, [(20, some 0)]⟩, ⟨none, [(1, none)]⟩, ⟨none, [(21, some 1), (22, some 2)]⟩] (by kernel_rfl) (by kernel_rfl) fun F hF => ?_
  refine any_read (.agg (ints .i64 (lims (s0)))) (by kernel_rfl) (by kernel_rfl) (fun W hR => (run_load_row 34 _ g7 34 _ _ (row_ext (row_ext r7_6 (ext_drew _)) hR) rfl (by kernel_rfl) (by kernel_rfl) (isz (n := 16) (by kernel_rfl) (by kernel_rfl)))) ?_
  refine any_call (.agg (ints .u8 (ys))) 40 #[.agg (ints .i64 (lims (s0)))] (by kernel_rfl) (by kernel_rfl) (fun W => by kernel_rfl) (fun W hR => cb W) ?_
  have r2_4 := (row_ext r2_3 e4)
  have r2_6 := (Puts.row p6 (row_ext (row_ext r2_3 e4) e5) (ne_of_old r2_4 l7))
  refine any_read (.agg (ints .u8 ((xs).set 31 (nth xs 31 % 128)))) (by kernel_rfl) (by kernel_rfl) (fun W hR => (run_load_row 23 _ g2 23 _ _ (row_ext (row_ext r2_6 (ext_drew _)) hR) rfl (by kernel_rfl) (by kernel_rfl) (isz (n := 32) (by kernel_rfl) ((ints_size _ _).trans ((List.length_set ..).trans hx))))) ?_
  refine any_val (.bool true) (by kernel_rfl) (by kernel_rfl) (fun W => (run_neq_agg 23 _ _ _ _ _ (.bool true) rfl (by kernel_rfl) (by kernel_rfl) (by kernel_rfl) (key_neq _ _ false ys_len (by rw [List.length_set]; exact hx) hc _))) ?_
  refine steps_nil (hF _ (by kernel_rfl) fun W7 e7 => ?_)
  simp only [ups, up, Kn.val, List.take_succ_cons, List.take_zero, List.drop_succ_cons, List.drop_zero, List.nil_append, List.cons_append]
  clear hF
  have x7 : Ext w W7 := Ext.tr x6 e7
  refine seq_nil ?_
  refine hK9 _ _ ?_
  try clear hK9 K9
  refine cond_true (by kernel_rfl) ?_
  refine wp_seq_k fun K10 hK10 => ?_
  refine region_lit ?_
  refine seq_call (.agg (cat [ints .i64 (lims (0)), ints .i64 (lims (1)), ints .i64 (lims (1))])) 41 #[] 24 rfl (by kernel_rfl) (by kernel_rfl) (nothing _) fun W8 e8 => ?_
  have x8 : Ext w W8 := Ext.tr x7 e8
  have r3_4 := (row_ext (Puts.row p3 r3_2 (ne_of_new r2_1 l3)) e4)
  have r3_8 := (row_ext (row_ext (Puts.row p6 (row_ext (row_ext (Puts.row p3 r3_2 (ne_of_new r2_1 l3)) e4) e5) (ne_of_old r3_4 l7)) e7) e8)
  refine seq_store g3 _ (cat [ints .i64 (lims (0)), ints .i64 (lims (1)), ints .i64 (lims (1))]) 36 r3_8 rfl (by kernel_rfl) (run_store_row 36 _ _ g3 36 _ _ r3_8 rfl (by kernel_rfl) (by kernel_rfl) (isz (n := 48) (by kernel_rfl) (by kernel_rfl)) (eqsz (n := 48) (by kernel_rfl) (by kernel_rfl)) (by kernel_rfl)) fun W9 p9 r3_9 => ?_
  have x9 : Ext w W9 := Puts.ext p9 x8 b3
  refine seq_val (.bool false) 3 rfl (by kernel_rfl) (by kernel_rfl) ?_
  refine seq_nil ?_
  refine hK10 _ _ ?_
  try clear hK10 K10
  refine wp_ret ?_
  exact (show bodyPost _ _ _ .ret _ _ from ret2 (.agg (cat [ints .i64 (lims (0)), ints .i64 (lims (1)), ints .i64 (lims (1))])) (.bool false) rfl (res_cell g3 36 _ r3_9 (by kernel_rfl) (by kernel_rfl) (isz (n := 48) (by kernel_rfl) (by kernel_rfl))) (res_tmp (by kernel_rfl)) ⟨rfl, x9⟩)
set_option maxHeartbeats 4000000 in
theorem rfrom_B (xs ys : List Int) (hx : xs.length = 32) (hb : AreBytes xs) (ys_len : ys.length = 32) (s0 s1 s2 s3 s4 s5 s6 r : Int) (ho : decide (nth xs 31 ≥ 128) = false) (hc : decide (ys = (xs).set 31 (nth xs 31 % 128)) = true)
    (c0 : ∀ W, Calls Tryd.prog 39 #[.agg (ints .u8 ((xs).set 31 (nth xs 31 % 128)))] W (Ret W (.agg (ints .i64 (lims (s0))))))
    (c1 : ∀ W, Calls Tryd.prog 42 #[.agg (ints .i64 (lims (s0))), .agg (ints .i64 (lims (s0)))] W (Ret W (.agg (ints .i64 (lims (s1))))))
    (c2 : ∀ W, Calls Tryd.prog 42 #[.agg (ints .i64 (lims (dN))), .agg (ints .i64 (lims (s1)))] W (Ret W (.agg (ints .i64 (lims (s2))))))
    (c3 : ∀ W, Calls Tryd.prog 43 #[.agg (ints .i64 (lims (s2))), .agg (ints .i64 (lims (1)))] W (Ret W (.agg (ints .i64 (lims (s3))))))
    (c4 : ∀ W, Calls Tryd.prog 46 #[.agg (ints .i64 (lims (s1))), .agg (ints .i64 (lims (1)))] W (Ret W (.agg (ints .i64 (lims (s4))))))
    (c5 : ∀ W, Calls Tryd.prog 47 #[.agg (ints .i64 (lims (s3)))] W (Ret W (.agg (ints .i64 (lims (s5))))))
    (c6 : ∀ W, Calls Tryd.prog 42 #[.agg (ints .i64 (lims (s4))), .agg (ints .i64 (lims (s5)))] W (Ret W (.agg (ints .i64 (lims (s6))))))
    (cb : ∀ W, Calls Tryd.prog 40 #[.agg (ints .i64 (lims (s0)))] W (Ret W (.agg (ints .u8 ys))))
    (cr : ∀ W, Calls Tryd.prog 45 #[.agg (ints .i64 (lims (s6)))] W (Ret W (.tuple #[.agg (ints .i64 (lims (r))), .bool false])))
    (w : World) : Calls Tryd.prog 12 #[.agg (ints .u8 (xs))] w (Ret w (.tuple #[.agg (cat [ints .i64 (lims (0)), ints .i64 (lims (1)), ints .i64 (lims (1))]), .bool false])) := by
  refine enter 63 [(0, .agg (ints .u8 (xs)))] Tryd.func12 rfl rfl (by kernel_rfl) rfl ?_
  refine wp_seq_k fun K1 hK1 => ?_
  refine region_lit ?_
  refine seq_alloc (ints .u8 (xs)) 23 1 rfl (by kernel_rfl) (by kernel_rfl) fun g2 W1 l2 e1 r2_1 => ?_
  have x1 : Ext w W1 := Ext.tr (Rely.Ext.refl w) e1
  have b2 : w.heap.size ≤ g2 := Nat.le_trans (Rely.Ext.refl w).size l2
  refine seq_alloc (cat [ints .i64 (lims (0)), ints .i64 (lims (0)), ints .i64 (lims (0))]) 36 2 rfl (by kernel_rfl) (by kernel_rfl) fun g3 W2 l3 e2 r3_2 => ?_
  have x2 : Ext w W2 := Ext.tr x1 e2
  have b3 : w.heap.size ≤ g3 := Nat.le_trans x1.size l3
  refine seq_val (.bool false) 3 rfl (by kernel_rfl) (by kernel_rfl) ?_
  refine seq_nil ?_
  refine hK1 _ _ ?_
  try clear hK1 K1
  refine wp_seq_k fun K4 hK4 => ?_
  refine region_lit ?_
  refine seq_val (.pointer (some ⟨g2, 31, none⟩)) 11 rfl (by kernel_rfl) (by kernel_rfl) ?_
  have r2_2 := (row_ext r2_1 e2)
  refine seq_val (.int .u8 (nth (xs) 31)) 12 rfl (by kernel_rfl) (run_loadC1 5 _ g2 31 23 _ (.int .u8 (nth (xs) 31)) _ r2_2 rfl (by kernel_rfl) (ints_get _ _ _ (Nat.lt_of_lt_of_eq (by decide) hx.symm)) (by kernel_rfl)) ?_
  refine seq_val (.bool false) 13 rfl (by kernel_rfl) (run_eq (u := .bool (decide ((nth (xs) 31) ≥ 128))) (by kernel_rfl) (congrArg Value.bool ho)) ?_
  refine seq_val (.bool false) 4 rfl (by kernel_rfl) (by kernel_rfl) ?_
  refine seq_nil ?_
  refine hK4 _ _ ?_
  try clear hK4 K4
  refine wp_seq_k fun K5 hK5 => ?_
  refine region_lit ?_
  refine seq_val (.pointer (some ⟨g2, 31, none⟩)) 14 rfl (by kernel_rfl) (by kernel_rfl) ?_
  refine seq_val (.int .u8 (nth (xs) 31)) 15 rfl (by kernel_rfl) (run_loadC1 5 _ g2 31 23 _ (.int .u8 (nth (xs) 31)) _ r2_2 rfl (by kernel_rfl) (ints_get _ _ _ (Nat.lt_of_lt_of_eq (by decide) hx.symm)) (by kernel_rfl)) ?_
  refine seq_val (.int .u8 (nth xs 31 % 128)) 16 rfl (by kernel_rfl) (run_eq (u := .int .u8 (Int.tmod ((nth (xs) 31)) (128))) (by kernel_rfl) (congrArg (Value.int .u8) (tmod128 _ (hb.nth 31)))) ?_
  refine seq_val (.pointer (some ⟨g2, 31, none⟩)) 17 rfl (by kernel_rfl) (by kernel_rfl) ?_
  refine seq_store g2 _ (ints .u8 ((xs).set 31 (nth xs 31 % 128))) 23 r2_2 rfl (by kernel_rfl) (run_storeI 5 _ _ g2 31 23 _ _ r2_2 rfl (by kernel_rfl) (by kernel_rfl) (by kernel_rfl) (Nat.lt_of_lt_of_eq (by decide) hx.symm)) fun W3 p3 r2_3 => ?_
  have x3 : Ext w W3 := Puts.ext p3 x2 b2
  refine seq_nil ?_
  refine hK5 _ _ ?_
  try clear hK5 K5
  refine wp_seq_k fun K6 hK6 => ?_
  refine region_lit ?_
  refine seq_val (.agg (ints .u8 ((xs).set 31 (nth xs 31 % 128)))) 18 rfl (by kernel_rfl) (run_load_row 23 _ g2 23 _ _ r2_3 rfl (by kernel_rfl) (by kernel_rfl) (isz (n := 32) (by kernel_rfl) ((ints_size _ _).trans ((List.length_set ..).trans hx)))) ?_
  refine seq_call (.agg (ints .i64 (lims (s0)))) 39 #[.agg (ints .u8 ((xs).set 31 (nth xs 31 % 128)))] 19 rfl (by kernel_rfl) (by kernel_rfl) (c0 _) fun W4 e4 => ?_
  have x4 : Ext w W4 := Ext.tr x3 e4
  refine seq_alloc (ints .i64 (lims (0))) 34 5 rfl (by kernel_rfl) (by kernel_rfl) fun g7 W5 l7 e5 r7_5 => ?_
  have x5 : Ext w W5 := Ext.tr x4 e5
  have b7 : w.heap.size ≤ g7 := Nat.le_trans x4.size l7
  refine seq_store g7 _ (ints .i64 (lims (s0))) 34 r7_5 rfl (by kernel_rfl) (run_store_row 34 _ _ g7 34 _ _ r7_5 rfl (by kernel_rfl) (by kernel_rfl) (isz (n := 16) (by kernel_rfl) (by kernel_rfl)) (eqsz (n := 16) (by kernel_rfl) (by kernel_rfl)) (by kernel_rfl)) fun W6 p6 r7_6 => ?_
  have x6 : Ext w W6 := Puts.ext p6 x5 b7
  refine seq_nil ?_
  refine hK6 _ _ ?_
  try clear hK6 K6
  refine wp_seq_k fun K8 hK8 => ?_
  refine wp_seq_k fun K9 hK9 => ?_
  refine any_region 4 [⟨none, [(5, none)]⟩, ⟨none, [(20, some 0)]⟩, ⟨none, [(1, none)]⟩, ⟨none, [(21, some 1), (22, some 2)]⟩] (by kernel_rfl) (by kernel_rfl) fun F hF => ?_
  refine any_read (.agg (ints .i64 (lims (s0)))) (by kernel_rfl) (by kernel_rfl) (fun W hR => (run_load_row 34 _ g7 34 _ _ (row_ext (row_ext r7_6 (ext_drew _)) hR) rfl (by kernel_rfl) (by kernel_rfl) (isz (n := 16) (by kernel_rfl) (by kernel_rfl)))) ?_
  refine any_call (.agg (ints .u8 (ys))) 40 #[.agg (ints .i64 (lims (s0)))] (by kernel_rfl) (by kernel_rfl) (fun W => by kernel_rfl) (fun W hR => cb W) ?_
  have r2_4 := (row_ext r2_3 e4)
  have r2_6 := (Puts.row p6 (row_ext (row_ext r2_3 e4) e5) (ne_of_old r2_4 l7))
  refine any_read (.agg (ints .u8 ((xs).set 31 (nth xs 31 % 128)))) (by kernel_rfl) (by kernel_rfl) (fun W hR => (run_load_row 23 _ g2 23 _ _ (row_ext (row_ext r2_6 (ext_drew _)) hR) rfl (by kernel_rfl) (by kernel_rfl) (isz (n := 32) (by kernel_rfl) ((ints_size _ _).trans ((List.length_set ..).trans hx))))) ?_
  refine any_val (.bool false) (by kernel_rfl) (by kernel_rfl) (fun W => (run_neq_agg 23 _ _ _ _ _ (.bool false) rfl (by kernel_rfl) (by kernel_rfl) (by kernel_rfl) (key_neq _ _ true ys_len (by rw [List.length_set]; exact hx) hc _))) ?_
  refine steps_nil (hF _ (by kernel_rfl) fun W7 e7 => ?_)
  simp only [ups, up, Kn.val, List.take_succ_cons, List.take_zero, List.drop_succ_cons, List.drop_zero, List.nil_append, List.cons_append]
  clear hF
  have x7 : Ext w W7 := Ext.tr x6 e7
  refine seq_nil ?_
  refine hK9 _ _ ?_
  try clear hK9 K9
  refine cond_false (by kernel_rfl) ?_
  refine wp_skip ?_
  refine hK8 _ _ ?_
  try clear hK8 K8
  refine wp_seq_k fun K10 hK10 => ?_
  refine region_lit ?_
  refine seq_val (.agg (ints .i64 (lims (1)))) 25 rfl (by kernel_rfl) (by kernel_rfl) ?_
  refine seq_alloc (ints .i64 (lims (0))) 34 6 rfl (by kernel_rfl) (by kernel_rfl) fun g11 W8 l11 e8 r11_8 => ?_
  have x8 : Ext w W8 := Ext.tr x7 e8
  have b11 : w.heap.size ≤ g11 := Nat.le_trans x7.size l11
  refine seq_store g11 _ (ints .i64 (lims (1))) 34 r11_8 rfl (by kernel_rfl) (run_store_row 34 _ _ g11 34 _ _ r11_8 rfl (by kernel_rfl) (by kernel_rfl) (isz (n := 16) (by kernel_rfl) (by kernel_rfl)) (eqsz (n := 16) (by kernel_rfl) (by kernel_rfl)) (by kernel_rfl)) fun W9 p9 r11_9 => ?_
  have x9 : Ext w W9 := Puts.ext p9 x8 b11
  refine seq_nil ?_
  refine hK10 _ _ ?_
  try clear hK10 K10
  refine wp_seq_k fun K12 hK12 => ?_
  refine region_lit ?_
  have r7_7 := (row_ext r7_6 e7)
  have r7_9 := (Puts.row p9 (row_ext (row_ext r7_6 e7) e8) (ne_of_old r7_7 l11))
  refine seq_val (.agg (ints .i64 (lims (s0)))) 26 rfl (by kernel_rfl) (run_load_row 34 _ g7 34 _ _ r7_9 rfl (by kernel_rfl) (by kernel_rfl) (isz (n := 16) (by kernel_rfl) (by kernel_rfl))) ?_
  refine seq_val (.agg (ints .i64 (lims (s0)))) 27 rfl (by kernel_rfl) (run_load_row 34 _ g7 34 _ _ r7_9 rfl (by kernel_rfl) (by kernel_rfl) (isz (n := 16) (by kernel_rfl) (by kernel_rfl))) ?_
  refine seq_call (.agg (ints .i64 (lims (s1)))) 42 #[.agg (ints .i64 (lims (s0))), .agg (ints .i64 (lims (s0)))] 28 rfl (by kernel_rfl) (by kernel_rfl) (c1 _) fun W10 e10 => ?_
  have x10 : Ext w W10 := Ext.tr x9 e10
  refine seq_alloc (ints .i64 (lims (0))) 34 7 rfl (by kernel_rfl) (by kernel_rfl) fun g13 W11 l13 e11 r13_11 => ?_
  have x11 : Ext w W11 := Ext.tr x10 e11
  have b13 : w.heap.size ≤ g13 := Nat.le_trans x10.size l13
  refine seq_store g13 _ (ints .i64 (lims (s1))) 34 r13_11 rfl (by kernel_rfl) (run_store_row 34 _ _ g13 34 _ _ r13_11 rfl (by kernel_rfl) (by kernel_rfl) (isz (n := 16) (by kernel_rfl) (by kernel_rfl)) (eqsz (n := 16) (by kernel_rfl) (by kernel_rfl)) (by kernel_rfl)) fun W12 p12 r13_12 => ?_
  have x12 : Ext w W12 := Puts.ext p12 x11 b13
  refine seq_nil ?_
  refine hK12 _ _ ?_
  try clear hK12 K12
  refine wp_seq_k fun K14 hK14 => ?_
  refine any_regionD 6 [⟨none, []⟩, ⟨none, [(7, none)]⟩, ⟨none, [(29, some 0), (30, some 1)]⟩, ⟨none, [(6, none)]⟩, ⟨none, [(31, some 2), (32, some 3)]⟩, ⟨none, []⟩] [5] (by kernel_rfl) (by kernel_rfl) (by kernel_rfl) fun F hF => ?_
  refine any_call (.agg (ints .i64 (lims (dN)))) 44 #[] (by kernel_rfl) (by kernel_rfl) (fun W => by kernel_rfl) (fun W hR => factor W) ?_
  refine any_read (.agg (ints .i64 (lims (s1)))) (by kernel_rfl) (by kernel_rfl) (fun W hR => (run_load_row 34 _ g13 34 _ _ (row_ext (row_ext r13_12 (ext_drew _)) hR) rfl (by kernel_rfl) (by kernel_rfl) (isz (n := 16) (by kernel_rfl) (by kernel_rfl)))) ?_
  refine any_call (.agg (ints .i64 (lims (s2)))) 42 #[.agg (ints .i64 (lims (dN))), .agg (ints .i64 (lims (s1)))] (by kernel_rfl) (by kernel_rfl) (fun W => by kernel_rfl) (fun W hR => c2 W) ?_
  have r11_10 := (row_ext r11_9 e10)
  have r11_12 := (Puts.row p12 (row_ext (row_ext r11_9 e10) e11) (ne_of_old r11_10 l13))
  refine any_read (.agg (ints .i64 (lims (1)))) (by kernel_rfl) (by kernel_rfl) (fun W hR => (run_load_row 34 _ g11 34 _ _ (row_ext (row_ext r11_12 (ext_drew _)) hR) rfl (by kernel_rfl) (by kernel_rfl) (isz (n := 16) (by kernel_rfl) (by kernel_rfl)))) ?_
  refine any_call (.agg (ints .i64 (lims (s3)))) 43 #[.agg (ints .i64 (lims (s2))), .agg (ints .i64 (lims (1)))] (by kernel_rfl) (by kernel_rfl) (fun W => by kernel_rfl) (fun W hR => c3 W) ?_
  refine any_new (ints .i64 (lims (0))) 34 (by kernel_rfl) (Nat.le_refl _) (by kernel_rfl) (fun W => by kernel_rfl) ?_
  refine steps_nil (hF _ (by kernel_rfl) fun W13 e13 => ?_)
  simp only [fins, up, List.take_succ_cons, List.take_zero, List.drop_succ_cons, List.drop_zero, List.nil_append, List.cons_append]
  intro g15 l15 r15_13 n15
  have b15 : w.heap.size ≤ g15 := Nat.le_trans x12.size l15
  clear hF
  have x13 : Ext w W13 := Ext.tr x12 e13
  refine seq_store g15 _ (ints .i64 (lims (s3))) 34 r15_13 rfl (by kernel_rfl) (run_store_row 34 _ _ g15 34 _ _ r15_13 rfl (by kernel_rfl) (by kernel_rfl) (isz (n := 16) (by kernel_rfl) (by kernel_rfl)) (eqsz (n := 16) (by kernel_rfl) (by kernel_rfl)) (by kernel_rfl)) fun W14 p14 r15_14 => ?_
  have x14 : Ext w W14 := Puts.ext p14 x13 b15
  refine seq_nil ?_
  refine hK14 _ _ ?_
  try clear hK14 K14
  refine wp_seq_k fun K16 hK16 => ?_
  refine any_regionT (fun W => True) [⟨none, [(7, none)]⟩, ⟨none, [(6, none)]⟩, ⟨none, [(35, some 0), (36, some 1)]⟩, ⟨none, [(8, none)]⟩, ⟨none, [(38, some 3)]⟩, ⟨none, [(37, some 2), (39, some 4)]⟩, ⟨none, [(40, some 5)]⟩, ⟨none, [(41, some 6)]⟩, ⟨none, [(34, some 7)]⟩, ⟨none, [(34, some 7)]⟩, ⟨none, []⟩, ⟨none, [(9, some 10), (42, some 8)]⟩, ⟨none, [(43, some 9)]⟩] [10] [9, 12] (by kernel_rfl) (by kernel_rfl) (by kernel_rfl) (fun W hR => trivial) fun F hF => ?_
  have r13_14 := (Puts.row p14 (row_ext r13_12 e13) (ne_of_old r13_12 l15))
  refine t_read (.agg (ints .i64 (lims (s1)))) (by kernel_rfl) (by kernel_rfl) (by kernel_rfl) rfl (fun W hR => (run_load_row 34 _ g13 34 _ _ (row_ext (row_ext r13_14 (ext_drew _)) hR) rfl (by kernel_rfl) (by kernel_rfl) (isz (n := 16) (by kernel_rfl) (by kernel_rfl)))) ?_
  have r11_14 := (Puts.row p14 (row_ext r11_12 e13) (ne_of_old r11_12 l15))
  refine t_read (.agg (ints .i64 (lims (1)))) (by kernel_rfl) (by kernel_rfl) (by kernel_rfl) rfl (fun W hR => (run_load_row 34 _ g11 34 _ _ (row_ext (row_ext r11_14 (ext_drew _)) hR) rfl (by kernel_rfl) (by kernel_rfl) (isz (n := 16) (by kernel_rfl) (by kernel_rfl)))) ?_
  refine t_call (.agg (ints .i64 (lims (s4)))) 46 #[.agg (ints .i64 (lims (s1))), .agg (ints .i64 (lims (1)))] (by kernel_rfl) (by kernel_rfl) (by kernel_rfl) rfl (fun W => by kernel_rfl) (fun W hR => c4 W) ?_
  refine t_read (.agg (ints .i64 (lims (s3)))) (by kernel_rfl) (by kernel_rfl) (by kernel_rfl) rfl (fun W hR => (run_load_row 34 _ g15 34 _ _ (row_ext (row_ext r15_14 (ext_drew _)) hR) rfl (by kernel_rfl) (by kernel_rfl) (isz (n := 16) (by kernel_rfl) (by kernel_rfl)))) ?_
  refine t_call (.agg (ints .i64 (lims (s5)))) 47 #[.agg (ints .i64 (lims (s3)))] (by kernel_rfl) (by kernel_rfl) (by kernel_rfl) rfl (fun W => by kernel_rfl) (fun W hR => c5 W) ?_
  refine t_call (.agg (ints .i64 (lims (s6)))) 42 #[.agg (ints .i64 (lims (s4))), .agg (ints .i64 (lims (s5)))] (by kernel_rfl) (by kernel_rfl) (by kernel_rfl) rfl (fun W => by kernel_rfl) (fun W hR => c6 W) ?_
  refine t_call (.tuple #[.agg (ints .i64 (lims (r))), .bool false]) 45 #[.agg (ints .i64 (lims (s6)))] (by kernel_rfl) (by kernel_rfl) (by kernel_rfl) rfl (fun W => by kernel_rfl) (fun W hR => cr W) ?_
  refine t_val (.tuple #[.agg (ints .i64 (lims (r))), .bool false]) (by kernel_rfl) (by kernel_rfl) rfl (fun W => by kernel_rfl) ?_
  refine t_val (.agg (ints .i64 (lims (r)))) (by kernel_rfl) (by kernel_rfl) rfl (fun W => by kernel_rfl) ?_
  refine t_val (.bool false) (by kernel_rfl) (by kernel_rfl) rfl (fun W => by kernel_rfl) ?_
  refine t_new (ints .i64 (lims (0))) 34 (by kernel_rfl) (by kernel_rfl) (Nat.le_refl _) (by kernel_rfl) rfl (fun W => by kernel_rfl) ?_
  refine t_store rfl ?_
  refine t_val (.bool false) (by kernel_rfl) (by kernel_rfl) rfl (fun W => by kernel_rfl) ?_
  refine t_nil (hF _ (by kernel_rfl) fun W15 e15 => ?_)
  simp only [List.nil_append, List.cons_append, fins, up]
  intro g17 l17 r17_15 n17
  have b17 : w.heap.size ≤ g17 := Nat.le_trans x14.size l17
  clear hF
  have x15 : Ext w W15 := Ext.tr x14 e15
  refine te_store _ g17 _ (ints .i64 (lims (r))) 34 r17_15 rfl (run_store_row 34 _ _ g17 34 _ _ r17_15 rfl (by kernel_rfl) (by kernel_rfl) (isz (n := 16) (by kernel_rfl) (by kernel_rfl)) (eqsz (n := 16) (by kernel_rfl) (by kernel_rfl)) (by kernel_rfl)) (fun W hp => trivial) fun W16 p16 r17_16 => ?_
  have x16 : Ext w W16 := Puts.ext p16 x15 b17
  refine te_nil ?_
  refine hK16 _ _ ?_
  try clear hK16 K16
  refine wp_seq_k fun K18 hK18 => ?_
  refine wp_seq_k fun K19 hK19 => ?_
  refine region_lit ?_
  refine seq_val (.bool false) 44 rfl (by kernel_rfl) (by kernel_rfl) ?_
  refine seq_val (.bool true) 45 rfl (by kernel_rfl) (by kernel_rfl) ?_
  refine seq_val (.bool true) 46 rfl (by kernel_rfl) (by kernel_rfl) ?_
  refine seq_skip 47 rfl (by kernel_rfl) ?_
  refine seq_skip 48 rfl (by kernel_rfl) ?_
  refine seq_skip 49 rfl (by kernel_rfl) ?_
  refine seq_skip 50 rfl (by kernel_rfl) ?_
  refine seq_skip 51 rfl (by kernel_rfl) ?_
  refine seq_skip 52 rfl (by kernel_rfl) ?_
  refine seq_val (.bool true) 53 rfl (by kernel_rfl) (by kernel_rfl) ?_
  refine seq_nil ?_
  refine hK19 _ _ ?_
  try clear hK19 K19
  refine cond_true (by kernel_rfl) ?_
  refine wp_seq_k fun K20 hK20 => ?_
  refine region_lit ?_
  refine seq_call (.agg (cat [ints .i64 (lims (0)), ints .i64 (lims (1)), ints .i64 (lims (1))])) 41 #[] 54 rfl (by kernel_rfl) (by kernel_rfl) (nothing _) fun W17 e17 => ?_
  have x17 : Ext w W17 := Ext.tr x16 e17
  have r3_4 := (row_ext (Puts.row p3 r3_2 (ne_of_new r2_1 l3)) e4)
  have r3_7 := (row_ext (Puts.row p6 (row_ext r3_4 e5) (ne_of_old r3_4 l7)) e7)
  have r3_10 := (row_ext (Puts.row p9 (row_ext r3_7 e8) (ne_of_old r3_7 l11)) e10)
  have r3_12 := (Puts.row p12 (row_ext r3_10 e11) (ne_of_old r3_10 l13))
  have r3_14 := (Puts.row p14 (row_ext r3_12 e13) (ne_of_old r3_12 l15))
  have r3_17 := (row_ext (Puts.row p16 (row_ext (Puts.row p14 (row_ext (Puts.row p12 (row_ext (row_ext (Puts.row p9 (row_ext (row_ext (Puts.row p6 (row_ext (row_ext (Puts.row p3 r3_2 (ne_of_new r2_1 l3)) e4) e5) (ne_of_old r3_4 l7)) e7) e8) (ne_of_old r3_7 l11)) e10) e11) (ne_of_old r3_10 l13)) e13) (ne_of_old r3_12 l15)) e15) (ne_of_old r3_14 l17)) e17)
  refine seq_store g3 _ (cat [ints .i64 (lims (0)), ints .i64 (lims (1)), ints .i64 (lims (1))]) 36 r3_17 rfl (by kernel_rfl) (run_store_row 36 _ _ g3 36 _ _ r3_17 rfl (by kernel_rfl) (by kernel_rfl) (isz (n := 48) (by kernel_rfl) (by kernel_rfl)) (eqsz (n := 48) (by kernel_rfl) (by kernel_rfl)) (by kernel_rfl)) fun W18 p18 r3_18 => ?_
  have x18 : Ext w W18 := Puts.ext p18 x17 b3
  refine seq_val (.bool false) 3 rfl (by kernel_rfl) (by kernel_rfl) ?_
  refine seq_nil ?_
  refine hK20 _ _ ?_
  try clear hK20 K20
  refine wp_ret ?_
  exact (show bodyPost _ _ _ .ret _ _ from ret2 (.agg (cat [ints .i64 (lims (0)), ints .i64 (lims (1)), ints .i64 (lims (1))])) (.bool false) rfl (res_cell g3 36 _ r3_18 (by kernel_rfl) (by kernel_rfl) (isz (n := 48) (by kernel_rfl) (by kernel_rfl))) (res_tmp (by kernel_rfl)) ⟨rfl, x18⟩)
set_option maxHeartbeats 4000000 in
theorem rfrom_C (xs ys : List Int) (hx : xs.length = 32) (hb : AreBytes xs) (ys_len : ys.length = 32) (s0 s1 s2 s3 s4 s5 s6 r : Int) (ho : decide (nth xs 31 ≥ 128) = true) (hc : decide (ys = (xs).set 31 (nth xs 31 % 128)) = true)
    (c0 : ∀ W, Calls Tryd.prog 39 #[.agg (ints .u8 ((xs).set 31 (nth xs 31 % 128)))] W (Ret W (.agg (ints .i64 (lims (s0))))))
    (c1 : ∀ W, Calls Tryd.prog 42 #[.agg (ints .i64 (lims (s0))), .agg (ints .i64 (lims (s0)))] W (Ret W (.agg (ints .i64 (lims (s1))))))
    (c2 : ∀ W, Calls Tryd.prog 42 #[.agg (ints .i64 (lims (dN))), .agg (ints .i64 (lims (s1)))] W (Ret W (.agg (ints .i64 (lims (s2))))))
    (c3 : ∀ W, Calls Tryd.prog 43 #[.agg (ints .i64 (lims (s2))), .agg (ints .i64 (lims (1)))] W (Ret W (.agg (ints .i64 (lims (s3))))))
    (c4 : ∀ W, Calls Tryd.prog 46 #[.agg (ints .i64 (lims (s1))), .agg (ints .i64 (lims (1)))] W (Ret W (.agg (ints .i64 (lims (s4))))))
    (c5 : ∀ W, Calls Tryd.prog 47 #[.agg (ints .i64 (lims (s3)))] W (Ret W (.agg (ints .i64 (lims (s5))))))
    (c6 : ∀ W, Calls Tryd.prog 42 #[.agg (ints .i64 (lims (s4))), .agg (ints .i64 (lims (s5)))] W (Ret W (.agg (ints .i64 (lims (s6))))))
    (cb : ∀ W, Calls Tryd.prog 40 #[.agg (ints .i64 (lims (s0)))] W (Ret W (.agg (ints .u8 ys))))
    (cr : ∀ W, Calls Tryd.prog 45 #[.agg (ints .i64 (lims (s6)))] W (Ret W (.tuple #[.agg (ints .i64 (lims (r))), .bool false])))
    (w : World) : Calls Tryd.prog 12 #[.agg (ints .u8 (xs))] w (Ret w (.tuple #[.agg (cat [ints .i64 (lims (0)), ints .i64 (lims (1)), ints .i64 (lims (1))]), .bool false])) := by
  refine enter 63 [(0, .agg (ints .u8 (xs)))] Tryd.func12 rfl rfl (by kernel_rfl) rfl ?_
  refine wp_seq_k fun K1 hK1 => ?_
  refine region_lit ?_
  refine seq_alloc (ints .u8 (xs)) 23 1 rfl (by kernel_rfl) (by kernel_rfl) fun g2 W1 l2 e1 r2_1 => ?_
  have x1 : Ext w W1 := Ext.tr (Rely.Ext.refl w) e1
  have b2 : w.heap.size ≤ g2 := Nat.le_trans (Rely.Ext.refl w).size l2
  refine seq_alloc (cat [ints .i64 (lims (0)), ints .i64 (lims (0)), ints .i64 (lims (0))]) 36 2 rfl (by kernel_rfl) (by kernel_rfl) fun g3 W2 l3 e2 r3_2 => ?_
  have x2 : Ext w W2 := Ext.tr x1 e2
  have b3 : w.heap.size ≤ g3 := Nat.le_trans x1.size l3
  refine seq_val (.bool false) 3 rfl (by kernel_rfl) (by kernel_rfl) ?_
  refine seq_nil ?_
  refine hK1 _ _ ?_
  try clear hK1 K1
  refine wp_seq_k fun K4 hK4 => ?_
  refine region_lit ?_
  refine seq_val (.pointer (some ⟨g2, 31, none⟩)) 11 rfl (by kernel_rfl) (by kernel_rfl) ?_
  have r2_2 := (row_ext r2_1 e2)
  refine seq_val (.int .u8 (nth (xs) 31)) 12 rfl (by kernel_rfl) (run_loadC1 5 _ g2 31 23 _ (.int .u8 (nth (xs) 31)) _ r2_2 rfl (by kernel_rfl) (ints_get _ _ _ (Nat.lt_of_lt_of_eq (by decide) hx.symm)) (by kernel_rfl)) ?_
  refine seq_val (.bool true) 13 rfl (by kernel_rfl) (run_eq (u := .bool (decide ((nth (xs) 31) ≥ 128))) (by kernel_rfl) (congrArg Value.bool ho)) ?_
  refine seq_val (.bool true) 4 rfl (by kernel_rfl) (by kernel_rfl) ?_
  refine seq_nil ?_
  refine hK4 _ _ ?_
  try clear hK4 K4
  refine wp_seq_k fun K5 hK5 => ?_
  refine region_lit ?_
  refine seq_val (.pointer (some ⟨g2, 31, none⟩)) 14 rfl (by kernel_rfl) (by kernel_rfl) ?_
  refine seq_val (.int .u8 (nth (xs) 31)) 15 rfl (by kernel_rfl) (run_loadC1 5 _ g2 31 23 _ (.int .u8 (nth (xs) 31)) _ r2_2 rfl (by kernel_rfl) (ints_get _ _ _ (Nat.lt_of_lt_of_eq (by decide) hx.symm)) (by kernel_rfl)) ?_
  refine seq_val (.int .u8 (nth xs 31 % 128)) 16 rfl (by kernel_rfl) (run_eq (u := .int .u8 (Int.tmod ((nth (xs) 31)) (128))) (by kernel_rfl) (congrArg (Value.int .u8) (tmod128 _ (hb.nth 31)))) ?_
  refine seq_val (.pointer (some ⟨g2, 31, none⟩)) 17 rfl (by kernel_rfl) (by kernel_rfl) ?_
  refine seq_store g2 _ (ints .u8 ((xs).set 31 (nth xs 31 % 128))) 23 r2_2 rfl (by kernel_rfl) (run_storeI 5 _ _ g2 31 23 _ _ r2_2 rfl (by kernel_rfl) (by kernel_rfl) (by kernel_rfl) (Nat.lt_of_lt_of_eq (by decide) hx.symm)) fun W3 p3 r2_3 => ?_
  have x3 : Ext w W3 := Puts.ext p3 x2 b2
  refine seq_nil ?_
  refine hK5 _ _ ?_
  try clear hK5 K5
  refine wp_seq_k fun K6 hK6 => ?_
  refine region_lit ?_
  refine seq_val (.agg (ints .u8 ((xs).set 31 (nth xs 31 % 128)))) 18 rfl (by kernel_rfl) (run_load_row 23 _ g2 23 _ _ r2_3 rfl (by kernel_rfl) (by kernel_rfl) (isz (n := 32) (by kernel_rfl) ((ints_size _ _).trans ((List.length_set ..).trans hx)))) ?_
  refine seq_call (.agg (ints .i64 (lims (s0)))) 39 #[.agg (ints .u8 ((xs).set 31 (nth xs 31 % 128)))] 19 rfl (by kernel_rfl) (by kernel_rfl) (c0 _) fun W4 e4 => ?_
  have x4 : Ext w W4 := Ext.tr x3 e4
  refine seq_alloc (ints .i64 (lims (0))) 34 5 rfl (by kernel_rfl) (by kernel_rfl) fun g7 W5 l7 e5 r7_5 => ?_
  have x5 : Ext w W5 := Ext.tr x4 e5
  have b7 : w.heap.size ≤ g7 := Nat.le_trans x4.size l7
  refine seq_store g7 _ (ints .i64 (lims (s0))) 34 r7_5 rfl (by kernel_rfl) (run_store_row 34 _ _ g7 34 _ _ r7_5 rfl (by kernel_rfl) (by kernel_rfl) (isz (n := 16) (by kernel_rfl) (by kernel_rfl)) (eqsz (n := 16) (by kernel_rfl) (by kernel_rfl)) (by kernel_rfl)) fun W6 p6 r7_6 => ?_
  have x6 : Ext w W6 := Puts.ext p6 x5 b7
  refine seq_nil ?_
  refine hK6 _ _ ?_
  try clear hK6 K6
  refine wp_seq_k fun K8 hK8 => ?_
  refine wp_seq_k fun K9 hK9 => ?_
  refine any_region 4 [⟨none, [(5, none)]⟩, ⟨none, [(20, some 0)]⟩, ⟨none, [(1, none)]⟩, ⟨none, [(21, some 1), (22, some 2)]⟩] (by kernel_rfl) (by kernel_rfl) fun F hF => ?_
  refine any_read (.agg (ints .i64 (lims (s0)))) (by kernel_rfl) (by kernel_rfl) (fun W hR => (run_load_row 34 _ g7 34 _ _ (row_ext (row_ext r7_6 (ext_drew _)) hR) rfl (by kernel_rfl) (by kernel_rfl) (isz (n := 16) (by kernel_rfl) (by kernel_rfl)))) ?_
  refine any_call (.agg (ints .u8 (ys))) 40 #[.agg (ints .i64 (lims (s0)))] (by kernel_rfl) (by kernel_rfl) (fun W => by kernel_rfl) (fun W hR => cb W) ?_
  have r2_4 := (row_ext r2_3 e4)
  have r2_6 := (Puts.row p6 (row_ext (row_ext r2_3 e4) e5) (ne_of_old r2_4 l7))
  refine any_read (.agg (ints .u8 ((xs).set 31 (nth xs 31 % 128)))) (by kernel_rfl) (by kernel_rfl) (fun W hR => (run_load_row 23 _ g2 23 _ _ (row_ext (row_ext r2_6 (ext_drew _)) hR) rfl (by kernel_rfl) (by kernel_rfl) (isz (n := 32) (by kernel_rfl) ((ints_size _ _).trans ((List.length_set ..).trans hx))))) ?_
  refine any_val (.bool false) (by kernel_rfl) (by kernel_rfl) (fun W => (run_neq_agg 23 _ _ _ _ _ (.bool false) rfl (by kernel_rfl) (by kernel_rfl) (by kernel_rfl) (key_neq _ _ true ys_len (by rw [List.length_set]; exact hx) hc _))) ?_
  refine steps_nil (hF _ (by kernel_rfl) fun W7 e7 => ?_)
  simp only [ups, up, Kn.val, List.take_succ_cons, List.take_zero, List.drop_succ_cons, List.drop_zero, List.nil_append, List.cons_append]
  clear hF
  have x7 : Ext w W7 := Ext.tr x6 e7
  refine seq_nil ?_
  refine hK9 _ _ ?_
  try clear hK9 K9
  refine cond_false (by kernel_rfl) ?_
  refine wp_skip ?_
  refine hK8 _ _ ?_
  try clear hK8 K8
  refine wp_seq_k fun K10 hK10 => ?_
  refine region_lit ?_
  refine seq_val (.agg (ints .i64 (lims (1)))) 25 rfl (by kernel_rfl) (by kernel_rfl) ?_
  refine seq_alloc (ints .i64 (lims (0))) 34 6 rfl (by kernel_rfl) (by kernel_rfl) fun g11 W8 l11 e8 r11_8 => ?_
  have x8 : Ext w W8 := Ext.tr x7 e8
  have b11 : w.heap.size ≤ g11 := Nat.le_trans x7.size l11
  refine seq_store g11 _ (ints .i64 (lims (1))) 34 r11_8 rfl (by kernel_rfl) (run_store_row 34 _ _ g11 34 _ _ r11_8 rfl (by kernel_rfl) (by kernel_rfl) (isz (n := 16) (by kernel_rfl) (by kernel_rfl)) (eqsz (n := 16) (by kernel_rfl) (by kernel_rfl)) (by kernel_rfl)) fun W9 p9 r11_9 => ?_
  have x9 : Ext w W9 := Puts.ext p9 x8 b11
  refine seq_nil ?_
  refine hK10 _ _ ?_
  try clear hK10 K10
  refine wp_seq_k fun K12 hK12 => ?_
  refine region_lit ?_
  have r7_7 := (row_ext r7_6 e7)
  have r7_9 := (Puts.row p9 (row_ext (row_ext r7_6 e7) e8) (ne_of_old r7_7 l11))
  refine seq_val (.agg (ints .i64 (lims (s0)))) 26 rfl (by kernel_rfl) (run_load_row 34 _ g7 34 _ _ r7_9 rfl (by kernel_rfl) (by kernel_rfl) (isz (n := 16) (by kernel_rfl) (by kernel_rfl))) ?_
  refine seq_val (.agg (ints .i64 (lims (s0)))) 27 rfl (by kernel_rfl) (run_load_row 34 _ g7 34 _ _ r7_9 rfl (by kernel_rfl) (by kernel_rfl) (isz (n := 16) (by kernel_rfl) (by kernel_rfl))) ?_
  refine seq_call (.agg (ints .i64 (lims (s1)))) 42 #[.agg (ints .i64 (lims (s0))), .agg (ints .i64 (lims (s0)))] 28 rfl (by kernel_rfl) (by kernel_rfl) (c1 _) fun W10 e10 => ?_
  have x10 : Ext w W10 := Ext.tr x9 e10
  refine seq_alloc (ints .i64 (lims (0))) 34 7 rfl (by kernel_rfl) (by kernel_rfl) fun g13 W11 l13 e11 r13_11 => ?_
  have x11 : Ext w W11 := Ext.tr x10 e11
  have b13 : w.heap.size ≤ g13 := Nat.le_trans x10.size l13
  refine seq_store g13 _ (ints .i64 (lims (s1))) 34 r13_11 rfl (by kernel_rfl) (run_store_row 34 _ _ g13 34 _ _ r13_11 rfl (by kernel_rfl) (by kernel_rfl) (isz (n := 16) (by kernel_rfl) (by kernel_rfl)) (eqsz (n := 16) (by kernel_rfl) (by kernel_rfl)) (by kernel_rfl)) fun W12 p12 r13_12 => ?_
  have x12 : Ext w W12 := Puts.ext p12 x11 b13
  refine seq_nil ?_
  refine hK12 _ _ ?_
  try clear hK12 K12
  refine wp_seq_k fun K14 hK14 => ?_
  refine any_regionD 6 [⟨none, []⟩, ⟨none, [(7, none)]⟩, ⟨none, [(29, some 0), (30, some 1)]⟩, ⟨none, [(6, none)]⟩, ⟨none, [(31, some 2), (32, some 3)]⟩, ⟨none, []⟩] [5] (by kernel_rfl) (by kernel_rfl) (by kernel_rfl) fun F hF => ?_
  refine any_call (.agg (ints .i64 (lims (dN)))) 44 #[] (by kernel_rfl) (by kernel_rfl) (fun W => by kernel_rfl) (fun W hR => factor W) ?_
  refine any_read (.agg (ints .i64 (lims (s1)))) (by kernel_rfl) (by kernel_rfl) (fun W hR => (run_load_row 34 _ g13 34 _ _ (row_ext (row_ext r13_12 (ext_drew _)) hR) rfl (by kernel_rfl) (by kernel_rfl) (isz (n := 16) (by kernel_rfl) (by kernel_rfl)))) ?_
  refine any_call (.agg (ints .i64 (lims (s2)))) 42 #[.agg (ints .i64 (lims (dN))), .agg (ints .i64 (lims (s1)))] (by kernel_rfl) (by kernel_rfl) (fun W => by kernel_rfl) (fun W hR => c2 W) ?_
  have r11_10 := (row_ext r11_9 e10)
  have r11_12 := (Puts.row p12 (row_ext (row_ext r11_9 e10) e11) (ne_of_old r11_10 l13))
  refine any_read (.agg (ints .i64 (lims (1)))) (by kernel_rfl) (by kernel_rfl) (fun W hR => (run_load_row 34 _ g11 34 _ _ (row_ext (row_ext r11_12 (ext_drew _)) hR) rfl (by kernel_rfl) (by kernel_rfl) (isz (n := 16) (by kernel_rfl) (by kernel_rfl)))) ?_
  refine any_call (.agg (ints .i64 (lims (s3)))) 43 #[.agg (ints .i64 (lims (s2))), .agg (ints .i64 (lims (1)))] (by kernel_rfl) (by kernel_rfl) (fun W => by kernel_rfl) (fun W hR => c3 W) ?_
  refine any_new (ints .i64 (lims (0))) 34 (by kernel_rfl) (Nat.le_refl _) (by kernel_rfl) (fun W => by kernel_rfl) ?_
  refine steps_nil (hF _ (by kernel_rfl) fun W13 e13 => ?_)
  simp only [fins, up, List.take_succ_cons, List.take_zero, List.drop_succ_cons, List.drop_zero, List.nil_append, List.cons_append]
  intro g15 l15 r15_13 n15
  have b15 : w.heap.size ≤ g15 := Nat.le_trans x12.size l15
  clear hF
  have x13 : Ext w W13 := Ext.tr x12 e13
  refine seq_store g15 _ (ints .i64 (lims (s3))) 34 r15_13 rfl (by kernel_rfl) (run_store_row 34 _ _ g15 34 _ _ r15_13 rfl (by kernel_rfl) (by kernel_rfl) (isz (n := 16) (by kernel_rfl) (by kernel_rfl)) (eqsz (n := 16) (by kernel_rfl) (by kernel_rfl)) (by kernel_rfl)) fun W14 p14 r15_14 => ?_
  have x14 : Ext w W14 := Puts.ext p14 x13 b15
  refine seq_nil ?_
  refine hK14 _ _ ?_
  try clear hK14 K14
  refine wp_seq_k fun K16 hK16 => ?_
  refine any_regionT (fun W => True) [⟨none, [(7, none)]⟩, ⟨none, [(6, none)]⟩, ⟨none, [(35, some 0), (36, some 1)]⟩, ⟨none, [(8, none)]⟩, ⟨none, [(38, some 3)]⟩, ⟨none, [(37, some 2), (39, some 4)]⟩, ⟨none, [(40, some 5)]⟩, ⟨none, [(41, some 6)]⟩, ⟨none, [(34, some 7)]⟩, ⟨none, [(34, some 7)]⟩, ⟨none, []⟩, ⟨none, [(9, some 10), (42, some 8)]⟩, ⟨none, [(43, some 9)]⟩] [10] [9, 12] (by kernel_rfl) (by kernel_rfl) (by kernel_rfl) (fun W hR => trivial) fun F hF => ?_
  have r13_14 := (Puts.row p14 (row_ext r13_12 e13) (ne_of_old r13_12 l15))
  refine t_read (.agg (ints .i64 (lims (s1)))) (by kernel_rfl) (by kernel_rfl) (by kernel_rfl) rfl (fun W hR => (run_load_row 34 _ g13 34 _ _ (row_ext (row_ext r13_14 (ext_drew _)) hR) rfl (by kernel_rfl) (by kernel_rfl) (isz (n := 16) (by kernel_rfl) (by kernel_rfl)))) ?_
  have r11_14 := (Puts.row p14 (row_ext r11_12 e13) (ne_of_old r11_12 l15))
  refine t_read (.agg (ints .i64 (lims (1)))) (by kernel_rfl) (by kernel_rfl) (by kernel_rfl) rfl (fun W hR => (run_load_row 34 _ g11 34 _ _ (row_ext (row_ext r11_14 (ext_drew _)) hR) rfl (by kernel_rfl) (by kernel_rfl) (isz (n := 16) (by kernel_rfl) (by kernel_rfl)))) ?_
  refine t_call (.agg (ints .i64 (lims (s4)))) 46 #[.agg (ints .i64 (lims (s1))), .agg (ints .i64 (lims (1)))] (by kernel_rfl) (by kernel_rfl) (by kernel_rfl) rfl (fun W => by kernel_rfl) (fun W hR => c4 W) ?_
  refine t_read (.agg (ints .i64 (lims (s3)))) (by kernel_rfl) (by kernel_rfl) (by kernel_rfl) rfl (fun W hR => (run_load_row 34 _ g15 34 _ _ (row_ext (row_ext r15_14 (ext_drew _)) hR) rfl (by kernel_rfl) (by kernel_rfl) (isz (n := 16) (by kernel_rfl) (by kernel_rfl)))) ?_
  refine t_call (.agg (ints .i64 (lims (s5)))) 47 #[.agg (ints .i64 (lims (s3)))] (by kernel_rfl) (by kernel_rfl) (by kernel_rfl) rfl (fun W => by kernel_rfl) (fun W hR => c5 W) ?_
  refine t_call (.agg (ints .i64 (lims (s6)))) 42 #[.agg (ints .i64 (lims (s4))), .agg (ints .i64 (lims (s5)))] (by kernel_rfl) (by kernel_rfl) (by kernel_rfl) rfl (fun W => by kernel_rfl) (fun W hR => c6 W) ?_
  refine t_call (.tuple #[.agg (ints .i64 (lims (r))), .bool false]) 45 #[.agg (ints .i64 (lims (s6)))] (by kernel_rfl) (by kernel_rfl) (by kernel_rfl) rfl (fun W => by kernel_rfl) (fun W hR => cr W) ?_
  refine t_val (.tuple #[.agg (ints .i64 (lims (r))), .bool false]) (by kernel_rfl) (by kernel_rfl) rfl (fun W => by kernel_rfl) ?_
  refine t_val (.agg (ints .i64 (lims (r)))) (by kernel_rfl) (by kernel_rfl) rfl (fun W => by kernel_rfl) ?_
  refine t_val (.bool false) (by kernel_rfl) (by kernel_rfl) rfl (fun W => by kernel_rfl) ?_
  refine t_new (ints .i64 (lims (0))) 34 (by kernel_rfl) (by kernel_rfl) (Nat.le_refl _) (by kernel_rfl) rfl (fun W => by kernel_rfl) ?_
  refine t_store rfl ?_
  refine t_val (.bool false) (by kernel_rfl) (by kernel_rfl) rfl (fun W => by kernel_rfl) ?_
  refine t_nil (hF _ (by kernel_rfl) fun W15 e15 => ?_)
  simp only [List.nil_append, List.cons_append, fins, up]
  intro g17 l17 r17_15 n17
  have b17 : w.heap.size ≤ g17 := Nat.le_trans x14.size l17
  clear hF
  have x15 : Ext w W15 := Ext.tr x14 e15
  refine te_store _ g17 _ (ints .i64 (lims (r))) 34 r17_15 rfl (run_store_row 34 _ _ g17 34 _ _ r17_15 rfl (by kernel_rfl) (by kernel_rfl) (isz (n := 16) (by kernel_rfl) (by kernel_rfl)) (eqsz (n := 16) (by kernel_rfl) (by kernel_rfl)) (by kernel_rfl)) (fun W hp => trivial) fun W16 p16 r17_16 => ?_
  have x16 : Ext w W16 := Puts.ext p16 x15 b17
  refine te_nil ?_
  refine hK16 _ _ ?_
  try clear hK16 K16
  refine wp_seq_k fun K18 hK18 => ?_
  refine wp_seq_k fun K19 hK19 => ?_
  refine region_lit ?_
  refine seq_val (.bool false) 44 rfl (by kernel_rfl) (by kernel_rfl) ?_
  refine seq_val (.bool true) 45 rfl (by kernel_rfl) (by kernel_rfl) ?_
  refine seq_val (.bool true) 46 rfl (by kernel_rfl) (by kernel_rfl) ?_
  refine seq_skip 47 rfl (by kernel_rfl) ?_
  refine seq_skip 48 rfl (by kernel_rfl) ?_
  refine seq_skip 49 rfl (by kernel_rfl) ?_
  refine seq_skip 50 rfl (by kernel_rfl) ?_
  refine seq_skip 51 rfl (by kernel_rfl) ?_
  refine seq_skip 52 rfl (by kernel_rfl) ?_
  refine seq_val (.bool true) 53 rfl (by kernel_rfl) (by kernel_rfl) ?_
  refine seq_nil ?_
  refine hK19 _ _ ?_
  try clear hK19 K19
  refine cond_true (by kernel_rfl) ?_
  refine wp_seq_k fun K20 hK20 => ?_
  refine region_lit ?_
  refine seq_call (.agg (cat [ints .i64 (lims (0)), ints .i64 (lims (1)), ints .i64 (lims (1))])) 41 #[] 54 rfl (by kernel_rfl) (by kernel_rfl) (nothing _) fun W17 e17 => ?_
  have x17 : Ext w W17 := Ext.tr x16 e17
  have r3_4 := (row_ext (Puts.row p3 r3_2 (ne_of_new r2_1 l3)) e4)
  have r3_7 := (row_ext (Puts.row p6 (row_ext r3_4 e5) (ne_of_old r3_4 l7)) e7)
  have r3_10 := (row_ext (Puts.row p9 (row_ext r3_7 e8) (ne_of_old r3_7 l11)) e10)
  have r3_12 := (Puts.row p12 (row_ext r3_10 e11) (ne_of_old r3_10 l13))
  have r3_14 := (Puts.row p14 (row_ext r3_12 e13) (ne_of_old r3_12 l15))
  have r3_17 := (row_ext (Puts.row p16 (row_ext (Puts.row p14 (row_ext (Puts.row p12 (row_ext (row_ext (Puts.row p9 (row_ext (row_ext (Puts.row p6 (row_ext (row_ext (Puts.row p3 r3_2 (ne_of_new r2_1 l3)) e4) e5) (ne_of_old r3_4 l7)) e7) e8) (ne_of_old r3_7 l11)) e10) e11) (ne_of_old r3_10 l13)) e13) (ne_of_old r3_12 l15)) e15) (ne_of_old r3_14 l17)) e17)
  refine seq_store g3 _ (cat [ints .i64 (lims (0)), ints .i64 (lims (1)), ints .i64 (lims (1))]) 36 r3_17 rfl (by kernel_rfl) (run_store_row 36 _ _ g3 36 _ _ r3_17 rfl (by kernel_rfl) (by kernel_rfl) (isz (n := 48) (by kernel_rfl) (by kernel_rfl)) (eqsz (n := 48) (by kernel_rfl) (by kernel_rfl)) (by kernel_rfl)) fun W18 p18 r3_18 => ?_
  have x18 : Ext w W18 := Puts.ext p18 x17 b3
  refine seq_val (.bool false) 3 rfl (by kernel_rfl) (by kernel_rfl) ?_
  refine seq_nil ?_
  refine hK20 _ _ ?_
  try clear hK20 K20
  refine wp_ret ?_
  exact (show bodyPost _ _ _ .ret _ _ from ret2 (.agg (cat [ints .i64 (lims (0)), ints .i64 (lims (1)), ints .i64 (lims (1))])) (.bool false) rfl (res_cell g3 36 _ r3_18 (by kernel_rfl) (by kernel_rfl) (isz (n := 48) (by kernel_rfl) (by kernel_rfl))) (res_tmp (by kernel_rfl)) ⟨rfl, x18⟩)
set_option maxHeartbeats 4000000 in
theorem rfrom_D (xs ys : List Int) (hx : xs.length = 32) (hb : AreBytes xs) (ys_len : ys.length = 32) (s0 s1 s2 s3 s4 s5 s6 r : Int) (ho : decide (nth xs 31 ≥ 128) = true) (hc : decide (ys = (xs).set 31 (nth xs 31 % 128)) = true) (hz : decide (lims r = lims 0) = true)
    (c0 : ∀ W, Calls Tryd.prog 39 #[.agg (ints .u8 ((xs).set 31 (nth xs 31 % 128)))] W (Ret W (.agg (ints .i64 (lims (s0))))))
    (c1 : ∀ W, Calls Tryd.prog 42 #[.agg (ints .i64 (lims (s0))), .agg (ints .i64 (lims (s0)))] W (Ret W (.agg (ints .i64 (lims (s1))))))
    (c2 : ∀ W, Calls Tryd.prog 42 #[.agg (ints .i64 (lims (dN))), .agg (ints .i64 (lims (s1)))] W (Ret W (.agg (ints .i64 (lims (s2))))))
    (c3 : ∀ W, Calls Tryd.prog 43 #[.agg (ints .i64 (lims (s2))), .agg (ints .i64 (lims (1)))] W (Ret W (.agg (ints .i64 (lims (s3))))))
    (c4 : ∀ W, Calls Tryd.prog 46 #[.agg (ints .i64 (lims (s1))), .agg (ints .i64 (lims (1)))] W (Ret W (.agg (ints .i64 (lims (s4))))))
    (c5 : ∀ W, Calls Tryd.prog 47 #[.agg (ints .i64 (lims (s3)))] W (Ret W (.agg (ints .i64 (lims (s5))))))
    (c6 : ∀ W, Calls Tryd.prog 42 #[.agg (ints .i64 (lims (s4))), .agg (ints .i64 (lims (s5)))] W (Ret W (.agg (ints .i64 (lims (s6))))))
    (cb : ∀ W, Calls Tryd.prog 40 #[.agg (ints .i64 (lims (s0)))] W (Ret W (.agg (ints .u8 ys))))
    (cr : ∀ W, Calls Tryd.prog 45 #[.agg (ints .i64 (lims (s6)))] W (Ret W (.tuple #[.agg (ints .i64 (lims (r))), .bool true])))
    (w : World) : Calls Tryd.prog 12 #[.agg (ints .u8 (xs))] w (Ret w (.tuple #[.agg (cat [ints .i64 (lims (0)), ints .i64 (lims (1)), ints .i64 (lims (1))]), .bool false])) := by
  refine enter 63 [(0, .agg (ints .u8 (xs)))] Tryd.func12 rfl rfl (by kernel_rfl) rfl ?_
  refine wp_seq_k fun K1 hK1 => ?_
  refine region_lit ?_
  refine seq_alloc (ints .u8 (xs)) 23 1 rfl (by kernel_rfl) (by kernel_rfl) fun g2 W1 l2 e1 r2_1 => ?_
  have x1 : Ext w W1 := Ext.tr (Rely.Ext.refl w) e1
  have b2 : w.heap.size ≤ g2 := Nat.le_trans (Rely.Ext.refl w).size l2
  refine seq_alloc (cat [ints .i64 (lims (0)), ints .i64 (lims (0)), ints .i64 (lims (0))]) 36 2 rfl (by kernel_rfl) (by kernel_rfl) fun g3 W2 l3 e2 r3_2 => ?_
  have x2 : Ext w W2 := Ext.tr x1 e2
  have b3 : w.heap.size ≤ g3 := Nat.le_trans x1.size l3
  refine seq_val (.bool false) 3 rfl (by kernel_rfl) (by kernel_rfl) ?_
  refine seq_nil ?_
  refine hK1 _ _ ?_
  try clear hK1 K1
  refine wp_seq_k fun K4 hK4 => ?_
  refine region_lit ?_
  refine seq_val (.pointer (some ⟨g2, 31, none⟩)) 11 rfl (by kernel_rfl) (by kernel_rfl) ?_
  have r2_2 := (row_ext r2_1 e2)
  refine seq_val (.int .u8 (nth (xs) 31)) 12 rfl (by kernel_rfl) (run_loadC1 5 _ g2 31 23 _ (.int .u8 (nth (xs) 31)) _ r2_2 rfl (by kernel_rfl) (ints_get _ _ _ (Nat.lt_of_lt_of_eq (by decide) hx.symm)) (by kernel_rfl)) ?_
  refine seq_val (.bool true) 13 rfl (by kernel_rfl) (run_eq (u := .bool (decide ((nth (xs) 31) ≥ 128))) (by kernel_rfl) (congrArg Value.bool ho)) ?_
  refine seq_val (.bool true) 4 rfl (by kernel_rfl) (by kernel_rfl) ?_
  refine seq_nil ?_
  refine hK4 _ _ ?_
  try clear hK4 K4
  refine wp_seq_k fun K5 hK5 => ?_
  refine region_lit ?_
  refine seq_val (.pointer (some ⟨g2, 31, none⟩)) 14 rfl (by kernel_rfl) (by kernel_rfl) ?_
  refine seq_val (.int .u8 (nth (xs) 31)) 15 rfl (by kernel_rfl) (run_loadC1 5 _ g2 31 23 _ (.int .u8 (nth (xs) 31)) _ r2_2 rfl (by kernel_rfl) (ints_get _ _ _ (Nat.lt_of_lt_of_eq (by decide) hx.symm)) (by kernel_rfl)) ?_
  refine seq_val (.int .u8 (nth xs 31 % 128)) 16 rfl (by kernel_rfl) (run_eq (u := .int .u8 (Int.tmod ((nth (xs) 31)) (128))) (by kernel_rfl) (congrArg (Value.int .u8) (tmod128 _ (hb.nth 31)))) ?_
  refine seq_val (.pointer (some ⟨g2, 31, none⟩)) 17 rfl (by kernel_rfl) (by kernel_rfl) ?_
  refine seq_store g2 _ (ints .u8 ((xs).set 31 (nth xs 31 % 128))) 23 r2_2 rfl (by kernel_rfl) (run_storeI 5 _ _ g2 31 23 _ _ r2_2 rfl (by kernel_rfl) (by kernel_rfl) (by kernel_rfl) (Nat.lt_of_lt_of_eq (by decide) hx.symm)) fun W3 p3 r2_3 => ?_
  have x3 : Ext w W3 := Puts.ext p3 x2 b2
  refine seq_nil ?_
  refine hK5 _ _ ?_
  try clear hK5 K5
  refine wp_seq_k fun K6 hK6 => ?_
  refine region_lit ?_
  refine seq_val (.agg (ints .u8 ((xs).set 31 (nth xs 31 % 128)))) 18 rfl (by kernel_rfl) (run_load_row 23 _ g2 23 _ _ r2_3 rfl (by kernel_rfl) (by kernel_rfl) (isz (n := 32) (by kernel_rfl) ((ints_size _ _).trans ((List.length_set ..).trans hx)))) ?_
  refine seq_call (.agg (ints .i64 (lims (s0)))) 39 #[.agg (ints .u8 ((xs).set 31 (nth xs 31 % 128)))] 19 rfl (by kernel_rfl) (by kernel_rfl) (c0 _) fun W4 e4 => ?_
  have x4 : Ext w W4 := Ext.tr x3 e4
  refine seq_alloc (ints .i64 (lims (0))) 34 5 rfl (by kernel_rfl) (by kernel_rfl) fun g7 W5 l7 e5 r7_5 => ?_
  have x5 : Ext w W5 := Ext.tr x4 e5
  have b7 : w.heap.size ≤ g7 := Nat.le_trans x4.size l7
  refine seq_store g7 _ (ints .i64 (lims (s0))) 34 r7_5 rfl (by kernel_rfl) (run_store_row 34 _ _ g7 34 _ _ r7_5 rfl (by kernel_rfl) (by kernel_rfl) (isz (n := 16) (by kernel_rfl) (by kernel_rfl)) (eqsz (n := 16) (by kernel_rfl) (by kernel_rfl)) (by kernel_rfl)) fun W6 p6 r7_6 => ?_
  have x6 : Ext w W6 := Puts.ext p6 x5 b7
  refine seq_nil ?_
  refine hK6 _ _ ?_
  try clear hK6 K6
  refine wp_seq_k fun K8 hK8 => ?_
  refine wp_seq_k fun K9 hK9 => ?_
  refine any_region 4 [⟨none, [(5, none)]⟩, ⟨none, [(20, some 0)]⟩, ⟨none, [(1, none)]⟩, ⟨none, [(21, some 1), (22, some 2)]⟩] (by kernel_rfl) (by kernel_rfl) fun F hF => ?_
  refine any_read (.agg (ints .i64 (lims (s0)))) (by kernel_rfl) (by kernel_rfl) (fun W hR => (run_load_row 34 _ g7 34 _ _ (row_ext (row_ext r7_6 (ext_drew _)) hR) rfl (by kernel_rfl) (by kernel_rfl) (isz (n := 16) (by kernel_rfl) (by kernel_rfl)))) ?_
  refine any_call (.agg (ints .u8 (ys))) 40 #[.agg (ints .i64 (lims (s0)))] (by kernel_rfl) (by kernel_rfl) (fun W => by kernel_rfl) (fun W hR => cb W) ?_
  have r2_4 := (row_ext r2_3 e4)
  have r2_6 := (Puts.row p6 (row_ext (row_ext r2_3 e4) e5) (ne_of_old r2_4 l7))
  refine any_read (.agg (ints .u8 ((xs).set 31 (nth xs 31 % 128)))) (by kernel_rfl) (by kernel_rfl) (fun W hR => (run_load_row 23 _ g2 23 _ _ (row_ext (row_ext r2_6 (ext_drew _)) hR) rfl (by kernel_rfl) (by kernel_rfl) (isz (n := 32) (by kernel_rfl) ((ints_size _ _).trans ((List.length_set ..).trans hx))))) ?_
  refine any_val (.bool false) (by kernel_rfl) (by kernel_rfl) (fun W => (run_neq_agg 23 _ _ _ _ _ (.bool false) rfl (by kernel_rfl) (by kernel_rfl) (by kernel_rfl) (key_neq _ _ true ys_len (by rw [List.length_set]; exact hx) hc _))) ?_
  refine steps_nil (hF _ (by kernel_rfl) fun W7 e7 => ?_)
  simp only [ups, up, Kn.val, List.take_succ_cons, List.take_zero, List.drop_succ_cons, List.drop_zero, List.nil_append, List.cons_append]
  clear hF
  have x7 : Ext w W7 := Ext.tr x6 e7
  refine seq_nil ?_
  refine hK9 _ _ ?_
  try clear hK9 K9
  refine cond_false (by kernel_rfl) ?_
  refine wp_skip ?_
  refine hK8 _ _ ?_
  try clear hK8 K8
  refine wp_seq_k fun K10 hK10 => ?_
  refine region_lit ?_
  refine seq_val (.agg (ints .i64 (lims (1)))) 25 rfl (by kernel_rfl) (by kernel_rfl) ?_
  refine seq_alloc (ints .i64 (lims (0))) 34 6 rfl (by kernel_rfl) (by kernel_rfl) fun g11 W8 l11 e8 r11_8 => ?_
  have x8 : Ext w W8 := Ext.tr x7 e8
  have b11 : w.heap.size ≤ g11 := Nat.le_trans x7.size l11
  refine seq_store g11 _ (ints .i64 (lims (1))) 34 r11_8 rfl (by kernel_rfl) (run_store_row 34 _ _ g11 34 _ _ r11_8 rfl (by kernel_rfl) (by kernel_rfl) (isz (n := 16) (by kernel_rfl) (by kernel_rfl)) (eqsz (n := 16) (by kernel_rfl) (by kernel_rfl)) (by kernel_rfl)) fun W9 p9 r11_9 => ?_
  have x9 : Ext w W9 := Puts.ext p9 x8 b11
  refine seq_nil ?_
  refine hK10 _ _ ?_
  try clear hK10 K10
  refine wp_seq_k fun K12 hK12 => ?_
  refine region_lit ?_
  have r7_7 := (row_ext r7_6 e7)
  have r7_9 := (Puts.row p9 (row_ext (row_ext r7_6 e7) e8) (ne_of_old r7_7 l11))
  refine seq_val (.agg (ints .i64 (lims (s0)))) 26 rfl (by kernel_rfl) (run_load_row 34 _ g7 34 _ _ r7_9 rfl (by kernel_rfl) (by kernel_rfl) (isz (n := 16) (by kernel_rfl) (by kernel_rfl))) ?_
  refine seq_val (.agg (ints .i64 (lims (s0)))) 27 rfl (by kernel_rfl) (run_load_row 34 _ g7 34 _ _ r7_9 rfl (by kernel_rfl) (by kernel_rfl) (isz (n := 16) (by kernel_rfl) (by kernel_rfl))) ?_
  refine seq_call (.agg (ints .i64 (lims (s1)))) 42 #[.agg (ints .i64 (lims (s0))), .agg (ints .i64 (lims (s0)))] 28 rfl (by kernel_rfl) (by kernel_rfl) (c1 _) fun W10 e10 => ?_
  have x10 : Ext w W10 := Ext.tr x9 e10
  refine seq_alloc (ints .i64 (lims (0))) 34 7 rfl (by kernel_rfl) (by kernel_rfl) fun g13 W11 l13 e11 r13_11 => ?_
  have x11 : Ext w W11 := Ext.tr x10 e11
  have b13 : w.heap.size ≤ g13 := Nat.le_trans x10.size l13
  refine seq_store g13 _ (ints .i64 (lims (s1))) 34 r13_11 rfl (by kernel_rfl) (run_store_row 34 _ _ g13 34 _ _ r13_11 rfl (by kernel_rfl) (by kernel_rfl) (isz (n := 16) (by kernel_rfl) (by kernel_rfl)) (eqsz (n := 16) (by kernel_rfl) (by kernel_rfl)) (by kernel_rfl)) fun W12 p12 r13_12 => ?_
  have x12 : Ext w W12 := Puts.ext p12 x11 b13
  refine seq_nil ?_
  refine hK12 _ _ ?_
  try clear hK12 K12
  refine wp_seq_k fun K14 hK14 => ?_
  refine any_regionD 6 [⟨none, []⟩, ⟨none, [(7, none)]⟩, ⟨none, [(29, some 0), (30, some 1)]⟩, ⟨none, [(6, none)]⟩, ⟨none, [(31, some 2), (32, some 3)]⟩, ⟨none, []⟩] [5] (by kernel_rfl) (by kernel_rfl) (by kernel_rfl) fun F hF => ?_
  refine any_call (.agg (ints .i64 (lims (dN)))) 44 #[] (by kernel_rfl) (by kernel_rfl) (fun W => by kernel_rfl) (fun W hR => factor W) ?_
  refine any_read (.agg (ints .i64 (lims (s1)))) (by kernel_rfl) (by kernel_rfl) (fun W hR => (run_load_row 34 _ g13 34 _ _ (row_ext (row_ext r13_12 (ext_drew _)) hR) rfl (by kernel_rfl) (by kernel_rfl) (isz (n := 16) (by kernel_rfl) (by kernel_rfl)))) ?_
  refine any_call (.agg (ints .i64 (lims (s2)))) 42 #[.agg (ints .i64 (lims (dN))), .agg (ints .i64 (lims (s1)))] (by kernel_rfl) (by kernel_rfl) (fun W => by kernel_rfl) (fun W hR => c2 W) ?_
  have r11_10 := (row_ext r11_9 e10)
  have r11_12 := (Puts.row p12 (row_ext (row_ext r11_9 e10) e11) (ne_of_old r11_10 l13))
  refine any_read (.agg (ints .i64 (lims (1)))) (by kernel_rfl) (by kernel_rfl) (fun W hR => (run_load_row 34 _ g11 34 _ _ (row_ext (row_ext r11_12 (ext_drew _)) hR) rfl (by kernel_rfl) (by kernel_rfl) (isz (n := 16) (by kernel_rfl) (by kernel_rfl)))) ?_
  refine any_call (.agg (ints .i64 (lims (s3)))) 43 #[.agg (ints .i64 (lims (s2))), .agg (ints .i64 (lims (1)))] (by kernel_rfl) (by kernel_rfl) (fun W => by kernel_rfl) (fun W hR => c3 W) ?_
  refine any_new (ints .i64 (lims (0))) 34 (by kernel_rfl) (Nat.le_refl _) (by kernel_rfl) (fun W => by kernel_rfl) ?_
  refine steps_nil (hF _ (by kernel_rfl) fun W13 e13 => ?_)
  simp only [fins, up, List.take_succ_cons, List.take_zero, List.drop_succ_cons, List.drop_zero, List.nil_append, List.cons_append]
  intro g15 l15 r15_13 n15
  have b15 : w.heap.size ≤ g15 := Nat.le_trans x12.size l15
  clear hF
  have x13 : Ext w W13 := Ext.tr x12 e13
  refine seq_store g15 _ (ints .i64 (lims (s3))) 34 r15_13 rfl (by kernel_rfl) (run_store_row 34 _ _ g15 34 _ _ r15_13 rfl (by kernel_rfl) (by kernel_rfl) (isz (n := 16) (by kernel_rfl) (by kernel_rfl)) (eqsz (n := 16) (by kernel_rfl) (by kernel_rfl)) (by kernel_rfl)) fun W14 p14 r15_14 => ?_
  have x14 : Ext w W14 := Puts.ext p14 x13 b15
  refine seq_nil ?_
  refine hK14 _ _ ?_
  try clear hK14 K14
  refine wp_seq_k fun K16 hK16 => ?_
  refine any_regionT (fun W => True) [⟨none, [(7, none)]⟩, ⟨none, [(6, none)]⟩, ⟨none, [(35, some 0), (36, some 1)]⟩, ⟨none, [(8, none)]⟩, ⟨none, [(38, some 3)]⟩, ⟨none, [(37, some 2), (39, some 4)]⟩, ⟨none, [(40, some 5)]⟩, ⟨none, [(41, some 6)]⟩, ⟨none, [(34, some 7)]⟩, ⟨none, [(34, some 7)]⟩, ⟨none, []⟩, ⟨none, [(9, some 10), (42, some 8)]⟩, ⟨none, [(43, some 9)]⟩] [10] [9, 12] (by kernel_rfl) (by kernel_rfl) (by kernel_rfl) (fun W hR => trivial) fun F hF => ?_
  have r13_14 := (Puts.row p14 (row_ext r13_12 e13) (ne_of_old r13_12 l15))
  refine t_read (.agg (ints .i64 (lims (s1)))) (by kernel_rfl) (by kernel_rfl) (by kernel_rfl) rfl (fun W hR => (run_load_row 34 _ g13 34 _ _ (row_ext (row_ext r13_14 (ext_drew _)) hR) rfl (by kernel_rfl) (by kernel_rfl) (isz (n := 16) (by kernel_rfl) (by kernel_rfl)))) ?_
  have r11_14 := (Puts.row p14 (row_ext r11_12 e13) (ne_of_old r11_12 l15))
  refine t_read (.agg (ints .i64 (lims (1)))) (by kernel_rfl) (by kernel_rfl) (by kernel_rfl) rfl (fun W hR => (run_load_row 34 _ g11 34 _ _ (row_ext (row_ext r11_14 (ext_drew _)) hR) rfl (by kernel_rfl) (by kernel_rfl) (isz (n := 16) (by kernel_rfl) (by kernel_rfl)))) ?_
  refine t_call (.agg (ints .i64 (lims (s4)))) 46 #[.agg (ints .i64 (lims (s1))), .agg (ints .i64 (lims (1)))] (by kernel_rfl) (by kernel_rfl) (by kernel_rfl) rfl (fun W => by kernel_rfl) (fun W hR => c4 W) ?_
  refine t_read (.agg (ints .i64 (lims (s3)))) (by kernel_rfl) (by kernel_rfl) (by kernel_rfl) rfl (fun W hR => (run_load_row 34 _ g15 34 _ _ (row_ext (row_ext r15_14 (ext_drew _)) hR) rfl (by kernel_rfl) (by kernel_rfl) (isz (n := 16) (by kernel_rfl) (by kernel_rfl)))) ?_
  refine t_call (.agg (ints .i64 (lims (s5)))) 47 #[.agg (ints .i64 (lims (s3)))] (by kernel_rfl) (by kernel_rfl) (by kernel_rfl) rfl (fun W => by kernel_rfl) (fun W hR => c5 W) ?_
  refine t_call (.agg (ints .i64 (lims (s6)))) 42 #[.agg (ints .i64 (lims (s4))), .agg (ints .i64 (lims (s5)))] (by kernel_rfl) (by kernel_rfl) (by kernel_rfl) rfl (fun W => by kernel_rfl) (fun W hR => c6 W) ?_
  refine t_call (.tuple #[.agg (ints .i64 (lims (r))), .bool true]) 45 #[.agg (ints .i64 (lims (s6)))] (by kernel_rfl) (by kernel_rfl) (by kernel_rfl) rfl (fun W => by kernel_rfl) (fun W hR => cr W) ?_
  refine t_val (.tuple #[.agg (ints .i64 (lims (r))), .bool true]) (by kernel_rfl) (by kernel_rfl) rfl (fun W => by kernel_rfl) ?_
  refine t_val (.agg (ints .i64 (lims (r)))) (by kernel_rfl) (by kernel_rfl) rfl (fun W => by kernel_rfl) ?_
  refine t_val (.bool true) (by kernel_rfl) (by kernel_rfl) rfl (fun W => by kernel_rfl) ?_
  refine t_new (ints .i64 (lims (0))) 34 (by kernel_rfl) (by kernel_rfl) (Nat.le_refl _) (by kernel_rfl) rfl (fun W => by kernel_rfl) ?_
  refine t_store rfl ?_
  refine t_val (.bool true) (by kernel_rfl) (by kernel_rfl) rfl (fun W => by kernel_rfl) ?_
  refine t_nil (hF _ (by kernel_rfl) fun W15 e15 => ?_)
  simp only [List.nil_append, List.cons_append, fins, up]
  intro g17 l17 r17_15 n17
  have b17 : w.heap.size ≤ g17 := Nat.le_trans x14.size l17
  clear hF
  have x15 : Ext w W15 := Ext.tr x14 e15
  refine te_store _ g17 _ (ints .i64 (lims (r))) 34 r17_15 rfl (run_store_row 34 _ _ g17 34 _ _ r17_15 rfl (by kernel_rfl) (by kernel_rfl) (isz (n := 16) (by kernel_rfl) (by kernel_rfl)) (eqsz (n := 16) (by kernel_rfl) (by kernel_rfl)) (by kernel_rfl)) (fun W hp => trivial) fun W16 p16 r17_16 => ?_
  have x16 : Ext w W16 := Puts.ext p16 x15 b17
  refine te_nil ?_
  refine hK16 _ _ ?_
  try clear hK16 K16
  refine wp_seq_k fun K18 hK18 => ?_
  refine wp_seq_k fun K19 hK19 => ?_
  refine region_lit ?_
  refine seq_val (.bool true) 44 rfl (by kernel_rfl) (by kernel_rfl) ?_
  refine seq_val (.bool false) 45 rfl (by kernel_rfl) (by kernel_rfl) ?_
  refine seq_val (.bool false) 46 rfl (by kernel_rfl) (by kernel_rfl) ?_
  refine seq_val (.bool true) 47 rfl (by kernel_rfl) (by kernel_rfl) ?_
  refine seq_val (.bool true) 48 rfl (by kernel_rfl) (by kernel_rfl) ?_
  refine seq_val (.agg (ints .i64 (lims (r)))) 49 rfl (by kernel_rfl) (run_load_row 34 _ g17 34 _ _ r17_16 rfl (by kernel_rfl) (by kernel_rfl) (isz (n := 16) (by kernel_rfl) (by kernel_rfl))) ?_
  refine seq_val (.agg (ints .i64 (lims (0)))) 50 rfl (by kernel_rfl) (by kernel_rfl) ?_
  refine seq_val (.bool true) 51 rfl (by kernel_rfl) (run_eql_agg 34 _ _ _ _ _ (.bool true) rfl (by kernel_rfl) (by kernel_rfl) (by kernel_rfl) (lnum_eql _ _ true hz _)) ?_
  refine seq_val (.bool true) 52 rfl (by kernel_rfl) (by kernel_rfl) ?_
  refine seq_val (.bool true) 53 rfl (by kernel_rfl) (by kernel_rfl) ?_
  refine seq_nil ?_
  refine hK19 _ _ ?_
  try clear hK19 K19
  refine cond_true (by kernel_rfl) ?_
  refine wp_seq_k fun K20 hK20 => ?_
  refine region_lit ?_
  refine seq_call (.agg (cat [ints .i64 (lims (0)), ints .i64 (lims (1)), ints .i64 (lims (1))])) 41 #[] 54 rfl (by kernel_rfl) (by kernel_rfl) (nothing _) fun W17 e17 => ?_
  have x17 : Ext w W17 := Ext.tr x16 e17
  have r3_4 := (row_ext (Puts.row p3 r3_2 (ne_of_new r2_1 l3)) e4)
  have r3_7 := (row_ext (Puts.row p6 (row_ext r3_4 e5) (ne_of_old r3_4 l7)) e7)
  have r3_10 := (row_ext (Puts.row p9 (row_ext r3_7 e8) (ne_of_old r3_7 l11)) e10)
  have r3_12 := (Puts.row p12 (row_ext r3_10 e11) (ne_of_old r3_10 l13))
  have r3_14 := (Puts.row p14 (row_ext r3_12 e13) (ne_of_old r3_12 l15))
  have r3_17 := (row_ext (Puts.row p16 (row_ext (Puts.row p14 (row_ext (Puts.row p12 (row_ext (row_ext (Puts.row p9 (row_ext (row_ext (Puts.row p6 (row_ext (row_ext (Puts.row p3 r3_2 (ne_of_new r2_1 l3)) e4) e5) (ne_of_old r3_4 l7)) e7) e8) (ne_of_old r3_7 l11)) e10) e11) (ne_of_old r3_10 l13)) e13) (ne_of_old r3_12 l15)) e15) (ne_of_old r3_14 l17)) e17)
  refine seq_store g3 _ (cat [ints .i64 (lims (0)), ints .i64 (lims (1)), ints .i64 (lims (1))]) 36 r3_17 rfl (by kernel_rfl) (run_store_row 36 _ _ g3 36 _ _ r3_17 rfl (by kernel_rfl) (by kernel_rfl) (isz (n := 48) (by kernel_rfl) (by kernel_rfl)) (eqsz (n := 48) (by kernel_rfl) (by kernel_rfl)) (by kernel_rfl)) fun W18 p18 r3_18 => ?_
  have x18 : Ext w W18 := Puts.ext p18 x17 b3
  refine seq_val (.bool false) 3 rfl (by kernel_rfl) (by kernel_rfl) ?_
  refine seq_nil ?_
  refine hK20 _ _ ?_
  try clear hK20 K20
  refine wp_ret ?_
  exact (show bodyPost _ _ _ .ret _ _ from ret2 (.agg (cat [ints .i64 (lims (0)), ints .i64 (lims (1)), ints .i64 (lims (1))])) (.bool false) rfl (res_cell g3 36 _ r3_18 (by kernel_rfl) (by kernel_rfl) (isz (n := 48) (by kernel_rfl) (by kernel_rfl))) (res_tmp (by kernel_rfl)) ⟨rfl, x18⟩)
set_option maxHeartbeats 4000000 in
theorem rfrom_E (xs ys : List Int) (hx : xs.length = 32) (hb : AreBytes xs) (ys_len : ys.length = 32) (s0 s1 s2 s3 s4 s5 s6 s7 r : Int) (ho : decide (nth xs 31 ≥ 128) = true) (hc : decide (ys = (xs).set 31 (nth xs 31 % 128)) = true) (hz : decide (lims r = lims 0) = false)
    (c0 : ∀ W, Calls Tryd.prog 39 #[.agg (ints .u8 ((xs).set 31 (nth xs 31 % 128)))] W (Ret W (.agg (ints .i64 (lims (s0))))))
    (c1 : ∀ W, Calls Tryd.prog 42 #[.agg (ints .i64 (lims (s0))), .agg (ints .i64 (lims (s0)))] W (Ret W (.agg (ints .i64 (lims (s1))))))
    (c2 : ∀ W, Calls Tryd.prog 42 #[.agg (ints .i64 (lims (dN))), .agg (ints .i64 (lims (s1)))] W (Ret W (.agg (ints .i64 (lims (s2))))))
    (c3 : ∀ W, Calls Tryd.prog 43 #[.agg (ints .i64 (lims (s2))), .agg (ints .i64 (lims (1)))] W (Ret W (.agg (ints .i64 (lims (s3))))))
    (c4 : ∀ W, Calls Tryd.prog 46 #[.agg (ints .i64 (lims (s1))), .agg (ints .i64 (lims (1)))] W (Ret W (.agg (ints .i64 (lims (s4))))))
    (c5 : ∀ W, Calls Tryd.prog 47 #[.agg (ints .i64 (lims (s3)))] W (Ret W (.agg (ints .i64 (lims (s5))))))
    (c6 : ∀ W, Calls Tryd.prog 42 #[.agg (ints .i64 (lims (s4))), .agg (ints .i64 (lims (s5)))] W (Ret W (.agg (ints .i64 (lims (s6))))))
    (c7 : ∀ W, Calls Tryd.prog 46 #[.agg (ints .i64 (lims (0))), .agg (ints .i64 (lims (r)))] W (Ret W (.agg (ints .i64 (lims (s7))))))
    (cb : ∀ W, Calls Tryd.prog 40 #[.agg (ints .i64 (lims (s0)))] W (Ret W (.agg (ints .u8 ys))))
    (cr : ∀ W, Calls Tryd.prog 45 #[.agg (ints .i64 (lims (s6)))] W (Ret W (.tuple #[.agg (ints .i64 (lims (r))), .bool true])))
    (w : World) : Calls Tryd.prog 12 #[.agg (ints .u8 (xs))] w (Ret w (.tuple #[.agg (cat [ints .i64 (lims (s7)), ints .i64 (lims (s0)), ints .i64 (lims (1))]), .bool true])) := by
  refine enter 63 [(0, .agg (ints .u8 (xs)))] Tryd.func12 rfl rfl (by kernel_rfl) rfl ?_
  refine wp_seq_k fun K1 hK1 => ?_
  refine region_lit ?_
  refine seq_alloc (ints .u8 (xs)) 23 1 rfl (by kernel_rfl) (by kernel_rfl) fun g2 W1 l2 e1 r2_1 => ?_
  have x1 : Ext w W1 := Ext.tr (Rely.Ext.refl w) e1
  have b2 : w.heap.size ≤ g2 := Nat.le_trans (Rely.Ext.refl w).size l2
  refine seq_alloc (cat [ints .i64 (lims (0)), ints .i64 (lims (0)), ints .i64 (lims (0))]) 36 2 rfl (by kernel_rfl) (by kernel_rfl) fun g3 W2 l3 e2 r3_2 => ?_
  have x2 : Ext w W2 := Ext.tr x1 e2
  have b3 : w.heap.size ≤ g3 := Nat.le_trans x1.size l3
  refine seq_val (.bool false) 3 rfl (by kernel_rfl) (by kernel_rfl) ?_
  refine seq_nil ?_
  refine hK1 _ _ ?_
  try clear hK1 K1
  refine wp_seq_k fun K4 hK4 => ?_
  refine region_lit ?_
  refine seq_val (.pointer (some ⟨g2, 31, none⟩)) 11 rfl (by kernel_rfl) (by kernel_rfl) ?_
  have r2_2 := (row_ext r2_1 e2)
  refine seq_val (.int .u8 (nth (xs) 31)) 12 rfl (by kernel_rfl) (run_loadC1 5 _ g2 31 23 _ (.int .u8 (nth (xs) 31)) _ r2_2 rfl (by kernel_rfl) (ints_get _ _ _ (Nat.lt_of_lt_of_eq (by decide) hx.symm)) (by kernel_rfl)) ?_
  refine seq_val (.bool true) 13 rfl (by kernel_rfl) (run_eq (u := .bool (decide ((nth (xs) 31) ≥ 128))) (by kernel_rfl) (congrArg Value.bool ho)) ?_
  refine seq_val (.bool true) 4 rfl (by kernel_rfl) (by kernel_rfl) ?_
  refine seq_nil ?_
  refine hK4 _ _ ?_
  try clear hK4 K4
  refine wp_seq_k fun K5 hK5 => ?_
  refine region_lit ?_
  refine seq_val (.pointer (some ⟨g2, 31, none⟩)) 14 rfl (by kernel_rfl) (by kernel_rfl) ?_
  refine seq_val (.int .u8 (nth (xs) 31)) 15 rfl (by kernel_rfl) (run_loadC1 5 _ g2 31 23 _ (.int .u8 (nth (xs) 31)) _ r2_2 rfl (by kernel_rfl) (ints_get _ _ _ (Nat.lt_of_lt_of_eq (by decide) hx.symm)) (by kernel_rfl)) ?_
  refine seq_val (.int .u8 (nth xs 31 % 128)) 16 rfl (by kernel_rfl) (run_eq (u := .int .u8 (Int.tmod ((nth (xs) 31)) (128))) (by kernel_rfl) (congrArg (Value.int .u8) (tmod128 _ (hb.nth 31)))) ?_
  refine seq_val (.pointer (some ⟨g2, 31, none⟩)) 17 rfl (by kernel_rfl) (by kernel_rfl) ?_
  refine seq_store g2 _ (ints .u8 ((xs).set 31 (nth xs 31 % 128))) 23 r2_2 rfl (by kernel_rfl) (run_storeI 5 _ _ g2 31 23 _ _ r2_2 rfl (by kernel_rfl) (by kernel_rfl) (by kernel_rfl) (Nat.lt_of_lt_of_eq (by decide) hx.symm)) fun W3 p3 r2_3 => ?_
  have x3 : Ext w W3 := Puts.ext p3 x2 b2
  refine seq_nil ?_
  refine hK5 _ _ ?_
  try clear hK5 K5
  refine wp_seq_k fun K6 hK6 => ?_
  refine region_lit ?_
  refine seq_val (.agg (ints .u8 ((xs).set 31 (nth xs 31 % 128)))) 18 rfl (by kernel_rfl) (run_load_row 23 _ g2 23 _ _ r2_3 rfl (by kernel_rfl) (by kernel_rfl) (isz (n := 32) (by kernel_rfl) ((ints_size _ _).trans ((List.length_set ..).trans hx)))) ?_
  refine seq_call (.agg (ints .i64 (lims (s0)))) 39 #[.agg (ints .u8 ((xs).set 31 (nth xs 31 % 128)))] 19 rfl (by kernel_rfl) (by kernel_rfl) (c0 _) fun W4 e4 => ?_
  have x4 : Ext w W4 := Ext.tr x3 e4
  refine seq_alloc (ints .i64 (lims (0))) 34 5 rfl (by kernel_rfl) (by kernel_rfl) fun g7 W5 l7 e5 r7_5 => ?_
  have x5 : Ext w W5 := Ext.tr x4 e5
  have b7 : w.heap.size ≤ g7 := Nat.le_trans x4.size l7
  refine seq_store g7 _ (ints .i64 (lims (s0))) 34 r7_5 rfl (by kernel_rfl) (run_store_row 34 _ _ g7 34 _ _ r7_5 rfl (by kernel_rfl) (by kernel_rfl) (isz (n := 16) (by kernel_rfl) (by kernel_rfl)) (eqsz (n := 16) (by kernel_rfl) (by kernel_rfl)) (by kernel_rfl)) fun W6 p6 r7_6 => ?_
  have x6 : Ext w W6 := Puts.ext p6 x5 b7
  refine seq_nil ?_
  refine hK6 _ _ ?_
  try clear hK6 K6
  refine wp_seq_k fun K8 hK8 => ?_
  refine wp_seq_k fun K9 hK9 => ?_
  refine any_region 4 [⟨none, [(5, none)]⟩, ⟨none, [(20, some 0)]⟩, ⟨none, [(1, none)]⟩, ⟨none, [(21, some 1), (22, some 2)]⟩] (by kernel_rfl) (by kernel_rfl) fun F hF => ?_
  refine any_read (.agg (ints .i64 (lims (s0)))) (by kernel_rfl) (by kernel_rfl) (fun W hR => (run_load_row 34 _ g7 34 _ _ (row_ext (row_ext r7_6 (ext_drew _)) hR) rfl (by kernel_rfl) (by kernel_rfl) (isz (n := 16) (by kernel_rfl) (by kernel_rfl)))) ?_
  refine any_call (.agg (ints .u8 (ys))) 40 #[.agg (ints .i64 (lims (s0)))] (by kernel_rfl) (by kernel_rfl) (fun W => by kernel_rfl) (fun W hR => cb W) ?_
  have r2_4 := (row_ext r2_3 e4)
  have r2_6 := (Puts.row p6 (row_ext (row_ext r2_3 e4) e5) (ne_of_old r2_4 l7))
  refine any_read (.agg (ints .u8 ((xs).set 31 (nth xs 31 % 128)))) (by kernel_rfl) (by kernel_rfl) (fun W hR => (run_load_row 23 _ g2 23 _ _ (row_ext (row_ext r2_6 (ext_drew _)) hR) rfl (by kernel_rfl) (by kernel_rfl) (isz (n := 32) (by kernel_rfl) ((ints_size _ _).trans ((List.length_set ..).trans hx))))) ?_
  refine any_val (.bool false) (by kernel_rfl) (by kernel_rfl) (fun W => (run_neq_agg 23 _ _ _ _ _ (.bool false) rfl (by kernel_rfl) (by kernel_rfl) (by kernel_rfl) (key_neq _ _ true ys_len (by rw [List.length_set]; exact hx) hc _))) ?_
  refine steps_nil (hF _ (by kernel_rfl) fun W7 e7 => ?_)
  simp only [ups, up, Kn.val, List.take_succ_cons, List.take_zero, List.drop_succ_cons, List.drop_zero, List.nil_append, List.cons_append]
  clear hF
  have x7 : Ext w W7 := Ext.tr x6 e7
  refine seq_nil ?_
  refine hK9 _ _ ?_
  try clear hK9 K9
  refine cond_false (by kernel_rfl) ?_
  refine wp_skip ?_
  refine hK8 _ _ ?_
  try clear hK8 K8
  refine wp_seq_k fun K10 hK10 => ?_
  refine region_lit ?_
  refine seq_val (.agg (ints .i64 (lims (1)))) 25 rfl (by kernel_rfl) (by kernel_rfl) ?_
  refine seq_alloc (ints .i64 (lims (0))) 34 6 rfl (by kernel_rfl) (by kernel_rfl) fun g11 W8 l11 e8 r11_8 => ?_
  have x8 : Ext w W8 := Ext.tr x7 e8
  have b11 : w.heap.size ≤ g11 := Nat.le_trans x7.size l11
  refine seq_store g11 _ (ints .i64 (lims (1))) 34 r11_8 rfl (by kernel_rfl) (run_store_row 34 _ _ g11 34 _ _ r11_8 rfl (by kernel_rfl) (by kernel_rfl) (isz (n := 16) (by kernel_rfl) (by kernel_rfl)) (eqsz (n := 16) (by kernel_rfl) (by kernel_rfl)) (by kernel_rfl)) fun W9 p9 r11_9 => ?_
  have x9 : Ext w W9 := Puts.ext p9 x8 b11
  refine seq_nil ?_
  refine hK10 _ _ ?_
  try clear hK10 K10
  refine wp_seq_k fun K12 hK12 => ?_
  refine region_lit ?_
  have r7_7 := (row_ext r7_6 e7)
  have r7_9 := (Puts.row p9 (row_ext (row_ext r7_6 e7) e8) (ne_of_old r7_7 l11))
  refine seq_val (.agg (ints .i64 (lims (s0)))) 26 rfl (by kernel_rfl) (run_load_row 34 _ g7 34 _ _ r7_9 rfl (by kernel_rfl) (by kernel_rfl) (isz (n := 16) (by kernel_rfl) (by kernel_rfl))) ?_
  refine seq_val (.agg (ints .i64 (lims (s0)))) 27 rfl (by kernel_rfl) (run_load_row 34 _ g7 34 _ _ r7_9 rfl (by kernel_rfl) (by kernel_rfl) (isz (n := 16) (by kernel_rfl) (by kernel_rfl))) ?_
  refine seq_call (.agg (ints .i64 (lims (s1)))) 42 #[.agg (ints .i64 (lims (s0))), .agg (ints .i64 (lims (s0)))] 28 rfl (by kernel_rfl) (by kernel_rfl) (c1 _) fun W10 e10 => ?_
  have x10 : Ext w W10 := Ext.tr x9 e10
  refine seq_alloc (ints .i64 (lims (0))) 34 7 rfl (by kernel_rfl) (by kernel_rfl) fun g13 W11 l13 e11 r13_11 => ?_
  have x11 : Ext w W11 := Ext.tr x10 e11
  have b13 : w.heap.size ≤ g13 := Nat.le_trans x10.size l13
  refine seq_store g13 _ (ints .i64 (lims (s1))) 34 r13_11 rfl (by kernel_rfl) (run_store_row 34 _ _ g13 34 _ _ r13_11 rfl (by kernel_rfl) (by kernel_rfl) (isz (n := 16) (by kernel_rfl) (by kernel_rfl)) (eqsz (n := 16) (by kernel_rfl) (by kernel_rfl)) (by kernel_rfl)) fun W12 p12 r13_12 => ?_
  have x12 : Ext w W12 := Puts.ext p12 x11 b13
  refine seq_nil ?_
  refine hK12 _ _ ?_
  try clear hK12 K12
  refine wp_seq_k fun K14 hK14 => ?_
  refine any_regionD 6 [⟨none, []⟩, ⟨none, [(7, none)]⟩, ⟨none, [(29, some 0), (30, some 1)]⟩, ⟨none, [(6, none)]⟩, ⟨none, [(31, some 2), (32, some 3)]⟩, ⟨none, []⟩] [5] (by kernel_rfl) (by kernel_rfl) (by kernel_rfl) fun F hF => ?_
  refine any_call (.agg (ints .i64 (lims (dN)))) 44 #[] (by kernel_rfl) (by kernel_rfl) (fun W => by kernel_rfl) (fun W hR => factor W) ?_
  refine any_read (.agg (ints .i64 (lims (s1)))) (by kernel_rfl) (by kernel_rfl) (fun W hR => (run_load_row 34 _ g13 34 _ _ (row_ext (row_ext r13_12 (ext_drew _)) hR) rfl (by kernel_rfl) (by kernel_rfl) (isz (n := 16) (by kernel_rfl) (by kernel_rfl)))) ?_
  refine any_call (.agg (ints .i64 (lims (s2)))) 42 #[.agg (ints .i64 (lims (dN))), .agg (ints .i64 (lims (s1)))] (by kernel_rfl) (by kernel_rfl) (fun W => by kernel_rfl) (fun W hR => c2 W) ?_
  have r11_10 := (row_ext r11_9 e10)
  have r11_12 := (Puts.row p12 (row_ext (row_ext r11_9 e10) e11) (ne_of_old r11_10 l13))
  refine any_read (.agg (ints .i64 (lims (1)))) (by kernel_rfl) (by kernel_rfl) (fun W hR => (run_load_row 34 _ g11 34 _ _ (row_ext (row_ext r11_12 (ext_drew _)) hR) rfl (by kernel_rfl) (by kernel_rfl) (isz (n := 16) (by kernel_rfl) (by kernel_rfl)))) ?_
  refine any_call (.agg (ints .i64 (lims (s3)))) 43 #[.agg (ints .i64 (lims (s2))), .agg (ints .i64 (lims (1)))] (by kernel_rfl) (by kernel_rfl) (fun W => by kernel_rfl) (fun W hR => c3 W) ?_
  refine any_new (ints .i64 (lims (0))) 34 (by kernel_rfl) (Nat.le_refl _) (by kernel_rfl) (fun W => by kernel_rfl) ?_
  refine steps_nil (hF _ (by kernel_rfl) fun W13 e13 => ?_)
  simp only [fins, up, List.take_succ_cons, List.take_zero, List.drop_succ_cons, List.drop_zero, List.nil_append, List.cons_append]
  intro g15 l15 r15_13 n15
  have b15 : w.heap.size ≤ g15 := Nat.le_trans x12.size l15
  clear hF
  have x13 : Ext w W13 := Ext.tr x12 e13
  refine seq_store g15 _ (ints .i64 (lims (s3))) 34 r15_13 rfl (by kernel_rfl) (run_store_row 34 _ _ g15 34 _ _ r15_13 rfl (by kernel_rfl) (by kernel_rfl) (isz (n := 16) (by kernel_rfl) (by kernel_rfl)) (eqsz (n := 16) (by kernel_rfl) (by kernel_rfl)) (by kernel_rfl)) fun W14 p14 r15_14 => ?_
  have x14 : Ext w W14 := Puts.ext p14 x13 b15
  refine seq_nil ?_
  refine hK14 _ _ ?_
  try clear hK14 K14
  refine wp_seq_k fun K16 hK16 => ?_
  refine any_regionT (fun W => True) [⟨none, [(7, none)]⟩, ⟨none, [(6, none)]⟩, ⟨none, [(35, some 0), (36, some 1)]⟩, ⟨none, [(8, none)]⟩, ⟨none, [(38, some 3)]⟩, ⟨none, [(37, some 2), (39, some 4)]⟩, ⟨none, [(40, some 5)]⟩, ⟨none, [(41, some 6)]⟩, ⟨none, [(34, some 7)]⟩, ⟨none, [(34, some 7)]⟩, ⟨none, []⟩, ⟨none, [(9, some 10), (42, some 8)]⟩, ⟨none, [(43, some 9)]⟩] [10] [9, 12] (by kernel_rfl) (by kernel_rfl) (by kernel_rfl) (fun W hR => trivial) fun F hF => ?_
  have r13_14 := (Puts.row p14 (row_ext r13_12 e13) (ne_of_old r13_12 l15))
  refine t_read (.agg (ints .i64 (lims (s1)))) (by kernel_rfl) (by kernel_rfl) (by kernel_rfl) rfl (fun W hR => (run_load_row 34 _ g13 34 _ _ (row_ext (row_ext r13_14 (ext_drew _)) hR) rfl (by kernel_rfl) (by kernel_rfl) (isz (n := 16) (by kernel_rfl) (by kernel_rfl)))) ?_
  have r11_14 := (Puts.row p14 (row_ext r11_12 e13) (ne_of_old r11_12 l15))
  refine t_read (.agg (ints .i64 (lims (1)))) (by kernel_rfl) (by kernel_rfl) (by kernel_rfl) rfl (fun W hR => (run_load_row 34 _ g11 34 _ _ (row_ext (row_ext r11_14 (ext_drew _)) hR) rfl (by kernel_rfl) (by kernel_rfl) (isz (n := 16) (by kernel_rfl) (by kernel_rfl)))) ?_
  refine t_call (.agg (ints .i64 (lims (s4)))) 46 #[.agg (ints .i64 (lims (s1))), .agg (ints .i64 (lims (1)))] (by kernel_rfl) (by kernel_rfl) (by kernel_rfl) rfl (fun W => by kernel_rfl) (fun W hR => c4 W) ?_
  refine t_read (.agg (ints .i64 (lims (s3)))) (by kernel_rfl) (by kernel_rfl) (by kernel_rfl) rfl (fun W hR => (run_load_row 34 _ g15 34 _ _ (row_ext (row_ext r15_14 (ext_drew _)) hR) rfl (by kernel_rfl) (by kernel_rfl) (isz (n := 16) (by kernel_rfl) (by kernel_rfl)))) ?_
  refine t_call (.agg (ints .i64 (lims (s5)))) 47 #[.agg (ints .i64 (lims (s3)))] (by kernel_rfl) (by kernel_rfl) (by kernel_rfl) rfl (fun W => by kernel_rfl) (fun W hR => c5 W) ?_
  refine t_call (.agg (ints .i64 (lims (s6)))) 42 #[.agg (ints .i64 (lims (s4))), .agg (ints .i64 (lims (s5)))] (by kernel_rfl) (by kernel_rfl) (by kernel_rfl) rfl (fun W => by kernel_rfl) (fun W hR => c6 W) ?_
  refine t_call (.tuple #[.agg (ints .i64 (lims (r))), .bool true]) 45 #[.agg (ints .i64 (lims (s6)))] (by kernel_rfl) (by kernel_rfl) (by kernel_rfl) rfl (fun W => by kernel_rfl) (fun W hR => cr W) ?_
  refine t_val (.tuple #[.agg (ints .i64 (lims (r))), .bool true]) (by kernel_rfl) (by kernel_rfl) rfl (fun W => by kernel_rfl) ?_
  refine t_val (.agg (ints .i64 (lims (r)))) (by kernel_rfl) (by kernel_rfl) rfl (fun W => by kernel_rfl) ?_
  refine t_val (.bool true) (by kernel_rfl) (by kernel_rfl) rfl (fun W => by kernel_rfl) ?_
  refine t_new (ints .i64 (lims (0))) 34 (by kernel_rfl) (by kernel_rfl) (Nat.le_refl _) (by kernel_rfl) rfl (fun W => by kernel_rfl) ?_
  refine t_store rfl ?_
  refine t_val (.bool true) (by kernel_rfl) (by kernel_rfl) rfl (fun W => by kernel_rfl) ?_
  refine t_nil (hF _ (by kernel_rfl) fun W15 e15 => ?_)
  simp only [List.nil_append, List.cons_append, fins, up]
  intro g17 l17 r17_15 n17
  have b17 : w.heap.size ≤ g17 := Nat.le_trans x14.size l17
  clear hF
  have x15 : Ext w W15 := Ext.tr x14 e15
  refine te_store _ g17 _ (ints .i64 (lims (r))) 34 r17_15 rfl (run_store_row 34 _ _ g17 34 _ _ r17_15 rfl (by kernel_rfl) (by kernel_rfl) (isz (n := 16) (by kernel_rfl) (by kernel_rfl)) (eqsz (n := 16) (by kernel_rfl) (by kernel_rfl)) (by kernel_rfl)) (fun W hp => trivial) fun W16 p16 r17_16 => ?_
  have x16 : Ext w W16 := Puts.ext p16 x15 b17
  refine te_nil ?_
  refine hK16 _ _ ?_
  try clear hK16 K16
  refine wp_seq_k fun K18 hK18 => ?_
  refine wp_seq_k fun K19 hK19 => ?_
  refine region_lit ?_
  refine seq_val (.bool true) 44 rfl (by kernel_rfl) (by kernel_rfl) ?_
  refine seq_val (.bool false) 45 rfl (by kernel_rfl) (by kernel_rfl) ?_
  refine seq_val (.bool false) 46 rfl (by kernel_rfl) (by kernel_rfl) ?_
  refine seq_val (.bool true) 47 rfl (by kernel_rfl) (by kernel_rfl) ?_
  refine seq_val (.bool true) 48 rfl (by kernel_rfl) (by kernel_rfl) ?_
  refine seq_val (.agg (ints .i64 (lims (r)))) 49 rfl (by kernel_rfl) (run_load_row 34 _ g17 34 _ _ r17_16 rfl (by kernel_rfl) (by kernel_rfl) (isz (n := 16) (by kernel_rfl) (by kernel_rfl))) ?_
  refine seq_val (.agg (ints .i64 (lims (0)))) 50 rfl (by kernel_rfl) (by kernel_rfl) ?_
  refine seq_val (.bool false) 51 rfl (by kernel_rfl) (run_eql_agg 34 _ _ _ _ _ (.bool false) rfl (by kernel_rfl) (by kernel_rfl) (by kernel_rfl) (lnum_eql _ _ false hz _)) ?_
  refine seq_val (.bool false) 52 rfl (by kernel_rfl) (by kernel_rfl) ?_
  refine seq_val (.bool false) 53 rfl (by kernel_rfl) (by kernel_rfl) ?_
  refine seq_nil ?_
  refine hK19 _ _ ?_
  try clear hK19 K19
  refine cond_false (by kernel_rfl) ?_
  refine wp_skip ?_
  refine hK18 _ _ ?_
  try clear hK18 K18
  refine wp_seq_k fun K20 hK20 => ?_
  refine wp_seq_k fun K21 hK21 => ?_
  refine region_lit ?_
  refine seq_val (.bool true) 55 rfl (by kernel_rfl) (by kernel_rfl) ?_
  refine seq_nil ?_
  refine hK21 _ _ ?_
  try clear hK21 K21
  refine cond_true (by kernel_rfl) ?_
  refine region_lit ?_
  refine seq_val (.agg (ints .i64 (lims (0)))) 56 rfl (by kernel_rfl) (by kernel_rfl) ?_
  refine seq_val (.agg (ints .i64 (lims (r)))) 57 rfl (by kernel_rfl) (run_load_row 34 _ g17 34 _ _ r17_16 rfl (by kernel_rfl) (by kernel_rfl) (isz (n := 16) (by kernel_rfl) (by kernel_rfl))) ?_
  refine seq_call (.agg (ints .i64 (lims (s7)))) 46 #[.agg (ints .i64 (lims (0))), .agg (ints .i64 (lims (r)))] 58 rfl (by kernel_rfl) (by kernel_rfl) (c7 _) fun W17 e17 => ?_
  have x17 : Ext w W17 := Ext.tr x16 e17
  have r17_17 := (row_ext r17_16 e17)
  refine seq_store g17 _ (ints .i64 (lims (s7))) 34 r17_17 rfl (by kernel_rfl) (run_store_row 34 _ _ g17 34 _ _ r17_17 rfl (by kernel_rfl) (by kernel_rfl) (isz (n := 16) (by kernel_rfl) (by kernel_rfl)) (eqsz (n := 16) (by kernel_rfl) (by kernel_rfl)) (by kernel_rfl)) fun W18 p18 r17_18 => ?_
  have x18 : Ext w W18 := Puts.ext p18 x17 b17
  refine seq_nil ?_
  refine hK20 _ _ ?_
  try clear hK20 K20
  refine wp_seq_k fun K22 hK22 => ?_
  refine region_lit ?_
  refine seq_val (.agg (ints .i64 (lims (s7)))) 59 rfl (by kernel_rfl) (run_load_row 34 _ g17 34 _ _ r17_18 rfl (by kernel_rfl) (by kernel_rfl) (isz (n := 16) (by kernel_rfl) (by kernel_rfl))) ?_
  have r7_10 := (row_ext r7_9 e10)
  have r7_12 := (Puts.row p12 (row_ext r7_10 e11) (ne_of_old r7_10 l13))
  have r7_14 := (Puts.row p14 (row_ext r7_12 e13) (ne_of_old r7_12 l15))
  have r7_18 := (Puts.row p18 (row_ext (Puts.row p16 (row_ext (Puts.row p14 (row_ext (Puts.row p12 (row_ext (row_ext r7_9 e10) e11) (ne_of_old r7_10 l13)) e13) (ne_of_old r7_12 l15)) e15) (ne_of_old r7_14 l17)) e17) (ne_of_old r7_14 l17))
  refine seq_val (.agg (ints .i64 (lims (s0)))) 60 rfl (by kernel_rfl) (run_load_row 34 _ g7 34 _ _ r7_18 rfl (by kernel_rfl) (by kernel_rfl) (isz (n := 16) (by kernel_rfl) (by kernel_rfl))) ?_
  have r11_18 := (Puts.row p18 (row_ext (Puts.row p16 (row_ext r11_14 e15) (ne_of_old r11_14 l17)) e17) (ne_of_old r11_14 l17))
  refine seq_val (.agg (ints .i64 (lims (1)))) 61 rfl (by kernel_rfl) (run_load_row 34 _ g11 34 _ _ r11_18 rfl (by kernel_rfl) (by kernel_rfl) (isz (n := 16) (by kernel_rfl) (by kernel_rfl))) ?_
  refine seq_val (.agg (cat [ints .i64 (lims (s7)), ints .i64 (lims (s0)), ints .i64 (lims (1))])) 62 rfl (by kernel_rfl) (by kernel_rfl) ?_
  have r3_4 := (row_ext (Puts.row p3 r3_2 (ne_of_new r2_1 l3)) e4)
  have r3_7 := (row_ext (Puts.row p6 (row_ext r3_4 e5) (ne_of_old r3_4 l7)) e7)
  have r3_10 := (row_ext (Puts.row p9 (row_ext r3_7 e8) (ne_of_old r3_7 l11)) e10)
  have r3_12 := (Puts.row p12 (row_ext r3_10 e11) (ne_of_old r3_10 l13))
  have r3_14 := (Puts.row p14 (row_ext r3_12 e13) (ne_of_old r3_12 l15))
  have r3_18 := (Puts.row p18 (row_ext (Puts.row p16 (row_ext (Puts.row p14 (row_ext (Puts.row p12 (row_ext (row_ext (Puts.row p9 (row_ext (row_ext (Puts.row p6 (row_ext (row_ext (Puts.row p3 r3_2 (ne_of_new r2_1 l3)) e4) e5) (ne_of_old r3_4 l7)) e7) e8) (ne_of_old r3_7 l11)) e10) e11) (ne_of_old r3_10 l13)) e13) (ne_of_old r3_12 l15)) e15) (ne_of_old r3_14 l17)) e17) (ne_of_old r3_14 l17))
  refine seq_store g3 _ (cat [ints .i64 (lims (s7)), ints .i64 (lims (s0)), ints .i64 (lims (1))]) 36 r3_18 rfl (by kernel_rfl) (run_store_row 36 _ _ g3 36 _ _ r3_18 rfl (by kernel_rfl) (by kernel_rfl) (isz (n := 48) (by kernel_rfl) (by kernel_rfl)) (eqsz (n := 48) (by kernel_rfl) (by kernel_rfl)) (by kernel_rfl)) fun W19 p19 r3_19 => ?_
  have x19 : Ext w W19 := Puts.ext p19 x18 b3
  refine seq_val (.bool true) 3 rfl (by kernel_rfl) (by kernel_rfl) ?_
  refine seq_nil ?_
  refine hK22 _ _ ?_
  try clear hK22 K22
  refine wp_ret ?_
  exact (show bodyPost _ _ _ .ret _ _ from ret2 (.agg (cat [ints .i64 (lims (s7)), ints .i64 (lims (s0)), ints .i64 (lims (1))])) (.bool true) rfl (res_cell g3 36 _ r3_19 (by kernel_rfl) (by kernel_rfl) (isz (n := 48) (by kernel_rfl) (by kernel_rfl))) (res_tmp (by kernel_rfl)) ⟨rfl, x19⟩)
set_option maxHeartbeats 4000000 in
theorem rfrom_F (xs ys : List Int) (hx : xs.length = 32) (hb : AreBytes xs) (ys_len : ys.length = 32) (s0 s1 s2 s3 s4 s5 s6 r : Int) (ho : decide (nth xs 31 ≥ 128) = false) (hc : decide (ys = (xs).set 31 (nth xs 31 % 128)) = true)
    (c0 : ∀ W, Calls Tryd.prog 39 #[.agg (ints .u8 ((xs).set 31 (nth xs 31 % 128)))] W (Ret W (.agg (ints .i64 (lims (s0))))))
    (c1 : ∀ W, Calls Tryd.prog 42 #[.agg (ints .i64 (lims (s0))), .agg (ints .i64 (lims (s0)))] W (Ret W (.agg (ints .i64 (lims (s1))))))
    (c2 : ∀ W, Calls Tryd.prog 42 #[.agg (ints .i64 (lims (dN))), .agg (ints .i64 (lims (s1)))] W (Ret W (.agg (ints .i64 (lims (s2))))))
    (c3 : ∀ W, Calls Tryd.prog 43 #[.agg (ints .i64 (lims (s2))), .agg (ints .i64 (lims (1)))] W (Ret W (.agg (ints .i64 (lims (s3))))))
    (c4 : ∀ W, Calls Tryd.prog 46 #[.agg (ints .i64 (lims (s1))), .agg (ints .i64 (lims (1)))] W (Ret W (.agg (ints .i64 (lims (s4))))))
    (c5 : ∀ W, Calls Tryd.prog 47 #[.agg (ints .i64 (lims (s3)))] W (Ret W (.agg (ints .i64 (lims (s5))))))
    (c6 : ∀ W, Calls Tryd.prog 42 #[.agg (ints .i64 (lims (s4))), .agg (ints .i64 (lims (s5)))] W (Ret W (.agg (ints .i64 (lims (s6))))))
    (cb : ∀ W, Calls Tryd.prog 40 #[.agg (ints .i64 (lims (s0)))] W (Ret W (.agg (ints .u8 ys))))
    (cr : ∀ W, Calls Tryd.prog 45 #[.agg (ints .i64 (lims (s6)))] W (Ret W (.tuple #[.agg (ints .i64 (lims (r))), .bool true])))
    (w : World) : Calls Tryd.prog 12 #[.agg (ints .u8 (xs))] w (Ret w (.tuple #[.agg (cat [ints .i64 (lims (r)), ints .i64 (lims (s0)), ints .i64 (lims (1))]), .bool true])) := by
  refine enter 63 [(0, .agg (ints .u8 (xs)))] Tryd.func12 rfl rfl (by kernel_rfl) rfl ?_
  refine wp_seq_k fun K1 hK1 => ?_
  refine region_lit ?_
  refine seq_alloc (ints .u8 (xs)) 23 1 rfl (by kernel_rfl) (by kernel_rfl) fun g2 W1 l2 e1 r2_1 => ?_
  have x1 : Ext w W1 := Ext.tr (Rely.Ext.refl w) e1
  have b2 : w.heap.size ≤ g2 := Nat.le_trans (Rely.Ext.refl w).size l2
  refine seq_alloc (cat [ints .i64 (lims (0)), ints .i64 (lims (0)), ints .i64 (lims (0))]) 36 2 rfl (by kernel_rfl) (by kernel_rfl) fun g3 W2 l3 e2 r3_2 => ?_
  have x2 : Ext w W2 := Ext.tr x1 e2
  have b3 : w.heap.size ≤ g3 := Nat.le_trans x1.size l3
  refine seq_val (.bool false) 3 rfl (by kernel_rfl) (by kernel_rfl) ?_
  refine seq_nil ?_
  refine hK1 _ _ ?_
  try clear hK1 K1
  refine wp_seq_k fun K4 hK4 => ?_
  refine region_lit ?_
  refine seq_val (.pointer (some ⟨g2, 31, none⟩)) 11 rfl (by kernel_rfl) (by kernel_rfl) ?_
  have r2_2 := (row_ext r2_1 e2)
  refine seq_val (.int .u8 (nth (xs) 31)) 12 rfl (by kernel_rfl) (run_loadC1 5 _ g2 31 23 _ (.int .u8 (nth (xs) 31)) _ r2_2 rfl (by kernel_rfl) (ints_get _ _ _ (Nat.lt_of_lt_of_eq (by decide) hx.symm)) (by kernel_rfl)) ?_
  refine seq_val (.bool false) 13 rfl (by kernel_rfl) (run_eq (u := .bool (decide ((nth (xs) 31) ≥ 128))) (by kernel_rfl) (congrArg Value.bool ho)) ?_
  refine seq_val (.bool false) 4 rfl (by kernel_rfl) (by kernel_rfl) ?_
  refine seq_nil ?_
  refine hK4 _ _ ?_
  try clear hK4 K4
  refine wp_seq_k fun K5 hK5 => ?_
  refine region_lit ?_
  refine seq_val (.pointer (some ⟨g2, 31, none⟩)) 14 rfl (by kernel_rfl) (by kernel_rfl) ?_
  refine seq_val (.int .u8 (nth (xs) 31)) 15 rfl (by kernel_rfl) (run_loadC1 5 _ g2 31 23 _ (.int .u8 (nth (xs) 31)) _ r2_2 rfl (by kernel_rfl) (ints_get _ _ _ (Nat.lt_of_lt_of_eq (by decide) hx.symm)) (by kernel_rfl)) ?_
  refine seq_val (.int .u8 (nth xs 31 % 128)) 16 rfl (by kernel_rfl) (run_eq (u := .int .u8 (Int.tmod ((nth (xs) 31)) (128))) (by kernel_rfl) (congrArg (Value.int .u8) (tmod128 _ (hb.nth 31)))) ?_
  refine seq_val (.pointer (some ⟨g2, 31, none⟩)) 17 rfl (by kernel_rfl) (by kernel_rfl) ?_
  refine seq_store g2 _ (ints .u8 ((xs).set 31 (nth xs 31 % 128))) 23 r2_2 rfl (by kernel_rfl) (run_storeI 5 _ _ g2 31 23 _ _ r2_2 rfl (by kernel_rfl) (by kernel_rfl) (by kernel_rfl) (Nat.lt_of_lt_of_eq (by decide) hx.symm)) fun W3 p3 r2_3 => ?_
  have x3 : Ext w W3 := Puts.ext p3 x2 b2
  refine seq_nil ?_
  refine hK5 _ _ ?_
  try clear hK5 K5
  refine wp_seq_k fun K6 hK6 => ?_
  refine region_lit ?_
  refine seq_val (.agg (ints .u8 ((xs).set 31 (nth xs 31 % 128)))) 18 rfl (by kernel_rfl) (run_load_row 23 _ g2 23 _ _ r2_3 rfl (by kernel_rfl) (by kernel_rfl) (isz (n := 32) (by kernel_rfl) ((ints_size _ _).trans ((List.length_set ..).trans hx)))) ?_
  refine seq_call (.agg (ints .i64 (lims (s0)))) 39 #[.agg (ints .u8 ((xs).set 31 (nth xs 31 % 128)))] 19 rfl (by kernel_rfl) (by kernel_rfl) (c0 _) fun W4 e4 => ?_
  have x4 : Ext w W4 := Ext.tr x3 e4
  refine seq_alloc (ints .i64 (lims (0))) 34 5 rfl (by kernel_rfl) (by kernel_rfl) fun g7 W5 l7 e5 r7_5 => ?_
  have x5 : Ext w W5 := Ext.tr x4 e5
  have b7 : w.heap.size ≤ g7 := Nat.le_trans x4.size l7
  refine seq_store g7 _ (ints .i64 (lims (s0))) 34 r7_5 rfl (by kernel_rfl) (run_store_row 34 _ _ g7 34 _ _ r7_5 rfl (by kernel_rfl) (by kernel_rfl) (isz (n := 16) (by kernel_rfl) (by kernel_rfl)) (eqsz (n := 16) (by kernel_rfl) (by kernel_rfl)) (by kernel_rfl)) fun W6 p6 r7_6 => ?_
  have x6 : Ext w W6 := Puts.ext p6 x5 b7
  refine seq_nil ?_
  refine hK6 _ _ ?_
  try clear hK6 K6
  refine wp_seq_k fun K8 hK8 => ?_
  refine wp_seq_k fun K9 hK9 => ?_
  refine any_region 4 [⟨none, [(5, none)]⟩, ⟨none, [(20, some 0)]⟩, ⟨none, [(1, none)]⟩, ⟨none, [(21, some 1), (22, some 2)]⟩] (by kernel_rfl) (by kernel_rfl) fun F hF => ?_
  refine any_read (.agg (ints .i64 (lims (s0)))) (by kernel_rfl) (by kernel_rfl) (fun W hR => (run_load_row 34 _ g7 34 _ _ (row_ext (row_ext r7_6 (ext_drew _)) hR) rfl (by kernel_rfl) (by kernel_rfl) (isz (n := 16) (by kernel_rfl) (by kernel_rfl)))) ?_
  refine any_call (.agg (ints .u8 (ys))) 40 #[.agg (ints .i64 (lims (s0)))] (by kernel_rfl) (by kernel_rfl) (fun W => by kernel_rfl) (fun W hR => cb W) ?_
  have r2_4 := (row_ext r2_3 e4)
  have r2_6 := (Puts.row p6 (row_ext (row_ext r2_3 e4) e5) (ne_of_old r2_4 l7))
  refine any_read (.agg (ints .u8 ((xs).set 31 (nth xs 31 % 128)))) (by kernel_rfl) (by kernel_rfl) (fun W hR => (run_load_row 23 _ g2 23 _ _ (row_ext (row_ext r2_6 (ext_drew _)) hR) rfl (by kernel_rfl) (by kernel_rfl) (isz (n := 32) (by kernel_rfl) ((ints_size _ _).trans ((List.length_set ..).trans hx))))) ?_
  refine any_val (.bool false) (by kernel_rfl) (by kernel_rfl) (fun W => (run_neq_agg 23 _ _ _ _ _ (.bool false) rfl (by kernel_rfl) (by kernel_rfl) (by kernel_rfl) (key_neq _ _ true ys_len (by rw [List.length_set]; exact hx) hc _))) ?_
  refine steps_nil (hF _ (by kernel_rfl) fun W7 e7 => ?_)
  simp only [ups, up, Kn.val, List.take_succ_cons, List.take_zero, List.drop_succ_cons, List.drop_zero, List.nil_append, List.cons_append]
  clear hF
  have x7 : Ext w W7 := Ext.tr x6 e7
  refine seq_nil ?_
  refine hK9 _ _ ?_
  try clear hK9 K9
  refine cond_false (by kernel_rfl) ?_
  refine wp_skip ?_
  refine hK8 _ _ ?_
  try clear hK8 K8
  refine wp_seq_k fun K10 hK10 => ?_
  refine region_lit ?_
  refine seq_val (.agg (ints .i64 (lims (1)))) 25 rfl (by kernel_rfl) (by kernel_rfl) ?_
  refine seq_alloc (ints .i64 (lims (0))) 34 6 rfl (by kernel_rfl) (by kernel_rfl) fun g11 W8 l11 e8 r11_8 => ?_
  have x8 : Ext w W8 := Ext.tr x7 e8
  have b11 : w.heap.size ≤ g11 := Nat.le_trans x7.size l11
  refine seq_store g11 _ (ints .i64 (lims (1))) 34 r11_8 rfl (by kernel_rfl) (run_store_row 34 _ _ g11 34 _ _ r11_8 rfl (by kernel_rfl) (by kernel_rfl) (isz (n := 16) (by kernel_rfl) (by kernel_rfl)) (eqsz (n := 16) (by kernel_rfl) (by kernel_rfl)) (by kernel_rfl)) fun W9 p9 r11_9 => ?_
  have x9 : Ext w W9 := Puts.ext p9 x8 b11
  refine seq_nil ?_
  refine hK10 _ _ ?_
  try clear hK10 K10
  refine wp_seq_k fun K12 hK12 => ?_
  refine region_lit ?_
  have r7_7 := (row_ext r7_6 e7)
  have r7_9 := (Puts.row p9 (row_ext (row_ext r7_6 e7) e8) (ne_of_old r7_7 l11))
  refine seq_val (.agg (ints .i64 (lims (s0)))) 26 rfl (by kernel_rfl) (run_load_row 34 _ g7 34 _ _ r7_9 rfl (by kernel_rfl) (by kernel_rfl) (isz (n := 16) (by kernel_rfl) (by kernel_rfl))) ?_
  refine seq_val (.agg (ints .i64 (lims (s0)))) 27 rfl (by kernel_rfl) (run_load_row 34 _ g7 34 _ _ r7_9 rfl (by kernel_rfl) (by kernel_rfl) (isz (n := 16) (by kernel_rfl) (by kernel_rfl))) ?_
  refine seq_call (.agg (ints .i64 (lims (s1)))) 42 #[.agg (ints .i64 (lims (s0))), .agg (ints .i64 (lims (s0)))] 28 rfl (by kernel_rfl) (by kernel_rfl) (c1 _) fun W10 e10 => ?_
  have x10 : Ext w W10 := Ext.tr x9 e10
  refine seq_alloc (ints .i64 (lims (0))) 34 7 rfl (by kernel_rfl) (by kernel_rfl) fun g13 W11 l13 e11 r13_11 => ?_
  have x11 : Ext w W11 := Ext.tr x10 e11
  have b13 : w.heap.size ≤ g13 := Nat.le_trans x10.size l13
  refine seq_store g13 _ (ints .i64 (lims (s1))) 34 r13_11 rfl (by kernel_rfl) (run_store_row 34 _ _ g13 34 _ _ r13_11 rfl (by kernel_rfl) (by kernel_rfl) (isz (n := 16) (by kernel_rfl) (by kernel_rfl)) (eqsz (n := 16) (by kernel_rfl) (by kernel_rfl)) (by kernel_rfl)) fun W12 p12 r13_12 => ?_
  have x12 : Ext w W12 := Puts.ext p12 x11 b13
  refine seq_nil ?_
  refine hK12 _ _ ?_
  try clear hK12 K12
  refine wp_seq_k fun K14 hK14 => ?_
  refine any_regionD 6 [⟨none, []⟩, ⟨none, [(7, none)]⟩, ⟨none, [(29, some 0), (30, some 1)]⟩, ⟨none, [(6, none)]⟩, ⟨none, [(31, some 2), (32, some 3)]⟩, ⟨none, []⟩] [5] (by kernel_rfl) (by kernel_rfl) (by kernel_rfl) fun F hF => ?_
  refine any_call (.agg (ints .i64 (lims (dN)))) 44 #[] (by kernel_rfl) (by kernel_rfl) (fun W => by kernel_rfl) (fun W hR => factor W) ?_
  refine any_read (.agg (ints .i64 (lims (s1)))) (by kernel_rfl) (by kernel_rfl) (fun W hR => (run_load_row 34 _ g13 34 _ _ (row_ext (row_ext r13_12 (ext_drew _)) hR) rfl (by kernel_rfl) (by kernel_rfl) (isz (n := 16) (by kernel_rfl) (by kernel_rfl)))) ?_
  refine any_call (.agg (ints .i64 (lims (s2)))) 42 #[.agg (ints .i64 (lims (dN))), .agg (ints .i64 (lims (s1)))] (by kernel_rfl) (by kernel_rfl) (fun W => by kernel_rfl) (fun W hR => c2 W) ?_
  have r11_10 := (row_ext r11_9 e10)
  have r11_12 := (Puts.row p12 (row_ext (row_ext r11_9 e10) e11) (ne_of_old r11_10 l13))
  refine any_read (.agg (ints .i64 (lims (1)))) (by kernel_rfl) (by kernel_rfl) (fun W hR => (run_load_row 34 _ g11 34 _ _ (row_ext (row_ext r11_12 (ext_drew _)) hR) rfl (by kernel_rfl) (by kernel_rfl) (isz (n := 16) (by kernel_rfl) (by kernel_rfl)))) ?_
  refine any_call (.agg (ints .i64 (lims (s3)))) 43 #[.agg (ints .i64 (lims (s2))), .agg (ints .i64 (lims (1)))] (by kernel_rfl) (by kernel_rfl) (fun W => by kernel_rfl) (fun W hR => c3 W) ?_
  refine any_new (ints .i64 (lims (0))) 34 (by kernel_rfl) (Nat.le_refl _) (by kernel_rfl) (fun W => by kernel_rfl) ?_
  refine steps_nil (hF _ (by kernel_rfl) fun W13 e13 => ?_)
  simp only [fins, up, List.take_succ_cons, List.take_zero, List.drop_succ_cons, List.drop_zero, List.nil_append, List.cons_append]
  intro g15 l15 r15_13 n15
  have b15 : w.heap.size ≤ g15 := Nat.le_trans x12.size l15
  clear hF
  have x13 : Ext w W13 := Ext.tr x12 e13
  refine seq_store g15 _ (ints .i64 (lims (s3))) 34 r15_13 rfl (by kernel_rfl) (run_store_row 34 _ _ g15 34 _ _ r15_13 rfl (by kernel_rfl) (by kernel_rfl) (isz (n := 16) (by kernel_rfl) (by kernel_rfl)) (eqsz (n := 16) (by kernel_rfl) (by kernel_rfl)) (by kernel_rfl)) fun W14 p14 r15_14 => ?_
  have x14 : Ext w W14 := Puts.ext p14 x13 b15
  refine seq_nil ?_
  refine hK14 _ _ ?_
  try clear hK14 K14
  refine wp_seq_k fun K16 hK16 => ?_
  refine any_regionT (fun W => True) [⟨none, [(7, none)]⟩, ⟨none, [(6, none)]⟩, ⟨none, [(35, some 0), (36, some 1)]⟩, ⟨none, [(8, none)]⟩, ⟨none, [(38, some 3)]⟩, ⟨none, [(37, some 2), (39, some 4)]⟩, ⟨none, [(40, some 5)]⟩, ⟨none, [(41, some 6)]⟩, ⟨none, [(34, some 7)]⟩, ⟨none, [(34, some 7)]⟩, ⟨none, []⟩, ⟨none, [(9, some 10), (42, some 8)]⟩, ⟨none, [(43, some 9)]⟩] [10] [9, 12] (by kernel_rfl) (by kernel_rfl) (by kernel_rfl) (fun W hR => trivial) fun F hF => ?_
  have r13_14 := (Puts.row p14 (row_ext r13_12 e13) (ne_of_old r13_12 l15))
  refine t_read (.agg (ints .i64 (lims (s1)))) (by kernel_rfl) (by kernel_rfl) (by kernel_rfl) rfl (fun W hR => (run_load_row 34 _ g13 34 _ _ (row_ext (row_ext r13_14 (ext_drew _)) hR) rfl (by kernel_rfl) (by kernel_rfl) (isz (n := 16) (by kernel_rfl) (by kernel_rfl)))) ?_
  have r11_14 := (Puts.row p14 (row_ext r11_12 e13) (ne_of_old r11_12 l15))
  refine t_read (.agg (ints .i64 (lims (1)))) (by kernel_rfl) (by kernel_rfl) (by kernel_rfl) rfl (fun W hR => (run_load_row 34 _ g11 34 _ _ (row_ext (row_ext r11_14 (ext_drew _)) hR) rfl (by kernel_rfl) (by kernel_rfl) (isz (n := 16) (by kernel_rfl) (by kernel_rfl)))) ?_
  refine t_call (.agg (ints .i64 (lims (s4)))) 46 #[.agg (ints .i64 (lims (s1))), .agg (ints .i64 (lims (1)))] (by kernel_rfl) (by kernel_rfl) (by kernel_rfl) rfl (fun W => by kernel_rfl) (fun W hR => c4 W) ?_
  refine t_read (.agg (ints .i64 (lims (s3)))) (by kernel_rfl) (by kernel_rfl) (by kernel_rfl) rfl (fun W hR => (run_load_row 34 _ g15 34 _ _ (row_ext (row_ext r15_14 (ext_drew _)) hR) rfl (by kernel_rfl) (by kernel_rfl) (isz (n := 16) (by kernel_rfl) (by kernel_rfl)))) ?_
  refine t_call (.agg (ints .i64 (lims (s5)))) 47 #[.agg (ints .i64 (lims (s3)))] (by kernel_rfl) (by kernel_rfl) (by kernel_rfl) rfl (fun W => by kernel_rfl) (fun W hR => c5 W) ?_
  refine t_call (.agg (ints .i64 (lims (s6)))) 42 #[.agg (ints .i64 (lims (s4))), .agg (ints .i64 (lims (s5)))] (by kernel_rfl) (by kernel_rfl) (by kernel_rfl) rfl (fun W => by kernel_rfl) (fun W hR => c6 W) ?_
  refine t_call (.tuple #[.agg (ints .i64 (lims (r))), .bool true]) 45 #[.agg (ints .i64 (lims (s6)))] (by kernel_rfl) (by kernel_rfl) (by kernel_rfl) rfl (fun W => by kernel_rfl) (fun W hR => cr W) ?_
  refine t_val (.tuple #[.agg (ints .i64 (lims (r))), .bool true]) (by kernel_rfl) (by kernel_rfl) rfl (fun W => by kernel_rfl) ?_
  refine t_val (.agg (ints .i64 (lims (r)))) (by kernel_rfl) (by kernel_rfl) rfl (fun W => by kernel_rfl) ?_
  refine t_val (.bool true) (by kernel_rfl) (by kernel_rfl) rfl (fun W => by kernel_rfl) ?_
  refine t_new (ints .i64 (lims (0))) 34 (by kernel_rfl) (by kernel_rfl) (Nat.le_refl _) (by kernel_rfl) rfl (fun W => by kernel_rfl) ?_
  refine t_store rfl ?_
  refine t_val (.bool true) (by kernel_rfl) (by kernel_rfl) rfl (fun W => by kernel_rfl) ?_
  refine t_nil (hF _ (by kernel_rfl) fun W15 e15 => ?_)
  simp only [List.nil_append, List.cons_append, fins, up]
  intro g17 l17 r17_15 n17
  have b17 : w.heap.size ≤ g17 := Nat.le_trans x14.size l17
  clear hF
  have x15 : Ext w W15 := Ext.tr x14 e15
  refine te_store _ g17 _ (ints .i64 (lims (r))) 34 r17_15 rfl (run_store_row 34 _ _ g17 34 _ _ r17_15 rfl (by kernel_rfl) (by kernel_rfl) (isz (n := 16) (by kernel_rfl) (by kernel_rfl)) (eqsz (n := 16) (by kernel_rfl) (by kernel_rfl)) (by kernel_rfl)) (fun W hp => trivial) fun W16 p16 r17_16 => ?_
  have x16 : Ext w W16 := Puts.ext p16 x15 b17
  refine te_nil ?_
  refine hK16 _ _ ?_
  try clear hK16 K16
  refine wp_seq_k fun K18 hK18 => ?_
  refine wp_seq_k fun K19 hK19 => ?_
  refine region_lit ?_
  refine seq_val (.bool true) 44 rfl (by kernel_rfl) (by kernel_rfl) ?_
  refine seq_val (.bool false) 45 rfl (by kernel_rfl) (by kernel_rfl) ?_
  refine seq_val (.bool false) 46 rfl (by kernel_rfl) (by kernel_rfl) ?_
  refine seq_val (.bool false) 47 rfl (by kernel_rfl) (by kernel_rfl) ?_
  refine seq_val (.bool false) 48 rfl (by kernel_rfl) (by kernel_rfl) ?_
  refine seq_skip 49 rfl (by kernel_rfl) ?_
  refine seq_skip 50 rfl (by kernel_rfl) ?_
  refine seq_skip 51 rfl (by kernel_rfl) ?_
  refine seq_val (.bool false) 52 rfl (by kernel_rfl) (by kernel_rfl) ?_
  refine seq_val (.bool false) 53 rfl (by kernel_rfl) (by kernel_rfl) ?_
  refine seq_nil ?_
  refine hK19 _ _ ?_
  try clear hK19 K19
  refine cond_false (by kernel_rfl) ?_
  refine wp_skip ?_
  refine hK18 _ _ ?_
  try clear hK18 K18
  refine wp_seq_k fun K20 hK20 => ?_
  refine wp_seq_k fun K21 hK21 => ?_
  refine region_lit ?_
  refine seq_val (.bool false) 55 rfl (by kernel_rfl) (by kernel_rfl) ?_
  refine seq_nil ?_
  refine hK21 _ _ ?_
  try clear hK21 K21
  refine cond_false (by kernel_rfl) ?_
  refine wp_skip ?_
  refine hK20 _ _ ?_
  try clear hK20 K20
  refine wp_seq_k fun K22 hK22 => ?_
  refine region_lit ?_
  refine seq_val (.agg (ints .i64 (lims (r)))) 59 rfl (by kernel_rfl) (run_load_row 34 _ g17 34 _ _ r17_16 rfl (by kernel_rfl) (by kernel_rfl) (isz (n := 16) (by kernel_rfl) (by kernel_rfl))) ?_
  have r7_10 := (row_ext r7_9 e10)
  have r7_12 := (Puts.row p12 (row_ext r7_10 e11) (ne_of_old r7_10 l13))
  have r7_14 := (Puts.row p14 (row_ext r7_12 e13) (ne_of_old r7_12 l15))
  have r7_16 := (Puts.row p16 (row_ext (Puts.row p14 (row_ext (Puts.row p12 (row_ext (row_ext r7_9 e10) e11) (ne_of_old r7_10 l13)) e13) (ne_of_old r7_12 l15)) e15) (ne_of_old r7_14 l17))
  refine seq_val (.agg (ints .i64 (lims (s0)))) 60 rfl (by kernel_rfl) (run_load_row 34 _ g7 34 _ _ r7_16 rfl (by kernel_rfl) (by kernel_rfl) (isz (n := 16) (by kernel_rfl) (by kernel_rfl))) ?_
  have r11_16 := (Puts.row p16 (row_ext r11_14 e15) (ne_of_old r11_14 l17))
  refine seq_val (.agg (ints .i64 (lims (1)))) 61 rfl (by kernel_rfl) (run_load_row 34 _ g11 34 _ _ r11_16 rfl (by kernel_rfl) (by kernel_rfl) (isz (n := 16) (by kernel_rfl) (by kernel_rfl))) ?_
  refine seq_val (.agg (cat [ints .i64 (lims (r)), ints .i64 (lims (s0)), ints .i64 (lims (1))])) 62 rfl (by kernel_rfl) (by kernel_rfl) ?_
  have r3_4 := (row_ext (Puts.row p3 r3_2 (ne_of_new r2_1 l3)) e4)
  have r3_7 := (row_ext (Puts.row p6 (row_ext r3_4 e5) (ne_of_old r3_4 l7)) e7)
  have r3_10 := (row_ext (Puts.row p9 (row_ext r3_7 e8) (ne_of_old r3_7 l11)) e10)
  have r3_12 := (Puts.row p12 (row_ext r3_10 e11) (ne_of_old r3_10 l13))
  have r3_14 := (Puts.row p14 (row_ext r3_12 e13) (ne_of_old r3_12 l15))
  have r3_16 := (Puts.row p16 (row_ext (Puts.row p14 (row_ext (Puts.row p12 (row_ext (row_ext (Puts.row p9 (row_ext (row_ext (Puts.row p6 (row_ext (row_ext (Puts.row p3 r3_2 (ne_of_new r2_1 l3)) e4) e5) (ne_of_old r3_4 l7)) e7) e8) (ne_of_old r3_7 l11)) e10) e11) (ne_of_old r3_10 l13)) e13) (ne_of_old r3_12 l15)) e15) (ne_of_old r3_14 l17))
  refine seq_store g3 _ (cat [ints .i64 (lims (r)), ints .i64 (lims (s0)), ints .i64 (lims (1))]) 36 r3_16 rfl (by kernel_rfl) (run_store_row 36 _ _ g3 36 _ _ r3_16 rfl (by kernel_rfl) (by kernel_rfl) (isz (n := 48) (by kernel_rfl) (by kernel_rfl)) (eqsz (n := 48) (by kernel_rfl) (by kernel_rfl)) (by kernel_rfl)) fun W17 p17 r3_17 => ?_
  have x17 : Ext w W17 := Puts.ext p17 x16 b3
  refine seq_val (.bool true) 3 rfl (by kernel_rfl) (by kernel_rfl) ?_
  refine seq_nil ?_
  refine hK22 _ _ ?_
  try clear hK22 K22
  refine wp_ret ?_
  exact (show bodyPost _ _ _ .ret _ _ from ret2 (.agg (cat [ints .i64 (lims (r)), ints .i64 (lims (s0)), ints .i64 (lims (1))])) (.bool true) rfl (res_cell g3 36 _ r3_17 (by kernel_rfl) (by kernel_rfl) (isz (n := 48) (by kernel_rfl) (by kernel_rfl))) (res_tmp (by kernel_rfl)) ⟨rfl, x17⟩)
set_option maxHeartbeats 4000000 in
theorem rfrom_G (xs ys : List Int) (hx : xs.length = 32) (hb : AreBytes xs) (ys_len : ys.length = 32) (s0 : Int) (ho : decide (nth xs 31 ≥ 128) = true) (hc : decide (ys = (xs).set 31 (nth xs 31 % 128)) = false)
    (c0 : ∀ W, Calls Tryd.prog 39 #[.agg (ints .u8 ((xs).set 31 (nth xs 31 % 128)))] W (Ret W (.agg (ints .i64 (lims (s0))))))
    (cb : ∀ W, Calls Tryd.prog 40 #[.agg (ints .i64 (lims (s0)))] W (Ret W (.agg (ints .u8 ys))))
    (w : World) : Calls Tryd.prog 12 #[.agg (ints .u8 (xs))] w (Ret w (.tuple #[.agg (cat [ints .i64 (lims (0)), ints .i64 (lims (1)), ints .i64 (lims (1))]), .bool false])) := by
  refine enter 63 [(0, .agg (ints .u8 (xs)))] Tryd.func12 rfl rfl (by kernel_rfl) rfl ?_
  refine wp_seq_k fun K1 hK1 => ?_
  refine region_lit ?_
  refine seq_alloc (ints .u8 (xs)) 23 1 rfl (by kernel_rfl) (by kernel_rfl) fun g2 W1 l2 e1 r2_1 => ?_
  have x1 : Ext w W1 := Ext.tr (Rely.Ext.refl w) e1
  have b2 : w.heap.size ≤ g2 := Nat.le_trans (Rely.Ext.refl w).size l2
  refine seq_alloc (cat [ints .i64 (lims (0)), ints .i64 (lims (0)), ints .i64 (lims (0))]) 36 2 rfl (by kernel_rfl) (by kernel_rfl) fun g3 W2 l3 e2 r3_2 => ?_
  have x2 : Ext w W2 := Ext.tr x1 e2
  have b3 : w.heap.size ≤ g3 := Nat.le_trans x1.size l3
  refine seq_val (.bool false) 3 rfl (by kernel_rfl) (by kernel_rfl) ?_
  refine seq_nil ?_
  refine hK1 _ _ ?_
  try clear hK1 K1
  refine wp_seq_k fun K4 hK4 => ?_
  refine region_lit ?_
  refine seq_val (.pointer (some ⟨g2, 31, none⟩)) 11 rfl (by kernel_rfl) (by kernel_rfl) ?_
  have r2_2 := (row_ext r2_1 e2)
  refine seq_val (.int .u8 (nth (xs) 31)) 12 rfl (by kernel_rfl) (run_loadC1 5 _ g2 31 23 _ (.int .u8 (nth (xs) 31)) _ r2_2 rfl (by kernel_rfl) (ints_get _ _ _ (Nat.lt_of_lt_of_eq (by decide) hx.symm)) (by kernel_rfl)) ?_
  refine seq_val (.bool true) 13 rfl (by kernel_rfl) (run_eq (u := .bool (decide ((nth (xs) 31) ≥ 128))) (by kernel_rfl) (congrArg Value.bool ho)) ?_
  refine seq_val (.bool true) 4 rfl (by kernel_rfl) (by kernel_rfl) ?_
  refine seq_nil ?_
  refine hK4 _ _ ?_
  try clear hK4 K4
  refine wp_seq_k fun K5 hK5 => ?_
  refine region_lit ?_
  refine seq_val (.pointer (some ⟨g2, 31, none⟩)) 14 rfl (by kernel_rfl) (by kernel_rfl) ?_
  refine seq_val (.int .u8 (nth (xs) 31)) 15 rfl (by kernel_rfl) (run_loadC1 5 _ g2 31 23 _ (.int .u8 (nth (xs) 31)) _ r2_2 rfl (by kernel_rfl) (ints_get _ _ _ (Nat.lt_of_lt_of_eq (by decide) hx.symm)) (by kernel_rfl)) ?_
  refine seq_val (.int .u8 (nth xs 31 % 128)) 16 rfl (by kernel_rfl) (run_eq (u := .int .u8 (Int.tmod ((nth (xs) 31)) (128))) (by kernel_rfl) (congrArg (Value.int .u8) (tmod128 _ (hb.nth 31)))) ?_
  refine seq_val (.pointer (some ⟨g2, 31, none⟩)) 17 rfl (by kernel_rfl) (by kernel_rfl) ?_
  refine seq_store g2 _ (ints .u8 ((xs).set 31 (nth xs 31 % 128))) 23 r2_2 rfl (by kernel_rfl) (run_storeI 5 _ _ g2 31 23 _ _ r2_2 rfl (by kernel_rfl) (by kernel_rfl) (by kernel_rfl) (Nat.lt_of_lt_of_eq (by decide) hx.symm)) fun W3 p3 r2_3 => ?_
  have x3 : Ext w W3 := Puts.ext p3 x2 b2
  refine seq_nil ?_
  refine hK5 _ _ ?_
  try clear hK5 K5
  refine wp_seq_k fun K6 hK6 => ?_
  refine region_lit ?_
  refine seq_val (.agg (ints .u8 ((xs).set 31 (nth xs 31 % 128)))) 18 rfl (by kernel_rfl) (run_load_row 23 _ g2 23 _ _ r2_3 rfl (by kernel_rfl) (by kernel_rfl) (isz (n := 32) (by kernel_rfl) ((ints_size _ _).trans ((List.length_set ..).trans hx)))) ?_
  refine seq_call (.agg (ints .i64 (lims (s0)))) 39 #[.agg (ints .u8 ((xs).set 31 (nth xs 31 % 128)))] 19 rfl (by kernel_rfl) (by kernel_rfl) (c0 _) fun W4 e4 => ?_
  have x4 : Ext w W4 := Ext.tr x3 e4
  refine seq_alloc (ints .i64 (lims (0))) 34 5 rfl (by kernel_rfl) (by kernel_rfl) fun g7 W5 l7 e5 r7_5 => ?_
  have x5 : Ext w W5 := Ext.tr x4 e5
  have b7 : w.heap.size ≤ g7 := Nat.le_trans x4.size l7
  refine seq_store g7 _ (ints .i64 (lims (s0))) 34 r7_5 rfl (by kernel_rfl) (run_store_row 34 _ _ g7 34 _ _ r7_5 rfl (by kernel_rfl) (by kernel_rfl) (isz (n := 16) (by kernel_rfl) (by kernel_rfl)) (eqsz (n := 16) (by kernel_rfl) (by kernel_rfl)) (by kernel_rfl)) fun W6 p6 r7_6 => ?_
  have x6 : Ext w W6 := Puts.ext p6 x5 b7
  refine seq_nil ?_
  refine hK6 _ _ ?_
  try clear hK6 K6
  refine wp_seq_k fun K8 hK8 => ?_
  refine wp_seq_k fun K9 hK9 => ?_
  refine any_region 4 [⟨none, [(5, none)]⟩, ⟨none, [(20, some 0)]⟩, ⟨none, [(1, none)]⟩, ⟨none, [(21, some 1), (22, some 2)]⟩] (by kernel_rfl) (by kernel_rfl) fun F hF => ?_
  refine any_read (.agg (ints .i64 (lims (s0)))) (by kernel_rfl) (by kernel_rfl) (fun W hR => (run_load_row 34 _ g7 34 _ _ (row_ext (row_ext r7_6 (ext_drew _)) hR) rfl (by kernel_rfl) (by kernel_rfl) (isz (n := 16) (by kernel_rfl) (by kernel_rfl)))) ?_
  refine any_call (.agg (ints .u8 (ys))) 40 #[.agg (ints .i64 (lims (s0)))] (by kernel_rfl) (by kernel_rfl) (fun W => by kernel_rfl) (fun W hR => cb W) ?_
  have r2_4 := (row_ext r2_3 e4)
  have r2_6 := (Puts.row p6 (row_ext (row_ext r2_3 e4) e5) (ne_of_old r2_4 l7))
  refine any_read (.agg (ints .u8 ((xs).set 31 (nth xs 31 % 128)))) (by kernel_rfl) (by kernel_rfl) (fun W hR => (run_load_row 23 _ g2 23 _ _ (row_ext (row_ext r2_6 (ext_drew _)) hR) rfl (by kernel_rfl) (by kernel_rfl) (isz (n := 32) (by kernel_rfl) ((ints_size _ _).trans ((List.length_set ..).trans hx))))) ?_
  refine any_val (.bool true) (by kernel_rfl) (by kernel_rfl) (fun W => (run_neq_agg 23 _ _ _ _ _ (.bool true) rfl (by kernel_rfl) (by kernel_rfl) (by kernel_rfl) (key_neq _ _ false ys_len (by rw [List.length_set]; exact hx) hc _))) ?_
  refine steps_nil (hF _ (by kernel_rfl) fun W7 e7 => ?_)
  simp only [ups, up, Kn.val, List.take_succ_cons, List.take_zero, List.drop_succ_cons, List.drop_zero, List.nil_append, List.cons_append]
  clear hF
  have x7 : Ext w W7 := Ext.tr x6 e7
  refine seq_nil ?_
  refine hK9 _ _ ?_
  try clear hK9 K9
  refine cond_true (by kernel_rfl) ?_
  refine wp_seq_k fun K10 hK10 => ?_
  refine region_lit ?_
  refine seq_call (.agg (cat [ints .i64 (lims (0)), ints .i64 (lims (1)), ints .i64 (lims (1))])) 41 #[] 24 rfl (by kernel_rfl) (by kernel_rfl) (nothing _) fun W8 e8 => ?_
  have x8 : Ext w W8 := Ext.tr x7 e8
  have r3_4 := (row_ext (Puts.row p3 r3_2 (ne_of_new r2_1 l3)) e4)
  have r3_8 := (row_ext (row_ext (Puts.row p6 (row_ext (row_ext (Puts.row p3 r3_2 (ne_of_new r2_1 l3)) e4) e5) (ne_of_old r3_4 l7)) e7) e8)
  refine seq_store g3 _ (cat [ints .i64 (lims (0)), ints .i64 (lims (1)), ints .i64 (lims (1))]) 36 r3_8 rfl (by kernel_rfl) (run_store_row 36 _ _ g3 36 _ _ r3_8 rfl (by kernel_rfl) (by kernel_rfl) (isz (n := 48) (by kernel_rfl) (by kernel_rfl)) (eqsz (n := 48) (by kernel_rfl) (by kernel_rfl)) (by kernel_rfl)) fun W9 p9 r3_9 => ?_
  have x9 : Ext w W9 := Puts.ext p9 x8 b3
  refine seq_val (.bool false) 3 rfl (by kernel_rfl) (by kernel_rfl) ?_
  refine seq_nil ?_
  refine hK10 _ _ ?_
  try clear hK10 K10
  refine wp_ret ?_
  exact (show bodyPost _ _ _ .ret _ _ from ret2 (.agg (cat [ints .i64 (lims (0)), ints .i64 (lims (1)), ints .i64 (lims (1))])) (.bool false) rfl (res_cell g3 36 _ r3_9 (by kernel_rfl) (by kernel_rfl) (isz (n := 48) (by kernel_rfl) (by kernel_rfl))) (res_tmp (by kernel_rfl)) ⟨rfl, x9⟩)

end Go.Proofs.YtaojnmjmmfdfjaaDoor.Field
