/- Points: their bytes; equal ones. -/
import Derived.Test.YtaojnmjmmfdfjaaDoorPtArithB
namespace Go.Proofs.YtaojnmjmmfdfjaaDoor.Field
open Go Go.RowKit
open Go.Proofs.YtaojnmjmmfdfjaaDoor.Rely Go.Proofs.YtaojnmjmmfdfjaaDoor.Auto
set_option linter.unusedVariables false

def enc (x y : Int) : List Int := if (x % 2 == 1) = true then (bytesOf y).set 31 (nth (bytesOf y) 31 + 128) else bytesOf y
set_option maxHeartbeats 4000000 in
theorem pbytes_true (x l : Int) (h_x : isN x) (h_l : isN l) (ho : (x % 2 == 1) = true) (w : World) : Calls Tryd.prog 13 #[.agg (cat [numA (x), numA (l)])] w (Ret w (.agg (ints .u8 ((bytesOf (pyF x l)).set 31 (nth (bytesOf (pyF x l)) 31 + 128))))) := by
  refine enter 15 [(0, .agg (cat [numA (x), numA (l)]))] Tryd.func13 rfl rfl (by kernel_rfl) rfl ?_
  refine wp_seq_k fun K1 hK1 => ?_
  refine region_lit ?_
  refine seq_alloc (cat [numA (x), numA (l)]) 30 1 rfl (by kernel_rfl) (by kernel_rfl) fun g2 W1 l2 e1 r2_1 => ?_
  have x1 : Ext w W1 := Ext.tr (Rely.Ext.refl w) e1
  have b2 : w.heap.size ≤ g2 := Nat.le_trans (Rely.Ext.refl w).size l2
  refine seq_alloc (ints .u8 (List.replicate 32 0)) 23 2 rfl (by kernel_rfl) (by kernel_rfl) fun g3 W2 l3 e2 r3_2 => ?_
  have x2 : Ext w W2 := Ext.tr x1 e2
  have b3 : w.heap.size ≤ g3 := Nat.le_trans x1.size l3
  refine seq_nil ?_
  refine hK1 _ _ ?_
  try clear hK1 K1
  refine wp_seq_k fun K4 hK4 => ?_
  refine region_lit ?_
  have r2_2 := (row_ext r2_1 e2)
  refine seq_val (.agg (cat [numA (x), numA (l)])) 4 rfl (by kernel_rfl) (run_load_row 30 _ g2 30 _ _ r2_2 rfl (by kernel_rfl) (by kernel_rfl) (isz (n := 8) (by kernel_rfl) (by kernel_rfl))) ?_
  refine seq_call (.agg (numA (pyF x l))) 48 #[.agg (cat [numA (x), numA (l)])] 5 rfl (by kernel_rfl) (by kernel_rfl) ((pyC x l h_x h_l) _) fun W3 e3 => ?_
  have x3 : Ext w W3 := Ext.tr x2 e3
  refine seq_call (.agg (ints .u8 (bytesOf (pyF x l)))) 30 #[.agg (numA (pyF x l))] 6 rfl (by kernel_rfl) (by kernel_rfl) ((bytes _ (py_isN x l h_x h_l)) _) fun W4 e4 => ?_
  have x4 : Ext w W4 := Ext.tr x3 e4
  refine seq_alloc (ints .u8 (List.replicate 32 0)) 23 3 rfl (by kernel_rfl) (by kernel_rfl) fun g5 W5 l5 e5 r5_5 => ?_
  have x5 : Ext w W5 := Ext.tr x4 e5
  have b5 : w.heap.size ≤ g5 := Nat.le_trans x4.size l5
  refine seq_store g5 _ (ints .u8 (bytesOf (pyF x l))) 23 r5_5 rfl (by kernel_rfl) (run_store_row 23 _ _ g5 23 _ _ r5_5 rfl (by kernel_rfl) (by kernel_rfl) (isz (n := 32) (by kernel_rfl) ((ints_size _ _).trans (bytes_len _))) (eqsz (n := 32) ((ints_size _ _).trans zlen) ((ints_size _ _).trans (bytes_len _))) (ints_one _ _)) fun W6 p6 r5_6 => ?_
  have x6 : Ext w W6 := Puts.ext p6 x5 b5
  refine seq_nil ?_
  refine hK4 _ _ ?_
  try clear hK4 K4
  refine wp_seq_k fun K6 hK6 => ?_
  refine wp_seq_k fun K7 hK7 => ?_
  refine region_lit ?_
  refine seq_val (.pointer (some ⟨g2, 0, none⟩)) 7 rfl (by kernel_rfl) (by kernel_rfl) ?_
  have r2_4 := (row_ext (row_ext r2_2 e3) e4)
  have r2_6 := (Puts.row p6 (row_ext (row_ext (row_ext r2_2 e3) e4) e5) (ne_of_old r2_4 l5))
  refine seq_val (.agg (numA (x))) 8 rfl (by kernel_rfl) (run_load_part 28 _ g2 0 30 _ _ _ r2_6 rfl (by kernel_rfl) (cat_part [] [numA (x)] [numA (l)] 0 (by kernel_rfl)) (by kernel_rfl) (isz (n := 4) (by kernel_rfl) (by kernel_rfl))) ?_
  refine seq_call (.bool true) 49 #[.agg (numA (x))] 9 rfl (by kernel_rfl) (by kernel_rfl) ((odd_is x true h_x ho) _) fun W7 e7 => ?_
  have x7 : Ext w W7 := Ext.tr x6 e7
  refine seq_nil ?_
  refine hK7 _ _ ?_
  try clear hK7 K7
  refine cond_true (by kernel_rfl) ?_
  refine region_lit ?_
  refine seq_val (.pointer (some ⟨g5, 31, none⟩)) 10 rfl (by kernel_rfl) (by kernel_rfl) ?_
  have r5_7 := (row_ext r5_6 e7)
  refine seq_val (.int .u8 (nth (bytesOf (pyF x l)) 31)) 11 rfl (by kernel_rfl) (run_loadC1 5 _ g5 31 23 _ (.int .u8 (nth (bytesOf (pyF x l)) 31)) _ r5_7 rfl (by kernel_rfl) (ints_get _ _ _ (Nat.lt_of_lt_of_eq (by decide) (bytes_len _).symm)) (by kernel_rfl)) ?_
  refine seq_val (.int .u8 (nth (bytesOf (pyF x l)) 31 + 128)) 12 rfl (by kernel_rfl) (run_eq (u := .int .u8 (bits .or .u8 ((nth (bytesOf (pyF x l)) 31)) (128))) (by kernel_rfl) (congrArg (Value.int .u8) (or128 _ (last_byte (py_isN x l h_x h_l))))) ?_
  refine seq_val (.pointer (some ⟨g5, 31, none⟩)) 13 rfl (by kernel_rfl) (by kernel_rfl) ?_
  refine seq_store g5 _ (ints .u8 ((bytesOf (pyF x l)).set 31 (nth (bytesOf (pyF x l)) 31 + 128))) 23 r5_7 rfl (by kernel_rfl) (run_storeI 5 _ _ g5 31 23 _ _ r5_7 rfl (by kernel_rfl) (by kernel_rfl) (by kernel_rfl) (Nat.lt_of_lt_of_eq (by decide) (bytes_len _).symm)) fun W8 p8 r5_8 => ?_
  have x8 : Ext w W8 := Puts.ext p8 x7 b5
  refine seq_nil ?_
  refine hK6 _ _ ?_
  try clear hK6 K6
  refine wp_seq_k fun K8 hK8 => ?_
  refine region_lit ?_
  refine seq_val (.agg (ints .u8 ((bytesOf (pyF x l)).set 31 (nth (bytesOf (pyF x l)) 31 + 128)))) 14 rfl (by kernel_rfl) (run_load_row 23 _ g5 23 _ _ r5_8 rfl (by kernel_rfl) (by kernel_rfl) (isz (n := 32) (by kernel_rfl) ((ints_size _ _).trans ((List.length_set ..).trans (bytes_len _))))) ?_
  have r3_4 := (row_ext (row_ext r3_2 e3) e4)
  have r3_8 := (Puts.row p8 (row_ext (Puts.row p6 (row_ext (row_ext (row_ext r3_2 e3) e4) e5) (ne_of_old r3_4 l5)) e7) (ne_of_old r3_4 l5))
  refine seq_store g3 _ (ints .u8 ((bytesOf (pyF x l)).set 31 (nth (bytesOf (pyF x l)) 31 + 128))) 23 r3_8 rfl (by kernel_rfl) (run_store_row 23 _ _ g3 23 _ _ r3_8 rfl (by kernel_rfl) (by kernel_rfl) (isz (n := 32) (by kernel_rfl) ((ints_size _ _).trans ((List.length_set ..).trans (bytes_len _)))) (eqsz (n := 32) ((ints_size _ _).trans zlen) ((ints_size _ _).trans ((List.length_set ..).trans (bytes_len _)))) (ints_one _ _)) fun W9 p9 r3_9 => ?_
  have x9 : Ext w W9 := Puts.ext p9 x8 b3
  refine seq_nil ?_
  refine hK8 _ _ ?_
  try clear hK8 K8
  refine wp_ret ?_
  exact (show bodyPost _ _ _ .ret _ _ from ret1 (.agg (ints .u8 ((bytesOf (pyF x l)).set 31 (nth (bytesOf (pyF x l)) 31 + 128)))) rfl (res_cell g3 23 _ r3_9 (by kernel_rfl) (by kernel_rfl) (isz (n := 32) (by kernel_rfl) ((ints_size _ _).trans ((List.length_set ..).trans (bytes_len _))))) ⟨rfl, x9⟩)
set_option maxHeartbeats 4000000 in
theorem pbytes_false (x l : Int) (h_x : isN x) (h_l : isN l) (ho : (x % 2 == 1) = false) (w : World) : Calls Tryd.prog 13 #[.agg (cat [numA (x), numA (l)])] w (Ret w (.agg (ints .u8 (bytesOf (pyF x l))))) := by
  refine enter 15 [(0, .agg (cat [numA (x), numA (l)]))] Tryd.func13 rfl rfl (by kernel_rfl) rfl ?_
  refine wp_seq_k fun K1 hK1 => ?_
  refine region_lit ?_
  refine seq_alloc (cat [numA (x), numA (l)]) 30 1 rfl (by kernel_rfl) (by kernel_rfl) fun g2 W1 l2 e1 r2_1 => ?_
  have x1 : Ext w W1 := Ext.tr (Rely.Ext.refl w) e1
  have b2 : w.heap.size ≤ g2 := Nat.le_trans (Rely.Ext.refl w).size l2
  refine seq_alloc (ints .u8 (List.replicate 32 0)) 23 2 rfl (by kernel_rfl) (by kernel_rfl) fun g3 W2 l3 e2 r3_2 => ?_
  have x2 : Ext w W2 := Ext.tr x1 e2
  have b3 : w.heap.size ≤ g3 := Nat.le_trans x1.size l3
  refine seq_nil ?_
  refine hK1 _ _ ?_
  try clear hK1 K1
  refine wp_seq_k fun K4 hK4 => ?_
  refine region_lit ?_
  have r2_2 := (row_ext r2_1 e2)
  refine seq_val (.agg (cat [numA (x), numA (l)])) 4 rfl (by kernel_rfl) (run_load_row 30 _ g2 30 _ _ r2_2 rfl (by kernel_rfl) (by kernel_rfl) (isz (n := 8) (by kernel_rfl) (by kernel_rfl))) ?_
  refine seq_call (.agg (numA (pyF x l))) 48 #[.agg (cat [numA (x), numA (l)])] 5 rfl (by kernel_rfl) (by kernel_rfl) ((pyC x l h_x h_l) _) fun W3 e3 => ?_
  have x3 : Ext w W3 := Ext.tr x2 e3
  refine seq_call (.agg (ints .u8 (bytesOf (pyF x l)))) 30 #[.agg (numA (pyF x l))] 6 rfl (by kernel_rfl) (by kernel_rfl) ((bytes _ (py_isN x l h_x h_l)) _) fun W4 e4 => ?_
  have x4 : Ext w W4 := Ext.tr x3 e4
  refine seq_alloc (ints .u8 (List.replicate 32 0)) 23 3 rfl (by kernel_rfl) (by kernel_rfl) fun g5 W5 l5 e5 r5_5 => ?_
  have x5 : Ext w W5 := Ext.tr x4 e5
  have b5 : w.heap.size ≤ g5 := Nat.le_trans x4.size l5
  refine seq_store g5 _ (ints .u8 (bytesOf (pyF x l))) 23 r5_5 rfl (by kernel_rfl) (run_store_row 23 _ _ g5 23 _ _ r5_5 rfl (by kernel_rfl) (by kernel_rfl) (isz (n := 32) (by kernel_rfl) ((ints_size _ _).trans (bytes_len _))) (eqsz (n := 32) ((ints_size _ _).trans zlen) ((ints_size _ _).trans (bytes_len _))) (ints_one _ _)) fun W6 p6 r5_6 => ?_
  have x6 : Ext w W6 := Puts.ext p6 x5 b5
  refine seq_nil ?_
  refine hK4 _ _ ?_
  try clear hK4 K4
  refine wp_seq_k fun K6 hK6 => ?_
  refine wp_seq_k fun K7 hK7 => ?_
  refine region_lit ?_
  refine seq_val (.pointer (some ⟨g2, 0, none⟩)) 7 rfl (by kernel_rfl) (by kernel_rfl) ?_
  have r2_4 := (row_ext (row_ext r2_2 e3) e4)
  have r2_6 := (Puts.row p6 (row_ext (row_ext (row_ext r2_2 e3) e4) e5) (ne_of_old r2_4 l5))
  refine seq_val (.agg (numA (x))) 8 rfl (by kernel_rfl) (run_load_part 28 _ g2 0 30 _ _ _ r2_6 rfl (by kernel_rfl) (cat_part [] [numA (x)] [numA (l)] 0 (by kernel_rfl)) (by kernel_rfl) (isz (n := 4) (by kernel_rfl) (by kernel_rfl))) ?_
  refine seq_call (.bool false) 49 #[.agg (numA (x))] 9 rfl (by kernel_rfl) (by kernel_rfl) ((odd_is x false h_x ho) _) fun W7 e7 => ?_
  have x7 : Ext w W7 := Ext.tr x6 e7
  refine seq_nil ?_
  refine hK7 _ _ ?_
  try clear hK7 K7
  refine cond_false (by kernel_rfl) ?_
  refine wp_skip ?_
  refine hK6 _ _ ?_
  try clear hK6 K6
  refine wp_seq_k fun K8 hK8 => ?_
  refine region_lit ?_
  have r5_7 := (row_ext r5_6 e7)
  refine seq_val (.agg (ints .u8 (bytesOf (pyF x l)))) 14 rfl (by kernel_rfl) (run_load_row 23 _ g5 23 _ _ r5_7 rfl (by kernel_rfl) (by kernel_rfl) (isz (n := 32) (by kernel_rfl) ((ints_size _ _).trans (bytes_len _)))) ?_
  have r3_4 := (row_ext (row_ext r3_2 e3) e4)
  have r3_7 := (row_ext (Puts.row p6 (row_ext (row_ext (row_ext r3_2 e3) e4) e5) (ne_of_old r3_4 l5)) e7)
  refine seq_store g3 _ (ints .u8 (bytesOf (pyF x l))) 23 r3_7 rfl (by kernel_rfl) (run_store_row 23 _ _ g3 23 _ _ r3_7 rfl (by kernel_rfl) (by kernel_rfl) (isz (n := 32) (by kernel_rfl) ((ints_size _ _).trans (bytes_len _))) (eqsz (n := 32) ((ints_size _ _).trans zlen) ((ints_size _ _).trans (bytes_len _))) (ints_one _ _)) fun W8 p8 r3_8 => ?_
  have x8 : Ext w W8 := Puts.ext p8 x7 b3
  refine seq_nil ?_
  refine hK8 _ _ ?_
  try clear hK8 K8
  refine wp_ret ?_
  exact (show bodyPost _ _ _ .ret _ _ from ret1 (.agg (ints .u8 (bytesOf (pyF x l)))) rfl (res_cell g3 23 _ r3_8 (by kernel_rfl) (by kernel_rfl) (isz (n := 32) (by kernel_rfl) ((ints_size _ _).trans (bytes_len _)))) ⟨rfl, x8⟩)
theorem pbytesC (x l : Int) (h_x : isN x) (h_l : isN l) (w : World) : Calls Tryd.prog 13 #[.agg (cat [numA x, numA l])] w (Ret w (.agg (ints .u8 (enc x (pyF x l))))) := by
  unfold enc
  cases ho : (x % 2 == 1)
  · simp only [Bool.false_eq_true, if_false]; exact pbytes_false x l h_x h_l ho w
  · simp only [if_true]; exact pbytes_true x l h_x h_l ho w
set_option maxHeartbeats 4000000 in
theorem rbytes_true (x y z : Int) (h_x : isN x) (h_y : isN y) (h_z : isN z) (ho : ((x * invN z % p) % 2 == 1) = true) (w : World) : Calls Tryd.prog 14 #[.agg (cat [ints .i64 (lims (x)), ints .i64 (lims (y)), ints .i64 (lims (z))])] w (Ret w (.agg (ints .u8 ((bytesOf (y * invN z % p)).set 31 (nth (bytesOf (y * invN z % p)) 31 + 128))))) := by
  refine enter 25 [(0, .agg (cat [ints .i64 (lims (x)), ints .i64 (lims (y)), ints .i64 (lims (z))]))] Tryd.func14 rfl rfl (by kernel_rfl) rfl ?_
  refine wp_seq_k fun K1 hK1 => ?_
  refine region_lit ?_
  refine seq_alloc (cat [ints .i64 (lims (x)), ints .i64 (lims (y)), ints .i64 (lims (z))]) 36 1 rfl (by kernel_rfl) (by kernel_rfl) fun g2 W1 l2 e1 r2_1 => ?_
  have x1 : Ext w W1 := Ext.tr (Rely.Ext.refl w) e1
  have b2 : w.heap.size ≤ g2 := Nat.le_trans (Rely.Ext.refl w).size l2
  refine seq_alloc (ints .u8 (List.replicate 32 0)) 23 2 rfl (by kernel_rfl) (by kernel_rfl) fun g3 W2 l3 e2 r3_2 => ?_
  have x2 : Ext w W2 := Ext.tr x1 e2
  have b3 : w.heap.size ≤ g3 := Nat.le_trans x1.size l3
  refine seq_nil ?_
  refine hK1 _ _ ?_
  try clear hK1 K1
  refine wp_seq_k fun K4 hK4 => ?_
  refine region_lit ?_
  refine seq_val (.pointer (some ⟨g2, 32, none⟩)) 5 rfl (by kernel_rfl) (by kernel_rfl) ?_
  have r2_2 := (row_ext r2_1 e2)
  refine seq_val (.agg (ints .i64 (lims (z)))) 6 rfl (by kernel_rfl) (run_load_part 34 _ g2 32 36 _ _ _ r2_2 rfl (by kernel_rfl) (cat_part [ints .i64 (lims (x)), ints .i64 (lims (y))] [ints .i64 (lims (z))] [] 32 (by kernel_rfl)) (by kernel_rfl) (isz (n := 16) (by kernel_rfl) (by kernel_rfl))) ?_
  refine seq_call (.agg (ints .i64 (lims (invN z)))) 47 #[.agg (ints .i64 (lims (z)))] 7 rfl (by kernel_rfl) (by kernel_rfl) ((lInv _ h_z) _) fun W3 e3 => ?_
  have x3 : Ext w W3 := Ext.tr x2 e3
  refine seq_alloc (ints .i64 (lims (0))) 34 3 rfl (by kernel_rfl) (by kernel_rfl) fun g5 W4 l5 e4 r5_4 => ?_
  have x4 : Ext w W4 := Ext.tr x3 e4
  have b5 : w.heap.size ≤ g5 := Nat.le_trans x3.size l5
  refine seq_store g5 _ (ints .i64 (lims (invN z))) 34 r5_4 rfl (by kernel_rfl) (run_store_row 34 _ _ g5 34 _ _ r5_4 rfl (by kernel_rfl) (by kernel_rfl) (isz (n := 16) (by kernel_rfl) (by kernel_rfl)) (eqsz (n := 16) (by kernel_rfl) (by kernel_rfl)) (by kernel_rfl)) fun W5 p5 r5_5 => ?_
  have x5 : Ext w W5 := Puts.ext p5 x4 b5
  refine seq_nil ?_
  refine hK4 _ _ ?_
  try clear hK4 K4
  refine wp_seq_k fun K6 hK6 => ?_
  refine region_lit ?_
  refine seq_val (.pointer (some ⟨g2, 16, none⟩)) 8 rfl (by kernel_rfl) (by kernel_rfl) ?_
  have r2_3 := (row_ext r2_2 e3)
  have r2_5 := (Puts.row p5 (row_ext (row_ext r2_2 e3) e4) (ne_of_old r2_3 l5))
  refine seq_val (.agg (ints .i64 (lims (y)))) 9 rfl (by kernel_rfl) (run_load_part 34 _ g2 16 36 _ _ _ r2_5 rfl (by kernel_rfl) (cat_part [ints .i64 (lims (x))] [ints .i64 (lims (y))] [ints .i64 (lims (z))] 16 (by kernel_rfl)) (by kernel_rfl) (isz (n := 16) (by kernel_rfl) (by kernel_rfl))) ?_
  refine seq_val (.agg (ints .i64 (lims (invN z)))) 10 rfl (by kernel_rfl) (run_load_row 34 _ g5 34 _ _ r5_5 rfl (by kernel_rfl) (by kernel_rfl) (isz (n := 16) (by kernel_rfl) (by kernel_rfl))) ?_
  refine seq_call (.agg (ints .i64 (lims (y * invN z % p)))) 42 #[.agg (ints .i64 (lims (y))), .agg (ints .i64 (lims (invN z)))] 11 rfl (by kernel_rfl) (by kernel_rfl) ((lMulN _ _ h_y (invN_isN _)) _) fun W6 e6 => ?_
  have x6 : Ext w W6 := Ext.tr x5 e6
  refine seq_call (.agg (ints .u8 (bytesOf (y * invN z % p)))) 40 #[.agg (ints .i64 (lims (y * invN z % p)))] 12 rfl (by kernel_rfl) (by kernel_rfl) ((lBytes _) _) fun W7 e7 => ?_
  have x7 : Ext w W7 := Ext.tr x6 e7
  refine seq_alloc (ints .u8 (List.replicate 32 0)) 23 4 rfl (by kernel_rfl) (by kernel_rfl) fun g7 W8 l7 e8 r7_8 => ?_
  have x8 : Ext w W8 := Ext.tr x7 e8
  have b7 : w.heap.size ≤ g7 := Nat.le_trans x7.size l7
  refine seq_store g7 _ (ints .u8 (bytesOf (y * invN z % p))) 23 r7_8 rfl (by kernel_rfl) (run_store_row 23 _ _ g7 23 _ _ r7_8 rfl (by kernel_rfl) (by kernel_rfl) (isz (n := 32) (by kernel_rfl) ((ints_size _ _).trans (bytes_len _))) (eqsz (n := 32) ((ints_size _ _).trans zlen) ((ints_size _ _).trans (bytes_len _))) (ints_one _ _)) fun W9 p9 r7_9 => ?_
  have x9 : Ext w W9 := Puts.ext p9 x8 b7
  refine seq_nil ?_
  refine hK6 _ _ ?_
  try clear hK6 K6
  refine wp_seq_k fun K8 hK8 => ?_
  refine wp_seq_k fun K9 hK9 => ?_
  refine region_lit ?_
  refine seq_val (.pointer (some ⟨g2, 0, none⟩)) 13 rfl (by kernel_rfl) (by kernel_rfl) ?_
  have r2_7 := (row_ext (row_ext r2_5 e6) e7)
  have r2_9 := (Puts.row p9 (row_ext (row_ext (row_ext r2_5 e6) e7) e8) (ne_of_old r2_7 l7))
  refine seq_val (.agg (ints .i64 (lims (x)))) 14 rfl (by kernel_rfl) (run_load_part 34 _ g2 0 36 _ _ _ r2_9 rfl (by kernel_rfl) (cat_part [] [ints .i64 (lims (x))] [ints .i64 (lims (y)), ints .i64 (lims (z))] 0 (by kernel_rfl)) (by kernel_rfl) (isz (n := 16) (by kernel_rfl) (by kernel_rfl))) ?_
  have r5_7 := (row_ext (row_ext r5_5 e6) e7)
  have r5_9 := (Puts.row p9 (row_ext (row_ext (row_ext r5_5 e6) e7) e8) (ne_of_old r5_7 l7))
  refine seq_val (.agg (ints .i64 (lims (invN z)))) 15 rfl (by kernel_rfl) (run_load_row 34 _ g5 34 _ _ r5_9 rfl (by kernel_rfl) (by kernel_rfl) (isz (n := 16) (by kernel_rfl) (by kernel_rfl))) ?_
  refine seq_call (.agg (ints .i64 (lims (x * invN z % p)))) 42 #[.agg (ints .i64 (lims (x))), .agg (ints .i64 (lims (invN z)))] 16 rfl (by kernel_rfl) (by kernel_rfl) ((lMulN _ _ h_x (invN_isN _)) _) fun W10 e10 => ?_
  have x10 : Ext w W10 := Ext.tr x9 e10
  refine seq_val (.int .i64 (nth (lims (x * invN z % p)) 0)) 17 rfl (by kernel_rfl) (run_index_il 34 _ _ .i64 .i64 (lims (x * invN z % p)) 0 16 3 (nth (lims (x * invN z % p)) 0) rfl (by kernel_rfl) (by kernel_rfl) (by kernel_rfl) (by kernel_rfl) (by kernel_rfl) (lims_len _) (by decide) rfl) ?_
  refine seq_val (.int .i64 ((x * invN z % p) % 2)) 18 rfl (by kernel_rfl) (run_eq (u := .int .i64 (Int.tmod ((nth (lims (x * invN z % p)) 0)) (2))) (by kernel_rfl) (congrArg (Value.int .i64) (lims_even _))) ?_
  refine seq_val (.bool true) 19 rfl (by kernel_rfl) (run_eq (u := .bool ((((x * invN z % p) % 2) == 1))) (by kernel_rfl) (congrArg Value.bool ho)) ?_
  refine seq_nil ?_
  refine hK9 _ _ ?_
  try clear hK9 K9
  refine cond_true (by kernel_rfl) ?_
  refine region_lit ?_
  refine seq_val (.pointer (some ⟨g7, 31, none⟩)) 20 rfl (by kernel_rfl) (by kernel_rfl) ?_
  have r7_10 := (row_ext r7_9 e10)
  refine seq_val (.int .u8 (nth (bytesOf (y * invN z % p)) 31)) 21 rfl (by kernel_rfl) (run_loadC1 5 _ g7 31 23 _ (.int .u8 (nth (bytesOf (y * invN z % p)) 31)) _ r7_10 rfl (by kernel_rfl) (ints_get _ _ _ (Nat.lt_of_lt_of_eq (by decide) (bytes_len _).symm)) (by kernel_rfl)) ?_
  refine seq_val (.int .u8 (nth (bytesOf (y * invN z % p)) 31 + 128)) 22 rfl (by kernel_rfl) (run_eq (u := .int .u8 (IntKind.u8.wrap ((nth (bytesOf (y * invN z % p)) 31) + 128))) (by kernel_rfl) (congrArg (Value.int .u8) (wrap8 _ (last_byte (isN_mod _))))) ?_
  refine seq_val (.pointer (some ⟨g7, 31, none⟩)) 23 rfl (by kernel_rfl) (by kernel_rfl) ?_
  refine seq_store g7 _ (ints .u8 ((bytesOf (y * invN z % p)).set 31 (nth (bytesOf (y * invN z % p)) 31 + 128))) 23 r7_10 rfl (by kernel_rfl) (run_storeI 5 _ _ g7 31 23 _ _ r7_10 rfl (by kernel_rfl) (by kernel_rfl) (by kernel_rfl) (Nat.lt_of_lt_of_eq (by decide) (bytes_len _).symm)) fun W11 p11 r7_11 => ?_
  have x11 : Ext w W11 := Puts.ext p11 x10 b7
  refine seq_nil ?_
  refine hK8 _ _ ?_
  try clear hK8 K8
  refine wp_seq_k fun K10 hK10 => ?_
  refine region_lit ?_
  refine seq_val (.agg (ints .u8 ((bytesOf (y * invN z % p)).set 31 (nth (bytesOf (y * invN z % p)) 31 + 128)))) 24 rfl (by kernel_rfl) (run_load_row 23 _ g7 23 _ _ r7_11 rfl (by kernel_rfl) (by kernel_rfl) (isz (n := 32) (by kernel_rfl) ((ints_size _ _).trans ((List.length_set ..).trans (bytes_len _))))) ?_
  have r3_3 := (row_ext r3_2 e3)
  have r3_7 := (row_ext (row_ext (Puts.row p5 (row_ext r3_3 e4) (ne_of_old r3_3 l5)) e6) e7)
  have r3_11 := (Puts.row p11 (row_ext (Puts.row p9 (row_ext (row_ext (row_ext (Puts.row p5 (row_ext (row_ext r3_2 e3) e4) (ne_of_old r3_3 l5)) e6) e7) e8) (ne_of_old r3_7 l7)) e10) (ne_of_old r3_7 l7))
  refine seq_store g3 _ (ints .u8 ((bytesOf (y * invN z % p)).set 31 (nth (bytesOf (y * invN z % p)) 31 + 128))) 23 r3_11 rfl (by kernel_rfl) (run_store_row 23 _ _ g3 23 _ _ r3_11 rfl (by kernel_rfl) (by kernel_rfl) (isz (n := 32) (by kernel_rfl) ((ints_size _ _).trans ((List.length_set ..).trans (bytes_len _)))) (eqsz (n := 32) ((ints_size _ _).trans zlen) ((ints_size _ _).trans ((List.length_set ..).trans (bytes_len _)))) (ints_one _ _)) fun W12 p12 r3_12 => ?_
  have x12 : Ext w W12 := Puts.ext p12 x11 b3
  refine seq_nil ?_
  refine hK10 _ _ ?_
  try clear hK10 K10
  refine wp_ret ?_
  exact (show bodyPost _ _ _ .ret _ _ from ret1 (.agg (ints .u8 ((bytesOf (y * invN z % p)).set 31 (nth (bytesOf (y * invN z % p)) 31 + 128)))) rfl (res_cell g3 23 _ r3_12 (by kernel_rfl) (by kernel_rfl) (isz (n := 32) (by kernel_rfl) ((ints_size _ _).trans ((List.length_set ..).trans (bytes_len _))))) ⟨rfl, x12⟩)
set_option maxHeartbeats 4000000 in
theorem rbytes_false (x y z : Int) (h_x : isN x) (h_y : isN y) (h_z : isN z) (ho : ((x * invN z % p) % 2 == 1) = false) (w : World) : Calls Tryd.prog 14 #[.agg (cat [ints .i64 (lims (x)), ints .i64 (lims (y)), ints .i64 (lims (z))])] w (Ret w (.agg (ints .u8 (bytesOf (y * invN z % p))))) := by
  refine enter 25 [(0, .agg (cat [ints .i64 (lims (x)), ints .i64 (lims (y)), ints .i64 (lims (z))]))] Tryd.func14 rfl rfl (by kernel_rfl) rfl ?_
  refine wp_seq_k fun K1 hK1 => ?_
  refine region_lit ?_
  refine seq_alloc (cat [ints .i64 (lims (x)), ints .i64 (lims (y)), ints .i64 (lims (z))]) 36 1 rfl (by kernel_rfl) (by kernel_rfl) fun g2 W1 l2 e1 r2_1 => ?_
  have x1 : Ext w W1 := Ext.tr (Rely.Ext.refl w) e1
  have b2 : w.heap.size ≤ g2 := Nat.le_trans (Rely.Ext.refl w).size l2
  refine seq_alloc (ints .u8 (List.replicate 32 0)) 23 2 rfl (by kernel_rfl) (by kernel_rfl) fun g3 W2 l3 e2 r3_2 => ?_
  have x2 : Ext w W2 := Ext.tr x1 e2
  have b3 : w.heap.size ≤ g3 := Nat.le_trans x1.size l3
  refine seq_nil ?_
  refine hK1 _ _ ?_
  try clear hK1 K1
  refine wp_seq_k fun K4 hK4 => ?_
  refine region_lit ?_
  refine seq_val (.pointer (some ⟨g2, 32, none⟩)) 5 rfl (by kernel_rfl) (by kernel_rfl) ?_
  have r2_2 := (row_ext r2_1 e2)
  refine seq_val (.agg (ints .i64 (lims (z)))) 6 rfl (by kernel_rfl) (run_load_part 34 _ g2 32 36 _ _ _ r2_2 rfl (by kernel_rfl) (cat_part [ints .i64 (lims (x)), ints .i64 (lims (y))] [ints .i64 (lims (z))] [] 32 (by kernel_rfl)) (by kernel_rfl) (isz (n := 16) (by kernel_rfl) (by kernel_rfl))) ?_
  refine seq_call (.agg (ints .i64 (lims (invN z)))) 47 #[.agg (ints .i64 (lims (z)))] 7 rfl (by kernel_rfl) (by kernel_rfl) ((lInv _ h_z) _) fun W3 e3 => ?_
  have x3 : Ext w W3 := Ext.tr x2 e3
  refine seq_alloc (ints .i64 (lims (0))) 34 3 rfl (by kernel_rfl) (by kernel_rfl) fun g5 W4 l5 e4 r5_4 => ?_
  have x4 : Ext w W4 := Ext.tr x3 e4
  have b5 : w.heap.size ≤ g5 := Nat.le_trans x3.size l5
  refine seq_store g5 _ (ints .i64 (lims (invN z))) 34 r5_4 rfl (by kernel_rfl) (run_store_row 34 _ _ g5 34 _ _ r5_4 rfl (by kernel_rfl) (by kernel_rfl) (isz (n := 16) (by kernel_rfl) (by kernel_rfl)) (eqsz (n := 16) (by kernel_rfl) (by kernel_rfl)) (by kernel_rfl)) fun W5 p5 r5_5 => ?_
  have x5 : Ext w W5 := Puts.ext p5 x4 b5
  refine seq_nil ?_
  refine hK4 _ _ ?_
  try clear hK4 K4
  refine wp_seq_k fun K6 hK6 => ?_
  refine region_lit ?_
  refine seq_val (.pointer (some ⟨g2, 16, none⟩)) 8 rfl (by kernel_rfl) (by kernel_rfl) ?_
  have r2_3 := (row_ext r2_2 e3)
  have r2_5 := (Puts.row p5 (row_ext (row_ext r2_2 e3) e4) (ne_of_old r2_3 l5))
  refine seq_val (.agg (ints .i64 (lims (y)))) 9 rfl (by kernel_rfl) (run_load_part 34 _ g2 16 36 _ _ _ r2_5 rfl (by kernel_rfl) (cat_part [ints .i64 (lims (x))] [ints .i64 (lims (y))] [ints .i64 (lims (z))] 16 (by kernel_rfl)) (by kernel_rfl) (isz (n := 16) (by kernel_rfl) (by kernel_rfl))) ?_
  refine seq_val (.agg (ints .i64 (lims (invN z)))) 10 rfl (by kernel_rfl) (run_load_row 34 _ g5 34 _ _ r5_5 rfl (by kernel_rfl) (by kernel_rfl) (isz (n := 16) (by kernel_rfl) (by kernel_rfl))) ?_
  refine seq_call (.agg (ints .i64 (lims (y * invN z % p)))) 42 #[.agg (ints .i64 (lims (y))), .agg (ints .i64 (lims (invN z)))] 11 rfl (by kernel_rfl) (by kernel_rfl) ((lMulN _ _ h_y (invN_isN _)) _) fun W6 e6 => ?_
  have x6 : Ext w W6 := Ext.tr x5 e6
  refine seq_call (.agg (ints .u8 (bytesOf (y * invN z % p)))) 40 #[.agg (ints .i64 (lims (y * invN z % p)))] 12 rfl (by kernel_rfl) (by kernel_rfl) ((lBytes _) _) fun W7 e7 => ?_
  have x7 : Ext w W7 := Ext.tr x6 e7
  refine seq_alloc (ints .u8 (List.replicate 32 0)) 23 4 rfl (by kernel_rfl) (by kernel_rfl) fun g7 W8 l7 e8 r7_8 => ?_
  have x8 : Ext w W8 := Ext.tr x7 e8
  have b7 : w.heap.size ≤ g7 := Nat.le_trans x7.size l7
  refine seq_store g7 _ (ints .u8 (bytesOf (y * invN z % p))) 23 r7_8 rfl (by kernel_rfl) (run_store_row 23 _ _ g7 23 _ _ r7_8 rfl (by kernel_rfl) (by kernel_rfl) (isz (n := 32) (by kernel_rfl) ((ints_size _ _).trans (bytes_len _))) (eqsz (n := 32) ((ints_size _ _).trans zlen) ((ints_size _ _).trans (bytes_len _))) (ints_one _ _)) fun W9 p9 r7_9 => ?_
  have x9 : Ext w W9 := Puts.ext p9 x8 b7
  refine seq_nil ?_
  refine hK6 _ _ ?_
  try clear hK6 K6
  refine wp_seq_k fun K8 hK8 => ?_
  refine wp_seq_k fun K9 hK9 => ?_
  refine region_lit ?_
  refine seq_val (.pointer (some ⟨g2, 0, none⟩)) 13 rfl (by kernel_rfl) (by kernel_rfl) ?_
  have r2_7 := (row_ext (row_ext r2_5 e6) e7)
  have r2_9 := (Puts.row p9 (row_ext (row_ext (row_ext r2_5 e6) e7) e8) (ne_of_old r2_7 l7))
  refine seq_val (.agg (ints .i64 (lims (x)))) 14 rfl (by kernel_rfl) (run_load_part 34 _ g2 0 36 _ _ _ r2_9 rfl (by kernel_rfl) (cat_part [] [ints .i64 (lims (x))] [ints .i64 (lims (y)), ints .i64 (lims (z))] 0 (by kernel_rfl)) (by kernel_rfl) (isz (n := 16) (by kernel_rfl) (by kernel_rfl))) ?_
  have r5_7 := (row_ext (row_ext r5_5 e6) e7)
  have r5_9 := (Puts.row p9 (row_ext (row_ext (row_ext r5_5 e6) e7) e8) (ne_of_old r5_7 l7))
  refine seq_val (.agg (ints .i64 (lims (invN z)))) 15 rfl (by kernel_rfl) (run_load_row 34 _ g5 34 _ _ r5_9 rfl (by kernel_rfl) (by kernel_rfl) (isz (n := 16) (by kernel_rfl) (by kernel_rfl))) ?_
  refine seq_call (.agg (ints .i64 (lims (x * invN z % p)))) 42 #[.agg (ints .i64 (lims (x))), .agg (ints .i64 (lims (invN z)))] 16 rfl (by kernel_rfl) (by kernel_rfl) ((lMulN _ _ h_x (invN_isN _)) _) fun W10 e10 => ?_
  have x10 : Ext w W10 := Ext.tr x9 e10
  refine seq_val (.int .i64 (nth (lims (x * invN z % p)) 0)) 17 rfl (by kernel_rfl) (run_index_il 34 _ _ .i64 .i64 (lims (x * invN z % p)) 0 16 3 (nth (lims (x * invN z % p)) 0) rfl (by kernel_rfl) (by kernel_rfl) (by kernel_rfl) (by kernel_rfl) (by kernel_rfl) (lims_len _) (by decide) rfl) ?_
  refine seq_val (.int .i64 ((x * invN z % p) % 2)) 18 rfl (by kernel_rfl) (run_eq (u := .int .i64 (Int.tmod ((nth (lims (x * invN z % p)) 0)) (2))) (by kernel_rfl) (congrArg (Value.int .i64) (lims_even _))) ?_
  refine seq_val (.bool false) 19 rfl (by kernel_rfl) (run_eq (u := .bool ((((x * invN z % p) % 2) == 1))) (by kernel_rfl) (congrArg Value.bool ho)) ?_
  refine seq_nil ?_
  refine hK9 _ _ ?_
  try clear hK9 K9
  refine cond_false (by kernel_rfl) ?_
  refine wp_skip ?_
  refine hK8 _ _ ?_
  try clear hK8 K8
  refine wp_seq_k fun K10 hK10 => ?_
  refine region_lit ?_
  have r7_10 := (row_ext r7_9 e10)
  refine seq_val (.agg (ints .u8 (bytesOf (y * invN z % p)))) 24 rfl (by kernel_rfl) (run_load_row 23 _ g7 23 _ _ r7_10 rfl (by kernel_rfl) (by kernel_rfl) (isz (n := 32) (by kernel_rfl) ((ints_size _ _).trans (bytes_len _)))) ?_
  have r3_3 := (row_ext r3_2 e3)
  have r3_7 := (row_ext (row_ext (Puts.row p5 (row_ext r3_3 e4) (ne_of_old r3_3 l5)) e6) e7)
  have r3_10 := (row_ext (Puts.row p9 (row_ext (row_ext (row_ext (Puts.row p5 (row_ext (row_ext r3_2 e3) e4) (ne_of_old r3_3 l5)) e6) e7) e8) (ne_of_old r3_7 l7)) e10)
  refine seq_store g3 _ (ints .u8 (bytesOf (y * invN z % p))) 23 r3_10 rfl (by kernel_rfl) (run_store_row 23 _ _ g3 23 _ _ r3_10 rfl (by kernel_rfl) (by kernel_rfl) (isz (n := 32) (by kernel_rfl) ((ints_size _ _).trans (bytes_len _))) (eqsz (n := 32) ((ints_size _ _).trans zlen) ((ints_size _ _).trans (bytes_len _))) (ints_one _ _)) fun W11 p11 r3_11 => ?_
  have x11 : Ext w W11 := Puts.ext p11 x10 b3
  refine seq_nil ?_
  refine hK10 _ _ ?_
  try clear hK10 K10
  refine wp_ret ?_
  exact (show bodyPost _ _ _ .ret _ _ from ret1 (.agg (ints .u8 (bytesOf (y * invN z % p)))) rfl (res_cell g3 23 _ r3_11 (by kernel_rfl) (by kernel_rfl) (isz (n := 32) (by kernel_rfl) ((ints_size _ _).trans (bytes_len _)))) ⟨rfl, x11⟩)
theorem rbytesC (x y z : Int) (h_x : isN x) (h_y : isN y) (h_z : isN z) (w : World) : Calls Tryd.prog 14 #[.agg (cat [ints .i64 (lims x), ints .i64 (lims y), ints .i64 (lims z)])] w (Ret w (.agg (ints .u8 (enc (x * invN z % p) (y * invN z % p))))) := by
  unfold enc
  cases ho : ((x * invN z % p) % 2 == 1)
  · simp only [Bool.false_eq_true, if_false]; exact rbytes_false x y z h_x h_y h_z ho w
  · simp only [if_true]; exact rbytes_true x y z h_x h_y h_z ho w
theorem equal_b (a b : Int) (r : Bool) (ha : isN a) (hb : isN b) (h : (a == b) = r) (w : World) : Calls Tryd.prog 53 #[num a, num b] w (Ret w (.bool r)) := by
  have := equal a b ha hb w
  rw [h] at this
  exact this
set_option maxHeartbeats 4000000 in
theorem pequal_true (x l y m : Int) (h_x : isN x) (h_l : isN l) (h_y : isN y) (h_m : isN m) (he : (x == y) = true) (w : World) : Calls Tryd.prog 19 #[.agg (cat [numA (x), numA (l)]), .agg (cat [numA (y), numA (m)])] w (Ret w (.bool (l == m))) := by
  refine enter 17 [(0, .agg (cat [numA (x), numA (l)])), (1, .agg (cat [numA (y), numA (m)]))] Tryd.func19 rfl rfl (by kernel_rfl) rfl ?_
  refine wp_seq_k fun K1 hK1 => ?_
  refine region_lit ?_
  refine seq_alloc (cat [numA (x), numA (l)]) 30 2 rfl (by kernel_rfl) (by kernel_rfl) fun g2 W1 l2 e1 r2_1 => ?_
  have x1 : Ext w W1 := Ext.tr (Rely.Ext.refl w) e1
  have b2 : w.heap.size ≤ g2 := Nat.le_trans (Rely.Ext.refl w).size l2
  refine seq_alloc (cat [numA (y), numA (m)]) 30 3 rfl (by kernel_rfl) (by kernel_rfl) fun g3 W2 l3 e2 r3_2 => ?_
  have x2 : Ext w W2 := Ext.tr x1 e2
  have b3 : w.heap.size ≤ g3 := Nat.le_trans x1.size l3
  refine seq_val (.bool false) 4 rfl (by kernel_rfl) (by kernel_rfl) ?_
  refine seq_nil ?_
  refine hK1 _ _ ?_
  try clear hK1 K1
  refine wp_seq_k fun K4 hK4 => ?_
  refine region_lit ?_
  refine seq_val (.pointer (some ⟨g2, 0, none⟩)) 5 rfl (by kernel_rfl) (by kernel_rfl) ?_
  have r2_2 := (row_ext r2_1 e2)
  refine seq_val (.agg (numA (x))) 6 rfl (by kernel_rfl) (run_load_part 28 _ g2 0 30 _ _ _ r2_2 rfl (by kernel_rfl) (cat_part [] [numA (x)] [numA (l)] 0 (by kernel_rfl)) (by kernel_rfl) (isz (n := 4) (by kernel_rfl) (by kernel_rfl))) ?_
  refine seq_val (.pointer (some ⟨g3, 0, none⟩)) 7 rfl (by kernel_rfl) (by kernel_rfl) ?_
  refine seq_val (.agg (numA (y))) 8 rfl (by kernel_rfl) (run_load_part 28 _ g3 0 30 _ _ _ r3_2 rfl (by kernel_rfl) (cat_part [] [numA (y)] [numA (m)] 0 (by kernel_rfl)) (by kernel_rfl) (isz (n := 4) (by kernel_rfl) (by kernel_rfl))) ?_
  refine seq_call (.bool true) 53 #[.agg (numA (x)), .agg (numA (y))] 9 rfl (by kernel_rfl) (by kernel_rfl) ((equal_b x y true h_x h_y he) _) fun W3 e3 => ?_
  have x3 : Ext w W3 := Ext.tr x2 e3
  refine seq_val (.bool true) 10 rfl (by kernel_rfl) (by kernel_rfl) ?_
  refine seq_val (.pointer (some ⟨g2, 4, none⟩)) 11 rfl (by kernel_rfl) (by kernel_rfl) ?_
  have r2_3 := (row_ext r2_2 e3)
  refine seq_val (.agg (numA (l))) 12 rfl (by kernel_rfl) (run_load_part 28 _ g2 4 30 _ _ _ r2_3 rfl (by kernel_rfl) (cat_part [numA (x)] [numA (l)] [] 4 (by kernel_rfl)) (by kernel_rfl) (isz (n := 4) (by kernel_rfl) (by kernel_rfl))) ?_
  refine seq_val (.pointer (some ⟨g3, 4, none⟩)) 13 rfl (by kernel_rfl) (by kernel_rfl) ?_
  have r3_3 := (row_ext r3_2 e3)
  refine seq_val (.agg (numA (m))) 14 rfl (by kernel_rfl) (run_load_part 28 _ g3 4 30 _ _ _ r3_3 rfl (by kernel_rfl) (cat_part [numA (y)] [numA (m)] [] 4 (by kernel_rfl)) (by kernel_rfl) (isz (n := 4) (by kernel_rfl) (by kernel_rfl))) ?_
  refine seq_call (.bool (l == m)) 53 #[.agg (numA (l)), .agg (numA (m))] 15 rfl (by kernel_rfl) (by kernel_rfl) ((equal l m h_l h_m) _) fun W4 e4 => ?_
  have x4 : Ext w W4 := Ext.tr x3 e4
  refine seq_val (.bool (l == m)) 16 rfl (by kernel_rfl) (by kernel_rfl) ?_
  refine seq_val (.bool (l == m)) 4 rfl (by kernel_rfl) (by kernel_rfl) ?_
  refine seq_nil ?_
  refine hK4 _ _ ?_
  try clear hK4 K4
  refine wp_ret ?_
  exact (show bodyPost _ _ _ .ret _ _ from ret1 (.bool (l == m)) rfl (res_tmp (by kernel_rfl)) ⟨rfl, x4⟩)
set_option maxHeartbeats 4000000 in
theorem pequal_false (x l y m : Int) (h_x : isN x) (h_l : isN l) (h_y : isN y) (h_m : isN m) (he : (x == y) = false) (w : World) : Calls Tryd.prog 19 #[.agg (cat [numA (x), numA (l)]), .agg (cat [numA (y), numA (m)])] w (Ret w (.bool false)) := by
  refine enter 17 [(0, .agg (cat [numA (x), numA (l)])), (1, .agg (cat [numA (y), numA (m)]))] Tryd.func19 rfl rfl (by kernel_rfl) rfl ?_
  refine wp_seq_k fun K1 hK1 => ?_
  refine region_lit ?_
  refine seq_alloc (cat [numA (x), numA (l)]) 30 2 rfl (by kernel_rfl) (by kernel_rfl) fun g2 W1 l2 e1 r2_1 => ?_
  have x1 : Ext w W1 := Ext.tr (Rely.Ext.refl w) e1
  have b2 : w.heap.size ≤ g2 := Nat.le_trans (Rely.Ext.refl w).size l2
  refine seq_alloc (cat [numA (y), numA (m)]) 30 3 rfl (by kernel_rfl) (by kernel_rfl) fun g3 W2 l3 e2 r3_2 => ?_
  have x2 : Ext w W2 := Ext.tr x1 e2
  have b3 : w.heap.size ≤ g3 := Nat.le_trans x1.size l3
  refine seq_val (.bool false) 4 rfl (by kernel_rfl) (by kernel_rfl) ?_
  refine seq_nil ?_
  refine hK1 _ _ ?_
  try clear hK1 K1
  refine wp_seq_k fun K4 hK4 => ?_
  refine region_lit ?_
  refine seq_val (.pointer (some ⟨g2, 0, none⟩)) 5 rfl (by kernel_rfl) (by kernel_rfl) ?_
  have r2_2 := (row_ext r2_1 e2)
  refine seq_val (.agg (numA (x))) 6 rfl (by kernel_rfl) (run_load_part 28 _ g2 0 30 _ _ _ r2_2 rfl (by kernel_rfl) (cat_part [] [numA (x)] [numA (l)] 0 (by kernel_rfl)) (by kernel_rfl) (isz (n := 4) (by kernel_rfl) (by kernel_rfl))) ?_
  refine seq_val (.pointer (some ⟨g3, 0, none⟩)) 7 rfl (by kernel_rfl) (by kernel_rfl) ?_
  refine seq_val (.agg (numA (y))) 8 rfl (by kernel_rfl) (run_load_part 28 _ g3 0 30 _ _ _ r3_2 rfl (by kernel_rfl) (cat_part [] [numA (y)] [numA (m)] 0 (by kernel_rfl)) (by kernel_rfl) (isz (n := 4) (by kernel_rfl) (by kernel_rfl))) ?_
  refine seq_call (.bool false) 53 #[.agg (numA (x)), .agg (numA (y))] 9 rfl (by kernel_rfl) (by kernel_rfl) ((equal_b x y false h_x h_y he) _) fun W3 e3 => ?_
  have x3 : Ext w W3 := Ext.tr x2 e3
  refine seq_val (.bool false) 10 rfl (by kernel_rfl) (by kernel_rfl) ?_
  refine seq_skip 11 rfl (by kernel_rfl) ?_
  refine seq_skip 12 rfl (by kernel_rfl) ?_
  refine seq_skip 13 rfl (by kernel_rfl) ?_
  refine seq_skip 14 rfl (by kernel_rfl) ?_
  refine seq_skip 15 rfl (by kernel_rfl) ?_
  refine seq_val (.bool false) 16 rfl (by kernel_rfl) (by kernel_rfl) ?_
  refine seq_val (.bool false) 4 rfl (by kernel_rfl) (by kernel_rfl) ?_
  refine seq_nil ?_
  refine hK4 _ _ ?_
  try clear hK4 K4
  refine wp_ret ?_
  exact (show bodyPost _ _ _ .ret _ _ from ret1 (.bool false) rfl (res_tmp (by kernel_rfl)) ⟨rfl, x3⟩)
theorem pequalC (x l y m : Int) (h_x : isN x) (h_l : isN l) (h_y : isN y) (h_m : isN m) (w : World) : Calls Tryd.prog 19 #[.agg (cat [numA x, numA l]), .agg (cat [numA y, numA m])] w (Ret w (.bool (x == y && l == m))) := by
  cases he : (x == y)
  · exact pequal_false x l y m h_x h_l h_y h_m he w
  · exact pequal_true x l y m h_x h_l h_y h_m he w

end Go.Proofs.YtaojnmjmmfdfjaaDoor.Field
