/- The walk of the law LadderThree. -/
import Derived.Test.YtaojnmjmmfdfjaaAutoT
import Derived.Test.YtaojnmjmmfdfjaaClamp
import Derived.Test.YtaojnmjmmfdfjaaLadFn
import Derived.Test.YtaojnmjmmfdfjaaLadAll
namespace Go.Proofs.Ytaojnmjmmfdfjaa.Field
open Go Go.RowKit
open Go.Proofs.Ytaojnmjmmfdfjaa.Rely Go.Proofs.Ytaojnmjmmfdfjaa.Auto Go.Proofs.Ytaojnmjmmfdfjaa.Ladder
set_option linter.unusedVariables false

set_option maxHeartbeats 2000000 in
theorem threeLaw (xs ys zs : List Int) (hx : xs.length = 32) (hy : ys.length = 32) (hz : zs.length = 32) (hb : AreBytes xs) (hc : AreBytes ys) (hd : AreBytes zs) (w : World) : Calls Try.prog 17 #[.agg (ints .u8 xs), .agg (ints .u8 ys), .agg (ints .u8 zs)] w fun e w' => e = .returned (.bool true) ∧ Below w.heap.size w w' := by
  have h1 := three_eq hx hb hy hc hz hd
  have h2 := three_eq hy hc hx hb hz hd
  refine enter 59 [(0, .agg (ints .u8 (xs))), (1, .agg (ints .u8 (ys))), (2, .agg (ints .u8 (zs)))] Try.func17 rfl rfl (by kernel_rfl) rfl ?_
  refine wp_seq_k fun K1 hK1 => ?_
  refine region_lit ?_
  refine seq_alloc (ints .u8 (xs)) 23 3 rfl (by kernel_rfl) (by kernel_rfl) fun g2 W1 l2 e1 r2_1 => ?_
  have x1 : Ext w W1 := Ext.tr (Rely.Ext.refl w) e1
  have b2 : w.heap.size ≤ g2 := Nat.le_trans (Rely.Ext.refl w).size l2
  refine seq_alloc (ints .u8 (ys)) 23 4 rfl (by kernel_rfl) (by kernel_rfl) fun g3 W2 l3 e2 r3_2 => ?_
  have x2 : Ext w W2 := Ext.tr x1 e2
  have b3 : w.heap.size ≤ g3 := Nat.le_trans x1.size l3
  refine seq_alloc (ints .u8 (zs)) 23 5 rfl (by kernel_rfl) (by kernel_rfl) fun g4 W3 l4 e3 r4_3 => ?_
  have x3 : Ext w W3 := Ext.tr x2 e3
  have b4 : w.heap.size ≤ g4 := Nat.le_trans x2.size l4
  refine seq_val (.bool false) 6 rfl (by kernel_rfl) (by kernel_rfl) ?_
  refine seq_nil ?_
  refine hK1 _ _ ?_
  try clear hK1 K1
  refine wp_seq_k fun K5 hK5 => ?_
  refine wp_seq_k fun K6 hK6 => ?_
  refine region_lit ?_
  refine seq_call (.bool true) 42 #[] 14 rfl (by kernel_rfl) (by kernel_rfl) (alive6 _) fun W4 e4 => ?_
  have x4 : Ext w W4 := Ext.tr x3 e4
  refine seq_val (.bool false) 15 rfl (by kernel_rfl) (by kernel_rfl) ?_
  refine seq_nil ?_
  refine hK6 _ _ ?_
  try clear hK6 K6
  refine cond_false (by kernel_rfl) ?_
  refine wp_skip ?_
  refine hK5 _ _ ?_
  try clear hK5 K5
  refine wp_seq_k fun K7 hK7 => ?_
  refine region_lit ?_
  have r4_4 := (row_ext r4_3 e4)
  refine seq_val (.agg (ints .u8 (zs))) 16 rfl (by kernel_rfl) (run_load_row 23 _ g4 23 _ _ r4_4 rfl (by kernel_rfl) (by kernel_rfl) (isz (n := 32) (by kernel_rfl) ((ints_size _ _).trans hz))) ?_
  refine seq_call (.agg (ints .u8 (pubL zs))) 43 #[.agg (ints .u8 (zs))] 17 rfl (by kernel_rfl) (by kernel_rfl) ((public_ zs hz hd) _) fun W5 e5 => ?_
  have x5 : Ext w W5 := Ext.tr x4 e5
  refine seq_alloc (ints .u8 (List.replicate 32 0)) 23 7 rfl (by kernel_rfl) (by kernel_rfl) fun g8 W6 l8 e6 r8_6 => ?_
  have x6 : Ext w W6 := Ext.tr x5 e6
  have b8 : w.heap.size ≤ g8 := Nat.le_trans x5.size l8
  refine seq_store g8 _ (ints .u8 (pubL zs)) 23 r8_6 rfl (by kernel_rfl) (run_store_row 23 _ _ g8 23 _ _ r8_6 rfl (by kernel_rfl) (by kernel_rfl) (isz (n := 32) (by kernel_rfl) ((ints_size _ _).trans (pubL_len zs))) (eqsz (n := 32) ((ints_size _ _).trans zlen) ((ints_size _ _).trans (pubL_len zs))) (ints_one _ _)) fun W7 p7 r8_7 => ?_
  have x7 : Ext w W7 := Puts.ext p7 x6 b8
  refine seq_nil ?_
  refine hK7 _ _ ?_
  try clear hK7 K7
  refine wp_seq_k fun K9 hK9 => ?_
  refine region_lit ?_
  have r2_5 := (row_ext (row_ext (row_ext (row_ext r2_1 e2) e3) e4) e5)
  have r2_7 := (Puts.row p7 (row_ext (row_ext (row_ext (row_ext (row_ext r2_1 e2) e3) e4) e5) e6) (ne_of_old r2_5 l8))
  refine seq_val (.agg (ints .u8 (xs))) 19 rfl (by kernel_rfl) (run_load_row 23 _ g2 23 _ _ r2_7 rfl (by kernel_rfl) (by kernel_rfl) (isz (n := 32) (by kernel_rfl) ((ints_size _ _).trans hx))) ?_
  refine seq_val (.agg (ints .u8 (pubL zs))) 20 rfl (by kernel_rfl) (run_load_row 23 _ g8 23 _ _ r8_7 rfl (by kernel_rfl) (by kernel_rfl) (isz (n := 32) (by kernel_rfl) ((ints_size _ _).trans (pubL_len zs)))) ?_
  refine seq_call (.tuple #[.agg (ints .u8 (bytesOf (agN xs (pubL zs)))), .nilIface]) 45 #[.agg (ints .u8 (xs)), .agg (ints .u8 (pubL zs))] 21 rfl (by kernel_rfl) (by kernel_rfl) ((agree_0 xs (pubL zs) hx hb (pubL_len zs) (bytesOf_areBytes _) h1.1) _) fun W8 e8 => ?_
  have x8 : Ext w W8 := Ext.tr x7 e8
  refine seq_val (.tuple #[.agg (ints .u8 (bytesOf (agN xs (pubL zs)))), .nilIface]) 18 rfl (by kernel_rfl) (by kernel_rfl) ?_
  refine seq_val (.agg (ints .u8 (bytesOf (agN xs (pubL zs))))) 22 rfl (by kernel_rfl) (by kernel_rfl) ?_
  refine seq_val (.nilIface) 23 rfl (by kernel_rfl) (by kernel_rfl) ?_
  refine seq_alloc (ints .u8 (List.replicate 32 0)) 23 8 rfl (by kernel_rfl) (by kernel_rfl) fun g10 W9 l10 e9 r10_9 => ?_
  have x9 : Ext w W9 := Ext.tr x8 e9
  have b10 : w.heap.size ≤ g10 := Nat.le_trans x8.size l10
  refine seq_store g10 _ (ints .u8 (bytesOf (agN xs (pubL zs)))) 23 r10_9 rfl (by kernel_rfl) (run_store_row 23 _ _ g10 23 _ _ r10_9 rfl (by kernel_rfl) (by kernel_rfl) (isz (n := 32) (by kernel_rfl) ((ints_size _ _).trans (bytesOf_len (agN xs (pubL zs))))) (eqsz (n := 32) ((ints_size _ _).trans zlen) ((ints_size _ _).trans (bytesOf_len (agN xs (pubL zs))))) (ints_one _ _)) fun W10 p10 r10_10 => ?_
  have x10 : Ext w W10 := Puts.ext p10 x9 b10
  refine seq_val (.nilIface) 9 rfl (by kernel_rfl) (by kernel_rfl) ?_
  refine seq_nil ?_
  refine hK9 _ _ ?_
  try clear hK9 K9
  refine wp_seq_k fun K11 hK11 => ?_
  refine region_lit ?_
  have r3_5 := (row_ext (row_ext (row_ext r3_2 e3) e4) e5)
  have r3_8 := (row_ext (Puts.row p7 (row_ext r3_5 e6) (ne_of_old r3_5 l8)) e8)
  have r3_10 := (Puts.row p10 (row_ext (row_ext (Puts.row p7 (row_ext (row_ext (row_ext (row_ext r3_2 e3) e4) e5) e6) (ne_of_old r3_5 l8)) e8) e9) (ne_of_old r3_8 l10))
  refine seq_val (.agg (ints .u8 (ys))) 25 rfl (by kernel_rfl) (run_load_row 23 _ g3 23 _ _ r3_10 rfl (by kernel_rfl) (by kernel_rfl) (isz (n := 32) (by kernel_rfl) ((ints_size _ _).trans hy))) ?_
  have r8_8 := (row_ext r8_7 e8)
  have r8_10 := (Puts.row p10 (row_ext (row_ext r8_7 e8) e9) (ne_of_old r8_8 l10))
  refine seq_val (.agg (ints .u8 (pubL zs))) 26 rfl (by kernel_rfl) (run_load_row 23 _ g8 23 _ _ r8_10 rfl (by kernel_rfl) (by kernel_rfl) (isz (n := 32) (by kernel_rfl) ((ints_size _ _).trans (pubL_len zs)))) ?_
  refine seq_call (.tuple #[.agg (ints .u8 (bytesOf (agN ys (pubL zs)))), .nilIface]) 45 #[.agg (ints .u8 (ys)), .agg (ints .u8 (pubL zs))] 27 rfl (by kernel_rfl) (by kernel_rfl) ((agree_0 ys (pubL zs) hy hc (pubL_len zs) (bytesOf_areBytes _) h1.2.1) _) fun W11 e11 => ?_
  have x11 : Ext w W11 := Ext.tr x10 e11
  refine seq_val (.tuple #[.agg (ints .u8 (bytesOf (agN ys (pubL zs)))), .nilIface]) 24 rfl (by kernel_rfl) (by kernel_rfl) ?_
  refine seq_val (.agg (ints .u8 (bytesOf (agN ys (pubL zs))))) 28 rfl (by kernel_rfl) (by kernel_rfl) ?_
  refine seq_val (.nilIface) 29 rfl (by kernel_rfl) (by kernel_rfl) ?_
  refine seq_alloc (ints .u8 (List.replicate 32 0)) 23 10 rfl (by kernel_rfl) (by kernel_rfl) fun g12 W12 l12 e12 r12_12 => ?_
  have x12 : Ext w W12 := Ext.tr x11 e12
  have b12 : w.heap.size ≤ g12 := Nat.le_trans x11.size l12
  refine seq_store g12 _ (ints .u8 (bytesOf (agN ys (pubL zs)))) 23 r12_12 rfl (by kernel_rfl) (run_store_row 23 _ _ g12 23 _ _ r12_12 rfl (by kernel_rfl) (by kernel_rfl) (isz (n := 32) (by kernel_rfl) ((ints_size _ _).trans (bytesOf_len (agN ys (pubL zs))))) (eqsz (n := 32) ((ints_size _ _).trans zlen) ((ints_size _ _).trans (bytesOf_len (agN ys (pubL zs))))) (ints_one _ _)) fun W13 p13 r12_13 => ?_
  have x13 : Ext w W13 := Puts.ext p13 x12 b12
  refine seq_val (.nilIface) 11 rfl (by kernel_rfl) (by kernel_rfl) ?_
  refine seq_nil ?_
  refine hK11 _ _ ?_
  try clear hK11 K11
  refine wp_seq_k fun K13 hK13 => ?_
  refine wp_seq_k fun K14 hK14 => ?_
  refine region_lit ?_
  refine seq_val (.nilIface) 30 rfl (by kernel_rfl) (by kernel_rfl) ?_
  refine seq_val (.bool false) 31 rfl (by kernel_rfl) (by kernel_rfl) ?_
  refine seq_val (.bool false) 32 rfl (by kernel_rfl) (by kernel_rfl) ?_
  refine seq_val (.nilIface) 33 rfl (by kernel_rfl) (by kernel_rfl) ?_
  refine seq_val (.bool false) 34 rfl (by kernel_rfl) (by kernel_rfl) ?_
  refine seq_val (.bool false) 35 rfl (by kernel_rfl) (by kernel_rfl) ?_
  refine seq_nil ?_
  refine hK14 _ _ ?_
  try clear hK14 K14
  refine cond_false (by kernel_rfl) ?_
  refine wp_skip ?_
  refine hK13 _ _ ?_
  try clear hK13 K13
  refine wp_seq_k fun K15 hK15 => ?_
  refine region_lit ?_
  have r3_11 := (row_ext r3_10 e11)
  have r3_13 := (Puts.row p13 (row_ext (row_ext r3_10 e11) e12) (ne_of_old r3_11 l12))
  refine seq_val (.agg (ints .u8 (ys))) 37 rfl (by kernel_rfl) (run_load_row 23 _ g3 23 _ _ r3_13 rfl (by kernel_rfl) (by kernel_rfl) (isz (n := 32) (by kernel_rfl) ((ints_size _ _).trans hy))) ?_
  have r10_11 := (row_ext r10_10 e11)
  have r10_13 := (Puts.row p13 (row_ext (row_ext r10_10 e11) e12) (ne_of_old r10_11 l12))
  refine seq_val (.agg (ints .u8 (bytesOf (agN xs (pubL zs))))) 38 rfl (by kernel_rfl) (run_load_row 23 _ g10 23 _ _ r10_13 rfl (by kernel_rfl) (by kernel_rfl) (isz (n := 32) (by kernel_rfl) ((ints_size _ _).trans (bytesOf_len (agN xs (pubL zs)))))) ?_
  refine seq_call (.tuple #[.agg (ints .u8 (bytesOf (agN ys (bytesOf (agN xs (pubL zs)))))), .nilIface]) 45 #[.agg (ints .u8 (ys)), .agg (ints .u8 (bytesOf (agN xs (pubL zs))))] 39 rfl (by kernel_rfl) (by kernel_rfl) ((agree_0 ys (bytesOf (agN xs (pubL zs))) hy hc (bytesOf_len _) (bytesOf_areBytes _) h1.2.2.2) _) fun W14 e14 => ?_
  have x14 : Ext w W14 := Ext.tr x13 e14
  refine seq_val (.tuple #[.agg (ints .u8 (bytesOf (agN ys (bytesOf (agN xs (pubL zs)))))), .nilIface]) 36 rfl (by kernel_rfl) (by kernel_rfl) ?_
  refine seq_val (.agg (ints .u8 (bytesOf (agN ys (bytesOf (agN xs (pubL zs))))))) 40 rfl (by kernel_rfl) (by kernel_rfl) ?_
  refine seq_val (.nilIface) 41 rfl (by kernel_rfl) (by kernel_rfl) ?_
  refine seq_alloc (ints .u8 (List.replicate 32 0)) 23 12 rfl (by kernel_rfl) (by kernel_rfl) fun g16 W15 l16 e15 r16_15 => ?_
  have x15 : Ext w W15 := Ext.tr x14 e15
  have b16 : w.heap.size ≤ g16 := Nat.le_trans x14.size l16
  refine seq_store g16 _ (ints .u8 (bytesOf (agN ys (bytesOf (agN xs (pubL zs)))))) 23 r16_15 rfl (by kernel_rfl) (run_store_row 23 _ _ g16 23 _ _ r16_15 rfl (by kernel_rfl) (by kernel_rfl) (isz (n := 32) (by kernel_rfl) ((ints_size _ _).trans (bytesOf_len (agN ys (bytesOf (agN xs (pubL zs))))))) (eqsz (n := 32) ((ints_size _ _).trans zlen) ((ints_size _ _).trans (bytesOf_len (agN ys (bytesOf (agN xs (pubL zs))))))) (ints_one _ _)) fun W16 p16 r16_16 => ?_
  have x16 : Ext w W16 := Puts.ext p16 x15 b16
  refine seq_val (.nilIface) 9 rfl (by kernel_rfl) (by kernel_rfl) ?_
  refine seq_nil ?_
  refine hK15 _ _ ?_
  try clear hK15 K15
  refine wp_seq_k fun K17 hK17 => ?_
  refine region_lit ?_
  have r2_8 := (row_ext r2_7 e8)
  have r2_11 := (row_ext (Puts.row p10 (row_ext r2_8 e9) (ne_of_old r2_8 l10)) e11)
  have r2_14 := (row_ext (Puts.row p13 (row_ext r2_11 e12) (ne_of_old r2_11 l12)) e14)
  have r2_16 := (Puts.row p16 (row_ext (row_ext (Puts.row p13 (row_ext (row_ext (Puts.row p10 (row_ext (row_ext r2_7 e8) e9) (ne_of_old r2_8 l10)) e11) e12) (ne_of_old r2_11 l12)) e14) e15) (ne_of_old r2_14 l16))
  refine seq_val (.agg (ints .u8 (xs))) 43 rfl (by kernel_rfl) (run_load_row 23 _ g2 23 _ _ r2_16 rfl (by kernel_rfl) (by kernel_rfl) (isz (n := 32) (by kernel_rfl) ((ints_size _ _).trans hx))) ?_
  have r12_14 := (row_ext r12_13 e14)
  have r12_16 := (Puts.row p16 (row_ext (row_ext r12_13 e14) e15) (ne_of_old r12_14 l16))
  refine seq_val (.agg (ints .u8 (bytesOf (agN ys (pubL zs))))) 44 rfl (by kernel_rfl) (run_load_row 23 _ g12 23 _ _ r12_16 rfl (by kernel_rfl) (by kernel_rfl) (isz (n := 32) (by kernel_rfl) ((ints_size _ _).trans (bytesOf_len (agN ys (pubL zs)))))) ?_
  refine seq_call (.tuple #[.agg (ints .u8 (bytesOf (agN xs (bytesOf (agN ys (pubL zs)))))), .nilIface]) 45 #[.agg (ints .u8 (xs)), .agg (ints .u8 (bytesOf (agN ys (pubL zs))))] 45 rfl (by kernel_rfl) (by kernel_rfl) ((agree_0 xs (bytesOf (agN ys (pubL zs))) hx hb (bytesOf_len _) (bytesOf_areBytes _) h2.2.2.2) _) fun W17 e17 => ?_
  have x17 : Ext w W17 := Ext.tr x16 e17
  refine seq_val (.tuple #[.agg (ints .u8 (bytesOf (agN xs (bytesOf (agN ys (pubL zs)))))), .nilIface]) 42 rfl (by kernel_rfl) (by kernel_rfl) ?_
  refine seq_val (.agg (ints .u8 (bytesOf (agN xs (bytesOf (agN ys (pubL zs))))))) 46 rfl (by kernel_rfl) (by kernel_rfl) ?_
  refine seq_val (.nilIface) 47 rfl (by kernel_rfl) (by kernel_rfl) ?_
  refine seq_alloc (ints .u8 (List.replicate 32 0)) 23 13 rfl (by kernel_rfl) (by kernel_rfl) fun g18 W18 l18 e18 r18_18 => ?_
  have x18 : Ext w W18 := Ext.tr x17 e18
  have b18 : w.heap.size ≤ g18 := Nat.le_trans x17.size l18
  refine seq_store g18 _ (ints .u8 (bytesOf (agN xs (bytesOf (agN ys (pubL zs)))))) 23 r18_18 rfl (by kernel_rfl) (run_store_row 23 _ _ g18 23 _ _ r18_18 rfl (by kernel_rfl) (by kernel_rfl) (isz (n := 32) (by kernel_rfl) ((ints_size _ _).trans (bytesOf_len (agN xs (bytesOf (agN ys (pubL zs))))))) (eqsz (n := 32) ((ints_size _ _).trans zlen) ((ints_size _ _).trans (bytesOf_len (agN xs (bytesOf (agN ys (pubL zs))))))) (ints_one _ _)) fun W19 p19 r18_19 => ?_
  have x19 : Ext w W19 := Puts.ext p19 x18 b18
  refine seq_val (.nilIface) 11 rfl (by kernel_rfl) (by kernel_rfl) ?_
  refine seq_nil ?_
  refine hK17 _ _ ?_
  try clear hK17 K17
  refine wp_seq_k fun K19 hK19 => ?_
  refine region_lit ?_
  refine seq_val (.nilIface) 48 rfl (by kernel_rfl) (by kernel_rfl) ?_
  refine seq_val (.bool true) 49 rfl (by kernel_rfl) (by kernel_rfl) ?_
  refine seq_val (.bool true) 50 rfl (by kernel_rfl) (by kernel_rfl) ?_
  refine seq_val (.nilIface) 51 rfl (by kernel_rfl) (by kernel_rfl) ?_
  refine seq_val (.bool true) 52 rfl (by kernel_rfl) (by kernel_rfl) ?_
  refine seq_val (.bool true) 53 rfl (by kernel_rfl) (by kernel_rfl) ?_
  refine seq_val (.bool true) 54 rfl (by kernel_rfl) (by kernel_rfl) ?_
  have r16_17 := (row_ext r16_16 e17)
  have r16_19 := (Puts.row p19 (row_ext (row_ext r16_16 e17) e18) (ne_of_old r16_17 l18))
  refine seq_val (.agg (ints .u8 (bytesOf (agN ys (bytesOf (agN xs (pubL zs))))))) 55 rfl (by kernel_rfl) (run_load_row 23 _ g16 23 _ _ r16_19 rfl (by kernel_rfl) (by kernel_rfl) (isz (n := 32) (by kernel_rfl) ((ints_size _ _).trans (bytesOf_len (agN ys (bytesOf (agN xs (pubL zs)))))))) ?_
  refine seq_val (.agg (ints .u8 (bytesOf (agN xs (bytesOf (agN ys (pubL zs))))))) 56 rfl (by kernel_rfl) (run_load_row 23 _ g18 23 _ _ r18_19 rfl (by kernel_rfl) (by kernel_rfl) (isz (n := 32) (by kernel_rfl) ((ints_size _ _).trans (bytesOf_len (agN xs (bytesOf (agN ys (pubL zs)))))))) ?_
  refine seq_val (.bool true) 57 rfl (by kernel_rfl) (run_eql_agg 23 _ _ _ _ _ (.bool true) rfl (by kernel_rfl) (by kernel_rfl) (by kernel_rfl) (eql_is 23 (e := 5) (k := .u8) _ _ true (bytesOf_len _) (bytesOf_len _) (by kernel_rfl) (by kernel_rfl) (by kernel_rfl) (decide_eq_true (congrArg bytesOf h1.2.2.1)) _)) ?_
  refine seq_val (.bool true) 58 rfl (by kernel_rfl) (by kernel_rfl) ?_
  refine seq_val (.bool true) 6 rfl (by kernel_rfl) (by kernel_rfl) ?_
  refine seq_nil ?_
  refine hK19 _ _ ?_
  try clear hK19 K19
  refine wp_ret ?_
  exact (show bodyPost _ _ _ .ret _ _ from ret1 (.bool true) rfl (res_tmp (by kernel_rfl)) ⟨rfl, x19⟩)
end Go.Proofs.Ytaojnmjmmfdfjaa.Field
