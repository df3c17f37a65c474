/- The walk of the law LadderSame. -/
import Derived.Test.YtaojnmjmmfdfjaaAutoT
import Derived.Test.YtaojnmjmmfdfjaaClamp
import Derived.Test.YtaojnmjmmfdfjaaLadSame
namespace Go.Proofs.Ytaojnmjmmfdfjaa.Field
open Go Go.RowKit
open Go.Proofs.Ytaojnmjmmfdfjaa.Rely Go.Proofs.Ytaojnmjmmfdfjaa.Auto Go.Proofs.Ytaojnmjmmfdfjaa.Ladder
set_option linter.unusedVariables false

set_option maxHeartbeats 2000000 in
theorem sameLaw_0 (xs ps : List Int) (b : Int) (hx : xs.length = 32) (hp : ps.length = 32) (hb : AreBytes xs) (hbp : AreBytes ps) (h : 0 ≤ b ∧ b ≤ 255) (h0 : (agN xs ps == 0) = false) (w : World) : Calls Try.prog 16 #[.agg (ints .u8 xs), .agg (ints .u8 ps), .int .u8 b] w fun e w' => e = .returned (.bool true) ∧ Below w.heap.size w w' := by
  refine enter 69 [(0, .agg (ints .u8 (xs))), (1, .agg (ints .u8 (ps))), (2, .int .u8 b)] Try.func16 rfl rfl (by kernel_rfl) rfl ?_
  refine wp_seq_k fun K1 hK1 => ?_
  refine region_lit ?_
  refine seq_alloc (ints .u8 (xs)) 23 3 rfl (by kernel_rfl) (by kernel_rfl) fun g2 W1 l2 e1 r2_1 => ?_
  have x1 : Ext w W1 := Ext.tr (Rely.Ext.refl w) e1
  have b2 : w.heap.size ≤ g2 := Nat.le_trans (Rely.Ext.refl w).size l2
  refine seq_alloc (ints .u8 (ps)) 23 4 rfl (by kernel_rfl) (by kernel_rfl) fun g3 W2 l3 e2 r3_2 => ?_
  have x2 : Ext w W2 := Ext.tr x1 e2
  have b3 : w.heap.size ≤ g3 := Nat.le_trans x1.size l3
  refine seq_val (.bool false) 6 rfl (by kernel_rfl) (by kernel_rfl) ?_
  refine seq_nil ?_
  refine hK1 _ _ ?_
  try clear hK1 K1
  refine wp_seq_k fun K4 hK4 => ?_
  refine wp_seq_k fun K5 hK5 => ?_
  refine region_lit ?_
  refine seq_call (.bool true) 42 #[] 13 rfl (by kernel_rfl) (by kernel_rfl) (alive6 _) fun W3 e3 => ?_
  have x3 : Ext w W3 := Ext.tr x2 e3
  refine seq_val (.bool false) 14 rfl (by kernel_rfl) (by kernel_rfl) ?_
  refine seq_nil ?_
  refine hK5 _ _ ?_
  try clear hK5 K5
  refine cond_false (by kernel_rfl) ?_
  refine wp_skip ?_
  refine hK4 _ _ ?_
  try clear hK4 K4
  refine wp_seq_k fun K6 hK6 => ?_
  have r3_3 := (row_ext r3_2 e3)
  refine any_regionT (fun W => W.heap[g3]? = some (.cells (ints .u8 (ps)) 23)) [⟨none, [(3, none)]⟩, ⟨none, [(4, none)]⟩, ⟨none, []⟩, ⟨none, []⟩, ⟨none, [(7, some 2), (15, some 0)]⟩, ⟨none, [(8, some 3), (16, some 1)]⟩] [2, 3] [1] (by kernel_rfl) (by kernel_rfl) (by kernel_rfl) (fun W hR => row_ext r3_3 hR) fun F hF => ?_
  have r2_3 := (row_ext (row_ext r2_1 e2) e3)
  refine t_read (.agg (ints .u8 (xs))) (by kernel_rfl) (by kernel_rfl) (by kernel_rfl) rfl (fun W hR => (run_load_row 23 _ g2 23 _ _ (row_ext (row_ext r2_3 (ext_drew _)) hR) rfl (by kernel_rfl) (by kernel_rfl) (isz (n := 32) (by kernel_rfl) ((ints_size _ _).trans hx)))) ?_
  refine t_readU (.agg (ints .u8 (ps))) (by kernel_rfl) (by kernel_rfl) (by kernel_rfl) rfl (fun W hW => (run_load_row 23 _ g3 23 _ _ hW rfl (by kernel_rfl) (by kernel_rfl) (isz (n := 32) (by kernel_rfl) ((ints_size _ _).trans hp)))) ?_
  refine t_new (ints .u8 (List.replicate 32 0)) 23 (by kernel_rfl) (by kernel_rfl) (Nat.le_refl _) (by kernel_rfl) rfl (fun W => by kernel_rfl) ?_
  refine t_new (ints .u8 (List.replicate 32 0)) 23 (by kernel_rfl) (by kernel_rfl) (Nat.le_refl _) (by kernel_rfl) rfl (fun W => by kernel_rfl) ?_
  refine t_store rfl ?_
  refine t_store rfl ?_
  refine t_nil (hF _ (by kernel_rfl) fun W4 e4 => ?_)
  simp only [List.nil_append, List.cons_append, fins, up]
  intro g7 l7 r7_4 n7 g8 l8 r8_4 n8
  have b7 : w.heap.size ≤ g7 := Nat.le_trans x3.size l7
  have b8 : w.heap.size ≤ g8 := Nat.le_trans x3.size l8
  have n8_7 : g8 ≠ g7 := n8 _ (by simp)
  clear hF
  have x4 : Ext w W4 := Ext.tr x3 e4
  have r3_4 := (row_ext r3_3 e4)
  refine te_store _ g7 _ (ints .u8 (xs)) 23 r7_4 rfl (run_store_row 23 _ _ g7 23 _ _ r7_4 rfl (by kernel_rfl) (by kernel_rfl) (isz (n := 32) (by kernel_rfl) ((ints_size _ _).trans hx)) (eqsz (n := 32) ((ints_size _ _).trans zlen) ((ints_size _ _).trans hx)) (ints_one _ _)) (fun W hp => Puts.row hp r3_4 (ne_of_old r3_3 l7)) fun W5 p5 r7_5 => ?_
  have x5 : Ext w W5 := Puts.ext p5 x4 b7
  have r8_5 := (Puts.row p5 r8_4 n8_7)
  have r3_5 := (Puts.row p5 r3_4 (ne_of_old r3_3 l7))
  refine te_store _ g8 _ (ints .u8 (ps)) 23 r8_5 rfl (run_store_row 23 _ _ g8 23 _ _ r8_5 rfl (by kernel_rfl) (by kernel_rfl) (isz (n := 32) (by kernel_rfl) ((ints_size _ _).trans hp)) (eqsz (n := 32) ((ints_size _ _).trans zlen) ((ints_size _ _).trans hp)) (ints_one _ _)) (fun W hp => Puts.row hp r3_5 (ne_of_old r3_3 l8)) fun W6 p6 r8_6 => ?_
  have x6 : Ext w W6 := Puts.ext p6 x5 b8
  refine te_nil ?_
  refine hK6 _ _ ?_
  try clear hK6 K6
  refine wp_seq_k fun K9 hK9 => ?_
  refine region_lit ?_
  refine seq_val (.pointer (some ⟨g7, 0, none⟩)) 17 rfl (by kernel_rfl) (by kernel_rfl) ?_
  have r7_6 := (Puts.row p6 r7_5 (Ne.symm n8_7))
  refine seq_val (.int .u8 (nth (xs) 0)) 18 rfl (by kernel_rfl) (run_loadC1 5 _ g7 0 23 _ (.int .u8 (nth (xs) 0)) _ r7_6 rfl (by kernel_rfl) (ints_get _ _ _ (Nat.lt_of_lt_of_eq (by decide) hx.symm)) (by kernel_rfl)) ?_
  refine seq_val (.int .u8 b) 19 rfl (by kernel_rfl) (by kernel_rfl) ?_
  refine seq_val (.int .u8 (bits .and .u8 (b) (7))) 20 rfl (by kernel_rfl) (by kernel_rfl) ?_
  refine seq_val (.int .u8 (bits .xor .u8 ((nth (xs) 0)) ((bits .and .u8 (b) (7))))) 21 rfl (by kernel_rfl) (by kernel_rfl) ?_
  refine seq_val (.pointer (some ⟨g7, 0, none⟩)) 22 rfl (by kernel_rfl) (by kernel_rfl) ?_
  refine seq_store g7 _ (ints .u8 ((xs).set 0 (bits .xor .u8 ((nth (xs) 0)) ((bits .and .u8 (b) (7)))))) 23 r7_6 rfl (by kernel_rfl) (run_storeI 5 _ _ g7 0 23 _ _ r7_6 rfl (by kernel_rfl) (by kernel_rfl) (by kernel_rfl) (Nat.lt_of_lt_of_eq (by decide) hx.symm)) fun W7 p7 r7_7 => ?_
  have x7 : Ext w W7 := Puts.ext p7 x6 b7
  refine seq_nil ?_
  refine hK9 _ _ ?_
  try clear hK9 K9
  refine wp_seq_k fun K10 hK10 => ?_
  refine region_lit ?_
  refine seq_val (.pointer (some ⟨g7, 31, none⟩)) 23 rfl (by kernel_rfl) (by kernel_rfl) ?_
  refine seq_val (.int .u8 (nth ((xs).set 0 (bits .xor .u8 ((nth (xs) 0)) ((bits .and .u8 (b) (7))))) 31)) 24 rfl (by kernel_rfl) (run_loadC1 5 _ g7 31 23 _ (.int .u8 (nth ((xs).set 0 (bits .xor .u8 ((nth (xs) 0)) ((bits .and .u8 (b) (7))))) 31)) _ r7_7 rfl (by kernel_rfl) (ints_get _ _ _ (Nat.lt_of_lt_of_eq (by decide) ((List.length_set ..).trans hx).symm)) (by kernel_rfl)) ?_
  refine seq_val (.int .u8 b) 25 rfl (by kernel_rfl) (by kernel_rfl) ?_
  refine seq_val (.int .u8 (bits .and .u8 (b) (192))) 26 rfl (by kernel_rfl) (by kernel_rfl) ?_
  refine seq_val (.int .u8 (bits .xor .u8 ((nth ((xs).set 0 (bits .xor .u8 ((nth (xs) 0)) ((bits .and .u8 (b) (7))))) 31)) ((bits .and .u8 (b) (192))))) 27 rfl (by kernel_rfl) (by kernel_rfl) ?_
  refine seq_val (.pointer (some ⟨g7, 31, none⟩)) 28 rfl (by kernel_rfl) (by kernel_rfl) ?_
  refine seq_store g7 _ (ints .u8 (((xs).set 0 (bits .xor .u8 ((nth (xs) 0)) ((bits .and .u8 (b) (7))))).set 31 (bits .xor .u8 ((nth ((xs).set 0 (bits .xor .u8 ((nth (xs) 0)) ((bits .and .u8 (b) (7))))) 31)) ((bits .and .u8 (b) (192)))))) 23 r7_7 rfl (by kernel_rfl) (run_storeI 5 _ _ g7 31 23 _ _ r7_7 rfl (by kernel_rfl) (by kernel_rfl) (by kernel_rfl) (Nat.lt_of_lt_of_eq (by decide) ((List.length_set ..).trans hx).symm)) fun W8 p8 r7_8 => ?_
  have x8 : Ext w W8 := Puts.ext p8 x7 b7
  refine seq_nil ?_
  refine hK10 _ _ ?_
  try clear hK10 K10
  refine wp_seq_k fun K11 hK11 => ?_
  refine region_lit ?_
  refine seq_val (.pointer (some ⟨g8, 31, none⟩)) 29 rfl (by kernel_rfl) (by kernel_rfl) ?_
  have r8_8 := (Puts.row p8 (Puts.row p7 r8_6 n8_7) n8_7)
  refine seq_val (.int .u8 (nth (ps) 31)) 30 rfl (by kernel_rfl) (run_loadC1 5 _ g8 31 23 _ (.int .u8 (nth (ps) 31)) _ r8_8 rfl (by kernel_rfl) (ints_get _ _ _ (Nat.lt_of_lt_of_eq (by decide) hp.symm)) (by kernel_rfl)) ?_
  refine seq_val (.int .u8 (bits .xor .u8 ((nth (ps) 31)) (128))) 31 rfl (by kernel_rfl) (by kernel_rfl) ?_
  refine seq_val (.pointer (some ⟨g8, 31, none⟩)) 32 rfl (by kernel_rfl) (by kernel_rfl) ?_
  refine seq_store g8 _ (ints .u8 ((ps).set 31 (bits .xor .u8 ((nth (ps) 31)) (128)))) 23 r8_8 rfl (by kernel_rfl) (run_storeI 5 _ _ g8 31 23 _ _ r8_8 rfl (by kernel_rfl) (by kernel_rfl) (by kernel_rfl) (Nat.lt_of_lt_of_eq (by decide) hp.symm)) fun W9 p9 r8_9 => ?_
  have x9 : Ext w W9 := Puts.ext p9 x8 b8
  refine seq_nil ?_
  refine hK11 _ _ ?_
  try clear hK11 K11
  refine wp_seq_k fun K12 hK12 => ?_
  refine region_lit ?_
  have r2_9 := (Puts.row p9 (Puts.row p8 (Puts.row p7 (Puts.row p6 (Puts.row p5 (row_ext r2_3 e4) (ne_of_old r2_3 l7)) (ne_of_old r2_3 l8)) (ne_of_old r2_3 l7)) (ne_of_old r2_3 l7)) (ne_of_old r2_3 l8))
  refine seq_val (.agg (ints .u8 (xs))) 34 rfl (by kernel_rfl) (run_load_row 23 _ g2 23 _ _ r2_9 rfl (by kernel_rfl) (by kernel_rfl) (isz (n := 32) (by kernel_rfl) ((ints_size _ _).trans hx))) ?_
  have r3_9 := (Puts.row p9 (Puts.row p8 (Puts.row p7 (Puts.row p6 r3_5 (ne_of_old r3_3 l8)) (ne_of_old r3_3 l7)) (ne_of_old r3_3 l7)) (ne_of_old r3_3 l8))
  refine seq_val (.agg (ints .u8 (ps))) 35 rfl (by kernel_rfl) (run_load_row 23 _ g3 23 _ _ r3_9 rfl (by kernel_rfl) (by kernel_rfl) (isz (n := 32) (by kernel_rfl) ((ints_size _ _).trans hp))) ?_
  refine seq_call (.tuple #[.agg (ints .u8 (bytesOf (agN xs ps))), .nilIface]) 45 #[.agg (ints .u8 (xs)), .agg (ints .u8 (ps))] 36 rfl (by kernel_rfl) (by kernel_rfl) ((agree_0 xs ps hx hb hp hbp h0) _) fun W10 e10 => ?_
  have x10 : Ext w W10 := Ext.tr x9 e10
  refine seq_val (.tuple #[.agg (ints .u8 (bytesOf (agN xs ps))), .nilIface]) 33 rfl (by kernel_rfl) (by kernel_rfl) ?_
  refine seq_val (.agg (ints .u8 (bytesOf (agN xs ps)))) 37 rfl (by kernel_rfl) (by kernel_rfl) ?_
  refine seq_val (.nilIface) 38 rfl (by kernel_rfl) (by kernel_rfl) ?_
  refine seq_alloc (ints .u8 (List.replicate 32 0)) 23 9 rfl (by kernel_rfl) (by kernel_rfl) fun g13 W11 l13 e11 r13_11 => ?_
  have x11 : Ext w W11 := Ext.tr x10 e11
  have b13 : w.heap.size ≤ g13 := Nat.le_trans x10.size l13
  refine seq_store g13 _ (ints .u8 (bytesOf (agN xs ps))) 23 r13_11 rfl (by kernel_rfl) (run_store_row 23 _ _ g13 23 _ _ r13_11 rfl (by kernel_rfl) (by kernel_rfl) (isz (n := 32) (by kernel_rfl) ((ints_size _ _).trans (bytesOf_len (agN xs ps)))) (eqsz (n := 32) ((ints_size _ _).trans zlen) ((ints_size _ _).trans (bytesOf_len (agN xs ps)))) (ints_one _ _)) fun W12 p12 r13_12 => ?_
  have x12 : Ext w W12 := Puts.ext p12 x11 b13
  refine seq_val (.nilIface) 10 rfl (by kernel_rfl) (by kernel_rfl) ?_
  refine seq_nil ?_
  refine hK12 _ _ ?_
  try clear hK12 K12
  refine wp_seq_k fun K14 hK14 => ?_
  refine region_lit ?_
  have r7_10 := (row_ext (Puts.row p9 r7_8 (Ne.symm n8_7)) e10)
  have r7_12 := (Puts.row p12 (row_ext (row_ext (Puts.row p9 r7_8 (Ne.symm n8_7)) e10) e11) (ne_of_old r7_10 l13))
  refine seq_val (.agg (ints .u8 (((xs).set 0 (bits .xor .u8 ((nth (xs) 0)) ((bits .and .u8 (b) (7))))).set 31 (bits .xor .u8 ((nth ((xs).set 0 (bits .xor .u8 ((nth (xs) 0)) ((bits .and .u8 (b) (7))))) 31)) ((bits .and .u8 (b) (192))))))) 40 rfl (by kernel_rfl) (run_load_row 23 _ g7 23 _ _ r7_12 rfl (by kernel_rfl) (by kernel_rfl) (isz (n := 32) (by kernel_rfl) ((ints_size _ _).trans ((List.length_set ..).trans ((List.length_set ..).trans hx))))) ?_
  have r8_10 := (row_ext r8_9 e10)
  have r8_12 := (Puts.row p12 (row_ext (row_ext r8_9 e10) e11) (ne_of_old r8_10 l13))
  refine seq_val (.agg (ints .u8 ((ps).set 31 (bits .xor .u8 ((nth (ps) 31)) (128))))) 41 rfl (by kernel_rfl) (run_load_row 23 _ g8 23 _ _ r8_12 rfl (by kernel_rfl) (by kernel_rfl) (isz (n := 32) (by kernel_rfl) ((ints_size _ _).trans ((List.length_set ..).trans hp)))) ?_
  refine seq_call (.tuple #[.agg (ints .u8 (bytesOf (agN xs ps))), .nilIface]) 45 #[.agg (ints .u8 (((xs).set 0 (bits .xor .u8 ((nth (xs) 0)) ((bits .and .u8 (b) (7))))).set 31 (bits .xor .u8 ((nth ((xs).set 0 (bits .xor .u8 ((nth (xs) 0)) ((bits .and .u8 (b) (7))))) 31)) ((bits .and .u8 (b) (192)))))), .agg (ints .u8 ((ps).set 31 (bits .xor .u8 ((nth (ps) 31)) (128))))] 42 rfl (by kernel_rfl) (by kernel_rfl) ((agreeT_0 xs ps b hx hb hp hbp h h0) _) fun W13 e13 => ?_
  have x13 : Ext w W13 := Ext.tr x12 e13
  refine seq_val (.tuple #[.agg (ints .u8 (bytesOf (agN xs ps))), .nilIface]) 39 rfl (by kernel_rfl) (by kernel_rfl) ?_
  refine seq_val (.agg (ints .u8 (bytesOf (agN xs ps)))) 43 rfl (by kernel_rfl) (by kernel_rfl) ?_
  refine seq_val (.nilIface) 44 rfl (by kernel_rfl) (by kernel_rfl) ?_
  refine seq_alloc (ints .u8 (List.replicate 32 0)) 23 11 rfl (by kernel_rfl) (by kernel_rfl) fun g15 W14 l15 e14 r15_14 => ?_
  have x14 : Ext w W14 := Ext.tr x13 e14
  have b15 : w.heap.size ≤ g15 := Nat.le_trans x13.size l15
  refine seq_store g15 _ (ints .u8 (bytesOf (agN xs ps))) 23 r15_14 rfl (by kernel_rfl) (run_store_row 23 _ _ g15 23 _ _ r15_14 rfl (by kernel_rfl) (by kernel_rfl) (isz (n := 32) (by kernel_rfl) ((ints_size _ _).trans (bytesOf_len (agN xs ps)))) (eqsz (n := 32) ((ints_size _ _).trans zlen) ((ints_size _ _).trans (bytesOf_len (agN xs ps)))) (ints_one _ _)) fun W15 p15 r15_15 => ?_
  have x15 : Ext w W15 := Puts.ext p15 x14 b15
  refine seq_val (.nilIface) 12 rfl (by kernel_rfl) (by kernel_rfl) ?_
  refine seq_nil ?_
  refine hK14 _ _ ?_
  try clear hK14 K14
  refine wp_seq_k fun K16 hK16 => ?_
  refine any_region 24 [⟨none, [(9, none)]⟩, ⟨none, [(11, none)]⟩, ⟨none, [(45, some 0), (46, some 1)]⟩, ⟨none, [(47, some 2)]⟩, ⟨some (48, true), [(10, none), (48, some 3)]⟩, ⟨some (48, true), [(49, some 4), (48, some 3)]⟩, ⟨some (48, true), [(12, none), (48, some 3)]⟩, ⟨some (48, true), [(51, some 6), (48, some 3)]⟩, ⟨some (48, true), [(50, some 5), (52, some 7), (48, some 3)]⟩, ⟨none, [(48, some 3), (53, some 8)]⟩, ⟨none, [(54, some 9)]⟩, ⟨some (55, true), [(3, none), (55, some 10)]⟩, ⟨some (55, true), [(56, some 11), (55, some 10)]⟩, ⟨some (55, true), [(7, none), (55, some 10)]⟩, ⟨some (55, true), [(58, some 13), (55, some 10)]⟩, ⟨some (55, true), [(57, some 12), (59, some 14), (55, some 10)]⟩, ⟨none, [(55, some 10), (60, some 15)]⟩, ⟨none, [(61, some 16)]⟩, ⟨some (62, true), [(3, none), (62, some 17)]⟩, ⟨some (62, true), [(63, some 18), (62, some 17)]⟩, ⟨some (62, true), [(7, none), (62, some 17)]⟩, ⟨some (62, true), [(65, some 20), (62, some 17)]⟩, ⟨some (62, true), [(64, some 19), (66, some 21), (62, some 17)]⟩, ⟨none, [(62, some 17), (67, some 22)]⟩] (by kernel_rfl) (by kernel_rfl) fun F hF => ?_
  have r13_13 := (row_ext r13_12 e13)
  have r13_15 := (Puts.row p15 (row_ext (row_ext r13_12 e13) e14) (ne_of_old r13_13 l15))
  refine any_read (.agg (ints .u8 (bytesOf (agN xs ps)))) (by kernel_rfl) (by kernel_rfl) (fun W hR => (run_load_row 23 _ g13 23 _ _ (row_ext (row_ext r13_15 (ext_drew _)) hR) rfl (by kernel_rfl) (by kernel_rfl) (isz (n := 32) (by kernel_rfl) ((ints_size _ _).trans (bytesOf_len (agN xs ps)))))) ?_
  refine any_read (.agg (ints .u8 (bytesOf (agN xs ps)))) (by kernel_rfl) (by kernel_rfl) (fun W hR => (run_load_row 23 _ g15 23 _ _ (row_ext (row_ext r15_15 (ext_drew _)) hR) rfl (by kernel_rfl) (by kernel_rfl) (isz (n := 32) (by kernel_rfl) ((ints_size _ _).trans (bytesOf_len (agN xs ps)))))) ?_
  refine any_val (.bool true) (by kernel_rfl) (by kernel_rfl) (fun W => (run_eql_agg 23 _ _ _ _ _ (.bool true) rfl (by kernel_rfl) (by kernel_rfl) (by kernel_rfl) (eql_same 23 (e := 5) (k := .u8) _ (bytesOf_len (agN xs ps)) (by kernel_rfl) (by kernel_rfl) (by kernel_rfl) _))) ?_
  refine any_val (.bool true) (by kernel_rfl) (by kernel_rfl) (fun W => by kernel_rfl) ?_
  refine any_val (.nilIface) (by kernel_rfl) (by kernel_rfl) (fun W => by kernel_rfl) ?_
  refine any_call (.int .i64 0) 47 #[.nilIface] (by kernel_rfl) (by kernel_rfl) (fun W => by kernel_rfl) (fun W hR => num_nil W) ?_
  refine any_val (.nilIface) (by kernel_rfl) (by kernel_rfl) (fun W => by kernel_rfl) ?_
  refine any_call (.int .i64 0) 47 #[.nilIface] (by kernel_rfl) (by kernel_rfl) (fun W => by kernel_rfl) (fun W hR => num_nil W) ?_
  refine any_val (.bool true) (by kernel_rfl) (by kernel_rfl) (fun W => by kernel_rfl) ?_
  refine any_val (.bool true) (by kernel_rfl) (by kernel_rfl) (fun W => by kernel_rfl) ?_
  refine any_val (.bool true) (by kernel_rfl) (by kernel_rfl) (fun W => by kernel_rfl) ?_
  have r2_10 := (row_ext r2_9 e10)
  have r2_13 := (row_ext (Puts.row p12 (row_ext r2_10 e11) (ne_of_old r2_10 l13)) e13)
  have r2_15 := (Puts.row p15 (row_ext (row_ext (Puts.row p12 (row_ext (row_ext r2_9 e10) e11) (ne_of_old r2_10 l13)) e13) e14) (ne_of_old r2_13 l15))
  refine any_read (.agg (ints .u8 (xs))) (by kernel_rfl) (by kernel_rfl) (fun W hR => (run_load_row 23 _ g2 23 _ _ (row_ext (row_ext r2_15 (ext_drew _)) hR) rfl (by kernel_rfl) (by kernel_rfl) (isz (n := 32) (by kernel_rfl) ((ints_size _ _).trans hx)))) ?_
  refine any_call (.agg (ints .u8 (pubL xs))) 43 #[.agg (ints .u8 (xs))] (by kernel_rfl) (by kernel_rfl) (fun W => by kernel_rfl) (fun W hR => (public_ xs hx hb) W) ?_
  have r7_13 := (row_ext r7_12 e13)
  have r7_15 := (Puts.row p15 (row_ext (row_ext r7_12 e13) e14) (ne_of_old r7_13 l15))
  refine any_read (.agg (ints .u8 (((xs).set 0 (bits .xor .u8 ((nth (xs) 0)) ((bits .and .u8 (b) (7))))).set 31 (bits .xor .u8 ((nth ((xs).set 0 (bits .xor .u8 ((nth (xs) 0)) ((bits .and .u8 (b) (7))))) 31)) ((bits .and .u8 (b) (192))))))) (by kernel_rfl) (by kernel_rfl) (fun W hR => (run_load_row 23 _ g7 23 _ _ (row_ext (row_ext r7_15 (ext_drew _)) hR) rfl (by kernel_rfl) (by kernel_rfl) (isz (n := 32) (by kernel_rfl) ((ints_size _ _).trans ((List.length_set ..).trans ((List.length_set ..).trans hx)))))) ?_
  refine any_call (.agg (ints .u8 (pubL xs))) 43 #[.agg (ints .u8 (((xs).set 0 (bits .xor .u8 ((nth (xs) 0)) ((bits .and .u8 (b) (7))))).set 31 (bits .xor .u8 ((nth ((xs).set 0 (bits .xor .u8 ((nth (xs) 0)) ((bits .and .u8 (b) (7))))) 31)) ((bits .and .u8 (b) (192))))))] (by kernel_rfl) (by kernel_rfl) (fun W => by kernel_rfl) (fun W hR => (publicT xs b hx hb h) W) ?_
  refine any_val (.bool true) (by kernel_rfl) (by kernel_rfl) (fun W => (run_eql_agg 23 _ _ _ _ _ (.bool true) rfl (by kernel_rfl) (by kernel_rfl) (by kernel_rfl) (eql_same 23 (e := 5) (k := .u8) _ (pubL_len xs) (by kernel_rfl) (by kernel_rfl) (by kernel_rfl) _))) ?_
  refine any_val (.bool true) (by kernel_rfl) (by kernel_rfl) (fun W => by kernel_rfl) ?_
  refine any_val (.bool true) (by kernel_rfl) (by kernel_rfl) (fun W => by kernel_rfl) ?_
  refine any_read (.agg (ints .u8 (xs))) (by kernel_rfl) (by kernel_rfl) (fun W hR => (run_load_row 23 _ g2 23 _ _ (row_ext (row_ext r2_15 (ext_drew _)) hR) rfl (by kernel_rfl) (by kernel_rfl) (isz (n := 32) (by kernel_rfl) ((ints_size _ _).trans hx)))) ?_
  refine any_call (.agg (ints .u8 (clamp xs))) 39 #[.agg (ints .u8 (xs))] (by kernel_rfl) (by kernel_rfl) (fun W => by kernel_rfl) (fun W hR => (clampC xs hx hb) W) ?_
  refine any_read (.agg (ints .u8 (((xs).set 0 (bits .xor .u8 ((nth (xs) 0)) ((bits .and .u8 (b) (7))))).set 31 (bits .xor .u8 ((nth ((xs).set 0 (bits .xor .u8 ((nth (xs) 0)) ((bits .and .u8 (b) (7))))) 31)) ((bits .and .u8 (b) (192))))))) (by kernel_rfl) (by kernel_rfl) (fun W hR => (run_load_row 23 _ g7 23 _ _ (row_ext (row_ext r7_15 (ext_drew _)) hR) rfl (by kernel_rfl) (by kernel_rfl) (isz (n := 32) (by kernel_rfl) ((ints_size _ _).trans ((List.length_set ..).trans ((List.length_set ..).trans hx)))))) ?_
  refine any_call (.agg (ints .u8 (clamp xs))) 39 #[.agg (ints .u8 (((xs).set 0 (bits .xor .u8 ((nth (xs) 0)) ((bits .and .u8 (b) (7))))).set 31 (bits .xor .u8 ((nth ((xs).set 0 (bits .xor .u8 ((nth (xs) 0)) ((bits .and .u8 (b) (7))))) 31)) ((bits .and .u8 (b) (192))))))] (by kernel_rfl) (by kernel_rfl) (fun W => by kernel_rfl) (fun W hR => (clampT xs b hx hb h) W) ?_
  refine any_val (.bool true) (by kernel_rfl) (by kernel_rfl) (fun W => (run_eql_agg 23 _ _ _ _ _ (.bool true) rfl (by kernel_rfl) (by kernel_rfl) (by kernel_rfl) (eql_same 23 (e := 5) (k := .u8) _ (clamp_len xs hx) (by kernel_rfl) (by kernel_rfl) (by kernel_rfl) _))) ?_
  refine any_val (.bool true) (by kernel_rfl) (by kernel_rfl) (fun W => by kernel_rfl) ?_
  refine steps_nil (hF _ (by kernel_rfl) fun W16 e16 => ?_)
  simp only [ups, up, Kn.val, List.take_succ_cons, List.take_zero, List.drop_succ_cons, List.drop_zero, List.nil_append, List.cons_append]
  clear hF
  have x16 : Ext w W16 := Ext.tr x15 e16
  refine seq_val (.bool true) 6 rfl (by kernel_rfl) (by kernel_rfl) ?_
  refine seq_nil ?_
  refine hK16 _ _ ?_
  try clear hK16 K16
  refine wp_ret ?_
  exact (show bodyPost _ _ _ .ret _ _ from ret1 (.bool true) rfl (res_tmp (by kernel_rfl)) ⟨rfl, x16⟩)
set_option maxHeartbeats 2000000 in
theorem sameLaw_1 (xs ps : List Int) (b : Int) (hx : xs.length = 32) (hp : ps.length = 32) (hb : AreBytes xs) (hbp : AreBytes ps) (h : 0 ≤ b ∧ b ≤ 255) (h0 : (agN xs ps == 0) = true) (w : World) : Calls Try.prog 16 #[.agg (ints .u8 xs), .agg (ints .u8 ps), .int .u8 b] w fun e w' => e = .returned (.bool true) ∧ Below w.heap.size w w' := by
  refine enter 69 [(0, .agg (ints .u8 (xs))), (1, .agg (ints .u8 (ps))), (2, .int .u8 b)] Try.func16 rfl rfl (by kernel_rfl) rfl ?_
  refine wp_seq_k fun K1 hK1 => ?_
  refine region_lit ?_
  refine seq_alloc (ints .u8 (xs)) 23 3 rfl (by kernel_rfl) (by kernel_rfl) fun g2 W1 l2 e1 r2_1 => ?_
  have x1 : Ext w W1 := Ext.tr (Rely.Ext.refl w) e1
  have b2 : w.heap.size ≤ g2 := Nat.le_trans (Rely.Ext.refl w).size l2
  refine seq_alloc (ints .u8 (ps)) 23 4 rfl (by kernel_rfl) (by kernel_rfl) fun g3 W2 l3 e2 r3_2 => ?_
  have x2 : Ext w W2 := Ext.tr x1 e2
  have b3 : w.heap.size ≤ g3 := Nat.le_trans x1.size l3
  refine seq_val (.bool false) 6 rfl (by kernel_rfl) (by kernel_rfl) ?_
  refine seq_nil ?_
  refine hK1 _ _ ?_
  try clear hK1 K1
  refine wp_seq_k fun K4 hK4 => ?_
  refine wp_seq_k fun K5 hK5 => ?_
  refine region_lit ?_
  refine seq_call (.bool true) 42 #[] 13 rfl (by kernel_rfl) (by kernel_rfl) (alive6 _) fun W3 e3 => ?_
  have x3 : Ext w W3 := Ext.tr x2 e3
  refine seq_val (.bool false) 14 rfl (by kernel_rfl) (by kernel_rfl) ?_
  refine seq_nil ?_
  refine hK5 _ _ ?_
  try clear hK5 K5
  refine cond_false (by kernel_rfl) ?_
  refine wp_skip ?_
  refine hK4 _ _ ?_
  try clear hK4 K4
  refine wp_seq_k fun K6 hK6 => ?_
  have r3_3 := (row_ext r3_2 e3)
  refine any_regionT (fun W => W.heap[g3]? = some (.cells (ints .u8 (ps)) 23)) [⟨none, [(3, none)]⟩, ⟨none, [(4, none)]⟩, ⟨none, []⟩, ⟨none, []⟩, ⟨none, [(7, some 2), (15, some 0)]⟩, ⟨none, [(8, some 3), (16, some 1)]⟩] [2, 3] [1] (by kernel_rfl) (by kernel_rfl) (by kernel_rfl) (fun W hR => row_ext r3_3 hR) fun F hF => ?_
  have r2_3 := (row_ext (row_ext r2_1 e2) e3)
  refine t_read (.agg (ints .u8 (xs))) (by kernel_rfl) (by kernel_rfl) (by kernel_rfl) rfl (fun W hR => (run_load_row 23 _ g2 23 _ _ (row_ext (row_ext r2_3 (ext_drew _)) hR) rfl (by kernel_rfl) (by kernel_rfl) (isz (n := 32) (by kernel_rfl) ((ints_size _ _).trans hx)))) ?_
  refine t_readU (.agg (ints .u8 (ps))) (by kernel_rfl) (by kernel_rfl) (by kernel_rfl) rfl (fun W hW => (run_load_row 23 _ g3 23 _ _ hW rfl (by kernel_rfl) (by kernel_rfl) (isz (n := 32) (by kernel_rfl) ((ints_size _ _).trans hp)))) ?_
  refine t_new (ints .u8 (List.replicate 32 0)) 23 (by kernel_rfl) (by kernel_rfl) (Nat.le_refl _) (by kernel_rfl) rfl (fun W => by kernel_rfl) ?_
  refine t_new (ints .u8 (List.replicate 32 0)) 23 (by kernel_rfl) (by kernel_rfl) (Nat.le_refl _) (by kernel_rfl) rfl (fun W => by kernel_rfl) ?_
  refine t_store rfl ?_
  refine t_store rfl ?_
  refine t_nil (hF _ (by kernel_rfl) fun W4 e4 => ?_)
  simp only [List.nil_append, List.cons_append, fins, up]
  intro g7 l7 r7_4 n7 g8 l8 r8_4 n8
  have b7 : w.heap.size ≤ g7 := Nat.le_trans x3.size l7
  have b8 : w.heap.size ≤ g8 := Nat.le_trans x3.size l8
  have n8_7 : g8 ≠ g7 := n8 _ (by simp)
  clear hF
  have x4 : Ext w W4 := Ext.tr x3 e4
  have r3_4 := (row_ext r3_3 e4)
  refine te_store _ g7 _ (ints .u8 (xs)) 23 r7_4 rfl (run_store_row 23 _ _ g7 23 _ _ r7_4 rfl (by kernel_rfl) (by kernel_rfl) (isz (n := 32) (by kernel_rfl) ((ints_size _ _).trans hx)) (eqsz (n := 32) ((ints_size _ _).trans zlen) ((ints_size _ _).trans hx)) (ints_one _ _)) (fun W hp => Puts.row hp r3_4 (ne_of_old r3_3 l7)) fun W5 p5 r7_5 => ?_
  have x5 : Ext w W5 := Puts.ext p5 x4 b7
  have r8_5 := (Puts.row p5 r8_4 n8_7)
  have r3_5 := (Puts.row p5 r3_4 (ne_of_old r3_3 l7))
  refine te_store _ g8 _ (ints .u8 (ps)) 23 r8_5 rfl (run_store_row 23 _ _ g8 23 _ _ r8_5 rfl (by kernel_rfl) (by kernel_rfl) (isz (n := 32) (by kernel_rfl) ((ints_size _ _).trans hp)) (eqsz (n := 32) ((ints_size _ _).trans zlen) ((ints_size _ _).trans hp)) (ints_one _ _)) (fun W hp => Puts.row hp r3_5 (ne_of_old r3_3 l8)) fun W6 p6 r8_6 => ?_
  have x6 : Ext w W6 := Puts.ext p6 x5 b8
  refine te_nil ?_
  refine hK6 _ _ ?_
  try clear hK6 K6
  refine wp_seq_k fun K9 hK9 => ?_
  refine region_lit ?_
  refine seq_val (.pointer (some ⟨g7, 0, none⟩)) 17 rfl (by kernel_rfl) (by kernel_rfl) ?_
  have r7_6 := (Puts.row p6 r7_5 (Ne.symm n8_7))
  refine seq_val (.int .u8 (nth (xs) 0)) 18 rfl (by kernel_rfl) (run_loadC1 5 _ g7 0 23 _ (.int .u8 (nth (xs) 0)) _ r7_6 rfl (by kernel_rfl) (ints_get _ _ _ (Nat.lt_of_lt_of_eq (by decide) hx.symm)) (by kernel_rfl)) ?_
  refine seq_val (.int .u8 b) 19 rfl (by kernel_rfl) (by kernel_rfl) ?_
  refine seq_val (.int .u8 (bits .and .u8 (b) (7))) 20 rfl (by kernel_rfl) (by kernel_rfl) ?_
  refine seq_val (.int .u8 (bits .xor .u8 ((nth (xs) 0)) ((bits .and .u8 (b) (7))))) 21 rfl (by kernel_rfl) (by kernel_rfl) ?_
  refine seq_val (.pointer (some ⟨g7, 0, none⟩)) 22 rfl (by kernel_rfl) (by kernel_rfl) ?_
  refine seq_store g7 _ (ints .u8 ((xs).set 0 (bits .xor .u8 ((nth (xs) 0)) ((bits .and .u8 (b) (7)))))) 23 r7_6 rfl (by kernel_rfl) (run_storeI 5 _ _ g7 0 23 _ _ r7_6 rfl (by kernel_rfl) (by kernel_rfl) (by kernel_rfl) (Nat.lt_of_lt_of_eq (by decide) hx.symm)) fun W7 p7 r7_7 => ?_
  have x7 : Ext w W7 := Puts.ext p7 x6 b7
  refine seq_nil ?_
  refine hK9 _ _ ?_
  try clear hK9 K9
  refine wp_seq_k fun K10 hK10 => ?_
  refine region_lit ?_
  refine seq_val (.pointer (some ⟨g7, 31, none⟩)) 23 rfl (by kernel_rfl) (by kernel_rfl) ?_
  refine seq_val (.int .u8 (nth ((xs).set 0 (bits .xor .u8 ((nth (xs) 0)) ((bits .and .u8 (b) (7))))) 31)) 24 rfl (by kernel_rfl) (run_loadC1 5 _ g7 31 23 _ (.int .u8 (nth ((xs).set 0 (bits .xor .u8 ((nth (xs) 0)) ((bits .and .u8 (b) (7))))) 31)) _ r7_7 rfl (by kernel_rfl) (ints_get _ _ _ (Nat.lt_of_lt_of_eq (by decide) ((List.length_set ..).trans hx).symm)) (by kernel_rfl)) ?_
  refine seq_val (.int .u8 b) 25 rfl (by kernel_rfl) (by kernel_rfl) ?_
  refine seq_val (.int .u8 (bits .and .u8 (b) (192))) 26 rfl (by kernel_rfl) (by kernel_rfl) ?_
  refine seq_val (.int .u8 (bits .xor .u8 ((nth ((xs).set 0 (bits .xor .u8 ((nth (xs) 0)) ((bits .and .u8 (b) (7))))) 31)) ((bits .and .u8 (b) (192))))) 27 rfl (by kernel_rfl) (by kernel_rfl) ?_
  refine seq_val (.pointer (some ⟨g7, 31, none⟩)) 28 rfl (by kernel_rfl) (by kernel_rfl) ?_
  refine seq_store g7 _ (ints .u8 (((xs).set 0 (bits .xor .u8 ((nth (xs) 0)) ((bits .and .u8 (b) (7))))).set 31 (bits .xor .u8 ((nth ((xs).set 0 (bits .xor .u8 ((nth (xs) 0)) ((bits .and .u8 (b) (7))))) 31)) ((bits .and .u8 (b) (192)))))) 23 r7_7 rfl (by kernel_rfl) (run_storeI 5 _ _ g7 31 23 _ _ r7_7 rfl (by kernel_rfl) (by kernel_rfl) (by kernel_rfl) (Nat.lt_of_lt_of_eq (by decide) ((List.length_set ..).trans hx).symm)) fun W8 p8 r7_8 => ?_
  have x8 : Ext w W8 := Puts.ext p8 x7 b7
  refine seq_nil ?_
  refine hK10 _ _ ?_
  try clear hK10 K10
  refine wp_seq_k fun K11 hK11 => ?_
  refine region_lit ?_
  refine seq_val (.pointer (some ⟨g8, 31, none⟩)) 29 rfl (by kernel_rfl) (by kernel_rfl) ?_
  have r8_8 := (Puts.row p8 (Puts.row p7 r8_6 n8_7) n8_7)
  refine seq_val (.int .u8 (nth (ps) 31)) 30 rfl (by kernel_rfl) (run_loadC1 5 _ g8 31 23 _ (.int .u8 (nth (ps) 31)) _ r8_8 rfl (by kernel_rfl) (ints_get _ _ _ (Nat.lt_of_lt_of_eq (by decide) hp.symm)) (by kernel_rfl)) ?_
  refine seq_val (.int .u8 (bits .xor .u8 ((nth (ps) 31)) (128))) 31 rfl (by kernel_rfl) (by kernel_rfl) ?_
  refine seq_val (.pointer (some ⟨g8, 31, none⟩)) 32 rfl (by kernel_rfl) (by kernel_rfl) ?_
  refine seq_store g8 _ (ints .u8 ((ps).set 31 (bits .xor .u8 ((nth (ps) 31)) (128)))) 23 r8_8 rfl (by kernel_rfl) (run_storeI 5 _ _ g8 31 23 _ _ r8_8 rfl (by kernel_rfl) (by kernel_rfl) (by kernel_rfl) (Nat.lt_of_lt_of_eq (by decide) hp.symm)) fun W9 p9 r8_9 => ?_
  have x9 : Ext w W9 := Puts.ext p9 x8 b8
  refine seq_nil ?_
  refine hK11 _ _ ?_
  try clear hK11 K11
  refine wp_seq_k fun K12 hK12 => ?_
  refine region_lit ?_
  have r2_9 := (Puts.row p9 (Puts.row p8 (Puts.row p7 (Puts.row p6 (Puts.row p5 (row_ext r2_3 e4) (ne_of_old r2_3 l7)) (ne_of_old r2_3 l8)) (ne_of_old r2_3 l7)) (ne_of_old r2_3 l7)) (ne_of_old r2_3 l8))
  refine seq_val (.agg (ints .u8 (xs))) 34 rfl (by kernel_rfl) (run_load_row 23 _ g2 23 _ _ r2_9 rfl (by kernel_rfl) (by kernel_rfl) (isz (n := 32) (by kernel_rfl) ((ints_size _ _).trans hx))) ?_
  have r3_9 := (Puts.row p9 (Puts.row p8 (Puts.row p7 (Puts.row p6 r3_5 (ne_of_old r3_3 l8)) (ne_of_old r3_3 l7)) (ne_of_old r3_3 l7)) (ne_of_old r3_3 l8))
  refine seq_val (.agg (ints .u8 (ps))) 35 rfl (by kernel_rfl) (run_load_row 23 _ g3 23 _ _ r3_9 rfl (by kernel_rfl) (by kernel_rfl) (isz (n := 32) (by kernel_rfl) ((ints_size _ _).trans hp))) ?_
  refine seq_call (.tuple #[.agg (ints .u8 (List.replicate 32 0)), .iface 80 (.int .i64 4)]) 45 #[.agg (ints .u8 (xs)), .agg (ints .u8 (ps))] 36 rfl (by kernel_rfl) (by kernel_rfl) ((agree_1 xs ps hx hb hp hbp h0) _) fun W10 e10 => ?_
  have x10 : Ext w W10 := Ext.tr x9 e10
  refine seq_val (.tuple #[.agg (ints .u8 (List.replicate 32 0)), .iface 80 (.int .i64 4)]) 33 rfl (by kernel_rfl) (by kernel_rfl) ?_
  refine seq_val (.agg (ints .u8 (List.replicate 32 0))) 37 rfl (by kernel_rfl) (by kernel_rfl) ?_
  refine seq_val (.iface 80 (.int .i64 4)) 38 rfl (by kernel_rfl) (by kernel_rfl) ?_
  refine seq_alloc (ints .u8 (List.replicate 32 0)) 23 9 rfl (by kernel_rfl) (by kernel_rfl) fun g13 W11 l13 e11 r13_11 => ?_
  have x11 : Ext w W11 := Ext.tr x10 e11
  have b13 : w.heap.size ≤ g13 := Nat.le_trans x10.size l13
  refine seq_store g13 _ (ints .u8 (List.replicate 32 0)) 23 r13_11 rfl (by kernel_rfl) (run_store_row 23 _ _ g13 23 _ _ r13_11 rfl (by kernel_rfl) (by kernel_rfl) (isz (n := 32) (by kernel_rfl) ((ints_size _ _).trans zlen)) (eqsz (n := 32) ((ints_size _ _).trans zlen) ((ints_size _ _).trans zlen)) (ints_one _ _)) fun W12 p12 r13_12 => ?_
  have x12 : Ext w W12 := Puts.ext p12 x11 b13
  refine seq_val (.iface 80 (.int .i64 4)) 10 rfl (by kernel_rfl) (by kernel_rfl) ?_
  refine seq_nil ?_
  refine hK12 _ _ ?_
  try clear hK12 K12
  refine wp_seq_k fun K14 hK14 => ?_
  refine region_lit ?_
  have r7_10 := (row_ext (Puts.row p9 r7_8 (Ne.symm n8_7)) e10)
  have r7_12 := (Puts.row p12 (row_ext (row_ext (Puts.row p9 r7_8 (Ne.symm n8_7)) e10) e11) (ne_of_old r7_10 l13))
  refine seq_val (.agg (ints .u8 (((xs).set 0 (bits .xor .u8 ((nth (xs) 0)) ((bits .and .u8 (b) (7))))).set 31 (bits .xor .u8 ((nth ((xs).set 0 (bits .xor .u8 ((nth (xs) 0)) ((bits .and .u8 (b) (7))))) 31)) ((bits .and .u8 (b) (192))))))) 40 rfl (by kernel_rfl) (run_load_row 23 _ g7 23 _ _ r7_12 rfl (by kernel_rfl) (by kernel_rfl) (isz (n := 32) (by kernel_rfl) ((ints_size _ _).trans ((List.length_set ..).trans ((List.length_set ..).trans hx))))) ?_
  have r8_10 := (row_ext r8_9 e10)
  have r8_12 := (Puts.row p12 (row_ext (row_ext r8_9 e10) e11) (ne_of_old r8_10 l13))
  refine seq_val (.agg (ints .u8 ((ps).set 31 (bits .xor .u8 ((nth (ps) 31)) (128))))) 41 rfl (by kernel_rfl) (run_load_row 23 _ g8 23 _ _ r8_12 rfl (by kernel_rfl) (by kernel_rfl) (isz (n := 32) (by kernel_rfl) ((ints_size _ _).trans ((List.length_set ..).trans hp)))) ?_
  refine seq_call (.tuple #[.agg (ints .u8 (List.replicate 32 0)), .iface 80 (.int .i64 4)]) 45 #[.agg (ints .u8 (((xs).set 0 (bits .xor .u8 ((nth (xs) 0)) ((bits .and .u8 (b) (7))))).set 31 (bits .xor .u8 ((nth ((xs).set 0 (bits .xor .u8 ((nth (xs) 0)) ((bits .and .u8 (b) (7))))) 31)) ((bits .and .u8 (b) (192)))))), .agg (ints .u8 ((ps).set 31 (bits .xor .u8 ((nth (ps) 31)) (128))))] 42 rfl (by kernel_rfl) (by kernel_rfl) ((agreeT_1 xs ps b hx hb hp hbp h h0) _) fun W13 e13 => ?_
  have x13 : Ext w W13 := Ext.tr x12 e13
  refine seq_val (.tuple #[.agg (ints .u8 (List.replicate 32 0)), .iface 80 (.int .i64 4)]) 39 rfl (by kernel_rfl) (by kernel_rfl) ?_
  refine seq_val (.agg (ints .u8 (List.replicate 32 0))) 43 rfl (by kernel_rfl) (by kernel_rfl) ?_
  refine seq_val (.iface 80 (.int .i64 4)) 44 rfl (by kernel_rfl) (by kernel_rfl) ?_
  refine seq_alloc (ints .u8 (List.replicate 32 0)) 23 11 rfl (by kernel_rfl) (by kernel_rfl) fun g15 W14 l15 e14 r15_14 => ?_
  have x14 : Ext w W14 := Ext.tr x13 e14
  have b15 : w.heap.size ≤ g15 := Nat.le_trans x13.size l15
  refine seq_store g15 _ (ints .u8 (List.replicate 32 0)) 23 r15_14 rfl (by kernel_rfl) (run_store_row 23 _ _ g15 23 _ _ r15_14 rfl (by kernel_rfl) (by kernel_rfl) (isz (n := 32) (by kernel_rfl) ((ints_size _ _).trans zlen)) (eqsz (n := 32) ((ints_size _ _).trans zlen) ((ints_size _ _).trans zlen)) (ints_one _ _)) fun W15 p15 r15_15 => ?_
  have x15 : Ext w W15 := Puts.ext p15 x14 b15
  refine seq_val (.iface 80 (.int .i64 4)) 12 rfl (by kernel_rfl) (by kernel_rfl) ?_
  refine seq_nil ?_
  refine hK14 _ _ ?_
  try clear hK14 K14
  refine wp_seq_k fun K16 hK16 => ?_
  refine any_region 24 [⟨none, [(9, none)]⟩, ⟨none, [(11, none)]⟩, ⟨none, [(45, some 0), (46, some 1)]⟩, ⟨none, [(47, some 2)]⟩, ⟨some (48, true), [(10, none), (48, some 3)]⟩, ⟨some (48, true), [(49, some 4), (48, some 3)]⟩, ⟨some (48, true), [(12, none), (48, some 3)]⟩, ⟨some (48, true), [(51, some 6), (48, some 3)]⟩, ⟨some (48, true), [(50, some 5), (52, some 7), (48, some 3)]⟩, ⟨none, [(48, some 3), (53, some 8)]⟩, ⟨none, [(54, some 9)]⟩, ⟨some (55, true), [(3, none), (55, some 10)]⟩, ⟨some (55, true), [(56, some 11), (55, some 10)]⟩, ⟨some (55, true), [(7, none), (55, some 10)]⟩, ⟨some (55, true), [(58, some 13), (55, some 10)]⟩, ⟨some (55, true), [(57, some 12), (59, some 14), (55, some 10)]⟩, ⟨none, [(55, some 10), (60, some 15)]⟩, ⟨none, [(61, some 16)]⟩, ⟨some (62, true), [(3, none), (62, some 17)]⟩, ⟨some (62, true), [(63, some 18), (62, some 17)]⟩, ⟨some (62, true), [(7, none), (62, some 17)]⟩, ⟨some (62, true), [(65, some 20), (62, some 17)]⟩, ⟨some (62, true), [(64, some 19), (66, some 21), (62, some 17)]⟩, ⟨none, [(62, some 17), (67, some 22)]⟩] (by kernel_rfl) (by kernel_rfl) fun F hF => ?_
  have r13_13 := (row_ext r13_12 e13)
  have r13_15 := (Puts.row p15 (row_ext (row_ext r13_12 e13) e14) (ne_of_old r13_13 l15))
  refine any_read (.agg (ints .u8 (List.replicate 32 0))) (by kernel_rfl) (by kernel_rfl) (fun W hR => (run_load_row 23 _ g13 23 _ _ (row_ext (row_ext r13_15 (ext_drew _)) hR) rfl (by kernel_rfl) (by kernel_rfl) (isz (n := 32) (by kernel_rfl) ((ints_size _ _).trans zlen)))) ?_
  refine any_read (.agg (ints .u8 (List.replicate 32 0))) (by kernel_rfl) (by kernel_rfl) (fun W hR => (run_load_row 23 _ g15 23 _ _ (row_ext (row_ext r15_15 (ext_drew _)) hR) rfl (by kernel_rfl) (by kernel_rfl) (isz (n := 32) (by kernel_rfl) ((ints_size _ _).trans zlen)))) ?_
  refine any_val (.bool true) (by kernel_rfl) (by kernel_rfl) (fun W => (run_eql_agg 23 _ _ _ _ _ (.bool true) rfl (by kernel_rfl) (by kernel_rfl) (by kernel_rfl) (eql_same 23 (e := 5) (k := .u8) _ zlen (by kernel_rfl) (by kernel_rfl) (by kernel_rfl) _))) ?_
  refine any_val (.bool true) (by kernel_rfl) (by kernel_rfl) (fun W => by kernel_rfl) ?_
  refine any_val (.iface 80 (.int .i64 4)) (by kernel_rfl) (by kernel_rfl) (fun W => by kernel_rfl) ?_
  refine any_call (.int .i64 4) 47 #[.iface 80 (.int .i64 4)] (by kernel_rfl) (by kernel_rfl) (fun W => by kernel_rfl) (fun W hR => num_4 W) ?_
  refine any_val (.iface 80 (.int .i64 4)) (by kernel_rfl) (by kernel_rfl) (fun W => by kernel_rfl) ?_
  refine any_call (.int .i64 4) 47 #[.iface 80 (.int .i64 4)] (by kernel_rfl) (by kernel_rfl) (fun W => by kernel_rfl) (fun W hR => num_4 W) ?_
  refine any_val (.bool true) (by kernel_rfl) (by kernel_rfl) (fun W => by kernel_rfl) ?_
  refine any_val (.bool true) (by kernel_rfl) (by kernel_rfl) (fun W => by kernel_rfl) ?_
  refine any_val (.bool true) (by kernel_rfl) (by kernel_rfl) (fun W => by kernel_rfl) ?_
  have r2_10 := (row_ext r2_9 e10)
  have r2_13 := (row_ext (Puts.row p12 (row_ext r2_10 e11) (ne_of_old r2_10 l13)) e13)
  have r2_15 := (Puts.row p15 (row_ext (row_ext (Puts.row p12 (row_ext (row_ext r2_9 e10) e11) (ne_of_old r2_10 l13)) e13) e14) (ne_of_old r2_13 l15))
  refine any_read (.agg (ints .u8 (xs))) (by kernel_rfl) (by kernel_rfl) (fun W hR => (run_load_row 23 _ g2 23 _ _ (row_ext (row_ext r2_15 (ext_drew _)) hR) rfl (by kernel_rfl) (by kernel_rfl) (isz (n := 32) (by kernel_rfl) ((ints_size _ _).trans hx)))) ?_
  refine any_call (.agg (ints .u8 (pubL xs))) 43 #[.agg (ints .u8 (xs))] (by kernel_rfl) (by kernel_rfl) (fun W => by kernel_rfl) (fun W hR => (public_ xs hx hb) W) ?_
  have r7_13 := (row_ext r7_12 e13)
  have r7_15 := (Puts.row p15 (row_ext (row_ext r7_12 e13) e14) (ne_of_old r7_13 l15))
  refine any_read (.agg (ints .u8 (((xs).set 0 (bits .xor .u8 ((nth (xs) 0)) ((bits .and .u8 (b) (7))))).set 31 (bits .xor .u8 ((nth ((xs).set 0 (bits .xor .u8 ((nth (xs) 0)) ((bits .and .u8 (b) (7))))) 31)) ((bits .and .u8 (b) (192))))))) (by kernel_rfl) (by kernel_rfl) (fun W hR => (run_load_row 23 _ g7 23 _ _ (row_ext (row_ext r7_15 (ext_drew _)) hR) rfl (by kernel_rfl) (by kernel_rfl) (isz (n := 32) (by kernel_rfl) ((ints_size _ _).trans ((List.length_set ..).trans ((List.length_set ..).trans hx)))))) ?_
  refine any_call (.agg (ints .u8 (pubL xs))) 43 #[.agg (ints .u8 (((xs).set 0 (bits .xor .u8 ((nth (xs) 0)) ((bits .and .u8 (b) (7))))).set 31 (bits .xor .u8 ((nth ((xs).set 0 (bits .xor .u8 ((nth (xs) 0)) ((bits .and .u8 (b) (7))))) 31)) ((bits .and .u8 (b) (192))))))] (by kernel_rfl) (by kernel_rfl) (fun W => by kernel_rfl) (fun W hR => (publicT xs b hx hb h) W) ?_
  refine any_val (.bool true) (by kernel_rfl) (by kernel_rfl) (fun W => (run_eql_agg 23 _ _ _ _ _ (.bool true) rfl (by kernel_rfl) (by kernel_rfl) (by kernel_rfl) (eql_same 23 (e := 5) (k := .u8) _ (pubL_len xs) (by kernel_rfl) (by kernel_rfl) (by kernel_rfl) _))) ?_
  refine any_val (.bool true) (by kernel_rfl) (by kernel_rfl) (fun W => by kernel_rfl) ?_
  refine any_val (.bool true) (by kernel_rfl) (by kernel_rfl) (fun W => by kernel_rfl) ?_
  refine any_read (.agg (ints .u8 (xs))) (by kernel_rfl) (by kernel_rfl) (fun W hR => (run_load_row 23 _ g2 23 _ _ (row_ext (row_ext r2_15 (ext_drew _)) hR) rfl (by kernel_rfl) (by kernel_rfl) (isz (n := 32) (by kernel_rfl) ((ints_size _ _).trans hx)))) ?_
  refine any_call (.agg (ints .u8 (clamp xs))) 39 #[.agg (ints .u8 (xs))] (by kernel_rfl) (by kernel_rfl) (fun W => by kernel_rfl) (fun W hR => (clampC xs hx hb) W) ?_
  refine any_read (.agg (ints .u8 (((xs).set 0 (bits .xor .u8 ((nth (xs) 0)) ((bits .and .u8 (b) (7))))).set 31 (bits .xor .u8 ((nth ((xs).set 0 (bits .xor .u8 ((nth (xs) 0)) ((bits .and .u8 (b) (7))))) 31)) ((bits .and .u8 (b) (192))))))) (by kernel_rfl) (by kernel_rfl) (fun W hR => (run_load_row 23 _ g7 23 _ _ (row_ext (row_ext r7_15 (ext_drew _)) hR) rfl (by kernel_rfl) (by kernel_rfl) (isz (n := 32) (by kernel_rfl) ((ints_size _ _).trans ((List.length_set ..).trans ((List.length_set ..).trans hx)))))) ?_
  refine any_call (.agg (ints .u8 (clamp xs))) 39 #[.agg (ints .u8 (((xs).set 0 (bits .xor .u8 ((nth (xs) 0)) ((bits .and .u8 (b) (7))))).set 31 (bits .xor .u8 ((nth ((xs).set 0 (bits .xor .u8 ((nth (xs) 0)) ((bits .and .u8 (b) (7))))) 31)) ((bits .and .u8 (b) (192))))))] (by kernel_rfl) (by kernel_rfl) (fun W => by kernel_rfl) (fun W hR => (clampT xs b hx hb h) W) ?_
  refine any_val (.bool true) (by kernel_rfl) (by kernel_rfl) (fun W => (run_eql_agg 23 _ _ _ _ _ (.bool true) rfl (by kernel_rfl) (by kernel_rfl) (by kernel_rfl) (eql_same 23 (e := 5) (k := .u8) _ (clamp_len xs hx) (by kernel_rfl) (by kernel_rfl) (by kernel_rfl) _))) ?_
  refine any_val (.bool true) (by kernel_rfl) (by kernel_rfl) (fun W => by kernel_rfl) ?_
  refine steps_nil (hF _ (by kernel_rfl) fun W16 e16 => ?_)
  simp only [ups, up, Kn.val, List.take_succ_cons, List.take_zero, List.drop_succ_cons, List.drop_zero, List.nil_append, List.cons_append]
  clear hF
  have x16 : Ext w W16 := Ext.tr x15 e16
  refine seq_val (.bool true) 6 rfl (by kernel_rfl) (by kernel_rfl) ?_
  refine seq_nil ?_
  refine hK16 _ _ ?_
  try clear hK16 K16
  refine wp_ret ?_
  exact (show bodyPost _ _ _ .ret _ _ from ret1 (.bool true) rfl (res_tmp (by kernel_rfl)) ⟨rfl, x16⟩)
theorem sameLaw (xs ps : List Int) (b : Int) (hx : xs.length = 32) (hp : ps.length = 32) (hb : AreBytes xs) (hbp : AreBytes ps) (h : 0 ≤ b ∧ b ≤ 255) (w : World) : Calls Try.prog 16 #[.agg (ints .u8 xs), .agg (ints .u8 ps), .int .u8 b] w fun e w' => e = .returned (.bool true) ∧ Below w.heap.size w w' := by
  cases h0 : (agN xs ps == 0)
  · exact sameLaw_0 xs ps b hx hp hb hbp h h0 w
  · exact sameLaw_1 xs ps b hx hp hb hbp h h0 w

end Go.Proofs.Ytaojnmjmmfdfjaa.Field
