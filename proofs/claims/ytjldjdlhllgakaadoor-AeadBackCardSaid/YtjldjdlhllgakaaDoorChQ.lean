/- ChaCha20: Piece. -/
import Derived.Test.YtjldjdlhllgakaaDoorChP
namespace Go.Proofs.YtjldjdlhllgakaaDoor.Cha
open Go Go.RowKit
open Go.Proofs.YtjldjdlhllgakaaDoor.Rely Go.Proofs.YtjldjdlhllgakaaDoor.Auto Go.Proofs.YtjldjdlhllgakaaDoor.Own Go.Proofs.YtjldjdlhllgakaaDoor.Sha
set_option linter.unusedVariables false
set_option linter.unusedSimpArgs false

open Go.Proofs.YtjldjdlhllgakaaDoor.Sha
/-- the first words of a key's pieces -/
def startW (key nonce : List Int) : List Wd := [1634760805, 857760878, 2036477234, 1797285236, le4 (sub4 key 0), le4 (sub4 key 1), le4 (sub4 key 2), le4 (sub4 key 3), le4 (sub4 key 4), le4 (sub4 key 5), le4 (sub4 key 6), le4 (sub4 key 7), 0, le4 (sub4 nonce 0), le4 (sub4 nonce 1), le4 (sub4 nonce 2)]
theorem startW_len (key nonce : List Int) : (startW key nonce).length = 16 := rfl
theorem startL (key nonce : List Int) : ([1634760805, 857760878, 2036477234, 1797285236, wv (le4 (sub4 key 0)), wv (le4 (sub4 key 1)), wv (le4 (sub4 key 2)), wv (le4 (sub4 key 3)), wv (le4 (sub4 key 4)), wv (le4 (sub4 key 5)), wv (le4 (sub4 key 6)), wv (le4 (sub4 key 7)), 0, wv (le4 (sub4 nonce 0)), wv (le4 (sub4 nonce 1)), wv (le4 (sub4 nonce 2))] : List Int) = (startW key nonce).map wv := rfl
theorem pieceV_len (ws : List Wd) (n : Int) : (pieceV ws n).length = 64 := pieceB_len _ _
set_option maxRecDepth 100000 in
set_option maxHeartbeats 4000000 in
theorem Piece_A (key nonce : List Int) (v : Value) (B : Nat) (number : Int) (th tq : TypeId) (w : World) (hh : w.heap[0]? = some (.cells (ints .u32 [1634760805, 857760878, 2036477234, 1797285236]) th)) (hq : w.heap[1]? = some (.cells (ints .i64 [0, 4, 8, 12, 1, 5, 9, 13, 2, 6, 10, 14, 3, 7, 11, 15, 0, 5, 10, 15, 1, 6, 11, 12, 2, 7, 8, 13, 3, 4, 9, 14]) tq)) (hkl : key.length = 32) (hn : RdK .u8 B nonce v w) (h : nonce.length ≠ 12) : Calls Tryd.prog 43 #[.agg (ints .u8 key), v, .int .i64 number] w (Ret w (.tuple #[.agg (ints .u8 (List.replicate 64 0)), .iface 45 (.int .i64 1)])) := by
  obtain ⟨a_n, c_n, rfl, -⟩ := id hn
  refine enter 21 [(0, .agg (ints .u8 (key))), (1, .slice a_n nonce.length c_n), (2, .int .i64 number)] Tryd.func43 rfl rfl kj rfl ?_
  refine wp_seq_k fun K3 hK3 => ?_
  refine region_lit ?_
  refine seq_alloc (ints .u8 (key)) 23 3 rfl kj kj fun g4 W1 l4 e1 r4_1 => ?_
  have x1 : Ext w W1 := Ext.tr (Rely.Ext.refl w) e1
  have b4 : w.heap.size ≤ g4 := Nat.le_trans (Rely.Ext.refl w).size l4
  refine seq_alloc (ints .u8 (List.replicate 64 0)) 78 6 rfl kj kj fun g5 W2 l5 e2 r5_2 => ?_
  have x2 : Ext w W2 := Ext.tr x1 e2
  have b5 : w.heap.size ≤ g5 := Nat.le_trans x1.size l5
  refine seq_val (.nilIface) 7 rfl kj kj ?_
  refine seq_nil ?_
  refine hK3 _ _ ?_
  try clear hK3 K3
  refine wp_seq_k fun K6 hK6 => ?_
  refine wp_seq_k fun K7 hK7 => ?_
  refine region_lit ?_
  refine seq_val (.slice a_n nonce.length c_n) 9 rfl kj kj ?_
  refine seq_val (.int .i64 number) 10 rfl kj kj ?_
  refine seq_call (.iface 45 (.int .i64 1)) 41 #[.slice a_n nonce.length c_n, .int .i64 number] 11 rfl kj kj ((check_A nonce _ _ number _ (RdK.ext hn x2) h)) fun W3 e3 => ?_
  have x3 : Ext w W3 := Ext.tr x2 e3
  refine seq_val (.iface 45 (.int .i64 1)) 8 rfl kj kj ?_
  refine seq_nil ?_
  refine hK7 _ _ ?_
  try clear hK7 K7
  refine wp_seq_k fun K8 hK8 => ?_
  refine region_lit ?_
  refine seq_val (.iface 45 (.int .i64 1)) 12 rfl kj kj ?_
  refine seq_val (.bool true) 13 rfl kj kj ?_
  refine seq_nil ?_
  refine hK8 _ _ ?_
  try clear hK8 K8
  refine cond_true kj ?_
  refine wp_seq_k fun K9 hK9 => ?_
  refine region_lit ?_
  refine seq_val (.agg (ints .u8 (List.replicate 64 0))) 14 rfl kj kj ?_
  refine seq_val (.iface 45 (.int .i64 1)) 15 rfl kj kj ?_
  have r5_3 := (row_ext r5_2 e3)
  refine seq_store g5 _ (ints .u8 (List.replicate 64 0)) 78 r5_3 rfl kj (run_store_row 78 _ _ g5 78 _ _ r5_3 rfl kj kj (isz (n := 64) kj ((ints_size _ _).trans (List.length_replicate (n := 64)))) (eqsz (n := 64) ((ints_size _ _).trans (List.length_replicate (n := 64))) ((ints_size _ _).trans (List.length_replicate (n := 64)))) (ints_one _ _)) fun W4 p4 r5_4 => ?_
  have x4 : Ext w W4 := Puts.ext p4 x3 b5
  refine seq_val (.iface 45 (.int .i64 1)) 7 rfl kj kj ?_
  refine seq_nil ?_
  refine hK9 _ _ ?_
  try clear hK9 K9
  refine wp_ret ?_
  repeat (first | with_reducible refine goR1 ?_ | with_reducible refine goR2 ?_)
  exact (show bodyPost _ _ _ .ret _ _ from ret2 (.agg (ints .u8 (List.replicate 64 0))) (.iface 45 (.int .i64 1)) rfl (res_cell g5 78 _ r5_4 kj kj (isz (n := 64) kj ((ints_size _ _).trans (List.length_replicate (n := 64))))) (res_tmp kj) ⟨rfl, x4⟩)
set_option maxRecDepth 100000 in
set_option maxHeartbeats 4000000 in
theorem Piece_B (key nonce : List Int) (v : Value) (B : Nat) (number : Int) (th tq : TypeId) (w : World) (hh : w.heap[0]? = some (.cells (ints .u32 [1634760805, 857760878, 2036477234, 1797285236]) th)) (hq : w.heap[1]? = some (.cells (ints .i64 [0, 4, 8, 12, 1, 5, 9, 13, 2, 6, 10, 14, 3, 7, 11, 15, 0, 5, 10, 15, 1, 6, 11, 12, 2, 7, 8, 13, 3, 4, 9, 14]) tq)) (hkl : key.length = 32) (hn : RdK .u8 B nonce v w) (h : nonce.length = 12) (h1 : number < 0) : Calls Tryd.prog 43 #[.agg (ints .u8 key), v, .int .i64 number] w (Ret w (.tuple #[.agg (ints .u8 (List.replicate 64 0)), .iface 45 (.int .i64 8)])) := by
  obtain ⟨a_n, c_n, rfl, -⟩ := id hn
  refine enter 21 [(0, .agg (ints .u8 (key))), (1, .slice a_n nonce.length c_n), (2, .int .i64 number)] Tryd.func43 rfl rfl kj rfl ?_
  refine wp_seq_k fun K3 hK3 => ?_
  refine region_lit ?_
  refine seq_alloc (ints .u8 (key)) 23 3 rfl kj kj fun g4 W1 l4 e1 r4_1 => ?_
  have x1 : Ext w W1 := Ext.tr (Rely.Ext.refl w) e1
  have b4 : w.heap.size ≤ g4 := Nat.le_trans (Rely.Ext.refl w).size l4
  refine seq_alloc (ints .u8 (List.replicate 64 0)) 78 6 rfl kj kj fun g5 W2 l5 e2 r5_2 => ?_
  have x2 : Ext w W2 := Ext.tr x1 e2
  have b5 : w.heap.size ≤ g5 := Nat.le_trans x1.size l5
  refine seq_val (.nilIface) 7 rfl kj kj ?_
  refine seq_nil ?_
  refine hK3 _ _ ?_
  try clear hK3 K3
  refine wp_seq_k fun K6 hK6 => ?_
  refine wp_seq_k fun K7 hK7 => ?_
  refine region_lit ?_
  refine seq_val (.slice a_n nonce.length c_n) 9 rfl kj kj ?_
  refine seq_val (.int .i64 number) 10 rfl kj kj ?_
  refine seq_call (.iface 45 (.int .i64 8)) 41 #[.slice a_n nonce.length c_n, .int .i64 number] 11 rfl kj kj ((check_B nonce _ _ number _ (RdK.ext hn x2) h h1)) fun W3 e3 => ?_
  have x3 : Ext w W3 := Ext.tr x2 e3
  refine seq_val (.iface 45 (.int .i64 8)) 8 rfl kj kj ?_
  refine seq_nil ?_
  refine hK7 _ _ ?_
  try clear hK7 K7
  refine wp_seq_k fun K8 hK8 => ?_
  refine region_lit ?_
  refine seq_val (.iface 45 (.int .i64 8)) 12 rfl kj kj ?_
  refine seq_val (.bool true) 13 rfl kj kj ?_
  refine seq_nil ?_
  refine hK8 _ _ ?_
  try clear hK8 K8
  refine cond_true kj ?_
  refine wp_seq_k fun K9 hK9 => ?_
  refine region_lit ?_
  refine seq_val (.agg (ints .u8 (List.replicate 64 0))) 14 rfl kj kj ?_
  refine seq_val (.iface 45 (.int .i64 8)) 15 rfl kj kj ?_
  have r5_3 := (row_ext r5_2 e3)
  refine seq_store g5 _ (ints .u8 (List.replicate 64 0)) 78 r5_3 rfl kj (run_store_row 78 _ _ g5 78 _ _ r5_3 rfl kj kj (isz (n := 64) kj ((ints_size _ _).trans (List.length_replicate (n := 64)))) (eqsz (n := 64) ((ints_size _ _).trans (List.length_replicate (n := 64))) ((ints_size _ _).trans (List.length_replicate (n := 64)))) (ints_one _ _)) fun W4 p4 r5_4 => ?_
  have x4 : Ext w W4 := Puts.ext p4 x3 b5
  refine seq_val (.iface 45 (.int .i64 8)) 7 rfl kj kj ?_
  refine seq_nil ?_
  refine hK9 _ _ ?_
  try clear hK9 K9
  refine wp_ret ?_
  repeat (first | with_reducible refine goR1 ?_ | with_reducible refine goR2 ?_)
  exact (show bodyPost _ _ _ .ret _ _ from ret2 (.agg (ints .u8 (List.replicate 64 0))) (.iface 45 (.int .i64 8)) rfl (res_cell g5 78 _ r5_4 kj kj (isz (n := 64) kj ((ints_size _ _).trans (List.length_replicate (n := 64))))) (res_tmp kj) ⟨rfl, x4⟩)
set_option maxRecDepth 100000 in
set_option maxHeartbeats 4000000 in
theorem Piece_C (key nonce : List Int) (v : Value) (B : Nat) (number : Int) (th tq : TypeId) (w : World) (hh : w.heap[0]? = some (.cells (ints .u32 [1634760805, 857760878, 2036477234, 1797285236]) th)) (hq : w.heap[1]? = some (.cells (ints .i64 [0, 4, 8, 12, 1, 5, 9, 13, 2, 6, 10, 14, 3, 7, 11, 15, 0, 5, 10, 15, 1, 6, 11, 12, 2, 7, 8, 13, 3, 4, 9, 14]) tq)) (hkl : key.length = 32) (hn : RdK .u8 B nonce v w) (h : nonce.length = 12) (h1 : 0 ≤ number) (h2 : 4294967295 < number) : Calls Tryd.prog 43 #[.agg (ints .u8 key), v, .int .i64 number] w (Ret w (.tuple #[.agg (ints .u8 (List.replicate 64 0)), .iface 45 (.int .i64 8)])) := by
  obtain ⟨a_n, c_n, rfl, -⟩ := id hn
  refine enter 21 [(0, .agg (ints .u8 (key))), (1, .slice a_n nonce.length c_n), (2, .int .i64 number)] Tryd.func43 rfl rfl kj rfl ?_
  refine wp_seq_k fun K3 hK3 => ?_
  refine region_lit ?_
  refine seq_alloc (ints .u8 (key)) 23 3 rfl kj kj fun g4 W1 l4 e1 r4_1 => ?_
  have x1 : Ext w W1 := Ext.tr (Rely.Ext.refl w) e1
  have b4 : w.heap.size ≤ g4 := Nat.le_trans (Rely.Ext.refl w).size l4
  refine seq_alloc (ints .u8 (List.replicate 64 0)) 78 6 rfl kj kj fun g5 W2 l5 e2 r5_2 => ?_
  have x2 : Ext w W2 := Ext.tr x1 e2
  have b5 : w.heap.size ≤ g5 := Nat.le_trans x1.size l5
  refine seq_val (.nilIface) 7 rfl kj kj ?_
  refine seq_nil ?_
  refine hK3 _ _ ?_
  try clear hK3 K3
  refine wp_seq_k fun K6 hK6 => ?_
  refine wp_seq_k fun K7 hK7 => ?_
  refine region_lit ?_
  refine seq_val (.slice a_n nonce.length c_n) 9 rfl kj kj ?_
  refine seq_val (.int .i64 number) 10 rfl kj kj ?_
  refine seq_call (.iface 45 (.int .i64 8)) 41 #[.slice a_n nonce.length c_n, .int .i64 number] 11 rfl kj kj ((check_C nonce _ _ number _ (RdK.ext hn x2) h h1 h2)) fun W3 e3 => ?_
  have x3 : Ext w W3 := Ext.tr x2 e3
  refine seq_val (.iface 45 (.int .i64 8)) 8 rfl kj kj ?_
  refine seq_nil ?_
  refine hK7 _ _ ?_
  try clear hK7 K7
  refine wp_seq_k fun K8 hK8 => ?_
  refine region_lit ?_
  refine seq_val (.iface 45 (.int .i64 8)) 12 rfl kj kj ?_
  refine seq_val (.bool true) 13 rfl kj kj ?_
  refine seq_nil ?_
  refine hK8 _ _ ?_
  try clear hK8 K8
  refine cond_true kj ?_
  refine wp_seq_k fun K9 hK9 => ?_
  refine region_lit ?_
  refine seq_val (.agg (ints .u8 (List.replicate 64 0))) 14 rfl kj kj ?_
  refine seq_val (.iface 45 (.int .i64 8)) 15 rfl kj kj ?_
  have r5_3 := (row_ext r5_2 e3)
  refine seq_store g5 _ (ints .u8 (List.replicate 64 0)) 78 r5_3 rfl kj (run_store_row 78 _ _ g5 78 _ _ r5_3 rfl kj kj (isz (n := 64) kj ((ints_size _ _).trans (List.length_replicate (n := 64)))) (eqsz (n := 64) ((ints_size _ _).trans (List.length_replicate (n := 64))) ((ints_size _ _).trans (List.length_replicate (n := 64)))) (ints_one _ _)) fun W4 p4 r5_4 => ?_
  have x4 : Ext w W4 := Puts.ext p4 x3 b5
  refine seq_val (.iface 45 (.int .i64 8)) 7 rfl kj kj ?_
  refine seq_nil ?_
  refine hK9 _ _ ?_
  try clear hK9 K9
  refine wp_ret ?_
  repeat (first | with_reducible refine goR1 ?_ | with_reducible refine goR2 ?_)
  exact (show bodyPost _ _ _ .ret _ _ from ret2 (.agg (ints .u8 (List.replicate 64 0))) (.iface 45 (.int .i64 8)) rfl (res_cell g5 78 _ r5_4 kj kj (isz (n := 64) kj ((ints_size _ _).trans (List.length_replicate (n := 64))))) (res_tmp kj) ⟨rfl, x4⟩)
set_option maxRecDepth 100000 in
set_option maxHeartbeats 4000000 in
theorem Piece_D (key nonce : List Int) (v : Value) (B : Nat) (number : Int) (th tq : TypeId) (w : World) (hh : w.heap[0]? = some (.cells (ints .u32 [1634760805, 857760878, 2036477234, 1797285236]) th)) (hq : w.heap[1]? = some (.cells (ints .i64 [0, 4, 8, 12, 1, 5, 9, 13, 2, 6, 10, 14, 3, 7, 11, 15, 0, 5, 10, 15, 1, 6, 11, 12, 2, 7, 8, 13, 3, 4, 9, 14]) tq)) (hkl : key.length = 32) (hn : RdK .u8 B nonce v w) (h : nonce.length = 12) (h1 : 0 ≤ number) (h2 : number ≤ 4294967295) : Calls Tryd.prog 43 #[.agg (ints .u8 key), v, .int .i64 number] w (Ret w (.tuple #[.agg (ints .u8 (pieceV (startW key nonce) number)), .nilIface])) := by
  obtain ⟨a_n, c_n, rfl, -⟩ := id hn
  refine enter 21 [(0, .agg (ints .u8 (key))), (1, .slice a_n nonce.length c_n), (2, .int .i64 number)] Tryd.func43 rfl rfl kj rfl ?_
  refine wp_seq_k fun K3 hK3 => ?_
  refine region_lit ?_
  refine seq_alloc (ints .u8 (key)) 23 3 rfl kj kj fun g4 W1 l4 e1 r4_1 => ?_
  have x1 : Ext w W1 := Ext.tr (Rely.Ext.refl w) e1
  have b4 : w.heap.size ≤ g4 := Nat.le_trans (Rely.Ext.refl w).size l4
  refine seq_alloc (ints .u8 (List.replicate 64 0)) 78 6 rfl kj kj fun g5 W2 l5 e2 r5_2 => ?_
  have x2 : Ext w W2 := Ext.tr x1 e2
  have b5 : w.heap.size ≤ g5 := Nat.le_trans x1.size l5
  refine seq_val (.nilIface) 7 rfl kj kj ?_
  refine seq_nil ?_
  refine hK3 _ _ ?_
  try clear hK3 K3
  refine wp_seq_k fun K6 hK6 => ?_
  refine wp_seq_k fun K7 hK7 => ?_
  refine region_lit ?_
  refine seq_val (.slice a_n nonce.length c_n) 9 rfl kj kj ?_
  refine seq_val (.int .i64 number) 10 rfl kj kj ?_
  refine seq_call (.nilIface) 41 #[.slice a_n nonce.length c_n, .int .i64 number] 11 rfl kj kj ((check_D nonce _ _ number _ (RdK.ext hn x2) h h1 h2)) fun W3 e3 => ?_
  have x3 : Ext w W3 := Ext.tr x2 e3
  refine seq_val (.nilIface) 8 rfl kj kj ?_
  refine seq_nil ?_
  refine hK7 _ _ ?_
  try clear hK7 K7
  refine wp_seq_k fun K8 hK8 => ?_
  refine region_lit ?_
  refine seq_val (.nilIface) 12 rfl kj kj ?_
  refine seq_val (.bool false) 13 rfl kj kj ?_
  refine seq_nil ?_
  refine hK8 _ _ ?_
  try clear hK8 K8
  refine cond_false kj ?_
  refine wp_skip ?_
  refine hK6 _ _ ?_
  try clear hK6 K6
  refine wp_seq_k fun K9 hK9 => ?_
  refine region_lit ?_
  have r4_2 := (row_ext r4_1 e2)
  have r4_3 := (row_ext r4_2 e3)
  refine seq_val (.agg (ints .u8 (key))) 16 rfl kj (run_load_row 23 _ g4 23 _ _ r4_3 rfl kj kj (isz (n := 32) kj ((ints_size _ _).trans hkl))) ?_
  refine seq_val (.slice a_n nonce.length c_n) 17 rfl kj kj ?_
  have r2_1 := (row_ext hh e1)
  have r2_2 := (row_ext r2_1 e2)
  have r2_3 := (row_ext r2_2 e3)
  refine seq_call (.agg (ints .u32 ((startW key nonce).map wv))) 50 #[.agg (ints .u8 (key)), .slice a_n nonce.length c_n] 18 rfl kj kj ((by rw [← startL]; exact startC key nonce _ _ th _ r2_3 hkl (RdK.ext hn x3) h)) fun W4 e4 => ?_
  have x4 : Ext w W4 := Ext.tr x3 e4
  refine seq_val (.int .i64 number) 19 rfl kj kj ?_
  have r1_1 := (row_ext hq e1)
  have r1_2 := (row_ext r1_1 e2)
  have r1_3 := (row_ext r1_2 e3)
  have r1_4 := (row_ext r1_3 e4)
  refine seq_call (.agg (ints .u8 (pieceV (startW key nonce) number))) 52 #[.agg (ints .u32 ((startW key nonce).map wv)), .int .i64 number] 20 rfl kj kj ((pieceC (startW key nonce) number tq _ r1_4 (startW_len _ _))) fun W5 e5 => ?_
  have x5 : Ext w W5 := Ext.tr x4 e5
  have r5_3 := (row_ext r5_2 e3)
  have r5_4 := (row_ext r5_3 e4)
  have r5_5 := (row_ext r5_4 e5)
  refine seq_store g5 _ (ints .u8 (pieceV (startW key nonce) number)) 78 r5_5 rfl kj (run_store_row 78 _ _ g5 78 _ _ r5_5 rfl kj kj (isz (n := 64) kj ((ints_size _ _).trans (pieceV_len _ _))) (eqsz (n := 64) ((ints_size _ _).trans (List.length_replicate (n := 64))) ((ints_size _ _).trans (pieceV_len _ _))) (ints_one _ _)) fun W6 p6 r5_6 => ?_
  have x6 : Ext w W6 := Puts.ext p6 x5 b5
  refine seq_val (.nilIface) 7 rfl kj kj ?_
  refine seq_nil ?_
  refine hK9 _ _ ?_
  try clear hK9 K9
  refine wp_ret ?_
  repeat (first | with_reducible refine goR1 ?_ | with_reducible refine goR2 ?_)
  exact (show bodyPost _ _ _ .ret _ _ from ret2 (.agg (ints .u8 (pieceV (startW key nonce) number))) (.nilIface) rfl (res_cell g5 78 _ r5_6 kj kj (isz (n := 64) kj ((ints_size _ _).trans (pieceV_len _ _)))) (res_tmp kj) ⟨rfl, x6⟩)

end Go.Proofs.YtjldjdlhllgakaaDoor.Cha
