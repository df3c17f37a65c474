/- ChaCha20: the reference's Mix. -/
import Derived.Test.YticjghmgbmjkiaaDoorChT
namespace Go.Proofs.YticjghmgbmjkiaaDoor.Cha
open Go Go.RowKit
open Go.Proofs.YticjghmgbmjkiaaDoor.Rely Go.Proofs.YticjghmgbmjkiaaDoor.Auto Go.Proofs.YticjghmgbmjkiaaDoor.Own Go.Proofs.YticjghmgbmjkiaaDoor.Sha
set_option linter.unusedVariables false
set_option linter.unusedSimpArgs false

open Go.Proofs.YticjghmgbmjkiaaDoor.Sha
/-- so much of a text, mixed with the pieces that f says -/
def mxv (text : List Int) (ws : List Wd) (num : Int) (f : Nat → Nat) (m : Nat) : List Int := (List.range m).map fun i => bits .xor .u8 (nth text i) (nth (pieceV ws (num + ((f (i / 64) : Nat) : Int))) (i % 64))
/-- a text, mixed -/
def mixV (ws : List Wd) (num : Int) (text : List Int) : List Int := mxv text ws num id text.length
theorem mxv_len (text : List Int) (ws : List Wd) (num : Int) (f : Nat → Nat) (m : Nat) : (mxv text ws num f m).length = m := by simp [mxv]
theorem mxv_succ (text : List Int) (ws : List Wd) (num : Int) (f : Nat → Nat) (m : Nat) : mxv text ws num f (m + 1) = mxv text ws num f m ++ [bits .xor .u8 (nth text m) (nth (pieceV ws (num + ((f (m / 64) : Nat) : Int))) (m % 64))] := by simp [mxv, List.range_succ]
set_option maxRecDepth 100000 in
set_option maxHeartbeats 4000000 in
theorem rMix_A (key nonce text : List Int) (v v2 : Value) (B B2 : Nat) (number : Int) (w : World) (hkl : key.length = 32) (hkb : AreBytes key) (hnb : AreBytes nonce) (hn : RdK .u8 B nonce v w) (ht : RdK .u8 B2 text v2 w) (h : nonce.length ≠ 12) : Calls Tryd.prog 20 #[.agg (ints .u8 key), v, .int .i64 number, v2] w (Ret w (.tuple #[.slice none 0 0, .int .i64 1])) := by
  obtain ⟨a_n, c_n, rfl, -⟩ := id hn
  obtain ⟨a_t, c_t, rfl, -⟩ := id ht
  refine enter 58 [(0, .agg (ints .u8 (key))), (1, .slice a_n nonce.length c_n), (2, .int .i64 number), (3, .slice a_t text.length c_t)] Tryd.func20 rfl rfl kj rfl ?_
  refine wp_seq_k fun K1 hK1 => ?_
  refine region_lit ?_
  refine seq_alloc (ints .u8 (key)) 23 4 rfl kj kj fun g2 W1 l2 e1 r2_1 => ?_
  have x1 : Ext w W1 := Ext.tr (Rely.Ext.refl w) e1
  have b2 : w.heap.size ≤ g2 := Nat.le_trans (Rely.Ext.refl w).size l2
  refine seq_val (.slice none 0 0) 8 rfl kj kj ?_
  refine seq_val (.int .i64 0) 9 rfl kj kj ?_
  refine seq_nil ?_
  refine hK1 _ _ ?_
  try clear hK1 K1
  refine wp_seq_k fun K3 hK3 => ?_
  refine wp_seq_k fun K4 hK4 => ?_
  refine region_lit ?_
  refine seq_val (.agg (ints .u8 (key))) 17 rfl kj (run_load_row 23 _ g2 23 _ _ r2_1 rfl kj kj (isz (n := 32) kj ((ints_size _ _).trans hkl))) ?_
  refine seq_val (.slice a_n nonce.length c_n) 18 rfl kj kj ?_
  refine seq_val (.int .i64 number) 19 rfl kj kj ?_
  refine seq_call (.tuple #[.agg (ints .u8 (List.replicate 64 0)), .int .i64 1]) 15 #[.agg (ints .u8 (key)), .slice a_n nonce.length c_n, .int .i64 number] 20 rfl kj kj ((rPiece_A key nonce _ _ number _ hkl (RdK.ext hn x1) h)) fun W2 e2 => ?_
  have x2 : Ext w W2 := Ext.tr x1 e2
  refine seq_val (.tuple #[.agg (ints .u8 (List.replicate 64 0)), .int .i64 1]) 16 rfl kj kj ?_
  refine seq_val (.agg (ints .u8 (List.replicate 64 0))) 21 rfl kj kj ?_
  refine seq_val (.int .i64 1) 22 rfl kj kj ?_
  refine seq_alloc (ints .u8 (List.replicate 64 0)) 28 10 rfl kj kj fun g5 W3 l5 e3 r5_3 => ?_
  have x3 : Ext w W3 := Ext.tr x2 e3
  have b5 : w.heap.size ≤ g5 := Nat.le_trans x2.size l5
  refine seq_store g5 _ (ints .u8 (List.replicate 64 0)) 28 r5_3 rfl kj (run_store_row 28 _ _ g5 28 _ _ r5_3 rfl kj kj (isz (n := 64) kj ((ints_size _ _).trans (List.length_replicate (n := 64)))) (eqsz (n := 64) ((ints_size _ _).trans (List.length_replicate (n := 64))) ((ints_size _ _).trans (List.length_replicate (n := 64)))) (ints_one _ _)) fun W4 p4 r5_4 => ?_
  have x4 : Ext w W4 := Puts.ext p4 x3 b5
  refine seq_val (.int .i64 1) 11 rfl kj kj ?_
  refine seq_nil ?_
  refine hK4 _ _ ?_
  try clear hK4 K4
  refine wp_seq_k fun K6 hK6 => ?_
  refine region_lit ?_
  refine seq_val (.int .i64 1) 23 rfl kj kj ?_
  refine seq_val (.bool true) 24 rfl kj kj ?_
  refine seq_nil ?_
  refine hK6 _ _ ?_
  try clear hK6 K6
  refine cond_true kj ?_
  refine wp_seq_k fun K7 hK7 => ?_
  refine region_lit ?_
  refine seq_val (.int .i64 1) 25 rfl kj kj ?_
  refine seq_val (.slice none 0 0) 8 rfl kj kj ?_
  refine seq_val (.int .i64 1) 9 rfl kj kj ?_
  refine seq_nil ?_
  refine hK7 _ _ ?_
  try clear hK7 K7
  refine wp_ret ?_
  repeat (first | with_reducible refine goR1 ?_ | with_reducible refine goR2 ?_)
  exact (show bodyPost _ _ _ .ret _ _ from ret2 (.slice none 0 0) (.int .i64 1) rfl (res_tmp kj) (res_tmp kj) ⟨rfl, x4⟩)
set_option maxRecDepth 100000 in
set_option maxHeartbeats 4000000 in
theorem rMix_B (key nonce text : List Int) (v v2 : Value) (B B2 : Nat) (number : Int) (w : World) (hkl : key.length = 32) (hkb : AreBytes key) (hnb : AreBytes nonce) (hn : RdK .u8 B nonce v w) (ht : RdK .u8 B2 text v2 w) (h : nonce.length = 12) (h1 : number < 0) : Calls Tryd.prog 20 #[.agg (ints .u8 key), v, .int .i64 number, v2] w (Ret w (.tuple #[.slice none 0 0, .int .i64 8])) := by
  obtain ⟨a_n, c_n, rfl, -⟩ := id hn
  obtain ⟨a_t, c_t, rfl, -⟩ := id ht
  refine enter 58 [(0, .agg (ints .u8 (key))), (1, .slice a_n nonce.length c_n), (2, .int .i64 number), (3, .slice a_t text.length c_t)] Tryd.func20 rfl rfl kj rfl ?_
  refine wp_seq_k fun K1 hK1 => ?_
  refine region_lit ?_
  refine seq_alloc (ints .u8 (key)) 23 4 rfl kj kj fun g2 W1 l2 e1 r2_1 => ?_
  have x1 : Ext w W1 := Ext.tr (Rely.Ext.refl w) e1
  have b2 : w.heap.size ≤ g2 := Nat.le_trans (Rely.Ext.refl w).size l2
  refine seq_val (.slice none 0 0) 8 rfl kj kj ?_
  refine seq_val (.int .i64 0) 9 rfl kj kj ?_
  refine seq_nil ?_
  refine hK1 _ _ ?_
  try clear hK1 K1
  refine wp_seq_k fun K3 hK3 => ?_
  refine wp_seq_k fun K4 hK4 => ?_
  refine region_lit ?_
  refine seq_val (.agg (ints .u8 (key))) 17 rfl kj (run_load_row 23 _ g2 23 _ _ r2_1 rfl kj kj (isz (n := 32) kj ((ints_size _ _).trans hkl))) ?_
  refine seq_val (.slice a_n nonce.length c_n) 18 rfl kj kj ?_
  refine seq_val (.int .i64 number) 19 rfl kj kj ?_
  refine seq_call (.tuple #[.agg (ints .u8 (List.replicate 64 0)), .int .i64 8]) 15 #[.agg (ints .u8 (key)), .slice a_n nonce.length c_n, .int .i64 number] 20 rfl kj kj ((rPiece_B key nonce _ _ number _ hkl (RdK.ext hn x1) h (by omega))) fun W2 e2 => ?_
  have x2 : Ext w W2 := Ext.tr x1 e2
  refine seq_val (.tuple #[.agg (ints .u8 (List.replicate 64 0)), .int .i64 8]) 16 rfl kj kj ?_
  refine seq_val (.agg (ints .u8 (List.replicate 64 0))) 21 rfl kj kj ?_
  refine seq_val (.int .i64 8) 22 rfl kj kj ?_
  refine seq_alloc (ints .u8 (List.replicate 64 0)) 28 10 rfl kj kj fun g5 W3 l5 e3 r5_3 => ?_
  have x3 : Ext w W3 := Ext.tr x2 e3
  have b5 : w.heap.size ≤ g5 := Nat.le_trans x2.size l5
  refine seq_store g5 _ (ints .u8 (List.replicate 64 0)) 28 r5_3 rfl kj (run_store_row 28 _ _ g5 28 _ _ r5_3 rfl kj kj (isz (n := 64) kj ((ints_size _ _).trans (List.length_replicate (n := 64)))) (eqsz (n := 64) ((ints_size _ _).trans (List.length_replicate (n := 64))) ((ints_size _ _).trans (List.length_replicate (n := 64)))) (ints_one _ _)) fun W4 p4 r5_4 => ?_
  have x4 : Ext w W4 := Puts.ext p4 x3 b5
  refine seq_val (.int .i64 8) 11 rfl kj kj ?_
  refine seq_nil ?_
  refine hK4 _ _ ?_
  try clear hK4 K4
  refine wp_seq_k fun K6 hK6 => ?_
  refine region_lit ?_
  refine seq_val (.int .i64 8) 23 rfl kj kj ?_
  refine seq_val (.bool true) 24 rfl kj kj ?_
  refine seq_nil ?_
  refine hK6 _ _ ?_
  try clear hK6 K6
  refine cond_true kj ?_
  refine wp_seq_k fun K7 hK7 => ?_
  refine region_lit ?_
  refine seq_val (.int .i64 8) 25 rfl kj kj ?_
  refine seq_val (.slice none 0 0) 8 rfl kj kj ?_
  refine seq_val (.int .i64 8) 9 rfl kj kj ?_
  refine seq_nil ?_
  refine hK7 _ _ ?_
  try clear hK7 K7
  refine wp_ret ?_
  repeat (first | with_reducible refine goR1 ?_ | with_reducible refine goR2 ?_)
  exact (show bodyPost _ _ _ .ret _ _ from ret2 (.slice none 0 0) (.int .i64 8) rfl (res_tmp kj) (res_tmp kj) ⟨rfl, x4⟩)
set_option maxRecDepth 100000 in
set_option maxHeartbeats 4000000 in
theorem rMix_C (key nonce text : List Int) (v v2 : Value) (B B2 : Nat) (number : Int) (w : World) (hkl : key.length = 32) (hkb : AreBytes key) (hnb : AreBytes nonce) (hn : RdK .u8 B nonce v w) (ht : RdK .u8 B2 text v2 w) (h : nonce.length = 12) (h1 : 4294967295 < number) : Calls Tryd.prog 20 #[.agg (ints .u8 key), v, .int .i64 number, v2] w (Ret w (.tuple #[.slice none 0 0, .int .i64 8])) := by
  obtain ⟨a_n, c_n, rfl, -⟩ := id hn
  obtain ⟨a_t, c_t, rfl, -⟩ := id ht
  refine enter 58 [(0, .agg (ints .u8 (key))), (1, .slice a_n nonce.length c_n), (2, .int .i64 number), (3, .slice a_t text.length c_t)] Tryd.func20 rfl rfl kj rfl ?_
  refine wp_seq_k fun K1 hK1 => ?_
  refine region_lit ?_
  refine seq_alloc (ints .u8 (key)) 23 4 rfl kj kj fun g2 W1 l2 e1 r2_1 => ?_
  have x1 : Ext w W1 := Ext.tr (Rely.Ext.refl w) e1
  have b2 : w.heap.size ≤ g2 := Nat.le_trans (Rely.Ext.refl w).size l2
  refine seq_val (.slice none 0 0) 8 rfl kj kj ?_
  refine seq_val (.int .i64 0) 9 rfl kj kj ?_
  refine seq_nil ?_
  refine hK1 _ _ ?_
  try clear hK1 K1
  refine wp_seq_k fun K3 hK3 => ?_
  refine wp_seq_k fun K4 hK4 => ?_
  refine region_lit ?_
  refine seq_val (.agg (ints .u8 (key))) 17 rfl kj (run_load_row 23 _ g2 23 _ _ r2_1 rfl kj kj (isz (n := 32) kj ((ints_size _ _).trans hkl))) ?_
  refine seq_val (.slice a_n nonce.length c_n) 18 rfl kj kj ?_
  refine seq_val (.int .i64 number) 19 rfl kj kj ?_
  refine seq_call (.tuple #[.agg (ints .u8 (List.replicate 64 0)), .int .i64 8]) 15 #[.agg (ints .u8 (key)), .slice a_n nonce.length c_n, .int .i64 number] 20 rfl kj kj ((rPiece_C key nonce _ _ number _ hkl (RdK.ext hn x1) h (by omega) (by omega))) fun W2 e2 => ?_
  have x2 : Ext w W2 := Ext.tr x1 e2
  refine seq_val (.tuple #[.agg (ints .u8 (List.replicate 64 0)), .int .i64 8]) 16 rfl kj kj ?_
  refine seq_val (.agg (ints .u8 (List.replicate 64 0))) 21 rfl kj kj ?_
  refine seq_val (.int .i64 8) 22 rfl kj kj ?_
  refine seq_alloc (ints .u8 (List.replicate 64 0)) 28 10 rfl kj kj fun g5 W3 l5 e3 r5_3 => ?_
  have x3 : Ext w W3 := Ext.tr x2 e3
  have b5 : w.heap.size ≤ g5 := Nat.le_trans x2.size l5
  refine seq_store g5 _ (ints .u8 (List.replicate 64 0)) 28 r5_3 rfl kj (run_store_row 28 _ _ g5 28 _ _ r5_3 rfl kj kj (isz (n := 64) kj ((ints_size _ _).trans (List.length_replicate (n := 64)))) (eqsz (n := 64) ((ints_size _ _).trans (List.length_replicate (n := 64))) ((ints_size _ _).trans (List.length_replicate (n := 64)))) (ints_one _ _)) fun W4 p4 r5_4 => ?_
  have x4 : Ext w W4 := Puts.ext p4 x3 b5
  refine seq_val (.int .i64 8) 11 rfl kj kj ?_
  refine seq_nil ?_
  refine hK4 _ _ ?_
  try clear hK4 K4
  refine wp_seq_k fun K6 hK6 => ?_
  refine region_lit ?_
  refine seq_val (.int .i64 8) 23 rfl kj kj ?_
  refine seq_val (.bool true) 24 rfl kj kj ?_
  refine seq_nil ?_
  refine hK6 _ _ ?_
  try clear hK6 K6
  refine cond_true kj ?_
  refine wp_seq_k fun K7 hK7 => ?_
  refine region_lit ?_
  refine seq_val (.int .i64 8) 25 rfl kj kj ?_
  refine seq_val (.slice none 0 0) 8 rfl kj kj ?_
  refine seq_val (.int .i64 8) 9 rfl kj kj ?_
  refine seq_nil ?_
  refine hK7 _ _ ?_
  try clear hK7 K7
  refine wp_ret ?_
  repeat (first | with_reducible refine goR1 ?_ | with_reducible refine goR2 ?_)
  exact (show bodyPost _ _ _ .ret _ _ from ret2 (.slice none 0 0) (.int .i64 8) rfl (res_tmp kj) (res_tmp kj) ⟨rfl, x4⟩)
set_option maxRecDepth 100000 in
set_option maxHeartbeats 4000000 in
theorem rMix_D (key nonce text : List Int) (v v2 : Value) (B B2 : Nat) (number : Int) (w : World) (hkl : key.length = 32) (hkb : AreBytes key) (hnb : AreBytes nonce) (hn : RdK .u8 B nonce v w) (ht : RdK .u8 B2 text v2 w) (h : nonce.length = 12) (r : Nat) (hr : number + (r : Int) = 4294967296) (h1 : 0 ≤ number) (h2 : number ≤ 4294967295) (hfit : text.length ≤ 64 * r) (htl : text.length ≤ 2000000) : Calls Tryd.prog 20 #[.agg (ints .u8 key), v, .int .i64 number, v2] w (Gives w (fun v W => ∃ u, v = .tuple #[u, .int .i64 0] ∧ OwnN .u8 5 w.heap.size (mixV (startW key nonce) number text) u W)) := by
  obtain ⟨a_n, c_n, rfl, -⟩ := id hn
  obtain ⟨a_t, c_t, rfl, -⟩ := id ht
  refine enter 58 [(0, .agg (ints .u8 (key))), (1, .slice a_n nonce.length c_n), (2, .int .i64 number), (3, .slice a_t text.length c_t)] Tryd.func20 rfl rfl kj rfl ?_
  refine wp_seq_k fun K1 hK1 => ?_
  refine region_lit ?_
  refine seq_alloc (ints .u8 (key)) 23 4 rfl kj kj fun g2 W1 l2 e1 r2_1 => ?_
  have x1 : Ext w W1 := Ext.tr (Rely.Ext.refl w) e1
  have b2 : w.heap.size ≤ g2 := Nat.le_trans (Rely.Ext.refl w).size l2
  refine seq_val (.slice none 0 0) 8 rfl kj kj ?_
  refine seq_val (.int .i64 0) 9 rfl kj kj ?_
  refine seq_nil ?_
  refine hK1 _ _ ?_
  try clear hK1 K1
  refine wp_seq_k fun K3 hK3 => ?_
  refine wp_seq_k fun K4 hK4 => ?_
  refine region_lit ?_
  refine seq_val (.agg (ints .u8 (key))) 17 rfl kj (run_load_row 23 _ g2 23 _ _ r2_1 rfl kj kj (isz (n := 32) kj ((ints_size _ _).trans hkl))) ?_
  refine seq_val (.slice a_n nonce.length c_n) 18 rfl kj kj ?_
  refine seq_val (.int .i64 number) 19 rfl kj kj ?_
  refine seq_call (.tuple #[.agg (ints .u8 (pieceV (startW key nonce) (number))), .int .i64 0]) 15 #[.agg (ints .u8 (key)), .slice a_n nonce.length c_n, .int .i64 number] 20 rfl kj kj ((rPiece_D key nonce _ _ number _ hkl (RdK.ext hn x1) h (by omega) (by omega) hkb hnb)) fun W2 e2 => ?_
  have x2 : Ext w W2 := Ext.tr x1 e2
  refine seq_val (.tuple #[.agg (ints .u8 (pieceV (startW key nonce) (number))), .int .i64 0]) 16 rfl kj kj ?_
  refine seq_val (.agg (ints .u8 (pieceV (startW key nonce) (number)))) 21 rfl kj kj ?_
  refine seq_val (.int .i64 0) 22 rfl kj kj ?_
  refine seq_alloc (ints .u8 (List.replicate 64 0)) 28 10 rfl kj kj fun g5 W3 l5 e3 r5_3 => ?_
  have x3 : Ext w W3 := Ext.tr x2 e3
  have b5 : w.heap.size ≤ g5 := Nat.le_trans x2.size l5
  refine seq_store g5 _ (ints .u8 (pieceV (startW key nonce) (number))) 28 r5_3 rfl kj (run_store_row 28 _ _ g5 28 _ _ r5_3 rfl kj kj (isz (n := 64) kj ((ints_size _ _).trans (pieceV_len _ _))) (eqsz (n := 64) ((ints_size _ _).trans (List.length_replicate (n := 64))) ((ints_size _ _).trans (pieceV_len _ _))) (ints_one _ _)) fun W4 p4 r5_4 => ?_
  have x4 : Ext w W4 := Puts.ext p4 x3 b5
  refine seq_val (.int .i64 0) 11 rfl kj kj ?_
  refine seq_nil ?_
  refine hK4 _ _ ?_
  try clear hK4 K4
  refine wp_seq_k fun K6 hK6 => ?_
  refine region_lit ?_
  refine seq_val (.int .i64 0) 23 rfl kj kj ?_
  refine seq_val (.bool false) 24 rfl kj kj ?_
  refine seq_nil ?_
  refine hK6 _ _ ?_
  try clear hK6 K6
  refine cond_false kj ?_
  refine wp_skip ?_
  refine hK3 _ _ ?_
  try clear hK3 K3
  refine wp_seq_k fun K7 hK7 => ?_
  refine region_lit ?_
  refine seq_val (.slice none 0 0) 12 rfl kj kj ?_
  refine seq_nil ?_
  refine hK7 _ _ ?_
  try clear hK7 K7
  refine wp_seq_k fun K8 hK8 => ?_
  refine wp_seq_k fun K9 hK9 => ?_
  refine region_lit ?_
  refine seq_val (.int .i64 0) 13 rfl kj kj ?_
  refine seq_nil ?_
  refine hK9 _ _ ?_
  try clear hK9 K9
  refine wp_block ?_
  refine loop_auto (fun (s1 : Nat × Value) => [(1, .slice a_n nonce.length c_n), (2, .int .i64 number), (3, .slice a_t text.length c_t), (4, .pointer (some ⟨g2, 0, none⟩)), (12, s1.2), (13, .int .i64 ((s1.1 : Nat) : Int))]) (fun (s1 : Nat × Value) W => (s1.1 ≤ text.length) ∧ (OwnN .u8 5 W4.heap.size (mxv text (startW key nonce) number id s1.1) s1.2 W) ∧ (Ext W4 W) ∧ (Ext w W)) (fun (s1 : Nat × Value) => text.length - s1.1) (0, (.slice none 0 0)) ⟨rfl, rfl, rfl, rfl, rfl, rfl, trivial⟩ ⟨(Nat.zero_le _), (ownN_nil _ _ _ _), (Rely.Ext.refl W4), x4⟩ fun s1 X1 V1 hI1 => ?_
  obtain ⟨i, u⟩ := s1
  obtain ⟨hi, hu, kk1, xx1⟩ := hI1
  replace hi : i ≤ text.length := hi
  replace hu : OwnN .u8 5 W4.heap.size (mxv text (startW key nonce) number id i) u V1 := hu
  replace kk1 : Ext W4 V1 := kk1
  replace xx1 : Ext w V1 := xx1
  have e5 := kk1
  refine wp_seq_k fun K10 hK10 => ?_
  refine wp_seq_k fun K11 hK11 => ?_
  refine region_lit ?_
  refine seq_val (.int .i64 ((i : Nat) : Int)) 26 rfl kj kj ?_
  refine seq_val (.slice a_t text.length c_t) 27 rfl kj kj ?_
  refine seq_val (.int .i64 ((text.length : Nat) : Int)) 28 rfl kj kj ?_
  refine seq_val (.bool (decide (((i : Nat) : Int) < ((text.length : Nat) : Int)))) 29 rfl kj kj ?_
  refine seq_nil ?_
  refine hK11 _ _ ?_
  try clear hK11 K11
  refine cond_split (t := decide (((i : Nat) : Int) < ((text.length : Nat) : Int))) kj (fun c12 => ?_) (fun c12 => ?_)
  · skip
    have hlt : i < text.length := by have := of_decide_eq_true c12; omega
    obtain ⟨gt, ot, hat, -, hlt_, hct⟩ := rdK_at (RdK.ext ht xx1) (by omega)
    refine wp_skip ?_
    refine hK10 _ _ ?_
    try clear hK10 K10
    refine wp_seq_k fun K13 hK13 => ?_
    refine wp_block ?_
    refine wp_seq_k fun K14 hK14 => ?_
    refine region_lit ?_
    have r2_2 := (row_ext r2_1 e2)
    have r2_3 := (row_ext r2_2 e3)
    have r2_4 := (Puts.row p4 r2_3 (ne_of_old r2_2 l5))
    have r2_5 := (row_ext r2_4 e5)
    refine seq_val (.agg (ints .u8 (key))) 33 rfl kj (run_load_row 23 _ g2 23 _ _ r2_5 rfl kj kj (isz (n := 32) kj ((ints_size _ _).trans hkl))) ?_
    refine seq_val (.slice a_n nonce.length c_n) 34 rfl kj kj ?_
    refine seq_val (.int .i64 number) 35 rfl kj kj ?_
    refine seq_val (.int .i64 ((i : Nat) : Int)) 36 rfl kj kj ?_
    refine seq_val (.int .i64 ((i / 64 : Nat) : Int)) 37 rfl kj (run_eq (u := .int .i64 (IntKind.i64.wrap (Int.tdiv (((i : Nat) : Int)) (64)))) kj (congrArg (Value.int .i64) (i64_quo _ 64 (by omega)))) ?_
    refine seq_val (.int .i64 (number + ((i / 64 : Nat) : Int))) 38 rfl kj (run_eq (u := .int .i64 (IntKind.i64.wrap (number + ((i / 64 : Nat) : Int)))) kj (congrArg (Value.int .i64) (IntWalk.i64_in _ (by omega)))) ?_
    refine seq_call (.tuple #[.agg (ints .u8 (pieceV (startW key nonce) (number + ((i / 64 : Nat) : Int)))), .int .i64 0]) 15 #[.agg (ints .u8 (key)), .slice a_n nonce.length c_n, .int .i64 (number + ((i / 64 : Nat) : Int))] 39 rfl kj kj ((rPiece_D key nonce _ _ (number + ((i / 64 : Nat) : Int)) _ hkl (RdK.ext hn xx1) h (by omega) (by omega) hkb hnb)) fun W6 e6 => ?_
    have x6 : Ext w W6 := Ext.tr xx1 e6
    refine seq_val (.tuple #[.agg (ints .u8 (pieceV (startW key nonce) (number + ((i / 64 : Nat) : Int)))), .int .i64 0]) 32 rfl kj kj ?_
    refine seq_val (.agg (ints .u8 (pieceV (startW key nonce) (number + ((i / 64 : Nat) : Int))))) 40 rfl kj kj ?_
    refine seq_val (.int .i64 0) 41 rfl kj kj ?_
    refine seq_alloc (ints .u8 (List.replicate 64 0)) 28 14 rfl kj kj fun g15 W7 l15 e7 r15_7 => ?_
    have x7 : Ext w W7 := Ext.tr x6 e7
    have b15 : w.heap.size ≤ g15 := Nat.le_trans x6.size l15
    refine seq_store g15 _ (ints .u8 (pieceV (startW key nonce) (number + ((i / 64 : Nat) : Int)))) 28 r15_7 rfl kj (run_store_row 28 _ _ g15 28 _ _ r15_7 rfl kj kj (isz (n := 64) kj ((ints_size _ _).trans (pieceV_len _ _))) (eqsz (n := 64) ((ints_size _ _).trans (List.length_replicate (n := 64))) ((ints_size _ _).trans (pieceV_len _ _))) (ints_one _ _)) fun W8 p8 r15_8 => ?_
    have x8 : Ext w W8 := Puts.ext p8 x7 b15
    refine seq_val (.int .i64 0) 15 rfl kj kj ?_
    refine seq_nil ?_
    refine hK14 _ _ ?_
    try clear hK14 K14
    refine wp_seq_k fun K16 hK16 => ?_
    refine wp_seq_k fun K17 hK17 => ?_
    refine region_lit ?_
    refine seq_val (.int .i64 0) 42 rfl kj kj ?_
    refine seq_val (.bool false) 43 rfl kj kj ?_
    refine seq_nil ?_
    refine hK17 _ _ ?_
    try clear hK17 K17
    refine cond_false kj ?_
    refine wp_skip ?_
    refine hK16 _ _ ?_
    try clear hK16 K16
    refine any_regionE 11 [⟨none, [(12, none)]⟩, ⟨none, [(3, none)]⟩, ⟨none, [(13, none)]⟩, ⟨none, [(46, some 1), (47, some 2)]⟩, ⟨none, [(48, some 3)]⟩, ⟨none, [(13, none)]⟩, ⟨none, [(50, some 5)]⟩, ⟨none, [(14, none), (51, some 6)]⟩, ⟨none, [(52, some 7)]⟩, ⟨none, [(49, some 4), (53, some 8)]⟩, ⟨none, [(54, some 9)]⟩] kj kj fun F hF => ?_
    refine e_val (rl_ext _) (u) kj kj (fun W => by kernel_rfl) ?_
    refine e_val (rl_ext _) (.slice a_t text.length c_t) kj kj (fun W => by kernel_rfl) ?_
    refine e_val (rl_ext _) (.int .i64 ((i : Nat) : Int)) kj kj (fun W => by kernel_rfl) ?_
    refine e_val (rl_ext _) (.pointer (some ⟨gt, ot + i, none⟩)) kj kj (fun W => (run_indexA 24 _ _ .i64 i gt ot text.length c_t 5 a_t _ hat rfl rfl kj kj kj kj (Nat.lt_of_lt_of_eq (show i < text.length by omega) (rfl : text.length = text.length).symm))) ?_
    have y5_6 : Ext V1 W6 := (Rely.Ext.trans (Rely.Ext.refl V1) e6)
    have y5_7 : Ext V1 W7 := (Rely.Ext.trans y5_6 e7)
    have y5_8 : Ext V1 W8 := (Puts.ext p8 y5_7 (Nat.le_trans y5_6.size l15))
    refine e_read (rl_ext _) (.int .u8 (nth (text) (i))) kj kj (fun W hR => (run_loadCell 5 _ _ (.int .u8 (nth (text) (i))) ((Below.cell (Rely.Ext.trans (Rely.Ext.trans y5_8 (ext_drew _)) hR) hlt_).trans (hct i (Nat.lt_of_lt_of_eq (show i < text.length by omega) (rfl : text.length = text.length).symm))) rfl kj kj)) ?_
    refine e_val (rl_ext _) (.int .i64 ((i : Nat) : Int)) kj kj (fun W => by kernel_rfl) ?_
    refine e_val (rl_ext _) (.int .i64 ((i % 64 : Nat) : Int)) kj kj (fun W => (run_eq (u := .int .i64 (Int.tmod (((i : Nat) : Int)) (64))) kj (congrArg (Value.int .i64) (nat_rem _ 64)))) ?_
    refine e_val (rl_ext _) (.pointer (some ⟨g15, i % 64, none⟩)) kj kj (fun W => (run_index0 _ _ _ .i64 (i % 64) _ 64 5 rfl kj kj kj kj (by omega))) ?_
    refine e_read (rl_ext _) (.int .u8 (nth (pieceV (startW key nonce) (number + ((i / 64 : Nat) : Int))) (i % 64))) kj kj (fun W hR => (run_loadC1 5 _ g15 (i % 64) 28 _ (.int .u8 (nth (pieceV (startW key nonce) (number + ((i / 64 : Nat) : Int))) (i % 64))) _ (row_ext (row_ext r15_8 (ext_drew _)) hR) rfl kj (ints_get _ _ _ (Nat.lt_of_lt_of_eq (by omega) (pieceV_len _ _).symm)) kj)) ?_
    refine e_val (rl_ext _) (.int .u8 (bits .xor .u8 ((nth (text) (i))) ((nth (pieceV (startW key nonce) (number + ((i / 64 : Nat) : Int))) (i % 64))))) kj kj (fun W => by kernel_rfl) ?_
    refine e_newS (rl_ext _) (ints .u8 ([(bits .xor .u8 ((nth (text) (i))) ((nth (pieceV (startW key nonce) (number + ((i / 64 : Nat) : Int))) (i % 64))))])) 5 1 (NewS.stable _ _ _ _) kj kj (fun W => by kernel_rfl) ?_
    refine e_nil (hF _ fun W9 e9 => ?_)
    simp only [List.nil_append, List.cons_append, List.take_succ_cons, List.take_zero, List.drop_succ_cons, List.drop_zero, finE, up]
    intro vv18 hv18
    clear hF
    have x9 : Ext w W9 := Ext.tr x8 e9
    obtain ⟨g18, rfl, l18, r18_9⟩ := hv18
    have b18 : w.heap.size ≤ g18 := Nat.le_trans x8.size l18
    have f19_6 := (hu.ext e6)
    have f20_7 := (f19_6.ext e7)
    have f21_8 := (f20_7.puts p8 (nb_new f19_6 l15))
    have f22_9 := (f21_8.ext e9)
    have y4_6 : Ext W4 W6 := (Rely.Ext.trans e5 e6)
    have y4_7 : Ext W4 W7 := (Rely.Ext.trans y4_6 e7)
    have y4_8 : Ext W4 W8 := (Puts.ext p8 y4_7 (Nat.le_trans y4_6.size l15))
    have y4_9 : Ext W4 W9 := (Rely.Ext.trans y4_8 e9)
    refine seq_appendN (k := .u8) (T := 5) (xs := mxv text (startW key nonce) number id i) (ys := [(bits .xor .u8 ((nth (text) (i))) ((nth (pieceV (startW key nonce) (number + ((i / 64 : Nat) : Int))) (i % 64))))]) (V := W4) 1 (.tmp 45) (.tmp 55) 24 rfl kj kj (by decide) 56 rfl kj kj kj f22_9 (rdK_ints (xs := [(bits .xor .u8 ((nth (text) (i))) ((nth (pieceV (startW key nonce) (number + ((i / 64 : Nat) : Int))) (i % 64))))]) (n := 1) rfl r18_9 (row_lt r18_9) (show 1 ≤ maxLen from by decide)) (by rw [mxv_len]; show _ + 1 ≤ _; omega) y4_9 fun z1 W10 f23 y10 l10 => ?_
    have x10 : Ext w W10 := Ext.low x9 l10 x4.size
    refine seq_val (z1) 12 rfl kj kj ?_
    refine seq_nil ?_
    refine hK13 _ _ ?_
    try clear hK13 K13
    refine region_lit ?_
    refine seq_val (.int .i64 ((i : Nat) : Int)) 30 rfl kj kj ?_
    refine seq_val (.int .i64 ((i + 1 : Nat) : Int)) 31 rfl kj (run_eq (u := .int .i64 (IntKind.i64.wrap (((i : Nat) : Int) + 1))) kj (congrArg (Value.int .i64) (i64n _ _ (by omega) (by omega)))) ?_
    refine seq_val (.int .i64 ((i + 1 : Nat) : Int)) 13 rfl kj kj ?_
    refine seq_nil ?_
    repeat (first | with_reducible refine goX1 ?_ | with_reducible refine goX2 ?_ | with_reducible refine goX3 ?_)
    exact goes_then ((i + 1), z1) ⟨rfl, rfl, rfl, rfl, rfl, rfl, trivial⟩ ⟨(by omega), (by rw [mxv_succ]; exact f23), y10, x10⟩ (by show text.length - (i + 1) < text.length - i; omega)
  · skip
    have hge : text.length = i := by have := of_decide_eq_false c12; omega
    refine wp_exit ?_
    refine hK8 _ _ ?_
    try clear hK8 K8
    refine wp_seq_k fun K25 hK25 => ?_
    refine region_lit ?_
    refine seq_val (u) 57 rfl kj kj ?_
    refine seq_val (u) 8 rfl kj kj ?_
    refine seq_val (.int .i64 0) 9 rfl kj kj ?_
    refine seq_nil ?_
    refine hK25 _ _ ?_
    try clear hK25 K25
    refine wp_ret ?_
    repeat (first | with_reducible refine goR1 ?_ | with_reducible refine goR2 ?_)
    exact (show bodyPost _ _ _ .ret _ _ from ret2 (u) (.int .i64 0) rfl (res_tmp kj) (res_tmp kj) ⟨_, rfl, xx1, u, rfl, by unfold mixV; rw [hge]; exact OwnN.base x4.size hu⟩)
set_option maxRecDepth 100000 in
set_option maxHeartbeats 4000000 in
theorem rMix_E (key nonce text : List Int) (v v2 : Value) (B B2 : Nat) (number : Int) (w : World) (hkl : key.length = 32) (hkb : AreBytes key) (hnb : AreBytes nonce) (hn : RdK .u8 B nonce v w) (ht : RdK .u8 B2 text v2 w) (h : nonce.length = 12) (r : Nat) (hr : number + (r : Int) = 4294967296) (h1 : 0 ≤ number) (h2 : number ≤ 4294967295) (hfit : 64 * r < text.length) (htl : text.length ≤ 2000000) : Calls Tryd.prog 20 #[.agg (ints .u8 key), v, .int .i64 number, v2] w (Ret w (.tuple #[.slice none 0 0, .int .i64 8])) := by
  obtain ⟨a_n, c_n, rfl, -⟩ := id hn
  obtain ⟨a_t, c_t, rfl, -⟩ := id ht
  refine enter 58 [(0, .agg (ints .u8 (key))), (1, .slice a_n nonce.length c_n), (2, .int .i64 number), (3, .slice a_t text.length c_t)] Tryd.func20 rfl rfl kj rfl ?_
  refine wp_seq_k fun K1 hK1 => ?_
  refine region_lit ?_
  refine seq_alloc (ints .u8 (key)) 23 4 rfl kj kj fun g2 W1 l2 e1 r2_1 => ?_
  have x1 : Ext w W1 := Ext.tr (Rely.Ext.refl w) e1
  have b2 : w.heap.size ≤ g2 := Nat.le_trans (Rely.Ext.refl w).size l2
  refine seq_val (.slice none 0 0) 8 rfl kj kj ?_
  refine seq_val (.int .i64 0) 9 rfl kj kj ?_
  refine seq_nil ?_
  refine hK1 _ _ ?_
  try clear hK1 K1
  refine wp_seq_k fun K3 hK3 => ?_
  refine wp_seq_k fun K4 hK4 => ?_
  refine region_lit ?_
  refine seq_val (.agg (ints .u8 (key))) 17 rfl kj (run_load_row 23 _ g2 23 _ _ r2_1 rfl kj kj (isz (n := 32) kj ((ints_size _ _).trans hkl))) ?_
  refine seq_val (.slice a_n nonce.length c_n) 18 rfl kj kj ?_
  refine seq_val (.int .i64 number) 19 rfl kj kj ?_
  refine seq_call (.tuple #[.agg (ints .u8 (pieceV (startW key nonce) (number))), .int .i64 0]) 15 #[.agg (ints .u8 (key)), .slice a_n nonce.length c_n, .int .i64 number] 20 rfl kj kj ((rPiece_D key nonce _ _ number _ hkl (RdK.ext hn x1) h (by omega) (by omega) hkb hnb)) fun W2 e2 => ?_
  have x2 : Ext w W2 := Ext.tr x1 e2
  refine seq_val (.tuple #[.agg (ints .u8 (pieceV (startW key nonce) (number))), .int .i64 0]) 16 rfl kj kj ?_
  refine seq_val (.agg (ints .u8 (pieceV (startW key nonce) (number)))) 21 rfl kj kj ?_
  refine seq_val (.int .i64 0) 22 rfl kj kj ?_
  refine seq_alloc (ints .u8 (List.replicate 64 0)) 28 10 rfl kj kj fun g5 W3 l5 e3 r5_3 => ?_
  have x3 : Ext w W3 := Ext.tr x2 e3
  have b5 : w.heap.size ≤ g5 := Nat.le_trans x2.size l5
  refine seq_store g5 _ (ints .u8 (pieceV (startW key nonce) (number))) 28 r5_3 rfl kj (run_store_row 28 _ _ g5 28 _ _ r5_3 rfl kj kj (isz (n := 64) kj ((ints_size _ _).trans (pieceV_len _ _))) (eqsz (n := 64) ((ints_size _ _).trans (List.length_replicate (n := 64))) ((ints_size _ _).trans (pieceV_len _ _))) (ints_one _ _)) fun W4 p4 r5_4 => ?_
  have x4 : Ext w W4 := Puts.ext p4 x3 b5
  refine seq_val (.int .i64 0) 11 rfl kj kj ?_
  refine seq_nil ?_
  refine hK4 _ _ ?_
  try clear hK4 K4
  refine wp_seq_k fun K6 hK6 => ?_
  refine region_lit ?_
  refine seq_val (.int .i64 0) 23 rfl kj kj ?_
  refine seq_val (.bool false) 24 rfl kj kj ?_
  refine seq_nil ?_
  refine hK6 _ _ ?_
  try clear hK6 K6
  refine cond_false kj ?_
  refine wp_skip ?_
  refine hK3 _ _ ?_
  try clear hK3 K3
  refine wp_seq_k fun K7 hK7 => ?_
  refine region_lit ?_
  refine seq_val (.slice none 0 0) 12 rfl kj kj ?_
  refine seq_nil ?_
  refine hK7 _ _ ?_
  try clear hK7 K7
  refine wp_seq_k fun K8 hK8 => ?_
  refine wp_seq_k fun K9 hK9 => ?_
  refine region_lit ?_
  refine seq_val (.int .i64 0) 13 rfl kj kj ?_
  refine seq_nil ?_
  refine hK9 _ _ ?_
  try clear hK9 K9
  refine wp_block ?_
  refine loop_auto (fun (s1 : Nat × Value) => [(1, .slice a_n nonce.length c_n), (2, .int .i64 number), (3, .slice a_t text.length c_t), (4, .pointer (some ⟨g2, 0, none⟩)), (12, s1.2), (13, .int .i64 ((s1.1 : Nat) : Int))]) (fun (s1 : Nat × Value) W => (s1.1 ≤ 64 * r) ∧ (OwnN .u8 5 W4.heap.size (mxv text (startW key nonce) number id s1.1) s1.2 W) ∧ (Ext W4 W) ∧ (Ext w W)) (fun (s1 : Nat × Value) => text.length - s1.1) (0, (.slice none 0 0)) ⟨rfl, rfl, rfl, rfl, rfl, rfl, trivial⟩ ⟨(Nat.zero_le _), (ownN_nil _ _ _ _), (Rely.Ext.refl W4), x4⟩ fun s1 X1 V1 hI1 => ?_
  obtain ⟨i, u⟩ := s1
  obtain ⟨hi, hu, kk1, xx1⟩ := hI1
  replace hi : i ≤ 64 * r := hi
  replace hu : OwnN .u8 5 W4.heap.size (mxv text (startW key nonce) number id i) u V1 := hu
  replace kk1 : Ext W4 V1 := kk1
  replace xx1 : Ext w V1 := xx1
  have e5 := kk1
  refine wp_seq_k fun K10 hK10 => ?_
  refine wp_seq_k fun K11 hK11 => ?_
  refine region_lit ?_
  refine seq_val (.int .i64 ((i : Nat) : Int)) 26 rfl kj kj ?_
  refine seq_val (.slice a_t text.length c_t) 27 rfl kj kj ?_
  refine seq_val (.int .i64 ((text.length : Nat) : Int)) 28 rfl kj kj ?_
  refine seq_val (.bool (decide (((i : Nat) : Int) < ((text.length : Nat) : Int)))) 29 rfl kj kj ?_
  refine seq_nil ?_
  refine hK11 _ _ ?_
  try clear hK11 K11
  refine cond_split (t := decide (((i : Nat) : Int) < ((text.length : Nat) : Int))) kj (fun c12 => ?_) (fun c12 => ?_)
  · skip
    have hlt : i < text.length := by have := of_decide_eq_true c12; omega
    obtain ⟨gt, ot, hat, -, hlt_, hct⟩ := rdK_at (RdK.ext ht xx1) (by omega)
    refine wp_skip ?_
    refine hK10 _ _ ?_
    try clear hK10 K10
    refine wp_seq_k fun K13 hK13 => ?_
    refine wp_block ?_
    refine wp_seq_k fun K14 hK14 => ?_
    rcases (show i < 64 * r ∨ i = 64 * r by omega) with hq | hq
    · skip
      have hir : i < 64 * r := hq
      refine region_lit ?_
      have r2_2 := (row_ext r2_1 e2)
      have r2_3 := (row_ext r2_2 e3)
      have r2_4 := (Puts.row p4 r2_3 (ne_of_old r2_2 l5))
      have r2_5 := (row_ext r2_4 e5)
      refine seq_val (.agg (ints .u8 (key))) 33 rfl kj (run_load_row 23 _ g2 23 _ _ r2_5 rfl kj kj (isz (n := 32) kj ((ints_size _ _).trans hkl))) ?_
      refine seq_val (.slice a_n nonce.length c_n) 34 rfl kj kj ?_
      refine seq_val (.int .i64 number) 35 rfl kj kj ?_
      refine seq_val (.int .i64 ((i : Nat) : Int)) 36 rfl kj kj ?_
      refine seq_val (.int .i64 ((i / 64 : Nat) : Int)) 37 rfl kj (run_eq (u := .int .i64 (IntKind.i64.wrap (Int.tdiv (((i : Nat) : Int)) (64)))) kj (congrArg (Value.int .i64) (i64_quo _ 64 (by omega)))) ?_
      refine seq_val (.int .i64 (number + ((i / 64 : Nat) : Int))) 38 rfl kj (run_eq (u := .int .i64 (IntKind.i64.wrap (number + ((i / 64 : Nat) : Int)))) kj (congrArg (Value.int .i64) (IntWalk.i64_in _ (by omega)))) ?_
      refine seq_call (.tuple #[.agg (ints .u8 (pieceV (startW key nonce) (number + ((i / 64 : Nat) : Int)))), .int .i64 0]) 15 #[.agg (ints .u8 (key)), .slice a_n nonce.length c_n, .int .i64 (number + ((i / 64 : Nat) : Int))] 39 rfl kj kj ((rPiece_D key nonce _ _ (number + ((i / 64 : Nat) : Int)) _ hkl (RdK.ext hn xx1) h (by omega) (by omega) hkb hnb)) fun W6 e6 => ?_
      have x6 : Ext w W6 := Ext.tr xx1 e6
      refine seq_val (.tuple #[.agg (ints .u8 (pieceV (startW key nonce) (number + ((i / 64 : Nat) : Int)))), .int .i64 0]) 32 rfl kj kj ?_
      refine seq_val (.agg (ints .u8 (pieceV (startW key nonce) (number + ((i / 64 : Nat) : Int))))) 40 rfl kj kj ?_
      refine seq_val (.int .i64 0) 41 rfl kj kj ?_
      refine seq_alloc (ints .u8 (List.replicate 64 0)) 28 14 rfl kj kj fun g15 W7 l15 e7 r15_7 => ?_
      have x7 : Ext w W7 := Ext.tr x6 e7
      have b15 : w.heap.size ≤ g15 := Nat.le_trans x6.size l15
      refine seq_store g15 _ (ints .u8 (pieceV (startW key nonce) (number + ((i / 64 : Nat) : Int)))) 28 r15_7 rfl kj (run_store_row 28 _ _ g15 28 _ _ r15_7 rfl kj kj (isz (n := 64) kj ((ints_size _ _).trans (pieceV_len _ _))) (eqsz (n := 64) ((ints_size _ _).trans (List.length_replicate (n := 64))) ((ints_size _ _).trans (pieceV_len _ _))) (ints_one _ _)) fun W8 p8 r15_8 => ?_
      have x8 : Ext w W8 := Puts.ext p8 x7 b15
      refine seq_val (.int .i64 0) 15 rfl kj kj ?_
      refine seq_nil ?_
      refine hK14 _ _ ?_
      try clear hK14 K14
      refine wp_seq_k fun K16 hK16 => ?_
      refine wp_seq_k fun K17 hK17 => ?_
      refine region_lit ?_
      refine seq_val (.int .i64 0) 42 rfl kj kj ?_
      refine seq_val (.bool false) 43 rfl kj kj ?_
      refine seq_nil ?_
      refine hK17 _ _ ?_
      try clear hK17 K17
      refine cond_false kj ?_
      refine wp_skip ?_
      refine hK16 _ _ ?_
      try clear hK16 K16
      refine any_regionE 11 [⟨none, [(12, none)]⟩, ⟨none, [(3, none)]⟩, ⟨none, [(13, none)]⟩, ⟨none, [(46, some 1), (47, some 2)]⟩, ⟨none, [(48, some 3)]⟩, ⟨none, [(13, none)]⟩, ⟨none, [(50, some 5)]⟩, ⟨none, [(14, none), (51, some 6)]⟩, ⟨none, [(52, some 7)]⟩, ⟨none, [(49, some 4), (53, some 8)]⟩, ⟨none, [(54, some 9)]⟩] kj kj fun F hF => ?_
      refine e_val (rl_ext _) (u) kj kj (fun W => by kernel_rfl) ?_
      refine e_val (rl_ext _) (.slice a_t text.length c_t) kj kj (fun W => by kernel_rfl) ?_
      refine e_val (rl_ext _) (.int .i64 ((i : Nat) : Int)) kj kj (fun W => by kernel_rfl) ?_
      refine e_val (rl_ext _) (.pointer (some ⟨gt, ot + i, none⟩)) kj kj (fun W => (run_indexA 24 _ _ .i64 i gt ot text.length c_t 5 a_t _ hat rfl rfl kj kj kj kj (Nat.lt_of_lt_of_eq (show i < text.length by omega) (rfl : text.length = text.length).symm))) ?_
      have y5_6 : Ext V1 W6 := (Rely.Ext.trans (Rely.Ext.refl V1) e6)
      have y5_7 : Ext V1 W7 := (Rely.Ext.trans y5_6 e7)
      have y5_8 : Ext V1 W8 := (Puts.ext p8 y5_7 (Nat.le_trans y5_6.size l15))
      refine e_read (rl_ext _) (.int .u8 (nth (text) (i))) kj kj (fun W hR => (run_loadCell 5 _ _ (.int .u8 (nth (text) (i))) ((Below.cell (Rely.Ext.trans (Rely.Ext.trans y5_8 (ext_drew _)) hR) hlt_).trans (hct i (Nat.lt_of_lt_of_eq (show i < text.length by omega) (rfl : text.length = text.length).symm))) rfl kj kj)) ?_
      refine e_val (rl_ext _) (.int .i64 ((i : Nat) : Int)) kj kj (fun W => by kernel_rfl) ?_
      refine e_val (rl_ext _) (.int .i64 ((i % 64 : Nat) : Int)) kj kj (fun W => (run_eq (u := .int .i64 (Int.tmod (((i : Nat) : Int)) (64))) kj (congrArg (Value.int .i64) (nat_rem _ 64)))) ?_
      refine e_val (rl_ext _) (.pointer (some ⟨g15, i % 64, none⟩)) kj kj (fun W => (run_index0 _ _ _ .i64 (i % 64) _ 64 5 rfl kj kj kj kj (by omega))) ?_
      refine e_read (rl_ext _) (.int .u8 (nth (pieceV (startW key nonce) (number + ((i / 64 : Nat) : Int))) (i % 64))) kj kj (fun W hR => (run_loadC1 5 _ g15 (i % 64) 28 _ (.int .u8 (nth (pieceV (startW key nonce) (number + ((i / 64 : Nat) : Int))) (i % 64))) _ (row_ext (row_ext r15_8 (ext_drew _)) hR) rfl kj (ints_get _ _ _ (Nat.lt_of_lt_of_eq (by omega) (pieceV_len _ _).symm)) kj)) ?_
      refine e_val (rl_ext _) (.int .u8 (bits .xor .u8 ((nth (text) (i))) ((nth (pieceV (startW key nonce) (number + ((i / 64 : Nat) : Int))) (i % 64))))) kj kj (fun W => by kernel_rfl) ?_
      refine e_newS (rl_ext _) (ints .u8 ([(bits .xor .u8 ((nth (text) (i))) ((nth (pieceV (startW key nonce) (number + ((i / 64 : Nat) : Int))) (i % 64))))])) 5 1 (NewS.stable _ _ _ _) kj kj (fun W => by kernel_rfl) ?_
      refine e_nil (hF _ fun W9 e9 => ?_)
      simp only [List.nil_append, List.cons_append, List.take_succ_cons, List.take_zero, List.drop_succ_cons, List.drop_zero, finE, up]
      intro vv18 hv18
      clear hF
      have x9 : Ext w W9 := Ext.tr x8 e9
      obtain ⟨g18, rfl, l18, r18_9⟩ := hv18
      have b18 : w.heap.size ≤ g18 := Nat.le_trans x8.size l18
      have f19_6 := (hu.ext e6)
      have f20_7 := (f19_6.ext e7)
      have f21_8 := (f20_7.puts p8 (nb_new f19_6 l15))
      have f22_9 := (f21_8.ext e9)
      have y4_6 : Ext W4 W6 := (Rely.Ext.trans e5 e6)
      have y4_7 : Ext W4 W7 := (Rely.Ext.trans y4_6 e7)
      have y4_8 : Ext W4 W8 := (Puts.ext p8 y4_7 (Nat.le_trans y4_6.size l15))
      have y4_9 : Ext W4 W9 := (Rely.Ext.trans y4_8 e9)
      refine seq_appendN (k := .u8) (T := 5) (xs := mxv text (startW key nonce) number id i) (ys := [(bits .xor .u8 ((nth (text) (i))) ((nth (pieceV (startW key nonce) (number + ((i / 64 : Nat) : Int))) (i % 64))))]) (V := W4) 1 (.tmp 45) (.tmp 55) 24 rfl kj kj (by decide) 56 rfl kj kj kj f22_9 (rdK_ints (xs := [(bits .xor .u8 ((nth (text) (i))) ((nth (pieceV (startW key nonce) (number + ((i / 64 : Nat) : Int))) (i % 64))))]) (n := 1) rfl r18_9 (row_lt r18_9) (show 1 ≤ maxLen from by decide)) (by rw [mxv_len]; show _ + 1 ≤ _; omega) y4_9 fun z1 W10 f23 y10 l10 => ?_
      have x10 : Ext w W10 := Ext.low x9 l10 x4.size
      refine seq_val (z1) 12 rfl kj kj ?_
      refine seq_nil ?_
      refine hK13 _ _ ?_
      try clear hK13 K13
      refine region_lit ?_
      refine seq_val (.int .i64 ((i : Nat) : Int)) 30 rfl kj kj ?_
      refine seq_val (.int .i64 ((i + 1 : Nat) : Int)) 31 rfl kj (run_eq (u := .int .i64 (IntKind.i64.wrap (((i : Nat) : Int) + 1))) kj (congrArg (Value.int .i64) (i64n _ _ (by omega) (by omega)))) ?_
      refine seq_val (.int .i64 ((i + 1 : Nat) : Int)) 13 rfl kj kj ?_
      refine seq_nil ?_
      repeat (first | with_reducible refine goX1 ?_ | with_reducible refine goX2 ?_ | with_reducible refine goX3 ?_)
      exact goes_then ((i + 1), z1) ⟨rfl, rfl, rfl, rfl, rfl, rfl, trivial⟩ ⟨(by omega), (by rw [mxv_succ]; exact f23), y10, x10⟩ (by show text.length - (i + 1) < text.length - i; omega)
    · skip
      have hir : i = 64 * r := hq
      refine region_lit ?_
      have r2_2 := (row_ext r2_1 e2)
      have r2_3 := (row_ext r2_2 e3)
      have r2_4 := (Puts.row p4 r2_3 (ne_of_old r2_2 l5))
      have r2_5 := (row_ext r2_4 e5)
      refine seq_val (.agg (ints .u8 (key))) 33 rfl kj (run_load_row 23 _ g2 23 _ _ r2_5 rfl kj kj (isz (n := 32) kj ((ints_size _ _).trans hkl))) ?_
      refine seq_val (.slice a_n nonce.length c_n) 34 rfl kj kj ?_
      refine seq_val (.int .i64 number) 35 rfl kj kj ?_
      refine seq_val (.int .i64 ((i : Nat) : Int)) 36 rfl kj kj ?_
      refine seq_val (.int .i64 ((i / 64 : Nat) : Int)) 37 rfl kj (run_eq (u := .int .i64 (IntKind.i64.wrap (Int.tdiv (((i : Nat) : Int)) (64)))) kj (congrArg (Value.int .i64) (i64_quo _ 64 (by omega)))) ?_
      refine seq_val (.int .i64 (number + ((i / 64 : Nat) : Int))) 38 rfl kj (run_eq (u := .int .i64 (IntKind.i64.wrap (number + ((i / 64 : Nat) : Int)))) kj (congrArg (Value.int .i64) (IntWalk.i64_in _ (by omega)))) ?_
      refine seq_call (.tuple #[.agg (ints .u8 (List.replicate 64 0)), .int .i64 8]) 15 #[.agg (ints .u8 (key)), .slice a_n nonce.length c_n, .int .i64 (number + ((i / 64 : Nat) : Int))] 39 rfl kj kj ((rPiece_C key nonce _ _ (number + ((i / 64 : Nat) : Int)) _ hkl (RdK.ext hn xx1) h (by omega) (by omega))) fun W6 e6 => ?_
      have x6 : Ext w W6 := Ext.tr xx1 e6
      refine seq_val (.tuple #[.agg (ints .u8 (List.replicate 64 0)), .int .i64 8]) 32 rfl kj kj ?_
      refine seq_val (.agg (ints .u8 (List.replicate 64 0))) 40 rfl kj kj ?_
      refine seq_val (.int .i64 8) 41 rfl kj kj ?_
      refine seq_alloc (ints .u8 (List.replicate 64 0)) 28 14 rfl kj kj fun g25 W7 l25 e7 r25_7 => ?_
      have x7 : Ext w W7 := Ext.tr x6 e7
      have b25 : w.heap.size ≤ g25 := Nat.le_trans x6.size l25
      refine seq_store g25 _ (ints .u8 (List.replicate 64 0)) 28 r25_7 rfl kj (run_store_row 28 _ _ g25 28 _ _ r25_7 rfl kj kj (isz (n := 64) kj ((ints_size _ _).trans (List.length_replicate (n := 64)))) (eqsz (n := 64) ((ints_size _ _).trans (List.length_replicate (n := 64))) ((ints_size _ _).trans (List.length_replicate (n := 64)))) (ints_one _ _)) fun W8 p8 r25_8 => ?_
      have x8 : Ext w W8 := Puts.ext p8 x7 b25
      refine seq_val (.int .i64 8) 15 rfl kj kj ?_
      refine seq_nil ?_
      refine hK14 _ _ ?_
      try clear hK14 K14
      refine wp_seq_k fun K26 hK26 => ?_
      refine wp_seq_k fun K27 hK27 => ?_
      refine region_lit ?_
      refine seq_val (.int .i64 8) 42 rfl kj kj ?_
      refine seq_val (.bool true) 43 rfl kj kj ?_
      refine seq_nil ?_
      refine hK27 _ _ ?_
      try clear hK27 K27
      refine cond_true kj ?_
      refine wp_seq_k fun K28 hK28 => ?_
      refine region_lit ?_
      refine seq_val (.int .i64 8) 44 rfl kj kj ?_
      refine seq_val (.slice none 0 0) 8 rfl kj kj ?_
      refine seq_val (.int .i64 8) 9 rfl kj kj ?_
      refine seq_nil ?_
      refine hK28 _ _ ?_
      try clear hK28 K28
      refine wp_ret ?_
      repeat (first | with_reducible refine goR1 ?_ | with_reducible refine goR2 ?_)
      exact (show bodyPost _ _ _ .ret _ _ from ret2 (.slice none 0 0) (.int .i64 8) rfl (res_tmp kj) (res_tmp kj) ⟨rfl, x8⟩)
  · skip
    exfalso; have := of_decide_eq_false c12; omega

end Go.Proofs.YticjghmgbmjkiaaDoor.Cha
