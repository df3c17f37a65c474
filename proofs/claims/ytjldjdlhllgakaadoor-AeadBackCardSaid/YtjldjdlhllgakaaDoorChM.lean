/- ChaCha20: Mix. -/
import Derived.Test.YtjldjdlhllgakaaDoorChV
import Derived.Test.YtjldjdlhllgakaaDoorChI
namespace Go.Proofs.YtjldjdlhllgakaaDoor.Cha
open Go Go.RowKit
open Go.Proofs.YtjldjdlhllgakaaDoor.Rely Go.Proofs.YtjldjdlhllgakaaDoor.Auto Go.Proofs.YtjldjdlhllgakaaDoor.Own Go.Proofs.YtjldjdlhllgakaaDoor.Sha
set_option linter.unusedVariables false
set_option linter.unusedSimpArgs false

open Go.Proofs.YtjldjdlhllgakaaDoor.Sha
def pg (pre : List Nat) (j : Nat) : Nat := pre.getD j 0
theorem pg_snoc (pre : List Nat) (x : Nat) : pg (pre ++ [x]) pre.length = x := by simp [pg]
theorem pg_lt (pre : List Nat) (x j : Nat) (h : j < pre.length) : pg (pre ++ [x]) j = pg pre j := by
  unfold pg
  rw [List.getD_eq_getElem?_getD, List.getD_eq_getElem?_getD, List.getElem?_append_left h]
theorem pg_range (k j : Nat) (h : j < k) : pg (List.range k) j = j := by
  unfold pg
  rw [List.getD_eq_getElem?_getD, List.getElem?_range h]; rfl
theorem mxv_take (text : List Int) (ws : List Wd) (num : Int) (f g : Nat → Nat) (n m : Nat) (h : ∀ i, i < m → f (i / 64) = g (i / 64)) : (mxv text ws num f n).take m = (mxv text ws num g n).take m := by
  unfold mxv
  rw [← List.map_take, ← List.map_take, List.take_range]
  refine List.map_congr_left fun i hi => ?_
  rw [List.mem_range] at hi
  rw [h i (by omega)]
theorem mxv_nth (text : List Int) (ws : List Wd) (num : Int) (f : Nat → Nat) (n m : Nat) (h : m < n) : nth (mxv text ws num f n) m = bits .xor .u8 (nth text m) (nth (pieceV ws (num + ((f (m / 64) : Nat) : Int))) (m % 64)) := by
  rw [show nth (mxv text ws num f n) m = (mxv text ws num f n).getD m 0 from rfl]
  unfold mxv
  rw [List.getD_eq_getElem?_getD, List.getElem?_map, List.getElem?_range h]; rfl
theorem mxv_row (text : List Int) (ws : List Wd) (num : Int) (pre : List Nat) (x n : Nat) : fillL (mxv text ws num (pg pre) n) n (64 * pre.length) = fillL (mxv text ws num (pg (pre ++ [x])) n) n (64 * pre.length) := by
  unfold fillL
  rw [mxv_take text ws num (pg pre) (pg (pre ++ [x])) n _ fun i hi => (pg_lt pre x (i / 64) (by omega)).symm]
theorem mxv_at (text : List Int) (ws : List Wd) (num : Int) (pre : List Nat) (x n j : Nat) (hj : j < 64) (h : 64 * pre.length + j < n) : nth (mxv text ws num (pg (pre ++ [x])) n) (64 * pre.length + j) = bits .xor .u8 (nth text (64 * pre.length + j)) (nth (pieceV ws (num + ((x : Nat) : Int))) j) := by
  rw [mxv_nth _ _ _ _ _ _ h, show (64 * pre.length + j) / 64 = pre.length by omega, show (64 * pre.length + j) % 64 = j by omega, pg_snoc]
theorem mxv_mix (text : List Int) (ws : List Wd) (num : Int) (k : Nat) (h : text.length ≤ 64 * k) : mxv text ws num (pg (List.range k)) text.length = mixV ws num text := by
  have h2 := mxv_take text ws num (pg (List.range k)) id text.length text.length fun i hi => pg_range k (i / 64) (by omega)
  rw [List.take_of_length_le (by rw [mxv_len]; omega), List.take_of_length_le (by rw [mxv_len]; omega)] at h2
  exact h2
theorem mixV_len (ws : List Wd) (num : Int) (text : List Int) : (mixV ws num text).length = text.length := mxv_len _ _ _ _ _
set_option maxRecDepth 100000 in
set_option maxHeartbeats 4000000 in
theorem Mix_A (key nonce text : List Int) (v v2 : Value) (B B2 : Nat) (number : Int) (th tq : TypeId) (w : World) (hh : w.heap[0]? = some (.cells (ints .u32 [1634760805, 857760878, 2036477234, 1797285236]) th)) (hq : w.heap[1]? = some (.cells (ints .i64 [0, 4, 8, 12, 1, 5, 9, 13, 2, 6, 10, 14, 3, 7, 11, 15, 0, 5, 10, 15, 1, 6, 11, 12, 2, 7, 8, 13, 3, 4, 9, 14]) tq)) (hkl : key.length = 32) (hn : RdK .u8 B nonce v w) (ht : RdK .u8 B2 text v2 w) (h : nonce.length ≠ 12) : Calls Tryd.prog 32 #[.agg (ints .u8 key), v, .int .i64 number, v2] w (Ret w (.tuple #[.slice none 0 0, .iface 45 (.int .i64 1)])) := by
  obtain ⟨a_n, c_n, rfl, -⟩ := id hn
  obtain ⟨a_t, c_t, rfl, -⟩ := id ht
  refine enter 64 [(0, .agg (ints .u8 (key))), (1, .slice a_n nonce.length c_n), (2, .int .i64 number), (3, .slice a_t text.length c_t)] Tryd.func32 rfl rfl kj rfl ?_
  refine wp_seq_k fun K3 hK3 => ?_
  refine region_lit ?_
  refine seq_alloc (ints .u8 (key)) 23 4 rfl kj kj fun g4 W1 l4 e1 r4_1 => ?_
  have x1 : Ext w W1 := Ext.tr (Rely.Ext.refl w) e1
  have b4 : w.heap.size ≤ g4 := Nat.le_trans (Rely.Ext.refl w).size l4
  refine seq_alloc (#[.slice a_t text.length c_t]) 24 7 rfl kj kj fun g5 W2 l5 e2 r5_2 => ?_
  have x2 : Ext w W2 := Ext.tr x1 e2
  have b5 : w.heap.size ≤ g5 := Nat.le_trans x1.size l5
  refine seq_val (.slice none 0 0) 8 rfl kj kj ?_
  refine seq_val (.nilIface) 9 rfl kj kj ?_
  refine seq_nil ?_
  refine hK3 _ _ ?_
  try clear hK3 K3
  refine wp_scope_straight ?_
  refine wp_seq_k fun K6 hK6 => ?_
  refine wp_seq_k fun K7 hK7 => ?_
  refine region_lit ?_
  refine seq_val (.slice a_n nonce.length c_n) 17 rfl kj kj ?_
  refine seq_val (.int .i64 number) 18 rfl kj kj ?_
  refine seq_call (.iface 45 (.int .i64 1)) 41 #[.slice a_n nonce.length c_n, .int .i64 number] 19 rfl kj kj ((check_A nonce _ _ number _ (RdK.ext hn x2) h)) fun W3 e3 => ?_
  have x3 : Ext w W3 := Ext.tr x2 e3
  refine seq_val (.iface 45 (.int .i64 1)) 10 rfl kj kj ?_
  refine seq_nil ?_
  refine hK7 _ _ ?_
  try clear hK7 K7
  refine wp_seq_k fun K8 hK8 => ?_
  refine region_lit ?_
  refine seq_val (.iface 45 (.int .i64 1)) 20 rfl kj kj ?_
  refine seq_val (.bool true) 21 rfl kj kj ?_
  refine seq_nil ?_
  refine hK8 _ _ ?_
  try clear hK8 K8
  refine cond_true kj ?_
  refine wp_seq_k fun K9 hK9 => ?_
  refine region_lit ?_
  refine seq_val (.iface 45 (.int .i64 1)) 22 rfl kj kj ?_
  refine seq_val (.slice none 0 0) 8 rfl kj kj ?_
  refine seq_val (.iface 45 (.int .i64 1)) 9 rfl kj kj ?_
  refine seq_nil ?_
  refine hK9 _ _ ?_
  try clear hK9 K9
  refine wp_ret ?_
  repeat (first | with_reducible refine goR1 ?_ | with_reducible refine goR2 ?_)
  exact (show bodyPost _ _ _ .ret _ _ from ret2 (.slice none 0 0) (.iface 45 (.int .i64 1)) rfl (res_tmp kj) (res_tmp kj) ⟨rfl, x3⟩)
set_option maxRecDepth 100000 in
set_option maxHeartbeats 4000000 in
theorem Mix_B (key nonce text : List Int) (v v2 : Value) (B B2 : Nat) (number : Int) (th tq : TypeId) (w : World) (hh : w.heap[0]? = some (.cells (ints .u32 [1634760805, 857760878, 2036477234, 1797285236]) th)) (hq : w.heap[1]? = some (.cells (ints .i64 [0, 4, 8, 12, 1, 5, 9, 13, 2, 6, 10, 14, 3, 7, 11, 15, 0, 5, 10, 15, 1, 6, 11, 12, 2, 7, 8, 13, 3, 4, 9, 14]) tq)) (hkl : key.length = 32) (hn : RdK .u8 B nonce v w) (ht : RdK .u8 B2 text v2 w) (h : nonce.length = 12) (h1 : number < 0) : Calls Tryd.prog 32 #[.agg (ints .u8 key), v, .int .i64 number, v2] w (Ret w (.tuple #[.slice none 0 0, .iface 45 (.int .i64 8)])) := by
  obtain ⟨a_n, c_n, rfl, -⟩ := id hn
  obtain ⟨a_t, c_t, rfl, -⟩ := id ht
  refine enter 64 [(0, .agg (ints .u8 (key))), (1, .slice a_n nonce.length c_n), (2, .int .i64 number), (3, .slice a_t text.length c_t)] Tryd.func32 rfl rfl kj rfl ?_
  refine wp_seq_k fun K3 hK3 => ?_
  refine region_lit ?_
  refine seq_alloc (ints .u8 (key)) 23 4 rfl kj kj fun g4 W1 l4 e1 r4_1 => ?_
  have x1 : Ext w W1 := Ext.tr (Rely.Ext.refl w) e1
  have b4 : w.heap.size ≤ g4 := Nat.le_trans (Rely.Ext.refl w).size l4
  refine seq_alloc (#[.slice a_t text.length c_t]) 24 7 rfl kj kj fun g5 W2 l5 e2 r5_2 => ?_
  have x2 : Ext w W2 := Ext.tr x1 e2
  have b5 : w.heap.size ≤ g5 := Nat.le_trans x1.size l5
  refine seq_val (.slice none 0 0) 8 rfl kj kj ?_
  refine seq_val (.nilIface) 9 rfl kj kj ?_
  refine seq_nil ?_
  refine hK3 _ _ ?_
  try clear hK3 K3
  refine wp_scope_straight ?_
  refine wp_seq_k fun K6 hK6 => ?_
  refine wp_seq_k fun K7 hK7 => ?_
  refine region_lit ?_
  refine seq_val (.slice a_n nonce.length c_n) 17 rfl kj kj ?_
  refine seq_val (.int .i64 number) 18 rfl kj kj ?_
  refine seq_call (.iface 45 (.int .i64 8)) 41 #[.slice a_n nonce.length c_n, .int .i64 number] 19 rfl kj kj ((check_B nonce _ _ number _ (RdK.ext hn x2) h h1)) fun W3 e3 => ?_
  have x3 : Ext w W3 := Ext.tr x2 e3
  refine seq_val (.iface 45 (.int .i64 8)) 10 rfl kj kj ?_
  refine seq_nil ?_
  refine hK7 _ _ ?_
  try clear hK7 K7
  refine wp_seq_k fun K8 hK8 => ?_
  refine region_lit ?_
  refine seq_val (.iface 45 (.int .i64 8)) 20 rfl kj kj ?_
  refine seq_val (.bool true) 21 rfl kj kj ?_
  refine seq_nil ?_
  refine hK8 _ _ ?_
  try clear hK8 K8
  refine cond_true kj ?_
  refine wp_seq_k fun K9 hK9 => ?_
  refine region_lit ?_
  refine seq_val (.iface 45 (.int .i64 8)) 22 rfl kj kj ?_
  refine seq_val (.slice none 0 0) 8 rfl kj kj ?_
  refine seq_val (.iface 45 (.int .i64 8)) 9 rfl kj kj ?_
  refine seq_nil ?_
  refine hK9 _ _ ?_
  try clear hK9 K9
  refine wp_ret ?_
  repeat (first | with_reducible refine goR1 ?_ | with_reducible refine goR2 ?_)
  exact (show bodyPost _ _ _ .ret _ _ from ret2 (.slice none 0 0) (.iface 45 (.int .i64 8)) rfl (res_tmp kj) (res_tmp kj) ⟨rfl, x3⟩)
set_option maxRecDepth 100000 in
set_option maxHeartbeats 4000000 in
theorem Mix_C (key nonce text : List Int) (v v2 : Value) (B B2 : Nat) (number : Int) (th tq : TypeId) (w : World) (hh : w.heap[0]? = some (.cells (ints .u32 [1634760805, 857760878, 2036477234, 1797285236]) th)) (hq : w.heap[1]? = some (.cells (ints .i64 [0, 4, 8, 12, 1, 5, 9, 13, 2, 6, 10, 14, 3, 7, 11, 15, 0, 5, 10, 15, 1, 6, 11, 12, 2, 7, 8, 13, 3, 4, 9, 14]) tq)) (hkl : key.length = 32) (hn : RdK .u8 B nonce v w) (ht : RdK .u8 B2 text v2 w) (h : nonce.length = 12) (h1 : 0 ≤ number) (h2 : 4294967295 < number) : Calls Tryd.prog 32 #[.agg (ints .u8 key), v, .int .i64 number, v2] w (Ret w (.tuple #[.slice none 0 0, .iface 45 (.int .i64 8)])) := by
  obtain ⟨a_n, c_n, rfl, -⟩ := id hn
  obtain ⟨a_t, c_t, rfl, -⟩ := id ht
  refine enter 64 [(0, .agg (ints .u8 (key))), (1, .slice a_n nonce.length c_n), (2, .int .i64 number), (3, .slice a_t text.length c_t)] Tryd.func32 rfl rfl kj rfl ?_
  refine wp_seq_k fun K3 hK3 => ?_
  refine region_lit ?_
  refine seq_alloc (ints .u8 (key)) 23 4 rfl kj kj fun g4 W1 l4 e1 r4_1 => ?_
  have x1 : Ext w W1 := Ext.tr (Rely.Ext.refl w) e1
  have b4 : w.heap.size ≤ g4 := Nat.le_trans (Rely.Ext.refl w).size l4
  refine seq_alloc (#[.slice a_t text.length c_t]) 24 7 rfl kj kj fun g5 W2 l5 e2 r5_2 => ?_
  have x2 : Ext w W2 := Ext.tr x1 e2
  have b5 : w.heap.size ≤ g5 := Nat.le_trans x1.size l5
  refine seq_val (.slice none 0 0) 8 rfl kj kj ?_
  refine seq_val (.nilIface) 9 rfl kj kj ?_
  refine seq_nil ?_
  refine hK3 _ _ ?_
  try clear hK3 K3
  refine wp_scope_straight ?_
  refine wp_seq_k fun K6 hK6 => ?_
  refine wp_seq_k fun K7 hK7 => ?_
  refine region_lit ?_
  refine seq_val (.slice a_n nonce.length c_n) 17 rfl kj kj ?_
  refine seq_val (.int .i64 number) 18 rfl kj kj ?_
  refine seq_call (.iface 45 (.int .i64 8)) 41 #[.slice a_n nonce.length c_n, .int .i64 number] 19 rfl kj kj ((check_C nonce _ _ number _ (RdK.ext hn x2) h h1 h2)) fun W3 e3 => ?_
  have x3 : Ext w W3 := Ext.tr x2 e3
  refine seq_val (.iface 45 (.int .i64 8)) 10 rfl kj kj ?_
  refine seq_nil ?_
  refine hK7 _ _ ?_
  try clear hK7 K7
  refine wp_seq_k fun K8 hK8 => ?_
  refine region_lit ?_
  refine seq_val (.iface 45 (.int .i64 8)) 20 rfl kj kj ?_
  refine seq_val (.bool true) 21 rfl kj kj ?_
  refine seq_nil ?_
  refine hK8 _ _ ?_
  try clear hK8 K8
  refine cond_true kj ?_
  refine wp_seq_k fun K9 hK9 => ?_
  refine region_lit ?_
  refine seq_val (.iface 45 (.int .i64 8)) 22 rfl kj kj ?_
  refine seq_val (.slice none 0 0) 8 rfl kj kj ?_
  refine seq_val (.iface 45 (.int .i64 8)) 9 rfl kj kj ?_
  refine seq_nil ?_
  refine hK9 _ _ ?_
  try clear hK9 K9
  refine wp_ret ?_
  repeat (first | with_reducible refine goR1 ?_ | with_reducible refine goR2 ?_)
  exact (show bodyPost _ _ _ .ret _ _ from ret2 (.slice none 0 0) (.iface 45 (.int .i64 8)) rfl (res_tmp kj) (res_tmp kj) ⟨rfl, x3⟩)
set_option maxRecDepth 100000 in
set_option maxHeartbeats 4000000 in
theorem Mix_E (key nonce text : List Int) (v v2 : Value) (B B2 : Nat) (number : Int) (th tq : TypeId) (w : World) (hh : w.heap[0]? = some (.cells (ints .u32 [1634760805, 857760878, 2036477234, 1797285236]) th)) (hq : w.heap[1]? = some (.cells (ints .i64 [0, 4, 8, 12, 1, 5, 9, 13, 2, 6, 10, 14, 3, 7, 11, 15, 0, 5, 10, 15, 1, 6, 11, 12, 2, 7, 8, 13, 3, 4, 9, 14]) tq)) (hkl : key.length = 32) (hn : RdK .u8 B nonce v w) (ht : RdK .u8 B2 text v2 w) (h : nonce.length = 12) (r : Nat) (hr : number + (r : Int) = 4294967296) (h1 : 0 ≤ number) (h2 : number ≤ 4294967295) (hfit : 64 * r < text.length) (htl : text.length ≤ 2000000) : Calls Tryd.prog 32 #[.agg (ints .u8 key), v, .int .i64 number, v2] w (Ret w (.tuple #[.slice none 0 0, .iface 45 (.int .i64 8)])) := by
  obtain ⟨a_n, c_n, rfl, -⟩ := id hn
  obtain ⟨a_t, c_t, rfl, -⟩ := id ht
  refine enter 64 [(0, .agg (ints .u8 (key))), (1, .slice a_n nonce.length c_n), (2, .int .i64 number), (3, .slice a_t text.length c_t)] Tryd.func32 rfl rfl kj rfl ?_
  refine wp_seq_k fun K3 hK3 => ?_
  refine region_lit ?_
  refine seq_alloc (ints .u8 (key)) 23 4 rfl kj kj fun g4 W1 l4 e1 r4_1 => ?_
  have x1 : Ext w W1 := Ext.tr (Rely.Ext.refl w) e1
  have b4 : w.heap.size ≤ g4 := Nat.le_trans (Rely.Ext.refl w).size l4
  refine seq_alloc (#[.slice a_t text.length c_t]) 24 7 rfl kj kj fun g5 W2 l5 e2 r5_2 => ?_
  have x2 : Ext w W2 := Ext.tr x1 e2
  have b5 : w.heap.size ≤ g5 := Nat.le_trans x1.size l5
  refine seq_val (.slice none 0 0) 8 rfl kj kj ?_
  refine seq_val (.nilIface) 9 rfl kj kj ?_
  refine seq_nil ?_
  refine hK3 _ _ ?_
  try clear hK3 K3
  refine wp_scope_straight ?_
  refine wp_seq_k fun K6 hK6 => ?_
  refine wp_seq_k fun K7 hK7 => ?_
  refine region_lit ?_
  refine seq_val (.slice a_n nonce.length c_n) 17 rfl kj kj ?_
  refine seq_val (.int .i64 number) 18 rfl kj kj ?_
  refine seq_call (.nilIface) 41 #[.slice a_n nonce.length c_n, .int .i64 number] 19 rfl kj kj ((check_D nonce _ _ number _ (RdK.ext hn x2) h h1 h2)) fun W3 e3 => ?_
  have x3 : Ext w W3 := Ext.tr x2 e3
  refine seq_val (.nilIface) 10 rfl kj kj ?_
  refine seq_nil ?_
  refine hK7 _ _ ?_
  try clear hK7 K7
  refine wp_seq_k fun K8 hK8 => ?_
  refine region_lit ?_
  refine seq_val (.nilIface) 20 rfl kj kj ?_
  refine seq_val (.bool false) 21 rfl kj kj ?_
  refine seq_nil ?_
  refine hK8 _ _ ?_
  try clear hK8 K8
  refine cond_false kj ?_
  refine wp_skip ?_
  refine hK6 _ _ ?_
  try clear hK6 K6
  refine wp_seq_k fun K9 hK9 => ?_
  refine wp_seq_k fun K10 hK10 => ?_
  refine region_lit ?_
  have r5_3 := (row_ext r5_2 e3)
  refine seq_val (.slice a_t text.length c_t) 23 rfl kj (run_loadC1 24 _ g5 0 24 _ (.slice a_t text.length c_t) _ r5_3 rfl kj kj kj) ?_
  refine seq_val (.int .i64 ((text.length : Nat) : Int)) 24 rfl kj kj ?_
  refine seq_val (.int .i64 ((text.length + 64 : Nat) : Int)) 25 rfl kj (run_eq (u := .int .i64 (IntKind.i64.wrap (((text.length : Nat) : Int) + 64))) kj (congrArg (Value.int .i64) (i64n _ _ (by omega) (by omega)))) ?_
  refine seq_val (.int .i64 (((text.length + 64) - 1 : Nat) : Int)) 26 rfl kj (run_eq (u := .int .i64 (IntKind.i64.wrap (((text.length + 64 : Nat) : Int) - 1))) kj (congrArg (Value.int .i64) (i64n _ _ (by omega) (by omega)))) ?_
  refine seq_val (.int .i64 ((((text.length + 64) - 1) / 64 : Nat) : Int)) 27 rfl kj (run_eq (u := .int .i64 (IntKind.i64.wrap (Int.tdiv ((((text.length + 64) - 1 : Nat) : Int)) (64)))) kj (congrArg (Value.int .i64) (i64_quo _ 64 (by omega)))) ?_
  refine seq_val (.int .i64 ((((text.length + 64) - 1) / 64 : Nat) : Int)) 11 rfl kj kj ?_
  refine seq_nil ?_
  refine hK10 _ _ ?_
  try clear hK10 K10
  refine wp_seq_k fun K11 hK11 => ?_
  refine region_lit ?_
  refine seq_val (.int .i64 ((((text.length + 64) - 1) / 64 : Nat) : Int)) 28 rfl kj kj ?_
  refine seq_val (.int .i64 number) 29 rfl kj kj ?_
  refine seq_val (.int .i64 (((r - 1 : Nat) : Int))) 30 rfl kj (run_eq (u := .int .i64 (IntKind.i64.wrap (4294967295 - number))) kj (congrArg (Value.int .i64) (by rw [show (4294967295 - number : Int) = ((r - 1 : Nat) : Int) by omega]; exact IntWalk.i64_in _ (by omega)))) ?_
  refine seq_val (.int .i64 (((r - 1) + 1 : Nat) : Int)) 31 rfl kj (run_eq (u := .int .i64 (IntKind.i64.wrap ((((r - 1 : Nat) : Int)) + 1))) kj (congrArg (Value.int .i64) (i64n _ _ (by omega) (by omega)))) ?_
  refine seq_val (.bool true) 32 rfl kj (run_eq (u := .bool (decide (((((text.length + 64) - 1) / 64 : Nat) : Int) > (((r - 1) + 1 : Nat) : Int)))) kj (congrArg Value.bool (decide_eq_true (by omega)))) ?_
  refine seq_nil ?_
  refine hK11 _ _ ?_
  try clear hK11 K11
  refine cond_true kj ?_
  refine wp_seq_k fun K12 hK12 => ?_
  refine region_lit ?_
  refine seq_val (.iface 45 (.int .i64 8)) 33 rfl kj kj ?_
  refine seq_val (.slice none 0 0) 8 rfl kj kj ?_
  refine seq_val (.iface 45 (.int .i64 8)) 9 rfl kj kj ?_
  refine seq_nil ?_
  refine hK12 _ _ ?_
  try clear hK12 K12
  refine wp_ret ?_
  repeat (first | with_reducible refine goR1 ?_ | with_reducible refine goR2 ?_)
  exact (show bodyPost _ _ _ .ret _ _ from ret2 (.slice none 0 0) (.iface 45 (.int .i64 8)) rfl (res_tmp kj) (res_tmp kj) ⟨rfl, x3⟩)
set_option maxRecDepth 100000 in
set_option maxHeartbeats 4000000 in
theorem Mix_D (key nonce text : List Int) (v v2 : Value) (B B2 : Nat) (number : Int) (th tq : TypeId) (w : World) (hh : w.heap[0]? = some (.cells (ints .u32 [1634760805, 857760878, 2036477234, 1797285236]) th)) (hq : w.heap[1]? = some (.cells (ints .i64 [0, 4, 8, 12, 1, 5, 9, 13, 2, 6, 10, 14, 3, 7, 11, 15, 0, 5, 10, 15, 1, 6, 11, 12, 2, 7, 8, 13, 3, 4, 9, 14]) tq)) (hkl : key.length = 32) (hn : RdK .u8 B nonce v w) (ht : RdK .u8 B2 text v2 w) (h : nonce.length = 12) (r : Nat) (hr : number + (r : Int) = 4294967296) (h1 : 0 ≤ number) (h2 : number ≤ 4294967295) (hfit : text.length ≤ 64 * r) (htl : text.length ≤ 2000000) : Calls Tryd.prog 32 #[.agg (ints .u8 key), v, .int .i64 number, v2] w (Gives w (fun v W => ∃ u, v = .tuple #[u, .nilIface] ∧ OwnN .u8 5 w.heap.size (mixV (startW key nonce) number text) u W)) := by
  obtain ⟨a_n, c_n, rfl, -⟩ := id hn
  obtain ⟨a_t, c_t, rfl, -⟩ := id ht
  refine enterM 64 [(0, .agg (ints .u8 (key))), (1, .slice a_n nonce.length c_n), (2, .int .i64 number), (3, .slice a_t text.length c_t)] Tryd.func32 rfl rfl kj rfl ?_
  refine wp_seq_k fun K3 hK3 => ?_
  refine region_lit ?_
  refine seq_alloc (ints .u8 (key)) 23 4 rfl kj kj fun g4 W1 l4 e1 r4_1 => ?_
  have x1 : Ext w W1 := Ext.tr (Rely.Ext.refl w) e1
  have b4 : w.heap.size ≤ g4 := Nat.le_trans (Rely.Ext.refl w).size l4
  refine seq_alloc (#[.slice a_t text.length c_t]) 24 7 rfl kj kj fun g5 W2 l5 e2 r5_2 => ?_
  have x2 : Ext w W2 := Ext.tr x1 e2
  have b5 : w.heap.size ≤ g5 := Nat.le_trans x1.size l5
  refine seq_val (.slice none 0 0) 8 rfl kj kj ?_
  refine seq_val (.nilIface) 9 rfl kj kj ?_
  refine seq_nil ?_
  refine hK3 _ _ ?_
  try clear hK3 K3
  refine wp_scope_straight ?_
  refine wp_seq_k fun K6 hK6 => ?_
  refine wp_seq_k fun K7 hK7 => ?_
  refine region_lit ?_
  refine seq_val (.slice a_n nonce.length c_n) 17 rfl kj kj ?_
  refine seq_val (.int .i64 number) 18 rfl kj kj ?_
  refine seq_call (.nilIface) 41 #[.slice a_n nonce.length c_n, .int .i64 number] 19 rfl kj kj ((check_D nonce _ _ number _ (RdK.ext hn x2) h h1 h2)) fun W3 e3 => ?_
  have x3 : Ext w W3 := Ext.tr x2 e3
  refine seq_val (.nilIface) 10 rfl kj kj ?_
  refine seq_nil ?_
  refine hK7 _ _ ?_
  try clear hK7 K7
  refine wp_seq_k fun K8 hK8 => ?_
  refine region_lit ?_
  refine seq_val (.nilIface) 20 rfl kj kj ?_
  refine seq_val (.bool false) 21 rfl kj kj ?_
  refine seq_nil ?_
  refine hK8 _ _ ?_
  try clear hK8 K8
  refine cond_false kj ?_
  refine wp_skip ?_
  refine hK6 _ _ ?_
  try clear hK6 K6
  refine wp_seq_k fun K9 hK9 => ?_
  refine wp_seq_k fun K10 hK10 => ?_
  refine region_lit ?_
  have r5_3 := (row_ext r5_2 e3)
  refine seq_val (.slice a_t text.length c_t) 23 rfl kj (run_loadC1 24 _ g5 0 24 _ (.slice a_t text.length c_t) _ r5_3 rfl kj kj kj) ?_
  refine seq_val (.int .i64 ((text.length : Nat) : Int)) 24 rfl kj kj ?_
  refine seq_val (.int .i64 ((text.length + 64 : Nat) : Int)) 25 rfl kj (run_eq (u := .int .i64 (IntKind.i64.wrap (((text.length : Nat) : Int) + 64))) kj (congrArg (Value.int .i64) (i64n _ _ (by omega) (by omega)))) ?_
  refine seq_val (.int .i64 (((text.length + 64) - 1 : Nat) : Int)) 26 rfl kj (run_eq (u := .int .i64 (IntKind.i64.wrap (((text.length + 64 : Nat) : Int) - 1))) kj (congrArg (Value.int .i64) (i64n _ _ (by omega) (by omega)))) ?_
  refine seq_val (.int .i64 ((((text.length + 64) - 1) / 64 : Nat) : Int)) 27 rfl kj (run_eq (u := .int .i64 (IntKind.i64.wrap (Int.tdiv ((((text.length + 64) - 1 : Nat) : Int)) (64)))) kj (congrArg (Value.int .i64) (i64_quo _ 64 (by omega)))) ?_
  refine seq_val (.int .i64 ((((text.length + 64) - 1) / 64 : Nat) : Int)) 11 rfl kj kj ?_
  refine seq_nil ?_
  refine hK10 _ _ ?_
  try clear hK10 K10
  refine wp_seq_k fun K11 hK11 => ?_
  refine region_lit ?_
  refine seq_val (.int .i64 ((((text.length + 64) - 1) / 64 : Nat) : Int)) 28 rfl kj kj ?_
  refine seq_val (.int .i64 number) 29 rfl kj kj ?_
  refine seq_val (.int .i64 (((r - 1 : Nat) : Int))) 30 rfl kj (run_eq (u := .int .i64 (IntKind.i64.wrap (4294967295 - number))) kj (congrArg (Value.int .i64) (by rw [show (4294967295 - number : Int) = ((r - 1 : Nat) : Int) by omega]; exact IntWalk.i64_in _ (by omega)))) ?_
  refine seq_val (.int .i64 (((r - 1) + 1 : Nat) : Int)) 31 rfl kj (run_eq (u := .int .i64 (IntKind.i64.wrap ((((r - 1 : Nat) : Int)) + 1))) kj (congrArg (Value.int .i64) (i64n _ _ (by omega) (by omega)))) ?_
  refine seq_val (.bool false) 32 rfl kj (run_eq (u := .bool (decide (((((text.length + 64) - 1) / 64 : Nat) : Int) > (((r - 1) + 1 : Nat) : Int)))) kj (congrArg Value.bool (decide_eq_false (by omega)))) ?_
  refine seq_nil ?_
  refine hK11 _ _ ?_
  try clear hK11 K11
  refine cond_false kj ?_
  refine wp_skip ?_
  refine hK9 _ _ ?_
  try clear hK9 K9
  refine wp_seq_k fun K12 hK12 => ?_
  refine region_lit ?_
  refine seq_val (.slice a_t text.length c_t) 34 rfl kj (run_loadC1 24 _ g5 0 24 _ (.slice a_t text.length c_t) _ r5_3 rfl kj kj kj) ?_
  refine seq_val (.int .i64 ((text.length : Nat) : Int)) 35 rfl kj kj ?_
  refine seq_makeC (ints .u8 (List.replicate (text.length) 0)) 5 0 (text.length) 36 rfl kj (run_makeC 24 _ _ .i64 .i64 0 (text.length) 5 rfl kj kj kj (.inr kj) (Nat.zero_le _) (by omega)) fun g13 W4 l13 e4 r13_4 => ?_
  have x4 : Ext w W4 := Ext.tr x3 e4
  have b13 : w.heap.size ≤ g13 := Nat.le_trans x3.size l13
  refine seq_alloc (#[.slice none 0 0]) 24 12 rfl kj kj fun g14 W5 l14 e5 r14_5 => ?_
  have x5 : Ext w W5 := Ext.tr x4 e5
  have b14 : w.heap.size ≤ g14 := Nat.le_trans x4.size l14
  refine seq_store g14 _ (#[.slice (some ⟨g13, 0, none⟩) 0 text.length]) 24 r14_5 rfl kj (run_storeC1 24 _ _ g14 0 24 _ (.slice (some ⟨g13, 0, none⟩) 0 text.length) r14_5 rfl kj kj kj kj kj rfl) fun W6 p6 r14_6 => ?_
  have x6 : Ext w W6 := Puts.ext p6 x5 b14
  refine seq_nil ?_
  refine hK12 _ _ ?_
  try clear hK12 K12
  refine wp_seq_k fun K15 hK15 => ?_
  refine wp_label ?_
  refine hK15 _ _ ?_
  try clear hK15 K15
  refine wp_seq_k fun K16 hK16 => ?_
  refine wp_seq_k fun K17 hK17 => ?_
  refine region_lit ?_
  have r4_2 := (row_ext r4_1 e2)
  have r4_3 := (row_ext r4_2 e3)
  have r4_4 := (row_ext r4_3 e4)
  have r4_5 := (row_ext r4_4 e5)
  have r4_6 := (Puts.row p6 r4_5 (ne_of_old r4_4 l14))
  refine seq_val (.agg (ints .u8 (key))) 37 rfl kj (run_load_row 23 _ g4 23 _ _ r4_6 rfl kj kj (isz (n := 32) kj ((ints_size _ _).trans hkl))) ?_
  refine seq_val (.slice a_n nonce.length c_n) 38 rfl kj kj ?_
  refine seq_val (.int .i64 number) 39 rfl kj kj ?_
  have r2_1 := (row_ext hh e1)
  have r2_2 := (row_ext r2_1 e2)
  have r2_3 := (row_ext r2_2 e3)
  have r2_4 := (row_ext r2_3 e4)
  have r2_5 := (row_ext r2_4 e5)
  have r2_6 := (Puts.row p6 r2_5 (ne_of_old r2_4 l14))
  have r1_1 := (row_ext hq e1)
  have r1_2 := (row_ext r1_1 e2)
  have r1_3 := (row_ext r1_2 e3)
  have r1_4 := (row_ext r1_3 e4)
  have r1_5 := (row_ext r1_4 e5)
  have r1_6 := (Puts.row p6 r1_5 (ne_of_old r1_4 l14))
  refine seq_callR (fun v W' => (fun v W => ∃ g1 g2, v = .func (.func 51) #[] #[.pointer (some ⟨g1, 0, none⟩), .pointer (some ⟨g2, 0, none⟩)] ∧ W6.heap.size ≤ g1 ∧ W6.heap.size ≤ g2 ∧ W.heap[g1]? = some (.cells #[.int .i64 number] 3) ∧ W.heap[g2]? = some (.cells (ints .u32 ((startW key nonce).map wv)) 88)) v W' ∧ Ext W6 W') 42 #[.agg (ints .u8 (key)), .slice a_n nonce.length c_n, .int .i64 number] 40 rfl kj kj ((pieces_D key nonce _ _ number th tq _ r2_6 r1_6 hkl (RdK.ext hn x6) h h1 h2).mono (by rintro e w' ⟨v, rfl, e1, hv⟩; exact ⟨v, rfl, hv, e1⟩)) fun vv18 W7 hh18 => ?_
  obtain ⟨hv18, e7⟩ := hh18
  have x7 : Ext w W7 := Ext.tr x6 e7
  obtain ⟨gp1, gp2, rfl, lp1, lp2, rp1, rp2⟩ := hv18
  refine seq_nil ?_
  refine hK17 _ _ ?_
  try clear hK17 K17
  refine wp_block ?_
  have r5_4 := (row_ext r5_3 e4)
  have r5_5 := (row_ext r5_4 e5)
  have r5_6 := (Puts.row p6 r5_5 (ne_of_old r5_4 l14))
  have r5_7 := (row_ext r5_6 e7)
  have r14_7 := (row_ext r14_6 e7)
  have r13_5 := (row_ext r13_4 e5)
  have r13_6 := (Puts.row p6 r13_5 (ne_of_old r13_4 l14))
  have r13_7 := (row_ext r13_6 e7)
  have r1_7 := (row_ext r1_6 e7)
  have nb712 : g5 ≠ g14 := (ne_of_old r5_4 l14)
  have nb7O : g5 ≠ g13 := (ne_of_old r5_3 l13)
  have nb127 : g14 ≠ g5 := (ne_of_new r5_4 l14)
  have nb12O : g14 ≠ g13 := (ne_of_new r13_4 l14)
  have nbO7 : g13 ≠ g5 := (ne_of_new r5_3 l13)
  have nbO12 : g13 ≠ g14 := (ne_of_old r13_4 l14)
  have hgs : ∀ c ∈ ([g14, g13] : List Nat), w.heap.size ≤ c := (fun c hc => by simp only [List.mem_cons, List.not_mem_nil, or_false] at hc; rcases hc with rfl | rfl; exact b14; exact b13)
  have hgp : ∀ c ∈ ([g14, g13] : List Nat), c < W6.heap.size := (fun c hc => by simp only [List.mem_cons, List.not_mem_nil, or_false] at hc; rcases hc with rfl | rfl; exact row_lt r14_6; exact row_lt r13_6)
  refine range_autoJ (gf := 51) (lb := #[.pointer (some ⟨gp1, 0, none⟩), .pointer (some ⟨gp2, 0, none⟩)]) (enc := fun x : Nat => .int .i64 (number + ((x : Nat) : Int))) (enc2 := fun x : Nat => .agg (ints .u8 (pieceV (startW key nonce) (number + ((x : Nat) : Int))))) kj (enters_of Tryd.func51 kj rfl) (pieces_stops 2 [g14, g13] gp1 gp2 (startW key nonce) number r tq W7 hr h1 h2 (startW_len _ _) r1_7 rp1 rp2 (fun hm => by have := hgp _ hm; omega) (fun hm => by have := hgp _ hm; omega) (fun hm => by have h1 := hgs _ hm; have h2 := row_lt hq; omega)) (fun h k => KeepC.trans h k) KeepC.book (Below.refl _ _)
      (fun pre W => ((W.heap[g5]? = some (.cells (#[.slice a_t text.length c_t]) 24)) ∧ (W.heap[g14]? = some (.cells (#[.slice (some ⟨g13, 0, none⟩) (64 * pre.length) text.length]) 24)) ∧ (W.heap[g13]? = some (.cells (ints .u8 (fillL (mxv text (startW key nonce) number (pg pre) text.length) text.length (64 * pre.length))) 5)) ∧ 64 * pre.length ≤ text.length ∧ W7.heap.size ≤ W.heap.size) ∧ Ext w W)
      (fun c pre W => (c = .exit 0 ∧ text.length ≤ 64 * pre.length ∧ (W.heap[g14]? = some (.cells (#[.slice (some ⟨g13, 0, none⟩) (text.length) text.length]) 24)) ∧ (W.heap[g13]? = some (.cells (ints .u8 (fillL (mxv text (startW key nonce) number (pg pre) text.length) text.length (text.length))) 5))) ∧ Ext w W) (OwnFrom.and (Own.from (fun s A B row hs hg hr => ⟨row_kept hs.1 hg hr, row_kept hs.2.1 hg hr, row_kept hs.2.2.1 hg hr, hs.2.2.2.1, Nat.le_trans hs.2.2.2.2 hg.size⟩) _) (ownFrom_below (Nat.le_refl _) x7.size)) (fun c => OwnFrom.and (Own.from (fun s A B row hs hg hr => ⟨hs.1, hs.2.1, row_kept hs.2.2.1 hg hr, row_kept hs.2.2.2 hg hr⟩) _) (ownFrom_below (Nat.le_refl _) x7.size)) ⟨⟨r5_7, r14_7, row_eq r13_7 (fillL_zero _ _), Nat.zero_le _, Nat.le_refl _⟩, x7⟩ (fun e => KeepC.ext e) (fun pre A B h e => ⟨⟨row_ext h.1.1 e, row_ext h.1.2.1 e, row_ext h.1.2.2.1 e, h.1.2.2.2.1, Nat.le_trans h.1.2.2.2.2 e.size⟩, Rely.Ext.trans h.2 e⟩) (fun pre W h => h.1.2.2.2.2) (fun x g => [(14, .pointer (some ⟨g, 0, none⟩)), (42, .agg (ints .u8 (pieceV (startW key nonce) (number + ((x : Nat) : Int))))), (41, .int .i64 (number + ((x : Nat) : Int)))]) (fun x => ints .u8 (pieceV (startW key nonce) (number + ((x : Nat) : Int)))) 78 (fun l x W K hK => ?_) (fun l pre x gP Wr hgP hI rP hp => ?_) (fun D ys W lD hS hI rD => ?_) (fun D c pre W lD hSp hIx rD => ?_)
  · skip
    refine region_litIn ?_
    refine in_alloc (ints .u8 (List.replicate 64 0)) 78 14 rfl (free_wide l 1 _) rfl kj kj fun g301 W1 l301 e1 r301_1 => ?_
    have x1 : Ext W W1 := Ext.tr (Rely.Ext.refl W) e1
    have b301 : W.heap.size ≤ g301 := Nat.le_trans (Rely.Ext.refl W).size l301
    refine in_store g301 _ (ints .u8 (pieceV (startW key nonce) (number + ((x : Nat) : Int)))) 78 r301_1 rfl (free_wide l 1 _) rfl kj (run_store_row 78 _ _ g301 78 _ _ r301_1 rfl kj kj (isz (n := 64) kj ((ints_size _ _).trans (pieceV_len _ _))) (eqsz (n := 64) ((ints_size _ _).trans (List.length_replicate (n := 64))) ((ints_size _ _).trans (pieceV_len _ _))) (ints_one _ _)) fun W2 p2 r301_2 => ?_
    have x2 : Ext W W2 := Puts.ext p2 x1 b301
    refine in_nil ?_
    have y0_1 : Ext W W1 := (Rely.Ext.trans (Rely.Ext.refl W) e1)
    have y0_2 : Ext W W2 := (Puts.ext p2 y0_1 l301)
    exact hK _ _ l301 y0_2 r301_2
  · skip
    obtain ⟨⟨q7, q12, qO, hml, hsz⟩, xx⟩ := hI
    replace qO := row_eq qO (mxv_row text (startW key nonce) number pre x text.length)
    have hl1 : (pre ++ [x]).length = pre.length + 1 := by simp
    have n147 : gP ≠ g5 := by have h1 := row_lt r5_7; omega
    have n1412 : gP ≠ g14 := by have h1 := row_lt r14_7; omega
    have n14O : gP ≠ g13 := by have h1 := row_lt r13_7; omega
    refine wpIn_block ?_
    refine wpIn_seq_k fun K505 hK505 => ?_
    refine region_litIn ?_
    refine in_val (.agg (ints .u8 (pieceV (startW key nonce) (number + ((x : Nat) : Int))))) 43 rfl (free_wide l 1 _) rfl kj (run_load_row 78 _ gP 78 _ _ rP rfl kj kj (isz (n := 64) kj ((ints_size _ _).trans (pieceV_len _ _)))) ?_
    refine in_val (.int .i64 0) 44 rfl (free_wide l 1 _) rfl kj kj ?_
    refine in_nil ?_
    refine hK505 _ _ ?_
    try clear hK505 K505
    refine wpIn_block ?_
    refine loop_autoIn (fun (s1 : Nat) => [(7, .pointer (some ⟨g5, 0, none⟩)), (12, .pointer (some ⟨g14, 0, none⟩)), (43, .agg (ints .u8 (pieceV (startW key nonce) (number + ((x : Nat) : Int))))), (44, .int .i64 ((s1 : Nat) : Int))]) (fun (s1 : Nat) W => (s1 ≤ 64) ∧ (64 * pre.length + s1 ≤ text.length) ∧ (W.heap[g14]? = some (.cells (#[.slice (some ⟨g13, 0, none⟩) (64 * pre.length + s1) text.length]) 24)) ∧ (W.heap[g13]? = some (.cells (ints .u8 (fillL (mxv text (startW key nonce) number (pg (pre ++ [x])) text.length) text.length (64 * pre.length + s1))) 5)) ∧ (Keeps [g14, g13] Wr W) ∧ (Ext w W)) (fun (s1 : Nat) => 64 - s1) 0 ⟨rfl, rfl, rfl, rfl, trivial⟩ ⟨(Nat.zero_le _), (by omega), q12, qO, (Keeps.refl [g14, g13] Wr), xx⟩ fun s1 X1 V1 hI1 => ?_
    obtain ⟨j, hs1⟩ : ∃ z, z = s1 := ⟨_, rfl⟩
    subst hs1
    obtain ⟨hj, hmj, q503_1, q501_1, kk1, xx1⟩ := hI1
    replace hj : j ≤ 64 := hj
    replace hmj : 64 * pre.length + j ≤ text.length := hmj
    replace q503_1 : V1.heap[g14]? = some (.cells (#[.slice (some ⟨g13, 0, none⟩) (64 * pre.length + j) text.length]) 24) := q503_1
    replace q501_1 : V1.heap[g13]? = some (.cells (ints .u8 (fillL (mxv text (startW key nonce) number (pg (pre ++ [x])) text.length) text.length (64 * pre.length + j))) 5) := q501_1
    replace kk1 : Keeps [g14, g13] Wr V1 := kk1
    replace xx1 : Ext w V1 := xx1
    have q1 := kk1
    refine wpIn_seq_k fun K506 hK506 => ?_
    refine region_litIn ?_
    refine in_val (.bool (decide (((j : Nat) : Int) < 64))) 45 rfl (free_wide l 1 _) rfl kj kj ?_
    refine in_nil ?_
    refine hK506 _ _ ?_
    try clear hK506 K506
    refine wpIn_seq_k fun K507 hK507 => ?_
    refine in_cond_split (t := decide (((j : Nat) : Int) < 64)) kj (fun c508 => ?_) (fun c508 => ?_)
    · skip
      have hlt45 : j < 64 := by have := of_decide_eq_true c508; omega
      refine wpIn_skip ?_
      refine hK507 _ _ ?_
      try clear hK507 K507
      refine wpIn_seq_k fun K509 hK509 => ?_
      refine wpIn_block ?_
      refine wpIn_seq_k fun K510 hK510 => ?_
      refine region_litIn ?_
      refine in_val (.int .u8 (nth (pieceV (startW key nonce) (number + ((x : Nat) : Int))) j)) 46 rfl (free_wide l 1 _) rfl kj (run_index_il 78 _ _ .i64 .u8 (pieceV (startW key nonce) (number + ((x : Nat) : Int))) j 64 5 (nth (pieceV (startW key nonce) (number + ((x : Nat) : Int))) j) rfl kj kj kj kj kj (pieceV_len _ _) (by omega) rfl) ?_
      refine in_val (.int .u8 (nth (pieceV (startW key nonce) (number + ((x : Nat) : Int))) j)) 16 rfl (free_wide l 1 _) rfl kj kj ?_
      refine in_nil ?_
      refine hK510 _ _ ?_
      try clear hK510 K510
      refine wpIn_seq_k fun K511 hK511 => ?_
      refine wpIn_seq_k fun K512 hK512 => ?_
      refine region_litIn ?_
      refine in_val (.slice (some ⟨g13, 0, none⟩) (64 * pre.length + j) text.length) 47 rfl (free_wide l 1 _) rfl kj (run_loadC1 24 _ g14 0 24 _ (.slice (some ⟨g13, 0, none⟩) (64 * pre.length + j) text.length) _ q503_1 rfl kj kj kj) ?_
      refine in_val (.int .i64 ((64 * pre.length + j : Nat) : Int)) 48 rfl (free_wide l 1 _) rfl kj kj ?_
      have r502_1 := (Keeps.row q1 q7 (nm_cons nb712 (nm_cons nb7O nm_nil)))
      refine in_val (.slice a_t text.length c_t) 49 rfl (free_wide l 1 _) rfl kj (run_loadC1 24 _ g5 0 24 _ (.slice a_t text.length c_t) _ r502_1 rfl kj kj kj) ?_
      refine in_val (.int .i64 ((text.length : Nat) : Int)) 50 rfl (free_wide l 1 _) rfl kj kj ?_
      refine in_val (.bool ((((64 * pre.length + j : Nat) : Int) == ((text.length : Nat) : Int)))) 51 rfl (free_wide l 1 _) rfl kj kj ?_
      refine in_nil ?_
      refine hK512 _ _ ?_
      try clear hK512 K512
      refine in_cond_split (t := (((64 * pre.length + j : Nat) : Int) == ((text.length : Nat) : Int))) kj (fun c513 => ?_) (fun c513 => ?_)
      · skip
        have hmn : 64 * pre.length + j = text.length := by have := eq_of_beq c513; omega
        refine wpIn_exit ?_
        repeat (first | with_reducible refine goX1 ?_ | with_reducible refine goXj (by decide) ?_)
        have hq12 := q503_1
        have hqO := q501_1
        rw [hmn] at hq12 hqO
        exact ⟨(keepsO_keeps q1 (fun c hc => by simp only [List.mem_cons, List.not_mem_nil, or_false] at hc; rcases hc with rfl | rfl; exact ⟨_, _, q12⟩; exact ⟨_, _, qO⟩)), ⟨rfl, by rw [hl1]; omega, hq12, hqO⟩, xx1⟩
      · skip
        have hmn : 64 * pre.length + j < text.length := by
          rcases Nat.lt_or_ge (64 * pre.length + j) text.length with hh | hh
          · exact hh
          · exfalso; have e : (((64 * pre.length + j : Nat) : Int) == ((text.length : Nat) : Int)) = true := by rw [beq_iff_eq]; omega
            rw [e] at c513; cases c513
        obtain ⟨gt, ot, hat, -, hlt_, hct⟩ := rdK_at (RdK.ext ht xx1) (by omega)
        refine wpIn_skip ?_
        refine hK511 _ _ ?_
        try clear hK511 K511
        refine in_regionE 9 [⟨none, [(12, none)]⟩, ⟨none, [(7, none)]⟩, ⟨none, [(12, none)]⟩, ⟨none, [(54, some 2)]⟩, ⟨none, [(53, some 1), (55, some 3)]⟩, ⟨none, [(56, some 4)]⟩, ⟨none, [(16, none)]⟩, ⟨none, [(57, some 5), (58, some 6)]⟩, ⟨none, [(59, some 7)]⟩] (free_wide l 1 _) rfl kj kj fun F hF => ?_
        refine e_read (rl_ext _) (.slice (some ⟨g13, 0, none⟩) (64 * pre.length + j) text.length) kj kj (fun W hR => (run_loadC1 24 _ g14 0 24 _ (.slice (some ⟨g13, 0, none⟩) (64 * pre.length + j) text.length) _ (row_ext (row_ext q503_1 (ext_drew _)) hR) rfl kj kj kj)) ?_
        refine e_read (rl_ext _) (.slice a_t text.length c_t) kj kj (fun W hR => (run_loadC1 24 _ g5 0 24 _ (.slice a_t text.length c_t) _ (row_ext (row_ext r502_1 (ext_drew _)) hR) rfl kj kj kj)) ?_
        refine e_read (rl_ext _) (.slice (some ⟨g13, 0, none⟩) (64 * pre.length + j) text.length) kj kj (fun W hR => (run_loadC1 24 _ g14 0 24 _ (.slice (some ⟨g13, 0, none⟩) (64 * pre.length + j) text.length) _ (row_ext (row_ext q503_1 (ext_drew _)) hR) rfl kj kj kj)) ?_
        refine e_val (rl_ext _) (.int .i64 ((64 * pre.length + j : Nat) : Int)) kj kj (fun W => by kernel_rfl) ?_
        refine e_val (rl_ext _) (.pointer (some ⟨gt, ot + (64 * pre.length + j), none⟩)) kj kj (fun W => (run_indexA 24 _ _ .i64 (64 * pre.length + j) gt ot text.length c_t 5 a_t _ hat rfl rfl kj kj kj kj (Nat.lt_of_lt_of_eq (show 64 * pre.length + j < text.length by omega) (rfl : text.length = text.length).symm))) ?_
        refine e_read (rl_ext _) (.int .u8 (nth (text) ((64 * pre.length + j)))) kj kj (fun W hR => (run_loadCell 5 _ _ (.int .u8 (nth (text) ((64 * pre.length + j)))) ((Below.cell (Rely.Ext.trans (ext_drew _) hR) hlt_).trans (hct (64 * pre.length + j) (Nat.lt_of_lt_of_eq (show 64 * pre.length + j < text.length by omega) (rfl : text.length = text.length).symm))) rfl kj kj)) ?_
        refine e_val (rl_ext _) (.int .u8 (nth (pieceV (startW key nonce) (number + ((x : Nat) : Int))) j)) kj kj (fun W => by kernel_rfl) ?_
        refine e_val (rl_ext _) (.int .u8 (bits .xor .u8 ((nth (text) ((64 * pre.length + j)))) ((nth (pieceV (startW key nonce) (number + ((x : Nat) : Int))) j)))) kj kj (fun W => by kernel_rfl) ?_
        refine e_newS (rl_ext _) (ints .u8 ([(bits .xor .u8 ((nth (text) ((64 * pre.length + j)))) ((nth (pieceV (startW key nonce) (number + ((x : Nat) : Int))) j)))])) 5 1 (NewS.stable _ _ _ _) kj kj (fun W => by kernel_rfl) ?_
        refine e_nil (hF _ fun W2 e2 => ?_)
        simp only [List.nil_append, List.cons_append, List.take_succ_cons, List.take_zero, List.drop_succ_cons, List.drop_zero, finE, up]
        intro vv514 hv514
        clear hF
        have x2 : Ext w W2 := Ext.tr xx1 e2
        obtain ⟨g514, rfl, l514, r514_2⟩ := hv514
        have b514 : w.heap.size ≤ g514 := Nat.le_trans xx1.size l514
        have r501_2 := (row_ext q501_1 e2)
        refine in_puts (.slice (some ⟨g13, 0, none⟩) (64 * pre.length + j + 1) text.length) 61 rfl (free_wide l 1 _) rfl kj r501_2 (run_append1R (k := .u8) (b := 1) (.tmp 52) (.tmp 60) 24 rfl kj kj kj kj r501_2 (fillL_len _ _ _ (mxv_len _ _ _ _ _) (by omega)) (by omega) r514_2) fun W3 p3 r501_3 => ?_
        have x3 : Ext w W3 := Puts.ext p3 x2 b13
        have r501_3_515 : W3.heap[g13]? = some (.cells (ints .u8 (fillL (mxv text (startW key nonce) number (pg (pre ++ [x])) text.length) text.length (64 * pre.length + (j + 1)))) 5) := row_eq r501_3 (by rw [← mxv_at text (startW key nonce) number pre x text.length j hlt45 hmn]; exact fillL_step _ text.length (64 * pre.length + j) (mxv_len _ _ _ _ _) hmn)
        have r503_2 := (row_ext q503_1 e2)
        have r503_3 := (Puts.row p3 r503_2 nb12O)
        refine in_store g14 _ (#[.slice (some ⟨g13, 0, none⟩) (64 * pre.length + j + 1) text.length]) 24 r503_3 rfl (free_wide l 1 _) rfl kj (run_storeC1 24 _ _ g14 0 24 _ (.slice (some ⟨g13, 0, none⟩) (64 * pre.length + j + 1) text.length) r503_3 rfl kj kj kj kj kj rfl) fun W4 p4 r503_4 => ?_
        have x4 : Ext w W4 := Puts.ext p4 x3 b14
        refine in_nil ?_
        refine hK509 _ _ ?_
        try clear hK509 K509
        refine region_litIn ?_
        refine in_val (.int .i64 ((j + 1 : Nat) : Int)) 62 rfl (free_wide l 1 _) rfl kj (run_eq (u := .int .i64 (IntKind.i64.wrap (((j : Nat) : Int) + 1))) kj (congrArg (Value.int .i64) (i64n _ _ (by omega) (by omega)))) ?_
        refine in_val (.int .i64 ((j + 1 : Nat) : Int)) 44 rfl (free_wide l 1 _) rfl kj kj ?_
        refine in_nil ?_
        have r501_4 := (Puts.row p4 r501_3_515 nbO12)
        repeat (first | with_reducible refine goX1 ?_ | with_reducible refine goX2 ?_ | with_reducible refine goX3 ?_)
        exact goes_then (j + 1) ⟨rfl, rfl, rfl, rfl, trivial⟩ ⟨(by omega), (by omega), r503_4, r501_4, (Keeps.puts (Keeps.puts (Keeps.step q1 e2) p3 (.inl (by simp))) p4 (.inl (by simp))), x4⟩ (by show 64 - (j + 1) < 64 - j; omega)
    · skip
      have heq45 : j = 64 := by have := of_decide_eq_false c508; omega
      refine wpIn_exit ?_
      subst heq45
      repeat (first | with_reducible refine goX1 ?_ | with_reducible refine goX2 ?_ | with_reducible refine goX3 ?_)
      have r502_1 := (Keeps.row q1 q7 (nm_cons nb712 (nm_cons nb7O nm_nil)))
      exact ⟨(keepsO_keeps q1 (fun c hc => by simp only [List.mem_cons, List.not_mem_nil, or_false] at hc; rcases hc with rfl | rfl; exact ⟨_, _, q12⟩; exact ⟨_, _, qO⟩)), (KeepC.keeps q1), ⟨r502_1, by rw [hl1, Nat.mul_add]; exact q503_1, by rw [hl1, Nat.mul_add]; exact q501_1, by rw [hl1]; omega, Nat.le_trans hsz (Nat.le_trans (Nat.le_refl _) (Keeps.size q1))⟩, xx1⟩
  · obtain ⟨⟨-, q12, qO, hml, -⟩, xx⟩ := hI
    subst hS
    rw [List.length_range] at q12 qO hml
    have hge : text.length ≤ 64 * r := by omega
    have hee : 64 * r = text.length := by omega
    rw [hee] at q12 qO
    have qO2 := row_eq (row_eq qO (fillL_full _ _ (mxv_len _ _ _ _ _))) (mxv_mix text (startW key nonce) number r hge)
    have bD : w.heap.size ≤ D := Nat.le_trans x7.size lD
    refine hK16 _ _ ?_
    try clear hK16 K16
    refine wp_seq_k fun K20 hK20 => ?_
    refine region_lit ?_
    refine seq_val (.slice (some ⟨g13, 0, none⟩) text.length text.length) 63 rfl kj (run_loadC1 24 _ g14 0 24 _ (.slice (some ⟨g13, 0, none⟩) text.length text.length) _ q12 rfl kj kj kj) ?_
    refine seq_val (.slice (some ⟨g13, 0, none⟩) text.length text.length) 8 rfl kj kj ?_
    refine seq_val (.nilIface) 9 rfl kj kj ?_
    refine seq_nil ?_
    refine hK20 _ _ ?_
    try clear hK20 K20
    refine wp_ret ?_
    repeat (first | with_reducible refine goR1 ?_ | with_reducible refine goR2 ?_)
    exact (show bodyPostM _ _ _ _ _ .ret _ _ from retM2 (.slice (some ⟨g13, 0, none⟩) text.length text.length) (.nilIface) rfl rD (res_tmp kj) (res_tmp kj) ⟨_, rfl, putD_ext xx bD rD _, _, rfl, ownN_row (mixV_len _ _ _) b13 (putD_row qO2 rD _) (by simp only [maxLen]; omega)⟩)
  · obtain ⟨⟨rfl, hge, q12, qO⟩, xx⟩ := hIx
    obtain ⟨kR, rfl, -⟩ := hSp
    rw [List.length_range] at hge
    have qO2 := row_eq (row_eq qO (fillL_full _ _ (mxv_len _ _ _ _ _))) (mxv_mix text (startW key nonce) number kR hge)
    have bD : w.heap.size ≤ D := Nat.le_trans x7.size lD
    refine wp_exit ?_
    refine hK16 _ _ ?_
    try clear hK16 K16
    refine wp_seq_k fun K22 hK22 => ?_
    refine region_lit ?_
    refine seq_val (.slice (some ⟨g13, 0, none⟩) text.length text.length) 63 rfl kj (run_loadC1 24 _ g14 0 24 _ (.slice (some ⟨g13, 0, none⟩) text.length text.length) _ q12 rfl kj kj kj) ?_
    refine seq_val (.slice (some ⟨g13, 0, none⟩) text.length text.length) 8 rfl kj kj ?_
    refine seq_val (.nilIface) 9 rfl kj kj ?_
    refine seq_nil ?_
    refine hK22 _ _ ?_
    try clear hK22 K22
    refine wp_ret ?_
    repeat (first | with_reducible refine goR1 ?_ | with_reducible refine goR2 ?_)
    exact (show bodyPostM _ _ _ _ _ .ret _ _ from retM2 (.slice (some ⟨g13, 0, none⟩) text.length text.length) (.nilIface) rfl rD (res_tmp kj) (res_tmp kj) ⟨_, rfl, putD_ext xx bD rD _, _, rfl, ownN_row (mixV_len _ _ _) b13 (putD_row qO2 rD _) (by simp only [maxLen]; omega)⟩)

end Go.Proofs.YtjldjdlhllgakaaDoor.Cha
