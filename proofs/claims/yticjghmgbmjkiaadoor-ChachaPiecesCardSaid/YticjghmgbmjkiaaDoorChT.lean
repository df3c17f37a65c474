/- ChaCha20: the reference's Piece. -/
import Derived.Test.YticjghmgbmjkiaaDoorChR
namespace Go.Proofs.YticjghmgbmjkiaaDoor.Cha
open Go Go.RowKit
open Go.Proofs.YticjghmgbmjkiaaDoor.Rely Go.Proofs.YticjghmgbmjkiaaDoor.Auto Go.Proofs.YticjghmgbmjkiaaDoor.Own Go.Proofs.YticjghmgbmjkiaaDoor.Sha
set_option linter.unusedVariables false
set_option linter.unusedSimpArgs false

open Go.Proofs.YticjghmgbmjkiaaDoor.Sha
theorem rwords_len (b : List Int) (n : Nat) (h : b.length = 4 * n) : (rwords b).length = n := by unfold rwords; rw [rws_len]; omega
theorem rwords_exp : rwords [101, 120, 112, 97, 110, 100, 32, 51, 50, 45, 98, 121, 116, 101, 32, 107] = [1634760805, 857760878, 2036477234, 1797285236] := by decide +kernel
theorem rwords_8 (b : List Int) (h : b.length = 32) (hb : AreBytes b) : rwords b = [le4 (sub4 b 0), le4 (sub4 b 1), le4 (sub4 b 2), le4 (sub4 b 3), le4 (sub4 b 4), le4 (sub4 b 5), le4 (sub4 b 6), le4 (sub4 b 7)] := by
  have e : rwords b = [rw4 b 0, rw4 b 1, rw4 b 2, rw4 b 3, rw4 b 4, rw4 b 5, rw4 b 6, rw4 b 7] := by unfold rwords; rw [h]; rfl
  rw [e]; simp only [rw4_le b _ (bytes_nth hb)]
theorem rwords_3 (b : List Int) (h : b.length = 12) (hb : AreBytes b) : rwords b = [le4 (sub4 b 0), le4 (sub4 b 1), le4 (sub4 b 2)] := by
  have e : rwords b = [rw4 b 0, rw4 b 1, rw4 b 2] := by unfold rwords; rw [h]; rfl
  rw [e]; simp only [rw4_le b _ (bytes_nth hb)]
theorem rstart (key nonce : List Int) (number : Int) (hk : key.length = 32) (hkb : AreBytes key) (hn : nonce.length = 12) (hnb : AreBytes nonce) :
    rwords [101, 120, 112, 97, 110, 100, 32, 51, 50, 45, 98, 121, 116, 101, 32, 107] ++ rwords key ++ [BitVec.ofInt 32 number] ++ rwords nonce = (startW key nonce).set 12 (BitVec.ofInt 32 number) := by
  rw [rwords_exp, rwords_8 key hk hkb, rwords_3 nonce hn hnb]; rfl
theorem byteP1 (x s : List Wd) (i : Nat) (hi : i < 64) : IntKind.u8.wrap (wv ((wget x (i / 4) + wget s (i / 4)) >>> (8 * (i % 4)))) = nth (pieceB x s) i := by
  have h := byteP x s (i / 4) (i % 4) (by omega) (by omega)
  rw [show 4 * (i / 4) + i % 4 = i by omega] at h
  exact h
set_option maxRecDepth 100000 in
set_option maxHeartbeats 4000000 in
theorem rPiece_A (key nonce : List Int) (v : Value) (B : Nat) (number : Int) (w : World) (hkl : key.length = 32) (hn : RdK .u8 B nonce v w) (h : nonce.length ≠ 12) : Calls Tryd.prog 15 #[.agg (ints .u8 key), v, .int .i64 number] w (Ret w (.tuple #[.agg (ints .u8 (List.replicate 64 0)), .int .i64 1])) := by
  obtain ⟨a_n, c_n, rfl, -⟩ := id hn
  refine enter 105 [(0, .agg (ints .u8 (key))), (1, .slice a_n nonce.length c_n), (2, .int .i64 number)] Tryd.func15 rfl rfl kj rfl ?_
  refine wp_seq_k fun K1 hK1 => ?_
  refine region_lit ?_
  refine seq_alloc (ints .u8 (key)) 23 3 rfl kj kj fun g2 W1 l2 e1 r2_1 => ?_
  have x1 : Ext w W1 := Ext.tr (Rely.Ext.refl w) e1
  have b2 : w.heap.size ≤ g2 := Nat.le_trans (Rely.Ext.refl w).size l2
  refine seq_alloc (ints .u8 (List.replicate 64 0)) 28 6 rfl kj kj fun g3 W2 l3 e2 r3_2 => ?_
  have x2 : Ext w W2 := Ext.tr x1 e2
  have b3 : w.heap.size ≤ g3 := Nat.le_trans x1.size l3
  refine seq_val (.int .i64 0) 7 rfl kj kj ?_
  refine seq_nil ?_
  refine hK1 _ _ ?_
  try clear hK1 K1
  refine wp_seq_k fun K4 hK4 => ?_
  refine region_lit ?_
  refine seq_alloc (ints .u8 (List.replicate 64 0)) 28 8 rfl kj kj fun g5 W3 l5 e3 r5_3 => ?_
  have x3 : Ext w W3 := Ext.tr x2 e3
  have b5 : w.heap.size ≤ g5 := Nat.le_trans x2.size l5
  refine seq_nil ?_
  refine hK4 _ _ ?_
  try clear hK4 K4
  refine wp_seq_k fun K6 hK6 => ?_
  refine wp_seq_k fun K7 hK7 => ?_
  refine region_lit ?_
  refine seq_val (.slice a_n nonce.length c_n) 15 rfl kj kj ?_
  refine seq_val (.int .i64 ((nonce.length : Nat) : Int)) 16 rfl kj kj ?_
  refine seq_val (.bool true) 17 rfl kj (run_eq (u := .bool ((((nonce.length : Nat) : Int) != 12))) kj (congrArg Value.bool (by simp; omega))) ?_
  refine seq_nil ?_
  refine hK7 _ _ ?_
  try clear hK7 K7
  refine cond_true kj ?_
  refine wp_seq_k fun K8 hK8 => ?_
  refine region_lit ?_
  refine seq_val (.agg (ints .u8 (List.replicate 64 0))) 18 rfl kj (run_load_row 28 _ g5 28 _ _ r5_3 rfl kj kj (isz (n := 64) kj ((ints_size _ _).trans (List.length_replicate (n := 64))))) ?_
  have r3_3 := (row_ext r3_2 e3)
  refine seq_store g3 _ (ints .u8 (List.replicate 64 0)) 28 r3_3 rfl kj (run_store_row 28 _ _ g3 28 _ _ r3_3 rfl kj kj (isz (n := 64) kj ((ints_size _ _).trans (List.length_replicate (n := 64)))) (eqsz (n := 64) ((ints_size _ _).trans (List.length_replicate (n := 64))) ((ints_size _ _).trans (List.length_replicate (n := 64)))) (ints_one _ _)) fun W4 p4 r3_4 => ?_
  have x4 : Ext w W4 := Puts.ext p4 x3 b3
  refine seq_val (.int .i64 1) 7 rfl kj kj ?_
  refine seq_nil ?_
  refine hK8 _ _ ?_
  try clear hK8 K8
  refine wp_ret ?_
  repeat (first | with_reducible refine goR1 ?_ | with_reducible refine goR2 ?_)
  exact (show bodyPost _ _ _ .ret _ _ from ret2 (.agg (ints .u8 (List.replicate 64 0))) (.int .i64 1) rfl (res_cell g3 28 _ r3_4 kj kj (isz (n := 64) kj ((ints_size _ _).trans (List.length_replicate (n := 64))))) (res_tmp kj) ⟨rfl, x4⟩)
set_option maxRecDepth 100000 in
set_option maxHeartbeats 4000000 in
theorem rPiece_B (key nonce : List Int) (v : Value) (B : Nat) (number : Int) (w : World) (hkl : key.length = 32) (hn : RdK .u8 B nonce v w) (h : nonce.length = 12) (h1 : number < 0) : Calls Tryd.prog 15 #[.agg (ints .u8 key), v, .int .i64 number] w (Ret w (.tuple #[.agg (ints .u8 (List.replicate 64 0)), .int .i64 8])) := by
  obtain ⟨a_n, c_n, rfl, -⟩ := id hn
  refine enter 105 [(0, .agg (ints .u8 (key))), (1, .slice a_n nonce.length c_n), (2, .int .i64 number)] Tryd.func15 rfl rfl kj rfl ?_
  refine wp_seq_k fun K1 hK1 => ?_
  refine region_lit ?_
  refine seq_alloc (ints .u8 (key)) 23 3 rfl kj kj fun g2 W1 l2 e1 r2_1 => ?_
  have x1 : Ext w W1 := Ext.tr (Rely.Ext.refl w) e1
  have b2 : w.heap.size ≤ g2 := Nat.le_trans (Rely.Ext.refl w).size l2
  refine seq_alloc (ints .u8 (List.replicate 64 0)) 28 6 rfl kj kj fun g3 W2 l3 e2 r3_2 => ?_
  have x2 : Ext w W2 := Ext.tr x1 e2
  have b3 : w.heap.size ≤ g3 := Nat.le_trans x1.size l3
  refine seq_val (.int .i64 0) 7 rfl kj kj ?_
  refine seq_nil ?_
  refine hK1 _ _ ?_
  try clear hK1 K1
  refine wp_seq_k fun K4 hK4 => ?_
  refine region_lit ?_
  refine seq_alloc (ints .u8 (List.replicate 64 0)) 28 8 rfl kj kj fun g5 W3 l5 e3 r5_3 => ?_
  have x3 : Ext w W3 := Ext.tr x2 e3
  have b5 : w.heap.size ≤ g5 := Nat.le_trans x2.size l5
  refine seq_nil ?_
  refine hK4 _ _ ?_
  try clear hK4 K4
  refine wp_seq_k fun K6 hK6 => ?_
  refine wp_seq_k fun K7 hK7 => ?_
  refine region_lit ?_
  refine seq_val (.slice a_n nonce.length c_n) 15 rfl kj kj ?_
  refine seq_val (.int .i64 ((nonce.length : Nat) : Int)) 16 rfl kj kj ?_
  refine seq_val (.bool false) 17 rfl kj (run_eq (u := .bool ((((nonce.length : Nat) : Int) != 12))) kj (congrArg Value.bool (by simp; omega))) ?_
  refine seq_nil ?_
  refine hK7 _ _ ?_
  try clear hK7 K7
  refine cond_false kj ?_
  refine wp_skip ?_
  refine hK6 _ _ ?_
  try clear hK6 K6
  refine wp_seq_k fun K8 hK8 => ?_
  refine wp_seq_k fun K9 hK9 => ?_
  refine region_lit ?_
  refine seq_val (.int .i64 number) 19 rfl kj kj ?_
  refine seq_val (.bool true) 20 rfl kj (run_eq (u := .bool (decide (number < 0))) kj (congrArg Value.bool (decide_eq_true (by omega)))) ?_
  refine seq_val (.bool true) 21 rfl kj kj ?_
  refine seq_skip 22 rfl kj ?_
  refine seq_skip 23 rfl kj ?_
  refine seq_val (.bool true) 24 rfl kj kj ?_
  refine seq_nil ?_
  refine hK9 _ _ ?_
  try clear hK9 K9
  refine cond_true kj ?_
  refine wp_seq_k fun K10 hK10 => ?_
  refine region_lit ?_
  refine seq_val (.agg (ints .u8 (List.replicate 64 0))) 25 rfl kj (run_load_row 28 _ g5 28 _ _ r5_3 rfl kj kj (isz (n := 64) kj ((ints_size _ _).trans (List.length_replicate (n := 64))))) ?_
  have r3_3 := (row_ext r3_2 e3)
  refine seq_store g3 _ (ints .u8 (List.replicate 64 0)) 28 r3_3 rfl kj (run_store_row 28 _ _ g3 28 _ _ r3_3 rfl kj kj (isz (n := 64) kj ((ints_size _ _).trans (List.length_replicate (n := 64)))) (eqsz (n := 64) ((ints_size _ _).trans (List.length_replicate (n := 64))) ((ints_size _ _).trans (List.length_replicate (n := 64)))) (ints_one _ _)) fun W4 p4 r3_4 => ?_
  have x4 : Ext w W4 := Puts.ext p4 x3 b3
  refine seq_val (.int .i64 8) 7 rfl kj kj ?_
  refine seq_nil ?_
  refine hK10 _ _ ?_
  try clear hK10 K10
  refine wp_ret ?_
  repeat (first | with_reducible refine goR1 ?_ | with_reducible refine goR2 ?_)
  exact (show bodyPost _ _ _ .ret _ _ from ret2 (.agg (ints .u8 (List.replicate 64 0))) (.int .i64 8) rfl (res_cell g3 28 _ r3_4 kj kj (isz (n := 64) kj ((ints_size _ _).trans (List.length_replicate (n := 64))))) (res_tmp kj) ⟨rfl, x4⟩)
set_option maxRecDepth 100000 in
set_option maxHeartbeats 4000000 in
theorem rPiece_C (key nonce : List Int) (v : Value) (B : Nat) (number : Int) (w : World) (hkl : key.length = 32) (hn : RdK .u8 B nonce v w) (h : nonce.length = 12) (h1 : 0 ≤ number) (h2 : 4294967295 < number) : Calls Tryd.prog 15 #[.agg (ints .u8 key), v, .int .i64 number] w (Ret w (.tuple #[.agg (ints .u8 (List.replicate 64 0)), .int .i64 8])) := by
  obtain ⟨a_n, c_n, rfl, -⟩ := id hn
  refine enter 105 [(0, .agg (ints .u8 (key))), (1, .slice a_n nonce.length c_n), (2, .int .i64 number)] Tryd.func15 rfl rfl kj rfl ?_
  refine wp_seq_k fun K1 hK1 => ?_
  refine region_lit ?_
  refine seq_alloc (ints .u8 (key)) 23 3 rfl kj kj fun g2 W1 l2 e1 r2_1 => ?_
  have x1 : Ext w W1 := Ext.tr (Rely.Ext.refl w) e1
  have b2 : w.heap.size ≤ g2 := Nat.le_trans (Rely.Ext.refl w).size l2
  refine seq_alloc (ints .u8 (List.replicate 64 0)) 28 6 rfl kj kj fun g3 W2 l3 e2 r3_2 => ?_
  have x2 : Ext w W2 := Ext.tr x1 e2
  have b3 : w.heap.size ≤ g3 := Nat.le_trans x1.size l3
  refine seq_val (.int .i64 0) 7 rfl kj kj ?_
  refine seq_nil ?_
  refine hK1 _ _ ?_
  try clear hK1 K1
  refine wp_seq_k fun K4 hK4 => ?_
  refine region_lit ?_
  refine seq_alloc (ints .u8 (List.replicate 64 0)) 28 8 rfl kj kj fun g5 W3 l5 e3 r5_3 => ?_
  have x3 : Ext w W3 := Ext.tr x2 e3
  have b5 : w.heap.size ≤ g5 := Nat.le_trans x2.size l5
  refine seq_nil ?_
  refine hK4 _ _ ?_
  try clear hK4 K4
  refine wp_seq_k fun K6 hK6 => ?_
  refine wp_seq_k fun K7 hK7 => ?_
  refine region_lit ?_
  refine seq_val (.slice a_n nonce.length c_n) 15 rfl kj kj ?_
  refine seq_val (.int .i64 ((nonce.length : Nat) : Int)) 16 rfl kj kj ?_
  refine seq_val (.bool false) 17 rfl kj (run_eq (u := .bool ((((nonce.length : Nat) : Int) != 12))) kj (congrArg Value.bool (by simp; omega))) ?_
  refine seq_nil ?_
  refine hK7 _ _ ?_
  try clear hK7 K7
  refine cond_false kj ?_
  refine wp_skip ?_
  refine hK6 _ _ ?_
  try clear hK6 K6
  refine wp_seq_k fun K8 hK8 => ?_
  refine wp_seq_k fun K9 hK9 => ?_
  refine region_lit ?_
  refine seq_val (.int .i64 number) 19 rfl kj kj ?_
  refine seq_val (.bool false) 20 rfl kj (run_eq (u := .bool (decide (number < 0))) kj (congrArg Value.bool (decide_eq_false (by omega)))) ?_
  refine seq_val (.bool false) 21 rfl kj kj ?_
  refine seq_val (.int .i64 number) 22 rfl kj kj ?_
  refine seq_val (.bool true) 23 rfl kj (run_eq (u := .bool (decide (number > 4294967295))) kj (congrArg Value.bool (decide_eq_true (by omega)))) ?_
  refine seq_val (.bool true) 24 rfl kj kj ?_
  refine seq_nil ?_
  refine hK9 _ _ ?_
  try clear hK9 K9
  refine cond_true kj ?_
  refine wp_seq_k fun K10 hK10 => ?_
  refine region_lit ?_
  refine seq_val (.agg (ints .u8 (List.replicate 64 0))) 25 rfl kj (run_load_row 28 _ g5 28 _ _ r5_3 rfl kj kj (isz (n := 64) kj ((ints_size _ _).trans (List.length_replicate (n := 64))))) ?_
  have r3_3 := (row_ext r3_2 e3)
  refine seq_store g3 _ (ints .u8 (List.replicate 64 0)) 28 r3_3 rfl kj (run_store_row 28 _ _ g3 28 _ _ r3_3 rfl kj kj (isz (n := 64) kj ((ints_size _ _).trans (List.length_replicate (n := 64)))) (eqsz (n := 64) ((ints_size _ _).trans (List.length_replicate (n := 64))) ((ints_size _ _).trans (List.length_replicate (n := 64)))) (ints_one _ _)) fun W4 p4 r3_4 => ?_
  have x4 : Ext w W4 := Puts.ext p4 x3 b3
  refine seq_val (.int .i64 8) 7 rfl kj kj ?_
  refine seq_nil ?_
  refine hK10 _ _ ?_
  try clear hK10 K10
  refine wp_ret ?_
  repeat (first | with_reducible refine goR1 ?_ | with_reducible refine goR2 ?_)
  exact (show bodyPost _ _ _ .ret _ _ from ret2 (.agg (ints .u8 (List.replicate 64 0))) (.int .i64 8) rfl (res_cell g3 28 _ r3_4 kj kj (isz (n := 64) kj ((ints_size _ _).trans (List.length_replicate (n := 64))))) (res_tmp kj) ⟨rfl, x4⟩)
set_option maxRecDepth 100000 in
set_option maxHeartbeats 4000000 in
theorem rPiece_D (key nonce : List Int) (v : Value) (B : Nat) (number : Int) (w : World) (hkl : key.length = 32) (hn : RdK .u8 B nonce v w) (h : nonce.length = 12) (h1 : 0 ≤ number) (h2 : number ≤ 4294967295) (hkb : AreBytes key) (hnb : AreBytes nonce) : Calls Tryd.prog 15 #[.agg (ints .u8 key), v, .int .i64 number] w (Ret w (.tuple #[.agg (ints .u8 (pieceV (startW key nonce) number)), .int .i64 0])) := by
  obtain ⟨a_n, c_n, rfl, -⟩ := id hn
  have hlE : (rwords [101, 120, 112, 97, 110, 100, 32, 51, 50, 45, 98, 121, 116, 101, 32, 107]).length = 4 := rfl
  have hlK : (rwords key).length = 8 := rwords_len key 8 hkl
  have hlN : (rwords nonce).length = 3 := rwords_len nonce 3 h
  refine enter 105 [(0, .agg (ints .u8 (key))), (1, .slice a_n nonce.length c_n), (2, .int .i64 number)] Tryd.func15 rfl rfl kj rfl ?_
  refine wp_seq_k fun K1 hK1 => ?_
  refine region_lit ?_
  refine seq_alloc (ints .u8 (key)) 23 3 rfl kj kj fun g2 W1 l2 e1 r2_1 => ?_
  have x1 : Ext w W1 := Ext.tr (Rely.Ext.refl w) e1
  have b2 : w.heap.size ≤ g2 := Nat.le_trans (Rely.Ext.refl w).size l2
  refine seq_alloc (ints .u8 (List.replicate 64 0)) 28 6 rfl kj kj fun g3 W2 l3 e2 r3_2 => ?_
  have x2 : Ext w W2 := Ext.tr x1 e2
  have b3 : w.heap.size ≤ g3 := Nat.le_trans x1.size l3
  refine seq_val (.int .i64 0) 7 rfl kj kj ?_
  refine seq_nil ?_
  refine hK1 _ _ ?_
  try clear hK1 K1
  refine wp_seq_k fun K4 hK4 => ?_
  refine region_lit ?_
  refine seq_alloc (ints .u8 (List.replicate 64 0)) 28 8 rfl kj kj fun g5 W3 l5 e3 r5_3 => ?_
  have x3 : Ext w W3 := Ext.tr x2 e3
  have b5 : w.heap.size ≤ g5 := Nat.le_trans x2.size l5
  refine seq_nil ?_
  refine hK4 _ _ ?_
  try clear hK4 K4
  refine wp_seq_k fun K6 hK6 => ?_
  refine wp_seq_k fun K7 hK7 => ?_
  refine region_lit ?_
  refine seq_val (.slice a_n nonce.length c_n) 15 rfl kj kj ?_
  refine seq_val (.int .i64 ((nonce.length : Nat) : Int)) 16 rfl kj kj ?_
  refine seq_val (.bool false) 17 rfl kj (run_eq (u := .bool ((((nonce.length : Nat) : Int) != 12))) kj (congrArg Value.bool (by simp; omega))) ?_
  refine seq_nil ?_
  refine hK7 _ _ ?_
  try clear hK7 K7
  refine cond_false kj ?_
  refine wp_skip ?_
  refine hK6 _ _ ?_
  try clear hK6 K6
  refine wp_seq_k fun K8 hK8 => ?_
  refine wp_seq_k fun K9 hK9 => ?_
  refine region_lit ?_
  refine seq_val (.int .i64 number) 19 rfl kj kj ?_
  refine seq_val (.bool false) 20 rfl kj (run_eq (u := .bool (decide (number < 0))) kj (congrArg Value.bool (decide_eq_false (by omega)))) ?_
  refine seq_val (.bool false) 21 rfl kj kj ?_
  refine seq_val (.int .i64 number) 22 rfl kj kj ?_
  refine seq_val (.bool false) 23 rfl kj (run_eq (u := .bool (decide (number > 4294967295))) kj (congrArg Value.bool (decide_eq_false (by omega)))) ?_
  refine seq_val (.bool false) 24 rfl kj kj ?_
  refine seq_nil ?_
  refine hK9 _ _ ?_
  try clear hK9 K9
  refine cond_false kj ?_
  refine wp_skip ?_
  refine hK8 _ _ ?_
  try clear hK8 K8
  refine wp_seq_k fun K10 hK10 => ?_
  refine region_lit ?_
  refine seq_makeS (ints .u8 ([101, 120, 112, 97, 110, 100, 32, 51, 50, 45, 98, 121, 116, 101, 32, 107])) 5 16 26 rfl kj kj fun g11 W4 l11 e4 r11_4 => ?_
  have x4 : Ext w W4 := Ext.tr x3 e4
  have b11 : w.heap.size ≤ g11 := Nat.le_trans x3.size l11
  refine seq_convB (xs := [101, 120, 112, 97, 110, 100, 32, 51, 50, 45, 98, 121, 116, 101, 32, 107]) 24 5 (.tmp 26) 27 rfl rfl kj kj kj kj rfl (show 16 ≤ maxLen by decide) r11_4 fun W5 p5 r11_5 rd12 => ?_
  have x5 : Ext w W5 := Puts.ext p5 x4 b11
  refine seq_callR (fun v W' => (OwnN .u32 64 W5.heap.size ((rwords ([101, 120, 112, 97, 110, 100, 32, 51, 50, 45, 98, 121, 116, 101, 32, 107])).map wv)) v W' ∧ Ext W5 W') 47 #[.slice (some ⟨g11, 0, none⟩) 16 16] 28 rfl kj kj ((rwordsC ([101, 120, 112, 97, 110, 100, 32, 51, 50, 45, 98, 121, 116, 101, 32, 107]) _ _ _ rd12 (by decide)).mono (by rintro e w' ⟨v, rfl, e1, hv⟩; exact ⟨v, rfl, hv, e1⟩)) fun vv13 W6 hh13 => ?_
  obtain ⟨hv13, e6⟩ := hh13
  have x6 : Ext w W6 := Ext.tr x5 e6
  refine seq_val (vv13) 9 rfl kj kj ?_
  refine seq_nil ?_
  refine hK10 _ _ ?_
  try clear hK10 K10
  refine wp_seq_k fun K14 hK14 => ?_
  refine region_lit ?_
  refine seq_val (vv13) 29 rfl kj kj ?_
  refine seq_val (.slice (some ⟨g2, 0, none⟩) 32 32) 30 rfl kj kj ?_
  have r2_2 := (row_ext r2_1 e2)
  have r2_3 := (row_ext r2_2 e3)
  have r2_4 := (row_ext r2_3 e4)
  have r2_5 := (Puts.row p5 r2_4 (ne_of_old r2_3 l11))
  have r2_6 := (row_ext r2_5 e6)
  refine seq_callR (fun v W' => (OwnN .u32 64 W6.heap.size ((rwords key).map wv)) v W' ∧ Ext W6 W') 47 #[.slice (some ⟨g2, 0, none⟩) 32 32] 31 rfl kj kj ((rwordsC key _ _ _ (rdK_ints (xs := key) (n := 32) hkl r2_6 (row_lt r2_6) (show 32 ≤ maxLen from by decide)) (by omega)).mono (by rintro e w' ⟨v, rfl, e1, hv⟩; exact ⟨v, rfl, hv, e1⟩)) fun vv15 W7 hh15 => ?_
  obtain ⟨hv15, e7⟩ := hh15
  have x7 : Ext w W7 := Ext.tr x6 e7
  have y5_6 : Ext W5 W6 := (Rely.Ext.trans (Rely.Ext.refl W5) e6)
  have f16_7 := (hv13.ext e7)
  have y5_7 : Ext W5 W7 := (Rely.Ext.trans y5_6 e7)
  refine seq_appendN (k := .u32) (T := 64) (xs := (rwords ([101, 120, 112, 97, 110, 100, 32, 51, 50, 45, 98, 121, 116, 101, 32, 107])).map wv) (ys := (rwords key).map wv) (V := W5) 4 (.tmp 29) (.tmp 31) 71 rfl kj kj (by decide) 32 rfl kj kj kj f16_7 (OwnN.rd (OwnN.base y5_6.size hv15)) (by simp only [List.length_append, List.length_map, hlE, hlK, hlN, List.length_cons, List.length_nil]; omega) y5_7 fun z1 W8 f17 y8 l8 => ?_
  have x8 : Ext w W8 := Ext.low x7 l8 x5.size
  refine seq_val (z1) 9 rfl kj kj ?_
  refine seq_nil ?_
  refine hK14 _ _ ?_
  try clear hK14 K14
  refine wp_seq_k fun K19 hK19 => ?_
  refine region_lit ?_
  refine seq_val (z1) 33 rfl kj kj ?_
  refine seq_val (.int .i64 number) 34 rfl kj kj ?_
  refine seq_val (.int .u32 (wv (BitVec.ofInt 32 number))) 35 rfl kj (run_eq (u := .int .u32 (IntKind.u32.wrap (number))) kj (congrArg (Value.int .u32) (by rw [Go.Proofs.YticjghmgbmjkiaaDoor.Sha.wrap32, wv_ofInt]))) ?_
  refine seq_makeS (ints .u32 ([(wv (BitVec.ofInt 32 number))])) 64 1 36 rfl kj kj fun g20 W9 l20 e9 r20_9 => ?_
  have x9 : Ext w W9 := Ext.tr x8 e9
  have b20 : w.heap.size ≤ g20 := Nat.le_trans x8.size l20
  have f21_9 := (f17.ext e9)
  have y5_9 : Ext W5 W9 := (Rely.Ext.trans y8 e9)
  refine seq_appendN (k := .u32) (T := 64) (xs := (rwords ([101, 120, 112, 97, 110, 100, 32, 51, 50, 45, 98, 121, 116, 101, 32, 107])).map wv ++ (rwords key).map wv) (ys := [(wv (BitVec.ofInt 32 number))]) (V := W5) 4 (.tmp 33) (.tmp 36) 71 rfl kj kj (by decide) 37 rfl kj kj kj f21_9 (rdK_ints (xs := [(wv (BitVec.ofInt 32 number))]) (n := 1) rfl r20_9 (row_lt r20_9) (show 1 ≤ maxLen from by decide)) (by simp only [List.length_append, List.length_map, hlE, hlK, hlN, List.length_cons, List.length_nil]; omega) y5_9 fun z2 W10 f22 y10 l10 => ?_
  have x10 : Ext w W10 := Ext.low x9 l10 x5.size
  refine seq_val (z2) 9 rfl kj kj ?_
  refine seq_nil ?_
  refine hK19 _ _ ?_
  try clear hK19 K19
  refine wp_seq_k fun K24 hK24 => ?_
  refine region_lit ?_
  refine seq_val (z2) 38 rfl kj kj ?_
  refine seq_val (.slice a_n nonce.length c_n) 39 rfl kj kj ?_
  refine seq_callR (fun v W' => (OwnN .u32 64 W10.heap.size ((rwords nonce).map wv)) v W' ∧ Ext W10 W') 47 #[.slice a_n nonce.length c_n] 40 rfl kj kj ((rwordsC nonce _ _ _ (RdK.ext hn x10) (by omega)).mono (by rintro e w' ⟨v, rfl, e1, hv⟩; exact ⟨v, rfl, hv, e1⟩)) fun vv25 W11 hh25 => ?_
  obtain ⟨hv25, e11⟩ := hh25
  have x11 : Ext w W11 := Ext.tr x10 e11
  have f26_11 := (f22.ext e11)
  have y5_11 : Ext W5 W11 := (Rely.Ext.trans y10 e11)
  refine seq_appendN (k := .u32) (T := 64) (xs := (rwords ([101, 120, 112, 97, 110, 100, 32, 51, 50, 45, 98, 121, 116, 101, 32, 107])).map wv ++ (rwords key).map wv ++ [(wv (BitVec.ofInt 32 number))]) (ys := (rwords nonce).map wv) (V := W5) 4 (.tmp 38) (.tmp 40) 71 rfl kj kj (by decide) 41 rfl kj kj kj f26_11 (OwnN.rd (OwnN.base y10.size hv25)) (by simp only [List.length_append, List.length_map, hlE, hlK, hlN, List.length_cons, List.length_nil]; omega) y5_11 fun z3 W12 f27 y12 l12 => ?_
  have x12 : Ext w W12 := Ext.low x11 l12 x5.size
  refine seq_val (z3) 9 rfl kj kj ?_
  refine seq_nil ?_
  refine hK24 _ _ ?_
  try clear hK24 K24
  refine wp_seq_k fun K29 hK29 => ?_
  refine region_lit ?_
  refine seq_makeS (ints .u32 ([])) 64 0 42 rfl kj kj fun g30 W13 l30 e13 r30_13 => ?_
  have x13 : Ext w W13 := Ext.tr x12 e13
  have b30 : w.heap.size ≤ g30 := Nat.le_trans x12.size l30
  refine seq_val (z3) 43 rfl kj kj ?_
  have f31_13 := (f27.ext e13)
  have y12_13 : Ext W12 W13 := (Rely.Ext.trans (Rely.Ext.refl W12) e13)
  refine seq_appendN (k := .u32) (T := 64) (xs := []) (ys := (rwords ([101, 120, 112, 97, 110, 100, 32, 51, 50, 45, 98, 121, 116, 101, 32, 107])).map wv ++ (rwords key).map wv ++ [(wv (BitVec.ofInt 32 number))] ++ (rwords nonce).map wv) (V := W12) 4 (.tmp 42) (.tmp 43) 71 rfl kj kj (by decide) 44 rfl kj kj kj (ownN_row (xs := []) rfl l30 r30_13 (by decide)) (OwnN.rd f31_13) (by simp only [List.length_append, List.length_map, hlE, hlK, hlN, List.length_cons, List.length_nil]; omega) y12_13 fun z4 W14 f32 y14 l14 => ?_
  have x14 : Ext w W14 := Ext.low x13 l14 x12.size
  refine seq_val (z4) 10 rfl kj kj ?_
  obtain ⟨s, es⟩ : ∃ z : List Wd, z = (startW key nonce).set 12 (BitVec.ofInt 32 number) := ⟨_, rfl⟩
  have hs : s.length = 16 := by rw [es, List.length_set]; rfl
  have hsE : (rwords ([101, 120, 112, 97, 110, 100, 32, 51, 50, 45, 98, 121, 116, 101, 32, 107])).map wv ++ (rwords key).map wv ++ [(wv (BitVec.ofInt 32 number))] ++ (rwords nonce).map wv = s.map wv := by rw [es, ← rstart key nonce number hkl hkb h hnb]; simp only [List.map_append]; rfl
  have hF9 : OwnN .u32 64 W5.heap.size (s.map wv) z3 W12 := hsE ▸ f27
  have hFx : OwnN .u32 64 W12.heap.size (s.map wv) z4 W14 := by have h1 := f32; rw [List.nil_append, hsE] at h1; exact h1
  obtain ⟨gx, cx, rx, rfl, lx, rowx, hcx⟩ := ownN_rest hFx (wv_len hs) (by decide)
  have nb9 : (z3).ownBlock ≠ some gx := fun e => by have h1 := OwnN.lt hF9 e; omega
  have r5_4 := (row_ext r5_3 e4)
  have r5_5 := (Puts.row p5 r5_4 (ne_of_old r5_3 l11))
  have nb9b : (z3).ownBlock ≠ some g5 := fun e => by have h1 := OwnN.ge hF9 e; have h2 := row_lt r5_5; omega
  have r5_6 := (row_ext r5_5 e6)
  have r5_7 := (row_ext r5_6 e7)
  have r5_8 := (low_row l8 r5_7 (row_lt r5_5))
  have r5_9 := (row_ext r5_8 e9)
  have r5_10 := (low_row l10 r5_9 (row_lt r5_5))
  have r5_11 := (row_ext r5_10 e11)
  have r5_12 := (low_row l12 r5_11 (row_lt r5_5))
  have nx8 : gx ≠ g5 := (ne_of_new r5_12 lx)
  obtain ⟨a9, c9, rfl, -⟩ := id (OwnN.rd hF9)
  refine seq_nil ?_
  refine hK29 _ _ ?_
  try clear hK29 K29
  refine wp_seq_k fun K35 hK35 => ?_
  refine wp_seq_k fun K36 hK36 => ?_
  refine region_lit ?_
  refine seq_val (.int .i64 0) 11 rfl kj kj ?_
  refine seq_nil ?_
  refine hK36 _ _ ?_
  try clear hK36 K36
  refine wp_block ?_
  refine loop_auto (fun (s1 : Nat) => [(6, .pointer (some ⟨g3, 0, none⟩)), (8, .pointer (some ⟨g5, 0, none⟩)), (9, .slice a9 ((s.map wv).length) c9), (10, .slice (some ⟨gx, 0, none⟩) 16 cx), (11, .int .i64 ((s1 : Nat) : Int))]) (fun (s1 : Nat) W => (s1 ≤ 10) ∧ (W.heap[gx]? = some (.cells (ints .u32 ((rounds s s1).map wv) ++ rx) 64)) ∧ (Keeps [gx] W14 W) ∧ (Ext w W)) (fun (s1 : Nat) => 10 - s1) 0 ⟨rfl, rfl, rfl, rfl, rfl, trivial⟩ ⟨(Nat.zero_le _), rowx, (Keeps.refl [gx] W14), x14⟩ fun s1 X1 V1 hI1 => ?_
  obtain ⟨i, hs1⟩ : ∃ z, z = s1 := ⟨_, rfl⟩
  subst hs1
  obtain ⟨hi, q34_1, kk1, xx1⟩ := hI1
  replace hi : i ≤ 10 := hi
  replace q34_1 : V1.heap[gx]? = some (.cells (ints .u32 ((rounds s i).map wv) ++ rx) 64) := q34_1
  replace kk1 : Keeps [gx] W14 V1 := kk1
  replace xx1 : Ext w V1 := xx1
  have q15 := kk1
  refine wp_seq_k fun K37 hK37 => ?_
  refine wp_seq_k fun K38 hK38 => ?_
  refine region_lit ?_
  refine seq_val (.int .i64 ((i : Nat) : Int)) 45 rfl kj kj ?_
  refine seq_val (.bool (decide (((i : Nat) : Int) < 10))) 46 rfl kj kj ?_
  refine seq_nil ?_
  refine hK38 _ _ ?_
  try clear hK38 K38
  refine cond_split (t := decide (((i : Nat) : Int) < 10)) kj (fun c39 => ?_) (fun c39 => ?_)
  · skip
    have hlt46 : i < 10 := by have := of_decide_eq_true c39; omega
    obtain ⟨x0_, ex0⟩ : ∃ z : List Wd, z = rounds s i := ⟨_, rfl⟩
    have h0 : x0_.length = 16 := by rw [ex0, rounds_len, hs]
    have r34_15_40 : V1.heap[gx]? = some (.cells (ints .u32 ((x0_).map wv) ++ rx) 64) := row_eqR q34_1 (by rw [ex0])
    refine wp_skip ?_
    refine hK37 _ _ ?_
    try clear hK37 K37
    refine wp_seq_k fun K41 hK41 => ?_
    refine wp_block ?_
    refine wp_seq_k fun K42 hK42 => ?_
    refine wp_seq_k fun K43 hK43 => ?_
    refine region_lit ?_
    refine seq_val (.int .i64 0) 12 rfl kj kj ?_
    refine seq_nil ?_
    refine hK43 _ _ ?_
    try clear hK43 K43
    refine wp_block ?_
    refine wp_loop_rounds 5 ?_
    show Code.wp _ _ (Exit.then (Code.rounds _ _ _ 4) _) _ _
    refine wp_seq_k fun K44 hK44 => ?_
    refine wp_seq_k fun K45 hK45 => ?_
    refine region_lit ?_
    refine seq_val (.int .i64 0) 49 rfl kj kj ?_
    refine seq_val (.bool true) 50 rfl kj kj ?_
    refine seq_nil ?_
    refine hK45 _ _ ?_
    try clear hK45 K45
    refine cond_true kj ?_
    refine wp_skip ?_
    refine hK44 _ _ ?_
    try clear hK44 K44
    refine wp_seq_k fun K46 hK46 => ?_
    refine wp_block ?_
    refine region_lit ?_
    refine seq_val (.slice (some ⟨gx, 0, none⟩) 16 cx) 53 rfl kj kj ?_
    refine seq_val (.int .i64 0) 54 rfl kj kj ?_
    refine seq_val (.int .i64 0) 55 rfl kj kj ?_
    refine seq_val (.int .i64 4) 56 rfl kj kj ?_
    refine seq_val (.int .i64 0) 57 rfl kj kj ?_
    refine seq_val (.int .i64 8) 58 rfl kj kj ?_
    refine seq_val (.int .i64 0) 59 rfl kj kj ?_
    refine seq_val (.int .i64 12) 60 rfl kj kj ?_
    refine seq_callR (fun v W' => v = .tuple #[] ∧ ExtB gx V1 W' ∧ W'.heap[gx]? = some (.cells (ints .u32 ((rqrt x0_ 0 4 8 12).map wv) ++ rx) 64)) 48 #[.slice (some ⟨gx, 0, none⟩) 16 cx, .int .i64 0, .int .i64 4, .int .i64 8, .int .i64 12] 61 rfl kj kj ((rquarterC gx cx rx x0_ 0 4 8 12 0 4 8 12 _ rfl rfl rfl rfl h0 (by decide) (by decide) (by decide) (by decide) r34_15_40).mono fun e w' h => ⟨_, h.1, rfl, h.2⟩) fun v W16 h => ?_
    obtain ⟨rfl, q16, r34_16⟩ := h
    have x16 : Ext w W16 := ExtB.up xx1 q16 (Nat.le_trans x12.size lx)
    obtain ⟨x1_, ex1⟩ : ∃ z : List Wd, z = qrt x0_ 0 4 8 12 := ⟨_, rfl⟩
    have h1 : x1_.length = 16 := by rw [ex1, qrt_len, h0]
    have r34_16_47 : W16.heap[gx]? = some (.cells (ints .u32 ((x1_).map wv) ++ rx) 64) := row_eqR r34_16 (by rw [ex1, (rq_eq x0_ h0).1])
    refine seq_nil ?_
    refine hK46 _ _ ?_
    try clear hK46 K46
    refine region_lit ?_
    refine seq_val (.int .i64 0) 51 rfl kj kj ?_
    refine seq_val (.int .i64 1) 52 rfl kj kj ?_
    refine seq_val (.int .i64 1) 12 rfl kj kj ?_
    refine seq_nil ?_
    show Code.rounds _ _ _ 4 _ _
    show Code.wp _ _ (Exit.then (Code.rounds _ _ _ 3) _) _ _
    refine wp_seq_k fun K48 hK48 => ?_
    refine wp_seq_k fun K49 hK49 => ?_
    refine region_lit ?_
    refine seq_val (.int .i64 1) 49 rfl kj kj ?_
    refine seq_val (.bool true) 50 rfl kj kj ?_
    refine seq_nil ?_
    refine hK49 _ _ ?_
    try clear hK49 K49
    refine cond_true kj ?_
    refine wp_skip ?_
    refine hK48 _ _ ?_
    try clear hK48 K48
    refine wp_seq_k fun K50 hK50 => ?_
    refine wp_block ?_
    refine region_lit ?_
    refine seq_val (.slice (some ⟨gx, 0, none⟩) 16 cx) 53 rfl kj kj ?_
    refine seq_val (.int .i64 1) 54 rfl kj kj ?_
    refine seq_val (.int .i64 1) 55 rfl kj kj ?_
    refine seq_val (.int .i64 5) 56 rfl kj kj ?_
    refine seq_val (.int .i64 1) 57 rfl kj kj ?_
    refine seq_val (.int .i64 9) 58 rfl kj kj ?_
    refine seq_val (.int .i64 1) 59 rfl kj kj ?_
    refine seq_val (.int .i64 13) 60 rfl kj kj ?_
    refine seq_callR (fun v W' => v = .tuple #[] ∧ ExtB gx W16 W' ∧ W'.heap[gx]? = some (.cells (ints .u32 ((rqrt x1_ 1 5 9 13).map wv) ++ rx) 64)) 48 #[.slice (some ⟨gx, 0, none⟩) 16 cx, .int .i64 1, .int .i64 5, .int .i64 9, .int .i64 13] 61 rfl kj kj ((rquarterC gx cx rx x1_ 1 5 9 13 1 5 9 13 _ rfl rfl rfl rfl h1 (by decide) (by decide) (by decide) (by decide) r34_16_47).mono fun e w' h => ⟨_, h.1, rfl, h.2⟩) fun v W17 h => ?_
    obtain ⟨rfl, q17, r34_17⟩ := h
    have x17 : Ext w W17 := ExtB.up x16 q17 (Nat.le_trans x12.size lx)
    obtain ⟨x2_, ex2⟩ : ∃ z : List Wd, z = qrt x1_ 1 5 9 13 := ⟨_, rfl⟩
    have h2 : x2_.length = 16 := by rw [ex2, qrt_len, h1]
    have r34_17_51 : W17.heap[gx]? = some (.cells (ints .u32 ((x2_).map wv) ++ rx) 64) := row_eqR r34_17 (by rw [ex2, (rq_eq x1_ h1).2.1])
    refine seq_nil ?_
    refine hK50 _ _ ?_
    try clear hK50 K50
    refine region_lit ?_
    refine seq_val (.int .i64 1) 51 rfl kj kj ?_
    refine seq_val (.int .i64 2) 52 rfl kj kj ?_
    refine seq_val (.int .i64 2) 12 rfl kj kj ?_
    refine seq_nil ?_
    show Code.rounds _ _ _ 3 _ _
    show Code.wp _ _ (Exit.then (Code.rounds _ _ _ 2) _) _ _
    refine wp_seq_k fun K52 hK52 => ?_
    refine wp_seq_k fun K53 hK53 => ?_
    refine region_lit ?_
    refine seq_val (.int .i64 2) 49 rfl kj kj ?_
    refine seq_val (.bool true) 50 rfl kj kj ?_
    refine seq_nil ?_
    refine hK53 _ _ ?_
    try clear hK53 K53
    refine cond_true kj ?_
    refine wp_skip ?_
    refine hK52 _ _ ?_
    try clear hK52 K52
    refine wp_seq_k fun K54 hK54 => ?_
    refine wp_block ?_
    refine region_lit ?_
    refine seq_val (.slice (some ⟨gx, 0, none⟩) 16 cx) 53 rfl kj kj ?_
    refine seq_val (.int .i64 2) 54 rfl kj kj ?_
    refine seq_val (.int .i64 2) 55 rfl kj kj ?_
    refine seq_val (.int .i64 6) 56 rfl kj kj ?_
    refine seq_val (.int .i64 2) 57 rfl kj kj ?_
    refine seq_val (.int .i64 10) 58 rfl kj kj ?_
    refine seq_val (.int .i64 2) 59 rfl kj kj ?_
    refine seq_val (.int .i64 14) 60 rfl kj kj ?_
    refine seq_callR (fun v W' => v = .tuple #[] ∧ ExtB gx W17 W' ∧ W'.heap[gx]? = some (.cells (ints .u32 ((rqrt x2_ 2 6 10 14).map wv) ++ rx) 64)) 48 #[.slice (some ⟨gx, 0, none⟩) 16 cx, .int .i64 2, .int .i64 6, .int .i64 10, .int .i64 14] 61 rfl kj kj ((rquarterC gx cx rx x2_ 2 6 10 14 2 6 10 14 _ rfl rfl rfl rfl h2 (by decide) (by decide) (by decide) (by decide) r34_17_51).mono fun e w' h => ⟨_, h.1, rfl, h.2⟩) fun v W18 h => ?_
    obtain ⟨rfl, q18, r34_18⟩ := h
    have x18 : Ext w W18 := ExtB.up x17 q18 (Nat.le_trans x12.size lx)
    obtain ⟨x3_, ex3⟩ : ∃ z : List Wd, z = qrt x2_ 2 6 10 14 := ⟨_, rfl⟩
    have h3 : x3_.length = 16 := by rw [ex3, qrt_len, h2]
    have r34_18_55 : W18.heap[gx]? = some (.cells (ints .u32 ((x3_).map wv) ++ rx) 64) := row_eqR r34_18 (by rw [ex3, (rq_eq x2_ h2).2.2.1])
    refine seq_nil ?_
    refine hK54 _ _ ?_
    try clear hK54 K54
    refine region_lit ?_
    refine seq_val (.int .i64 2) 51 rfl kj kj ?_
    refine seq_val (.int .i64 3) 52 rfl kj kj ?_
    refine seq_val (.int .i64 3) 12 rfl kj kj ?_
    refine seq_nil ?_
    show Code.rounds _ _ _ 2 _ _
    show Code.wp _ _ (Exit.then (Code.rounds _ _ _ 1) _) _ _
    refine wp_seq_k fun K56 hK56 => ?_
    refine wp_seq_k fun K57 hK57 => ?_
    refine region_lit ?_
    refine seq_val (.int .i64 3) 49 rfl kj kj ?_
    refine seq_val (.bool true) 50 rfl kj kj ?_
    refine seq_nil ?_
    refine hK57 _ _ ?_
    try clear hK57 K57
    refine cond_true kj ?_
    refine wp_skip ?_
    refine hK56 _ _ ?_
    try clear hK56 K56
    refine wp_seq_k fun K58 hK58 => ?_
    refine wp_block ?_
    refine region_lit ?_
    refine seq_val (.slice (some ⟨gx, 0, none⟩) 16 cx) 53 rfl kj kj ?_
    refine seq_val (.int .i64 3) 54 rfl kj kj ?_
    refine seq_val (.int .i64 3) 55 rfl kj kj ?_
    refine seq_val (.int .i64 7) 56 rfl kj kj ?_
    refine seq_val (.int .i64 3) 57 rfl kj kj ?_
    refine seq_val (.int .i64 11) 58 rfl kj kj ?_
    refine seq_val (.int .i64 3) 59 rfl kj kj ?_
    refine seq_val (.int .i64 15) 60 rfl kj kj ?_
    refine seq_callR (fun v W' => v = .tuple #[] ∧ ExtB gx W18 W' ∧ W'.heap[gx]? = some (.cells (ints .u32 ((rqrt x3_ 3 7 11 15).map wv) ++ rx) 64)) 48 #[.slice (some ⟨gx, 0, none⟩) 16 cx, .int .i64 3, .int .i64 7, .int .i64 11, .int .i64 15] 61 rfl kj kj ((rquarterC gx cx rx x3_ 3 7 11 15 3 7 11 15 _ rfl rfl rfl rfl h3 (by decide) (by decide) (by decide) (by decide) r34_18_55).mono fun e w' h => ⟨_, h.1, rfl, h.2⟩) fun v W19 h => ?_
    obtain ⟨rfl, q19, r34_19⟩ := h
    have x19 : Ext w W19 := ExtB.up x18 q19 (Nat.le_trans x12.size lx)
    obtain ⟨x4_, ex4⟩ : ∃ z : List Wd, z = qrt x3_ 3 7 11 15 := ⟨_, rfl⟩
    have h4 : x4_.length = 16 := by rw [ex4, qrt_len, h3]
    have r34_19_59 : W19.heap[gx]? = some (.cells (ints .u32 ((x4_).map wv) ++ rx) 64) := row_eqR r34_19 (by rw [ex4, (rq_eq x3_ h3).2.2.2.1])
    refine seq_nil ?_
    refine hK58 _ _ ?_
    try clear hK58 K58
    refine region_lit ?_
    refine seq_val (.int .i64 3) 51 rfl kj kj ?_
    refine seq_val (.int .i64 4) 52 rfl kj kj ?_
    refine seq_val (.int .i64 4) 12 rfl kj kj ?_
    refine seq_nil ?_
    show Code.rounds _ _ _ 1 _ _
    show Code.wp _ _ (Exit.then (Code.rounds _ _ _ 0) _) _ _
    refine wp_seq_k fun K60 hK60 => ?_
    refine wp_seq_k fun K61 hK61 => ?_
    refine region_lit ?_
    refine seq_val (.int .i64 4) 49 rfl kj kj ?_
    refine seq_val (.bool false) 50 rfl kj kj ?_
    refine seq_nil ?_
    refine hK61 _ _ ?_
    try clear hK61 K61
    refine cond_false kj ?_
    refine wp_exit ?_
    refine hK42 _ _ ?_
    try clear hK42 K42
    refine wp_seq_k fun K62 hK62 => ?_
    refine region_lit ?_
    refine seq_val (.int .i64 0) 13 rfl kj kj ?_
    refine seq_nil ?_
    refine hK62 _ _ ?_
    try clear hK62 K62
    refine wp_block ?_
    refine wp_loop_rounds 5 ?_
    show Code.wp _ _ (Exit.then (Code.rounds _ _ _ 4) _) _ _
    refine wp_seq_k fun K63 hK63 => ?_
    refine wp_seq_k fun K64 hK64 => ?_
    refine region_lit ?_
    refine seq_val (.int .i64 0) 62 rfl kj kj ?_
    refine seq_val (.bool true) 63 rfl kj kj ?_
    refine seq_nil ?_
    refine hK64 _ _ ?_
    try clear hK64 K64
    refine cond_true kj ?_
    refine wp_skip ?_
    refine hK63 _ _ ?_
    try clear hK63 K63
    refine wp_seq_k fun K65 hK65 => ?_
    refine wp_block ?_
    refine region_lit ?_
    refine seq_val (.slice (some ⟨gx, 0, none⟩) 16 cx) 66 rfl kj kj ?_
    refine seq_val (.int .i64 0) 67 rfl kj kj ?_
    refine seq_val (.int .i64 0) 68 rfl kj kj ?_
    refine seq_val (.int .i64 1) 69 rfl kj kj ?_
    refine seq_val (.int .i64 1) 70 rfl kj kj ?_
    refine seq_val (.int .i64 5) 71 rfl kj kj ?_
    refine seq_val (.int .i64 0) 72 rfl kj kj ?_
    refine seq_val (.int .i64 2) 73 rfl kj kj ?_
    refine seq_val (.int .i64 2) 74 rfl kj kj ?_
    refine seq_val (.int .i64 10) 75 rfl kj kj ?_
    refine seq_val (.int .i64 0) 76 rfl kj kj ?_
    refine seq_val (.int .i64 3) 77 rfl kj kj ?_
    refine seq_val (.int .i64 3) 78 rfl kj kj ?_
    refine seq_val (.int .i64 15) 79 rfl kj kj ?_
    refine seq_callR (fun v W' => v = .tuple #[] ∧ ExtB gx W19 W' ∧ W'.heap[gx]? = some (.cells (ints .u32 ((rqrt x4_ 0 5 10 15).map wv) ++ rx) 64)) 48 #[.slice (some ⟨gx, 0, none⟩) 16 cx, .int .i64 0, .int .i64 5, .int .i64 10, .int .i64 15] 80 rfl kj kj ((rquarterC gx cx rx x4_ 0 5 10 15 0 5 10 15 _ rfl rfl rfl rfl h4 (by decide) (by decide) (by decide) (by decide) r34_19_59).mono fun e w' h => ⟨_, h.1, rfl, h.2⟩) fun v W20 h => ?_
    obtain ⟨rfl, q20, r34_20⟩ := h
    have x20 : Ext w W20 := ExtB.up x19 q20 (Nat.le_trans x12.size lx)
    obtain ⟨x5_, ex5⟩ : ∃ z : List Wd, z = qrt x4_ 0 5 10 15 := ⟨_, rfl⟩
    have h5 : x5_.length = 16 := by rw [ex5, qrt_len, h4]
    have r34_20_66 : W20.heap[gx]? = some (.cells (ints .u32 ((x5_).map wv) ++ rx) 64) := row_eqR r34_20 (by rw [ex5, (rq_eq x4_ h4).2.2.2.2.1])
    refine seq_nil ?_
    refine hK65 _ _ ?_
    try clear hK65 K65
    refine region_lit ?_
    refine seq_val (.int .i64 0) 64 rfl kj kj ?_
    refine seq_val (.int .i64 1) 65 rfl kj kj ?_
    refine seq_val (.int .i64 1) 13 rfl kj kj ?_
    refine seq_nil ?_
    show Code.rounds _ _ _ 4 _ _
    show Code.wp _ _ (Exit.then (Code.rounds _ _ _ 3) _) _ _
    refine wp_seq_k fun K67 hK67 => ?_
    refine wp_seq_k fun K68 hK68 => ?_
    refine region_lit ?_
    refine seq_val (.int .i64 1) 62 rfl kj kj ?_
    refine seq_val (.bool true) 63 rfl kj kj ?_
    refine seq_nil ?_
    refine hK68 _ _ ?_
    try clear hK68 K68
    refine cond_true kj ?_
    refine wp_skip ?_
    refine hK67 _ _ ?_
    try clear hK67 K67
    refine wp_seq_k fun K69 hK69 => ?_
    refine wp_block ?_
    refine region_lit ?_
    refine seq_val (.slice (some ⟨gx, 0, none⟩) 16 cx) 66 rfl kj kj ?_
    refine seq_val (.int .i64 1) 67 rfl kj kj ?_
    refine seq_val (.int .i64 1) 68 rfl kj kj ?_
    refine seq_val (.int .i64 2) 69 rfl kj kj ?_
    refine seq_val (.int .i64 2) 70 rfl kj kj ?_
    refine seq_val (.int .i64 6) 71 rfl kj kj ?_
    refine seq_val (.int .i64 1) 72 rfl kj kj ?_
    refine seq_val (.int .i64 3) 73 rfl kj kj ?_
    refine seq_val (.int .i64 3) 74 rfl kj kj ?_
    refine seq_val (.int .i64 11) 75 rfl kj kj ?_
    refine seq_val (.int .i64 1) 76 rfl kj kj ?_
    refine seq_val (.int .i64 4) 77 rfl kj kj ?_
    refine seq_val (.int .i64 0) 78 rfl kj kj ?_
    refine seq_val (.int .i64 12) 79 rfl kj kj ?_
    refine seq_callR (fun v W' => v = .tuple #[] ∧ ExtB gx W20 W' ∧ W'.heap[gx]? = some (.cells (ints .u32 ((rqrt x5_ 1 6 11 12).map wv) ++ rx) 64)) 48 #[.slice (some ⟨gx, 0, none⟩) 16 cx, .int .i64 1, .int .i64 6, .int .i64 11, .int .i64 12] 80 rfl kj kj ((rquarterC gx cx rx x5_ 1 6 11 12 1 6 11 12 _ rfl rfl rfl rfl h5 (by decide) (by decide) (by decide) (by decide) r34_20_66).mono fun e w' h => ⟨_, h.1, rfl, h.2⟩) fun v W21 h => ?_
    obtain ⟨rfl, q21, r34_21⟩ := h
    have x21 : Ext w W21 := ExtB.up x20 q21 (Nat.le_trans x12.size lx)
    obtain ⟨x6_, ex6⟩ : ∃ z : List Wd, z = qrt x5_ 1 6 11 12 := ⟨_, rfl⟩
    have h6 : x6_.length = 16 := by rw [ex6, qrt_len, h5]
    have r34_21_70 : W21.heap[gx]? = some (.cells (ints .u32 ((x6_).map wv) ++ rx) 64) := row_eqR r34_21 (by rw [ex6, (rq_eq x5_ h5).2.2.2.2.2.1])
    refine seq_nil ?_
    refine hK69 _ _ ?_
    try clear hK69 K69
    refine region_lit ?_
    refine seq_val (.int .i64 1) 64 rfl kj kj ?_
    refine seq_val (.int .i64 2) 65 rfl kj kj ?_
    refine seq_val (.int .i64 2) 13 rfl kj kj ?_
    refine seq_nil ?_
    show Code.rounds _ _ _ 3 _ _
    show Code.wp _ _ (Exit.then (Code.rounds _ _ _ 2) _) _ _
    refine wp_seq_k fun K71 hK71 => ?_
    refine wp_seq_k fun K72 hK72 => ?_
    refine region_lit ?_
    refine seq_val (.int .i64 2) 62 rfl kj kj ?_
    refine seq_val (.bool true) 63 rfl kj kj ?_
    refine seq_nil ?_
    refine hK72 _ _ ?_
    try clear hK72 K72
    refine cond_true kj ?_
    refine wp_skip ?_
    refine hK71 _ _ ?_
    try clear hK71 K71
    refine wp_seq_k fun K73 hK73 => ?_
    refine wp_block ?_
    refine region_lit ?_
    refine seq_val (.slice (some ⟨gx, 0, none⟩) 16 cx) 66 rfl kj kj ?_
    refine seq_val (.int .i64 2) 67 rfl kj kj ?_
    refine seq_val (.int .i64 2) 68 rfl kj kj ?_
    refine seq_val (.int .i64 3) 69 rfl kj kj ?_
    refine seq_val (.int .i64 3) 70 rfl kj kj ?_
    refine seq_val (.int .i64 7) 71 rfl kj kj ?_
    refine seq_val (.int .i64 2) 72 rfl kj kj ?_
    refine seq_val (.int .i64 4) 73 rfl kj kj ?_
    refine seq_val (.int .i64 0) 74 rfl kj kj ?_
    refine seq_val (.int .i64 8) 75 rfl kj kj ?_
    refine seq_val (.int .i64 2) 76 rfl kj kj ?_
    refine seq_val (.int .i64 5) 77 rfl kj kj ?_
    refine seq_val (.int .i64 1) 78 rfl kj kj ?_
    refine seq_val (.int .i64 13) 79 rfl kj kj ?_
    refine seq_callR (fun v W' => v = .tuple #[] ∧ ExtB gx W21 W' ∧ W'.heap[gx]? = some (.cells (ints .u32 ((rqrt x6_ 2 7 8 13).map wv) ++ rx) 64)) 48 #[.slice (some ⟨gx, 0, none⟩) 16 cx, .int .i64 2, .int .i64 7, .int .i64 8, .int .i64 13] 80 rfl kj kj ((rquarterC gx cx rx x6_ 2 7 8 13 2 7 8 13 _ rfl rfl rfl rfl h6 (by decide) (by decide) (by decide) (by decide) r34_21_70).mono fun e w' h => ⟨_, h.1, rfl, h.2⟩) fun v W22 h => ?_
    obtain ⟨rfl, q22, r34_22⟩ := h
    have x22 : Ext w W22 := ExtB.up x21 q22 (Nat.le_trans x12.size lx)
    obtain ⟨x7_, ex7⟩ : ∃ z : List Wd, z = qrt x6_ 2 7 8 13 := ⟨_, rfl⟩
    have h7 : x7_.length = 16 := by rw [ex7, qrt_len, h6]
    have r34_22_74 : W22.heap[gx]? = some (.cells (ints .u32 ((x7_).map wv) ++ rx) 64) := row_eqR r34_22 (by rw [ex7, (rq_eq x6_ h6).2.2.2.2.2.2.1])
    refine seq_nil ?_
    refine hK73 _ _ ?_
    try clear hK73 K73
    refine region_lit ?_
    refine seq_val (.int .i64 2) 64 rfl kj kj ?_
    refine seq_val (.int .i64 3) 65 rfl kj kj ?_
    refine seq_val (.int .i64 3) 13 rfl kj kj ?_
    refine seq_nil ?_
    show Code.rounds _ _ _ 2 _ _
    show Code.wp _ _ (Exit.then (Code.rounds _ _ _ 1) _) _ _
    refine wp_seq_k fun K75 hK75 => ?_
    refine wp_seq_k fun K76 hK76 => ?_
    refine region_lit ?_
    refine seq_val (.int .i64 3) 62 rfl kj kj ?_
    refine seq_val (.bool true) 63 rfl kj kj ?_
    refine seq_nil ?_
    refine hK76 _ _ ?_
    try clear hK76 K76
    refine cond_true kj ?_
    refine wp_skip ?_
    refine hK75 _ _ ?_
    try clear hK75 K75
    refine wp_seq_k fun K77 hK77 => ?_
    refine wp_block ?_
    refine region_lit ?_
    refine seq_val (.slice (some ⟨gx, 0, none⟩) 16 cx) 66 rfl kj kj ?_
    refine seq_val (.int .i64 3) 67 rfl kj kj ?_
    refine seq_val (.int .i64 3) 68 rfl kj kj ?_
    refine seq_val (.int .i64 4) 69 rfl kj kj ?_
    refine seq_val (.int .i64 0) 70 rfl kj kj ?_
    refine seq_val (.int .i64 4) 71 rfl kj kj ?_
    refine seq_val (.int .i64 3) 72 rfl kj kj ?_
    refine seq_val (.int .i64 5) 73 rfl kj kj ?_
    refine seq_val (.int .i64 1) 74 rfl kj kj ?_
    refine seq_val (.int .i64 9) 75 rfl kj kj ?_
    refine seq_val (.int .i64 3) 76 rfl kj kj ?_
    refine seq_val (.int .i64 6) 77 rfl kj kj ?_
    refine seq_val (.int .i64 2) 78 rfl kj kj ?_
    refine seq_val (.int .i64 14) 79 rfl kj kj ?_
    refine seq_callR (fun v W' => v = .tuple #[] ∧ ExtB gx W22 W' ∧ W'.heap[gx]? = some (.cells (ints .u32 ((rqrt x7_ 3 4 9 14).map wv) ++ rx) 64)) 48 #[.slice (some ⟨gx, 0, none⟩) 16 cx, .int .i64 3, .int .i64 4, .int .i64 9, .int .i64 14] 80 rfl kj kj ((rquarterC gx cx rx x7_ 3 4 9 14 3 4 9 14 _ rfl rfl rfl rfl h7 (by decide) (by decide) (by decide) (by decide) r34_22_74).mono fun e w' h => ⟨_, h.1, rfl, h.2⟩) fun v W23 h => ?_
    obtain ⟨rfl, q23, r34_23⟩ := h
    have x23 : Ext w W23 := ExtB.up x22 q23 (Nat.le_trans x12.size lx)
    obtain ⟨x8_, ex8⟩ : ∃ z : List Wd, z = qrt x7_ 3 4 9 14 := ⟨_, rfl⟩
    have h8 : x8_.length = 16 := by rw [ex8, qrt_len, h7]
    have r34_23_78 : W23.heap[gx]? = some (.cells (ints .u32 ((x8_).map wv) ++ rx) 64) := row_eqR r34_23 (by rw [ex8, (rq_eq x7_ h7).2.2.2.2.2.2.2])
    refine seq_nil ?_
    refine hK77 _ _ ?_
    try clear hK77 K77
    refine region_lit ?_
    refine seq_val (.int .i64 3) 64 rfl kj kj ?_
    refine seq_val (.int .i64 4) 65 rfl kj kj ?_
    refine seq_val (.int .i64 4) 13 rfl kj kj ?_
    refine seq_nil ?_
    show Code.rounds _ _ _ 1 _ _
    show Code.wp _ _ (Exit.then (Code.rounds _ _ _ 0) _) _ _
    refine wp_seq_k fun K79 hK79 => ?_
    refine wp_seq_k fun K80 hK80 => ?_
    refine region_lit ?_
    refine seq_val (.int .i64 4) 62 rfl kj kj ?_
    refine seq_val (.bool false) 63 rfl kj kj ?_
    refine seq_nil ?_
    refine hK80 _ _ ?_
    try clear hK80 K80
    refine cond_false kj ?_
    refine wp_exit ?_
    refine hK41 _ _ ?_
    try clear hK41 K41
    refine region_lit ?_
    refine seq_val (.int .i64 ((i : Nat) : Int)) 47 rfl kj kj ?_
    refine seq_val (.int .i64 ((i + 1 : Nat) : Int)) 48 rfl kj (run_eq (u := .int .i64 (IntKind.i64.wrap (((i : Nat) : Int) + 1))) kj (congrArg (Value.int .i64) (i64n _ _ (by omega) (by omega)))) ?_
    refine seq_val (.int .i64 ((i + 1 : Nat) : Int)) 11 rfl kj kj ?_
    refine seq_nil ?_
    have r34_23_81 : W23.heap[gx]? = some (.cells (ints .u32 ((rounds s (i + 1)).map wv) ++ rx) 64) := row_eqR r34_23_78 (by rw [ex8, ex7, ex6, ex5, ex4, ex3, ex2, ex1, ex0]; rfl)
    repeat (first | with_reducible refine goX1 ?_ | with_reducible refine goX2 ?_ | with_reducible refine goX3 ?_)
    exact goes_then (i + 1) ⟨rfl, rfl, rfl, rfl, rfl, trivial⟩ ⟨(by omega), r34_23_81, (Keeps.but (Keeps.but (Keeps.but (Keeps.but (Keeps.but (Keeps.but (Keeps.but (Keeps.but q15 q16 (.inl (by simp))) q17 (.inl (by simp))) q18 (.inl (by simp))) q19 (.inl (by simp))) q20 (.inl (by simp))) q21 (.inl (by simp))) q22 (.inl (by simp))) q23 (.inl (by simp))), x23⟩ (by omega)
  · skip
    have heq46 : i = 10 := by have := of_decide_eq_false c39; omega
    obtain ⟨xF, exF⟩ : ∃ z : List Wd, z = rounds s 10 := ⟨_, rfl⟩
    have hxF : xF.length = 16 := by rw [exF, rounds_len, hs]
    subst heq46
    have r34_15_82 : V1.heap[gx]? = some (.cells (ints .u32 ((xF).map wv) ++ rx) 64) := row_eqR q34_1 (by rw [exF])
    refine wp_exit ?_
    refine hK35 _ _ ?_
    try clear hK35 K35
    refine wp_seq_k fun K83 hK83 => ?_
    refine wp_seq_k fun K84 hK84 => ?_
    refine region_lit ?_
    refine seq_val (.int .i64 0) 14 rfl kj kj ?_
    refine seq_nil ?_
    refine hK84 _ _ ?_
    try clear hK84 K84
    refine wp_block ?_
    have hP : (pieceB xF s).length = 64 := pieceB_len _ _
    have r5_13 := (row_ext r5_12 e13)
    have r5_14 := (low_row l14 r5_13 (row_lt r5_12))
    have r5_15 := (Keeps.row q15 r5_14 (nm_cons (Ne.symm nx8) nm_nil))
    refine loop_auto (fun (s2 : Nat) => [(6, .pointer (some ⟨g3, 0, none⟩)), (8, .pointer (some ⟨g5, 0, none⟩)), (9, .slice a9 ((s.map wv).length) c9), (10, .slice (some ⟨gx, 0, none⟩) 16 cx), (14, .int .i64 ((s2 : Nat) : Int))]) (fun (s2 : Nat) W => (s2 ≤ 64) ∧ (W.heap[g5]? = some (.cells (ints .u8 (fillL (pieceB xF s) 64 (s2))) 28)) ∧ (Keeps [g5] V1 W) ∧ (Ext w W)) (fun (s2 : Nat) => 64 - s2) 0 ⟨rfl, rfl, rfl, rfl, rfl, trivial⟩ ⟨(Nat.zero_le _), (row_eq r5_15 (fillL_zero _ 64)), (Keeps.refl [g5] V1), xx1⟩ fun s2 X2 V2 hI2 => ?_
    obtain ⟨i, hs2⟩ : ∃ z, z = s2 := ⟨_, rfl⟩
    subst hs2
    obtain ⟨hi, q5_2, kk2, xx2⟩ := hI2
    replace hi : i ≤ 64 := hi
    replace q5_2 : V2.heap[g5]? = some (.cells (ints .u8 (fillL (pieceB xF s) 64 (i))) 28) := q5_2
    replace kk2 : Keeps [g5] V1 V2 := kk2
    replace xx2 : Ext w V2 := xx2
    have q16 := kk2
    refine wp_seq_k fun K85 hK85 => ?_
    refine wp_seq_k fun K86 hK86 => ?_
    refine region_lit ?_
    refine seq_val (.int .i64 ((i : Nat) : Int)) 81 rfl kj kj ?_
    refine seq_val (.bool (decide (((i : Nat) : Int) < 64))) 82 rfl kj kj ?_
    refine seq_nil ?_
    refine hK86 _ _ ?_
    try clear hK86 K86
    refine cond_split (t := decide (((i : Nat) : Int) < 64)) kj (fun c87 => ?_) (fun c87 => ?_)
    · skip
      have hlt82 : i < 64 := by have := of_decide_eq_true c87; omega
      have f89_13 := (hF9.ext e13)
      have f90_14 := (OwnN.low (n := 0) f89_13 hF9 l14)
      have f91_15 := (OwnN.keepsL f90_14 q15 (nb_cons nb9 nb_nil))
      have f92_16 := (OwnN.keepsL f91_15 q16 (nb_cons nb9b nb_nil))
      have hns_88 : (s.map wv).length = 16 := (wv_len hs)
      obtain ⟨gcs_88, ocs_88, has_88, hls_88, hcs_88⟩ := rdK_open (OwnN.rd f92_16) (by rw [hns_88]; omega)
      refine wp_skip ?_
      refine hK85 _ _ ?_
      try clear hK85 K85
      refine wp_seq_k fun K93 hK93 => ?_
      refine wp_block ?_
      refine any_regionE 18 [⟨none, [(14, none)]⟩, ⟨none, [(10, none)]⟩, ⟨none, [(14, none)]⟩, ⟨none, [(87, some 2)]⟩, ⟨none, [(86, some 1), (88, some 3)]⟩, ⟨none, [(89, some 4)]⟩, ⟨none, [(9, none)]⟩, ⟨none, [(14, none)]⟩, ⟨none, [(92, some 7)]⟩, ⟨none, [(91, some 6), (93, some 8)]⟩, ⟨none, [(94, some 9)]⟩, ⟨none, [(90, some 5), (95, some 10)]⟩, ⟨none, [(14, none)]⟩, ⟨none, [(97, some 12)]⟩, ⟨none, [(98, some 13)]⟩, ⟨none, [(99, some 14)]⟩, ⟨none, [(96, some 11), (100, some 15)]⟩, ⟨none, [(101, some 16)]⟩] kj kj fun F hF => ?_
      refine e_val (rl_ext _) (.int .i64 ((i : Nat) : Int)) kj kj (fun W => by kernel_rfl) ?_
      refine e_val (rl_ext _) (.slice (some ⟨gx, 0, none⟩) 16 cx) kj kj (fun W => by kernel_rfl) ?_
      refine e_val (rl_ext _) (.int .i64 ((i : Nat) : Int)) kj kj (fun W => by kernel_rfl) ?_
      refine e_val (rl_ext _) (.int .i64 ((i / 4 : Nat) : Int)) kj kj (fun W => (run_eq (u := .int .i64 (IntKind.i64.wrap (Int.tdiv (((i : Nat) : Int)) (4)))) kj (congrArg (Value.int .i64) (i64_quo _ 4 (by omega))))) ?_
      refine e_val (rl_ext _) (.pointer (some ⟨gx, (i / 4), none⟩)) kj kj (fun W => (run_indexS0 71 _ _ .i64 (i / 4) gx 16 cx 64 rfl kj kj kj kj (by omega))) ?_
      have r34_16 := (Keeps.row q16 r34_15_82 (nm_cons nx8 nm_nil))
      refine e_read (rl_ext _) (.int .u32 (wv (wget xF (i / 4)))) kj kj (fun W hR => (run_loadC1 64 _ gx (i / 4) 64 _ (.int .u32 (wv (wget xF (i / 4)))) _ (row_ext (row_ext r34_16 (ext_drew _)) hR) rfl kj ((rest_get (Nat.lt_of_lt_of_eq (by omega) (wv_len hxF).symm)).trans (congrArg (fun z => some (Value.int .u32 z)) (nth_map xF (i / 4)))) kj)) ?_
      refine e_val (rl_ext _) (.slice a9 ((s.map wv).length) c9) kj kj (fun W => by kernel_rfl) ?_
      refine e_val (rl_ext _) (.int .i64 ((i : Nat) : Int)) kj kj (fun W => by kernel_rfl) ?_
      refine e_val (rl_ext _) (.int .i64 ((i / 4 : Nat) : Int)) kj kj (fun W => (run_eq (u := .int .i64 (IntKind.i64.wrap (Int.tdiv (((i : Nat) : Int)) (4)))) kj (congrArg (Value.int .i64) (i64_quo _ 4 (by omega))))) ?_
      refine e_val (rl_ext _) (.pointer (some ⟨gcs_88, ocs_88 + (i / 4), none⟩)) kj kj (fun W => (run_indexA 71 _ _ .i64 (i / 4) gcs_88 ocs_88 ((s.map wv).length) c9 64 a9 _ has_88 rfl rfl kj kj kj kj (Nat.lt_of_lt_of_eq (show i / 4 < 16 by omega) hns_88.symm))) ?_
      refine e_read (rl_ext _) (.int .u32 (wv (wget s (i / 4)))) kj kj (fun W hR => (run_loadCell 64 _ _ (.int .u32 (wv (wget s (i / 4)))) (((Below.cell (Rely.Ext.trans (ext_drew _) hR) hls_88).trans (hcs_88 (i / 4) (Nat.lt_of_lt_of_eq (show i / 4 < 16 by omega) hns_88.symm))).trans (congrArg (fun z => some (Value.int .u32 z)) (nth_map s (i / 4)))) rfl kj kj)) ?_
      refine e_val (rl_ext _) (.int .u32 (wv (((wget xF (i / 4))) + ((wget s (i / 4)))))) kj kj (fun W => (run_eq (u := .int .u32 (IntKind.u32.wrap (wv (wget xF (i / 4)) + wv (wget s (i / 4))))) kj (congrArg (Value.int .u32) (w_add _ _)))) ?_
      refine e_val (rl_ext _) (.int .i64 ((i : Nat) : Int)) kj kj (fun W => by kernel_rfl) ?_
      refine e_val (rl_ext _) (.int .i64 ((i % 4 : Nat) : Int)) kj kj (fun W => (run_eq (u := .int .i64 (Int.tmod (((i : Nat) : Int)) (4))) kj (congrArg (Value.int .i64) (nat_rem _ 4)))) ?_
      refine e_val (rl_ext _) (.int .i64 ((8 * (i % 4) : Nat) : Int)) kj kj (fun W => (run_eq (u := .int .i64 (IntKind.i64.wrap (8 * ((i % 4 : Nat) : Int)))) kj (congrArg (Value.int .i64) (i64n _ _ (by omega) (by omega))))) ?_
      refine e_val (rl_ext _) (.int .u64 (((8 * (i % 4) : Nat) : Int))) kj kj (fun W => (run_eq (u := .int .u64 (IntKind.u64.wrap ((8 * (i % 4) : Nat) : Int))) kj (congrArg (Value.int .u64) (u64_id _ (by omega))))) ?_
      refine e_val (rl_ext _) (.int .u32 (wv ((wget xF (i / 4) + wget s (i / 4)) >>> (8 * (i % 4))))) kj kj (fun W => (run_bin .shr _ _ _ _ .u32 .u64 _ _ _ rfl kj kj (b_shr _ _ _ _ _ _ (by omega) (w_shr _ _ (8 * (i % 4)) rfl (by omega))))) ?_
      refine e_val (rl_ext _) (.int .u8 (nth (pieceB xF s) i)) kj kj (fun W => (run_eq (u := .int .u8 (IntKind.u8.wrap (wv ((wget xF (i / 4) + wget s (i / 4)) >>> (8 * (i % 4)))))) kj (congrArg (Value.int .u8) (byteP1 xF s i hlt82)))) ?_
      refine e_nil (hF _ fun W17 e17 => ?_)
      simp only [List.nil_append, List.cons_append, List.take_succ_cons, List.take_zero, List.drop_succ_cons, List.drop_zero, finE, up]
      clear hF
      have x17 : Ext w W17 := Ext.tr xx2 e17
      refine seq_val (.pointer (some ⟨g5, i, none⟩)) 103 rfl kj (run_index0 _ _ _ .i64 (i) _ 64 5 rfl kj kj kj kj (by omega)) ?_
      have r5_17 := (row_ext q5_2 e17)
      refine seq_store g5 _ (ints .u8 ((fillL (pieceB xF s) 64 (i)).set i (nth (pieceB xF s) i))) 28 r5_17 rfl kj (run_storeI 5 _ _ g5 i 28 _ _ r5_17 rfl kj kj kj (Nat.lt_of_lt_of_eq (by omega) (fillL_len _ 64 _ hP (by omega)).symm)) fun W18 p18 r5_18 => ?_
      have x18 : Ext w W18 := Puts.ext p18 x17 b5
      refine seq_nil ?_
      refine hK93 _ _ ?_
      try clear hK93 K93
      refine region_lit ?_
      refine seq_val (.int .i64 ((i : Nat) : Int)) 83 rfl kj kj ?_
      refine seq_val (.int .i64 ((i + 1 : Nat) : Int)) 84 rfl kj (run_eq (u := .int .i64 (IntKind.i64.wrap (((i : Nat) : Int) + 1))) kj (congrArg (Value.int .i64) (i64n _ _ (by omega) (by omega)))) ?_
      refine seq_val (.int .i64 ((i + 1 : Nat) : Int)) 14 rfl kj kj ?_
      refine seq_nil ?_
      repeat (first | with_reducible refine goX1 ?_ | with_reducible refine goX2 ?_ | with_reducible refine goX3 ?_)
      exact goes_then (i + 1) ⟨rfl, rfl, rfl, rfl, rfl, trivial⟩ ⟨(by omega), (row_eq r5_18 (fillL_step _ 64 i hP (by omega))), (Keeps.puts (Keeps.step q16 e17) p18 (.inl (by simp))), x18⟩ (by omega)
    · skip
      have heq82 : i = 64 := by have := of_decide_eq_false c87; omega
      subst heq82
      have r5_16_94 : V2.heap[g5]? = some (.cells (ints .u8 (pieceB xF s)) 28) := row_eq q5_2 (fillL_full _ 64 hP)
      refine wp_exit ?_
      refine hK83 _ _ ?_
      try clear hK83 K83
      refine wp_seq_k fun K95 hK95 => ?_
      refine region_lit ?_
      refine seq_val (.agg (ints .u8 (pieceB xF s))) 104 rfl kj (run_load_row 28 _ g5 28 _ _ r5_16_94 rfl kj kj (isz (n := 64) kj ((ints_size _ _).trans hP))) ?_
      have r3_3 := (row_ext r3_2 e3)
      have r3_4 := (row_ext r3_3 e4)
      have r3_5 := (Puts.row p5 r3_4 (ne_of_old r3_3 l11))
      have r3_6 := (row_ext r3_5 e6)
      have r3_7 := (row_ext r3_6 e7)
      have r3_8 := (low_row l8 r3_7 (row_lt r3_5))
      have r3_9 := (row_ext r3_8 e9)
      have r3_10 := (low_row l10 r3_9 (row_lt r3_5))
      have r3_11 := (row_ext r3_10 e11)
      have r3_12 := (low_row l12 r3_11 (row_lt r3_5))
      have r3_13 := (row_ext r3_12 e13)
      have r3_14 := (low_row l14 r3_13 (row_lt r3_12))
      have r3_15 := (Keeps.row q15 r3_14 (nm_cons (ne_of_old r3_12 lx) nm_nil))
      have r3_16 := (Keeps.row q16 r3_15 (nm_cons (ne_of_old r3_2 l5) nm_nil))
      refine seq_store g3 _ (ints .u8 (pieceB xF s)) 28 r3_16 rfl kj (run_store_row 28 _ _ g3 28 _ _ r3_16 rfl kj kj (isz (n := 64) kj ((ints_size _ _).trans hP)) (eqsz (n := 64) ((ints_size _ _).trans (List.length_replicate (n := 64))) ((ints_size _ _).trans hP)) (ints_one _ _)) fun W17 p17 r3_17 => ?_
      have x17 : Ext w W17 := Puts.ext p17 xx2 b3
      refine seq_val (.int .i64 0) 7 rfl kj kj ?_
      refine seq_nil ?_
      refine hK95 _ _ ?_
      try clear hK95 K95
      refine wp_ret ?_
      repeat (first | with_reducible refine goR1 ?_ | with_reducible refine goR2 ?_)
      exact (show bodyPost _ _ _ .ret _ _ from ret2 (.agg (ints .u8 (pieceB xF s))) (.int .i64 0) rfl (res_cell g3 28 _ r3_17 kj kj (isz (n := 64) kj ((ints_size _ _).trans hP))) (res_tmp kj) ⟨by unfold pieceV; rw [exF, es], x17⟩)

end Go.Proofs.YticjghmgbmjkiaaDoor.Cha
