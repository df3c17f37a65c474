/- ChaCha20: too large; the numbers of errors. -/
import Derived.Test.YticjghmgbmjkiaaDoorChS
namespace Go.Proofs.YticjghmgbmjkiaaDoor.Cha
open Go Go.RowKit
open Go.Proofs.YticjghmgbmjkiaaDoor.Rely Go.Proofs.YticjghmgbmjkiaaDoor.Auto Go.Proofs.YticjghmgbmjkiaaDoor.Own Go.Proofs.YticjghmgbmjkiaaDoor.Sha
set_option linter.unusedVariables false
set_option linter.unusedSimpArgs false

open Go.Proofs.YticjghmgbmjkiaaDoor.Sha
set_option maxHeartbeats 4000000 in
theorem num0 (w : World) : Calls Tryd.prog 16 #[.nilIface] w (Ret w (.int .i64 0)) := by
  refine enter 19 [(0, .nilIface)] Tryd.func16 rfl rfl kj rfl ?_
  refine wp_seq_k fun K1 hK1 => ?_
  refine region_lit ?_
  refine seq_val (.int .i64 0) 2 rfl kj kj ?_
  refine seq_nil ?_
  refine hK1 _ _ ?_
  try clear hK1 K1
  refine wp_seq_k fun K2 hK2 => ?_
  refine wp_seq_k fun K3 hK3 => ?_
  refine region_lit ?_
  refine seq_val (.nilIface) 5 rfl kj kj ?_
  refine seq_val (.bool true) 6 rfl kj kj ?_
  refine seq_nil ?_
  refine hK3 _ _ ?_
  try clear hK3 K3
  refine cond_true kj ?_
  refine wp_seq_k fun K4 hK4 => ?_
  refine region_lit ?_
  refine seq_val (.int .i64 0) 2 rfl kj kj ?_
  refine seq_nil ?_
  refine hK4 _ _ ?_
  try clear hK4 K4
  refine wp_ret ?_
  repeat (first | with_reducible refine goR1 ?_ | with_reducible refine goR2 ?_)
  exact (show bodyPost _ _ _ .ret _ _ from ret1 (.int .i64 0) rfl (res_tmp kj) ⟨rfl, (Rely.Ext.refl w)⟩)
set_option maxHeartbeats 4000000 in
theorem num1 (w : World) : Calls Tryd.prog 16 #[.iface 74 (.int .i64 1)] w (Ret w (.int .i64 1)) := by
  refine enter 19 [(0, .iface 74 (.int .i64 1))] Tryd.func16 rfl rfl kj rfl ?_
  refine wp_seq_k fun K1 hK1 => ?_
  refine region_lit ?_
  refine seq_val (.int .i64 0) 2 rfl kj kj ?_
  refine seq_nil ?_
  refine hK1 _ _ ?_
  try clear hK1 K1
  refine wp_seq_k fun K2 hK2 => ?_
  refine wp_seq_k fun K3 hK3 => ?_
  refine region_lit ?_
  refine seq_val (.iface 74 (.int .i64 1)) 5 rfl kj kj ?_
  refine seq_val (.bool false) 6 rfl kj kj ?_
  refine seq_nil ?_
  refine hK3 _ _ ?_
  try clear hK3 K3
  refine cond_false kj ?_
  refine wp_skip ?_
  refine hK2 _ _ ?_
  try clear hK2 K2
  refine wp_seq_k fun K4 hK4 => ?_
  refine region_lit ?_
  refine seq_val (.iface 74 (.int .i64 1)) 8 rfl kj kj ?_
  refine seq_val (.tuple #[.int .i64 1, .bool true]) 9 rfl kj kj ?_
  refine seq_val (.tuple #[.int .i64 1, .bool true]) 7 rfl kj kj ?_
  refine seq_val (.int .i64 1) 10 rfl kj kj ?_
  refine seq_val (.bool true) 11 rfl kj kj ?_
  refine seq_val (.int .i64 1) 3 rfl kj kj ?_
  refine seq_val (.bool true) 4 rfl kj kj ?_
  refine seq_nil ?_
  refine hK4 _ _ ?_
  try clear hK4 K4
  refine wp_seq_k fun K5 hK5 => ?_
  refine wp_seq_k fun K6 hK6 => ?_
  refine region_lit ?_
  refine seq_val (.bool true) 12 rfl kj kj ?_
  refine seq_val (.bool false) 13 rfl kj kj ?_
  refine seq_val (.bool false) 14 rfl kj kj ?_
  refine seq_val (.int .i64 1) 15 rfl kj kj ?_
  refine seq_val (.bool false) 16 rfl kj kj ?_
  refine seq_val (.bool false) 17 rfl kj kj ?_
  refine seq_nil ?_
  refine hK6 _ _ ?_
  try clear hK6 K6
  refine cond_false kj ?_
  refine wp_skip ?_
  refine hK5 _ _ ?_
  try clear hK5 K5
  refine wp_seq_k fun K7 hK7 => ?_
  refine region_lit ?_
  refine seq_val (.int .i64 1) 18 rfl kj kj ?_
  refine seq_val (.int .i64 1) 2 rfl kj kj ?_
  refine seq_nil ?_
  refine hK7 _ _ ?_
  try clear hK7 K7
  refine wp_ret ?_
  repeat (first | with_reducible refine goR1 ?_ | with_reducible refine goR2 ?_)
  exact (show bodyPost _ _ _ .ret _ _ from ret1 (.int .i64 1) rfl (res_tmp kj) ⟨rfl, (Rely.Ext.refl w)⟩)
set_option maxHeartbeats 4000000 in
theorem num8 (w : World) : Calls Tryd.prog 16 #[.iface 74 (.int .i64 8)] w (Ret w (.int .i64 8)) := by
  refine enter 19 [(0, .iface 74 (.int .i64 8))] Tryd.func16 rfl rfl kj rfl ?_
  refine wp_seq_k fun K1 hK1 => ?_
  refine region_lit ?_
  refine seq_val (.int .i64 0) 2 rfl kj kj ?_
  refine seq_nil ?_
  refine hK1 _ _ ?_
  try clear hK1 K1
  refine wp_seq_k fun K2 hK2 => ?_
  refine wp_seq_k fun K3 hK3 => ?_
  refine region_lit ?_
  refine seq_val (.iface 74 (.int .i64 8)) 5 rfl kj kj ?_
  refine seq_val (.bool false) 6 rfl kj kj ?_
  refine seq_nil ?_
  refine hK3 _ _ ?_
  try clear hK3 K3
  refine cond_false kj ?_
  refine wp_skip ?_
  refine hK2 _ _ ?_
  try clear hK2 K2
  refine wp_seq_k fun K4 hK4 => ?_
  refine region_lit ?_
  refine seq_val (.iface 74 (.int .i64 8)) 8 rfl kj kj ?_
  refine seq_val (.tuple #[.int .i64 8, .bool true]) 9 rfl kj kj ?_
  refine seq_val (.tuple #[.int .i64 8, .bool true]) 7 rfl kj kj ?_
  refine seq_val (.int .i64 8) 10 rfl kj kj ?_
  refine seq_val (.bool true) 11 rfl kj kj ?_
  refine seq_val (.int .i64 8) 3 rfl kj kj ?_
  refine seq_val (.bool true) 4 rfl kj kj ?_
  refine seq_nil ?_
  refine hK4 _ _ ?_
  try clear hK4 K4
  refine wp_seq_k fun K5 hK5 => ?_
  refine wp_seq_k fun K6 hK6 => ?_
  refine region_lit ?_
  refine seq_val (.bool true) 12 rfl kj kj ?_
  refine seq_val (.bool false) 13 rfl kj kj ?_
  refine seq_val (.bool false) 14 rfl kj kj ?_
  refine seq_val (.int .i64 8) 15 rfl kj kj ?_
  refine seq_val (.bool false) 16 rfl kj kj ?_
  refine seq_val (.bool false) 17 rfl kj kj ?_
  refine seq_nil ?_
  refine hK6 _ _ ?_
  try clear hK6 K6
  refine cond_false kj ?_
  refine wp_skip ?_
  refine hK5 _ _ ?_
  try clear hK5 K5
  refine wp_seq_k fun K7 hK7 => ?_
  refine region_lit ?_
  refine seq_val (.int .i64 8) 18 rfl kj kj ?_
  refine seq_val (.int .i64 8) 2 rfl kj kj ?_
  refine seq_nil ?_
  refine hK7 _ _ ?_
  try clear hK7 K7
  refine wp_ret ?_
  repeat (first | with_reducible refine goR1 ?_ | with_reducible refine goR2 ?_)
  exact (show bodyPost _ _ _ .ret _ _ from ret1 (.int .i64 8) rfl (res_tmp kj) ⟨rfl, (Rely.Ext.refl w)⟩)
set_option maxHeartbeats 4000000 in
theorem large_A (key nonce text : List Int) (a_n a_t : Option Addr) (c_n c_t : Nat) (num : Int) (w : World) (hkl : key.length = 32) (h : 1000 < nonce.length) : Calls Tryd.prog 13 #[.agg (cat [ints .u8 key, #[.slice a_n nonce.length c_n], #[.int .i64 num], #[.slice a_t text.length c_t]])] w (Ret w (.bool true)) := by
  refine enter 13 [(0, .agg (cat [ints .u8 (key), #[.slice a_n nonce.length c_n], #[.int .i64 num], #[.slice a_t text.length c_t]]))] Tryd.func13 rfl rfl kj rfl ?_
  refine wp_seq_k fun K1 hK1 => ?_
  refine region_lit ?_
  refine seq_alloc (cat [ints .u8 (key), #[.slice a_n nonce.length c_n], #[.int .i64 num], #[.slice a_t text.length c_t]]) 26 1 rfl kj kj fun g2 W1 l2 e1 r2_1 => ?_
  have x1 : Ext w W1 := Ext.tr (Rely.Ext.refl w) e1
  have b2 : w.heap.size ≤ g2 := Nat.le_trans (Rely.Ext.refl w).size l2
  refine seq_val (.bool false) 2 rfl kj kj ?_
  refine seq_nil ?_
  refine hK1 _ _ ?_
  try clear hK1 K1
  refine wp_seq_k fun K3 hK3 => ?_
  refine region_lit ?_
  refine seq_val (.pointer (some ⟨g2, 32, none⟩)) 3 rfl kj kj ?_
  refine seq_val (.slice a_n nonce.length c_n) 4 rfl kj (run_loadC1 24 _ g2 32 26 _ (.slice a_n nonce.length c_n) _ r2_1 rfl kj (cat_part [ints .u8 (key)] [#[.slice a_n nonce.length c_n]] [#[.int .i64 num], #[.slice a_t text.length c_t]] 32 ((ints_size _ _).trans hkl) 0 _ rfl) kj) ?_
  refine seq_val (.int .i64 ((nonce.length : Nat) : Int)) 5 rfl kj kj ?_
  refine seq_val (.bool true) 6 rfl kj (run_eq (u := .bool (decide (((nonce.length : Nat) : Int) > 1000))) kj (congrArg Value.bool (decide_eq_true (by omega)))) ?_
  refine seq_val (.bool true) 7 rfl kj kj ?_
  refine seq_skip 8 rfl kj ?_
  refine seq_skip 9 rfl kj ?_
  refine seq_skip 10 rfl kj ?_
  refine seq_skip 11 rfl kj ?_
  refine seq_val (.bool true) 12 rfl kj kj ?_
  refine seq_val (.bool true) 2 rfl kj kj ?_
  refine seq_nil ?_
  refine hK3 _ _ ?_
  try clear hK3 K3
  refine wp_ret ?_
  repeat (first | with_reducible refine goR1 ?_ | with_reducible refine goR2 ?_)
  exact (show bodyPost _ _ _ .ret _ _ from ret1 (.bool true) rfl (res_tmp kj) ⟨rfl, x1⟩)
set_option maxHeartbeats 4000000 in
theorem large_B (key nonce text : List Int) (a_n a_t : Option Addr) (c_n c_t : Nat) (num : Int) (w : World) (hkl : key.length = 32) (h1 : nonce.length ≤ 1000) (h : 1000 < text.length) : Calls Tryd.prog 13 #[.agg (cat [ints .u8 key, #[.slice a_n nonce.length c_n], #[.int .i64 num], #[.slice a_t text.length c_t]])] w (Ret w (.bool true)) := by
  refine enter 13 [(0, .agg (cat [ints .u8 (key), #[.slice a_n nonce.length c_n], #[.int .i64 num], #[.slice a_t text.length c_t]]))] Tryd.func13 rfl rfl kj rfl ?_
  refine wp_seq_k fun K1 hK1 => ?_
  refine region_lit ?_
  refine seq_alloc (cat [ints .u8 (key), #[.slice a_n nonce.length c_n], #[.int .i64 num], #[.slice a_t text.length c_t]]) 26 1 rfl kj kj fun g2 W1 l2 e1 r2_1 => ?_
  have x1 : Ext w W1 := Ext.tr (Rely.Ext.refl w) e1
  have b2 : w.heap.size ≤ g2 := Nat.le_trans (Rely.Ext.refl w).size l2
  refine seq_val (.bool false) 2 rfl kj kj ?_
  refine seq_nil ?_
  refine hK1 _ _ ?_
  try clear hK1 K1
  refine wp_seq_k fun K3 hK3 => ?_
  refine region_lit ?_
  refine seq_val (.pointer (some ⟨g2, 32, none⟩)) 3 rfl kj kj ?_
  refine seq_val (.slice a_n nonce.length c_n) 4 rfl kj (run_loadC1 24 _ g2 32 26 _ (.slice a_n nonce.length c_n) _ r2_1 rfl kj (cat_part [ints .u8 (key)] [#[.slice a_n nonce.length c_n]] [#[.int .i64 num], #[.slice a_t text.length c_t]] 32 ((ints_size _ _).trans hkl) 0 _ rfl) kj) ?_
  refine seq_val (.int .i64 ((nonce.length : Nat) : Int)) 5 rfl kj kj ?_
  refine seq_val (.bool false) 6 rfl kj (run_eq (u := .bool (decide (((nonce.length : Nat) : Int) > 1000))) kj (congrArg Value.bool (decide_eq_false (by omega)))) ?_
  refine seq_val (.bool false) 7 rfl kj kj ?_
  refine seq_val (.pointer (some ⟨g2, 34, none⟩)) 8 rfl kj kj ?_
  refine seq_val (.slice a_t text.length c_t) 9 rfl kj (run_loadC1 24 _ g2 34 26 _ (.slice a_t text.length c_t) _ r2_1 rfl kj (cat_part [ints .u8 (key), #[.slice a_n nonce.length c_n], #[.int .i64 num]] [#[.slice a_t text.length c_t]] [] 34 (by rw [cat_cons, cat_cons, cat_cons]; simp only [Array.size_append, cat, ((ints_size _ _).trans hkl)]; rfl) 0 _ rfl) kj) ?_
  refine seq_val (.int .i64 ((text.length : Nat) : Int)) 10 rfl kj kj ?_
  refine seq_val (.bool true) 11 rfl kj (run_eq (u := .bool (decide (((text.length : Nat) : Int) > 1000))) kj (congrArg Value.bool (decide_eq_true (by omega)))) ?_
  refine seq_val (.bool true) 12 rfl kj kj ?_
  refine seq_val (.bool true) 2 rfl kj kj ?_
  refine seq_nil ?_
  refine hK3 _ _ ?_
  try clear hK3 K3
  refine wp_ret ?_
  repeat (first | with_reducible refine goR1 ?_ | with_reducible refine goR2 ?_)
  exact (show bodyPost _ _ _ .ret _ _ from ret1 (.bool true) rfl (res_tmp kj) ⟨rfl, x1⟩)
set_option maxHeartbeats 4000000 in
theorem large_C (key nonce text : List Int) (a_n a_t : Option Addr) (c_n c_t : Nat) (num : Int) (w : World) (hkl : key.length = 32) (h1 : nonce.length ≤ 1000) (h : text.length ≤ 1000) : Calls Tryd.prog 13 #[.agg (cat [ints .u8 key, #[.slice a_n nonce.length c_n], #[.int .i64 num], #[.slice a_t text.length c_t]])] w (Ret w (.bool false)) := by
  refine enter 13 [(0, .agg (cat [ints .u8 (key), #[.slice a_n nonce.length c_n], #[.int .i64 num], #[.slice a_t text.length c_t]]))] Tryd.func13 rfl rfl kj rfl ?_
  refine wp_seq_k fun K1 hK1 => ?_
  refine region_lit ?_
  refine seq_alloc (cat [ints .u8 (key), #[.slice a_n nonce.length c_n], #[.int .i64 num], #[.slice a_t text.length c_t]]) 26 1 rfl kj kj fun g2 W1 l2 e1 r2_1 => ?_
  have x1 : Ext w W1 := Ext.tr (Rely.Ext.refl w) e1
  have b2 : w.heap.size ≤ g2 := Nat.le_trans (Rely.Ext.refl w).size l2
  refine seq_val (.bool false) 2 rfl kj kj ?_
  refine seq_nil ?_
  refine hK1 _ _ ?_
  try clear hK1 K1
  refine wp_seq_k fun K3 hK3 => ?_
  refine region_lit ?_
  refine seq_val (.pointer (some ⟨g2, 32, none⟩)) 3 rfl kj kj ?_
  refine seq_val (.slice a_n nonce.length c_n) 4 rfl kj (run_loadC1 24 _ g2 32 26 _ (.slice a_n nonce.length c_n) _ r2_1 rfl kj (cat_part [ints .u8 (key)] [#[.slice a_n nonce.length c_n]] [#[.int .i64 num], #[.slice a_t text.length c_t]] 32 ((ints_size _ _).trans hkl) 0 _ rfl) kj) ?_
  refine seq_val (.int .i64 ((nonce.length : Nat) : Int)) 5 rfl kj kj ?_
  refine seq_val (.bool false) 6 rfl kj (run_eq (u := .bool (decide (((nonce.length : Nat) : Int) > 1000))) kj (congrArg Value.bool (decide_eq_false (by omega)))) ?_
  refine seq_val (.bool false) 7 rfl kj kj ?_
  refine seq_val (.pointer (some ⟨g2, 34, none⟩)) 8 rfl kj kj ?_
  refine seq_val (.slice a_t text.length c_t) 9 rfl kj (run_loadC1 24 _ g2 34 26 _ (.slice a_t text.length c_t) _ r2_1 rfl kj (cat_part [ints .u8 (key), #[.slice a_n nonce.length c_n], #[.int .i64 num]] [#[.slice a_t text.length c_t]] [] 34 (by rw [cat_cons, cat_cons, cat_cons]; simp only [Array.size_append, cat, ((ints_size _ _).trans hkl)]; rfl) 0 _ rfl) kj) ?_
  refine seq_val (.int .i64 ((text.length : Nat) : Int)) 10 rfl kj kj ?_
  refine seq_val (.bool false) 11 rfl kj (run_eq (u := .bool (decide (((text.length : Nat) : Int) > 1000))) kj (congrArg Value.bool (decide_eq_false (by omega)))) ?_
  refine seq_val (.bool false) 12 rfl kj kj ?_
  refine seq_val (.bool false) 2 rfl kj kj ?_
  refine seq_nil ?_
  refine hK3 _ _ ?_
  try clear hK3 K3
  refine wp_ret ?_
  repeat (first | with_reducible refine goR1 ?_ | with_reducible refine goR2 ?_)
  exact (show bodyPost _ _ _ .ret _ _ from ret1 (.bool false) rfl (res_tmp kj) ⟨rfl, x1⟩)

end Go.Proofs.YticjghmgbmjkiaaDoor.Cha
