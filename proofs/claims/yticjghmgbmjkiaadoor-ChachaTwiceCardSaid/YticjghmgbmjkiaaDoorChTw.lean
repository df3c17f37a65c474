/- The law ChachaTwice. -/
import Derived.Test.YticjghmgbmjkiaaDoorChX
namespace Go.Proofs.YticjghmgbmjkiaaDoor.Cha
open Go Go.RowKit
open Go.Proofs.YticjghmgbmjkiaaDoor.Rely Go.Proofs.YticjghmgbmjkiaaDoor.Auto Go.Proofs.YticjghmgbmjkiaaDoor.Own Go.Proofs.YticjghmgbmjkiaaDoor.Sha
set_option linter.unusedVariables false
set_option linter.unusedSimpArgs false

open Go.Proofs.YticjghmgbmjkiaaDoor.Sha
set_option maxRecDepth 100000 in
set_option maxHeartbeats 4000000 in
theorem lawTwice_L (key nonce text : List Int) (a_n a_t : Option Addr) (c_n c_t : Nat) (number : Int) (th tq : TypeId) (w : World) (hh : w.heap[1]? = some (.cells (ints .u32 [1634760805, 857760878, 2036477234, 1797285236]) th)) (hq : w.heap[0]? = some (.cells (ints .i64 [0, 4, 8, 12, 1, 5, 9, 13, 2, 6, 10, 14, 3, 7, 11, 15, 0, 5, 10, 15, 1, 6, 11, 12, 2, 7, 8, 13, 3, 4, 9, 14]) tq)) (hkl : key.length = 32) (hkb : AreBytes key) (hnb : AreBytes nonce) (htb : AreBytes text) (hn : RdK .u8 w.heap.size nonce (.slice a_n nonce.length c_n) w) (ht : RdK .u8 w.heap.size text (.slice a_t text.length c_t) w) (cut : Int) (hlg : 1000 < nonce.length) : Calls Tryd.prog 5 #[.agg (cat [ints .u8 key, #[.slice a_n nonce.length c_n], #[.int .i64 number], #[.slice a_t text.length c_t]]), .int .i64 cut] w (Ret w (.bool true)) := by
  obtain ⟨k, ek⟩ : ∃ k : Nat, (k : Int) = (cut % 18446744073709551616) % ((text.length + 1 : Nat) : Int) := ⟨((cut % 18446744073709551616) % ((text.length + 1 : Nat) : Int)).toNat, Int.toNat_of_nonneg (Int.emod_nonneg _ (by omega))⟩
  have hk : k ≤ text.length := by have := Int.emod_lt_of_pos (cut % 18446744073709551616) (show (0 : Int) < ((text.length + 1 : Nat) : Int) by omega); omega
  have ctk : text.length ≤ c_t := by
    obtain ⟨_, _, e, q2, _⟩ := id ht
    simp only [Value.slice.injEq] at e
    obtain ⟨-, -, rfl⟩ := e
    exact q2
  refine enter 85 [(0, .agg (cat [ints .u8 (key), #[.slice a_n nonce.length c_n], #[.int .i64 number], #[.slice a_t text.length c_t]])), (1, .int .i64 cut)] Tryd.func5 rfl rfl kj rfl ?_
  refine wp_seq_k fun K3 hK3 => ?_
  refine region_lit ?_
  refine seq_alloc (cat [ints .u8 (key), #[.slice a_n nonce.length c_n], #[.int .i64 number], #[.slice a_t text.length c_t]]) 26 2 rfl kj kj fun g4 W1 l4 e1 r4_1 => ?_
  have x1 : Ext w W1 := Ext.tr (Rely.Ext.refl w) e1
  have b4 : w.heap.size ≤ g4 := Nat.le_trans (Rely.Ext.refl w).size l4
  refine seq_val (.bool false) 4 rfl kj kj ?_
  refine seq_nil ?_
  refine hK3 _ _ ?_
  try clear hK3 K3
  refine wp_seq_k fun K5 hK5 => ?_
  refine wp_seq_k fun K6 hK6 => ?_
  refine region_lit ?_
  refine seq_call (.bool true) 12 #[] 11 rfl kj kj ((alive03) _) fun W2 e2 => ?_
  have x2 : Ext w W2 := Ext.tr x1 e2
  refine seq_val (.bool false) 12 rfl kj kj ?_
  refine seq_nil ?_
  refine hK6 _ _ ?_
  try clear hK6 K6
  refine cond_false kj ?_
  refine wp_skip ?_
  refine hK5 _ _ ?_
  try clear hK5 K5
  refine wp_seq_k fun K7 hK7 => ?_
  refine wp_seq_k fun K8 hK8 => ?_
  refine region_lit ?_
  have r4_2 := (row_ext r4_1 e2)
  refine seq_val (.agg (cat [ints .u8 (key), #[.slice a_n nonce.length c_n], #[.int .i64 number], #[.slice a_t text.length c_t]])) 13 rfl kj (run_load_row 26 _ g4 26 _ _ r4_2 rfl kj kj (isz (n := 35) kj (by rw [cat_cons, cat_cons, cat_cons, cat_cons]; simp only [Array.size_append, cat, ((ints_size _ _).trans hkl)]; rfl))) ?_
  refine seq_call (.bool true) 13 #[.agg (cat [ints .u8 (key), #[.slice a_n nonce.length c_n], #[.int .i64 number], #[.slice a_t text.length c_t]])] 14 rfl kj kj ((large_A key nonce text a_n a_t c_n c_t number _ hkl hlg)) fun W3 e3 => ?_
  have x3 : Ext w W3 := Ext.tr x2 e3
  refine seq_nil ?_
  refine hK8 _ _ ?_
  try clear hK8 K8
  refine cond_true kj ?_
  refine wp_seq_k fun K9 hK9 => ?_
  refine region_lit ?_
  refine seq_val (.bool true) 4 rfl kj kj ?_
  refine seq_nil ?_
  refine hK9 _ _ ?_
  try clear hK9 K9
  refine wp_ret ?_
  repeat (first | with_reducible refine goR1 ?_ | with_reducible refine goR2 ?_)
  exact (show bodyPost _ _ _ .ret _ _ from ret1 (.bool true) rfl (res_tmp kj) ⟨rfl, x3⟩)
set_option maxRecDepth 100000 in
set_option maxHeartbeats 4000000 in
theorem lawTwice_M (key nonce text : List Int) (a_n a_t : Option Addr) (c_n c_t : Nat) (number : Int) (th tq : TypeId) (w : World) (hh : w.heap[1]? = some (.cells (ints .u32 [1634760805, 857760878, 2036477234, 1797285236]) th)) (hq : w.heap[0]? = some (.cells (ints .i64 [0, 4, 8, 12, 1, 5, 9, 13, 2, 6, 10, 14, 3, 7, 11, 15, 0, 5, 10, 15, 1, 6, 11, 12, 2, 7, 8, 13, 3, 4, 9, 14]) tq)) (hkl : key.length = 32) (hkb : AreBytes key) (hnb : AreBytes nonce) (htb : AreBytes text) (hn : RdK .u8 w.heap.size nonce (.slice a_n nonce.length c_n) w) (ht : RdK .u8 w.heap.size text (.slice a_t text.length c_t) w) (cut : Int) (hlg1 : nonce.length ≤ 1000) (hlg : 1000 < text.length) : Calls Tryd.prog 5 #[.agg (cat [ints .u8 key, #[.slice a_n nonce.length c_n], #[.int .i64 number], #[.slice a_t text.length c_t]]), .int .i64 cut] w (Ret w (.bool true)) := by
  obtain ⟨k, ek⟩ : ∃ k : Nat, (k : Int) = (cut % 18446744073709551616) % ((text.length + 1 : Nat) : Int) := ⟨((cut % 18446744073709551616) % ((text.length + 1 : Nat) : Int)).toNat, Int.toNat_of_nonneg (Int.emod_nonneg _ (by omega))⟩
  have hk : k ≤ text.length := by have := Int.emod_lt_of_pos (cut % 18446744073709551616) (show (0 : Int) < ((text.length + 1 : Nat) : Int) by omega); omega
  have ctk : text.length ≤ c_t := by
    obtain ⟨_, _, e, q2, _⟩ := id ht
    simp only [Value.slice.injEq] at e
    obtain ⟨-, -, rfl⟩ := e
    exact q2
  refine enter 85 [(0, .agg (cat [ints .u8 (key), #[.slice a_n nonce.length c_n], #[.int .i64 number], #[.slice a_t text.length c_t]])), (1, .int .i64 cut)] Tryd.func5 rfl rfl kj rfl ?_
  refine wp_seq_k fun K3 hK3 => ?_
  refine region_lit ?_
  refine seq_alloc (cat [ints .u8 (key), #[.slice a_n nonce.length c_n], #[.int .i64 number], #[.slice a_t text.length c_t]]) 26 2 rfl kj kj fun g4 W1 l4 e1 r4_1 => ?_
  have x1 : Ext w W1 := Ext.tr (Rely.Ext.refl w) e1
  have b4 : w.heap.size ≤ g4 := Nat.le_trans (Rely.Ext.refl w).size l4
  refine seq_val (.bool false) 4 rfl kj kj ?_
  refine seq_nil ?_
  refine hK3 _ _ ?_
  try clear hK3 K3
  refine wp_seq_k fun K5 hK5 => ?_
  refine wp_seq_k fun K6 hK6 => ?_
  refine region_lit ?_
  refine seq_call (.bool true) 12 #[] 11 rfl kj kj ((alive03) _) fun W2 e2 => ?_
  have x2 : Ext w W2 := Ext.tr x1 e2
  refine seq_val (.bool false) 12 rfl kj kj ?_
  refine seq_nil ?_
  refine hK6 _ _ ?_
  try clear hK6 K6
  refine cond_false kj ?_
  refine wp_skip ?_
  refine hK5 _ _ ?_
  try clear hK5 K5
  refine wp_seq_k fun K7 hK7 => ?_
  refine wp_seq_k fun K8 hK8 => ?_
  refine region_lit ?_
  have r4_2 := (row_ext r4_1 e2)
  refine seq_val (.agg (cat [ints .u8 (key), #[.slice a_n nonce.length c_n], #[.int .i64 number], #[.slice a_t text.length c_t]])) 13 rfl kj (run_load_row 26 _ g4 26 _ _ r4_2 rfl kj kj (isz (n := 35) kj (by rw [cat_cons, cat_cons, cat_cons, cat_cons]; simp only [Array.size_append, cat, ((ints_size _ _).trans hkl)]; rfl))) ?_
  refine seq_call (.bool true) 13 #[.agg (cat [ints .u8 (key), #[.slice a_n nonce.length c_n], #[.int .i64 number], #[.slice a_t text.length c_t]])] 14 rfl kj kj ((large_B key nonce text a_n a_t c_n c_t number _ hkl hlg1 hlg)) fun W3 e3 => ?_
  have x3 : Ext w W3 := Ext.tr x2 e3
  refine seq_nil ?_
  refine hK8 _ _ ?_
  try clear hK8 K8
  refine cond_true kj ?_
  refine wp_seq_k fun K9 hK9 => ?_
  refine region_lit ?_
  refine seq_val (.bool true) 4 rfl kj kj ?_
  refine seq_nil ?_
  refine hK9 _ _ ?_
  try clear hK9 K9
  refine wp_ret ?_
  repeat (first | with_reducible refine goR1 ?_ | with_reducible refine goR2 ?_)
  exact (show bodyPost _ _ _ .ret _ _ from ret1 (.bool true) rfl (res_tmp kj) ⟨rfl, x3⟩)
set_option maxRecDepth 100000 in
set_option maxHeartbeats 4000000 in
theorem lawTwice_A (key nonce text : List Int) (a_n a_t : Option Addr) (c_n c_t : Nat) (number : Int) (th tq : TypeId) (w : World) (hh : w.heap[1]? = some (.cells (ints .u32 [1634760805, 857760878, 2036477234, 1797285236]) th)) (hq : w.heap[0]? = some (.cells (ints .i64 [0, 4, 8, 12, 1, 5, 9, 13, 2, 6, 10, 14, 3, 7, 11, 15, 0, 5, 10, 15, 1, 6, 11, 12, 2, 7, 8, 13, 3, 4, 9, 14]) tq)) (hkl : key.length = 32) (hkb : AreBytes key) (hnb : AreBytes nonce) (htb : AreBytes text) (hn : RdK .u8 w.heap.size nonce (.slice a_n nonce.length c_n) w) (ht : RdK .u8 w.heap.size text (.slice a_t text.length c_t) w) (cut : Int) (hs1 : nonce.length ≤ 1000) (hs2 : text.length ≤ 1000) (h : nonce.length ≠ 12) : Calls Tryd.prog 5 #[.agg (cat [ints .u8 key, #[.slice a_n nonce.length c_n], #[.int .i64 number], #[.slice a_t text.length c_t]]), .int .i64 cut] w (Ret w (.bool true)) := by
  obtain ⟨k, ek⟩ : ∃ k : Nat, (k : Int) = (cut % 18446744073709551616) % ((text.length + 1 : Nat) : Int) := ⟨((cut % 18446744073709551616) % ((text.length + 1 : Nat) : Int)).toNat, Int.toNat_of_nonneg (Int.emod_nonneg _ (by omega))⟩
  have hk : k ≤ text.length := by have := Int.emod_lt_of_pos (cut % 18446744073709551616) (show (0 : Int) < ((text.length + 1 : Nat) : Int) by omega); omega
  have ctk : text.length ≤ c_t := by
    obtain ⟨_, _, e, q2, _⟩ := id ht
    simp only [Value.slice.injEq] at e
    obtain ⟨-, -, rfl⟩ := e
    exact q2
  refine enter 85 [(0, .agg (cat [ints .u8 (key), #[.slice a_n nonce.length c_n], #[.int .i64 number], #[.slice a_t text.length c_t]])), (1, .int .i64 cut)] Tryd.func5 rfl rfl kj rfl ?_
  refine wp_seq_k fun K3 hK3 => ?_
  refine region_lit ?_
  refine seq_alloc (cat [ints .u8 (key), #[.slice a_n nonce.length c_n], #[.int .i64 number], #[.slice a_t text.length c_t]]) 26 2 rfl kj kj fun g4 W1 l4 e1 r4_1 => ?_
  have x1 : Ext w W1 := Ext.tr (Rely.Ext.refl w) e1
  have b4 : w.heap.size ≤ g4 := Nat.le_trans (Rely.Ext.refl w).size l4
  refine seq_val (.bool false) 4 rfl kj kj ?_
  refine seq_nil ?_
  refine hK3 _ _ ?_
  try clear hK3 K3
  refine wp_seq_k fun K5 hK5 => ?_
  refine wp_seq_k fun K6 hK6 => ?_
  refine region_lit ?_
  refine seq_call (.bool true) 12 #[] 11 rfl kj kj ((alive03) _) fun W2 e2 => ?_
  have x2 : Ext w W2 := Ext.tr x1 e2
  refine seq_val (.bool false) 12 rfl kj kj ?_
  refine seq_nil ?_
  refine hK6 _ _ ?_
  try clear hK6 K6
  refine cond_false kj ?_
  refine wp_skip ?_
  refine hK5 _ _ ?_
  try clear hK5 K5
  refine wp_seq_k fun K7 hK7 => ?_
  refine wp_seq_k fun K8 hK8 => ?_
  refine region_lit ?_
  have r4_2 := (row_ext r4_1 e2)
  refine seq_val (.agg (cat [ints .u8 (key), #[.slice a_n nonce.length c_n], #[.int .i64 number], #[.slice a_t text.length c_t]])) 13 rfl kj (run_load_row 26 _ g4 26 _ _ r4_2 rfl kj kj (isz (n := 35) kj (by rw [cat_cons, cat_cons, cat_cons, cat_cons]; simp only [Array.size_append, cat, ((ints_size _ _).trans hkl)]; rfl))) ?_
  refine seq_call (.bool false) 13 #[.agg (cat [ints .u8 (key), #[.slice a_n nonce.length c_n], #[.int .i64 number], #[.slice a_t text.length c_t]])] 14 rfl kj kj ((large_C key nonce text a_n a_t c_n c_t number _ hkl hs1 hs2)) fun W3 e3 => ?_
  have x3 : Ext w W3 := Ext.tr x2 e3
  refine seq_nil ?_
  refine hK8 _ _ ?_
  try clear hK8 K8
  refine cond_false kj ?_
  refine wp_skip ?_
  refine hK7 _ _ ?_
  try clear hK7 K7
  refine wp_seq_k fun K9 hK9 => ?_
  refine region_lit ?_
  refine seq_val (.pointer (some ⟨g4, 0, none⟩)) 16 rfl kj kj ?_
  have r4_3 := (row_ext r4_2 e3)
  refine seq_val (.agg (ints .u8 (key))) 17 rfl kj (run_load_part 23 _ g4 0 26 _ _ _ r4_3 rfl kj (cat_part [] [ints .u8 (key)] [#[.slice a_n nonce.length c_n], #[.int .i64 number], #[.slice a_t text.length c_t]] 0 kj) kj (isz (n := 32) kj ((ints_size _ _).trans hkl))) ?_
  refine seq_val (.pointer (some ⟨g4, 32, none⟩)) 18 rfl kj kj ?_
  refine seq_val (.slice a_n nonce.length c_n) 19 rfl kj (run_loadC1 24 _ g4 32 26 _ (.slice a_n nonce.length c_n) _ r4_3 rfl kj (cat_part [ints .u8 (key)] [#[.slice a_n nonce.length c_n]] [#[.int .i64 number], #[.slice a_t text.length c_t]] 32 ((ints_size _ _).trans hkl) 0 _ rfl) kj) ?_
  refine seq_val (.pointer (some ⟨g4, 33, none⟩)) 20 rfl kj kj ?_
  refine seq_val (.int .i64 number) 21 rfl kj (run_loadC1 3 _ g4 33 26 _ (.int .i64 number) _ r4_3 rfl kj (cat_part [ints .u8 (key), #[.slice a_n nonce.length c_n]] [#[.int .i64 number]] [#[.slice a_t text.length c_t]] 33 (by rw [cat_cons, cat_cons]; simp only [Array.size_append, cat, ((ints_size _ _).trans hkl)]; rfl) 0 _ rfl) kj) ?_
  refine seq_val (.pointer (some ⟨g4, 34, none⟩)) 22 rfl kj kj ?_
  refine seq_val (.slice a_t text.length c_t) 23 rfl kj (run_loadC1 24 _ g4 34 26 _ (.slice a_t text.length c_t) _ r4_3 rfl kj (cat_part [ints .u8 (key), #[.slice a_n nonce.length c_n], #[.int .i64 number]] [#[.slice a_t text.length c_t]] [] 34 (by rw [cat_cons, cat_cons, cat_cons]; simp only [Array.size_append, cat, ((ints_size _ _).trans hkl)]; rfl) 0 _ rfl) kj) ?_
  have r2_1 := (row_ext hh e1)
  have r2_2 := (row_ext r2_1 e2)
  have r2_3 := (row_ext r2_2 e3)
  have r1_1 := (row_ext hq e1)
  have r1_2 := (row_ext r1_1 e2)
  have r1_3 := (row_ext r1_2 e3)
  refine seq_call (.tuple #[.slice none 0 0, .iface 74 (.int .i64 1)]) 19 #[.agg (ints .u8 (key)), .slice a_n nonce.length c_n, .int .i64 number, .slice a_t text.length c_t] 24 rfl kj kj ((Mix_A key nonce (text) _ _ _ _ number th tq _ r2_3 r1_3 hkl (RdK.ext hn x3) (RdK.ext ht x3) h)) fun W4 e4 => ?_
  have x4 : Ext w W4 := Ext.tr x3 e4
  refine seq_val (.tuple #[.slice none 0 0, .iface 74 (.int .i64 1)]) 15 rfl kj kj ?_
  refine seq_val (.slice none 0 0) 25 rfl kj kj ?_
  refine seq_val (.iface 74 (.int .i64 1)) 26 rfl kj kj ?_
  refine seq_val (.slice none 0 0) 5 rfl kj kj ?_
  refine seq_val (.iface 74 (.int .i64 1)) 6 rfl kj kj ?_
  refine seq_nil ?_
  refine hK9 _ _ ?_
  try clear hK9 K9
  refine wp_seq_k fun K10 hK10 => ?_
  refine wp_seq_k fun K11 hK11 => ?_
  refine region_lit ?_
  refine seq_val (.iface 74 (.int .i64 1)) 27 rfl kj kj ?_
  refine seq_val (.bool true) 28 rfl kj kj ?_
  refine seq_nil ?_
  refine hK11 _ _ ?_
  try clear hK11 K11
  refine cond_true kj ?_
  refine wp_seq_k fun K12 hK12 => ?_
  refine region_lit ?_
  refine seq_val (.slice none 0 0) 29 rfl kj kj ?_
  refine seq_val (.int .i64 0) 30 rfl kj kj ?_
  refine seq_val (.bool true) 31 rfl kj kj ?_
  refine seq_val (.bool true) 4 rfl kj kj ?_
  refine seq_nil ?_
  refine hK12 _ _ ?_
  try clear hK12 K12
  refine wp_ret ?_
  repeat (first | with_reducible refine goR1 ?_ | with_reducible refine goR2 ?_)
  exact (show bodyPost _ _ _ .ret _ _ from ret1 (.bool true) rfl (res_tmp kj) ⟨rfl, x4⟩)
set_option maxRecDepth 100000 in
set_option maxHeartbeats 4000000 in
theorem lawTwice_B (key nonce text : List Int) (a_n a_t : Option Addr) (c_n c_t : Nat) (number : Int) (th tq : TypeId) (w : World) (hh : w.heap[1]? = some (.cells (ints .u32 [1634760805, 857760878, 2036477234, 1797285236]) th)) (hq : w.heap[0]? = some (.cells (ints .i64 [0, 4, 8, 12, 1, 5, 9, 13, 2, 6, 10, 14, 3, 7, 11, 15, 0, 5, 10, 15, 1, 6, 11, 12, 2, 7, 8, 13, 3, 4, 9, 14]) tq)) (hkl : key.length = 32) (hkb : AreBytes key) (hnb : AreBytes nonce) (htb : AreBytes text) (hn : RdK .u8 w.heap.size nonce (.slice a_n nonce.length c_n) w) (ht : RdK .u8 w.heap.size text (.slice a_t text.length c_t) w) (cut : Int) (hs1 : nonce.length ≤ 1000) (hs2 : text.length ≤ 1000) (h : nonce.length = 12) (h1 : number < 0) : Calls Tryd.prog 5 #[.agg (cat [ints .u8 key, #[.slice a_n nonce.length c_n], #[.int .i64 number], #[.slice a_t text.length c_t]]), .int .i64 cut] w (Ret w (.bool true)) := by
  obtain ⟨k, ek⟩ : ∃ k : Nat, (k : Int) = (cut % 18446744073709551616) % ((text.length + 1 : Nat) : Int) := ⟨((cut % 18446744073709551616) % ((text.length + 1 : Nat) : Int)).toNat, Int.toNat_of_nonneg (Int.emod_nonneg _ (by omega))⟩
  have hk : k ≤ text.length := by have := Int.emod_lt_of_pos (cut % 18446744073709551616) (show (0 : Int) < ((text.length + 1 : Nat) : Int) by omega); omega
  have ctk : text.length ≤ c_t := by
    obtain ⟨_, _, e, q2, _⟩ := id ht
    simp only [Value.slice.injEq] at e
    obtain ⟨-, -, rfl⟩ := e
    exact q2
  refine enter 85 [(0, .agg (cat [ints .u8 (key), #[.slice a_n nonce.length c_n], #[.int .i64 number], #[.slice a_t text.length c_t]])), (1, .int .i64 cut)] Tryd.func5 rfl rfl kj rfl ?_
  refine wp_seq_k fun K3 hK3 => ?_
  refine region_lit ?_
  refine seq_alloc (cat [ints .u8 (key), #[.slice a_n nonce.length c_n], #[.int .i64 number], #[.slice a_t text.length c_t]]) 26 2 rfl kj kj fun g4 W1 l4 e1 r4_1 => ?_
  have x1 : Ext w W1 := Ext.tr (Rely.Ext.refl w) e1
  have b4 : w.heap.size ≤ g4 := Nat.le_trans (Rely.Ext.refl w).size l4
  refine seq_val (.bool false) 4 rfl kj kj ?_
  refine seq_nil ?_
  refine hK3 _ _ ?_
  try clear hK3 K3
  refine wp_seq_k fun K5 hK5 => ?_
  refine wp_seq_k fun K6 hK6 => ?_
  refine region_lit ?_
  refine seq_call (.bool true) 12 #[] 11 rfl kj kj ((alive03) _) fun W2 e2 => ?_
  have x2 : Ext w W2 := Ext.tr x1 e2
  refine seq_val (.bool false) 12 rfl kj kj ?_
  refine seq_nil ?_
  refine hK6 _ _ ?_
  try clear hK6 K6
  refine cond_false kj ?_
  refine wp_skip ?_
  refine hK5 _ _ ?_
  try clear hK5 K5
  refine wp_seq_k fun K7 hK7 => ?_
  refine wp_seq_k fun K8 hK8 => ?_
  refine region_lit ?_
  have r4_2 := (row_ext r4_1 e2)
  refine seq_val (.agg (cat [ints .u8 (key), #[.slice a_n nonce.length c_n], #[.int .i64 number], #[.slice a_t text.length c_t]])) 13 rfl kj (run_load_row 26 _ g4 26 _ _ r4_2 rfl kj kj (isz (n := 35) kj (by rw [cat_cons, cat_cons, cat_cons, cat_cons]; simp only [Array.size_append, cat, ((ints_size _ _).trans hkl)]; rfl))) ?_
  refine seq_call (.bool false) 13 #[.agg (cat [ints .u8 (key), #[.slice a_n nonce.length c_n], #[.int .i64 number], #[.slice a_t text.length c_t]])] 14 rfl kj kj ((large_C key nonce text a_n a_t c_n c_t number _ hkl hs1 hs2)) fun W3 e3 => ?_
  have x3 : Ext w W3 := Ext.tr x2 e3
  refine seq_nil ?_
  refine hK8 _ _ ?_
  try clear hK8 K8
  refine cond_false kj ?_
  refine wp_skip ?_
  refine hK7 _ _ ?_
  try clear hK7 K7
  refine wp_seq_k fun K9 hK9 => ?_
  refine region_lit ?_
  refine seq_val (.pointer (some ⟨g4, 0, none⟩)) 16 rfl kj kj ?_
  have r4_3 := (row_ext r4_2 e3)
  refine seq_val (.agg (ints .u8 (key))) 17 rfl kj (run_load_part 23 _ g4 0 26 _ _ _ r4_3 rfl kj (cat_part [] [ints .u8 (key)] [#[.slice a_n nonce.length c_n], #[.int .i64 number], #[.slice a_t text.length c_t]] 0 kj) kj (isz (n := 32) kj ((ints_size _ _).trans hkl))) ?_
  refine seq_val (.pointer (some ⟨g4, 32, none⟩)) 18 rfl kj kj ?_
  refine seq_val (.slice a_n nonce.length c_n) 19 rfl kj (run_loadC1 24 _ g4 32 26 _ (.slice a_n nonce.length c_n) _ r4_3 rfl kj (cat_part [ints .u8 (key)] [#[.slice a_n nonce.length c_n]] [#[.int .i64 number], #[.slice a_t text.length c_t]] 32 ((ints_size _ _).trans hkl) 0 _ rfl) kj) ?_
  refine seq_val (.pointer (some ⟨g4, 33, none⟩)) 20 rfl kj kj ?_
  refine seq_val (.int .i64 number) 21 rfl kj (run_loadC1 3 _ g4 33 26 _ (.int .i64 number) _ r4_3 rfl kj (cat_part [ints .u8 (key), #[.slice a_n nonce.length c_n]] [#[.int .i64 number]] [#[.slice a_t text.length c_t]] 33 (by rw [cat_cons, cat_cons]; simp only [Array.size_append, cat, ((ints_size _ _).trans hkl)]; rfl) 0 _ rfl) kj) ?_
  refine seq_val (.pointer (some ⟨g4, 34, none⟩)) 22 rfl kj kj ?_
  refine seq_val (.slice a_t text.length c_t) 23 rfl kj (run_loadC1 24 _ g4 34 26 _ (.slice a_t text.length c_t) _ r4_3 rfl kj (cat_part [ints .u8 (key), #[.slice a_n nonce.length c_n], #[.int .i64 number]] [#[.slice a_t text.length c_t]] [] 34 (by rw [cat_cons, cat_cons, cat_cons]; simp only [Array.size_append, cat, ((ints_size _ _).trans hkl)]; rfl) 0 _ rfl) kj) ?_
  have r2_1 := (row_ext hh e1)
  have r2_2 := (row_ext r2_1 e2)
  have r2_3 := (row_ext r2_2 e3)
  have r1_1 := (row_ext hq e1)
  have r1_2 := (row_ext r1_1 e2)
  have r1_3 := (row_ext r1_2 e3)
  refine seq_call (.tuple #[.slice none 0 0, .iface 74 (.int .i64 8)]) 19 #[.agg (ints .u8 (key)), .slice a_n nonce.length c_n, .int .i64 number, .slice a_t text.length c_t] 24 rfl kj kj ((Mix_B key nonce (text) _ _ _ _ number th tq _ r2_3 r1_3 hkl (RdK.ext hn x3) (RdK.ext ht x3) h h1)) fun W4 e4 => ?_
  have x4 : Ext w W4 := Ext.tr x3 e4
  refine seq_val (.tuple #[.slice none 0 0, .iface 74 (.int .i64 8)]) 15 rfl kj kj ?_
  refine seq_val (.slice none 0 0) 25 rfl kj kj ?_
  refine seq_val (.iface 74 (.int .i64 8)) 26 rfl kj kj ?_
  refine seq_val (.slice none 0 0) 5 rfl kj kj ?_
  refine seq_val (.iface 74 (.int .i64 8)) 6 rfl kj kj ?_
  refine seq_nil ?_
  refine hK9 _ _ ?_
  try clear hK9 K9
  refine wp_seq_k fun K10 hK10 => ?_
  refine wp_seq_k fun K11 hK11 => ?_
  refine region_lit ?_
  refine seq_val (.iface 74 (.int .i64 8)) 27 rfl kj kj ?_
  refine seq_val (.bool true) 28 rfl kj kj ?_
  refine seq_nil ?_
  refine hK11 _ _ ?_
  try clear hK11 K11
  refine cond_true kj ?_
  refine wp_seq_k fun K12 hK12 => ?_
  refine region_lit ?_
  refine seq_val (.slice none 0 0) 29 rfl kj kj ?_
  refine seq_val (.int .i64 0) 30 rfl kj kj ?_
  refine seq_val (.bool true) 31 rfl kj kj ?_
  refine seq_val (.bool true) 4 rfl kj kj ?_
  refine seq_nil ?_
  refine hK12 _ _ ?_
  try clear hK12 K12
  refine wp_ret ?_
  repeat (first | with_reducible refine goR1 ?_ | with_reducible refine goR2 ?_)
  exact (show bodyPost _ _ _ .ret _ _ from ret1 (.bool true) rfl (res_tmp kj) ⟨rfl, x4⟩)
set_option maxRecDepth 100000 in
set_option maxHeartbeats 4000000 in
theorem lawTwice_C (key nonce text : List Int) (a_n a_t : Option Addr) (c_n c_t : Nat) (number : Int) (th tq : TypeId) (w : World) (hh : w.heap[1]? = some (.cells (ints .u32 [1634760805, 857760878, 2036477234, 1797285236]) th)) (hq : w.heap[0]? = some (.cells (ints .i64 [0, 4, 8, 12, 1, 5, 9, 13, 2, 6, 10, 14, 3, 7, 11, 15, 0, 5, 10, 15, 1, 6, 11, 12, 2, 7, 8, 13, 3, 4, 9, 14]) tq)) (hkl : key.length = 32) (hkb : AreBytes key) (hnb : AreBytes nonce) (htb : AreBytes text) (hn : RdK .u8 w.heap.size nonce (.slice a_n nonce.length c_n) w) (ht : RdK .u8 w.heap.size text (.slice a_t text.length c_t) w) (cut : Int) (hs1 : nonce.length ≤ 1000) (hs2 : text.length ≤ 1000) (h : nonce.length = 12) (h1 : 0 ≤ number) (h2 : 4294967295 < number) : Calls Tryd.prog 5 #[.agg (cat [ints .u8 key, #[.slice a_n nonce.length c_n], #[.int .i64 number], #[.slice a_t text.length c_t]]), .int .i64 cut] w (Ret w (.bool true)) := by
  obtain ⟨k, ek⟩ : ∃ k : Nat, (k : Int) = (cut % 18446744073709551616) % ((text.length + 1 : Nat) : Int) := ⟨((cut % 18446744073709551616) % ((text.length + 1 : Nat) : Int)).toNat, Int.toNat_of_nonneg (Int.emod_nonneg _ (by omega))⟩
  have hk : k ≤ text.length := by have := Int.emod_lt_of_pos (cut % 18446744073709551616) (show (0 : Int) < ((text.length + 1 : Nat) : Int) by omega); omega
  have ctk : text.length ≤ c_t := by
    obtain ⟨_, _, e, q2, _⟩ := id ht
    simp only [Value.slice.injEq] at e
    obtain ⟨-, -, rfl⟩ := e
    exact q2
  refine enter 85 [(0, .agg (cat [ints .u8 (key), #[.slice a_n nonce.length c_n], #[.int .i64 number], #[.slice a_t text.length c_t]])), (1, .int .i64 cut)] Tryd.func5 rfl rfl kj rfl ?_
  refine wp_seq_k fun K3 hK3 => ?_
  refine region_lit ?_
  refine seq_alloc (cat [ints .u8 (key), #[.slice a_n nonce.length c_n], #[.int .i64 number], #[.slice a_t text.length c_t]]) 26 2 rfl kj kj fun g4 W1 l4 e1 r4_1 => ?_
  have x1 : Ext w W1 := Ext.tr (Rely.Ext.refl w) e1
  have b4 : w.heap.size ≤ g4 := Nat.le_trans (Rely.Ext.refl w).size l4
  refine seq_val (.bool false) 4 rfl kj kj ?_
  refine seq_nil ?_
  refine hK3 _ _ ?_
  try clear hK3 K3
  refine wp_seq_k fun K5 hK5 => ?_
  refine wp_seq_k fun K6 hK6 => ?_
  refine region_lit ?_
  refine seq_call (.bool true) 12 #[] 11 rfl kj kj ((alive03) _) fun W2 e2 => ?_
  have x2 : Ext w W2 := Ext.tr x1 e2
  refine seq_val (.bool false) 12 rfl kj kj ?_
  refine seq_nil ?_
  refine hK6 _ _ ?_
  try clear hK6 K6
  refine cond_false kj ?_
  refine wp_skip ?_
  refine hK5 _ _ ?_
  try clear hK5 K5
  refine wp_seq_k fun K7 hK7 => ?_
  refine wp_seq_k fun K8 hK8 => ?_
  refine region_lit ?_
  have r4_2 := (row_ext r4_1 e2)
  refine seq_val (.agg (cat [ints .u8 (key), #[.slice a_n nonce.length c_n], #[.int .i64 number], #[.slice a_t text.length c_t]])) 13 rfl kj (run_load_row 26 _ g4 26 _ _ r4_2 rfl kj kj (isz (n := 35) kj (by rw [cat_cons, cat_cons, cat_cons, cat_cons]; simp only [Array.size_append, cat, ((ints_size _ _).trans hkl)]; rfl))) ?_
  refine seq_call (.bool false) 13 #[.agg (cat [ints .u8 (key), #[.slice a_n nonce.length c_n], #[.int .i64 number], #[.slice a_t text.length c_t]])] 14 rfl kj kj ((large_C key nonce text a_n a_t c_n c_t number _ hkl hs1 hs2)) fun W3 e3 => ?_
  have x3 : Ext w W3 := Ext.tr x2 e3
  refine seq_nil ?_
  refine hK8 _ _ ?_
  try clear hK8 K8
  refine cond_false kj ?_
  refine wp_skip ?_
  refine hK7 _ _ ?_
  try clear hK7 K7
  refine wp_seq_k fun K9 hK9 => ?_
  refine region_lit ?_
  refine seq_val (.pointer (some ⟨g4, 0, none⟩)) 16 rfl kj kj ?_
  have r4_3 := (row_ext r4_2 e3)
  refine seq_val (.agg (ints .u8 (key))) 17 rfl kj (run_load_part 23 _ g4 0 26 _ _ _ r4_3 rfl kj (cat_part [] [ints .u8 (key)] [#[.slice a_n nonce.length c_n], #[.int .i64 number], #[.slice a_t text.length c_t]] 0 kj) kj (isz (n := 32) kj ((ints_size _ _).trans hkl))) ?_
  refine seq_val (.pointer (some ⟨g4, 32, none⟩)) 18 rfl kj kj ?_
  refine seq_val (.slice a_n nonce.length c_n) 19 rfl kj (run_loadC1 24 _ g4 32 26 _ (.slice a_n nonce.length c_n) _ r4_3 rfl kj (cat_part [ints .u8 (key)] [#[.slice a_n nonce.length c_n]] [#[.int .i64 number], #[.slice a_t text.length c_t]] 32 ((ints_size _ _).trans hkl) 0 _ rfl) kj) ?_
  refine seq_val (.pointer (some ⟨g4, 33, none⟩)) 20 rfl kj kj ?_
  refine seq_val (.int .i64 number) 21 rfl kj (run_loadC1 3 _ g4 33 26 _ (.int .i64 number) _ r4_3 rfl kj (cat_part [ints .u8 (key), #[.slice a_n nonce.length c_n]] [#[.int .i64 number]] [#[.slice a_t text.length c_t]] 33 (by rw [cat_cons, cat_cons]; simp only [Array.size_append, cat, ((ints_size _ _).trans hkl)]; rfl) 0 _ rfl) kj) ?_
  refine seq_val (.pointer (some ⟨g4, 34, none⟩)) 22 rfl kj kj ?_
  refine seq_val (.slice a_t text.length c_t) 23 rfl kj (run_loadC1 24 _ g4 34 26 _ (.slice a_t text.length c_t) _ r4_3 rfl kj (cat_part [ints .u8 (key), #[.slice a_n nonce.length c_n], #[.int .i64 number]] [#[.slice a_t text.length c_t]] [] 34 (by rw [cat_cons, cat_cons, cat_cons]; simp only [Array.size_append, cat, ((ints_size _ _).trans hkl)]; rfl) 0 _ rfl) kj) ?_
  have r2_1 := (row_ext hh e1)
  have r2_2 := (row_ext r2_1 e2)
  have r2_3 := (row_ext r2_2 e3)
  have r1_1 := (row_ext hq e1)
  have r1_2 := (row_ext r1_1 e2)
  have r1_3 := (row_ext r1_2 e3)
  refine seq_call (.tuple #[.slice none 0 0, .iface 74 (.int .i64 8)]) 19 #[.agg (ints .u8 (key)), .slice a_n nonce.length c_n, .int .i64 number, .slice a_t text.length c_t] 24 rfl kj kj ((Mix_C key nonce (text) _ _ _ _ number th tq _ r2_3 r1_3 hkl (RdK.ext hn x3) (RdK.ext ht x3) h h1 h2)) fun W4 e4 => ?_
  have x4 : Ext w W4 := Ext.tr x3 e4
  refine seq_val (.tuple #[.slice none 0 0, .iface 74 (.int .i64 8)]) 15 rfl kj kj ?_
  refine seq_val (.slice none 0 0) 25 rfl kj kj ?_
  refine seq_val (.iface 74 (.int .i64 8)) 26 rfl kj kj ?_
  refine seq_val (.slice none 0 0) 5 rfl kj kj ?_
  refine seq_val (.iface 74 (.int .i64 8)) 6 rfl kj kj ?_
  refine seq_nil ?_
  refine hK9 _ _ ?_
  try clear hK9 K9
  refine wp_seq_k fun K10 hK10 => ?_
  refine wp_seq_k fun K11 hK11 => ?_
  refine region_lit ?_
  refine seq_val (.iface 74 (.int .i64 8)) 27 rfl kj kj ?_
  refine seq_val (.bool true) 28 rfl kj kj ?_
  refine seq_nil ?_
  refine hK11 _ _ ?_
  try clear hK11 K11
  refine cond_true kj ?_
  refine wp_seq_k fun K12 hK12 => ?_
  refine region_lit ?_
  refine seq_val (.slice none 0 0) 29 rfl kj kj ?_
  refine seq_val (.int .i64 0) 30 rfl kj kj ?_
  refine seq_val (.bool true) 31 rfl kj kj ?_
  refine seq_val (.bool true) 4 rfl kj kj ?_
  refine seq_nil ?_
  refine hK12 _ _ ?_
  try clear hK12 K12
  refine wp_ret ?_
  repeat (first | with_reducible refine goR1 ?_ | with_reducible refine goR2 ?_)
  exact (show bodyPost _ _ _ .ret _ _ from ret1 (.bool true) rfl (res_tmp kj) ⟨rfl, x4⟩)
set_option maxRecDepth 100000 in
set_option maxHeartbeats 4000000 in
theorem lawTwice_E (key nonce text : List Int) (a_n a_t : Option Addr) (c_n c_t : Nat) (number : Int) (th tq : TypeId) (w : World) (hh : w.heap[1]? = some (.cells (ints .u32 [1634760805, 857760878, 2036477234, 1797285236]) th)) (hq : w.heap[0]? = some (.cells (ints .i64 [0, 4, 8, 12, 1, 5, 9, 13, 2, 6, 10, 14, 3, 7, 11, 15, 0, 5, 10, 15, 1, 6, 11, 12, 2, 7, 8, 13, 3, 4, 9, 14]) tq)) (hkl : key.length = 32) (hkb : AreBytes key) (hnb : AreBytes nonce) (htb : AreBytes text) (hn : RdK .u8 w.heap.size nonce (.slice a_n nonce.length c_n) w) (ht : RdK .u8 w.heap.size text (.slice a_t text.length c_t) w) (cut : Int) (hs1 : nonce.length ≤ 1000) (hs2 : text.length ≤ 1000) (h : nonce.length = 12) (r : Nat) (hr : number + (r : Int) = 4294967296) (h1 : 0 ≤ number) (h2 : number ≤ 4294967295) (hfit : 64 * r < text.length) : Calls Tryd.prog 5 #[.agg (cat [ints .u8 key, #[.slice a_n nonce.length c_n], #[.int .i64 number], #[.slice a_t text.length c_t]]), .int .i64 cut] w (Ret w (.bool true)) := by
  obtain ⟨k, ek⟩ : ∃ k : Nat, (k : Int) = (cut % 18446744073709551616) % ((text.length + 1 : Nat) : Int) := ⟨((cut % 18446744073709551616) % ((text.length + 1 : Nat) : Int)).toNat, Int.toNat_of_nonneg (Int.emod_nonneg _ (by omega))⟩
  have hk : k ≤ text.length := by have := Int.emod_lt_of_pos (cut % 18446744073709551616) (show (0 : Int) < ((text.length + 1 : Nat) : Int) by omega); omega
  have ctk : text.length ≤ c_t := by
    obtain ⟨_, _, e, q2, _⟩ := id ht
    simp only [Value.slice.injEq] at e
    obtain ⟨-, -, rfl⟩ := e
    exact q2
  refine enter 85 [(0, .agg (cat [ints .u8 (key), #[.slice a_n nonce.length c_n], #[.int .i64 number], #[.slice a_t text.length c_t]])), (1, .int .i64 cut)] Tryd.func5 rfl rfl kj rfl ?_
  refine wp_seq_k fun K3 hK3 => ?_
  refine region_lit ?_
  refine seq_alloc (cat [ints .u8 (key), #[.slice a_n nonce.length c_n], #[.int .i64 number], #[.slice a_t text.length c_t]]) 26 2 rfl kj kj fun g4 W1 l4 e1 r4_1 => ?_
  have x1 : Ext w W1 := Ext.tr (Rely.Ext.refl w) e1
  have b4 : w.heap.size ≤ g4 := Nat.le_trans (Rely.Ext.refl w).size l4
  refine seq_val (.bool false) 4 rfl kj kj ?_
  refine seq_nil ?_
  refine hK3 _ _ ?_
  try clear hK3 K3
  refine wp_seq_k fun K5 hK5 => ?_
  refine wp_seq_k fun K6 hK6 => ?_
  refine region_lit ?_
  refine seq_call (.bool true) 12 #[] 11 rfl kj kj ((alive03) _) fun W2 e2 => ?_
  have x2 : Ext w W2 := Ext.tr x1 e2
  refine seq_val (.bool false) 12 rfl kj kj ?_
  refine seq_nil ?_
  refine hK6 _ _ ?_
  try clear hK6 K6
  refine cond_false kj ?_
  refine wp_skip ?_
  refine hK5 _ _ ?_
  try clear hK5 K5
  refine wp_seq_k fun K7 hK7 => ?_
  refine wp_seq_k fun K8 hK8 => ?_
  refine region_lit ?_
  have r4_2 := (row_ext r4_1 e2)
  refine seq_val (.agg (cat [ints .u8 (key), #[.slice a_n nonce.length c_n], #[.int .i64 number], #[.slice a_t text.length c_t]])) 13 rfl kj (run_load_row 26 _ g4 26 _ _ r4_2 rfl kj kj (isz (n := 35) kj (by rw [cat_cons, cat_cons, cat_cons, cat_cons]; simp only [Array.size_append, cat, ((ints_size _ _).trans hkl)]; rfl))) ?_
  refine seq_call (.bool false) 13 #[.agg (cat [ints .u8 (key), #[.slice a_n nonce.length c_n], #[.int .i64 number], #[.slice a_t text.length c_t]])] 14 rfl kj kj ((large_C key nonce text a_n a_t c_n c_t number _ hkl hs1 hs2)) fun W3 e3 => ?_
  have x3 : Ext w W3 := Ext.tr x2 e3
  refine seq_nil ?_
  refine hK8 _ _ ?_
  try clear hK8 K8
  refine cond_false kj ?_
  refine wp_skip ?_
  refine hK7 _ _ ?_
  try clear hK7 K7
  refine wp_seq_k fun K9 hK9 => ?_
  refine region_lit ?_
  refine seq_val (.pointer (some ⟨g4, 0, none⟩)) 16 rfl kj kj ?_
  have r4_3 := (row_ext r4_2 e3)
  refine seq_val (.agg (ints .u8 (key))) 17 rfl kj (run_load_part 23 _ g4 0 26 _ _ _ r4_3 rfl kj (cat_part [] [ints .u8 (key)] [#[.slice a_n nonce.length c_n], #[.int .i64 number], #[.slice a_t text.length c_t]] 0 kj) kj (isz (n := 32) kj ((ints_size _ _).trans hkl))) ?_
  refine seq_val (.pointer (some ⟨g4, 32, none⟩)) 18 rfl kj kj ?_
  refine seq_val (.slice a_n nonce.length c_n) 19 rfl kj (run_loadC1 24 _ g4 32 26 _ (.slice a_n nonce.length c_n) _ r4_3 rfl kj (cat_part [ints .u8 (key)] [#[.slice a_n nonce.length c_n]] [#[.int .i64 number], #[.slice a_t text.length c_t]] 32 ((ints_size _ _).trans hkl) 0 _ rfl) kj) ?_
  refine seq_val (.pointer (some ⟨g4, 33, none⟩)) 20 rfl kj kj ?_
  refine seq_val (.int .i64 number) 21 rfl kj (run_loadC1 3 _ g4 33 26 _ (.int .i64 number) _ r4_3 rfl kj (cat_part [ints .u8 (key), #[.slice a_n nonce.length c_n]] [#[.int .i64 number]] [#[.slice a_t text.length c_t]] 33 (by rw [cat_cons, cat_cons]; simp only [Array.size_append, cat, ((ints_size _ _).trans hkl)]; rfl) 0 _ rfl) kj) ?_
  refine seq_val (.pointer (some ⟨g4, 34, none⟩)) 22 rfl kj kj ?_
  refine seq_val (.slice a_t text.length c_t) 23 rfl kj (run_loadC1 24 _ g4 34 26 _ (.slice a_t text.length c_t) _ r4_3 rfl kj (cat_part [ints .u8 (key), #[.slice a_n nonce.length c_n], #[.int .i64 number]] [#[.slice a_t text.length c_t]] [] 34 (by rw [cat_cons, cat_cons, cat_cons]; simp only [Array.size_append, cat, ((ints_size _ _).trans hkl)]; rfl) 0 _ rfl) kj) ?_
  have r2_1 := (row_ext hh e1)
  have r2_2 := (row_ext r2_1 e2)
  have r2_3 := (row_ext r2_2 e3)
  have r1_1 := (row_ext hq e1)
  have r1_2 := (row_ext r1_1 e2)
  have r1_3 := (row_ext r1_2 e3)
  refine seq_call (.tuple #[.slice none 0 0, .iface 74 (.int .i64 8)]) 19 #[.agg (ints .u8 (key)), .slice a_n nonce.length c_n, .int .i64 number, .slice a_t text.length c_t] 24 rfl kj kj ((Mix_E key nonce (text) _ _ _ _ number th tq _ r2_3 r1_3 hkl (RdK.ext hn x3) (RdK.ext ht x3) h r hr h1 h2 (by have := hfit; omega) (by omega))) fun W4 e4 => ?_
  have x4 : Ext w W4 := Ext.tr x3 e4
  refine seq_val (.tuple #[.slice none 0 0, .iface 74 (.int .i64 8)]) 15 rfl kj kj ?_
  refine seq_val (.slice none 0 0) 25 rfl kj kj ?_
  refine seq_val (.iface 74 (.int .i64 8)) 26 rfl kj kj ?_
  refine seq_val (.slice none 0 0) 5 rfl kj kj ?_
  refine seq_val (.iface 74 (.int .i64 8)) 6 rfl kj kj ?_
  refine seq_nil ?_
  refine hK9 _ _ ?_
  try clear hK9 K9
  refine wp_seq_k fun K10 hK10 => ?_
  refine wp_seq_k fun K11 hK11 => ?_
  refine region_lit ?_
  refine seq_val (.iface 74 (.int .i64 8)) 27 rfl kj kj ?_
  refine seq_val (.bool true) 28 rfl kj kj ?_
  refine seq_nil ?_
  refine hK11 _ _ ?_
  try clear hK11 K11
  refine cond_true kj ?_
  refine wp_seq_k fun K12 hK12 => ?_
  refine region_lit ?_
  refine seq_val (.slice none 0 0) 29 rfl kj kj ?_
  refine seq_val (.int .i64 0) 30 rfl kj kj ?_
  refine seq_val (.bool true) 31 rfl kj kj ?_
  refine seq_val (.bool true) 4 rfl kj kj ?_
  refine seq_nil ?_
  refine hK12 _ _ ?_
  try clear hK12 K12
  refine wp_ret ?_
  repeat (first | with_reducible refine goR1 ?_ | with_reducible refine goR2 ?_)
  exact (show bodyPost _ _ _ .ret _ _ from ret1 (.bool true) rfl (res_tmp kj) ⟨rfl, x4⟩)
set_option maxRecDepth 100000 in
set_option maxHeartbeats 4000000 in
theorem lawTwice_D (key nonce text : List Int) (a_n a_t : Option Addr) (c_n c_t : Nat) (number : Int) (th tq : TypeId) (w : World) (hh : w.heap[1]? = some (.cells (ints .u32 [1634760805, 857760878, 2036477234, 1797285236]) th)) (hq : w.heap[0]? = some (.cells (ints .i64 [0, 4, 8, 12, 1, 5, 9, 13, 2, 6, 10, 14, 3, 7, 11, 15, 0, 5, 10, 15, 1, 6, 11, 12, 2, 7, 8, 13, 3, 4, 9, 14]) tq)) (hkl : key.length = 32) (hkb : AreBytes key) (hnb : AreBytes nonce) (htb : AreBytes text) (hn : RdK .u8 w.heap.size nonce (.slice a_n nonce.length c_n) w) (ht : RdK .u8 w.heap.size text (.slice a_t text.length c_t) w) (cut : Int) (hs1 : nonce.length ≤ 1000) (hs2 : text.length ≤ 1000) (h : nonce.length = 12) (r : Nat) (hr : number + (r : Int) = 4294967296) (h1 : 0 ≤ number) (h2 : number ≤ 4294967295) (hfit : text.length ≤ 64 * r) : Calls Tryd.prog 5 #[.agg (cat [ints .u8 key, #[.slice a_n nonce.length c_n], #[.int .i64 number], #[.slice a_t text.length c_t]]), .int .i64 cut] w (Ret w (.bool true)) := by
  obtain ⟨k, ek⟩ : ∃ k : Nat, (k : Int) = (cut % 18446744073709551616) % ((text.length + 1 : Nat) : Int) := ⟨((cut % 18446744073709551616) % ((text.length + 1 : Nat) : Int)).toNat, Int.toNat_of_nonneg (Int.emod_nonneg _ (by omega))⟩
  have hk : k ≤ text.length := by have := Int.emod_lt_of_pos (cut % 18446744073709551616) (show (0 : Int) < ((text.length + 1 : Nat) : Int) by omega); omega
  have ctk : text.length ≤ c_t := by
    obtain ⟨_, _, e, q2, _⟩ := id ht
    simp only [Value.slice.injEq] at e
    obtain ⟨-, -, rfl⟩ := e
    exact q2
  obtain ⟨fm, em⟩ : ∃ z : List Int, mixV (startW key nonce) number text = z := ⟨_, rfl⟩
  have lfm : fm.length = text.length := by rw [← em, mixV_len]
  have emm : mixV (startW key nonce) number fm = text := by rw [← em]; exact mix_mix _ _ _ htb
  have emt : mixV (startW key nonce) number (text.take k) = fm.take k := by rw [mix_take _ _ _ _ hk, em]
  have hfb : AreBytes fm := by rw [← em]; exact mixV_bytes _ _ _
  have htkb : AreBytes (fm.take k) := fun n hn => hfb n (List.mem_of_mem_take hn)
  have hk2 : k ≤ fm.length := by omega
  refine enter 85 [(0, .agg (cat [ints .u8 (key), #[.slice a_n nonce.length c_n], #[.int .i64 number], #[.slice a_t text.length c_t]])), (1, .int .i64 cut)] Tryd.func5 rfl rfl kj rfl ?_
  refine wp_seq_k fun K3 hK3 => ?_
  refine region_lit ?_
  refine seq_alloc (cat [ints .u8 (key), #[.slice a_n nonce.length c_n], #[.int .i64 number], #[.slice a_t text.length c_t]]) 26 2 rfl kj kj fun g4 W1 l4 e1 r4_1 => ?_
  have x1 : Ext w W1 := Ext.tr (Rely.Ext.refl w) e1
  have b4 : w.heap.size ≤ g4 := Nat.le_trans (Rely.Ext.refl w).size l4
  refine seq_val (.bool false) 4 rfl kj kj ?_
  refine seq_nil ?_
  refine hK3 _ _ ?_
  try clear hK3 K3
  refine wp_seq_k fun K5 hK5 => ?_
  refine wp_seq_k fun K6 hK6 => ?_
  refine region_lit ?_
  refine seq_call (.bool true) 12 #[] 11 rfl kj kj ((alive03) _) fun W2 e2 => ?_
  have x2 : Ext w W2 := Ext.tr x1 e2
  refine seq_val (.bool false) 12 rfl kj kj ?_
  refine seq_nil ?_
  refine hK6 _ _ ?_
  try clear hK6 K6
  refine cond_false kj ?_
  refine wp_skip ?_
  refine hK5 _ _ ?_
  try clear hK5 K5
  refine wp_seq_k fun K7 hK7 => ?_
  refine wp_seq_k fun K8 hK8 => ?_
  refine region_lit ?_
  have r4_2 := (row_ext r4_1 e2)
  refine seq_val (.agg (cat [ints .u8 (key), #[.slice a_n nonce.length c_n], #[.int .i64 number], #[.slice a_t text.length c_t]])) 13 rfl kj (run_load_row 26 _ g4 26 _ _ r4_2 rfl kj kj (isz (n := 35) kj (by rw [cat_cons, cat_cons, cat_cons, cat_cons]; simp only [Array.size_append, cat, ((ints_size _ _).trans hkl)]; rfl))) ?_
  refine seq_call (.bool false) 13 #[.agg (cat [ints .u8 (key), #[.slice a_n nonce.length c_n], #[.int .i64 number], #[.slice a_t text.length c_t]])] 14 rfl kj kj ((large_C key nonce text a_n a_t c_n c_t number _ hkl hs1 hs2)) fun W3 e3 => ?_
  have x3 : Ext w W3 := Ext.tr x2 e3
  refine seq_nil ?_
  refine hK8 _ _ ?_
  try clear hK8 K8
  refine cond_false kj ?_
  refine wp_skip ?_
  refine hK7 _ _ ?_
  try clear hK7 K7
  refine wp_seq_k fun K9 hK9 => ?_
  refine region_lit ?_
  refine seq_val (.pointer (some ⟨g4, 0, none⟩)) 16 rfl kj kj ?_
  have r4_3 := (row_ext r4_2 e3)
  refine seq_val (.agg (ints .u8 (key))) 17 rfl kj (run_load_part 23 _ g4 0 26 _ _ _ r4_3 rfl kj (cat_part [] [ints .u8 (key)] [#[.slice a_n nonce.length c_n], #[.int .i64 number], #[.slice a_t text.length c_t]] 0 kj) kj (isz (n := 32) kj ((ints_size _ _).trans hkl))) ?_
  refine seq_val (.pointer (some ⟨g4, 32, none⟩)) 18 rfl kj kj ?_
  refine seq_val (.slice a_n nonce.length c_n) 19 rfl kj (run_loadC1 24 _ g4 32 26 _ (.slice a_n nonce.length c_n) _ r4_3 rfl kj (cat_part [ints .u8 (key)] [#[.slice a_n nonce.length c_n]] [#[.int .i64 number], #[.slice a_t text.length c_t]] 32 ((ints_size _ _).trans hkl) 0 _ rfl) kj) ?_
  refine seq_val (.pointer (some ⟨g4, 33, none⟩)) 20 rfl kj kj ?_
  refine seq_val (.int .i64 number) 21 rfl kj (run_loadC1 3 _ g4 33 26 _ (.int .i64 number) _ r4_3 rfl kj (cat_part [ints .u8 (key), #[.slice a_n nonce.length c_n]] [#[.int .i64 number]] [#[.slice a_t text.length c_t]] 33 (by rw [cat_cons, cat_cons]; simp only [Array.size_append, cat, ((ints_size _ _).trans hkl)]; rfl) 0 _ rfl) kj) ?_
  refine seq_val (.pointer (some ⟨g4, 34, none⟩)) 22 rfl kj kj ?_
  refine seq_val (.slice a_t text.length c_t) 23 rfl kj (run_loadC1 24 _ g4 34 26 _ (.slice a_t text.length c_t) _ r4_3 rfl kj (cat_part [ints .u8 (key), #[.slice a_n nonce.length c_n], #[.int .i64 number]] [#[.slice a_t text.length c_t]] [] 34 (by rw [cat_cons, cat_cons, cat_cons]; simp only [Array.size_append, cat, ((ints_size _ _).trans hkl)]; rfl) 0 _ rfl) kj) ?_
  have r2_1 := (row_ext hh e1)
  have r2_2 := (row_ext r2_1 e2)
  have r2_3 := (row_ext r2_2 e3)
  have r1_1 := (row_ext hq e1)
  have r1_2 := (row_ext r1_1 e2)
  have r1_3 := (row_ext r1_2 e3)
  refine seq_callR (fun v W' => (MixR W3.heap.size (fm)) v W' ∧ Ext W3 W') 19 #[.agg (ints .u8 (key)), .slice a_n nonce.length c_n, .int .i64 number, .slice a_t text.length c_t] 24 rfl kj kj (((em ▸ MixG W3.heap.size key nonce (text) _ _ _ _ number th tq _ r2_3 r1_3 hkl (RdK.ext hn x3) (RdK.ext ht x3) h r hr h1 h2 hfit (by omega) (Nat.le_refl _))).mono (by rintro e w' ⟨v, rfl, e1, hv⟩; exact ⟨v, rfl, hv, e1⟩)) fun vv10 W4 hh10 => ?_
  obtain ⟨hv10, e4⟩ := hh10
  have x4 : Ext w W4 := Ext.tr x3 e4
  obtain ⟨u11_, rfl, hu11_⟩ := hv10
  obtain ⟨a12_, c12_, rfl, -⟩ := id (OwnN.rd hu11_)
  refine seq_val (.tuple #[.slice a12_ ((fm).length) c12_, .nilIface]) 15 rfl kj kj ?_
  refine seq_val (.slice a12_ ((fm).length) c12_) 25 rfl kj kj ?_
  refine seq_val (.nilIface) 26 rfl kj kj ?_
  refine seq_val (.slice a12_ ((fm).length) c12_) 5 rfl kj kj ?_
  have cmk : fm.length ≤ c12_ := by
    obtain ⟨_, _, e, q2, _⟩ := OwnN.rd hu11_
    simp only [Value.slice.injEq] at e
    obtain ⟨-, -, rfl⟩ := e
    exact q2
  refine seq_val (.nilIface) 6 rfl kj kj ?_
  refine seq_nil ?_
  refine hK9 _ _ ?_
  try clear hK9 K9
  refine wp_seq_k fun K13 hK13 => ?_
  refine wp_seq_k fun K14 hK14 => ?_
  refine region_lit ?_
  refine seq_val (.nilIface) 27 rfl kj kj ?_
  refine seq_val (.bool false) 28 rfl kj kj ?_
  refine seq_nil ?_
  refine hK14 _ _ ?_
  try clear hK14 K14
  refine cond_false kj ?_
  refine wp_skip ?_
  refine hK13 _ _ ?_
  try clear hK13 K13
  refine wp_seq_k fun K15 hK15 => ?_
  refine region_lit ?_
  refine seq_val (.pointer (some ⟨g4, 0, none⟩)) 33 rfl kj kj ?_
  have r4_4 := (row_ext r4_3 e4)
  refine seq_val (.agg (ints .u8 (key))) 34 rfl kj (run_load_part 23 _ g4 0 26 _ _ _ r4_4 rfl kj (cat_part [] [ints .u8 (key)] [#[.slice a_n nonce.length c_n], #[.int .i64 number], #[.slice a_t text.length c_t]] 0 kj) kj (isz (n := 32) kj ((ints_size _ _).trans hkl))) ?_
  refine seq_val (.pointer (some ⟨g4, 32, none⟩)) 35 rfl kj kj ?_
  refine seq_val (.slice a_n nonce.length c_n) 36 rfl kj (run_loadC1 24 _ g4 32 26 _ (.slice a_n nonce.length c_n) _ r4_4 rfl kj (cat_part [ints .u8 (key)] [#[.slice a_n nonce.length c_n]] [#[.int .i64 number], #[.slice a_t text.length c_t]] 32 ((ints_size _ _).trans hkl) 0 _ rfl) kj) ?_
  refine seq_val (.pointer (some ⟨g4, 33, none⟩)) 37 rfl kj kj ?_
  refine seq_val (.int .i64 number) 38 rfl kj (run_loadC1 3 _ g4 33 26 _ (.int .i64 number) _ r4_4 rfl kj (cat_part [ints .u8 (key), #[.slice a_n nonce.length c_n]] [#[.int .i64 number]] [#[.slice a_t text.length c_t]] 33 (by rw [cat_cons, cat_cons]; simp only [Array.size_append, cat, ((ints_size _ _).trans hkl)]; rfl) 0 _ rfl) kj) ?_
  refine seq_val (.slice a12_ ((fm).length) c12_) 39 rfl kj kj ?_
  have r2_4 := (row_ext r2_3 e4)
  have r1_4 := (row_ext r1_3 e4)
  refine seq_callR (fun v W' => (MixR W4.heap.size (text)) v W' ∧ Ext W4 W') 19 #[.agg (ints .u8 (key)), .slice a_n nonce.length c_n, .int .i64 number, .slice a12_ ((fm).length) c12_] 40 rfl kj kj (((emm ▸ MixG W4.heap.size key nonce (fm) _ _ _ _ number th tq _ r2_4 r1_4 hkl (RdK.ext hn x4) (OwnN.rd hu11_) h r hr h1 h2 (by rw [lfm]; exact hfit) (by rw [lfm]; omega) (Nat.le_refl _))).mono (by rintro e w' ⟨v, rfl, e1, hv⟩; exact ⟨v, rfl, hv, e1⟩)) fun vv16 W5 hh16 => ?_
  obtain ⟨hv16, e5⟩ := hh16
  have x5 : Ext w W5 := Ext.tr x4 e5
  obtain ⟨u17_, rfl, hu17_⟩ := hv16
  obtain ⟨a18_, c18_, rfl, -⟩ := id (OwnN.rd hu17_)
  refine seq_val (.tuple #[.slice a18_ ((text).length) c18_, .nilIface]) 32 rfl kj kj ?_
  refine seq_val (.slice a18_ ((text).length) c18_) 41 rfl kj kj ?_
  refine seq_val (.nilIface) 42 rfl kj kj ?_
  refine seq_val (.slice a18_ ((text).length) c18_) 7 rfl kj kj ?_
  refine seq_val (.nilIface) 6 rfl kj kj ?_
  refine seq_nil ?_
  refine hK15 _ _ ?_
  try clear hK15 K15
  refine wp_seq_k fun K19 hK19 => ?_
  refine region_lit ?_
  refine seq_val (.int .i64 cut) 43 rfl kj kj ?_
  refine seq_val (.int .u64 (cut % 18446744073709551616)) 44 rfl kj (run_eq (u := .int .u64 (IntKind.u64.wrap (cut))) kj (congrArg (Value.int .u64) rfl)) ?_
  refine seq_val (.pointer (some ⟨g4, 34, none⟩)) 45 rfl kj kj ?_
  have r4_5 := (row_ext r4_4 e5)
  refine seq_val (.slice a_t text.length c_t) 46 rfl kj (run_loadC1 24 _ g4 34 26 _ (.slice a_t text.length c_t) _ r4_5 rfl kj (cat_part [ints .u8 (key), #[.slice a_n nonce.length c_n], #[.int .i64 number]] [#[.slice a_t text.length c_t]] [] 34 (by rw [cat_cons, cat_cons, cat_cons]; simp only [Array.size_append, cat, ((ints_size _ _).trans hkl)]; rfl) 0 _ rfl) kj) ?_
  refine seq_val (.int .i64 ((text.length : Nat) : Int)) 47 rfl kj kj ?_
  refine seq_val (.int .i64 ((text.length + 1 : Nat) : Int)) 48 rfl kj (run_eq (u := .int .i64 (IntKind.i64.wrap (((text.length : Nat) : Int) + 1))) kj (congrArg (Value.int .i64) (i64n _ _ (by omega) (by omega)))) ?_
  refine seq_val (.int .u64 (((text.length + 1 : Nat) : Int))) 49 rfl kj (run_eq (u := .int .u64 (IntKind.u64.wrap ((text.length + 1 : Nat) : Int))) kj (congrArg (Value.int .u64) (u64n _ (by omega)))) ?_
  refine seq_val (.int .u64 ((k : Nat) : Int)) 50 rfl kj (run_bin .rem _ _ _ _ .u64 .u64 _ _ _ rfl kj kj (b_remS _ _ (cut % 18446744073709551616) ((text.length + 1 : Nat) : Int) ((k : Nat) : Int) (by omega) (by rw [Int.tmod_eq_emod_of_nonneg (by omega), ← ek]))) ?_
  refine seq_val (.int .i64 (((k : Nat) : Int))) 51 rfl kj (run_eq (u := .int .i64 (IntKind.i64.wrap ((k : Nat) : Int))) kj (congrArg (Value.int .i64) (IntWalk.i64_in _ (by omega)))) ?_
  refine seq_val (.int .i64 (((k : Nat) : Int))) 8 rfl kj kj ?_
  refine seq_nil ?_
  refine hK19 _ _ ?_
  try clear hK19 K19
  refine wp_seq_k fun K20 hK20 => ?_
  refine any_regionE 15 [⟨none, [(2, none)]⟩, ⟨none, [(53, some 0)]⟩, ⟨none, [(2, none)]⟩, ⟨none, [(55, some 2)]⟩, ⟨none, [(2, none)]⟩, ⟨none, [(57, some 4)]⟩, ⟨none, [(2, none)]⟩, ⟨none, [(59, some 6)]⟩, ⟨none, [(8, none)]⟩, ⟨none, [(60, some 7), (61, some 8)]⟩, ⟨none, [(54, some 1), (56, some 3), (58, some 5), (62, some 9)]⟩, ⟨none, [(63, some 10)]⟩, ⟨none, [(52, some 11)]⟩, ⟨none, [(52, some 11)]⟩, ⟨none, [(64, some 12)]⟩] kj kj fun F hF => ?_
  refine e_val (rl_ext _) (.pointer (some ⟨g4, 0, none⟩)) kj kj (fun W => by kernel_rfl) ?_
  refine e_read (rl_ext _) (.agg (ints .u8 (key))) kj kj (fun W hR => (run_load_part 23 _ g4 0 26 _ _ _ (row_ext (row_ext r4_5 (ext_drew _)) hR) rfl kj (cat_part [] [ints .u8 (key)] [#[.slice a_n nonce.length c_n], #[.int .i64 number], #[.slice a_t text.length c_t]] 0 kj) kj (isz (n := 32) kj ((ints_size _ _).trans hkl)))) ?_
  refine e_val (rl_ext _) (.pointer (some ⟨g4, 32, none⟩)) kj kj (fun W => by kernel_rfl) ?_
  refine e_read (rl_ext _) (.slice a_n nonce.length c_n) kj kj (fun W hR => (run_loadC1 24 _ g4 32 26 _ (.slice a_n nonce.length c_n) _ (row_ext (row_ext r4_5 (ext_drew _)) hR) rfl kj (cat_part [ints .u8 (key)] [#[.slice a_n nonce.length c_n]] [#[.int .i64 number], #[.slice a_t text.length c_t]] 32 ((ints_size _ _).trans hkl) 0 _ rfl) kj)) ?_
  refine e_val (rl_ext _) (.pointer (some ⟨g4, 33, none⟩)) kj kj (fun W => by kernel_rfl) ?_
  refine e_read (rl_ext _) (.int .i64 number) kj kj (fun W hR => (run_loadC1 3 _ g4 33 26 _ (.int .i64 number) _ (row_ext (row_ext r4_5 (ext_drew _)) hR) rfl kj (cat_part [ints .u8 (key), #[.slice a_n nonce.length c_n]] [#[.int .i64 number]] [#[.slice a_t text.length c_t]] 33 (by rw [cat_cons, cat_cons]; simp only [Array.size_append, cat, ((ints_size _ _).trans hkl)]; rfl) 0 _ rfl) kj)) ?_
  refine e_val (rl_ext _) (.pointer (some ⟨g4, 34, none⟩)) kj kj (fun W => by kernel_rfl) ?_
  refine e_read (rl_ext _) (.slice a_t text.length c_t) kj kj (fun W hR => (run_loadC1 24 _ g4 34 26 _ (.slice a_t text.length c_t) _ (row_ext (row_ext r4_5 (ext_drew _)) hR) rfl kj (cat_part [ints .u8 (key), #[.slice a_n nonce.length c_n], #[.int .i64 number]] [#[.slice a_t text.length c_t]] [] 34 (by rw [cat_cons, cat_cons, cat_cons]; simp only [Array.size_append, cat, ((ints_size _ _).trans hkl)]; rfl) 0 _ rfl) kj)) ?_
  refine e_val (rl_ext _) (.int .i64 (((k : Nat) : Int))) kj kj (fun W => by kernel_rfl) ?_
  refine e_val (rl_ext _) (.slice a_t k c_t) kj kj (fun W => (run_sliceH (len := text.length) 24 _ _ (k) 5 rfl kj kj kj .i64 kj (Nat.le_trans hk ctk))) ?_
  have r2_5 := (row_ext r2_4 e5)
  have r1_5 := (row_ext r1_4 e5)
  refine e_callG (rl_ext _) (MixR W5.heap.size (fm.take k)) (mixR_stable _ _) 19 #[.agg (ints .u8 (key)), .slice a_n nonce.length c_n, .int .i64 number, .slice a_t k c_t] kj kj (fun W => by kernel_rfl) (fun W hR => (emt ▸ MixG W5.heap.size key nonce (text.take k) _ _ _ _ number th tq W (row_ext (row_ext r2_5 (ext_drew _)) hR) (row_ext (row_ext r1_5 (ext_drew _)) hR) hkl (RdK.ext (RdK.ext hn x5) (Rely.Ext.trans (ext_drew _) hR)) (RdK.ext (rdK_take (RdK.ext ht x5) k hk) (Rely.Ext.trans (ext_drew _) hR)) h r hr h1 h2 (by rw [List.length_take]; omega) (by rw [List.length_take]; omega) (Rely.Ext.trans (ext_drew _) hR).size)) ?_
  refine e_runX (rl_ext _) (MixR W5.heap.size (fm.take k)) (mixR_stable _ _) (fun ρ W hR hh => ⟨ρ 63, W, by kernel_rfl, Rely.Ext.refl _, (show (MixR W5.heap.size (fm.take k)) (ρ 63) W from hh.1)⟩) ?_
  refine e_runX (rl_ext _) (OwnN .u8 5 W5.heap.size (fm.take k)) (OwnN.stable _ _ _ _) (fun ρ W hR hh => ?_) ?_
  · obtain ⟨u, e, h⟩ := (show (MixR W5.heap.size (fm.take k)) (ρ 52) W from hh.1)
    exact ⟨_, W, run_extractT (.tmp 52) 0 #[u, .nilIface] _ rfl e rfl, Rely.Ext.refl _, h⟩
  refine e_runX (rl_ext _) (fun v W => v = .nilIface) (fun _ _ _ _ h => h) (fun ρ W hR hh => ?_) ?_
  · obtain ⟨u, e, h⟩ := (show (MixR W5.heap.size (fm.take k)) (ρ 52) W from hh.1)
    exact ⟨_, W, run_extractT (.tmp 52) 1 #[u, .nilIface] _ rfl e rfl, Rely.Ext.refl _, rfl⟩
  refine e_runX (rl_ext _) (OwnN .u8 5 W5.heap.size (fm.take k)) (OwnN.stable _ _ _ _) (fun ρ W hR hh => ⟨ρ 64, W, by kernel_rfl, Rely.Ext.refl _, (show (OwnN .u8 5 W5.heap.size (fm.take k)) (ρ 64) W from hh.1)⟩) ?_
  refine e_nil (hF _ fun W6 e6 => ?_)
  simp only [List.nil_append, List.cons_append, List.take_succ_cons, List.take_zero, List.drop_succ_cons, List.drop_zero, finE, up]
  intro vv21 hv21 vv22 hv22 vv23 hv23 vv24 hv24 vv25 hv25
  clear hF
  have x6 : Ext w W6 := Ext.tr x5 e6
  obtain ⟨a26_, c26_, rfl, -⟩ := id (OwnN.rd hv23)
  subst hv24
  obtain ⟨a27_, c27_, rfl, -⟩ := id (OwnN.rd hv25)
  refine seq_val (.nilIface) 10 rfl kj kj ?_
  refine seq_nil ?_
  refine hK20 _ _ ?_
  try clear hK20 K20
  refine wp_seq_k fun K28 hK28 => ?_
  refine region_lit ?_
  refine seq_val (.nilIface) 66 rfl kj kj ?_
  refine seq_val (.bool true) 67 rfl kj kj ?_
  refine seq_val (.bool true) 68 rfl kj kj ?_
  refine seq_val (.nilIface) 69 rfl kj kj ?_
  refine seq_val (.bool true) 70 rfl kj kj ?_
  refine seq_val (.bool true) 71 rfl kj kj ?_
  refine seq_val (.bool true) 72 rfl kj kj ?_
  refine seq_val (.slice a18_ ((text).length) c18_) 73 rfl kj kj ?_
  refine seq_val (.pointer (some ⟨g4, 34, none⟩)) 74 rfl kj kj ?_
  have r4_6 := (row_ext r4_5 e6)
  refine seq_val (.slice a_t text.length c_t) 75 rfl kj (run_loadC1 24 _ g4 34 26 _ (.slice a_t text.length c_t) _ r4_6 rfl kj (cat_part [ints .u8 (key), #[.slice a_n nonce.length c_n], #[.int .i64 number]] [#[.slice a_t text.length c_t]] [] 34 (by rw [cat_cons, cat_cons, cat_cons]; simp only [Array.size_append, cat, ((ints_size _ _).trans hkl)]; rfl) 0 _ rfl) kj) ?_
  have f29_6 := (hu17_.ext e6)
  refine seq_call (.bool true) 21 #[.slice a18_ ((text).length) c18_, .slice a_t text.length c_t] 76 rfl kj kj ((sameT _ _ _ _ _ rfl (RdK.bytes (OwnN.rd f29_6) htb) (RdK.bytes (RdK.ext ht x6) htb))) fun W7 e7 => ?_
  have x7 : Ext w W7 := Ext.tr x6 e7
  refine seq_val (.bool true) 77 rfl kj kj ?_
  refine seq_val (.bool true) 78 rfl kj kj ?_
  refine seq_val (.slice a27_ ((fm.take k).length) c27_) 79 rfl kj kj ?_
  refine seq_val (.slice a12_ ((fm).length) c12_) 80 rfl kj kj ?_
  refine seq_val (.int .i64 (((k : Nat) : Int))) 81 rfl kj kj ?_
  refine seq_val (.slice a12_ k c12_) 82 rfl kj (run_sliceH (len := (fm).length) 24 _ _ (k) 5 rfl kj kj kj .i64 kj (Nat.le_trans hk2 cmk)) ?_
  have f30_7 := (hv25.ext e7)
  have f31_5 := (hu11_.ext e5)
  have f32_6 := (f31_5.ext e6)
  have f33_7 := (f32_6.ext e7)
  refine seq_call (.bool true) 21 #[.slice a27_ ((fm.take k).length) c27_, .slice a12_ k c12_] 83 rfl kj kj ((sameT _ _ _ _ _ rfl (RdK.bytes (OwnN.rd f30_7) htkb) (RdK.bytes (rdK_take (OwnN.rd f33_7) k hk2) htkb))) fun W8 e8 => ?_
  have x8 : Ext w W8 := Ext.tr x7 e8
  refine seq_val (.bool true) 84 rfl kj kj ?_
  refine seq_val (.bool true) 4 rfl kj kj ?_
  refine seq_nil ?_
  refine hK28 _ _ ?_
  try clear hK28 K28
  refine wp_ret ?_
  repeat (first | with_reducible refine goR1 ?_ | with_reducible refine goR2 ?_)
  exact (show bodyPost _ _ _ .ret _ _ from ret1 (.bool true) rfl (res_tmp kj) ⟨rfl, x8⟩)
theorem lawTwice (key nonce text : List Int) (a_n a_t : Option Addr) (c_n c_t : Nat) (number : Int) (th tq : TypeId) (w : World) (hh : w.heap[1]? = some (.cells (ints .u32 [1634760805, 857760878, 2036477234, 1797285236]) th)) (hq : w.heap[0]? = some (.cells (ints .i64 [0, 4, 8, 12, 1, 5, 9, 13, 2, 6, 10, 14, 3, 7, 11, 15, 0, 5, 10, 15, 1, 6, 11, 12, 2, 7, 8, 13, 3, 4, 9, 14]) tq)) (hkl : key.length = 32) (hkb : AreBytes key) (hnb : AreBytes nonce) (htb : AreBytes text) (hn : RdK .u8 w.heap.size nonce (.slice a_n nonce.length c_n) w) (ht : RdK .u8 w.heap.size text (.slice a_t text.length c_t) w) (cut : Int) : Calls Tryd.prog 5 #[.agg (cat [ints .u8 key, #[.slice a_n nonce.length c_n], #[.int .i64 number], #[.slice a_t text.length c_t]]), .int .i64 cut] w (Ret w (.bool true)) := by
  rcases Nat.lt_or_ge 1000 nonce.length with h | hs1
  · exact lawTwice_L key nonce text a_n a_t c_n c_t number th tq w hh hq hkl hkb hnb htb hn ht cut h
  rcases Nat.lt_or_ge 1000 text.length with h | hs2
  · exact lawTwice_M key nonce text a_n a_t c_n c_t number th tq w hh hq hkl hkb hnb htb hn ht cut hs1 h
  by_cases h : nonce.length = 12
  · rcases Int.lt_or_le number 0 with h1 | h1
    · exact lawTwice_B key nonce text a_n a_t c_n c_t number th tq w hh hq hkl hkb hnb htb hn ht cut hs1 hs2 h h1
    rcases Int.lt_or_le 4294967295 number with h2 | h2
    · exact lawTwice_C key nonce text a_n a_t c_n c_t number th tq w hh hq hkl hkb hnb htb hn ht cut hs1 hs2 h h1 h2
    obtain ⟨r, hr⟩ : ∃ r : Nat, number + (r : Int) = 4294967296 := ⟨(4294967296 - number).toNat, by omega⟩
    rcases Nat.lt_or_ge (64 * r) text.length with hf | hf
    · exact lawTwice_E key nonce text a_n a_t c_n c_t number th tq w hh hq hkl hkb hnb htb hn ht cut hs1 hs2 h r hr h1 h2 hf
    · exact lawTwice_D key nonce text a_n a_t c_n c_t number th tq w hh hq hkl hkb hnb htb hn ht cut hs1 hs2 h r hr h1 h2 hf
  · exact lawTwice_A key nonce text a_n a_t c_n c_t number th tq w hh hq hkl hkb hnb htb hn ht cut hs1 hs2 h
theorem lawTwiceF (key nonce text : List Int) (a_n a_t : Option Addr) (ln c_n lt c_t : Nat) (number : Int) (th tq : TypeId) (w : World) (hh : w.heap[1]? = some (.cells (ints .u32 [1634760805, 857760878, 2036477234, 1797285236]) th)) (hq : w.heap[0]? = some (.cells (ints .i64 [0, 4, 8, 12, 1, 5, 9, 13, 2, 6, 10, 14, 3, 7, 11, 15, 0, 5, 10, 15, 1, 6, 11, 12, 2, 7, 8, 13, 3, 4, 9, 14]) tq)) (hkl : key.length = 32) (hkb : AreBytes key) (hnb : AreBytes nonce) (htb : AreBytes text) (hn : RdK .u8 w.heap.size nonce (.slice a_n ln c_n) w) (ht : RdK .u8 w.heap.size text (.slice a_t lt c_t) w) (eln : nonce.length = ln) (elt : text.length = lt) (cut : Int) : Calls Tryd.prog 5 #[.agg ((key.map (Value.int .u8) ++ [Value.slice a_n ln c_n] ++ [Value.int .i64 number] ++ [Value.slice a_t lt c_t]).toArray), .int .i64 cut] w (Ret w (.bool true)) := by
  subst eln elt
  rw [cat_st]
  exact lawTwice key nonce text a_n a_t c_n c_t number th tq w hh hq hkl hkb hnb htb hn ht cut

end Go.Proofs.YticjghmgbmjkiaaDoor.Cha
