/- The law ChachaJoins. -/
import Derived.Test.YticjghmgbmjkiaaDoorChX
namespace Go.Proofs.YticjghmgbmjkiaaDoor.Cha
open Go Go.RowKit
open Go.Proofs.YticjghmgbmjkiaaDoor.Rely Go.Proofs.YticjghmgbmjkiaaDoor.Auto Go.Proofs.YticjghmgbmjkiaaDoor.Own Go.Proofs.YticjghmgbmjkiaaDoor.Sha
set_option linter.unusedVariables false
set_option linter.unusedSimpArgs false

open Go.Proofs.YticjghmgbmjkiaaDoor.Sha
set_option maxRecDepth 100000 in
set_option maxHeartbeats 4000000 in
theorem lawJoins_L (key nonce text : List Int) (a_n a_t : Option Addr) (c_n c_t : Nat) (number : Int) (th tq : TypeId) (w : World) (hh : w.heap[1]? = some (.cells (ints .u32 [1634760805, 857760878, 2036477234, 1797285236]) th)) (hq : w.heap[0]? = some (.cells (ints .i64 [0, 4, 8, 12, 1, 5, 9, 13, 2, 6, 10, 14, 3, 7, 11, 15, 0, 5, 10, 15, 1, 6, 11, 12, 2, 7, 8, 13, 3, 4, 9, 14]) tq)) (hkl : key.length = 32) (hkb : AreBytes key) (hnb : AreBytes nonce) (htb : AreBytes text) (hn : RdK .u8 w.heap.size nonce (.slice a_n nonce.length c_n) w) (ht : RdK .u8 w.heap.size text (.slice a_t text.length c_t) w) (cut : Int) (hlg : 1000 < nonce.length) : Calls Tryd.prog 6 #[.agg (cat [ints .u8 key, #[.slice a_n nonce.length c_n], #[.int .i64 number], #[.slice a_t text.length c_t]]), .int .i64 cut] w (Ret w (.bool true)) := by
  obtain ⟨q, ek⟩ : ∃ q : Nat, (q : Int) = (cut % 18446744073709551616) % ((text.length / 64 + 1 : Nat) : Int) := ⟨((cut % 18446744073709551616) % ((text.length / 64 + 1 : Nat) : Int)).toNat, Int.toNat_of_nonneg (Int.emod_nonneg _ (by omega))⟩
  have hk0 : q ≤ text.length / 64 := by have := Int.emod_lt_of_pos (cut % 18446744073709551616) (show (0 : Int) < ((text.length / 64 + 1 : Nat) : Int) by omega); omega
  have hk : 64 * q ≤ text.length := by omega
  have ctk : text.length ≤ c_t := by
    obtain ⟨_, _, e, q2, _⟩ := id ht
    simp only [Value.slice.injEq] at e
    obtain ⟨-, -, rfl⟩ := e
    exact q2
  refine enter 106 [(0, .agg (cat [ints .u8 (key), #[.slice a_n nonce.length c_n], #[.int .i64 number], #[.slice a_t text.length c_t]])), (1, .int .i64 cut)] Tryd.func6 rfl rfl kj rfl ?_
  refine wp_seq_k fun K3 hK3 => ?_
  refine region_lit ?_
  refine seq_alloc (cat [ints .u8 (key), #[.slice a_n nonce.length c_n], #[.int .i64 number], #[.slice a_t text.length c_t]]) 26 2 rfl kj kj fun g4 W1 l4 e1 r4_1 => ?_
  have x1 : Ext w W1 := Ext.tr (Rely.Ext.refl w) e1
  have b4 : w.heap.size ≤ g4 := Nat.le_trans (Rely.Ext.refl w).size l4
  refine seq_val (.bool false) 4 rfl kj kj ?_
  refine seq_nil ?_
  refine hK3 _ _ ?_
  try clear hK3 K3
  refine wp_seq_k fun K5 hK5 => ?_
  refine wp_seq_k fun K6 hK6 => ?_
  refine region_lit ?_
  refine seq_call (.bool true) 12 #[] 12 rfl kj kj ((alive03) _) fun W2 e2 => ?_
  have x2 : Ext w W2 := Ext.tr x1 e2
  refine seq_val (.bool false) 13 rfl kj kj ?_
  refine seq_nil ?_
  refine hK6 _ _ ?_
  try clear hK6 K6
  refine cond_false kj ?_
  refine wp_skip ?_
  refine hK5 _ _ ?_
  try clear hK5 K5
  refine wp_seq_k fun K7 hK7 => ?_
  refine wp_seq_k fun K8 hK8 => ?_
  refine region_lit ?_
  have r4_2 := (row_ext r4_1 e2)
  refine seq_val (.agg (cat [ints .u8 (key), #[.slice a_n nonce.length c_n], #[.int .i64 number], #[.slice a_t text.length c_t]])) 14 rfl kj (run_load_row 26 _ g4 26 _ _ r4_2 rfl kj kj (isz (n := 35) kj (by rw [cat_cons, cat_cons, cat_cons, cat_cons]; simp only [Array.size_append, cat, ((ints_size _ _).trans hkl)]; rfl))) ?_
  refine seq_call (.bool true) 13 #[.agg (cat [ints .u8 (key), #[.slice a_n nonce.length c_n], #[.int .i64 number], #[.slice a_t text.length c_t]])] 15 rfl kj kj ((large_A key nonce text a_n a_t c_n c_t number _ hkl hlg)) fun W3 e3 => ?_
  have x3 : Ext w W3 := Ext.tr x2 e3
  refine seq_val (.bool true) 16 rfl kj kj ?_
  refine seq_skip 17 rfl kj ?_
  refine seq_skip 18 rfl kj ?_
  refine seq_skip 19 rfl kj ?_
  refine seq_val (.bool true) 20 rfl kj kj ?_
  refine seq_val (.bool true) 21 rfl kj kj ?_
  refine seq_skip 22 rfl kj ?_
  refine seq_skip 23 rfl kj ?_
  refine seq_skip 24 rfl kj ?_
  refine seq_val (.bool true) 25 rfl kj kj ?_
  refine seq_nil ?_
  refine hK8 _ _ ?_
  try clear hK8 K8
  refine cond_true kj ?_
  refine wp_seq_k fun K9 hK9 => ?_
  refine region_lit ?_
  refine seq_val (.bool true) 4 rfl kj kj ?_
  refine seq_nil ?_
  refine hK9 _ _ ?_
  try clear hK9 K9
  refine wp_ret ?_
  repeat (first | with_reducible refine goR1 ?_ | with_reducible refine goR2 ?_)
  exact (show bodyPost _ _ _ .ret _ _ from ret1 (.bool true) rfl (res_tmp kj) ⟨rfl, x3⟩)
set_option maxRecDepth 100000 in
set_option maxHeartbeats 4000000 in
theorem lawJoins_M (key nonce text : List Int) (a_n a_t : Option Addr) (c_n c_t : Nat) (number : Int) (th tq : TypeId) (w : World) (hh : w.heap[1]? = some (.cells (ints .u32 [1634760805, 857760878, 2036477234, 1797285236]) th)) (hq : w.heap[0]? = some (.cells (ints .i64 [0, 4, 8, 12, 1, 5, 9, 13, 2, 6, 10, 14, 3, 7, 11, 15, 0, 5, 10, 15, 1, 6, 11, 12, 2, 7, 8, 13, 3, 4, 9, 14]) tq)) (hkl : key.length = 32) (hkb : AreBytes key) (hnb : AreBytes nonce) (htb : AreBytes text) (hn : RdK .u8 w.heap.size nonce (.slice a_n nonce.length c_n) w) (ht : RdK .u8 w.heap.size text (.slice a_t text.length c_t) w) (cut : Int) (hlg1 : nonce.length ≤ 1000) (hlg : 1000 < text.length) : Calls Tryd.prog 6 #[.agg (cat [ints .u8 key, #[.slice a_n nonce.length c_n], #[.int .i64 number], #[.slice a_t text.length c_t]]), .int .i64 cut] w (Ret w (.bool true)) := by
  obtain ⟨q, ek⟩ : ∃ q : Nat, (q : Int) = (cut % 18446744073709551616) % ((text.length / 64 + 1 : Nat) : Int) := ⟨((cut % 18446744073709551616) % ((text.length / 64 + 1 : Nat) : Int)).toNat, Int.toNat_of_nonneg (Int.emod_nonneg _ (by omega))⟩
  have hk0 : q ≤ text.length / 64 := by have := Int.emod_lt_of_pos (cut % 18446744073709551616) (show (0 : Int) < ((text.length / 64 + 1 : Nat) : Int) by omega); omega
  have hk : 64 * q ≤ text.length := by omega
  have ctk : text.length ≤ c_t := by
    obtain ⟨_, _, e, q2, _⟩ := id ht
    simp only [Value.slice.injEq] at e
    obtain ⟨-, -, rfl⟩ := e
    exact q2
  refine enter 106 [(0, .agg (cat [ints .u8 (key), #[.slice a_n nonce.length c_n], #[.int .i64 number], #[.slice a_t text.length c_t]])), (1, .int .i64 cut)] Tryd.func6 rfl rfl kj rfl ?_
  refine wp_seq_k fun K3 hK3 => ?_
  refine region_lit ?_
  refine seq_alloc (cat [ints .u8 (key), #[.slice a_n nonce.length c_n], #[.int .i64 number], #[.slice a_t text.length c_t]]) 26 2 rfl kj kj fun g4 W1 l4 e1 r4_1 => ?_
  have x1 : Ext w W1 := Ext.tr (Rely.Ext.refl w) e1
  have b4 : w.heap.size ≤ g4 := Nat.le_trans (Rely.Ext.refl w).size l4
  refine seq_val (.bool false) 4 rfl kj kj ?_
  refine seq_nil ?_
  refine hK3 _ _ ?_
  try clear hK3 K3
  refine wp_seq_k fun K5 hK5 => ?_
  refine wp_seq_k fun K6 hK6 => ?_
  refine region_lit ?_
  refine seq_call (.bool true) 12 #[] 12 rfl kj kj ((alive03) _) fun W2 e2 => ?_
  have x2 : Ext w W2 := Ext.tr x1 e2
  refine seq_val (.bool false) 13 rfl kj kj ?_
  refine seq_nil ?_
  refine hK6 _ _ ?_
  try clear hK6 K6
  refine cond_false kj ?_
  refine wp_skip ?_
  refine hK5 _ _ ?_
  try clear hK5 K5
  refine wp_seq_k fun K7 hK7 => ?_
  refine wp_seq_k fun K8 hK8 => ?_
  refine region_lit ?_
  have r4_2 := (row_ext r4_1 e2)
  refine seq_val (.agg (cat [ints .u8 (key), #[.slice a_n nonce.length c_n], #[.int .i64 number], #[.slice a_t text.length c_t]])) 14 rfl kj (run_load_row 26 _ g4 26 _ _ r4_2 rfl kj kj (isz (n := 35) kj (by rw [cat_cons, cat_cons, cat_cons, cat_cons]; simp only [Array.size_append, cat, ((ints_size _ _).trans hkl)]; rfl))) ?_
  refine seq_call (.bool true) 13 #[.agg (cat [ints .u8 (key), #[.slice a_n nonce.length c_n], #[.int .i64 number], #[.slice a_t text.length c_t]])] 15 rfl kj kj ((large_B key nonce text a_n a_t c_n c_t number _ hkl hlg1 hlg)) fun W3 e3 => ?_
  have x3 : Ext w W3 := Ext.tr x2 e3
  refine seq_val (.bool true) 16 rfl kj kj ?_
  refine seq_skip 17 rfl kj ?_
  refine seq_skip 18 rfl kj ?_
  refine seq_skip 19 rfl kj ?_
  refine seq_val (.bool true) 20 rfl kj kj ?_
  refine seq_val (.bool true) 21 rfl kj kj ?_
  refine seq_skip 22 rfl kj ?_
  refine seq_skip 23 rfl kj ?_
  refine seq_skip 24 rfl kj ?_
  refine seq_val (.bool true) 25 rfl kj kj ?_
  refine seq_nil ?_
  refine hK8 _ _ ?_
  try clear hK8 K8
  refine cond_true kj ?_
  refine wp_seq_k fun K9 hK9 => ?_
  refine region_lit ?_
  refine seq_val (.bool true) 4 rfl kj kj ?_
  refine seq_nil ?_
  refine hK9 _ _ ?_
  try clear hK9 K9
  refine wp_ret ?_
  repeat (first | with_reducible refine goR1 ?_ | with_reducible refine goR2 ?_)
  exact (show bodyPost _ _ _ .ret _ _ from ret1 (.bool true) rfl (res_tmp kj) ⟨rfl, x3⟩)
set_option maxRecDepth 100000 in
set_option maxHeartbeats 4000000 in
theorem lawJoins_A (key nonce text : List Int) (a_n a_t : Option Addr) (c_n c_t : Nat) (number : Int) (th tq : TypeId) (w : World) (hh : w.heap[1]? = some (.cells (ints .u32 [1634760805, 857760878, 2036477234, 1797285236]) th)) (hq : w.heap[0]? = some (.cells (ints .i64 [0, 4, 8, 12, 1, 5, 9, 13, 2, 6, 10, 14, 3, 7, 11, 15, 0, 5, 10, 15, 1, 6, 11, 12, 2, 7, 8, 13, 3, 4, 9, 14]) tq)) (hkl : key.length = 32) (hkb : AreBytes key) (hnb : AreBytes nonce) (htb : AreBytes text) (hn : RdK .u8 w.heap.size nonce (.slice a_n nonce.length c_n) w) (ht : RdK .u8 w.heap.size text (.slice a_t text.length c_t) w) (cut : Int) (hs1 : nonce.length ≤ 1000) (hs2 : text.length ≤ 1000) (h1 : 0 ≤ number) (h2 : number ≤ 2147483648) (h : nonce.length ≠ 12) : Calls Tryd.prog 6 #[.agg (cat [ints .u8 key, #[.slice a_n nonce.length c_n], #[.int .i64 number], #[.slice a_t text.length c_t]]), .int .i64 cut] w (Ret w (.bool true)) := by
  obtain ⟨q, ek⟩ : ∃ q : Nat, (q : Int) = (cut % 18446744073709551616) % ((text.length / 64 + 1 : Nat) : Int) := ⟨((cut % 18446744073709551616) % ((text.length / 64 + 1 : Nat) : Int)).toNat, Int.toNat_of_nonneg (Int.emod_nonneg _ (by omega))⟩
  have hk0 : q ≤ text.length / 64 := by have := Int.emod_lt_of_pos (cut % 18446744073709551616) (show (0 : Int) < ((text.length / 64 + 1 : Nat) : Int) by omega); omega
  have hk : 64 * q ≤ text.length := by omega
  have ctk : text.length ≤ c_t := by
    obtain ⟨_, _, e, q2, _⟩ := id ht
    simp only [Value.slice.injEq] at e
    obtain ⟨-, -, rfl⟩ := e
    exact q2
  refine enter 106 [(0, .agg (cat [ints .u8 (key), #[.slice a_n nonce.length c_n], #[.int .i64 number], #[.slice a_t text.length c_t]])), (1, .int .i64 cut)] Tryd.func6 rfl rfl kj rfl ?_
  refine wp_seq_k fun K3 hK3 => ?_
  refine region_lit ?_
  refine seq_alloc (cat [ints .u8 (key), #[.slice a_n nonce.length c_n], #[.int .i64 number], #[.slice a_t text.length c_t]]) 26 2 rfl kj kj fun g4 W1 l4 e1 r4_1 => ?_
  have x1 : Ext w W1 := Ext.tr (Rely.Ext.refl w) e1
  have b4 : w.heap.size ≤ g4 := Nat.le_trans (Rely.Ext.refl w).size l4
  refine seq_val (.bool false) 4 rfl kj kj ?_
  refine seq_nil ?_
  refine hK3 _ _ ?_
  try clear hK3 K3
  refine wp_seq_k fun K5 hK5 => ?_
  refine wp_seq_k fun K6 hK6 => ?_
  refine region_lit ?_
  refine seq_call (.bool true) 12 #[] 12 rfl kj kj ((alive03) _) fun W2 e2 => ?_
  have x2 : Ext w W2 := Ext.tr x1 e2
  refine seq_val (.bool false) 13 rfl kj kj ?_
  refine seq_nil ?_
  refine hK6 _ _ ?_
  try clear hK6 K6
  refine cond_false kj ?_
  refine wp_skip ?_
  refine hK5 _ _ ?_
  try clear hK5 K5
  refine wp_seq_k fun K7 hK7 => ?_
  refine wp_seq_k fun K8 hK8 => ?_
  refine region_lit ?_
  have r4_2 := (row_ext r4_1 e2)
  refine seq_val (.agg (cat [ints .u8 (key), #[.slice a_n nonce.length c_n], #[.int .i64 number], #[.slice a_t text.length c_t]])) 14 rfl kj (run_load_row 26 _ g4 26 _ _ r4_2 rfl kj kj (isz (n := 35) kj (by rw [cat_cons, cat_cons, cat_cons, cat_cons]; simp only [Array.size_append, cat, ((ints_size _ _).trans hkl)]; rfl))) ?_
  refine seq_call (.bool false) 13 #[.agg (cat [ints .u8 (key), #[.slice a_n nonce.length c_n], #[.int .i64 number], #[.slice a_t text.length c_t]])] 15 rfl kj kj ((large_C key nonce text a_n a_t c_n c_t number _ hkl hs1 hs2)) fun W3 e3 => ?_
  have x3 : Ext w W3 := Ext.tr x2 e3
  refine seq_val (.bool false) 16 rfl kj kj ?_
  refine seq_val (.pointer (some ⟨g4, 33, none⟩)) 17 rfl kj kj ?_
  have r4_3 := (row_ext r4_2 e3)
  refine seq_val (.int .i64 number) 18 rfl kj (run_loadC1 3 _ g4 33 26 _ (.int .i64 number) _ r4_3 rfl kj (cat_part [ints .u8 (key), #[.slice a_n nonce.length c_n]] [#[.int .i64 number]] [#[.slice a_t text.length c_t]] 33 (by rw [cat_cons, cat_cons]; simp only [Array.size_append, cat, ((ints_size _ _).trans hkl)]; rfl) 0 _ rfl) kj) ?_
  refine seq_val (.bool false) 19 rfl kj (run_eq (u := .bool (decide (number < 0))) kj (congrArg Value.bool (decide_eq_false (by omega)))) ?_
  refine seq_val (.bool false) 20 rfl kj kj ?_
  refine seq_val (.bool false) 21 rfl kj kj ?_
  refine seq_val (.pointer (some ⟨g4, 33, none⟩)) 22 rfl kj kj ?_
  refine seq_val (.int .i64 number) 23 rfl kj (run_loadC1 3 _ g4 33 26 _ (.int .i64 number) _ r4_3 rfl kj (cat_part [ints .u8 (key), #[.slice a_n nonce.length c_n]] [#[.int .i64 number]] [#[.slice a_t text.length c_t]] 33 (by rw [cat_cons, cat_cons]; simp only [Array.size_append, cat, ((ints_size _ _).trans hkl)]; rfl) 0 _ rfl) kj) ?_
  refine seq_val (.bool false) 24 rfl kj (run_eq (u := .bool (decide (number > 2147483648))) kj (congrArg Value.bool (decide_eq_false (by omega)))) ?_
  refine seq_val (.bool false) 25 rfl kj kj ?_
  refine seq_nil ?_
  refine hK8 _ _ ?_
  try clear hK8 K8
  refine cond_false kj ?_
  refine wp_skip ?_
  refine hK7 _ _ ?_
  try clear hK7 K7
  refine wp_seq_k fun K9 hK9 => ?_
  refine region_lit ?_
  refine seq_val (.int .i64 cut) 26 rfl kj kj ?_
  refine seq_val (.int .u64 (cut % 18446744073709551616)) 27 rfl kj (run_eq (u := .int .u64 (IntKind.u64.wrap (cut))) kj (congrArg (Value.int .u64) rfl)) ?_
  refine seq_val (.pointer (some ⟨g4, 34, none⟩)) 28 rfl kj kj ?_
  refine seq_val (.slice a_t text.length c_t) 29 rfl kj (run_loadC1 24 _ g4 34 26 _ (.slice a_t text.length c_t) _ r4_3 rfl kj (cat_part [ints .u8 (key), #[.slice a_n nonce.length c_n], #[.int .i64 number]] [#[.slice a_t text.length c_t]] [] 34 (by rw [cat_cons, cat_cons, cat_cons]; simp only [Array.size_append, cat, ((ints_size _ _).trans hkl)]; rfl) 0 _ rfl) kj) ?_
  refine seq_val (.int .i64 ((text.length : Nat) : Int)) 30 rfl kj kj ?_
  refine seq_val (.int .i64 ((text.length / 64 : Nat) : Int)) 31 rfl kj (run_eq (u := .int .i64 (IntKind.i64.wrap (Int.tdiv (((text.length : Nat) : Int)) (64)))) kj (congrArg (Value.int .i64) (i64_quo _ 64 (by omega)))) ?_
  refine seq_val (.int .i64 (((text.length / 64) + 1 : Nat) : Int)) 32 rfl kj (run_eq (u := .int .i64 (IntKind.i64.wrap (((text.length / 64 : Nat) : Int) + 1))) kj (congrArg (Value.int .i64) (i64n _ _ (by omega) (by omega)))) ?_
  refine seq_val (.int .u64 (((text.length / 64 + 1 : Nat) : Int))) 33 rfl kj (run_eq (u := .int .u64 (IntKind.u64.wrap (((text.length / 64) + 1 : Nat) : Int))) kj (congrArg (Value.int .u64) (u64n _ (by omega)))) ?_
  refine seq_val (.int .u64 ((q : Nat) : Int)) 34 rfl kj (run_bin .rem _ _ _ _ .u64 .u64 _ _ _ rfl kj kj (b_remS _ _ (cut % 18446744073709551616) ((text.length / 64 + 1 : Nat) : Int) ((q : Nat) : Int) (by omega) (by rw [Int.tmod_eq_emod_of_nonneg (by omega), ← ek]))) ?_
  refine seq_val (.int .i64 (((q : Nat) : Int))) 35 rfl kj (run_eq (u := .int .i64 (IntKind.i64.wrap ((q : Nat) : Int))) kj (congrArg (Value.int .i64) (IntWalk.i64_in _ (by omega)))) ?_
  refine seq_val (.int .i64 ((64 * q : Nat) : Int)) 36 rfl kj (run_eq (u := .int .i64 (IntKind.i64.wrap (64 * (((q : Nat) : Int))))) kj (congrArg (Value.int .i64) (i64n _ _ (by omega) (by omega)))) ?_
  refine seq_val (.int .i64 ((64 * q : Nat) : Int)) 5 rfl kj kj ?_
  refine seq_nil ?_
  refine hK9 _ _ ?_
  try clear hK9 K9
  refine wp_seq_k fun K10 hK10 => ?_
  refine region_lit ?_
  refine seq_val (.pointer (some ⟨g4, 0, none⟩)) 38 rfl kj kj ?_
  refine seq_val (.agg (ints .u8 (key))) 39 rfl kj (run_load_part 23 _ g4 0 26 _ _ _ r4_3 rfl kj (cat_part [] [ints .u8 (key)] [#[.slice a_n nonce.length c_n], #[.int .i64 number], #[.slice a_t text.length c_t]] 0 kj) kj (isz (n := 32) kj ((ints_size _ _).trans hkl))) ?_
  refine seq_val (.pointer (some ⟨g4, 32, none⟩)) 40 rfl kj kj ?_
  refine seq_val (.slice a_n nonce.length c_n) 41 rfl kj (run_loadC1 24 _ g4 32 26 _ (.slice a_n nonce.length c_n) _ r4_3 rfl kj (cat_part [ints .u8 (key)] [#[.slice a_n nonce.length c_n]] [#[.int .i64 number], #[.slice a_t text.length c_t]] 32 ((ints_size _ _).trans hkl) 0 _ rfl) kj) ?_
  refine seq_val (.pointer (some ⟨g4, 33, none⟩)) 42 rfl kj kj ?_
  refine seq_val (.int .i64 number) 43 rfl kj (run_loadC1 3 _ g4 33 26 _ (.int .i64 number) _ r4_3 rfl kj (cat_part [ints .u8 (key), #[.slice a_n nonce.length c_n]] [#[.int .i64 number]] [#[.slice a_t text.length c_t]] 33 (by rw [cat_cons, cat_cons]; simp only [Array.size_append, cat, ((ints_size _ _).trans hkl)]; rfl) 0 _ rfl) kj) ?_
  refine seq_val (.pointer (some ⟨g4, 34, none⟩)) 44 rfl kj kj ?_
  refine seq_val (.slice a_t text.length c_t) 45 rfl kj (run_loadC1 24 _ g4 34 26 _ (.slice a_t text.length c_t) _ r4_3 rfl kj (cat_part [ints .u8 (key), #[.slice a_n nonce.length c_n], #[.int .i64 number]] [#[.slice a_t text.length c_t]] [] 34 (by rw [cat_cons, cat_cons, cat_cons]; simp only [Array.size_append, cat, ((ints_size _ _).trans hkl)]; rfl) 0 _ rfl) kj) ?_
  have r2_1 := (row_ext hh e1)
  have r2_2 := (row_ext r2_1 e2)
  have r2_3 := (row_ext r2_2 e3)
  have r1_1 := (row_ext hq e1)
  have r1_2 := (row_ext r1_1 e2)
  have r1_3 := (row_ext r1_2 e3)
  refine seq_call (.tuple #[.slice none 0 0, .iface 74 (.int .i64 1)]) 19 #[.agg (ints .u8 (key)), .slice a_n nonce.length c_n, .int .i64 number, .slice a_t text.length c_t] 46 rfl kj kj ((Mix_A key nonce (text) _ _ _ _ number th tq _ r2_3 r1_3 hkl (RdK.ext hn x3) (RdK.ext ht x3) h)) fun W4 e4 => ?_
  have x4 : Ext w W4 := Ext.tr x3 e4
  refine seq_val (.tuple #[.slice none 0 0, .iface 74 (.int .i64 1)]) 37 rfl kj kj ?_
  refine seq_val (.slice none 0 0) 47 rfl kj kj ?_
  refine seq_val (.iface 74 (.int .i64 1)) 48 rfl kj kj ?_
  refine seq_val (.slice none 0 0) 6 rfl kj kj ?_
  refine seq_val (.iface 74 (.int .i64 1)) 7 rfl kj kj ?_
  refine seq_nil ?_
  refine hK10 _ _ ?_
  try clear hK10 K10
  refine wp_seq_k fun K11 hK11 => ?_
  refine any_regionE 15 [⟨none, [(2, none)]⟩, ⟨none, [(50, some 0)]⟩, ⟨none, [(2, none)]⟩, ⟨none, [(52, some 2)]⟩, ⟨none, [(2, none)]⟩, ⟨none, [(54, some 4)]⟩, ⟨none, [(2, none)]⟩, ⟨none, [(56, some 6)]⟩, ⟨none, [(5, none)]⟩, ⟨none, [(57, some 7), (58, some 8)]⟩, ⟨none, [(51, some 1), (53, some 3), (55, some 5), (59, some 9)]⟩, ⟨none, [(60, some 10)]⟩, ⟨none, [(49, some 11)]⟩, ⟨none, [(49, some 11)]⟩, ⟨none, [(61, some 12)]⟩] kj kj fun F hF => ?_
  refine e_val (rl_ext _) (.pointer (some ⟨g4, 0, none⟩)) kj kj (fun W => by kernel_rfl) ?_
  have r4_4 := (row_ext r4_3 e4)
  refine e_read (rl_ext _) (.agg (ints .u8 (key))) kj kj (fun W hR => (run_load_part 23 _ g4 0 26 _ _ _ (row_ext (row_ext r4_4 (ext_drew _)) hR) rfl kj (cat_part [] [ints .u8 (key)] [#[.slice a_n nonce.length c_n], #[.int .i64 number], #[.slice a_t text.length c_t]] 0 kj) kj (isz (n := 32) kj ((ints_size _ _).trans hkl)))) ?_
  refine e_val (rl_ext _) (.pointer (some ⟨g4, 32, none⟩)) kj kj (fun W => by kernel_rfl) ?_
  refine e_read (rl_ext _) (.slice a_n nonce.length c_n) kj kj (fun W hR => (run_loadC1 24 _ g4 32 26 _ (.slice a_n nonce.length c_n) _ (row_ext (row_ext r4_4 (ext_drew _)) hR) rfl kj (cat_part [ints .u8 (key)] [#[.slice a_n nonce.length c_n]] [#[.int .i64 number], #[.slice a_t text.length c_t]] 32 ((ints_size _ _).trans hkl) 0 _ rfl) kj)) ?_
  refine e_val (rl_ext _) (.pointer (some ⟨g4, 33, none⟩)) kj kj (fun W => by kernel_rfl) ?_
  refine e_read (rl_ext _) (.int .i64 number) kj kj (fun W hR => (run_loadC1 3 _ g4 33 26 _ (.int .i64 number) _ (row_ext (row_ext r4_4 (ext_drew _)) hR) rfl kj (cat_part [ints .u8 (key), #[.slice a_n nonce.length c_n]] [#[.int .i64 number]] [#[.slice a_t text.length c_t]] 33 (by rw [cat_cons, cat_cons]; simp only [Array.size_append, cat, ((ints_size _ _).trans hkl)]; rfl) 0 _ rfl) kj)) ?_
  refine e_val (rl_ext _) (.pointer (some ⟨g4, 34, none⟩)) kj kj (fun W => by kernel_rfl) ?_
  refine e_read (rl_ext _) (.slice a_t text.length c_t) kj kj (fun W hR => (run_loadC1 24 _ g4 34 26 _ (.slice a_t text.length c_t) _ (row_ext (row_ext r4_4 (ext_drew _)) hR) rfl kj (cat_part [ints .u8 (key), #[.slice a_n nonce.length c_n], #[.int .i64 number]] [#[.slice a_t text.length c_t]] [] 34 (by rw [cat_cons, cat_cons, cat_cons]; simp only [Array.size_append, cat, ((ints_size _ _).trans hkl)]; rfl) 0 _ rfl) kj)) ?_
  refine e_val (rl_ext _) (.int .i64 ((64 * q : Nat) : Int)) kj kj (fun W => by kernel_rfl) ?_
  refine e_val (rl_ext _) (.slice a_t (64 * q) c_t) kj kj (fun W => (run_sliceH (len := text.length) 24 _ _ (64 * q) 5 rfl kj kj kj .i64 kj (Nat.le_trans hk ctk))) ?_
  have r2_4 := (row_ext r2_3 e4)
  have r1_4 := (row_ext r1_3 e4)
  refine e_call (rl_ext _) (.tuple #[.slice none 0 0, .iface 74 (.int .i64 1)]) 19 #[.agg (ints .u8 (key)), .slice a_n nonce.length c_n, .int .i64 number, .slice a_t (64 * q) c_t] kj kj (fun W => by kernel_rfl) (fun W hR => (Mix_A key nonce (text.take (64 * q)) _ _ _ _ number th tq W (row_ext (row_ext r2_4 (ext_drew _)) hR) (row_ext (row_ext r1_4 (ext_drew _)) hR) hkl (RdK.ext (RdK.ext hn x4) (Rely.Ext.trans (ext_drew _) hR)) (RdK.ext (rdK_take (RdK.ext ht x4) (64 * q) hk) (Rely.Ext.trans (ext_drew _) hR)) h)) ?_
  refine e_val (rl_ext _) (.tuple #[.slice none 0 0, .iface 74 (.int .i64 1)]) kj kj (fun W => by kernel_rfl) ?_
  refine e_val (rl_ext _) (.slice none 0 0) kj kj (fun W => by kernel_rfl) ?_
  refine e_val (rl_ext _) (.iface 74 (.int .i64 1)) kj kj (fun W => by kernel_rfl) ?_
  refine e_val (rl_ext _) (.slice none 0 0) kj kj (fun W => by kernel_rfl) ?_
  refine e_nil (hF _ fun W5 e5 => ?_)
  simp only [List.nil_append, List.cons_append, List.take_succ_cons, List.take_zero, List.drop_succ_cons, List.drop_zero, finE, up]
  clear hF
  have x5 : Ext w W5 := Ext.tr x4 e5
  refine seq_val (.iface 74 (.int .i64 1)) 9 rfl kj kj ?_
  refine seq_nil ?_
  refine hK11 _ _ ?_
  try clear hK11 K11
  refine wp_seq_k fun K12 hK12 => ?_
  refine any_regionE 18 [⟨none, [(2, none)]⟩, ⟨none, [(64, some 0)]⟩, ⟨none, [(2, none)]⟩, ⟨none, [(66, some 2)]⟩, ⟨none, [(2, none)]⟩, ⟨none, [(68, some 4)]⟩, ⟨none, [(5, none)]⟩, ⟨none, [(70, some 6)]⟩, ⟨none, [(69, some 5), (71, some 7)]⟩, ⟨none, [(2, none)]⟩, ⟨none, [(73, some 9)]⟩, ⟨none, [(5, none)]⟩, ⟨none, [(74, some 10), (75, some 11)]⟩, ⟨none, [(65, some 1), (67, some 3), (72, some 8), (76, some 12)]⟩, ⟨none, [(77, some 13)]⟩, ⟨none, [(63, some 14)]⟩, ⟨none, [(63, some 14)]⟩, ⟨none, [(78, some 15)]⟩] kj kj fun F hF => ?_
  refine e_val (rl_ext _) (.pointer (some ⟨g4, 0, none⟩)) kj kj (fun W => by kernel_rfl) ?_
  have r4_5 := (row_ext r4_4 e5)
  refine e_read (rl_ext _) (.agg (ints .u8 (key))) kj kj (fun W hR => (run_load_part 23 _ g4 0 26 _ _ _ (row_ext (row_ext r4_5 (ext_drew _)) hR) rfl kj (cat_part [] [ints .u8 (key)] [#[.slice a_n nonce.length c_n], #[.int .i64 number], #[.slice a_t text.length c_t]] 0 kj) kj (isz (n := 32) kj ((ints_size _ _).trans hkl)))) ?_
  refine e_val (rl_ext _) (.pointer (some ⟨g4, 32, none⟩)) kj kj (fun W => by kernel_rfl) ?_
  refine e_read (rl_ext _) (.slice a_n nonce.length c_n) kj kj (fun W hR => (run_loadC1 24 _ g4 32 26 _ (.slice a_n nonce.length c_n) _ (row_ext (row_ext r4_5 (ext_drew _)) hR) rfl kj (cat_part [ints .u8 (key)] [#[.slice a_n nonce.length c_n]] [#[.int .i64 number], #[.slice a_t text.length c_t]] 32 ((ints_size _ _).trans hkl) 0 _ rfl) kj)) ?_
  refine e_val (rl_ext _) (.pointer (some ⟨g4, 33, none⟩)) kj kj (fun W => by kernel_rfl) ?_
  refine e_read (rl_ext _) (.int .i64 number) kj kj (fun W hR => (run_loadC1 3 _ g4 33 26 _ (.int .i64 number) _ (row_ext (row_ext r4_5 (ext_drew _)) hR) rfl kj (cat_part [ints .u8 (key), #[.slice a_n nonce.length c_n]] [#[.int .i64 number]] [#[.slice a_t text.length c_t]] 33 (by rw [cat_cons, cat_cons]; simp only [Array.size_append, cat, ((ints_size _ _).trans hkl)]; rfl) 0 _ rfl) kj)) ?_
  refine e_val (rl_ext _) (.int .i64 ((64 * q : Nat) : Int)) kj kj (fun W => by kernel_rfl) ?_
  refine e_val (rl_ext _) (.int .i64 (((q : Nat) : Int))) kj kj (fun W => (run_eq (u := .int .i64 (IntKind.i64.wrap (Int.tdiv (((64 * q : Nat) : Int)) (64)))) kj (congrArg (Value.int .i64) ((i64_quo _ 64 (by omega)).trans (congrArg (fun z : Nat => (z : Int)) (by omega)))))) ?_
  refine e_val (rl_ext _) (.int .i64 (number + ((q : Nat) : Int))) kj kj (fun W => (run_eq (u := .int .i64 (IntKind.i64.wrap (number + ((q : Nat) : Int)))) kj (congrArg (Value.int .i64) (IntWalk.i64_in _ (by omega))))) ?_
  refine e_val (rl_ext _) (.pointer (some ⟨g4, 34, none⟩)) kj kj (fun W => by kernel_rfl) ?_
  refine e_read (rl_ext _) (.slice a_t text.length c_t) kj kj (fun W hR => (run_loadC1 24 _ g4 34 26 _ (.slice a_t text.length c_t) _ (row_ext (row_ext r4_5 (ext_drew _)) hR) rfl kj (cat_part [ints .u8 (key), #[.slice a_n nonce.length c_n], #[.int .i64 number]] [#[.slice a_t text.length c_t]] [] 34 (by rw [cat_cons, cat_cons, cat_cons]; simp only [Array.size_append, cat, ((ints_size _ _).trans hkl)]; rfl) 0 _ rfl) kj)) ?_
  refine e_val (rl_ext _) (.int .i64 ((64 * q : Nat) : Int)) kj kj (fun W => by kernel_rfl) ?_
  refine e_val (rl_ext _) (.slice (restA a_t c_t (64 * q)) (text.length - (64 * q)) (c_t - (64 * q))) kj kj (fun W => (run_sliceD 24 _ _ (64 * q) 5 rfl kj kj kj .i64 kj hk ctk)) ?_
  have r2_5 := (row_ext r2_4 e5)
  have r1_5 := (row_ext r1_4 e5)
  refine e_call (rl_ext _) (.tuple #[.slice none 0 0, .iface 74 (.int .i64 1)]) 19 #[.agg (ints .u8 (key)), .slice a_n nonce.length c_n, .int .i64 (number + ((q : Nat) : Int)), .slice (restA a_t c_t (64 * q)) (text.length - (64 * q)) (c_t - (64 * q))] kj kj (fun W => by kernel_rfl) (fun W hR => (Mix_A key nonce (text.drop (64 * q)) _ _ _ _ (number + ((q : Nat) : Int)) th tq W (row_ext (row_ext r2_5 (ext_drew _)) hR) (row_ext (row_ext r1_5 (ext_drew _)) hR) hkl (RdK.ext (RdK.ext hn x5) (Rely.Ext.trans (ext_drew _) hR)) (RdK.ext (rdK_drop (RdK.ext ht x5) (64 * q) hk) (Rely.Ext.trans (ext_drew _) hR)) h)) ?_
  refine e_val (rl_ext _) (.tuple #[.slice none 0 0, .iface 74 (.int .i64 1)]) kj kj (fun W => by kernel_rfl) ?_
  refine e_val (rl_ext _) (.slice none 0 0) kj kj (fun W => by kernel_rfl) ?_
  refine e_val (rl_ext _) (.iface 74 (.int .i64 1)) kj kj (fun W => by kernel_rfl) ?_
  refine e_val (rl_ext _) (.slice none 0 0) kj kj (fun W => by kernel_rfl) ?_
  refine e_nil (hF _ fun W6 e6 => ?_)
  simp only [List.nil_append, List.cons_append, List.take_succ_cons, List.take_zero, List.drop_succ_cons, List.drop_zero, finE, up]
  clear hF
  have x6 : Ext w W6 := Ext.tr x5 e6
  refine seq_val (.iface 74 (.int .i64 1)) 11 rfl kj kj ?_
  refine seq_nil ?_
  refine hK12 _ _ ?_
  try clear hK12 K12
  refine wp_seq_k fun K13 hK13 => ?_
  refine wp_seq_k fun K14 hK14 => ?_
  refine region_lit ?_
  refine seq_val (.iface 74 (.int .i64 1)) 80 rfl kj kj ?_
  refine seq_val (.bool true) 81 rfl kj kj ?_
  refine seq_nil ?_
  refine hK14 _ _ ?_
  try clear hK14 K14
  refine cond_true kj ?_
  refine wp_seq_k fun K15 hK15 => ?_
  refine region_lit ?_
  refine seq_val (.iface 74 (.int .i64 1)) 82 rfl kj kj ?_
  refine seq_val (.bool true) 83 rfl kj kj ?_
  refine seq_val (.bool true) 84 rfl kj kj ?_
  refine seq_val (.iface 74 (.int .i64 1)) 85 rfl kj kj ?_
  refine seq_val (.bool true) 86 rfl kj kj ?_
  refine seq_val (.bool true) 87 rfl kj kj ?_
  refine seq_val (.bool true) 88 rfl kj kj ?_
  refine seq_val (.slice none 0 0) 89 rfl kj kj ?_
  refine seq_val (.int .i64 0) 90 rfl kj kj ?_
  refine seq_val (.bool true) 91 rfl kj kj ?_
  refine seq_val (.bool true) 92 rfl kj kj ?_
  refine seq_val (.bool true) 4 rfl kj kj ?_
  refine seq_nil ?_
  refine hK15 _ _ ?_
  try clear hK15 K15
  refine wp_ret ?_
  repeat (first | with_reducible refine goR1 ?_ | with_reducible refine goR2 ?_)
  exact (show bodyPost _ _ _ .ret _ _ from ret1 (.bool true) rfl (res_tmp kj) ⟨rfl, x6⟩)
set_option maxRecDepth 100000 in
set_option maxHeartbeats 4000000 in
theorem lawJoins_B (key nonce text : List Int) (a_n a_t : Option Addr) (c_n c_t : Nat) (number : Int) (th tq : TypeId) (w : World) (hh : w.heap[1]? = some (.cells (ints .u32 [1634760805, 857760878, 2036477234, 1797285236]) th)) (hq : w.heap[0]? = some (.cells (ints .i64 [0, 4, 8, 12, 1, 5, 9, 13, 2, 6, 10, 14, 3, 7, 11, 15, 0, 5, 10, 15, 1, 6, 11, 12, 2, 7, 8, 13, 3, 4, 9, 14]) tq)) (hkl : key.length = 32) (hkb : AreBytes key) (hnb : AreBytes nonce) (htb : AreBytes text) (hn : RdK .u8 w.heap.size nonce (.slice a_n nonce.length c_n) w) (ht : RdK .u8 w.heap.size text (.slice a_t text.length c_t) w) (cut : Int) (hs1 : nonce.length ≤ 1000) (hs2 : text.length ≤ 1000) (h1 : number < 0) : Calls Tryd.prog 6 #[.agg (cat [ints .u8 key, #[.slice a_n nonce.length c_n], #[.int .i64 number], #[.slice a_t text.length c_t]]), .int .i64 cut] w (Ret w (.bool true)) := by
  obtain ⟨q, ek⟩ : ∃ q : Nat, (q : Int) = (cut % 18446744073709551616) % ((text.length / 64 + 1 : Nat) : Int) := ⟨((cut % 18446744073709551616) % ((text.length / 64 + 1 : Nat) : Int)).toNat, Int.toNat_of_nonneg (Int.emod_nonneg _ (by omega))⟩
  have hk0 : q ≤ text.length / 64 := by have := Int.emod_lt_of_pos (cut % 18446744073709551616) (show (0 : Int) < ((text.length / 64 + 1 : Nat) : Int) by omega); omega
  have hk : 64 * q ≤ text.length := by omega
  have ctk : text.length ≤ c_t := by
    obtain ⟨_, _, e, q2, _⟩ := id ht
    simp only [Value.slice.injEq] at e
    obtain ⟨-, -, rfl⟩ := e
    exact q2
  refine enter 106 [(0, .agg (cat [ints .u8 (key), #[.slice a_n nonce.length c_n], #[.int .i64 number], #[.slice a_t text.length c_t]])), (1, .int .i64 cut)] Tryd.func6 rfl rfl kj rfl ?_
  refine wp_seq_k fun K3 hK3 => ?_
  refine region_lit ?_
  refine seq_alloc (cat [ints .u8 (key), #[.slice a_n nonce.length c_n], #[.int .i64 number], #[.slice a_t text.length c_t]]) 26 2 rfl kj kj fun g4 W1 l4 e1 r4_1 => ?_
  have x1 : Ext w W1 := Ext.tr (Rely.Ext.refl w) e1
  have b4 : w.heap.size ≤ g4 := Nat.le_trans (Rely.Ext.refl w).size l4
  refine seq_val (.bool false) 4 rfl kj kj ?_
  refine seq_nil ?_
  refine hK3 _ _ ?_
  try clear hK3 K3
  refine wp_seq_k fun K5 hK5 => ?_
  refine wp_seq_k fun K6 hK6 => ?_
  refine region_lit ?_
  refine seq_call (.bool true) 12 #[] 12 rfl kj kj ((alive03) _) fun W2 e2 => ?_
  have x2 : Ext w W2 := Ext.tr x1 e2
  refine seq_val (.bool false) 13 rfl kj kj ?_
  refine seq_nil ?_
  refine hK6 _ _ ?_
  try clear hK6 K6
  refine cond_false kj ?_
  refine wp_skip ?_
  refine hK5 _ _ ?_
  try clear hK5 K5
  refine wp_seq_k fun K7 hK7 => ?_
  refine wp_seq_k fun K8 hK8 => ?_
  refine region_lit ?_
  have r4_2 := (row_ext r4_1 e2)
  refine seq_val (.agg (cat [ints .u8 (key), #[.slice a_n nonce.length c_n], #[.int .i64 number], #[.slice a_t text.length c_t]])) 14 rfl kj (run_load_row 26 _ g4 26 _ _ r4_2 rfl kj kj (isz (n := 35) kj (by rw [cat_cons, cat_cons, cat_cons, cat_cons]; simp only [Array.size_append, cat, ((ints_size _ _).trans hkl)]; rfl))) ?_
  refine seq_call (.bool false) 13 #[.agg (cat [ints .u8 (key), #[.slice a_n nonce.length c_n], #[.int .i64 number], #[.slice a_t text.length c_t]])] 15 rfl kj kj ((large_C key nonce text a_n a_t c_n c_t number _ hkl hs1 hs2)) fun W3 e3 => ?_
  have x3 : Ext w W3 := Ext.tr x2 e3
  refine seq_val (.bool false) 16 rfl kj kj ?_
  refine seq_val (.pointer (some ⟨g4, 33, none⟩)) 17 rfl kj kj ?_
  have r4_3 := (row_ext r4_2 e3)
  refine seq_val (.int .i64 number) 18 rfl kj (run_loadC1 3 _ g4 33 26 _ (.int .i64 number) _ r4_3 rfl kj (cat_part [ints .u8 (key), #[.slice a_n nonce.length c_n]] [#[.int .i64 number]] [#[.slice a_t text.length c_t]] 33 (by rw [cat_cons, cat_cons]; simp only [Array.size_append, cat, ((ints_size _ _).trans hkl)]; rfl) 0 _ rfl) kj) ?_
  refine seq_val (.bool true) 19 rfl kj (run_eq (u := .bool (decide (number < 0))) kj (congrArg Value.bool (decide_eq_true (by omega)))) ?_
  refine seq_val (.bool true) 20 rfl kj kj ?_
  refine seq_val (.bool true) 21 rfl kj kj ?_
  refine seq_skip 22 rfl kj ?_
  refine seq_skip 23 rfl kj ?_
  refine seq_skip 24 rfl kj ?_
  refine seq_val (.bool true) 25 rfl kj kj ?_
  refine seq_nil ?_
  refine hK8 _ _ ?_
  try clear hK8 K8
  refine cond_true kj ?_
  refine wp_seq_k fun K9 hK9 => ?_
  refine region_lit ?_
  refine seq_val (.bool true) 4 rfl kj kj ?_
  refine seq_nil ?_
  refine hK9 _ _ ?_
  try clear hK9 K9
  refine wp_ret ?_
  repeat (first | with_reducible refine goR1 ?_ | with_reducible refine goR2 ?_)
  exact (show bodyPost _ _ _ .ret _ _ from ret1 (.bool true) rfl (res_tmp kj) ⟨rfl, x3⟩)
set_option maxRecDepth 100000 in
set_option maxHeartbeats 4000000 in
theorem lawJoins_C (key nonce text : List Int) (a_n a_t : Option Addr) (c_n c_t : Nat) (number : Int) (th tq : TypeId) (w : World) (hh : w.heap[1]? = some (.cells (ints .u32 [1634760805, 857760878, 2036477234, 1797285236]) th)) (hq : w.heap[0]? = some (.cells (ints .i64 [0, 4, 8, 12, 1, 5, 9, 13, 2, 6, 10, 14, 3, 7, 11, 15, 0, 5, 10, 15, 1, 6, 11, 12, 2, 7, 8, 13, 3, 4, 9, 14]) tq)) (hkl : key.length = 32) (hkb : AreBytes key) (hnb : AreBytes nonce) (htb : AreBytes text) (hn : RdK .u8 w.heap.size nonce (.slice a_n nonce.length c_n) w) (ht : RdK .u8 w.heap.size text (.slice a_t text.length c_t) w) (cut : Int) (hs1 : nonce.length ≤ 1000) (hs2 : text.length ≤ 1000) (h1 : 0 ≤ number) (h2 : 2147483648 < number) : Calls Tryd.prog 6 #[.agg (cat [ints .u8 key, #[.slice a_n nonce.length c_n], #[.int .i64 number], #[.slice a_t text.length c_t]]), .int .i64 cut] w (Ret w (.bool true)) := by
  obtain ⟨q, ek⟩ : ∃ q : Nat, (q : Int) = (cut % 18446744073709551616) % ((text.length / 64 + 1 : Nat) : Int) := ⟨((cut % 18446744073709551616) % ((text.length / 64 + 1 : Nat) : Int)).toNat, Int.toNat_of_nonneg (Int.emod_nonneg _ (by omega))⟩
  have hk0 : q ≤ text.length / 64 := by have := Int.emod_lt_of_pos (cut % 18446744073709551616) (show (0 : Int) < ((text.length / 64 + 1 : Nat) : Int) by omega); omega
  have hk : 64 * q ≤ text.length := by omega
  have ctk : text.length ≤ c_t := by
    obtain ⟨_, _, e, q2, _⟩ := id ht
    simp only [Value.slice.injEq] at e
    obtain ⟨-, -, rfl⟩ := e
    exact q2
  refine enter 106 [(0, .agg (cat [ints .u8 (key), #[.slice a_n nonce.length c_n], #[.int .i64 number], #[.slice a_t text.length c_t]])), (1, .int .i64 cut)] Tryd.func6 rfl rfl kj rfl ?_
  refine wp_seq_k fun K3 hK3 => ?_
  refine region_lit ?_
  refine seq_alloc (cat [ints .u8 (key), #[.slice a_n nonce.length c_n], #[.int .i64 number], #[.slice a_t text.length c_t]]) 26 2 rfl kj kj fun g4 W1 l4 e1 r4_1 => ?_
  have x1 : Ext w W1 := Ext.tr (Rely.Ext.refl w) e1
  have b4 : w.heap.size ≤ g4 := Nat.le_trans (Rely.Ext.refl w).size l4
  refine seq_val (.bool false) 4 rfl kj kj ?_
  refine seq_nil ?_
  refine hK3 _ _ ?_
  try clear hK3 K3
  refine wp_seq_k fun K5 hK5 => ?_
  refine wp_seq_k fun K6 hK6 => ?_
  refine region_lit ?_
  refine seq_call (.bool true) 12 #[] 12 rfl kj kj ((alive03) _) fun W2 e2 => ?_
  have x2 : Ext w W2 := Ext.tr x1 e2
  refine seq_val (.bool false) 13 rfl kj kj ?_
  refine seq_nil ?_
  refine hK6 _ _ ?_
  try clear hK6 K6
  refine cond_false kj ?_
  refine wp_skip ?_
  refine hK5 _ _ ?_
  try clear hK5 K5
  refine wp_seq_k fun K7 hK7 => ?_
  refine wp_seq_k fun K8 hK8 => ?_
  refine region_lit ?_
  have r4_2 := (row_ext r4_1 e2)
  refine seq_val (.agg (cat [ints .u8 (key), #[.slice a_n nonce.length c_n], #[.int .i64 number], #[.slice a_t text.length c_t]])) 14 rfl kj (run_load_row 26 _ g4 26 _ _ r4_2 rfl kj kj (isz (n := 35) kj (by rw [cat_cons, cat_cons, cat_cons, cat_cons]; simp only [Array.size_append, cat, ((ints_size _ _).trans hkl)]; rfl))) ?_
  refine seq_call (.bool false) 13 #[.agg (cat [ints .u8 (key), #[.slice a_n nonce.length c_n], #[.int .i64 number], #[.slice a_t text.length c_t]])] 15 rfl kj kj ((large_C key nonce text a_n a_t c_n c_t number _ hkl hs1 hs2)) fun W3 e3 => ?_
  have x3 : Ext w W3 := Ext.tr x2 e3
  refine seq_val (.bool false) 16 rfl kj kj ?_
  refine seq_val (.pointer (some ⟨g4, 33, none⟩)) 17 rfl kj kj ?_
  have r4_3 := (row_ext r4_2 e3)
  refine seq_val (.int .i64 number) 18 rfl kj (run_loadC1 3 _ g4 33 26 _ (.int .i64 number) _ r4_3 rfl kj (cat_part [ints .u8 (key), #[.slice a_n nonce.length c_n]] [#[.int .i64 number]] [#[.slice a_t text.length c_t]] 33 (by rw [cat_cons, cat_cons]; simp only [Array.size_append, cat, ((ints_size _ _).trans hkl)]; rfl) 0 _ rfl) kj) ?_
  refine seq_val (.bool false) 19 rfl kj (run_eq (u := .bool (decide (number < 0))) kj (congrArg Value.bool (decide_eq_false (by omega)))) ?_
  refine seq_val (.bool false) 20 rfl kj kj ?_
  refine seq_val (.bool false) 21 rfl kj kj ?_
  refine seq_val (.pointer (some ⟨g4, 33, none⟩)) 22 rfl kj kj ?_
  refine seq_val (.int .i64 number) 23 rfl kj (run_loadC1 3 _ g4 33 26 _ (.int .i64 number) _ r4_3 rfl kj (cat_part [ints .u8 (key), #[.slice a_n nonce.length c_n]] [#[.int .i64 number]] [#[.slice a_t text.length c_t]] 33 (by rw [cat_cons, cat_cons]; simp only [Array.size_append, cat, ((ints_size _ _).trans hkl)]; rfl) 0 _ rfl) kj) ?_
  refine seq_val (.bool true) 24 rfl kj (run_eq (u := .bool (decide (number > 2147483648))) kj (congrArg Value.bool (decide_eq_true (by omega)))) ?_
  refine seq_val (.bool true) 25 rfl kj kj ?_
  refine seq_nil ?_
  refine hK8 _ _ ?_
  try clear hK8 K8
  refine cond_true kj ?_
  refine wp_seq_k fun K9 hK9 => ?_
  refine region_lit ?_
  refine seq_val (.bool true) 4 rfl kj kj ?_
  refine seq_nil ?_
  refine hK9 _ _ ?_
  try clear hK9 K9
  refine wp_ret ?_
  repeat (first | with_reducible refine goR1 ?_ | with_reducible refine goR2 ?_)
  exact (show bodyPost _ _ _ .ret _ _ from ret1 (.bool true) rfl (res_tmp kj) ⟨rfl, x3⟩)
set_option maxRecDepth 100000 in
set_option maxHeartbeats 4000000 in
theorem lawJoins_D (key nonce text : List Int) (a_n a_t : Option Addr) (c_n c_t : Nat) (number : Int) (th tq : TypeId) (w : World) (hh : w.heap[1]? = some (.cells (ints .u32 [1634760805, 857760878, 2036477234, 1797285236]) th)) (hq : w.heap[0]? = some (.cells (ints .i64 [0, 4, 8, 12, 1, 5, 9, 13, 2, 6, 10, 14, 3, 7, 11, 15, 0, 5, 10, 15, 1, 6, 11, 12, 2, 7, 8, 13, 3, 4, 9, 14]) tq)) (hkl : key.length = 32) (hkb : AreBytes key) (hnb : AreBytes nonce) (htb : AreBytes text) (hn : RdK .u8 w.heap.size nonce (.slice a_n nonce.length c_n) w) (ht : RdK .u8 w.heap.size text (.slice a_t text.length c_t) w) (cut : Int) (hs1 : nonce.length ≤ 1000) (hs2 : text.length ≤ 1000) (h1 : 0 ≤ number) (h2 : number ≤ 2147483648) (h : nonce.length = 12) (r : Nat) (hr : number + (r : Int) = 4294967296) : Calls Tryd.prog 6 #[.agg (cat [ints .u8 key, #[.slice a_n nonce.length c_n], #[.int .i64 number], #[.slice a_t text.length c_t]]), .int .i64 cut] w (Ret w (.bool true)) := by
  obtain ⟨q, ek⟩ : ∃ q : Nat, (q : Int) = (cut % 18446744073709551616) % ((text.length / 64 + 1 : Nat) : Int) := ⟨((cut % 18446744073709551616) % ((text.length / 64 + 1 : Nat) : Int)).toNat, Int.toNat_of_nonneg (Int.emod_nonneg _ (by omega))⟩
  have hk0 : q ≤ text.length / 64 := by have := Int.emod_lt_of_pos (cut % 18446744073709551616) (show (0 : Int) < ((text.length / 64 + 1 : Nat) : Int) by omega); omega
  have hk : 64 * q ≤ text.length := by omega
  have ctk : text.length ≤ c_t := by
    obtain ⟨_, _, e, q2, _⟩ := id ht
    simp only [Value.slice.injEq] at e
    obtain ⟨-, -, rfl⟩ := e
    exact q2
  have ltk : (text.take (64 * q)).length = 64 * q := by rw [List.length_take]; omega
  have ej := mix_join (startW key nonce) number text q hk
  have hmb := mixV_bytes (startW key nonce) number text
  obtain ⟨fm, em⟩ : ∃ z : List Int, mixV (startW key nonce) number text = z := ⟨_, rfl⟩
  obtain ⟨fa, ea⟩ : ∃ z : List Int, mixV (startW key nonce) number (text.take (64 * q)) = z := ⟨_, rfl⟩
  obtain ⟨fb, eb⟩ : ∃ z : List Int, mixV (startW key nonce) (number + ((q : Nat) : Int)) (text.drop (64 * q)) = z := ⟨_, rfl⟩
  have lfa : fa.length = 64 * q := by rw [← ea, mixV_len, ltk]
  have lfb : fb.length = text.length - 64 * q := by rw [← eb, mixV_len, List.length_drop]
  rw [em, ea, eb] at ej
  have ejn : fm = fa ++ fb := ej
  have hfb : AreBytes fm := em ▸ hmb
  have hab : AreBytes (fa ++ fb) := ej ▸ hfb
  refine enter 106 [(0, .agg (cat [ints .u8 (key), #[.slice a_n nonce.length c_n], #[.int .i64 number], #[.slice a_t text.length c_t]])), (1, .int .i64 cut)] Tryd.func6 rfl rfl kj rfl ?_
  refine wp_seq_k fun K3 hK3 => ?_
  refine region_lit ?_
  refine seq_alloc (cat [ints .u8 (key), #[.slice a_n nonce.length c_n], #[.int .i64 number], #[.slice a_t text.length c_t]]) 26 2 rfl kj kj fun g4 W1 l4 e1 r4_1 => ?_
  have x1 : Ext w W1 := Ext.tr (Rely.Ext.refl w) e1
  have b4 : w.heap.size ≤ g4 := Nat.le_trans (Rely.Ext.refl w).size l4
  refine seq_val (.bool false) 4 rfl kj kj ?_
  refine seq_nil ?_
  refine hK3 _ _ ?_
  try clear hK3 K3
  refine wp_seq_k fun K5 hK5 => ?_
  refine wp_seq_k fun K6 hK6 => ?_
  refine region_lit ?_
  refine seq_call (.bool true) 12 #[] 12 rfl kj kj ((alive03) _) fun W2 e2 => ?_
  have x2 : Ext w W2 := Ext.tr x1 e2
  refine seq_val (.bool false) 13 rfl kj kj ?_
  refine seq_nil ?_
  refine hK6 _ _ ?_
  try clear hK6 K6
  refine cond_false kj ?_
  refine wp_skip ?_
  refine hK5 _ _ ?_
  try clear hK5 K5
  refine wp_seq_k fun K7 hK7 => ?_
  refine wp_seq_k fun K8 hK8 => ?_
  refine region_lit ?_
  have r4_2 := (row_ext r4_1 e2)
  refine seq_val (.agg (cat [ints .u8 (key), #[.slice a_n nonce.length c_n], #[.int .i64 number], #[.slice a_t text.length c_t]])) 14 rfl kj (run_load_row 26 _ g4 26 _ _ r4_2 rfl kj kj (isz (n := 35) kj (by rw [cat_cons, cat_cons, cat_cons, cat_cons]; simp only [Array.size_append, cat, ((ints_size _ _).trans hkl)]; rfl))) ?_
  refine seq_call (.bool false) 13 #[.agg (cat [ints .u8 (key), #[.slice a_n nonce.length c_n], #[.int .i64 number], #[.slice a_t text.length c_t]])] 15 rfl kj kj ((large_C key nonce text a_n a_t c_n c_t number _ hkl hs1 hs2)) fun W3 e3 => ?_
  have x3 : Ext w W3 := Ext.tr x2 e3
  refine seq_val (.bool false) 16 rfl kj kj ?_
  refine seq_val (.pointer (some ⟨g4, 33, none⟩)) 17 rfl kj kj ?_
  have r4_3 := (row_ext r4_2 e3)
  refine seq_val (.int .i64 number) 18 rfl kj (run_loadC1 3 _ g4 33 26 _ (.int .i64 number) _ r4_3 rfl kj (cat_part [ints .u8 (key), #[.slice a_n nonce.length c_n]] [#[.int .i64 number]] [#[.slice a_t text.length c_t]] 33 (by rw [cat_cons, cat_cons]; simp only [Array.size_append, cat, ((ints_size _ _).trans hkl)]; rfl) 0 _ rfl) kj) ?_
  refine seq_val (.bool false) 19 rfl kj (run_eq (u := .bool (decide (number < 0))) kj (congrArg Value.bool (decide_eq_false (by omega)))) ?_
  refine seq_val (.bool false) 20 rfl kj kj ?_
  refine seq_val (.bool false) 21 rfl kj kj ?_
  refine seq_val (.pointer (some ⟨g4, 33, none⟩)) 22 rfl kj kj ?_
  refine seq_val (.int .i64 number) 23 rfl kj (run_loadC1 3 _ g4 33 26 _ (.int .i64 number) _ r4_3 rfl kj (cat_part [ints .u8 (key), #[.slice a_n nonce.length c_n]] [#[.int .i64 number]] [#[.slice a_t text.length c_t]] 33 (by rw [cat_cons, cat_cons]; simp only [Array.size_append, cat, ((ints_size _ _).trans hkl)]; rfl) 0 _ rfl) kj) ?_
  refine seq_val (.bool false) 24 rfl kj (run_eq (u := .bool (decide (number > 2147483648))) kj (congrArg Value.bool (decide_eq_false (by omega)))) ?_
  refine seq_val (.bool false) 25 rfl kj kj ?_
  refine seq_nil ?_
  refine hK8 _ _ ?_
  try clear hK8 K8
  refine cond_false kj ?_
  refine wp_skip ?_
  refine hK7 _ _ ?_
  try clear hK7 K7
  refine wp_seq_k fun K9 hK9 => ?_
  refine region_lit ?_
  refine seq_val (.int .i64 cut) 26 rfl kj kj ?_
  refine seq_val (.int .u64 (cut % 18446744073709551616)) 27 rfl kj (run_eq (u := .int .u64 (IntKind.u64.wrap (cut))) kj (congrArg (Value.int .u64) rfl)) ?_
  refine seq_val (.pointer (some ⟨g4, 34, none⟩)) 28 rfl kj kj ?_
  refine seq_val (.slice a_t text.length c_t) 29 rfl kj (run_loadC1 24 _ g4 34 26 _ (.slice a_t text.length c_t) _ r4_3 rfl kj (cat_part [ints .u8 (key), #[.slice a_n nonce.length c_n], #[.int .i64 number]] [#[.slice a_t text.length c_t]] [] 34 (by rw [cat_cons, cat_cons, cat_cons]; simp only [Array.size_append, cat, ((ints_size _ _).trans hkl)]; rfl) 0 _ rfl) kj) ?_
  refine seq_val (.int .i64 ((text.length : Nat) : Int)) 30 rfl kj kj ?_
  refine seq_val (.int .i64 ((text.length / 64 : Nat) : Int)) 31 rfl kj (run_eq (u := .int .i64 (IntKind.i64.wrap (Int.tdiv (((text.length : Nat) : Int)) (64)))) kj (congrArg (Value.int .i64) (i64_quo _ 64 (by omega)))) ?_
  refine seq_val (.int .i64 (((text.length / 64) + 1 : Nat) : Int)) 32 rfl kj (run_eq (u := .int .i64 (IntKind.i64.wrap (((text.length / 64 : Nat) : Int) + 1))) kj (congrArg (Value.int .i64) (i64n _ _ (by omega) (by omega)))) ?_
  refine seq_val (.int .u64 (((text.length / 64 + 1 : Nat) : Int))) 33 rfl kj (run_eq (u := .int .u64 (IntKind.u64.wrap (((text.length / 64) + 1 : Nat) : Int))) kj (congrArg (Value.int .u64) (u64n _ (by omega)))) ?_
  refine seq_val (.int .u64 ((q : Nat) : Int)) 34 rfl kj (run_bin .rem _ _ _ _ .u64 .u64 _ _ _ rfl kj kj (b_remS _ _ (cut % 18446744073709551616) ((text.length / 64 + 1 : Nat) : Int) ((q : Nat) : Int) (by omega) (by rw [Int.tmod_eq_emod_of_nonneg (by omega), ← ek]))) ?_
  refine seq_val (.int .i64 (((q : Nat) : Int))) 35 rfl kj (run_eq (u := .int .i64 (IntKind.i64.wrap ((q : Nat) : Int))) kj (congrArg (Value.int .i64) (IntWalk.i64_in _ (by omega)))) ?_
  refine seq_val (.int .i64 ((64 * q : Nat) : Int)) 36 rfl kj (run_eq (u := .int .i64 (IntKind.i64.wrap (64 * (((q : Nat) : Int))))) kj (congrArg (Value.int .i64) (i64n _ _ (by omega) (by omega)))) ?_
  refine seq_val (.int .i64 ((64 * q : Nat) : Int)) 5 rfl kj kj ?_
  refine seq_nil ?_
  refine hK9 _ _ ?_
  try clear hK9 K9
  refine wp_seq_k fun K10 hK10 => ?_
  refine region_lit ?_
  refine seq_val (.pointer (some ⟨g4, 0, none⟩)) 38 rfl kj kj ?_
  refine seq_val (.agg (ints .u8 (key))) 39 rfl kj (run_load_part 23 _ g4 0 26 _ _ _ r4_3 rfl kj (cat_part [] [ints .u8 (key)] [#[.slice a_n nonce.length c_n], #[.int .i64 number], #[.slice a_t text.length c_t]] 0 kj) kj (isz (n := 32) kj ((ints_size _ _).trans hkl))) ?_
  refine seq_val (.pointer (some ⟨g4, 32, none⟩)) 40 rfl kj kj ?_
  refine seq_val (.slice a_n nonce.length c_n) 41 rfl kj (run_loadC1 24 _ g4 32 26 _ (.slice a_n nonce.length c_n) _ r4_3 rfl kj (cat_part [ints .u8 (key)] [#[.slice a_n nonce.length c_n]] [#[.int .i64 number], #[.slice a_t text.length c_t]] 32 ((ints_size _ _).trans hkl) 0 _ rfl) kj) ?_
  refine seq_val (.pointer (some ⟨g4, 33, none⟩)) 42 rfl kj kj ?_
  refine seq_val (.int .i64 number) 43 rfl kj (run_loadC1 3 _ g4 33 26 _ (.int .i64 number) _ r4_3 rfl kj (cat_part [ints .u8 (key), #[.slice a_n nonce.length c_n]] [#[.int .i64 number]] [#[.slice a_t text.length c_t]] 33 (by rw [cat_cons, cat_cons]; simp only [Array.size_append, cat, ((ints_size _ _).trans hkl)]; rfl) 0 _ rfl) kj) ?_
  refine seq_val (.pointer (some ⟨g4, 34, none⟩)) 44 rfl kj kj ?_
  refine seq_val (.slice a_t text.length c_t) 45 rfl kj (run_loadC1 24 _ g4 34 26 _ (.slice a_t text.length c_t) _ r4_3 rfl kj (cat_part [ints .u8 (key), #[.slice a_n nonce.length c_n], #[.int .i64 number]] [#[.slice a_t text.length c_t]] [] 34 (by rw [cat_cons, cat_cons, cat_cons]; simp only [Array.size_append, cat, ((ints_size _ _).trans hkl)]; rfl) 0 _ rfl) kj) ?_
  have r2_1 := (row_ext hh e1)
  have r2_2 := (row_ext r2_1 e2)
  have r2_3 := (row_ext r2_2 e3)
  have r1_1 := (row_ext hq e1)
  have r1_2 := (row_ext r1_1 e2)
  have r1_3 := (row_ext r1_2 e3)
  refine seq_callR (fun v W' => (MixR W3.heap.size (fm)) v W' ∧ Ext W3 W') 19 #[.agg (ints .u8 (key)), .slice a_n nonce.length c_n, .int .i64 number, .slice a_t text.length c_t] 46 rfl kj kj (((em ▸ MixG W3.heap.size key nonce (text) _ _ _ _ number th tq _ r2_3 r1_3 hkl (RdK.ext hn x3) (RdK.ext ht x3) h r hr h1 (by omega) (by omega) (by omega) (Nat.le_refl _))).mono (by rintro e w' ⟨v, rfl, e1, hv⟩; exact ⟨v, rfl, hv, e1⟩)) fun vv11 W4 hh11 => ?_
  obtain ⟨hv11, e4⟩ := hh11
  have x4 : Ext w W4 := Ext.tr x3 e4
  obtain ⟨u12_, rfl, hu12_⟩ := hv11
  obtain ⟨a13_, c13_, rfl, -⟩ := id (OwnN.rd hu12_)
  refine seq_val (.tuple #[.slice a13_ ((fm).length) c13_, .nilIface]) 37 rfl kj kj ?_
  refine seq_val (.slice a13_ ((fm).length) c13_) 47 rfl kj kj ?_
  refine seq_val (.nilIface) 48 rfl kj kj ?_
  refine seq_val (.slice a13_ ((fm).length) c13_) 6 rfl kj kj ?_
  refine seq_val (.nilIface) 7 rfl kj kj ?_
  refine seq_nil ?_
  refine hK10 _ _ ?_
  try clear hK10 K10
  refine wp_seq_k fun K14 hK14 => ?_
  refine any_regionE 15 [⟨none, [(2, none)]⟩, ⟨none, [(50, some 0)]⟩, ⟨none, [(2, none)]⟩, ⟨none, [(52, some 2)]⟩, ⟨none, [(2, none)]⟩, ⟨none, [(54, some 4)]⟩, ⟨none, [(2, none)]⟩, ⟨none, [(56, some 6)]⟩, ⟨none, [(5, none)]⟩, ⟨none, [(57, some 7), (58, some 8)]⟩, ⟨none, [(51, some 1), (53, some 3), (55, some 5), (59, some 9)]⟩, ⟨none, [(60, some 10)]⟩, ⟨none, [(49, some 11)]⟩, ⟨none, [(49, some 11)]⟩, ⟨none, [(61, some 12)]⟩] kj kj fun F hF => ?_
  refine e_val (rl_ext _) (.pointer (some ⟨g4, 0, none⟩)) kj kj (fun W => by kernel_rfl) ?_
  have r4_4 := (row_ext r4_3 e4)
  refine e_read (rl_ext _) (.agg (ints .u8 (key))) kj kj (fun W hR => (run_load_part 23 _ g4 0 26 _ _ _ (row_ext (row_ext r4_4 (ext_drew _)) hR) rfl kj (cat_part [] [ints .u8 (key)] [#[.slice a_n nonce.length c_n], #[.int .i64 number], #[.slice a_t text.length c_t]] 0 kj) kj (isz (n := 32) kj ((ints_size _ _).trans hkl)))) ?_
  refine e_val (rl_ext _) (.pointer (some ⟨g4, 32, none⟩)) kj kj (fun W => by kernel_rfl) ?_
  refine e_read (rl_ext _) (.slice a_n nonce.length c_n) kj kj (fun W hR => (run_loadC1 24 _ g4 32 26 _ (.slice a_n nonce.length c_n) _ (row_ext (row_ext r4_4 (ext_drew _)) hR) rfl kj (cat_part [ints .u8 (key)] [#[.slice a_n nonce.length c_n]] [#[.int .i64 number], #[.slice a_t text.length c_t]] 32 ((ints_size _ _).trans hkl) 0 _ rfl) kj)) ?_
  refine e_val (rl_ext _) (.pointer (some ⟨g4, 33, none⟩)) kj kj (fun W => by kernel_rfl) ?_
  refine e_read (rl_ext _) (.int .i64 number) kj kj (fun W hR => (run_loadC1 3 _ g4 33 26 _ (.int .i64 number) _ (row_ext (row_ext r4_4 (ext_drew _)) hR) rfl kj (cat_part [ints .u8 (key), #[.slice a_n nonce.length c_n]] [#[.int .i64 number]] [#[.slice a_t text.length c_t]] 33 (by rw [cat_cons, cat_cons]; simp only [Array.size_append, cat, ((ints_size _ _).trans hkl)]; rfl) 0 _ rfl) kj)) ?_
  refine e_val (rl_ext _) (.pointer (some ⟨g4, 34, none⟩)) kj kj (fun W => by kernel_rfl) ?_
  refine e_read (rl_ext _) (.slice a_t text.length c_t) kj kj (fun W hR => (run_loadC1 24 _ g4 34 26 _ (.slice a_t text.length c_t) _ (row_ext (row_ext r4_4 (ext_drew _)) hR) rfl kj (cat_part [ints .u8 (key), #[.slice a_n nonce.length c_n], #[.int .i64 number]] [#[.slice a_t text.length c_t]] [] 34 (by rw [cat_cons, cat_cons, cat_cons]; simp only [Array.size_append, cat, ((ints_size _ _).trans hkl)]; rfl) 0 _ rfl) kj)) ?_
  refine e_val (rl_ext _) (.int .i64 ((64 * q : Nat) : Int)) kj kj (fun W => by kernel_rfl) ?_
  refine e_val (rl_ext _) (.slice a_t (64 * q) c_t) kj kj (fun W => (run_sliceH (len := text.length) 24 _ _ (64 * q) 5 rfl kj kj kj .i64 kj (Nat.le_trans hk ctk))) ?_
  have r2_4 := (row_ext r2_3 e4)
  have r1_4 := (row_ext r1_3 e4)
  refine e_callG (rl_ext _) (MixR W4.heap.size (fa)) (mixR_stable _ _) 19 #[.agg (ints .u8 (key)), .slice a_n nonce.length c_n, .int .i64 number, .slice a_t (64 * q) c_t] kj kj (fun W => by kernel_rfl) (fun W hR => (ea ▸ MixG W4.heap.size key nonce (text.take (64 * q)) _ _ _ _ number th tq W (row_ext (row_ext r2_4 (ext_drew _)) hR) (row_ext (row_ext r1_4 (ext_drew _)) hR) hkl (RdK.ext (RdK.ext hn x4) (Rely.Ext.trans (ext_drew _) hR)) (RdK.ext (rdK_take (RdK.ext ht x4) (64 * q) hk) (Rely.Ext.trans (ext_drew _) hR)) h r hr h1 (by omega) (by rw [ltk]; omega) (by rw [ltk]; omega) (Rely.Ext.trans (ext_drew _) hR).size)) ?_
  refine e_runX (rl_ext _) (MixR W4.heap.size (fa)) (mixR_stable _ _) (fun ρ W hR hh => ⟨ρ 60, W, by kernel_rfl, Rely.Ext.refl _, (show (MixR W4.heap.size (fa)) (ρ 60) W from hh.1)⟩) ?_
  refine e_runX (rl_ext _) (OwnN .u8 5 W4.heap.size (fa)) (OwnN.stable _ _ _ _) (fun ρ W hR hh => ?_) ?_
  · obtain ⟨u, e, h⟩ := (show (MixR W4.heap.size (fa)) (ρ 49) W from hh.1)
    exact ⟨_, W, run_extractT (.tmp 49) 0 #[u, .nilIface] _ rfl e rfl, Rely.Ext.refl _, h⟩
  refine e_runX (rl_ext _) (fun v W => v = .nilIface) (fun _ _ _ _ h => h) (fun ρ W hR hh => ?_) ?_
  · obtain ⟨u, e, h⟩ := (show (MixR W4.heap.size (fa)) (ρ 49) W from hh.1)
    exact ⟨_, W, run_extractT (.tmp 49) 1 #[u, .nilIface] _ rfl e rfl, Rely.Ext.refl _, rfl⟩
  refine e_runX (rl_ext _) (OwnN .u8 5 W4.heap.size (fa)) (OwnN.stable _ _ _ _) (fun ρ W hR hh => ⟨ρ 61, W, by kernel_rfl, Rely.Ext.refl _, (show (OwnN .u8 5 W4.heap.size (fa)) (ρ 61) W from hh.1)⟩) ?_
  refine e_nil (hF _ fun W5 e5 => ?_)
  simp only [List.nil_append, List.cons_append, List.take_succ_cons, List.take_zero, List.drop_succ_cons, List.drop_zero, finE, up]
  intro vv15 hv15 vv16 hv16 vv17 hv17 vv18 hv18 vv19 hv19
  clear hF
  have x5 : Ext w W5 := Ext.tr x4 e5
  obtain ⟨a20_, c20_, rfl, -⟩ := id (OwnN.rd hv17)
  subst hv18
  obtain ⟨a21_, c21_, rfl, -⟩ := id (OwnN.rd hv19)
  refine seq_val (.nilIface) 9 rfl kj kj ?_
  refine seq_nil ?_
  refine hK14 _ _ ?_
  try clear hK14 K14
  refine wp_seq_k fun K22 hK22 => ?_
  refine any_regionE 18 [⟨none, [(2, none)]⟩, ⟨none, [(64, some 0)]⟩, ⟨none, [(2, none)]⟩, ⟨none, [(66, some 2)]⟩, ⟨none, [(2, none)]⟩, ⟨none, [(68, some 4)]⟩, ⟨none, [(5, none)]⟩, ⟨none, [(70, some 6)]⟩, ⟨none, [(69, some 5), (71, some 7)]⟩, ⟨none, [(2, none)]⟩, ⟨none, [(73, some 9)]⟩, ⟨none, [(5, none)]⟩, ⟨none, [(74, some 10), (75, some 11)]⟩, ⟨none, [(65, some 1), (67, some 3), (72, some 8), (76, some 12)]⟩, ⟨none, [(77, some 13)]⟩, ⟨none, [(63, some 14)]⟩, ⟨none, [(63, some 14)]⟩, ⟨none, [(78, some 15)]⟩] kj kj fun F hF => ?_
  refine e_val (rl_ext _) (.pointer (some ⟨g4, 0, none⟩)) kj kj (fun W => by kernel_rfl) ?_
  have r4_5 := (row_ext r4_4 e5)
  refine e_read (rl_ext _) (.agg (ints .u8 (key))) kj kj (fun W hR => (run_load_part 23 _ g4 0 26 _ _ _ (row_ext (row_ext r4_5 (ext_drew _)) hR) rfl kj (cat_part [] [ints .u8 (key)] [#[.slice a_n nonce.length c_n], #[.int .i64 number], #[.slice a_t text.length c_t]] 0 kj) kj (isz (n := 32) kj ((ints_size _ _).trans hkl)))) ?_
  refine e_val (rl_ext _) (.pointer (some ⟨g4, 32, none⟩)) kj kj (fun W => by kernel_rfl) ?_
  refine e_read (rl_ext _) (.slice a_n nonce.length c_n) kj kj (fun W hR => (run_loadC1 24 _ g4 32 26 _ (.slice a_n nonce.length c_n) _ (row_ext (row_ext r4_5 (ext_drew _)) hR) rfl kj (cat_part [ints .u8 (key)] [#[.slice a_n nonce.length c_n]] [#[.int .i64 number], #[.slice a_t text.length c_t]] 32 ((ints_size _ _).trans hkl) 0 _ rfl) kj)) ?_
  refine e_val (rl_ext _) (.pointer (some ⟨g4, 33, none⟩)) kj kj (fun W => by kernel_rfl) ?_
  refine e_read (rl_ext _) (.int .i64 number) kj kj (fun W hR => (run_loadC1 3 _ g4 33 26 _ (.int .i64 number) _ (row_ext (row_ext r4_5 (ext_drew _)) hR) rfl kj (cat_part [ints .u8 (key), #[.slice a_n nonce.length c_n]] [#[.int .i64 number]] [#[.slice a_t text.length c_t]] 33 (by rw [cat_cons, cat_cons]; simp only [Array.size_append, cat, ((ints_size _ _).trans hkl)]; rfl) 0 _ rfl) kj)) ?_
  refine e_val (rl_ext _) (.int .i64 ((64 * q : Nat) : Int)) kj kj (fun W => by kernel_rfl) ?_
  refine e_val (rl_ext _) (.int .i64 (((q : Nat) : Int))) kj kj (fun W => (run_eq (u := .int .i64 (IntKind.i64.wrap (Int.tdiv (((64 * q : Nat) : Int)) (64)))) kj (congrArg (Value.int .i64) ((i64_quo _ 64 (by omega)).trans (congrArg (fun z : Nat => (z : Int)) (by omega)))))) ?_
  refine e_val (rl_ext _) (.int .i64 (number + ((q : Nat) : Int))) kj kj (fun W => (run_eq (u := .int .i64 (IntKind.i64.wrap (number + ((q : Nat) : Int)))) kj (congrArg (Value.int .i64) (IntWalk.i64_in _ (by omega))))) ?_
  refine e_val (rl_ext _) (.pointer (some ⟨g4, 34, none⟩)) kj kj (fun W => by kernel_rfl) ?_
  refine e_read (rl_ext _) (.slice a_t text.length c_t) kj kj (fun W hR => (run_loadC1 24 _ g4 34 26 _ (.slice a_t text.length c_t) _ (row_ext (row_ext r4_5 (ext_drew _)) hR) rfl kj (cat_part [ints .u8 (key), #[.slice a_n nonce.length c_n], #[.int .i64 number]] [#[.slice a_t text.length c_t]] [] 34 (by rw [cat_cons, cat_cons, cat_cons]; simp only [Array.size_append, cat, ((ints_size _ _).trans hkl)]; rfl) 0 _ rfl) kj)) ?_
  refine e_val (rl_ext _) (.int .i64 ((64 * q : Nat) : Int)) kj kj (fun W => by kernel_rfl) ?_
  refine e_val (rl_ext _) (.slice (restA a_t c_t (64 * q)) (text.length - (64 * q)) (c_t - (64 * q))) kj kj (fun W => (run_sliceD 24 _ _ (64 * q) 5 rfl kj kj kj .i64 kj hk ctk)) ?_
  have r2_5 := (row_ext r2_4 e5)
  have r1_5 := (row_ext r1_4 e5)
  refine e_callG (rl_ext _) (MixR W5.heap.size (fb)) (mixR_stable _ _) 19 #[.agg (ints .u8 (key)), .slice a_n nonce.length c_n, .int .i64 (number + ((q : Nat) : Int)), .slice (restA a_t c_t (64 * q)) (text.length - (64 * q)) (c_t - (64 * q))] kj kj (fun W => by kernel_rfl) (fun W hR => (eb ▸ MixG W5.heap.size key nonce (text.drop (64 * q)) _ _ _ _ (number + ((q : Nat) : Int)) th tq W (row_ext (row_ext r2_5 (ext_drew _)) hR) (row_ext (row_ext r1_5 (ext_drew _)) hR) hkl (RdK.ext (RdK.ext hn x5) (Rely.Ext.trans (ext_drew _) hR)) (RdK.ext (rdK_drop (RdK.ext ht x5) (64 * q) hk) (Rely.Ext.trans (ext_drew _) hR)) h (r - q) (by omega) (by omega) (by omega) (by rw [List.length_drop]; omega) (by rw [List.length_drop]; omega) (Rely.Ext.trans (ext_drew _) hR).size)) ?_
  refine e_runX (rl_ext _) (MixR W5.heap.size (fb)) (mixR_stable _ _) (fun ρ W hR hh => ⟨ρ 77, W, by kernel_rfl, Rely.Ext.refl _, (show (MixR W5.heap.size (fb)) (ρ 77) W from hh.1)⟩) ?_
  refine e_runX (rl_ext _) (OwnN .u8 5 W5.heap.size (fb)) (OwnN.stable _ _ _ _) (fun ρ W hR hh => ?_) ?_
  · obtain ⟨u, e, h⟩ := (show (MixR W5.heap.size (fb)) (ρ 63) W from hh.1)
    exact ⟨_, W, run_extractT (.tmp 63) 0 #[u, .nilIface] _ rfl e rfl, Rely.Ext.refl _, h⟩
  refine e_runX (rl_ext _) (fun v W => v = .nilIface) (fun _ _ _ _ h => h) (fun ρ W hR hh => ?_) ?_
  · obtain ⟨u, e, h⟩ := (show (MixR W5.heap.size (fb)) (ρ 63) W from hh.1)
    exact ⟨_, W, run_extractT (.tmp 63) 1 #[u, .nilIface] _ rfl e rfl, Rely.Ext.refl _, rfl⟩
  refine e_runX (rl_ext _) (OwnN .u8 5 W5.heap.size (fb)) (OwnN.stable _ _ _ _) (fun ρ W hR hh => ⟨ρ 78, W, by kernel_rfl, Rely.Ext.refl _, (show (OwnN .u8 5 W5.heap.size (fb)) (ρ 78) W from hh.1)⟩) ?_
  refine e_nil (hF _ fun W6 e6 => ?_)
  simp only [List.nil_append, List.cons_append, List.take_succ_cons, List.take_zero, List.drop_succ_cons, List.drop_zero, finE, up]
  intro vv23 hv23 vv24 hv24 vv25 hv25 vv26 hv26 vv27 hv27
  clear hF
  have x6 : Ext w W6 := Ext.tr x5 e6
  obtain ⟨a28_, c28_, rfl, -⟩ := id (OwnN.rd hv25)
  subst hv26
  obtain ⟨a29_, c29_, rfl, -⟩ := id (OwnN.rd hv27)
  refine seq_val (.nilIface) 11 rfl kj kj ?_
  refine seq_nil ?_
  refine hK22 _ _ ?_
  try clear hK22 K22
  refine wp_seq_k fun K30 hK30 => ?_
  refine wp_seq_k fun K31 hK31 => ?_
  refine region_lit ?_
  refine seq_val (.nilIface) 80 rfl kj kj ?_
  refine seq_val (.bool false) 81 rfl kj kj ?_
  refine seq_nil ?_
  refine hK31 _ _ ?_
  try clear hK31 K31
  refine cond_false kj ?_
  refine wp_skip ?_
  refine hK30 _ _ ?_
  try clear hK30 K30
  refine wp_seq_k fun K32 hK32 => ?_
  refine region_lit ?_
  refine seq_val (.nilIface) 93 rfl kj kj ?_
  refine seq_val (.bool true) 94 rfl kj kj ?_
  refine seq_val (.bool true) 95 rfl kj kj ?_
  refine seq_val (.nilIface) 96 rfl kj kj ?_
  refine seq_val (.bool true) 97 rfl kj kj ?_
  refine seq_val (.bool true) 98 rfl kj kj ?_
  refine seq_val (.bool true) 99 rfl kj kj ?_
  refine seq_val (.slice a13_ ((fm).length) c13_) 100 rfl kj kj ?_
  refine seq_val (.slice a21_ ((fa).length) c21_) 101 rfl kj kj ?_
  refine seq_val (.slice a29_ ((fb).length) c29_) 102 rfl kj kj ?_
  have f33_6 := (hv19.ext e6)
  have y4_5 : Ext W4 W5 := (Rely.Ext.trans (Rely.Ext.refl W4) e5)
  have y4_6 : Ext W4 W6 := (Rely.Ext.trans y4_5 e6)
  refine seq_appendN (k := .u8) (T := 5) (xs := fa) (ys := fb) (V := W4) 1 (.tmp 101) (.tmp 102) 24 rfl kj kj (by decide) 103 rfl kj kj kj f33_6 (OwnN.rd hv27) (by rw [lfa, lfb]; omega) y4_6 fun zj W7 f34 y7 l7 => ?_
  have x7 : Ext w W7 := Ext.low x6 l7 x4.size
  have f36_5 := (hu12_.ext e5)
  have f37_6 := (f36_5.ext e6)
  have f38_7 := (OwnN.low (n := 0) f37_6 hu12_ l7)
  refine seq_call (.bool true) 21 #[.slice a13_ ((fm).length) c13_, zj] 104 rfl kj kj ((sameT _ _ _ _ _ ejn (RdK.bytes (OwnN.rd f38_7) hfb) (RdK.bytes (OwnN.rd f34) hab))) fun W8 e8 => ?_
  have x8 : Ext w W8 := Ext.tr x7 e8
  refine seq_val (.bool true) 105 rfl kj kj ?_
  refine seq_val (.bool true) 4 rfl kj kj ?_
  refine seq_nil ?_
  refine hK32 _ _ ?_
  try clear hK32 K32
  refine wp_ret ?_
  repeat (first | with_reducible refine goR1 ?_ | with_reducible refine goR2 ?_)
  exact (show bodyPost _ _ _ .ret _ _ from ret1 (.bool true) rfl (res_tmp kj) ⟨rfl, x8⟩)
theorem lawJoins (key nonce text : List Int) (a_n a_t : Option Addr) (c_n c_t : Nat) (number : Int) (th tq : TypeId) (w : World) (hh : w.heap[1]? = some (.cells (ints .u32 [1634760805, 857760878, 2036477234, 1797285236]) th)) (hq : w.heap[0]? = some (.cells (ints .i64 [0, 4, 8, 12, 1, 5, 9, 13, 2, 6, 10, 14, 3, 7, 11, 15, 0, 5, 10, 15, 1, 6, 11, 12, 2, 7, 8, 13, 3, 4, 9, 14]) tq)) (hkl : key.length = 32) (hkb : AreBytes key) (hnb : AreBytes nonce) (htb : AreBytes text) (hn : RdK .u8 w.heap.size nonce (.slice a_n nonce.length c_n) w) (ht : RdK .u8 w.heap.size text (.slice a_t text.length c_t) w) (cut : Int) : Calls Tryd.prog 6 #[.agg (cat [ints .u8 key, #[.slice a_n nonce.length c_n], #[.int .i64 number], #[.slice a_t text.length c_t]]), .int .i64 cut] w (Ret w (.bool true)) := by
  rcases Nat.lt_or_ge 1000 nonce.length with h | hs1
  · exact lawJoins_L key nonce text a_n a_t c_n c_t number th tq w hh hq hkl hkb hnb htb hn ht cut h
  rcases Nat.lt_or_ge 1000 text.length with h | hs2
  · exact lawJoins_M key nonce text a_n a_t c_n c_t number th tq w hh hq hkl hkb hnb htb hn ht cut hs1 h
  rcases Int.lt_or_le number 0 with h1 | h1
  · exact lawJoins_B key nonce text a_n a_t c_n c_t number th tq w hh hq hkl hkb hnb htb hn ht cut hs1 hs2 h1
  rcases Int.lt_or_le 2147483648 number with h2 | h2
  · exact lawJoins_C key nonce text a_n a_t c_n c_t number th tq w hh hq hkl hkb hnb htb hn ht cut hs1 hs2 h1 h2
  by_cases h : nonce.length = 12
  · obtain ⟨r, hr⟩ : ∃ r : Nat, number + (r : Int) = 4294967296 := ⟨(4294967296 - number).toNat, by omega⟩
    exact lawJoins_D key nonce text a_n a_t c_n c_t number th tq w hh hq hkl hkb hnb htb hn ht cut hs1 hs2 h1 h2 h r hr
  · exact lawJoins_A key nonce text a_n a_t c_n c_t number th tq w hh hq hkl hkb hnb htb hn ht cut hs1 hs2 h1 h2 h
theorem lawJoinsF (key nonce text : List Int) (a_n a_t : Option Addr) (ln c_n lt c_t : Nat) (number : Int) (th tq : TypeId) (w : World) (hh : w.heap[1]? = some (.cells (ints .u32 [1634760805, 857760878, 2036477234, 1797285236]) th)) (hq : w.heap[0]? = some (.cells (ints .i64 [0, 4, 8, 12, 1, 5, 9, 13, 2, 6, 10, 14, 3, 7, 11, 15, 0, 5, 10, 15, 1, 6, 11, 12, 2, 7, 8, 13, 3, 4, 9, 14]) tq)) (hkl : key.length = 32) (hkb : AreBytes key) (hnb : AreBytes nonce) (htb : AreBytes text) (hn : RdK .u8 w.heap.size nonce (.slice a_n ln c_n) w) (ht : RdK .u8 w.heap.size text (.slice a_t lt c_t) w) (eln : nonce.length = ln) (elt : text.length = lt) (cut : Int) : Calls Tryd.prog 6 #[.agg ((key.map (Value.int .u8) ++ [Value.slice a_n ln c_n] ++ [Value.int .i64 number] ++ [Value.slice a_t lt c_t]).toArray), .int .i64 cut] w (Ret w (.bool true)) := by
  subst eln elt
  rw [cat_st]
  exact lawJoins key nonce text a_n a_t c_n c_t number th tq w hh hq hkl hkb hnb htb hn ht cut

end Go.Proofs.YticjghmgbmjkiaaDoor.Cha
