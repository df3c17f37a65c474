/- Open. -/
import Derived.Test.YtjldjdlhllgakaaDoorAeI
import Derived.Laws.Externs
import Derived.Shelf.Spec.BitsCarry
import Derived.Shelf.Bits.Mul64
import Derived.Laws.Bits64b
namespace Go.Proofs.YtjldjdlhllgakaaDoor.Ae
open Go Go.RowKit
open Go.Proofs.YtjldjdlhllgakaaDoor.Rely Go.Proofs.YtjldjdlhllgakaaDoor.Auto Go.Proofs.YtjldjdlhllgakaaDoor.Own Go.Proofs.YtjldjdlhllgakaaDoor.Sha
set_option linter.unusedVariables false
set_option linter.unusedSimpArgs false

open Go.Proofs.YtjldjdlhllgakaaDoor.Sha Go.Proofs.YtjldjdlhllgakaaDoor.Cha
theorem i64_sub16 (n : Nat) (h : 16 ≤ n) (hm : n ≤ maxLen) : IntKind.i64.wrap (((n : Nat) : Int) - 16) = ((n - 16 : Nat) : Int) := by
  rw [show ((n : Nat) : Int) - 16 = ((n - 16 : Nat) : Int) by omega]
  exact IntWalk.i64_in _ (by rw [maxLen] at hm; omega)
set_option maxRecDepth 100000 in
set_option maxHeartbeats 4000000 in
theorem Open_A (key nonce ctx sl : List Int) (v v2 v3 : Value) (B B2 B3 : Nat) (th tq : TypeId) (w : World) (hh : w.heap[0]? = some (.cells (ints .u32 [1634760805, 857760878, 2036477234, 1797285236]) th)) (hq : w.heap[1]? = some (.cells (ints .i64 [0, 4, 8, 12, 1, 5, 9, 13, 2, 6, 10, 14, 3, 7, 11, 15, 0, 5, 10, 15, 1, 6, 11, 12, 2, 7, 8, 13, 3, 4, 9, 14]) tq)) (hkl : key.length = 32) (hn : RdK .u8 B nonce v w) (hc : RdK .u8 B2 ctx v2 w) (ht : RdK .u8 B3 sl v3 w) (hcb : AreBytes ctx) (htb : AreBytes sl) (h : nonce.length ≠ 12) :
    Calls Tryd.prog 20 #[.agg (ints .u8 key), v, v2, v3] w (Ret w (.tuple #[.slice none 0 0, .iface 45 (.int .i64 1)])) := by
  obtain ⟨a_n, c_n, rfl, -⟩ := id hn
  obtain ⟨a_c, c_c, rfl, -⟩ := id hc
  obtain ⟨a_t, c_t, rfl, -⟩ := id ht
  have ctk : sl.length ≤ c_t := by
    obtain ⟨_, _, e, q2, _⟩ := id ht
    simp only [Value.slice.injEq] at e
    obtain ⟨-, -, rfl⟩ := e
    exact q2
  have htm : sl.length ≤ maxLen := RdK.len ht
  have hlt_ : (sl.take (sl.length - 16)).length = sl.length - 16 := by rw [List.length_take]; omega
  refine enter 64 [(0, .agg (ints .u8 (key))), (1, .slice a_n nonce.length c_n), (2, .slice a_c ctx.length c_c), (3, .slice a_t sl.length c_t)] Tryd.func20 rfl rfl kj rfl ?_
  refine wp_seq_k fun K3 hK3 => ?_
  refine region_lit ?_
  refine seq_alloc (ints .u8 (key)) 23 4 rfl kj kj fun g4 W1 l4 e1 r4_1 => ?_
  have x1 : Ext w W1 := Ext.tr (Rely.Ext.refl w) e1
  have b4 : w.heap.size ≤ g4 := Nat.le_trans (Rely.Ext.refl w).size l4
  refine seq_val (.slice none 0 0) 8 rfl kj kj ?_
  refine seq_val (.nilIface) 9 rfl kj kj ?_
  refine seq_nil ?_
  refine hK3 _ _ ?_
  try clear hK3 K3
  refine wp_seq_k fun K5 hK5 => ?_
  refine wp_seq_k fun K6 hK6 => ?_
  refine region_lit ?_
  refine seq_val (.slice a_n nonce.length c_n) 14 rfl kj kj ?_
  refine seq_val (.int .i64 ((nonce.length : Nat) : Int)) 15 rfl kj kj ?_
  refine seq_val (.bool true) 16 rfl kj (run_eq (u := .bool ((((nonce.length : Nat) : Int) != 12))) kj (congrArg Value.bool (bne_iff_ne.2 (by omega)))) ?_
  refine seq_val (.bool true) 17 rfl kj kj ?_
  refine seq_skip 18 rfl kj ?_
  refine seq_skip 19 rfl kj ?_
  refine seq_skip 20 rfl kj ?_
  refine seq_val (.bool true) 21 rfl kj kj ?_
  refine seq_val (.bool true) 22 rfl kj kj ?_
  refine seq_skip 23 rfl kj ?_
  refine seq_skip 24 rfl kj ?_
  refine seq_skip 25 rfl kj ?_
  refine seq_val (.bool true) 26 rfl kj kj ?_
  refine seq_nil ?_
  refine hK6 _ _ ?_
  try clear hK6 K6
  refine cond_true kj ?_
  refine wp_seq_k fun K7 hK7 => ?_
  refine region_lit ?_
  refine seq_val (.iface 45 (.int .i64 1)) 27 rfl kj kj ?_
  refine seq_val (.slice none 0 0) 8 rfl kj kj ?_
  refine seq_val (.iface 45 (.int .i64 1)) 9 rfl kj kj ?_
  refine seq_nil ?_
  refine hK7 _ _ ?_
  try clear hK7 K7
  refine wp_ret ?_
  repeat (first | with_reducible refine goR1 ?_ | with_reducible refine goR2 ?_)
  exact (show bodyPost _ _ _ .ret _ _ from ret2 (.slice none 0 0) (.iface 45 (.int .i64 1)) rfl (res_tmp kj) (res_tmp kj) ⟨rfl, x1⟩)
set_option maxRecDepth 100000 in
set_option maxHeartbeats 4000000 in
theorem Open_B (key nonce ctx sl : List Int) (v v2 v3 : Value) (B B2 B3 : Nat) (th tq : TypeId) (w : World) (hh : w.heap[0]? = some (.cells (ints .u32 [1634760805, 857760878, 2036477234, 1797285236]) th)) (hq : w.heap[1]? = some (.cells (ints .i64 [0, 4, 8, 12, 1, 5, 9, 13, 2, 6, 10, 14, 3, 7, 11, 15, 0, 5, 10, 15, 1, 6, 11, 12, 2, 7, 8, 13, 3, 4, 9, 14]) tq)) (hkl : key.length = 32) (hn : RdK .u8 B nonce v w) (hc : RdK .u8 B2 ctx v2 w) (ht : RdK .u8 B3 sl v3 w) (hcb : AreBytes ctx) (htb : AreBytes sl) (h : nonce.length = 12) (hcl : 1048592 < ctx.length) :
    Calls Tryd.prog 20 #[.agg (ints .u8 key), v, v2, v3] w (Ret w (.tuple #[.slice none 0 0, .iface 45 (.int .i64 1)])) := by
  obtain ⟨a_n, c_n, rfl, -⟩ := id hn
  obtain ⟨a_c, c_c, rfl, -⟩ := id hc
  obtain ⟨a_t, c_t, rfl, -⟩ := id ht
  have ctk : sl.length ≤ c_t := by
    obtain ⟨_, _, e, q2, _⟩ := id ht
    simp only [Value.slice.injEq] at e
    obtain ⟨-, -, rfl⟩ := e
    exact q2
  have htm : sl.length ≤ maxLen := RdK.len ht
  have hlt_ : (sl.take (sl.length - 16)).length = sl.length - 16 := by rw [List.length_take]; omega
  refine enter 64 [(0, .agg (ints .u8 (key))), (1, .slice a_n nonce.length c_n), (2, .slice a_c ctx.length c_c), (3, .slice a_t sl.length c_t)] Tryd.func20 rfl rfl kj rfl ?_
  refine wp_seq_k fun K3 hK3 => ?_
  refine region_lit ?_
  refine seq_alloc (ints .u8 (key)) 23 4 rfl kj kj fun g4 W1 l4 e1 r4_1 => ?_
  have x1 : Ext w W1 := Ext.tr (Rely.Ext.refl w) e1
  have b4 : w.heap.size ≤ g4 := Nat.le_trans (Rely.Ext.refl w).size l4
  refine seq_val (.slice none 0 0) 8 rfl kj kj ?_
  refine seq_val (.nilIface) 9 rfl kj kj ?_
  refine seq_nil ?_
  refine hK3 _ _ ?_
  try clear hK3 K3
  refine wp_seq_k fun K5 hK5 => ?_
  refine wp_seq_k fun K6 hK6 => ?_
  refine region_lit ?_
  refine seq_val (.slice a_n nonce.length c_n) 14 rfl kj kj ?_
  refine seq_val (.int .i64 ((nonce.length : Nat) : Int)) 15 rfl kj kj ?_
  refine seq_val (.bool false) 16 rfl kj (run_eq (u := .bool ((((nonce.length : Nat) : Int) != 12))) kj (congrArg Value.bool (by rw [h]; rfl))) ?_
  refine seq_val (.bool false) 17 rfl kj kj ?_
  refine seq_val (.slice a_c ctx.length c_c) 18 rfl kj kj ?_
  refine seq_val (.int .i64 ((ctx.length : Nat) : Int)) 19 rfl kj kj ?_
  refine seq_val (.bool true) 20 rfl kj (run_eq (u := .bool (decide (((ctx.length : Nat) : Int) > 1048592))) kj (congrArg Value.bool (decide_eq_true (by omega)))) ?_
  refine seq_val (.bool true) 21 rfl kj kj ?_
  refine seq_val (.bool true) 22 rfl kj kj ?_
  refine seq_skip 23 rfl kj ?_
  refine seq_skip 24 rfl kj ?_
  refine seq_skip 25 rfl kj ?_
  refine seq_val (.bool true) 26 rfl kj kj ?_
  refine seq_nil ?_
  refine hK6 _ _ ?_
  try clear hK6 K6
  refine cond_true kj ?_
  refine wp_seq_k fun K7 hK7 => ?_
  refine region_lit ?_
  refine seq_val (.iface 45 (.int .i64 1)) 27 rfl kj kj ?_
  refine seq_val (.slice none 0 0) 8 rfl kj kj ?_
  refine seq_val (.iface 45 (.int .i64 1)) 9 rfl kj kj ?_
  refine seq_nil ?_
  refine hK7 _ _ ?_
  try clear hK7 K7
  refine wp_ret ?_
  repeat (first | with_reducible refine goR1 ?_ | with_reducible refine goR2 ?_)
  exact (show bodyPost _ _ _ .ret _ _ from ret2 (.slice none 0 0) (.iface 45 (.int .i64 1)) rfl (res_tmp kj) (res_tmp kj) ⟨rfl, x1⟩)
set_option maxRecDepth 100000 in
set_option maxHeartbeats 4000000 in
theorem Open_C (key nonce ctx sl : List Int) (v v2 v3 : Value) (B B2 B3 : Nat) (th tq : TypeId) (w : World) (hh : w.heap[0]? = some (.cells (ints .u32 [1634760805, 857760878, 2036477234, 1797285236]) th)) (hq : w.heap[1]? = some (.cells (ints .i64 [0, 4, 8, 12, 1, 5, 9, 13, 2, 6, 10, 14, 3, 7, 11, 15, 0, 5, 10, 15, 1, 6, 11, 12, 2, 7, 8, 13, 3, 4, 9, 14]) tq)) (hkl : key.length = 32) (hn : RdK .u8 B nonce v w) (hc : RdK .u8 B2 ctx v2 w) (ht : RdK .u8 B3 sl v3 w) (hcb : AreBytes ctx) (htb : AreBytes sl) (h : nonce.length = 12) (hcl : ctx.length ≤ 1048592) (hxl : 1048592 < sl.length) :
    Calls Tryd.prog 20 #[.agg (ints .u8 key), v, v2, v3] w (Ret w (.tuple #[.slice none 0 0, .iface 45 (.int .i64 1)])) := by
  obtain ⟨a_n, c_n, rfl, -⟩ := id hn
  obtain ⟨a_c, c_c, rfl, -⟩ := id hc
  obtain ⟨a_t, c_t, rfl, -⟩ := id ht
  have ctk : sl.length ≤ c_t := by
    obtain ⟨_, _, e, q2, _⟩ := id ht
    simp only [Value.slice.injEq] at e
    obtain ⟨-, -, rfl⟩ := e
    exact q2
  have htm : sl.length ≤ maxLen := RdK.len ht
  have hlt_ : (sl.take (sl.length - 16)).length = sl.length - 16 := by rw [List.length_take]; omega
  refine enter 64 [(0, .agg (ints .u8 (key))), (1, .slice a_n nonce.length c_n), (2, .slice a_c ctx.length c_c), (3, .slice a_t sl.length c_t)] Tryd.func20 rfl rfl kj rfl ?_
  refine wp_seq_k fun K3 hK3 => ?_
  refine region_lit ?_
  refine seq_alloc (ints .u8 (key)) 23 4 rfl kj kj fun g4 W1 l4 e1 r4_1 => ?_
  have x1 : Ext w W1 := Ext.tr (Rely.Ext.refl w) e1
  have b4 : w.heap.size ≤ g4 := Nat.le_trans (Rely.Ext.refl w).size l4
  refine seq_val (.slice none 0 0) 8 rfl kj kj ?_
  refine seq_val (.nilIface) 9 rfl kj kj ?_
  refine seq_nil ?_
  refine hK3 _ _ ?_
  try clear hK3 K3
  refine wp_seq_k fun K5 hK5 => ?_
  refine wp_seq_k fun K6 hK6 => ?_
  refine region_lit ?_
  refine seq_val (.slice a_n nonce.length c_n) 14 rfl kj kj ?_
  refine seq_val (.int .i64 ((nonce.length : Nat) : Int)) 15 rfl kj kj ?_
  refine seq_val (.bool false) 16 rfl kj (run_eq (u := .bool ((((nonce.length : Nat) : Int) != 12))) kj (congrArg Value.bool (by rw [h]; rfl))) ?_
  refine seq_val (.bool false) 17 rfl kj kj ?_
  refine seq_val (.slice a_c ctx.length c_c) 18 rfl kj kj ?_
  refine seq_val (.int .i64 ((ctx.length : Nat) : Int)) 19 rfl kj kj ?_
  refine seq_val (.bool false) 20 rfl kj (run_eq (u := .bool (decide (((ctx.length : Nat) : Int) > 1048592))) kj (congrArg Value.bool (decide_eq_false (by omega)))) ?_
  refine seq_val (.bool false) 21 rfl kj kj ?_
  refine seq_val (.bool false) 22 rfl kj kj ?_
  refine seq_val (.slice a_t sl.length c_t) 23 rfl kj kj ?_
  refine seq_val (.int .i64 ((sl.length : Nat) : Int)) 24 rfl kj kj ?_
  refine seq_val (.bool true) 25 rfl kj (run_eq (u := .bool (decide (((sl.length : Nat) : Int) > 1048592))) kj (congrArg Value.bool (decide_eq_true (by omega)))) ?_
  refine seq_val (.bool true) 26 rfl kj kj ?_
  refine seq_nil ?_
  refine hK6 _ _ ?_
  try clear hK6 K6
  refine cond_true kj ?_
  refine wp_seq_k fun K7 hK7 => ?_
  refine region_lit ?_
  refine seq_val (.iface 45 (.int .i64 1)) 27 rfl kj kj ?_
  refine seq_val (.slice none 0 0) 8 rfl kj kj ?_
  refine seq_val (.iface 45 (.int .i64 1)) 9 rfl kj kj ?_
  refine seq_nil ?_
  refine hK7 _ _ ?_
  try clear hK7 K7
  refine wp_ret ?_
  repeat (first | with_reducible refine goR1 ?_ | with_reducible refine goR2 ?_)
  exact (show bodyPost _ _ _ .ret _ _ from ret2 (.slice none 0 0) (.iface 45 (.int .i64 1)) rfl (res_tmp kj) (res_tmp kj) ⟨rfl, x1⟩)
set_option maxRecDepth 100000 in
set_option maxHeartbeats 4000000 in
theorem Open_S (key nonce ctx sl : List Int) (v v2 v3 : Value) (B B2 B3 : Nat) (th tq : TypeId) (w : World) (hh : w.heap[0]? = some (.cells (ints .u32 [1634760805, 857760878, 2036477234, 1797285236]) th)) (hq : w.heap[1]? = some (.cells (ints .i64 [0, 4, 8, 12, 1, 5, 9, 13, 2, 6, 10, 14, 3, 7, 11, 15, 0, 5, 10, 15, 1, 6, 11, 12, 2, 7, 8, 13, 3, 4, 9, 14]) tq)) (hkl : key.length = 32) (hn : RdK .u8 B nonce v w) (hc : RdK .u8 B2 ctx v2 w) (ht : RdK .u8 B3 sl v3 w) (hcb : AreBytes ctx) (htb : AreBytes sl) (h : nonce.length = 12) (hcl : ctx.length ≤ 1048592) (hxl : sl.length ≤ 1048592) (hsh : sl.length < 16) :
    Calls Tryd.prog 20 #[.agg (ints .u8 key), v, v2, v3] w (Ret w (.tuple #[.slice none 0 0, .iface 45 (.int .i64 2)])) := by
  obtain ⟨a_n, c_n, rfl, -⟩ := id hn
  obtain ⟨a_c, c_c, rfl, -⟩ := id hc
  obtain ⟨a_t, c_t, rfl, -⟩ := id ht
  have ctk : sl.length ≤ c_t := by
    obtain ⟨_, _, e, q2, _⟩ := id ht
    simp only [Value.slice.injEq] at e
    obtain ⟨-, -, rfl⟩ := e
    exact q2
  have htm : sl.length ≤ maxLen := RdK.len ht
  have hlt_ : (sl.take (sl.length - 16)).length = sl.length - 16 := by rw [List.length_take]; omega
  refine enter 64 [(0, .agg (ints .u8 (key))), (1, .slice a_n nonce.length c_n), (2, .slice a_c ctx.length c_c), (3, .slice a_t sl.length c_t)] Tryd.func20 rfl rfl kj rfl ?_
  refine wp_seq_k fun K3 hK3 => ?_
  refine region_lit ?_
  refine seq_alloc (ints .u8 (key)) 23 4 rfl kj kj fun g4 W1 l4 e1 r4_1 => ?_
  have x1 : Ext w W1 := Ext.tr (Rely.Ext.refl w) e1
  have b4 : w.heap.size ≤ g4 := Nat.le_trans (Rely.Ext.refl w).size l4
  refine seq_val (.slice none 0 0) 8 rfl kj kj ?_
  refine seq_val (.nilIface) 9 rfl kj kj ?_
  refine seq_nil ?_
  refine hK3 _ _ ?_
  try clear hK3 K3
  refine wp_seq_k fun K5 hK5 => ?_
  refine wp_seq_k fun K6 hK6 => ?_
  refine region_lit ?_
  refine seq_val (.slice a_n nonce.length c_n) 14 rfl kj kj ?_
  refine seq_val (.int .i64 ((nonce.length : Nat) : Int)) 15 rfl kj kj ?_
  refine seq_val (.bool false) 16 rfl kj (run_eq (u := .bool ((((nonce.length : Nat) : Int) != 12))) kj (congrArg Value.bool (by rw [h]; rfl))) ?_
  refine seq_val (.bool false) 17 rfl kj kj ?_
  refine seq_val (.slice a_c ctx.length c_c) 18 rfl kj kj ?_
  refine seq_val (.int .i64 ((ctx.length : Nat) : Int)) 19 rfl kj kj ?_
  refine seq_val (.bool false) 20 rfl kj (run_eq (u := .bool (decide (((ctx.length : Nat) : Int) > 1048592))) kj (congrArg Value.bool (decide_eq_false (by omega)))) ?_
  refine seq_val (.bool false) 21 rfl kj kj ?_
  refine seq_val (.bool false) 22 rfl kj kj ?_
  refine seq_val (.slice a_t sl.length c_t) 23 rfl kj kj ?_
  refine seq_val (.int .i64 ((sl.length : Nat) : Int)) 24 rfl kj kj ?_
  refine seq_val (.bool false) 25 rfl kj (run_eq (u := .bool (decide (((sl.length : Nat) : Int) > 1048592))) kj (congrArg Value.bool (decide_eq_false (by omega)))) ?_
  refine seq_val (.bool false) 26 rfl kj kj ?_
  refine seq_nil ?_
  refine hK6 _ _ ?_
  try clear hK6 K6
  refine cond_false kj ?_
  refine wp_skip ?_
  refine hK5 _ _ ?_
  try clear hK5 K5
  refine wp_seq_k fun K7 hK7 => ?_
  refine wp_seq_k fun K8 hK8 => ?_
  refine region_lit ?_
  refine seq_val (.slice a_t sl.length c_t) 28 rfl kj kj ?_
  refine seq_val (.int .i64 ((sl.length : Nat) : Int)) 29 rfl kj kj ?_
  refine seq_val (.bool true) 30 rfl kj (run_eq (u := .bool (decide (((sl.length : Nat) : Int) < 16))) kj (congrArg Value.bool (decide_eq_true (by omega)))) ?_
  refine seq_nil ?_
  refine hK8 _ _ ?_
  try clear hK8 K8
  refine cond_true kj ?_
  refine wp_seq_k fun K9 hK9 => ?_
  refine region_lit ?_
  refine seq_val (.iface 45 (.int .i64 2)) 31 rfl kj kj ?_
  refine seq_val (.slice none 0 0) 8 rfl kj kj ?_
  refine seq_val (.iface 45 (.int .i64 2)) 9 rfl kj kj ?_
  refine seq_nil ?_
  refine hK9 _ _ ?_
  try clear hK9 K9
  refine wp_ret ?_
  repeat (first | with_reducible refine goR1 ?_ | with_reducible refine goR2 ?_)
  exact (show bodyPost _ _ _ .ret _ _ from ret2 (.slice none 0 0) (.iface 45 (.int .i64 2)) rfl (res_tmp kj) (res_tmp kj) ⟨rfl, x1⟩)
set_option maxRecDepth 100000 in
set_option maxHeartbeats 4000000 in
theorem Open_N (key nonce ctx sl : List Int) (v v2 v3 : Value) (B B2 B3 : Nat) (th tq : TypeId) (w : World) (hh : w.heap[0]? = some (.cells (ints .u32 [1634760805, 857760878, 2036477234, 1797285236]) th)) (hq : w.heap[1]? = some (.cells (ints .i64 [0, 4, 8, 12, 1, 5, 9, 13, 2, 6, 10, 14, 3, 7, 11, 15, 0, 5, 10, 15, 1, 6, 11, 12, 2, 7, 8, 13, 3, 4, 9, 14]) tq)) (hkl : key.length = 32) (hn : RdK .u8 B nonce v w) (hc : RdK .u8 B2 ctx v2 w) (ht : RdK .u8 B3 sl v3 w) (hcb : AreBytes ctx) (htb : AreBytes sl) (h : nonce.length = 12) (hcl : ctx.length ≤ 1048592) (hxl : sl.length ≤ 1048592) (hsh : 16 ≤ sl.length) (hne : authV key nonce ctx (sl.take (sl.length - 16)) ≠ sl.drop (sl.length - 16)) :
    Calls Tryd.prog 20 #[.agg (ints .u8 key), v, v2, v3] w (Ret w (.tuple #[.slice none 0 0, .iface 45 (.int .i64 2)])) := by
  obtain ⟨a_n, c_n, rfl, -⟩ := id hn
  obtain ⟨a_c, c_c, rfl, -⟩ := id hc
  obtain ⟨a_t, c_t, rfl, -⟩ := id ht
  have ctk : sl.length ≤ c_t := by
    obtain ⟨_, _, e, q2, _⟩ := id ht
    simp only [Value.slice.injEq] at e
    obtain ⟨-, -, rfl⟩ := e
    exact q2
  have htm : sl.length ≤ maxLen := RdK.len ht
  have hlt_ : (sl.take (sl.length - 16)).length = sl.length - 16 := by rw [List.length_take]; omega
  refine enter 64 [(0, .agg (ints .u8 (key))), (1, .slice a_n nonce.length c_n), (2, .slice a_c ctx.length c_c), (3, .slice a_t sl.length c_t)] Tryd.func20 rfl rfl kj rfl ?_
  refine wp_seq_k fun K3 hK3 => ?_
  refine region_lit ?_
  refine seq_alloc (ints .u8 (key)) 23 4 rfl kj kj fun g4 W1 l4 e1 r4_1 => ?_
  have x1 : Ext w W1 := Ext.tr (Rely.Ext.refl w) e1
  have b4 : w.heap.size ≤ g4 := Nat.le_trans (Rely.Ext.refl w).size l4
  refine seq_val (.slice none 0 0) 8 rfl kj kj ?_
  refine seq_val (.nilIface) 9 rfl kj kj ?_
  refine seq_nil ?_
  refine hK3 _ _ ?_
  try clear hK3 K3
  refine wp_seq_k fun K5 hK5 => ?_
  refine wp_seq_k fun K6 hK6 => ?_
  refine region_lit ?_
  refine seq_val (.slice a_n nonce.length c_n) 14 rfl kj kj ?_
  refine seq_val (.int .i64 ((nonce.length : Nat) : Int)) 15 rfl kj kj ?_
  refine seq_val (.bool false) 16 rfl kj (run_eq (u := .bool ((((nonce.length : Nat) : Int) != 12))) kj (congrArg Value.bool (by rw [h]; rfl))) ?_
  refine seq_val (.bool false) 17 rfl kj kj ?_
  refine seq_val (.slice a_c ctx.length c_c) 18 rfl kj kj ?_
  refine seq_val (.int .i64 ((ctx.length : Nat) : Int)) 19 rfl kj kj ?_
  refine seq_val (.bool false) 20 rfl kj (run_eq (u := .bool (decide (((ctx.length : Nat) : Int) > 1048592))) kj (congrArg Value.bool (decide_eq_false (by omega)))) ?_
  refine seq_val (.bool false) 21 rfl kj kj ?_
  refine seq_val (.bool false) 22 rfl kj kj ?_
  refine seq_val (.slice a_t sl.length c_t) 23 rfl kj kj ?_
  refine seq_val (.int .i64 ((sl.length : Nat) : Int)) 24 rfl kj kj ?_
  refine seq_val (.bool false) 25 rfl kj (run_eq (u := .bool (decide (((sl.length : Nat) : Int) > 1048592))) kj (congrArg Value.bool (decide_eq_false (by omega)))) ?_
  refine seq_val (.bool false) 26 rfl kj kj ?_
  refine seq_nil ?_
  refine hK6 _ _ ?_
  try clear hK6 K6
  refine cond_false kj ?_
  refine wp_skip ?_
  refine hK5 _ _ ?_
  try clear hK5 K5
  refine wp_seq_k fun K7 hK7 => ?_
  refine wp_seq_k fun K8 hK8 => ?_
  refine region_lit ?_
  refine seq_val (.slice a_t sl.length c_t) 28 rfl kj kj ?_
  refine seq_val (.int .i64 ((sl.length : Nat) : Int)) 29 rfl kj kj ?_
  refine seq_val (.bool false) 30 rfl kj (run_eq (u := .bool (decide (((sl.length : Nat) : Int) < 16))) kj (congrArg Value.bool (decide_eq_false (by omega)))) ?_
  refine seq_nil ?_
  refine hK8 _ _ ?_
  try clear hK8 K8
  refine cond_false kj ?_
  refine wp_skip ?_
  refine hK7 _ _ ?_
  try clear hK7 K7
  refine wp_seq_k fun K9 hK9 => ?_
  refine any_regionE 11 [⟨none, [(3, none)]⟩, ⟨none, [(3, none)]⟩, ⟨none, [(33, some 1)]⟩, ⟨none, [(34, some 2)]⟩, ⟨none, [(32, some 0), (35, some 3)]⟩, ⟨none, [(3, none)]⟩, ⟨none, [(3, none)]⟩, ⟨none, [(38, some 6)]⟩, ⟨none, [(39, some 7)]⟩, ⟨none, [(37, some 5), (40, some 8)]⟩, ⟨none, [(36, some 4)]⟩] kj kj fun F hF => ?_
  refine e_val (rl_ext _) (.slice a_t sl.length c_t) kj kj (fun W => by kernel_rfl) ?_
  refine e_val (rl_ext _) (.slice a_t sl.length c_t) kj kj (fun W => by kernel_rfl) ?_
  refine e_val (rl_ext _) (.int .i64 ((sl.length : Nat) : Int)) kj kj (fun W => by kernel_rfl) ?_
  refine e_val (rl_ext _) (.int .i64 (((sl.length - 16 : Nat) : Int))) kj kj (fun W => (run_eq (u := .int .i64 (IntKind.i64.wrap (((sl.length : Nat) : Int) - 16))) kj (congrArg (Value.int .i64) (i64_sub16 _ hsh htm)))) ?_
  refine e_val (rl_ext _) (.slice a_t (sl.length - 16) c_t) kj kj (fun W => (run_sliceH (len := sl.length) 24 _ _ (sl.length - 16) 5 rfl kj kj kj .i64 kj (Nat.le_trans (Nat.sub_le _ _) ctk))) ?_
  refine e_val (rl_ext _) (.slice a_t sl.length c_t) kj kj (fun W => by kernel_rfl) ?_
  refine e_val (rl_ext _) (.slice a_t sl.length c_t) kj kj (fun W => by kernel_rfl) ?_
  refine e_val (rl_ext _) (.int .i64 ((sl.length : Nat) : Int)) kj kj (fun W => by kernel_rfl) ?_
  refine e_val (rl_ext _) (.int .i64 (((sl.length - 16 : Nat) : Int))) kj kj (fun W => (run_eq (u := .int .i64 (IntKind.i64.wrap (((sl.length : Nat) : Int) - 16))) kj (congrArg (Value.int .i64) (i64_sub16 _ hsh htm)))) ?_
  refine e_val (rl_ext _) (.slice (restA a_t c_t (sl.length - 16)) (sl.length - (sl.length - 16)) (c_t - (sl.length - 16))) kj kj (fun W => (run_sliceD 24 _ _ (sl.length - 16) 5 rfl kj kj kj .i64 kj (Nat.sub_le _ _) ctk)) ?_
  refine e_val (rl_ext _) (.slice a_t (sl.length - 16) c_t) kj kj (fun W => by kernel_rfl) ?_
  refine e_nil (hF _ fun W2 e2 => ?_)
  simp only [List.nil_append, List.cons_append, List.take_succ_cons, List.take_zero, List.drop_succ_cons, List.drop_zero, finE, up]
  clear hF
  have x2 : Ext w W2 := Ext.tr x1 e2
  refine seq_val (.slice (restA a_t c_t (sl.length - 16)) (sl.length - (sl.length - 16)) (c_t - (sl.length - 16))) 11 rfl kj kj ?_
  refine seq_nil ?_
  refine hK9 _ _ ?_
  try clear hK9 K9
  refine wp_seq_k fun K10 hK10 => ?_
  refine region_lit ?_
  have r4_2 := (row_ext r4_1 e2)
  refine seq_val (.agg (ints .u8 (key))) 43 rfl kj (run_load_row 23 _ g4 23 _ _ r4_2 rfl kj kj (isz (n := 32) kj ((ints_size _ _).trans hkl))) ?_
  refine seq_val (.slice a_n nonce.length c_n) 44 rfl kj kj ?_
  refine seq_val (.slice a_c ctx.length c_c) 45 rfl kj kj ?_
  refine seq_val (.slice a_t (sl.length - 16) c_t) 46 rfl kj kj ?_
  have r2_1 := (row_ext hh e1)
  have r2_2 := (row_ext r2_1 e2)
  have r1_1 := (row_ext hq e1)
  have r1_2 := (row_ext r1_1 e2)
  refine seq_call (.tuple #[.agg (ints .u8 (authV key nonce ctx (sl.take (sl.length - 16)))), .nilIface]) 33 #[.agg (ints .u8 (key)), .slice a_n nonce.length c_n, .slice a_c ctx.length c_c, .slice a_t (sl.length - 16) c_t] 47 rfl kj kj ((markOfC key nonce ctx (sl.take (sl.length - 16)) _ _ _ _ _ _ th tq _ r2_2 r1_2 hkl (RdK.ext hn x2) (RdK.ext hc x2) (rdK_take (RdK.ext ht x2) (sl.length - 16) (Nat.sub_le _ _)) h hcb (bytes_take htb _) (by omega) (by omega))) fun W3 e3 => ?_
  have x3 : Ext w W3 := Ext.tr x2 e3
  refine seq_val (.tuple #[.agg (ints .u8 (authV key nonce ctx (sl.take (sl.length - 16)))), .nilIface]) 42 rfl kj kj ?_
  refine seq_val (.agg (ints .u8 (authV key nonce ctx (sl.take (sl.length - 16))))) 48 rfl kj kj ?_
  refine seq_val (.nilIface) 49 rfl kj kj ?_
  refine seq_alloc (ints .u8 (List.replicate 16 0)) 27 12 rfl kj kj fun g11 W4 l11 e4 r11_4 => ?_
  have x4 : Ext w W4 := Ext.tr x3 e4
  have b11 : w.heap.size ≤ g11 := Nat.le_trans x3.size l11
  refine seq_store g11 _ (ints .u8 (authV key nonce ctx (sl.take (sl.length - 16)))) 27 r11_4 rfl kj (run_store_row 27 _ _ g11 27 _ _ r11_4 rfl kj kj (isz (n := 16) kj ((ints_size _ _).trans (authV_len _ _ _ _))) (eqsz (n := 16) ((ints_size _ _).trans (List.length_replicate (n := 16))) ((ints_size _ _).trans (authV_len _ _ _ _))) (ints_one _ _)) fun W5 p5 r11_5 => ?_
  have x5 : Ext w W5 := Puts.ext p5 x4 b11
  refine seq_val (.nilIface) 13 rfl kj kj ?_
  refine seq_nil ?_
  refine hK10 _ _ ?_
  try clear hK10 K10
  refine wp_seq_k fun K12 hK12 => ?_
  refine wp_seq_k fun K13 hK13 => ?_
  refine region_lit ?_
  refine seq_val (.nilIface) 50 rfl kj kj ?_
  refine seq_val (.bool false) 51 rfl kj kj ?_
  refine seq_nil ?_
  refine hK13 _ _ ?_
  try clear hK13 K13
  refine cond_false kj ?_
  refine wp_skip ?_
  refine hK12 _ _ ?_
  try clear hK12 K12
  refine wp_seq_k fun K14 hK14 => ?_
  refine wp_seq_k fun K15 hK15 => ?_
  refine region_lit ?_
  refine seq_val (.slice (some ⟨g11, 0, none⟩) 16 16) 53 rfl kj kj ?_
  refine seq_val (.slice (restA a_t c_t (sl.length - 16)) (sl.length - (sl.length - 16)) (c_t - (sl.length - 16))) 54 rfl kj kj ?_
  refine seq_call (.bool false) 36 #[.slice (some ⟨g11, 0, none⟩) 16 16, .slice (restA a_t c_t (sl.length - 16)) (sl.length - (sl.length - 16)) (c_t - (sl.length - 16))] 55 rfl kj kj ((same_no (authV key nonce ctx (sl.take (sl.length - 16))) (sl.drop (sl.length - 16)) _ _ W5.heap.size _ W5 hne (rdK_ints (xs := authV key nonce ctx (sl.take (sl.length - 16))) (n := 16) (authV_len _ _ _ _) r11_5 (row_lt r11_5) (show 16 ≤ maxLen from by decide)) (rdK_drop (RdK.ext ht x5) (sl.length - 16) (Nat.sub_le _ _)) (authV_bytes _ _ _ _) (bytes_drop htb _) (by rw [List.length_drop, authV_len]; omega) (by rw [authV_len]; decide))) fun W6 e6 => ?_
  have x6 : Ext w W6 := Ext.tr x5 e6
  refine seq_val (.bool true) 56 rfl kj kj ?_
  refine seq_nil ?_
  refine hK15 _ _ ?_
  try clear hK15 K15
  refine cond_true kj ?_
  refine wp_seq_k fun K16 hK16 => ?_
  refine region_lit ?_
  refine seq_val (.iface 45 (.int .i64 2)) 57 rfl kj kj ?_
  refine seq_val (.slice none 0 0) 8 rfl kj kj ?_
  refine seq_val (.iface 45 (.int .i64 2)) 9 rfl kj kj ?_
  refine seq_nil ?_
  refine hK16 _ _ ?_
  try clear hK16 K16
  refine wp_ret ?_
  repeat (first | with_reducible refine goR1 ?_ | with_reducible refine goR2 ?_)
  exact (show bodyPost _ _ _ .ret _ _ from ret2 (.slice none 0 0) (.iface 45 (.int .i64 2)) rfl (res_tmp kj) (res_tmp kj) ⟨rfl, x6⟩)
set_option maxRecDepth 100000 in
set_option maxHeartbeats 4000000 in
theorem Open_E (key nonce ctx sl : List Int) (v v2 v3 : Value) (B B2 B3 : Nat) (th tq : TypeId) (w : World) (hh : w.heap[0]? = some (.cells (ints .u32 [1634760805, 857760878, 2036477234, 1797285236]) th)) (hq : w.heap[1]? = some (.cells (ints .i64 [0, 4, 8, 12, 1, 5, 9, 13, 2, 6, 10, 14, 3, 7, 11, 15, 0, 5, 10, 15, 1, 6, 11, 12, 2, 7, 8, 13, 3, 4, 9, 14]) tq)) (hkl : key.length = 32) (hn : RdK .u8 B nonce v w) (hc : RdK .u8 B2 ctx v2 w) (ht : RdK .u8 B3 sl v3 w) (hcb : AreBytes ctx) (htb : AreBytes sl) (h : nonce.length = 12) (hcl : ctx.length ≤ 1048592) (hxl : sl.length ≤ 1048592) (hsh : 16 ≤ sl.length) (hne : authV key nonce ctx (sl.take (sl.length - 16)) = sl.drop (sl.length - 16)) :
    Calls Tryd.prog 20 #[.agg (ints .u8 key), v, v2, v3] w (Gives w (MixR w.heap.size (mixV (startW key nonce) 1 (sl.take (sl.length - 16))))) := by
  obtain ⟨a_n, c_n, rfl, -⟩ := id hn
  obtain ⟨a_c, c_c, rfl, -⟩ := id hc
  obtain ⟨a_t, c_t, rfl, -⟩ := id ht
  have ctk : sl.length ≤ c_t := by
    obtain ⟨_, _, e, q2, _⟩ := id ht
    simp only [Value.slice.injEq] at e
    obtain ⟨-, -, rfl⟩ := e
    exact q2
  have htm : sl.length ≤ maxLen := RdK.len ht
  have hlt_ : (sl.take (sl.length - 16)).length = sl.length - 16 := by rw [List.length_take]; omega
  obtain ⟨fm, em⟩ : ∃ z : List Int, mixV (startW key nonce) 1 (sl.take (sl.length - 16)) = z := ⟨_, rfl⟩
  refine enter 64 [(0, .agg (ints .u8 (key))), (1, .slice a_n nonce.length c_n), (2, .slice a_c ctx.length c_c), (3, .slice a_t sl.length c_t)] Tryd.func20 rfl rfl kj rfl ?_
  refine wp_seq_k fun K3 hK3 => ?_
  refine region_lit ?_
  refine seq_alloc (ints .u8 (key)) 23 4 rfl kj kj fun g4 W1 l4 e1 r4_1 => ?_
  have x1 : Ext w W1 := Ext.tr (Rely.Ext.refl w) e1
  have b4 : w.heap.size ≤ g4 := Nat.le_trans (Rely.Ext.refl w).size l4
  refine seq_val (.slice none 0 0) 8 rfl kj kj ?_
  refine seq_val (.nilIface) 9 rfl kj kj ?_
  refine seq_nil ?_
  refine hK3 _ _ ?_
  try clear hK3 K3
  refine wp_seq_k fun K5 hK5 => ?_
  refine wp_seq_k fun K6 hK6 => ?_
  refine region_lit ?_
  refine seq_val (.slice a_n nonce.length c_n) 14 rfl kj kj ?_
  refine seq_val (.int .i64 ((nonce.length : Nat) : Int)) 15 rfl kj kj ?_
  refine seq_val (.bool false) 16 rfl kj (run_eq (u := .bool ((((nonce.length : Nat) : Int) != 12))) kj (congrArg Value.bool (by rw [h]; rfl))) ?_
  refine seq_val (.bool false) 17 rfl kj kj ?_
  refine seq_val (.slice a_c ctx.length c_c) 18 rfl kj kj ?_
  refine seq_val (.int .i64 ((ctx.length : Nat) : Int)) 19 rfl kj kj ?_
  refine seq_val (.bool false) 20 rfl kj (run_eq (u := .bool (decide (((ctx.length : Nat) : Int) > 1048592))) kj (congrArg Value.bool (decide_eq_false (by omega)))) ?_
  refine seq_val (.bool false) 21 rfl kj kj ?_
  refine seq_val (.bool false) 22 rfl kj kj ?_
  refine seq_val (.slice a_t sl.length c_t) 23 rfl kj kj ?_
  refine seq_val (.int .i64 ((sl.length : Nat) : Int)) 24 rfl kj kj ?_
  refine seq_val (.bool false) 25 rfl kj (run_eq (u := .bool (decide (((sl.length : Nat) : Int) > 1048592))) kj (congrArg Value.bool (decide_eq_false (by omega)))) ?_
  refine seq_val (.bool false) 26 rfl kj kj ?_
  refine seq_nil ?_
  refine hK6 _ _ ?_
  try clear hK6 K6
  refine cond_false kj ?_
  refine wp_skip ?_
  refine hK5 _ _ ?_
  try clear hK5 K5
  refine wp_seq_k fun K7 hK7 => ?_
  refine wp_seq_k fun K8 hK8 => ?_
  refine region_lit ?_
  refine seq_val (.slice a_t sl.length c_t) 28 rfl kj kj ?_
  refine seq_val (.int .i64 ((sl.length : Nat) : Int)) 29 rfl kj kj ?_
  refine seq_val (.bool false) 30 rfl kj (run_eq (u := .bool (decide (((sl.length : Nat) : Int) < 16))) kj (congrArg Value.bool (decide_eq_false (by omega)))) ?_
  refine seq_nil ?_
  refine hK8 _ _ ?_
  try clear hK8 K8
  refine cond_false kj ?_
  refine wp_skip ?_
  refine hK7 _ _ ?_
  try clear hK7 K7
  refine wp_seq_k fun K9 hK9 => ?_
  refine any_regionE 11 [⟨none, [(3, none)]⟩, ⟨none, [(3, none)]⟩, ⟨none, [(33, some 1)]⟩, ⟨none, [(34, some 2)]⟩, ⟨none, [(32, some 0), (35, some 3)]⟩, ⟨none, [(3, none)]⟩, ⟨none, [(3, none)]⟩, ⟨none, [(38, some 6)]⟩, ⟨none, [(39, some 7)]⟩, ⟨none, [(37, some 5), (40, some 8)]⟩, ⟨none, [(36, some 4)]⟩] kj kj fun F hF => ?_
  refine e_val (rl_ext _) (.slice a_t sl.length c_t) kj kj (fun W => by kernel_rfl) ?_
  refine e_val (rl_ext _) (.slice a_t sl.length c_t) kj kj (fun W => by kernel_rfl) ?_
  refine e_val (rl_ext _) (.int .i64 ((sl.length : Nat) : Int)) kj kj (fun W => by kernel_rfl) ?_
  refine e_val (rl_ext _) (.int .i64 (((sl.length - 16 : Nat) : Int))) kj kj (fun W => (run_eq (u := .int .i64 (IntKind.i64.wrap (((sl.length : Nat) : Int) - 16))) kj (congrArg (Value.int .i64) (i64_sub16 _ hsh htm)))) ?_
  refine e_val (rl_ext _) (.slice a_t (sl.length - 16) c_t) kj kj (fun W => (run_sliceH (len := sl.length) 24 _ _ (sl.length - 16) 5 rfl kj kj kj .i64 kj (Nat.le_trans (Nat.sub_le _ _) ctk))) ?_
  refine e_val (rl_ext _) (.slice a_t sl.length c_t) kj kj (fun W => by kernel_rfl) ?_
  refine e_val (rl_ext _) (.slice a_t sl.length c_t) kj kj (fun W => by kernel_rfl) ?_
  refine e_val (rl_ext _) (.int .i64 ((sl.length : Nat) : Int)) kj kj (fun W => by kernel_rfl) ?_
  refine e_val (rl_ext _) (.int .i64 (((sl.length - 16 : Nat) : Int))) kj kj (fun W => (run_eq (u := .int .i64 (IntKind.i64.wrap (((sl.length : Nat) : Int) - 16))) kj (congrArg (Value.int .i64) (i64_sub16 _ hsh htm)))) ?_
  refine e_val (rl_ext _) (.slice (restA a_t c_t (sl.length - 16)) (sl.length - (sl.length - 16)) (c_t - (sl.length - 16))) kj kj (fun W => (run_sliceD 24 _ _ (sl.length - 16) 5 rfl kj kj kj .i64 kj (Nat.sub_le _ _) ctk)) ?_
  refine e_val (rl_ext _) (.slice a_t (sl.length - 16) c_t) kj kj (fun W => by kernel_rfl) ?_
  refine e_nil (hF _ fun W2 e2 => ?_)
  simp only [List.nil_append, List.cons_append, List.take_succ_cons, List.take_zero, List.drop_succ_cons, List.drop_zero, finE, up]
  clear hF
  have x2 : Ext w W2 := Ext.tr x1 e2
  refine seq_val (.slice (restA a_t c_t (sl.length - 16)) (sl.length - (sl.length - 16)) (c_t - (sl.length - 16))) 11 rfl kj kj ?_
  refine seq_nil ?_
  refine hK9 _ _ ?_
  try clear hK9 K9
  refine wp_seq_k fun K10 hK10 => ?_
  refine region_lit ?_
  have r4_2 := (row_ext r4_1 e2)
  refine seq_val (.agg (ints .u8 (key))) 43 rfl kj (run_load_row 23 _ g4 23 _ _ r4_2 rfl kj kj (isz (n := 32) kj ((ints_size _ _).trans hkl))) ?_
  refine seq_val (.slice a_n nonce.length c_n) 44 rfl kj kj ?_
  refine seq_val (.slice a_c ctx.length c_c) 45 rfl kj kj ?_
  refine seq_val (.slice a_t (sl.length - 16) c_t) 46 rfl kj kj ?_
  have r2_1 := (row_ext hh e1)
  have r2_2 := (row_ext r2_1 e2)
  have r1_1 := (row_ext hq e1)
  have r1_2 := (row_ext r1_1 e2)
  refine seq_call (.tuple #[.agg (ints .u8 (authV key nonce ctx (sl.take (sl.length - 16)))), .nilIface]) 33 #[.agg (ints .u8 (key)), .slice a_n nonce.length c_n, .slice a_c ctx.length c_c, .slice a_t (sl.length - 16) c_t] 47 rfl kj kj ((markOfC key nonce ctx (sl.take (sl.length - 16)) _ _ _ _ _ _ th tq _ r2_2 r1_2 hkl (RdK.ext hn x2) (RdK.ext hc x2) (rdK_take (RdK.ext ht x2) (sl.length - 16) (Nat.sub_le _ _)) h hcb (bytes_take htb _) (by omega) (by omega))) fun W3 e3 => ?_
  have x3 : Ext w W3 := Ext.tr x2 e3
  refine seq_val (.tuple #[.agg (ints .u8 (authV key nonce ctx (sl.take (sl.length - 16)))), .nilIface]) 42 rfl kj kj ?_
  refine seq_val (.agg (ints .u8 (authV key nonce ctx (sl.take (sl.length - 16))))) 48 rfl kj kj ?_
  refine seq_val (.nilIface) 49 rfl kj kj ?_
  refine seq_alloc (ints .u8 (List.replicate 16 0)) 27 12 rfl kj kj fun g11 W4 l11 e4 r11_4 => ?_
  have x4 : Ext w W4 := Ext.tr x3 e4
  have b11 : w.heap.size ≤ g11 := Nat.le_trans x3.size l11
  refine seq_store g11 _ (ints .u8 (authV key nonce ctx (sl.take (sl.length - 16)))) 27 r11_4 rfl kj (run_store_row 27 _ _ g11 27 _ _ r11_4 rfl kj kj (isz (n := 16) kj ((ints_size _ _).trans (authV_len _ _ _ _))) (eqsz (n := 16) ((ints_size _ _).trans (List.length_replicate (n := 16))) ((ints_size _ _).trans (authV_len _ _ _ _))) (ints_one _ _)) fun W5 p5 r11_5 => ?_
  have x5 : Ext w W5 := Puts.ext p5 x4 b11
  refine seq_val (.nilIface) 13 rfl kj kj ?_
  refine seq_nil ?_
  refine hK10 _ _ ?_
  try clear hK10 K10
  refine wp_seq_k fun K12 hK12 => ?_
  refine wp_seq_k fun K13 hK13 => ?_
  refine region_lit ?_
  refine seq_val (.nilIface) 50 rfl kj kj ?_
  refine seq_val (.bool false) 51 rfl kj kj ?_
  refine seq_nil ?_
  refine hK13 _ _ ?_
  try clear hK13 K13
  refine cond_false kj ?_
  refine wp_skip ?_
  refine hK12 _ _ ?_
  try clear hK12 K12
  refine wp_seq_k fun K14 hK14 => ?_
  refine wp_seq_k fun K15 hK15 => ?_
  refine region_lit ?_
  refine seq_val (.slice (some ⟨g11, 0, none⟩) 16 16) 53 rfl kj kj ?_
  refine seq_val (.slice (restA a_t c_t (sl.length - 16)) (sl.length - (sl.length - 16)) (c_t - (sl.length - 16))) 54 rfl kj kj ?_
  refine seq_call (.bool true) 36 #[.slice (some ⟨g11, 0, none⟩) 16 16, .slice (restA a_t c_t (sl.length - 16)) (sl.length - (sl.length - 16)) (c_t - (sl.length - 16))] 55 rfl kj kj ((same_yes (authV key nonce ctx (sl.take (sl.length - 16))) (sl.drop (sl.length - 16)) _ _ W5.heap.size _ W5 hne (rdK_ints (xs := authV key nonce ctx (sl.take (sl.length - 16))) (n := 16) (authV_len _ _ _ _) r11_5 (row_lt r11_5) (show 16 ≤ maxLen from by decide)) (rdK_drop (RdK.ext ht x5) (sl.length - 16) (Nat.sub_le _ _)) (authV_bytes _ _ _ _) (bytes_drop htb _) (by rw [List.length_drop, authV_len]; omega) (by rw [authV_len]; decide))) fun W6 e6 => ?_
  have x6 : Ext w W6 := Ext.tr x5 e6
  refine seq_val (.bool false) 56 rfl kj kj ?_
  refine seq_nil ?_
  refine hK15 _ _ ?_
  try clear hK15 K15
  refine cond_false kj ?_
  refine wp_skip ?_
  refine hK14 _ _ ?_
  try clear hK14 K14
  refine wp_seq_k fun K16 hK16 => ?_
  refine region_lit ?_
  have r4_3 := (row_ext r4_2 e3)
  have r4_4 := (row_ext r4_3 e4)
  have r4_5 := (Puts.row p5 r4_4 (ne_of_old r4_3 l11))
  have r4_6 := (row_ext r4_5 e6)
  refine seq_val (.agg (ints .u8 (key))) 58 rfl kj (run_load_row 23 _ g4 23 _ _ r4_6 rfl kj kj (isz (n := 32) kj ((ints_size _ _).trans hkl))) ?_
  refine seq_val (.slice a_n nonce.length c_n) 59 rfl kj kj ?_
  refine seq_val (.slice a_t (sl.length - 16) c_t) 60 rfl kj kj ?_
  have r2_3 := (row_ext r2_2 e3)
  have r2_4 := (row_ext r2_3 e4)
  have r2_5 := (Puts.row p5 r2_4 (ne_of_old r2_3 l11))
  have r2_6 := (row_ext r2_5 e6)
  have r1_3 := (row_ext r1_2 e3)
  have r1_4 := (row_ext r1_3 e4)
  have r1_5 := (Puts.row p5 r1_4 (ne_of_old r1_3 l11))
  have r1_6 := (row_ext r1_5 e6)
  refine seq_callR (fun v W' => (MixR W6.heap.size (fm)) v W' ∧ Ext W6 W') 32 #[.agg (ints .u8 (key)), .slice a_n nonce.length c_n, .int .i64 1, .slice a_t (sl.length - 16) c_t] 61 rfl kj kj ((MixE key nonce (sl.take (sl.length - 16)) (fm) _ _ _ _ th tq _ r2_6 r1_6 hkl (RdK.ext hn x6) (rdK_take (RdK.ext ht x6) (sl.length - 16) (Nat.sub_le _ _)) h (by omega) em).mono (by rintro e w' ⟨v, rfl, e1, hv⟩; exact ⟨v, rfl, hv, e1⟩)) fun vv17 W7 hh17 => ?_
  obtain ⟨hv17, e7⟩ := hh17
  have x7 : Ext w W7 := Ext.tr x6 e7
  obtain ⟨u61_, rfl, hu61_⟩ := hv17
  refine seq_val (u61_) 62 rfl kj kj ?_
  refine seq_val (.nilIface) 63 rfl kj kj ?_
  refine seq_val (u61_) 8 rfl kj kj ?_
  refine seq_val (.nilIface) 9 rfl kj kj ?_
  refine seq_nil ?_
  refine hK16 _ _ ?_
  try clear hK16 K16
  refine wp_ret ?_
  repeat (first | with_reducible refine goR1 ?_ | with_reducible refine goR2 ?_)
  exact (show bodyPost _ _ _ .ret _ _ from ret2 (u61_) (.nilIface) rfl (res_tmp kj) (res_tmp kj) ⟨_, rfl, x7, u61_, rfl, by rw [em]; exact OwnN.base x6.size hu61_⟩)

end Go.Proofs.YtjldjdlhllgakaaDoor.Ae
