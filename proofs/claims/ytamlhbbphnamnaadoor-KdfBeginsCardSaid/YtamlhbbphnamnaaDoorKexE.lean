/- The law KdfBegins. -/
import Derived.Test.YtamlhbbphnamnaaDoorKexC
namespace Go.Proofs.YtamlhbbphnamnaaDoor.Sha
open Go Go.RowKit
open Go.Proofs.YtamlhbbphnamnaaDoor.Rely Go.Proofs.YtamlhbbphnamnaaDoor.Auto Go.Proofs.YtamlhbbphnamnaaDoor.Own
set_option linter.unusedVariables false
set_option linter.unusedSimpArgs false

set_option maxHeartbeats 4000000 in
theorem beg_A (key info : List Int) (v1 v2 : Value) (B B2 : Nat) (tc tq : TypeId) (w : World) (hc : w.heap[1]? = some (.cells (ints .u64 cubesI) tc)) (hq : w.heap[0]? = some (.cells (ints .u64 squaresI) tq)) (hkb : AreBytes key) (hib : AreBytes info) (hk : RdK .u8 B key v1 w) (hi : RdK .u8 B2 info v2 w) (n m : Int) (h : 1000 < key.length) : Calls Tryd.prog 25 #[v1, v2, .int .i64 n, .int .i64 m] w (Ret w (.bool true)) := by
  obtain ⟨a_key, c_key, rfl, -⟩ := id hk
  obtain ⟨a_info, c_info, rfl, -⟩ := id hi
  refine enter 69 [(0, .slice a_key key.length c_key), (1, .slice a_info info.length c_info), (2, .int .i64 n), (3, .int .i64 m)] Tryd.func25 rfl rfl (by kernel_rfl) rfl ?_
  refine wp_seq_k fun K3 hK3 => ?_
  refine region_lit ?_
  refine seq_val (.bool false) 8 rfl (by kernel_rfl) (by kernel_rfl) ?_
  refine seq_nil ?_
  refine hK3 _ _ ?_
  try clear hK3 K3
  refine wp_seq_k fun K4 hK4 => ?_
  refine wp_seq_k fun K5 hK5 => ?_
  refine region_lit ?_
  refine seq_call (.bool true) 13 #[] 13 rfl (by kernel_rfl) (by kernel_rfl) (alive02 tc tq _ hc hq) fun W1 e1 => ?_
  have x1 : Ext w W1 := Ext.tr (Rely.Ext.refl w) e1
  refine seq_val (.bool false) 14 rfl (by kernel_rfl) (by kernel_rfl) ?_
  refine seq_nil ?_
  refine hK5 _ _ ?_
  try clear hK5 K5
  refine cond_false (by kernel_rfl) ?_
  refine wp_skip ?_
  refine hK4 _ _ ?_
  try clear hK4 K4
  refine wp_seq_k fun K6 hK6 => ?_
  refine wp_seq_k fun K7 hK7 => ?_
  refine region_lit ?_
  refine seq_val (.slice a_key key.length c_key) 15 rfl (by kernel_rfl) (by kernel_rfl) ?_
  refine seq_val (.int .i64 ((key.length : Nat) : Int)) 16 rfl (by kernel_rfl) (by kernel_rfl) ?_
  refine seq_val (.bool true) 17 rfl (by kernel_rfl) (run_eq (u := .bool (decide (((key.length : Nat) : Int) > 1000))) (by kernel_rfl) (congrArg Value.bool (decide_eq_true (by omega)))) ?_
  refine seq_val (.bool true) 18 rfl (by kernel_rfl) (by kernel_rfl) ?_
  refine seq_skip 19 rfl (by kernel_rfl) ?_
  refine seq_skip 20 rfl (by kernel_rfl) ?_
  refine seq_skip 21 rfl (by kernel_rfl) ?_
  refine seq_val (.bool true) 22 rfl (by kernel_rfl) (by kernel_rfl) ?_
  refine seq_val (.bool true) 23 rfl (by kernel_rfl) (by kernel_rfl) ?_
  refine seq_skip 24 rfl (by kernel_rfl) ?_
  refine seq_skip 25 rfl (by kernel_rfl) ?_
  refine seq_val (.bool true) 26 rfl (by kernel_rfl) (by kernel_rfl) ?_
  refine seq_val (.bool true) 27 rfl (by kernel_rfl) (by kernel_rfl) ?_
  refine seq_skip 28 rfl (by kernel_rfl) ?_
  refine seq_skip 29 rfl (by kernel_rfl) ?_
  refine seq_skip 30 rfl (by kernel_rfl) ?_
  refine seq_val (.bool true) 31 rfl (by kernel_rfl) (by kernel_rfl) ?_
  refine seq_val (.bool true) 32 rfl (by kernel_rfl) (by kernel_rfl) ?_
  refine seq_skip 33 rfl (by kernel_rfl) ?_
  refine seq_skip 34 rfl (by kernel_rfl) ?_
  refine seq_val (.bool true) 35 rfl (by kernel_rfl) (by kernel_rfl) ?_
  refine seq_nil ?_
  refine hK7 _ _ ?_
  try clear hK7 K7
  refine cond_true (by kernel_rfl) ?_
  refine wp_seq_k fun K8 hK8 => ?_
  refine region_lit ?_
  refine seq_val (.bool true) 8 rfl (by kernel_rfl) (by kernel_rfl) ?_
  refine seq_nil ?_
  refine hK8 _ _ ?_
  try clear hK8 K8
  refine wp_ret ?_
  repeat (first | with_reducible refine goR1 ?_ | with_reducible refine goR2 ?_)
  exact (show bodyPost _ _ _ .ret _ _ from ret1 (.bool true) rfl (res_tmp (by kernel_rfl)) ⟨rfl, x1⟩)
set_option maxHeartbeats 4000000 in
theorem beg_B (key info : List Int) (v1 v2 : Value) (B B2 : Nat) (tc tq : TypeId) (w : World) (hc : w.heap[1]? = some (.cells (ints .u64 cubesI) tc)) (hq : w.heap[0]? = some (.cells (ints .u64 squaresI) tq)) (hkb : AreBytes key) (hib : AreBytes info) (hk : RdK .u8 B key v1 w) (hi : RdK .u8 B2 info v2 w) (n m : Int) (h1 : key.length ≤ 1000) (h : 1000 < info.length) : Calls Tryd.prog 25 #[v1, v2, .int .i64 n, .int .i64 m] w (Ret w (.bool true)) := by
  obtain ⟨a_key, c_key, rfl, -⟩ := id hk
  obtain ⟨a_info, c_info, rfl, -⟩ := id hi
  refine enter 69 [(0, .slice a_key key.length c_key), (1, .slice a_info info.length c_info), (2, .int .i64 n), (3, .int .i64 m)] Tryd.func25 rfl rfl (by kernel_rfl) rfl ?_
  refine wp_seq_k fun K3 hK3 => ?_
  refine region_lit ?_
  refine seq_val (.bool false) 8 rfl (by kernel_rfl) (by kernel_rfl) ?_
  refine seq_nil ?_
  refine hK3 _ _ ?_
  try clear hK3 K3
  refine wp_seq_k fun K4 hK4 => ?_
  refine wp_seq_k fun K5 hK5 => ?_
  refine region_lit ?_
  refine seq_call (.bool true) 13 #[] 13 rfl (by kernel_rfl) (by kernel_rfl) (alive02 tc tq _ hc hq) fun W1 e1 => ?_
  have x1 : Ext w W1 := Ext.tr (Rely.Ext.refl w) e1
  refine seq_val (.bool false) 14 rfl (by kernel_rfl) (by kernel_rfl) ?_
  refine seq_nil ?_
  refine hK5 _ _ ?_
  try clear hK5 K5
  refine cond_false (by kernel_rfl) ?_
  refine wp_skip ?_
  refine hK4 _ _ ?_
  try clear hK4 K4
  refine wp_seq_k fun K6 hK6 => ?_
  refine wp_seq_k fun K7 hK7 => ?_
  refine region_lit ?_
  refine seq_val (.slice a_key key.length c_key) 15 rfl (by kernel_rfl) (by kernel_rfl) ?_
  refine seq_val (.int .i64 ((key.length : Nat) : Int)) 16 rfl (by kernel_rfl) (by kernel_rfl) ?_
  refine seq_val (.bool false) 17 rfl (by kernel_rfl) (run_eq (u := .bool (decide (((key.length : Nat) : Int) > 1000))) (by kernel_rfl) (congrArg Value.bool (decide_eq_false (by omega)))) ?_
  refine seq_val (.bool false) 18 rfl (by kernel_rfl) (by kernel_rfl) ?_
  refine seq_val (.slice a_info info.length c_info) 19 rfl (by kernel_rfl) (by kernel_rfl) ?_
  refine seq_val (.int .i64 ((info.length : Nat) : Int)) 20 rfl (by kernel_rfl) (by kernel_rfl) ?_
  refine seq_val (.bool true) 21 rfl (by kernel_rfl) (run_eq (u := .bool (decide (((info.length : Nat) : Int) > 1000))) (by kernel_rfl) (congrArg Value.bool (decide_eq_true (by omega)))) ?_
  refine seq_val (.bool true) 22 rfl (by kernel_rfl) (by kernel_rfl) ?_
  refine seq_val (.bool true) 23 rfl (by kernel_rfl) (by kernel_rfl) ?_
  refine seq_skip 24 rfl (by kernel_rfl) ?_
  refine seq_skip 25 rfl (by kernel_rfl) ?_
  refine seq_val (.bool true) 26 rfl (by kernel_rfl) (by kernel_rfl) ?_
  refine seq_val (.bool true) 27 rfl (by kernel_rfl) (by kernel_rfl) ?_
  refine seq_skip 28 rfl (by kernel_rfl) ?_
  refine seq_skip 29 rfl (by kernel_rfl) ?_
  refine seq_skip 30 rfl (by kernel_rfl) ?_
  refine seq_val (.bool true) 31 rfl (by kernel_rfl) (by kernel_rfl) ?_
  refine seq_val (.bool true) 32 rfl (by kernel_rfl) (by kernel_rfl) ?_
  refine seq_skip 33 rfl (by kernel_rfl) ?_
  refine seq_skip 34 rfl (by kernel_rfl) ?_
  refine seq_val (.bool true) 35 rfl (by kernel_rfl) (by kernel_rfl) ?_
  refine seq_nil ?_
  refine hK7 _ _ ?_
  try clear hK7 K7
  refine cond_true (by kernel_rfl) ?_
  refine wp_seq_k fun K8 hK8 => ?_
  refine region_lit ?_
  refine seq_val (.bool true) 8 rfl (by kernel_rfl) (by kernel_rfl) ?_
  refine seq_nil ?_
  refine hK8 _ _ ?_
  try clear hK8 K8
  refine wp_ret ?_
  repeat (first | with_reducible refine goR1 ?_ | with_reducible refine goR2 ?_)
  exact (show bodyPost _ _ _ .ret _ _ from ret1 (.bool true) rfl (res_tmp (by kernel_rfl)) ⟨rfl, x1⟩)
set_option maxHeartbeats 4000000 in
theorem beg_C (key info : List Int) (v1 v2 : Value) (B B2 : Nat) (tc tq : TypeId) (w : World) (hc : w.heap[1]? = some (.cells (ints .u64 cubesI) tc)) (hq : w.heap[0]? = some (.cells (ints .u64 squaresI) tq)) (hkb : AreBytes key) (hib : AreBytes info) (hk : RdK .u8 B key v1 w) (hi : RdK .u8 B2 info v2 w) (n m : Int) (h1 : key.length ≤ 1000) (h2 : info.length ≤ 1000) (h : n < 0) : Calls Tryd.prog 25 #[v1, v2, .int .i64 n, .int .i64 m] w (Ret w (.bool true)) := by
  obtain ⟨a_key, c_key, rfl, -⟩ := id hk
  obtain ⟨a_info, c_info, rfl, -⟩ := id hi
  refine enter 69 [(0, .slice a_key key.length c_key), (1, .slice a_info info.length c_info), (2, .int .i64 n), (3, .int .i64 m)] Tryd.func25 rfl rfl (by kernel_rfl) rfl ?_
  refine wp_seq_k fun K3 hK3 => ?_
  refine region_lit ?_
  refine seq_val (.bool false) 8 rfl (by kernel_rfl) (by kernel_rfl) ?_
  refine seq_nil ?_
  refine hK3 _ _ ?_
  try clear hK3 K3
  refine wp_seq_k fun K4 hK4 => ?_
  refine wp_seq_k fun K5 hK5 => ?_
  refine region_lit ?_
  refine seq_call (.bool true) 13 #[] 13 rfl (by kernel_rfl) (by kernel_rfl) (alive02 tc tq _ hc hq) fun W1 e1 => ?_
  have x1 : Ext w W1 := Ext.tr (Rely.Ext.refl w) e1
  refine seq_val (.bool false) 14 rfl (by kernel_rfl) (by kernel_rfl) ?_
  refine seq_nil ?_
  refine hK5 _ _ ?_
  try clear hK5 K5
  refine cond_false (by kernel_rfl) ?_
  refine wp_skip ?_
  refine hK4 _ _ ?_
  try clear hK4 K4
  refine wp_seq_k fun K6 hK6 => ?_
  refine wp_seq_k fun K7 hK7 => ?_
  refine region_lit ?_
  refine seq_val (.slice a_key key.length c_key) 15 rfl (by kernel_rfl) (by kernel_rfl) ?_
  refine seq_val (.int .i64 ((key.length : Nat) : Int)) 16 rfl (by kernel_rfl) (by kernel_rfl) ?_
  refine seq_val (.bool false) 17 rfl (by kernel_rfl) (run_eq (u := .bool (decide (((key.length : Nat) : Int) > 1000))) (by kernel_rfl) (congrArg Value.bool (decide_eq_false (by omega)))) ?_
  refine seq_val (.bool false) 18 rfl (by kernel_rfl) (by kernel_rfl) ?_
  refine seq_val (.slice a_info info.length c_info) 19 rfl (by kernel_rfl) (by kernel_rfl) ?_
  refine seq_val (.int .i64 ((info.length : Nat) : Int)) 20 rfl (by kernel_rfl) (by kernel_rfl) ?_
  refine seq_val (.bool false) 21 rfl (by kernel_rfl) (run_eq (u := .bool (decide (((info.length : Nat) : Int) > 1000))) (by kernel_rfl) (congrArg Value.bool (decide_eq_false (by omega)))) ?_
  refine seq_val (.bool false) 22 rfl (by kernel_rfl) (by kernel_rfl) ?_
  refine seq_val (.bool false) 23 rfl (by kernel_rfl) (by kernel_rfl) ?_
  refine seq_val (.int .i64 n) 24 rfl (by kernel_rfl) (by kernel_rfl) ?_
  refine seq_val (.bool true) 25 rfl (by kernel_rfl) (run_eq (u := .bool (decide (n < 0))) (by kernel_rfl) (congrArg Value.bool (decide_eq_true (by omega)))) ?_
  refine seq_val (.bool true) 26 rfl (by kernel_rfl) (by kernel_rfl) ?_
  refine seq_val (.bool true) 27 rfl (by kernel_rfl) (by kernel_rfl) ?_
  refine seq_skip 28 rfl (by kernel_rfl) ?_
  refine seq_skip 29 rfl (by kernel_rfl) ?_
  refine seq_skip 30 rfl (by kernel_rfl) ?_
  refine seq_val (.bool true) 31 rfl (by kernel_rfl) (by kernel_rfl) ?_
  refine seq_val (.bool true) 32 rfl (by kernel_rfl) (by kernel_rfl) ?_
  refine seq_skip 33 rfl (by kernel_rfl) ?_
  refine seq_skip 34 rfl (by kernel_rfl) ?_
  refine seq_val (.bool true) 35 rfl (by kernel_rfl) (by kernel_rfl) ?_
  refine seq_nil ?_
  refine hK7 _ _ ?_
  try clear hK7 K7
  refine cond_true (by kernel_rfl) ?_
  refine wp_seq_k fun K8 hK8 => ?_
  refine region_lit ?_
  refine seq_val (.bool true) 8 rfl (by kernel_rfl) (by kernel_rfl) ?_
  refine seq_nil ?_
  refine hK8 _ _ ?_
  try clear hK8 K8
  refine wp_ret ?_
  repeat (first | with_reducible refine goR1 ?_ | with_reducible refine goR2 ?_)
  exact (show bodyPost _ _ _ .ret _ _ from ret1 (.bool true) rfl (res_tmp (by kernel_rfl)) ⟨rfl, x1⟩)
set_option maxHeartbeats 4000000 in
theorem beg_D (key info : List Int) (v1 v2 : Value) (B B2 : Nat) (tc tq : TypeId) (w : World) (hc : w.heap[1]? = some (.cells (ints .u64 cubesI) tc)) (hq : w.heap[0]? = some (.cells (ints .u64 squaresI) tq)) (hkb : AreBytes key) (hib : AreBytes info) (hk : RdK .u8 B key v1 w) (hi : RdK .u8 B2 info v2 w) (n m : Int) (h1 : key.length ≤ 1000) (h2 : info.length ≤ 1000) (h3 : 0 ≤ n) (h : m < n) : Calls Tryd.prog 25 #[v1, v2, .int .i64 n, .int .i64 m] w (Ret w (.bool true)) := by
  obtain ⟨a_key, c_key, rfl, -⟩ := id hk
  obtain ⟨a_info, c_info, rfl, -⟩ := id hi
  refine enter 69 [(0, .slice a_key key.length c_key), (1, .slice a_info info.length c_info), (2, .int .i64 n), (3, .int .i64 m)] Tryd.func25 rfl rfl (by kernel_rfl) rfl ?_
  refine wp_seq_k fun K3 hK3 => ?_
  refine region_lit ?_
  refine seq_val (.bool false) 8 rfl (by kernel_rfl) (by kernel_rfl) ?_
  refine seq_nil ?_
  refine hK3 _ _ ?_
  try clear hK3 K3
  refine wp_seq_k fun K4 hK4 => ?_
  refine wp_seq_k fun K5 hK5 => ?_
  refine region_lit ?_
  refine seq_call (.bool true) 13 #[] 13 rfl (by kernel_rfl) (by kernel_rfl) (alive02 tc tq _ hc hq) fun W1 e1 => ?_
  have x1 : Ext w W1 := Ext.tr (Rely.Ext.refl w) e1
  refine seq_val (.bool false) 14 rfl (by kernel_rfl) (by kernel_rfl) ?_
  refine seq_nil ?_
  refine hK5 _ _ ?_
  try clear hK5 K5
  refine cond_false (by kernel_rfl) ?_
  refine wp_skip ?_
  refine hK4 _ _ ?_
  try clear hK4 K4
  refine wp_seq_k fun K6 hK6 => ?_
  refine wp_seq_k fun K7 hK7 => ?_
  refine region_lit ?_
  refine seq_val (.slice a_key key.length c_key) 15 rfl (by kernel_rfl) (by kernel_rfl) ?_
  refine seq_val (.int .i64 ((key.length : Nat) : Int)) 16 rfl (by kernel_rfl) (by kernel_rfl) ?_
  refine seq_val (.bool false) 17 rfl (by kernel_rfl) (run_eq (u := .bool (decide (((key.length : Nat) : Int) > 1000))) (by kernel_rfl) (congrArg Value.bool (decide_eq_false (by omega)))) ?_
  refine seq_val (.bool false) 18 rfl (by kernel_rfl) (by kernel_rfl) ?_
  refine seq_val (.slice a_info info.length c_info) 19 rfl (by kernel_rfl) (by kernel_rfl) ?_
  refine seq_val (.int .i64 ((info.length : Nat) : Int)) 20 rfl (by kernel_rfl) (by kernel_rfl) ?_
  refine seq_val (.bool false) 21 rfl (by kernel_rfl) (run_eq (u := .bool (decide (((info.length : Nat) : Int) > 1000))) (by kernel_rfl) (congrArg Value.bool (decide_eq_false (by omega)))) ?_
  refine seq_val (.bool false) 22 rfl (by kernel_rfl) (by kernel_rfl) ?_
  refine seq_val (.bool false) 23 rfl (by kernel_rfl) (by kernel_rfl) ?_
  refine seq_val (.int .i64 n) 24 rfl (by kernel_rfl) (by kernel_rfl) ?_
  refine seq_val (.bool false) 25 rfl (by kernel_rfl) (run_eq (u := .bool (decide (n < 0))) (by kernel_rfl) (congrArg Value.bool (decide_eq_false (by omega)))) ?_
  refine seq_val (.bool false) 26 rfl (by kernel_rfl) (by kernel_rfl) ?_
  refine seq_val (.bool false) 27 rfl (by kernel_rfl) (by kernel_rfl) ?_
  refine seq_val (.int .i64 m) 28 rfl (by kernel_rfl) (by kernel_rfl) ?_
  refine seq_val (.int .i64 n) 29 rfl (by kernel_rfl) (by kernel_rfl) ?_
  refine seq_val (.bool true) 30 rfl (by kernel_rfl) (run_eq (u := .bool (decide (m < n))) (by kernel_rfl) (congrArg Value.bool (decide_eq_true (by omega)))) ?_
  refine seq_val (.bool true) 31 rfl (by kernel_rfl) (by kernel_rfl) ?_
  refine seq_val (.bool true) 32 rfl (by kernel_rfl) (by kernel_rfl) ?_
  refine seq_skip 33 rfl (by kernel_rfl) ?_
  refine seq_skip 34 rfl (by kernel_rfl) ?_
  refine seq_val (.bool true) 35 rfl (by kernel_rfl) (by kernel_rfl) ?_
  refine seq_nil ?_
  refine hK7 _ _ ?_
  try clear hK7 K7
  refine cond_true (by kernel_rfl) ?_
  refine wp_seq_k fun K8 hK8 => ?_
  refine region_lit ?_
  refine seq_val (.bool true) 8 rfl (by kernel_rfl) (by kernel_rfl) ?_
  refine seq_nil ?_
  refine hK8 _ _ ?_
  try clear hK8 K8
  refine wp_ret ?_
  repeat (first | with_reducible refine goR1 ?_ | with_reducible refine goR2 ?_)
  exact (show bodyPost _ _ _ .ret _ _ from ret1 (.bool true) rfl (res_tmp (by kernel_rfl)) ⟨rfl, x1⟩)
set_option maxHeartbeats 4000000 in
theorem beg_E (key info : List Int) (v1 v2 : Value) (B B2 : Nat) (tc tq : TypeId) (w : World) (hc : w.heap[1]? = some (.cells (ints .u64 cubesI) tc)) (hq : w.heap[0]? = some (.cells (ints .u64 squaresI) tq)) (hkb : AreBytes key) (hib : AreBytes info) (hk : RdK .u8 B key v1 w) (hi : RdK .u8 B2 info v2 w) (n m : Int) (h1 : key.length ≤ 1000) (h2 : info.length ≤ 1000) (h3 : 0 ≤ n) (h4 : n ≤ m) (h : 3000 < m) : Calls Tryd.prog 25 #[v1, v2, .int .i64 n, .int .i64 m] w (Ret w (.bool true)) := by
  obtain ⟨a_key, c_key, rfl, -⟩ := id hk
  obtain ⟨a_info, c_info, rfl, -⟩ := id hi
  refine enter 69 [(0, .slice a_key key.length c_key), (1, .slice a_info info.length c_info), (2, .int .i64 n), (3, .int .i64 m)] Tryd.func25 rfl rfl (by kernel_rfl) rfl ?_
  refine wp_seq_k fun K3 hK3 => ?_
  refine region_lit ?_
  refine seq_val (.bool false) 8 rfl (by kernel_rfl) (by kernel_rfl) ?_
  refine seq_nil ?_
  refine hK3 _ _ ?_
  try clear hK3 K3
  refine wp_seq_k fun K4 hK4 => ?_
  refine wp_seq_k fun K5 hK5 => ?_
  refine region_lit ?_
  refine seq_call (.bool true) 13 #[] 13 rfl (by kernel_rfl) (by kernel_rfl) (alive02 tc tq _ hc hq) fun W1 e1 => ?_
  have x1 : Ext w W1 := Ext.tr (Rely.Ext.refl w) e1
  refine seq_val (.bool false) 14 rfl (by kernel_rfl) (by kernel_rfl) ?_
  refine seq_nil ?_
  refine hK5 _ _ ?_
  try clear hK5 K5
  refine cond_false (by kernel_rfl) ?_
  refine wp_skip ?_
  refine hK4 _ _ ?_
  try clear hK4 K4
  refine wp_seq_k fun K6 hK6 => ?_
  refine wp_seq_k fun K7 hK7 => ?_
  refine region_lit ?_
  refine seq_val (.slice a_key key.length c_key) 15 rfl (by kernel_rfl) (by kernel_rfl) ?_
  refine seq_val (.int .i64 ((key.length : Nat) : Int)) 16 rfl (by kernel_rfl) (by kernel_rfl) ?_
  refine seq_val (.bool false) 17 rfl (by kernel_rfl) (run_eq (u := .bool (decide (((key.length : Nat) : Int) > 1000))) (by kernel_rfl) (congrArg Value.bool (decide_eq_false (by omega)))) ?_
  refine seq_val (.bool false) 18 rfl (by kernel_rfl) (by kernel_rfl) ?_
  refine seq_val (.slice a_info info.length c_info) 19 rfl (by kernel_rfl) (by kernel_rfl) ?_
  refine seq_val (.int .i64 ((info.length : Nat) : Int)) 20 rfl (by kernel_rfl) (by kernel_rfl) ?_
  refine seq_val (.bool false) 21 rfl (by kernel_rfl) (run_eq (u := .bool (decide (((info.length : Nat) : Int) > 1000))) (by kernel_rfl) (congrArg Value.bool (decide_eq_false (by omega)))) ?_
  refine seq_val (.bool false) 22 rfl (by kernel_rfl) (by kernel_rfl) ?_
  refine seq_val (.bool false) 23 rfl (by kernel_rfl) (by kernel_rfl) ?_
  refine seq_val (.int .i64 n) 24 rfl (by kernel_rfl) (by kernel_rfl) ?_
  refine seq_val (.bool false) 25 rfl (by kernel_rfl) (run_eq (u := .bool (decide (n < 0))) (by kernel_rfl) (congrArg Value.bool (decide_eq_false (by omega)))) ?_
  refine seq_val (.bool false) 26 rfl (by kernel_rfl) (by kernel_rfl) ?_
  refine seq_val (.bool false) 27 rfl (by kernel_rfl) (by kernel_rfl) ?_
  refine seq_val (.int .i64 m) 28 rfl (by kernel_rfl) (by kernel_rfl) ?_
  refine seq_val (.int .i64 n) 29 rfl (by kernel_rfl) (by kernel_rfl) ?_
  refine seq_val (.bool false) 30 rfl (by kernel_rfl) (run_eq (u := .bool (decide (m < n))) (by kernel_rfl) (congrArg Value.bool (decide_eq_false (by omega)))) ?_
  refine seq_val (.bool false) 31 rfl (by kernel_rfl) (by kernel_rfl) ?_
  refine seq_val (.bool false) 32 rfl (by kernel_rfl) (by kernel_rfl) ?_
  refine seq_val (.int .i64 m) 33 rfl (by kernel_rfl) (by kernel_rfl) ?_
  refine seq_val (.bool true) 34 rfl (by kernel_rfl) (run_eq (u := .bool (decide (m > 3000))) (by kernel_rfl) (congrArg Value.bool (decide_eq_true (by omega)))) ?_
  refine seq_val (.bool true) 35 rfl (by kernel_rfl) (by kernel_rfl) ?_
  refine seq_nil ?_
  refine hK7 _ _ ?_
  try clear hK7 K7
  refine cond_true (by kernel_rfl) ?_
  refine wp_seq_k fun K8 hK8 => ?_
  refine region_lit ?_
  refine seq_val (.bool true) 8 rfl (by kernel_rfl) (by kernel_rfl) ?_
  refine seq_nil ?_
  refine hK8 _ _ ?_
  try clear hK8 K8
  refine wp_ret ?_
  repeat (first | with_reducible refine goR1 ?_ | with_reducible refine goR2 ?_)
  exact (show bodyPost _ _ _ .ret _ _ from ret1 (.bool true) rfl (res_tmp (by kernel_rfl)) ⟨rfl, x1⟩)
set_option maxHeartbeats 4000000 in
theorem beg_F (key info : List Int) (v1 v2 : Value) (B B2 : Nat) (tc tq : TypeId) (w : World) (hc : w.heap[1]? = some (.cells (ints .u64 cubesI) tc)) (hq : w.heap[0]? = some (.cells (ints .u64 squaresI) tq)) (hkb : AreBytes key) (hib : AreBytes info) (hk : RdK .u8 B key v1 w) (hi : RdK .u8 B2 info v2 w) (n m : Nat) (h1 : key.length ≤ 1000) (h2 : info.length ≤ 1000) (hnm : n ≤ m) (h : m ≤ 3000) : Calls Tryd.prog 25 #[v1, v2, .int .i64 ((n : Nat) : Int), .int .i64 ((m : Nat) : Int)] w (Ret w (.bool true)) := by
  obtain ⟨a_key, c_key, rfl, -⟩ := id hk
  obtain ⟨a_info, c_info, rfl, -⟩ := id hi
  refine enter 69 [(0, .slice a_key key.length c_key), (1, .slice a_info info.length c_info), (2, .int .i64 ((n : Nat) : Int)), (3, .int .i64 ((m : Nat) : Int))] Tryd.func25 rfl rfl (by kernel_rfl) rfl ?_
  refine wp_seq_k fun K3 hK3 => ?_
  refine region_lit ?_
  refine seq_val (.bool false) 8 rfl (by kernel_rfl) (by kernel_rfl) ?_
  refine seq_nil ?_
  refine hK3 _ _ ?_
  try clear hK3 K3
  refine wp_seq_k fun K4 hK4 => ?_
  refine wp_seq_k fun K5 hK5 => ?_
  refine region_lit ?_
  refine seq_call (.bool true) 13 #[] 13 rfl (by kernel_rfl) (by kernel_rfl) (alive02 tc tq _ hc hq) fun W1 e1 => ?_
  have x1 : Ext w W1 := Ext.tr (Rely.Ext.refl w) e1
  refine seq_val (.bool false) 14 rfl (by kernel_rfl) (by kernel_rfl) ?_
  refine seq_nil ?_
  refine hK5 _ _ ?_
  try clear hK5 K5
  refine cond_false (by kernel_rfl) ?_
  refine wp_skip ?_
  refine hK4 _ _ ?_
  try clear hK4 K4
  refine wp_seq_k fun K6 hK6 => ?_
  refine wp_seq_k fun K7 hK7 => ?_
  refine region_lit ?_
  refine seq_val (.slice a_key key.length c_key) 15 rfl (by kernel_rfl) (by kernel_rfl) ?_
  refine seq_val (.int .i64 ((key.length : Nat) : Int)) 16 rfl (by kernel_rfl) (by kernel_rfl) ?_
  refine seq_val (.bool false) 17 rfl (by kernel_rfl) (run_eq (u := .bool (decide (((key.length : Nat) : Int) > 1000))) (by kernel_rfl) (congrArg Value.bool (decide_eq_false (by omega)))) ?_
  refine seq_val (.bool false) 18 rfl (by kernel_rfl) (by kernel_rfl) ?_
  refine seq_val (.slice a_info info.length c_info) 19 rfl (by kernel_rfl) (by kernel_rfl) ?_
  refine seq_val (.int .i64 ((info.length : Nat) : Int)) 20 rfl (by kernel_rfl) (by kernel_rfl) ?_
  refine seq_val (.bool false) 21 rfl (by kernel_rfl) (run_eq (u := .bool (decide (((info.length : Nat) : Int) > 1000))) (by kernel_rfl) (congrArg Value.bool (decide_eq_false (by omega)))) ?_
  refine seq_val (.bool false) 22 rfl (by kernel_rfl) (by kernel_rfl) ?_
  refine seq_val (.bool false) 23 rfl (by kernel_rfl) (by kernel_rfl) ?_
  refine seq_val (.int .i64 ((n : Nat) : Int)) 24 rfl (by kernel_rfl) (by kernel_rfl) ?_
  refine seq_val (.bool false) 25 rfl (by kernel_rfl) (run_eq (u := .bool (decide (((n : Nat) : Int) < 0))) (by kernel_rfl) (congrArg Value.bool (decide_eq_false (by omega)))) ?_
  refine seq_val (.bool false) 26 rfl (by kernel_rfl) (by kernel_rfl) ?_
  refine seq_val (.bool false) 27 rfl (by kernel_rfl) (by kernel_rfl) ?_
  refine seq_val (.int .i64 ((m : Nat) : Int)) 28 rfl (by kernel_rfl) (by kernel_rfl) ?_
  refine seq_val (.int .i64 ((n : Nat) : Int)) 29 rfl (by kernel_rfl) (by kernel_rfl) ?_
  refine seq_val (.bool false) 30 rfl (by kernel_rfl) (run_eq (u := .bool (decide (((m : Nat) : Int) < ((n : Nat) : Int)))) (by kernel_rfl) (congrArg Value.bool (decide_eq_false (by omega)))) ?_
  refine seq_val (.bool false) 31 rfl (by kernel_rfl) (by kernel_rfl) ?_
  refine seq_val (.bool false) 32 rfl (by kernel_rfl) (by kernel_rfl) ?_
  refine seq_val (.int .i64 ((m : Nat) : Int)) 33 rfl (by kernel_rfl) (by kernel_rfl) ?_
  refine seq_val (.bool false) 34 rfl (by kernel_rfl) (run_eq (u := .bool (decide (((m : Nat) : Int) > 3000))) (by kernel_rfl) (congrArg Value.bool (decide_eq_false (by omega)))) ?_
  refine seq_val (.bool false) 35 rfl (by kernel_rfl) (by kernel_rfl) ?_
  refine seq_nil ?_
  refine hK7 _ _ ?_
  try clear hK7 K7
  refine cond_false (by kernel_rfl) ?_
  refine wp_skip ?_
  refine hK6 _ _ ?_
  try clear hK6 K6
  refine wp_seq_k fun K8 hK8 => ?_
  refine region_lit ?_
  refine seq_val (.slice a_key key.length c_key) 37 rfl (by kernel_rfl) (by kernel_rfl) ?_
  refine seq_val (.slice a_info info.length c_info) 38 rfl (by kernel_rfl) (by kernel_rfl) ?_
  refine seq_val (.int .i64 ((n : Nat) : Int)) 39 rfl (by kernel_rfl) (by kernel_rfl) ?_
  have r1_1 := (row_ext hc e1)
  have r2_1 := (row_ext hq e1)
  refine seq_callR (fun v W' => (fun v W => ∃ u, v = .tuple #[u, .nilIface] ∧ OwnN .u8 5 W1.heap.size (kx key info n) u W) v W' ∧ Ext W1 W') 19 #[.slice a_key key.length c_key, .slice a_info info.length c_info, .int .i64 ((n : Nat) : Int)] 40 rfl (by kernel_rfl) (by kernel_rfl) ((kexpandX key info _ _ _ _ n tc tq _ r1_1 r2_1 (by omega) (by omega) (by omega) hkb hib (RdK.ext hk x1) (RdK.ext hi x1)).mono (by rintro e w' ⟨v, rfl, e1, hv⟩; exact ⟨v, rfl, hv, e1⟩)) fun vv9 W2 hh9 => ?_
  obtain ⟨hv9, e2⟩ := hh9
  have x2 : Ext w W2 := Ext.tr x1 e2
  obtain ⟨u10, rfl, hu10⟩ := hv9
  obtain ⟨au10, cu10, rfl, -⟩ := id (OwnN.rd hu10)
  refine seq_val (.tuple #[.slice au10 ((kx key info n).length) cu10, .nilIface]) 36 rfl (by kernel_rfl) (by kernel_rfl) ?_
  refine seq_val (.slice au10 ((kx key info n).length) cu10) 41 rfl (by kernel_rfl) (by kernel_rfl) ?_
  refine seq_val (.nilIface) 42 rfl (by kernel_rfl) (by kernel_rfl) ?_
  refine seq_val (.slice au10 ((kx key info n).length) cu10) 9 rfl (by kernel_rfl) (by kernel_rfl) ?_
  refine seq_val (.nilIface) 10 rfl (by kernel_rfl) (by kernel_rfl) ?_
  refine seq_nil ?_
  refine hK8 _ _ ?_
  try clear hK8 K8
  refine wp_seq_k fun K11 hK11 => ?_
  refine region_lit ?_
  refine seq_val (.slice a_key key.length c_key) 44 rfl (by kernel_rfl) (by kernel_rfl) ?_
  refine seq_val (.slice a_info info.length c_info) 45 rfl (by kernel_rfl) (by kernel_rfl) ?_
  refine seq_val (.int .i64 ((m : Nat) : Int)) 46 rfl (by kernel_rfl) (by kernel_rfl) ?_
  have r1_2 := (row_ext r1_1 e2)
  have r2_2 := (row_ext r2_1 e2)
  refine seq_callR (fun v W' => (fun v W => ∃ u, v = .tuple #[u, .nilIface] ∧ OwnN .u8 5 W2.heap.size (kx key info m) u W) v W' ∧ Ext W2 W') 19 #[.slice a_key key.length c_key, .slice a_info info.length c_info, .int .i64 ((m : Nat) : Int)] 47 rfl (by kernel_rfl) (by kernel_rfl) ((kexpandX key info _ _ _ _ m tc tq _ r1_2 r2_2 (by omega) (by omega) (by omega) hkb hib (RdK.ext hk x2) (RdK.ext hi x2)).mono (by rintro e w' ⟨v, rfl, e1, hv⟩; exact ⟨v, rfl, hv, e1⟩)) fun vv12 W3 hh12 => ?_
  obtain ⟨hv12, e3⟩ := hh12
  have x3 : Ext w W3 := Ext.tr x2 e3
  obtain ⟨u13, rfl, hu13⟩ := hv12
  obtain ⟨au13, cu13, rfl, -⟩ := id (OwnN.rd hu13)
  refine seq_val (.tuple #[.slice au13 ((kx key info m).length) cu13, .nilIface]) 43 rfl (by kernel_rfl) (by kernel_rfl) ?_
  refine seq_val (.slice au13 ((kx key info m).length) cu13) 48 rfl (by kernel_rfl) (by kernel_rfl) ?_
  refine seq_val (.nilIface) 49 rfl (by kernel_rfl) (by kernel_rfl) ?_
  refine seq_val (.slice au13 ((kx key info m).length) cu13) 11 rfl (by kernel_rfl) (by kernel_rfl) ?_
  refine seq_val (.nilIface) 12 rfl (by kernel_rfl) (by kernel_rfl) ?_
  refine seq_nil ?_
  refine hK11 _ _ ?_
  try clear hK11 K11
  refine wp_seq_k fun K14 hK14 => ?_
  refine region_lit ?_
  refine seq_val (.nilIface) 50 rfl (by kernel_rfl) (by kernel_rfl) ?_
  refine seq_val (.bool true) 51 rfl (by kernel_rfl) (by kernel_rfl) ?_
  refine seq_val (.bool true) 52 rfl (by kernel_rfl) (by kernel_rfl) ?_
  refine seq_val (.nilIface) 53 rfl (by kernel_rfl) (by kernel_rfl) ?_
  refine seq_val (.bool true) 54 rfl (by kernel_rfl) (by kernel_rfl) ?_
  refine seq_val (.bool true) 55 rfl (by kernel_rfl) (by kernel_rfl) ?_
  refine seq_val (.bool true) 56 rfl (by kernel_rfl) (by kernel_rfl) ?_
  refine seq_val (.slice au13 ((kx key info m).length) cu13) 57 rfl (by kernel_rfl) (by kernel_rfl) ?_
  refine seq_val (.int .i64 (((kx key info m).length : Nat) : Int)) 58 rfl (by kernel_rfl) (by kernel_rfl) ?_
  refine seq_val (.int .i64 ((m : Nat) : Int)) 59 rfl (by kernel_rfl) (by kernel_rfl) ?_
  refine seq_val (.bool true) 60 rfl (by kernel_rfl) (run_eq (u := .bool (((((kx key info m).length : Nat) : Int) == ((m : Nat) : Int)))) (by kernel_rfl) (congrArg Value.bool (by rw [kx_len]; exact beq_self_eq_true _))) ?_
  refine seq_val (.bool true) 61 rfl (by kernel_rfl) (by kernel_rfl) ?_
  refine seq_val (.bool true) 62 rfl (by kernel_rfl) (by kernel_rfl) ?_
  refine seq_val (.slice au10 ((kx key info n).length) cu10) 63 rfl (by kernel_rfl) (by kernel_rfl) ?_
  refine seq_val (.slice au13 ((kx key info m).length) cu13) 64 rfl (by kernel_rfl) (by kernel_rfl) ?_
  refine seq_val (.int .i64 ((n : Nat) : Int)) 65 rfl (by kernel_rfl) (by kernel_rfl) ?_
  have hcap15 : n ≤ cu13 := by
    obtain ⟨_, _, e, q2, _⟩ := OwnN.rd (OwnN.ext hu13 (Rely.Ext.refl W3))
    simp only [Value.slice.injEq] at e
    obtain ⟨-, -, rfl⟩ := e
    rw [kx_len] at q2; omega
  have hs15 : OwnN .u8 5 W2.heap.size (kx key info n) (.slice au13 n cu13) W3 := kx_begin key info n m hnm ▸ own_take (OwnN.ext hu13 (Rely.Ext.refl W3)) (by rw [kx_len]; exact hnm)
  refine seq_val (.slice au13 n cu13) 66 rfl (by kernel_rfl) (run_sliceH (len := (kx key info m).length) 22 _ _ n 5 rfl (by kernel_rfl) (by kernel_rfl) (by kernel_rfl) .i64 (by kernel_rfl) hcap15) ?_
  have y2_3 : Ext W2 W3 := (Rely.Ext.trans (Rely.Ext.refl W2) e3)
  refine seq_call (.bool true) 21 #[.slice au10 ((kx key info n).length) cu10, .slice au13 n cu13] 67 rfl (by kernel_rfl) (by kernel_rfl) (sameT _ _ (kx key info n) _ (RdK.bytes (OwnN.rd (OwnN.ext hu10 y2_3)) (kx_bytes _ _ _)) (RdK.bytes (OwnN.rd hs15) (kx_bytes _ _ _))) fun W4 e4 => ?_
  have x4 : Ext w W4 := Ext.tr x3 e4
  refine seq_val (.bool true) 68 rfl (by kernel_rfl) (by kernel_rfl) ?_
  refine seq_val (.bool true) 8 rfl (by kernel_rfl) (by kernel_rfl) ?_
  refine seq_nil ?_
  refine hK14 _ _ ?_
  try clear hK14 K14
  refine wp_ret ?_
  repeat (first | with_reducible refine goR1 ?_ | with_reducible refine goR2 ?_)
  exact (show bodyPost _ _ _ .ret _ _ from ret1 (.bool true) rfl (res_tmp (by kernel_rfl)) ⟨rfl, x4⟩)
theorem begC (key info : List Int) (v1 v2 : Value) (B B2 : Nat) (tc tq : TypeId) (w : World) (hc : w.heap[1]? = some (.cells (ints .u64 cubesI) tc)) (hq : w.heap[0]? = some (.cells (ints .u64 squaresI) tq)) (hkb : AreBytes key) (hib : AreBytes info) (hk : RdK .u8 B key v1 w) (hi : RdK .u8 B2 info v2 w) (n m : Int) : Calls Tryd.prog 25 #[v1, v2, .int .i64 n, .int .i64 m] w (Ret w (.bool true)) := by
  by_cases h1 : 1000 < key.length
  · exact beg_A key info v1 v2 B B2 tc tq w hc hq hkb hib hk hi n m h1
  by_cases h2 : 1000 < info.length
  · exact beg_B key info v1 v2 B B2 tc tq w hc hq hkb hib hk hi n m (by omega) h2
  by_cases h3 : n < 0
  · exact beg_C key info v1 v2 B B2 tc tq w hc hq hkb hib hk hi n m (by omega) (by omega) h3
  by_cases h4 : m < n
  · exact beg_D key info v1 v2 B B2 tc tq w hc hq hkb hib hk hi n m (by omega) (by omega) (by omega) h4
  by_cases h5 : 3000 < m
  · exact beg_E key info v1 v2 B B2 tc tq w hc hq hkb hib hk hi n m (by omega) (by omega) (by omega) (by omega) h5
  obtain ⟨N, rfl⟩ := Int.eq_ofNat_of_zero_le (show 0 ≤ n by omega)
  obtain ⟨M, rfl⟩ := Int.eq_ofNat_of_zero_le (show 0 ≤ m by omega)
  exact beg_F key info v1 v2 B B2 tc tq w hc hq hkb hib hk hi N M (by omega) (by omega) (by omega) (by omega)
set_option maxHeartbeats 4000000 in
theorem lawBeg (key info : List Int) (v1 v2 : Value) (B B2 : Nat) (tc tq : TypeId) (w : World) (hc : w.heap[1]? = some (.cells (ints .u64 cubesI) tc)) (hq : w.heap[0]? = some (.cells (ints .u64 squaresI) tq)) (hkb : AreBytes key) (hib : AreBytes info) (hk : RdK .u8 B key v1 w) (hi : RdK .u8 B2 info v2 w) (n m : Int) : Calls Tryd.prog 6 #[.agg #[v1, v2, .int .i64 n, .int .i64 m]] w (Ret w (.bool true)) := by
  obtain ⟨a_key, c_key, rfl, -⟩ := id hk
  obtain ⟨a_info, c_info, rfl, -⟩ := id hi
  refine enter 12 [(0, .agg #[.slice a_key key.length c_key, .slice a_info info.length c_info, .int .i64 n, .int .i64 m])] Tryd.func6 rfl rfl (by kernel_rfl) rfl ?_
  refine wp_seq_k fun K3 hK3 => ?_
  refine region_lit ?_
  refine seq_alloc (cat [#[.slice a_key key.length c_key], #[.slice a_info info.length c_info], #[.int .i64 n], #[.int .i64 m]]) 47 1 rfl (by kernel_rfl) (by kernel_rfl) fun g4 W1 l4 e1 r4_1 => ?_
  have x1 : Ext w W1 := Ext.tr (Rely.Ext.refl w) e1
  have b4 : w.heap.size ≤ g4 := Nat.le_trans (Rely.Ext.refl w).size l4
  refine seq_val (.bool false) 2 rfl (by kernel_rfl) (by kernel_rfl) ?_
  refine seq_nil ?_
  refine hK3 _ _ ?_
  try clear hK3 K3
  refine wp_seq_k fun K5 hK5 => ?_
  refine region_lit ?_
  refine seq_val (.pointer (some ⟨g4, 0, none⟩)) 3 rfl (by kernel_rfl) (by kernel_rfl) ?_
  refine seq_val (.slice a_key key.length c_key) 4 rfl (by kernel_rfl) (run_loadC1 22 _ g4 0 47 _ (.slice a_key key.length c_key) _ r4_1 rfl (by kernel_rfl) (by kernel_rfl) (by kernel_rfl)) ?_
  refine seq_val (.pointer (some ⟨g4, 1, none⟩)) 5 rfl (by kernel_rfl) (by kernel_rfl) ?_
  refine seq_val (.slice a_info info.length c_info) 6 rfl (by kernel_rfl) (run_loadC1 22 _ g4 1 47 _ (.slice a_info info.length c_info) _ r4_1 rfl (by kernel_rfl) (by kernel_rfl) (by kernel_rfl)) ?_
  refine seq_val (.pointer (some ⟨g4, 2, none⟩)) 7 rfl (by kernel_rfl) (by kernel_rfl) ?_
  refine seq_val (.int .i64 n) 8 rfl (by kernel_rfl) (run_loadC1 3 _ g4 2 47 _ (.int .i64 n) _ r4_1 rfl (by kernel_rfl) (by kernel_rfl) (by kernel_rfl)) ?_
  refine seq_val (.pointer (some ⟨g4, 3, none⟩)) 9 rfl (by kernel_rfl) (by kernel_rfl) ?_
  refine seq_val (.int .i64 m) 10 rfl (by kernel_rfl) (run_loadC1 3 _ g4 3 47 _ (.int .i64 m) _ r4_1 rfl (by kernel_rfl) (by kernel_rfl) (by kernel_rfl)) ?_
  have r1_1 := (row_ext hc e1)
  have r2_1 := (row_ext hq e1)
  refine seq_call (.bool true) 25 #[.slice a_key key.length c_key, .slice a_info info.length c_info, .int .i64 n, .int .i64 m] 11 rfl (by kernel_rfl) (by kernel_rfl) (begC key info _ _ _ _ tc tq _ r1_1 r2_1 hkb hib (RdK.ext hk x1) (RdK.ext hi x1) n m) fun W2 e2 => ?_
  have x2 : Ext w W2 := Ext.tr x1 e2
  refine seq_val (.bool true) 2 rfl (by kernel_rfl) (by kernel_rfl) ?_
  refine seq_nil ?_
  refine hK5 _ _ ?_
  try clear hK5 K5
  refine wp_ret ?_
  repeat (first | with_reducible refine goR1 ?_ | with_reducible refine goR2 ?_)
  exact (show bodyPost _ _ _ .ret _ _ from ret1 (.bool true) rfl (res_tmp (by kernel_rfl)) ⟨rfl, x2⟩)

end Go.Proofs.YtamlhbbphnamnaaDoor.Sha
