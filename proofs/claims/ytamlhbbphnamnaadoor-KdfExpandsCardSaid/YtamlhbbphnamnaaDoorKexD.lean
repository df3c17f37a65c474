/- The law KdfExpands. -/
import Derived.Test.YtamlhbbphnamnaaDoorKexC
namespace Go.Proofs.YtamlhbbphnamnaaDoor.Sha
open Go Go.RowKit
open Go.Proofs.YtamlhbbphnamnaaDoor.Rely Go.Proofs.YtamlhbbphnamnaaDoor.Auto Go.Proofs.YtamlhbbphnamnaaDoor.Own
set_option linter.unusedVariables false
set_option linter.unusedSimpArgs false

set_option maxHeartbeats 4000000 in
theorem exp_A (key info : List Int) (v1 v2 : Value) (B B2 : Nat) (tc tq : TypeId) (w : World) (hc : w.heap[1]? = some (.cells (ints .u64 cubesI) tc)) (hq : w.heap[0]? = some (.cells (ints .u64 squaresI) tq)) (hkb : AreBytes key) (hib : AreBytes info) (hk : RdK .u8 B key v1 w) (hi : RdK .u8 B2 info v2 w) (n : Int) (h : 1000 < key.length) : Calls Tryd.prog 4 #[v1, v2, .int .i64 n] w (Ret w (.bool true)) := by
  obtain ⟨a_key, c_key, rfl, -⟩ := id hk
  obtain ⟨a_info, c_info, rfl, -⟩ := id hi
  refine enter 85 [(0, .slice a_key key.length c_key), (1, .slice a_info info.length c_info), (2, .int .i64 n)] Tryd.func4 rfl rfl (by kernel_rfl) rfl ?_
  refine wp_seq_k fun K3 hK3 => ?_
  refine region_lit ?_
  refine seq_val (.bool false) 6 rfl (by kernel_rfl) (by kernel_rfl) ?_
  refine seq_nil ?_
  refine hK3 _ _ ?_
  try clear hK3 K3
  refine wp_seq_k fun K4 hK4 => ?_
  refine wp_seq_k fun K5 hK5 => ?_
  refine region_lit ?_
  refine seq_call (.bool true) 13 #[] 13 rfl (by kernel_rfl) (by kernel_rfl) (alive02 tc tq _ hc hq) fun W1 e1 => ?_
  have x1 : Ext w W1 := Ext.tr (Rely.Ext.refl w) e1
  refine seq_val (.bool false) 14 rfl (by kernel_rfl) (by kernel_rfl) ?_
  refine seq_nil ?_
  refine hK5 _ _ ?_
  try clear hK5 K5
  refine cond_false (by kernel_rfl) ?_
  refine wp_skip ?_
  refine hK4 _ _ ?_
  try clear hK4 K4
  refine wp_seq_k fun K6 hK6 => ?_
  refine wp_seq_k fun K7 hK7 => ?_
  refine region_lit ?_
  refine seq_val (.slice a_key key.length c_key) 15 rfl (by kernel_rfl) (by kernel_rfl) ?_
  refine seq_val (.int .i64 ((key.length : Nat) : Int)) 16 rfl (by kernel_rfl) (by kernel_rfl) ?_
  refine seq_val (.bool true) 17 rfl (by kernel_rfl) (run_eq (u := .bool (decide (((key.length : Nat) : Int) > 1000))) (by kernel_rfl) (congrArg Value.bool (decide_eq_true (by omega)))) ?_
  refine seq_val (.bool true) 18 rfl (by kernel_rfl) (by kernel_rfl) ?_
  refine seq_skip 19 rfl (by kernel_rfl) ?_
  refine seq_skip 20 rfl (by kernel_rfl) ?_
  refine seq_skip 21 rfl (by kernel_rfl) ?_
  refine seq_val (.bool true) 22 rfl (by kernel_rfl) (by kernel_rfl) ?_
  refine seq_val (.bool true) 23 rfl (by kernel_rfl) (by kernel_rfl) ?_
  refine seq_skip 24 rfl (by kernel_rfl) ?_
  refine seq_skip 25 rfl (by kernel_rfl) ?_
  refine seq_skip 26 rfl (by kernel_rfl) ?_
  refine seq_skip 27 rfl (by kernel_rfl) ?_
  refine seq_skip 28 rfl (by kernel_rfl) ?_
  refine seq_skip 29 rfl (by kernel_rfl) ?_
  refine seq_val (.bool true) 30 rfl (by kernel_rfl) (by kernel_rfl) ?_
  refine seq_nil ?_
  refine hK7 _ _ ?_
  try clear hK7 K7
  refine cond_true (by kernel_rfl) ?_
  refine wp_seq_k fun K8 hK8 => ?_
  refine region_lit ?_
  refine seq_val (.bool true) 6 rfl (by kernel_rfl) (by kernel_rfl) ?_
  refine seq_nil ?_
  refine hK8 _ _ ?_
  try clear hK8 K8
  refine wp_ret ?_
  repeat (first | with_reducible refine goR1 ?_ | with_reducible refine goR2 ?_)
  exact (show bodyPost _ _ _ .ret _ _ from ret1 (.bool true) rfl (res_tmp (by kernel_rfl)) ⟨rfl, x1⟩)
set_option maxHeartbeats 4000000 in
theorem exp_B (key info : List Int) (v1 v2 : Value) (B B2 : Nat) (tc tq : TypeId) (w : World) (hc : w.heap[1]? = some (.cells (ints .u64 cubesI) tc)) (hq : w.heap[0]? = some (.cells (ints .u64 squaresI) tq)) (hkb : AreBytes key) (hib : AreBytes info) (hk : RdK .u8 B key v1 w) (hi : RdK .u8 B2 info v2 w) (n : Int) (h1 : key.length ≤ 1000) (h : 1000 < info.length) : Calls Tryd.prog 4 #[v1, v2, .int .i64 n] w (Ret w (.bool true)) := by
  obtain ⟨a_key, c_key, rfl, -⟩ := id hk
  obtain ⟨a_info, c_info, rfl, -⟩ := id hi
  refine enter 85 [(0, .slice a_key key.length c_key), (1, .slice a_info info.length c_info), (2, .int .i64 n)] Tryd.func4 rfl rfl (by kernel_rfl) rfl ?_
  refine wp_seq_k fun K3 hK3 => ?_
  refine region_lit ?_
  refine seq_val (.bool false) 6 rfl (by kernel_rfl) (by kernel_rfl) ?_
  refine seq_nil ?_
  refine hK3 _ _ ?_
  try clear hK3 K3
  refine wp_seq_k fun K4 hK4 => ?_
  refine wp_seq_k fun K5 hK5 => ?_
  refine region_lit ?_
  refine seq_call (.bool true) 13 #[] 13 rfl (by kernel_rfl) (by kernel_rfl) (alive02 tc tq _ hc hq) fun W1 e1 => ?_
  have x1 : Ext w W1 := Ext.tr (Rely.Ext.refl w) e1
  refine seq_val (.bool false) 14 rfl (by kernel_rfl) (by kernel_rfl) ?_
  refine seq_nil ?_
  refine hK5 _ _ ?_
  try clear hK5 K5
  refine cond_false (by kernel_rfl) ?_
  refine wp_skip ?_
  refine hK4 _ _ ?_
  try clear hK4 K4
  refine wp_seq_k fun K6 hK6 => ?_
  refine wp_seq_k fun K7 hK7 => ?_
  refine region_lit ?_
  refine seq_val (.slice a_key key.length c_key) 15 rfl (by kernel_rfl) (by kernel_rfl) ?_
  refine seq_val (.int .i64 ((key.length : Nat) : Int)) 16 rfl (by kernel_rfl) (by kernel_rfl) ?_
  refine seq_val (.bool false) 17 rfl (by kernel_rfl) (run_eq (u := .bool (decide (((key.length : Nat) : Int) > 1000))) (by kernel_rfl) (congrArg Value.bool (decide_eq_false (by omega)))) ?_
  refine seq_val (.bool false) 18 rfl (by kernel_rfl) (by kernel_rfl) ?_
  refine seq_val (.slice a_info info.length c_info) 19 rfl (by kernel_rfl) (by kernel_rfl) ?_
  refine seq_val (.int .i64 ((info.length : Nat) : Int)) 20 rfl (by kernel_rfl) (by kernel_rfl) ?_
  refine seq_val (.bool true) 21 rfl (by kernel_rfl) (run_eq (u := .bool (decide (((info.length : Nat) : Int) > 1000))) (by kernel_rfl) (congrArg Value.bool (decide_eq_true (by omega)))) ?_
  refine seq_val (.bool true) 22 rfl (by kernel_rfl) (by kernel_rfl) ?_
  refine seq_val (.bool true) 23 rfl (by kernel_rfl) (by kernel_rfl) ?_
  refine seq_skip 24 rfl (by kernel_rfl) ?_
  refine seq_skip 25 rfl (by kernel_rfl) ?_
  refine seq_skip 26 rfl (by kernel_rfl) ?_
  refine seq_skip 27 rfl (by kernel_rfl) ?_
  refine seq_skip 28 rfl (by kernel_rfl) ?_
  refine seq_skip 29 rfl (by kernel_rfl) ?_
  refine seq_val (.bool true) 30 rfl (by kernel_rfl) (by kernel_rfl) ?_
  refine seq_nil ?_
  refine hK7 _ _ ?_
  try clear hK7 K7
  refine cond_true (by kernel_rfl) ?_
  refine wp_seq_k fun K8 hK8 => ?_
  refine region_lit ?_
  refine seq_val (.bool true) 6 rfl (by kernel_rfl) (by kernel_rfl) ?_
  refine seq_nil ?_
  refine hK8 _ _ ?_
  try clear hK8 K8
  refine wp_ret ?_
  repeat (first | with_reducible refine goR1 ?_ | with_reducible refine goR2 ?_)
  exact (show bodyPost _ _ _ .ret _ _ from ret1 (.bool true) rfl (res_tmp (by kernel_rfl)) ⟨rfl, x1⟩)
set_option maxHeartbeats 4000000 in
theorem exp_C (key info : List Int) (v1 v2 : Value) (B B2 : Nat) (tc tq : TypeId) (w : World) (hc : w.heap[1]? = some (.cells (ints .u64 cubesI) tc)) (hq : w.heap[0]? = some (.cells (ints .u64 squaresI) tq)) (hkb : AreBytes key) (hib : AreBytes info) (hk : RdK .u8 B key v1 w) (hi : RdK .u8 B2 info v2 w) (n : Nat) (h1 : key.length ≤ 1000) (h2 : info.length ≤ 1000) (h3 : 1000 < n) (h : n ≤ 8160) : Calls Tryd.prog 4 #[v1, v2, .int .i64 ((n : Nat) : Int)] w (Ret w (.bool true)) := by
  obtain ⟨a_key, c_key, rfl, -⟩ := id hk
  obtain ⟨a_info, c_info, rfl, -⟩ := id hi
  refine enter 85 [(0, .slice a_key key.length c_key), (1, .slice a_info info.length c_info), (2, .int .i64 ((n : Nat) : Int))] Tryd.func4 rfl rfl (by kernel_rfl) rfl ?_
  refine wp_seq_k fun K3 hK3 => ?_
  refine region_lit ?_
  refine seq_val (.bool false) 6 rfl (by kernel_rfl) (by kernel_rfl) ?_
  refine seq_nil ?_
  refine hK3 _ _ ?_
  try clear hK3 K3
  refine wp_seq_k fun K4 hK4 => ?_
  refine wp_seq_k fun K5 hK5 => ?_
  refine region_lit ?_
  refine seq_call (.bool true) 13 #[] 13 rfl (by kernel_rfl) (by kernel_rfl) (alive02 tc tq _ hc hq) fun W1 e1 => ?_
  have x1 : Ext w W1 := Ext.tr (Rely.Ext.refl w) e1
  refine seq_val (.bool false) 14 rfl (by kernel_rfl) (by kernel_rfl) ?_
  refine seq_nil ?_
  refine hK5 _ _ ?_
  try clear hK5 K5
  refine cond_false (by kernel_rfl) ?_
  refine wp_skip ?_
  refine hK4 _ _ ?_
  try clear hK4 K4
  refine wp_seq_k fun K6 hK6 => ?_
  refine wp_seq_k fun K7 hK7 => ?_
  refine region_lit ?_
  refine seq_val (.slice a_key key.length c_key) 15 rfl (by kernel_rfl) (by kernel_rfl) ?_
  refine seq_val (.int .i64 ((key.length : Nat) : Int)) 16 rfl (by kernel_rfl) (by kernel_rfl) ?_
  refine seq_val (.bool false) 17 rfl (by kernel_rfl) (run_eq (u := .bool (decide (((key.length : Nat) : Int) > 1000))) (by kernel_rfl) (congrArg Value.bool (decide_eq_false (by omega)))) ?_
  refine seq_val (.bool false) 18 rfl (by kernel_rfl) (by kernel_rfl) ?_
  refine seq_val (.slice a_info info.length c_info) 19 rfl (by kernel_rfl) (by kernel_rfl) ?_
  refine seq_val (.int .i64 ((info.length : Nat) : Int)) 20 rfl (by kernel_rfl) (by kernel_rfl) ?_
  refine seq_val (.bool false) 21 rfl (by kernel_rfl) (run_eq (u := .bool (decide (((info.length : Nat) : Int) > 1000))) (by kernel_rfl) (congrArg Value.bool (decide_eq_false (by omega)))) ?_
  refine seq_val (.bool false) 22 rfl (by kernel_rfl) (by kernel_rfl) ?_
  refine seq_val (.bool false) 23 rfl (by kernel_rfl) (by kernel_rfl) ?_
  refine seq_val (.int .i64 ((n : Nat) : Int)) 24 rfl (by kernel_rfl) (by kernel_rfl) ?_
  refine seq_val (.bool true) 25 rfl (by kernel_rfl) (run_eq (u := .bool (decide (((n : Nat) : Int) > 1000))) (by kernel_rfl) (congrArg Value.bool (decide_eq_true (by omega)))) ?_
  refine seq_val (.bool true) 26 rfl (by kernel_rfl) (by kernel_rfl) ?_
  refine seq_val (.int .i64 ((n : Nat) : Int)) 27 rfl (by kernel_rfl) (by kernel_rfl) ?_
  refine seq_val (.bool true) 28 rfl (by kernel_rfl) (run_eq (u := .bool (decide (((n : Nat) : Int) ≤ 8160))) (by kernel_rfl) (congrArg Value.bool (decide_eq_true (by omega)))) ?_
  refine seq_val (.bool true) 29 rfl (by kernel_rfl) (by kernel_rfl) ?_
  refine seq_val (.bool true) 30 rfl (by kernel_rfl) (by kernel_rfl) ?_
  refine seq_nil ?_
  refine hK7 _ _ ?_
  try clear hK7 K7
  refine cond_true (by kernel_rfl) ?_
  refine wp_seq_k fun K8 hK8 => ?_
  refine region_lit ?_
  refine seq_val (.bool true) 6 rfl (by kernel_rfl) (by kernel_rfl) ?_
  refine seq_nil ?_
  refine hK8 _ _ ?_
  try clear hK8 K8
  refine wp_ret ?_
  repeat (first | with_reducible refine goR1 ?_ | with_reducible refine goR2 ?_)
  exact (show bodyPost _ _ _ .ret _ _ from ret1 (.bool true) rfl (res_tmp (by kernel_rfl)) ⟨rfl, x1⟩)
set_option maxHeartbeats 4000000 in
theorem exp_D (key info : List Int) (v1 v2 : Value) (B B2 : Nat) (tc tq : TypeId) (w : World) (hc : w.heap[1]? = some (.cells (ints .u64 cubesI) tc)) (hq : w.heap[0]? = some (.cells (ints .u64 squaresI) tq)) (hkb : AreBytes key) (hib : AreBytes info) (hk : RdK .u8 B key v1 w) (hi : RdK .u8 B2 info v2 w) (n : Nat) (h1 : key.length ≤ 1000) (h2 : info.length ≤ 1000) (h : n ≤ 1000) : Calls Tryd.prog 4 #[v1, v2, .int .i64 ((n : Nat) : Int)] w (Ret w (.bool true)) := by
  obtain ⟨a_key, c_key, rfl, -⟩ := id hk
  obtain ⟨a_info, c_info, rfl, -⟩ := id hi
  refine enter 85 [(0, .slice a_key key.length c_key), (1, .slice a_info info.length c_info), (2, .int .i64 ((n : Nat) : Int))] Tryd.func4 rfl rfl (by kernel_rfl) rfl ?_
  refine wp_seq_k fun K3 hK3 => ?_
  refine region_lit ?_
  refine seq_val (.bool false) 6 rfl (by kernel_rfl) (by kernel_rfl) ?_
  refine seq_nil ?_
  refine hK3 _ _ ?_
  try clear hK3 K3
  refine wp_seq_k fun K4 hK4 => ?_
  refine wp_seq_k fun K5 hK5 => ?_
  refine region_lit ?_
  refine seq_call (.bool true) 13 #[] 13 rfl (by kernel_rfl) (by kernel_rfl) (alive02 tc tq _ hc hq) fun W1 e1 => ?_
  have x1 : Ext w W1 := Ext.tr (Rely.Ext.refl w) e1
  refine seq_val (.bool false) 14 rfl (by kernel_rfl) (by kernel_rfl) ?_
  refine seq_nil ?_
  refine hK5 _ _ ?_
  try clear hK5 K5
  refine cond_false (by kernel_rfl) ?_
  refine wp_skip ?_
  refine hK4 _ _ ?_
  try clear hK4 K4
  refine wp_seq_k fun K6 hK6 => ?_
  refine wp_seq_k fun K7 hK7 => ?_
  refine region_lit ?_
  refine seq_val (.slice a_key key.length c_key) 15 rfl (by kernel_rfl) (by kernel_rfl) ?_
  refine seq_val (.int .i64 ((key.length : Nat) : Int)) 16 rfl (by kernel_rfl) (by kernel_rfl) ?_
  refine seq_val (.bool false) 17 rfl (by kernel_rfl) (run_eq (u := .bool (decide (((key.length : Nat) : Int) > 1000))) (by kernel_rfl) (congrArg Value.bool (decide_eq_false (by omega)))) ?_
  refine seq_val (.bool false) 18 rfl (by kernel_rfl) (by kernel_rfl) ?_
  refine seq_val (.slice a_info info.length c_info) 19 rfl (by kernel_rfl) (by kernel_rfl) ?_
  refine seq_val (.int .i64 ((info.length : Nat) : Int)) 20 rfl (by kernel_rfl) (by kernel_rfl) ?_
  refine seq_val (.bool false) 21 rfl (by kernel_rfl) (run_eq (u := .bool (decide (((info.length : Nat) : Int) > 1000))) (by kernel_rfl) (congrArg Value.bool (decide_eq_false (by omega)))) ?_
  refine seq_val (.bool false) 22 rfl (by kernel_rfl) (by kernel_rfl) ?_
  refine seq_val (.bool false) 23 rfl (by kernel_rfl) (by kernel_rfl) ?_
  refine seq_val (.int .i64 ((n : Nat) : Int)) 24 rfl (by kernel_rfl) (by kernel_rfl) ?_
  refine seq_val (.bool false) 25 rfl (by kernel_rfl) (run_eq (u := .bool (decide (((n : Nat) : Int) > 1000))) (by kernel_rfl) (congrArg Value.bool (decide_eq_false (by omega)))) ?_
  refine seq_val (.bool false) 26 rfl (by kernel_rfl) (by kernel_rfl) ?_
  refine seq_skip 27 rfl (by kernel_rfl) ?_
  refine seq_skip 28 rfl (by kernel_rfl) ?_
  refine seq_val (.bool false) 29 rfl (by kernel_rfl) (by kernel_rfl) ?_
  refine seq_val (.bool false) 30 rfl (by kernel_rfl) (by kernel_rfl) ?_
  refine seq_nil ?_
  refine hK7 _ _ ?_
  try clear hK7 K7
  refine cond_false (by kernel_rfl) ?_
  refine wp_skip ?_
  refine hK6 _ _ ?_
  try clear hK6 K6
  refine wp_seq_k fun K8 hK8 => ?_
  refine region_lit ?_
  refine seq_val (.slice a_key key.length c_key) 31 rfl (by kernel_rfl) (by kernel_rfl) ?_
  refine seq_callR (fun v W' => (CopyN 5 W1.heap.size (key)) v W' ∧ Ext W1 W') 14 #[.slice a_key key.length c_key] 32 rfl (by kernel_rfl) (by kernel_rfl) ((copyC (key) _ _ _ (by omega) (RdK.ext hk x1)).mono (by rintro e w' ⟨v, rfl, e1, hv⟩; exact ⟨v, rfl, hv, e1⟩)) fun vv9 W2 hh9 => ?_
  obtain ⟨hv9, e2⟩ := hh9
  have x2 : Ext w W2 := Ext.tr x1 e2
  have hq10 := hv9
  obtain ⟨gk10, ck10, rfl, -⟩ := hq10
  refine seq_val (.slice a_info info.length c_info) 33 rfl (by kernel_rfl) (by kernel_rfl) ?_
  refine seq_callR (fun v W' => (CopyN 5 W2.heap.size (info)) v W' ∧ Ext W2 W') 14 #[.slice a_info info.length c_info] 34 rfl (by kernel_rfl) (by kernel_rfl) ((copyC (info) _ _ _ (by omega) (RdK.ext hi x2)).mono (by rintro e w' ⟨v, rfl, e1, hv⟩; exact ⟨v, rfl, hv, e1⟩)) fun vv11 W3 hh11 => ?_
  obtain ⟨hv11, e3⟩ := hh11
  have x3 : Ext w W3 := Ext.tr x2 e3
  have hq12 := hv11
  obtain ⟨gk12, ck12, rfl, -⟩ := hq12
  refine seq_val (.slice (some ⟨gk10, 0, none⟩) (key).length ck10) 7 rfl (by kernel_rfl) (by kernel_rfl) ?_
  refine seq_val (.slice (some ⟨gk12, 0, none⟩) (info).length ck12) 8 rfl (by kernel_rfl) (by kernel_rfl) ?_
  refine seq_nil ?_
  refine hK8 _ _ ?_
  try clear hK8 K8
  refine wp_seq_k fun K13 hK13 => ?_
  refine region_lit ?_
  refine seq_val (.slice (some ⟨gk10, 0, none⟩) (key).length ck10) 36 rfl (by kernel_rfl) (by kernel_rfl) ?_
  refine seq_val (.slice (some ⟨gk12, 0, none⟩) (info).length ck12) 37 rfl (by kernel_rfl) (by kernel_rfl) ?_
  refine seq_val (.int .i64 ((n : Nat) : Int)) 38 rfl (by kernel_rfl) (by kernel_rfl) ?_
  have r1_1 := (row_ext hc e1)
  have r1_2 := (row_ext r1_1 e2)
  have r1_3 := (row_ext r1_2 e3)
  have r2_1 := (row_ext hq e1)
  have r2_2 := (row_ext r2_1 e2)
  have r2_3 := (row_ext r2_2 e3)
  have y2_3 : Ext W2 W3 := (Rely.Ext.trans (Rely.Ext.refl W2) e3)
  refine seq_callR (fun v W' => (fun v W => ∃ u, v = .tuple #[u, .nilIface] ∧ OwnN .u8 5 W3.heap.size (kx key info n) u W) v W' ∧ Ext W3 W') 19 #[.slice (some ⟨gk10, 0, none⟩) (key).length ck10, .slice (some ⟨gk12, 0, none⟩) (info).length ck12, .int .i64 ((n : Nat) : Int)] 39 rfl (by kernel_rfl) (by kernel_rfl) ((kexpandX key info _ _ _ _ n tc tq _ r1_3 r2_3 (by omega) (by omega) (by omega) hkb hib (RdK.ext (CopyN.rd hv9) y2_3) (RdK.ext (CopyN.rd hv11) (Rely.Ext.refl W3))).mono (by rintro e w' ⟨v, rfl, e1, hv⟩; exact ⟨v, rfl, hv, e1⟩)) fun vv14 W4 hh14 => ?_
  obtain ⟨hv14, e4⟩ := hh14
  have x4 : Ext w W4 := Ext.tr x3 e4
  obtain ⟨u15, rfl, hu15⟩ := hv14
  obtain ⟨au15, cu15, rfl, -⟩ := id (OwnN.rd hu15)
  refine seq_val (.tuple #[.slice au15 ((kx key info n).length) cu15, .nilIface]) 35 rfl (by kernel_rfl) (by kernel_rfl) ?_
  refine seq_val (.slice au15 ((kx key info n).length) cu15) 40 rfl (by kernel_rfl) (by kernel_rfl) ?_
  refine seq_val (.nilIface) 41 rfl (by kernel_rfl) (by kernel_rfl) ?_
  refine seq_val (.slice au15 ((kx key info n).length) cu15) 9 rfl (by kernel_rfl) (by kernel_rfl) ?_
  refine seq_val (.nilIface) 10 rfl (by kernel_rfl) (by kernel_rfl) ?_
  refine seq_nil ?_
  refine hK13 _ _ ?_
  try clear hK13 K13
  refine wp_seq_k fun K16 hK16 => ?_
  refine region_lit ?_
  refine seq_val (.slice a_key key.length c_key) 43 rfl (by kernel_rfl) (by kernel_rfl) ?_
  refine seq_val (.slice a_info info.length c_info) 44 rfl (by kernel_rfl) (by kernel_rfl) ?_
  refine seq_val (.int .i64 ((n : Nat) : Int)) 45 rfl (by kernel_rfl) (by kernel_rfl) ?_
  have r1_4 := (row_ext r1_3 e4)
  have r2_4 := (row_ext r2_3 e4)
  refine seq_callR (fun v W' => (fun v W => ∃ u, v = .tuple #[u, .bool true] ∧ OwnN .u8 5 W4.heap.size (kx key info n) u W) v W' ∧ Ext W4 W') 20 #[.slice a_key key.length c_key, .slice a_info info.length c_info, .int .i64 ((n : Nat) : Int)] 46 rfl (by kernel_rfl) (by kernel_rfl) ((rexpandX key info _ _ _ _ n _ (by omega) (by omega) (by omega) hkb hib (RdK.ext hk x4) (RdK.ext hi x4)).mono (by rintro e w' ⟨v, rfl, e1, hv⟩; exact ⟨v, rfl, hv, e1⟩)) fun vv17 W5 hh17 => ?_
  obtain ⟨hv17, e5⟩ := hh17
  have x5 : Ext w W5 := Ext.tr x4 e5
  obtain ⟨u18, rfl, hu18⟩ := hv17
  obtain ⟨au18, cu18, rfl, -⟩ := id (OwnN.rd hu18)
  refine seq_val (.tuple #[.slice au18 ((kx key info n).length) cu18, .bool true]) 42 rfl (by kernel_rfl) (by kernel_rfl) ?_
  refine seq_val (.slice au18 ((kx key info n).length) cu18) 47 rfl (by kernel_rfl) (by kernel_rfl) ?_
  refine seq_val (.bool true) 48 rfl (by kernel_rfl) (by kernel_rfl) ?_
  refine seq_val (.slice au18 ((kx key info n).length) cu18) 11 rfl (by kernel_rfl) (by kernel_rfl) ?_
  refine seq_val (.bool true) 12 rfl (by kernel_rfl) (by kernel_rfl) ?_
  refine seq_nil ?_
  refine hK16 _ _ ?_
  try clear hK16 K16
  refine wp_seq_k fun K19 hK19 => ?_
  refine wp_seq_k fun K20 hK20 => ?_
  refine region_lit ?_
  refine seq_val (.slice (some ⟨gk10, 0, none⟩) (key).length ck10) 49 rfl (by kernel_rfl) (by kernel_rfl) ?_
  refine seq_val (.slice a_key key.length c_key) 50 rfl (by kernel_rfl) (by kernel_rfl) ?_
  have y2_4 : Ext W2 W4 := (Rely.Ext.trans y2_3 e4)
  have y2_5 : Ext W2 W5 := (Rely.Ext.trans y2_4 e5)
  refine seq_call (.bool true) 18 #[.slice (some ⟨gk10, 0, none⟩) (key).length ck10, .slice a_key key.length c_key] 51 rfl (by kernel_rfl) (by kernel_rfl) (keptC (key) _ _ _ _ _ (by omega) hkb (CopyN.ext hv9 y2_5) (RdK.ext hk x5)) fun W6 e6 => ?_
  have x6 : Ext w W6 := Ext.tr x5 e6
  refine seq_val (.bool false) 52 rfl (by kernel_rfl) (by kernel_rfl) ?_
  refine seq_val (.bool false) 53 rfl (by kernel_rfl) (by kernel_rfl) ?_
  refine seq_val (.slice (some ⟨gk12, 0, none⟩) (info).length ck12) 54 rfl (by kernel_rfl) (by kernel_rfl) ?_
  refine seq_val (.slice a_info info.length c_info) 55 rfl (by kernel_rfl) (by kernel_rfl) ?_
  have y3_4 : Ext W3 W4 := (Rely.Ext.trans (Rely.Ext.refl W3) e4)
  have y3_5 : Ext W3 W5 := (Rely.Ext.trans y3_4 e5)
  have y3_6 : Ext W3 W6 := (Rely.Ext.trans y3_5 e6)
  refine seq_call (.bool true) 18 #[.slice (some ⟨gk12, 0, none⟩) (info).length ck12, .slice a_info info.length c_info] 56 rfl (by kernel_rfl) (by kernel_rfl) (keptC (info) _ _ _ _ _ (by omega) hib (CopyN.ext hv11 y3_6) (RdK.ext hi x6)) fun W7 e7 => ?_
  have x7 : Ext w W7 := Ext.tr x6 e7
  refine seq_val (.bool false) 57 rfl (by kernel_rfl) (by kernel_rfl) ?_
  refine seq_val (.bool false) 58 rfl (by kernel_rfl) (by kernel_rfl) ?_
  refine seq_val (.bool false) 59 rfl (by kernel_rfl) (by kernel_rfl) ?_
  refine seq_val (.slice au15 ((kx key info n).length) cu15) 60 rfl (by kernel_rfl) (by kernel_rfl) ?_
  refine seq_val (.slice au18 ((kx key info n).length) cu18) 61 rfl (by kernel_rfl) (by kernel_rfl) ?_
  have y4_5 : Ext W4 W5 := (Rely.Ext.trans (Rely.Ext.refl W4) e5)
  have y4_6 : Ext W4 W6 := (Rely.Ext.trans y4_5 e6)
  have y4_7 : Ext W4 W7 := (Rely.Ext.trans y4_6 e7)
  have y5_6 : Ext W5 W6 := (Rely.Ext.trans (Rely.Ext.refl W5) e6)
  have y5_7 : Ext W5 W7 := (Rely.Ext.trans y5_6 e7)
  refine seq_call (.bool true) 21 #[.slice au15 ((kx key info n).length) cu15, .slice au18 ((kx key info n).length) cu18] 62 rfl (by kernel_rfl) (by kernel_rfl) (sameT _ _ (kx key info n) _ (RdK.bytes (OwnN.rd (OwnN.ext hu15 y4_7)) (kx_bytes _ _ _)) (RdK.bytes (OwnN.rd (OwnN.ext hu18 y5_7)) (kx_bytes _ _ _))) fun W8 e8 => ?_
  have x8 : Ext w W8 := Ext.tr x7 e8
  refine seq_val (.bool false) 63 rfl (by kernel_rfl) (by kernel_rfl) ?_
  refine seq_val (.bool false) 64 rfl (by kernel_rfl) (by kernel_rfl) ?_
  refine seq_nil ?_
  refine hK20 _ _ ?_
  try clear hK20 K20
  refine cond_false (by kernel_rfl) ?_
  refine wp_skip ?_
  refine hK19 _ _ ?_
  try clear hK19 K19
  refine wp_seq_k fun K21 hK21 => ?_
  refine region_lit ?_
  refine seq_val (.bool true) 65 rfl (by kernel_rfl) (by kernel_rfl) ?_
  refine seq_val (.bool true) 66 rfl (by kernel_rfl) (by kernel_rfl) ?_
  refine seq_val (.nilIface) 67 rfl (by kernel_rfl) (by kernel_rfl) ?_
  refine seq_val (.bool true) 68 rfl (by kernel_rfl) (by kernel_rfl) ?_
  refine seq_val (.bool true) 69 rfl (by kernel_rfl) (by kernel_rfl) ?_
  refine seq_val (.bool true) 70 rfl (by kernel_rfl) (by kernel_rfl) ?_
  refine seq_skip 71 rfl (by kernel_rfl) ?_
  refine seq_skip 72 rfl (by kernel_rfl) ?_
  refine seq_skip 73 rfl (by kernel_rfl) ?_
  refine seq_skip 74 rfl (by kernel_rfl) ?_
  refine seq_skip 75 rfl (by kernel_rfl) ?_
  refine seq_skip 76 rfl (by kernel_rfl) ?_
  refine seq_val (.bool true) 77 rfl (by kernel_rfl) (by kernel_rfl) ?_
  refine seq_val (.bool true) 78 rfl (by kernel_rfl) (by kernel_rfl) ?_
  refine seq_val (.slice au15 ((kx key info n).length) cu15) 79 rfl (by kernel_rfl) (by kernel_rfl) ?_
  refine seq_val (.slice (some ⟨gk10, 0, none⟩) (key).length ck10) 80 rfl (by kernel_rfl) (by kernel_rfl) ?_
  refine seq_val (.slice (some ⟨gk12, 0, none⟩) (info).length ck12) 81 rfl (by kernel_rfl) (by kernel_rfl) ?_
  refine seq_makeS (#[.slice au15 ((kx key info n).length) cu15, .slice (some ⟨gk10, 0, none⟩) (key).length ck10, .slice (some ⟨gk12, 0, none⟩) (info).length ck12]) 22 3 82 rfl (by kernel_rfl) (by kernel_rfl) fun g22 W9 l22 e9 r22_9 => ?_
  have x9 : Ext w W9 := Ext.tr x8 e9
  have b22 : w.heap.size ≤ g22 := Nat.le_trans x8.size l22
  have y4_8 : Ext W4 W8 := (Rely.Ext.trans y4_7 e8)
  have y4_9 : Ext W4 W9 := (Rely.Ext.trans y4_8 e9)
  have y2_6 : Ext W2 W6 := (Rely.Ext.trans y2_5 e6)
  have y2_7 : Ext W2 W7 := (Rely.Ext.trans y2_6 e7)
  have y2_8 : Ext W2 W8 := (Rely.Ext.trans y2_7 e8)
  have y2_9 : Ext W2 W9 := (Rely.Ext.trans y2_8 e9)
  have y3_7 : Ext W3 W7 := (Rely.Ext.trans y3_6 e7)
  have y3_8 : Ext W3 W8 := (Rely.Ext.trans y3_7 e8)
  have y3_9 : Ext W3 W9 := (Rely.Ext.trans y3_8 e9)
  refine seq_callR (fun v W' => v = .bool true ∧ Below w.heap.size W9 W') 23 #[.slice (some ⟨g22, 0, none⟩) 3 3] 83 rfl (by kernel_rfl) (by kernel_rfl) ((apart3 (l0 := kx key info n) (l1 := key) (l2 := info) x9.size r22_9 (OwnN.v (OwnN.base x3.size (OwnN.ext hu15 y4_9))) (OwnN.v (OwnN.base x1.size (OwnN.ext (CopyN.own hv9) y2_9))) (OwnN.v (OwnN.base x2.size (OwnN.ext (CopyN.own hv11) y3_9))) (by rw [kx_len]; omega) (by omega) (by omega) (own_apart (CopyN.own hv9) hu15 y2_3.size) (own_apart (CopyN.own hv11) hu15 (Rely.Ext.refl W3).size) (fun e => e.trans (own_apart (CopyN.own hv9) (CopyN.own hv11) (Rely.Ext.refl W2).size e.symm))).mono (by rintro e w' ⟨h1, h2⟩; exact ⟨_, h1, rfl, h2⟩)) fun v23 W10 h23 => ?_
  obtain ⟨rfl, l10⟩ := h23
  have x10 : Ext w W10 := Below.trans x9 l10
  refine seq_val (.bool true) 84 rfl (by kernel_rfl) (by kernel_rfl) ?_
  refine seq_val (.bool true) 6 rfl (by kernel_rfl) (by kernel_rfl) ?_
  refine seq_nil ?_
  refine hK21 _ _ ?_
  try clear hK21 K21
  refine wp_ret ?_
  repeat (first | with_reducible refine goR1 ?_ | with_reducible refine goR2 ?_)
  exact (show bodyPost _ _ _ .ret _ _ from ret1 (.bool true) rfl (res_tmp (by kernel_rfl)) ⟨rfl, x10⟩)
set_option maxHeartbeats 4000000 in
theorem exp_E (key info : List Int) (v1 v2 : Value) (B B2 : Nat) (tc tq : TypeId) (w : World) (hc : w.heap[1]? = some (.cells (ints .u64 cubesI) tc)) (hq : w.heap[0]? = some (.cells (ints .u64 squaresI) tq)) (hkb : AreBytes key) (hib : AreBytes info) (hk : RdK .u8 B key v1 w) (hi : RdK .u8 B2 info v2 w) (n : Int) (h1 : key.length ≤ 1000) (h2 : info.length ≤ 1000) (h : n < 0) : Calls Tryd.prog 4 #[v1, v2, .int .i64 n] w (Ret w (.bool true)) := by
  obtain ⟨a_key, c_key, rfl, -⟩ := id hk
  obtain ⟨a_info, c_info, rfl, -⟩ := id hi
  refine enter 85 [(0, .slice a_key key.length c_key), (1, .slice a_info info.length c_info), (2, .int .i64 n)] Tryd.func4 rfl rfl (by kernel_rfl) rfl ?_
  refine wp_seq_k fun K3 hK3 => ?_
  refine region_lit ?_
  refine seq_val (.bool false) 6 rfl (by kernel_rfl) (by kernel_rfl) ?_
  refine seq_nil ?_
  refine hK3 _ _ ?_
  try clear hK3 K3
  refine wp_seq_k fun K4 hK4 => ?_
  refine wp_seq_k fun K5 hK5 => ?_
  refine region_lit ?_
  refine seq_call (.bool true) 13 #[] 13 rfl (by kernel_rfl) (by kernel_rfl) (alive02 tc tq _ hc hq) fun W1 e1 => ?_
  have x1 : Ext w W1 := Ext.tr (Rely.Ext.refl w) e1
  refine seq_val (.bool false) 14 rfl (by kernel_rfl) (by kernel_rfl) ?_
  refine seq_nil ?_
  refine hK5 _ _ ?_
  try clear hK5 K5
  refine cond_false (by kernel_rfl) ?_
  refine wp_skip ?_
  refine hK4 _ _ ?_
  try clear hK4 K4
  refine wp_seq_k fun K6 hK6 => ?_
  refine wp_seq_k fun K7 hK7 => ?_
  refine region_lit ?_
  refine seq_val (.slice a_key key.length c_key) 15 rfl (by kernel_rfl) (by kernel_rfl) ?_
  refine seq_val (.int .i64 ((key.length : Nat) : Int)) 16 rfl (by kernel_rfl) (by kernel_rfl) ?_
  refine seq_val (.bool false) 17 rfl (by kernel_rfl) (run_eq (u := .bool (decide (((key.length : Nat) : Int) > 1000))) (by kernel_rfl) (congrArg Value.bool (decide_eq_false (by omega)))) ?_
  refine seq_val (.bool false) 18 rfl (by kernel_rfl) (by kernel_rfl) ?_
  refine seq_val (.slice a_info info.length c_info) 19 rfl (by kernel_rfl) (by kernel_rfl) ?_
  refine seq_val (.int .i64 ((info.length : Nat) : Int)) 20 rfl (by kernel_rfl) (by kernel_rfl) ?_
  refine seq_val (.bool false) 21 rfl (by kernel_rfl) (run_eq (u := .bool (decide (((info.length : Nat) : Int) > 1000))) (by kernel_rfl) (congrArg Value.bool (decide_eq_false (by omega)))) ?_
  refine seq_val (.bool false) 22 rfl (by kernel_rfl) (by kernel_rfl) ?_
  refine seq_val (.bool false) 23 rfl (by kernel_rfl) (by kernel_rfl) ?_
  refine seq_val (.int .i64 n) 24 rfl (by kernel_rfl) (by kernel_rfl) ?_
  refine seq_val (.bool false) 25 rfl (by kernel_rfl) (run_eq (u := .bool (decide (n > 1000))) (by kernel_rfl) (congrArg Value.bool (decide_eq_false (by omega)))) ?_
  refine seq_val (.bool false) 26 rfl (by kernel_rfl) (by kernel_rfl) ?_
  refine seq_skip 27 rfl (by kernel_rfl) ?_
  refine seq_skip 28 rfl (by kernel_rfl) ?_
  refine seq_val (.bool false) 29 rfl (by kernel_rfl) (by kernel_rfl) ?_
  refine seq_val (.bool false) 30 rfl (by kernel_rfl) (by kernel_rfl) ?_
  refine seq_nil ?_
  refine hK7 _ _ ?_
  try clear hK7 K7
  refine cond_false (by kernel_rfl) ?_
  refine wp_skip ?_
  refine hK6 _ _ ?_
  try clear hK6 K6
  refine wp_seq_k fun K8 hK8 => ?_
  refine region_lit ?_
  refine seq_val (.slice a_key key.length c_key) 31 rfl (by kernel_rfl) (by kernel_rfl) ?_
  refine seq_callR (fun v W' => (CopyN 5 W1.heap.size (key)) v W' ∧ Ext W1 W') 14 #[.slice a_key key.length c_key] 32 rfl (by kernel_rfl) (by kernel_rfl) ((copyC (key) _ _ _ (by omega) (RdK.ext hk x1)).mono (by rintro e w' ⟨v, rfl, e1, hv⟩; exact ⟨v, rfl, hv, e1⟩)) fun vv9 W2 hh9 => ?_
  obtain ⟨hv9, e2⟩ := hh9
  have x2 : Ext w W2 := Ext.tr x1 e2
  have hq10 := hv9
  obtain ⟨gk10, ck10, rfl, -⟩ := hq10
  refine seq_val (.slice a_info info.length c_info) 33 rfl (by kernel_rfl) (by kernel_rfl) ?_
  refine seq_callR (fun v W' => (CopyN 5 W2.heap.size (info)) v W' ∧ Ext W2 W') 14 #[.slice a_info info.length c_info] 34 rfl (by kernel_rfl) (by kernel_rfl) ((copyC (info) _ _ _ (by omega) (RdK.ext hi x2)).mono (by rintro e w' ⟨v, rfl, e1, hv⟩; exact ⟨v, rfl, hv, e1⟩)) fun vv11 W3 hh11 => ?_
  obtain ⟨hv11, e3⟩ := hh11
  have x3 : Ext w W3 := Ext.tr x2 e3
  have hq12 := hv11
  obtain ⟨gk12, ck12, rfl, -⟩ := hq12
  refine seq_val (.slice (some ⟨gk10, 0, none⟩) (key).length ck10) 7 rfl (by kernel_rfl) (by kernel_rfl) ?_
  refine seq_val (.slice (some ⟨gk12, 0, none⟩) (info).length ck12) 8 rfl (by kernel_rfl) (by kernel_rfl) ?_
  refine seq_nil ?_
  refine hK8 _ _ ?_
  try clear hK8 K8
  refine wp_seq_k fun K13 hK13 => ?_
  refine region_lit ?_
  refine seq_val (.slice (some ⟨gk10, 0, none⟩) (key).length ck10) 36 rfl (by kernel_rfl) (by kernel_rfl) ?_
  refine seq_val (.slice (some ⟨gk12, 0, none⟩) (info).length ck12) 37 rfl (by kernel_rfl) (by kernel_rfl) ?_
  refine seq_val (.int .i64 n) 38 rfl (by kernel_rfl) (by kernel_rfl) ?_
  refine seq_call (.tuple #[.slice none 0 0, .iface 38 (.int .i64 4)]) 19 #[.slice (some ⟨gk10, 0, none⟩) (key).length ck10, .slice (some ⟨gk12, 0, none⟩) (info).length ck12, .int .i64 n] 39 rfl (by kernel_rfl) (by kernel_rfl) ((fun W => kexpandNA _ _ n W h) _) fun W4 e4 => ?_
  have x4 : Ext w W4 := Ext.tr x3 e4
  refine seq_val (.tuple #[.slice none 0 0, .iface 38 (.int .i64 4)]) 35 rfl (by kernel_rfl) (by kernel_rfl) ?_
  refine seq_val (.slice none 0 0) 40 rfl (by kernel_rfl) (by kernel_rfl) ?_
  refine seq_val (.iface 38 (.int .i64 4)) 41 rfl (by kernel_rfl) (by kernel_rfl) ?_
  refine seq_val (.slice none 0 0) 9 rfl (by kernel_rfl) (by kernel_rfl) ?_
  refine seq_val (.iface 38 (.int .i64 4)) 10 rfl (by kernel_rfl) (by kernel_rfl) ?_
  refine seq_nil ?_
  refine hK13 _ _ ?_
  try clear hK13 K13
  refine wp_seq_k fun K14 hK14 => ?_
  refine region_lit ?_
  refine seq_val (.slice a_key key.length c_key) 43 rfl (by kernel_rfl) (by kernel_rfl) ?_
  refine seq_val (.slice a_info info.length c_info) 44 rfl (by kernel_rfl) (by kernel_rfl) ?_
  refine seq_val (.int .i64 n) 45 rfl (by kernel_rfl) (by kernel_rfl) ?_
  refine seq_call (.tuple #[.slice none 0 0, .bool false]) 20 #[.slice a_key key.length c_key, .slice a_info info.length c_info, .int .i64 n] 46 rfl (by kernel_rfl) (by kernel_rfl) ((fun W => rexpandNA _ _ n W h) _) fun W5 e5 => ?_
  have x5 : Ext w W5 := Ext.tr x4 e5
  refine seq_val (.tuple #[.slice none 0 0, .bool false]) 42 rfl (by kernel_rfl) (by kernel_rfl) ?_
  refine seq_val (.slice none 0 0) 47 rfl (by kernel_rfl) (by kernel_rfl) ?_
  refine seq_val (.bool false) 48 rfl (by kernel_rfl) (by kernel_rfl) ?_
  refine seq_val (.slice none 0 0) 11 rfl (by kernel_rfl) (by kernel_rfl) ?_
  refine seq_val (.bool false) 12 rfl (by kernel_rfl) (by kernel_rfl) ?_
  refine seq_nil ?_
  refine hK14 _ _ ?_
  try clear hK14 K14
  refine wp_seq_k fun K15 hK15 => ?_
  refine wp_seq_k fun K16 hK16 => ?_
  refine region_lit ?_
  refine seq_val (.slice (some ⟨gk10, 0, none⟩) (key).length ck10) 49 rfl (by kernel_rfl) (by kernel_rfl) ?_
  refine seq_val (.slice a_key key.length c_key) 50 rfl (by kernel_rfl) (by kernel_rfl) ?_
  have y2_3 : Ext W2 W3 := (Rely.Ext.trans (Rely.Ext.refl W2) e3)
  have y2_4 : Ext W2 W4 := (Rely.Ext.trans y2_3 e4)
  have y2_5 : Ext W2 W5 := (Rely.Ext.trans y2_4 e5)
  refine seq_call (.bool true) 18 #[.slice (some ⟨gk10, 0, none⟩) (key).length ck10, .slice a_key key.length c_key] 51 rfl (by kernel_rfl) (by kernel_rfl) (keptC (key) _ _ _ _ _ (by omega) hkb (CopyN.ext hv9 y2_5) (RdK.ext hk x5)) fun W6 e6 => ?_
  have x6 : Ext w W6 := Ext.tr x5 e6
  refine seq_val (.bool false) 52 rfl (by kernel_rfl) (by kernel_rfl) ?_
  refine seq_val (.bool false) 53 rfl (by kernel_rfl) (by kernel_rfl) ?_
  refine seq_val (.slice (some ⟨gk12, 0, none⟩) (info).length ck12) 54 rfl (by kernel_rfl) (by kernel_rfl) ?_
  refine seq_val (.slice a_info info.length c_info) 55 rfl (by kernel_rfl) (by kernel_rfl) ?_
  have y3_4 : Ext W3 W4 := (Rely.Ext.trans (Rely.Ext.refl W3) e4)
  have y3_5 : Ext W3 W5 := (Rely.Ext.trans y3_4 e5)
  have y3_6 : Ext W3 W6 := (Rely.Ext.trans y3_5 e6)
  refine seq_call (.bool true) 18 #[.slice (some ⟨gk12, 0, none⟩) (info).length ck12, .slice a_info info.length c_info] 56 rfl (by kernel_rfl) (by kernel_rfl) (keptC (info) _ _ _ _ _ (by omega) hib (CopyN.ext hv11 y3_6) (RdK.ext hi x6)) fun W7 e7 => ?_
  have x7 : Ext w W7 := Ext.tr x6 e7
  refine seq_val (.bool false) 57 rfl (by kernel_rfl) (by kernel_rfl) ?_
  refine seq_val (.bool false) 58 rfl (by kernel_rfl) (by kernel_rfl) ?_
  refine seq_val (.bool false) 59 rfl (by kernel_rfl) (by kernel_rfl) ?_
  refine seq_val (.slice none 0 0) 60 rfl (by kernel_rfl) (by kernel_rfl) ?_
  refine seq_val (.slice none 0 0) 61 rfl (by kernel_rfl) (by kernel_rfl) ?_
  refine seq_call (.bool true) 21 #[.slice none 0 0, .slice none 0 0] 62 rfl (by kernel_rfl) (by kernel_rfl) (sameT _ _ ([]) _ (nil_bytes _) (nil_bytes _)) fun W8 e8 => ?_
  have x8 : Ext w W8 := Ext.tr x7 e8
  refine seq_val (.bool false) 63 rfl (by kernel_rfl) (by kernel_rfl) ?_
  refine seq_val (.bool false) 64 rfl (by kernel_rfl) (by kernel_rfl) ?_
  refine seq_nil ?_
  refine hK16 _ _ ?_
  try clear hK16 K16
  refine cond_false (by kernel_rfl) ?_
  refine wp_skip ?_
  refine hK15 _ _ ?_
  try clear hK15 K15
  refine wp_seq_k fun K17 hK17 => ?_
  refine region_lit ?_
  refine seq_val (.bool false) 65 rfl (by kernel_rfl) (by kernel_rfl) ?_
  refine seq_val (.bool false) 66 rfl (by kernel_rfl) (by kernel_rfl) ?_
  refine seq_skip 67 rfl (by kernel_rfl) ?_
  refine seq_skip 68 rfl (by kernel_rfl) ?_
  refine seq_val (.bool false) 69 rfl (by kernel_rfl) (by kernel_rfl) ?_
  refine seq_val (.bool false) 70 rfl (by kernel_rfl) (by kernel_rfl) ?_
  refine seq_val (.bool false) 71 rfl (by kernel_rfl) (by kernel_rfl) ?_
  refine seq_val (.bool true) 72 rfl (by kernel_rfl) (by kernel_rfl) ?_
  refine seq_val (.bool true) 73 rfl (by kernel_rfl) (by kernel_rfl) ?_
  refine seq_val (.iface 38 (.int .i64 4)) 74 rfl (by kernel_rfl) (by kernel_rfl) ?_
  refine seq_call (.bool true) 22 #[.iface 38 (.int .i64 4), .int .i64 4] 75 rfl (by kernel_rfl) (by kernel_rfl) ((is4) _) fun W9 e9 => ?_
  have x9 : Ext w W9 := Ext.tr x8 e9
  refine seq_val (.bool true) 76 rfl (by kernel_rfl) (by kernel_rfl) ?_
  refine seq_val (.bool true) 77 rfl (by kernel_rfl) (by kernel_rfl) ?_
  refine seq_val (.bool true) 78 rfl (by kernel_rfl) (by kernel_rfl) ?_
  refine seq_val (.slice none 0 0) 79 rfl (by kernel_rfl) (by kernel_rfl) ?_
  refine seq_val (.slice (some ⟨gk10, 0, none⟩) (key).length ck10) 80 rfl (by kernel_rfl) (by kernel_rfl) ?_
  refine seq_val (.slice (some ⟨gk12, 0, none⟩) (info).length ck12) 81 rfl (by kernel_rfl) (by kernel_rfl) ?_
  refine seq_makeS (#[.slice none 0 0, .slice (some ⟨gk10, 0, none⟩) (key).length ck10, .slice (some ⟨gk12, 0, none⟩) (info).length ck12]) 22 3 82 rfl (by kernel_rfl) (by kernel_rfl) fun g18 W10 l18 e10 r18_10 => ?_
  have x10 : Ext w W10 := Ext.tr x9 e10
  have b18 : w.heap.size ≤ g18 := Nat.le_trans x9.size l18
  have y2_6 : Ext W2 W6 := (Rely.Ext.trans y2_5 e6)
  have y2_7 : Ext W2 W7 := (Rely.Ext.trans y2_6 e7)
  have y2_8 : Ext W2 W8 := (Rely.Ext.trans y2_7 e8)
  have y2_9 : Ext W2 W9 := (Rely.Ext.trans y2_8 e9)
  have y2_10 : Ext W2 W10 := (Rely.Ext.trans y2_9 e10)
  have y3_7 : Ext W3 W7 := (Rely.Ext.trans y3_6 e7)
  have y3_8 : Ext W3 W8 := (Rely.Ext.trans y3_7 e8)
  have y3_9 : Ext W3 W9 := (Rely.Ext.trans y3_8 e9)
  have y3_10 : Ext W3 W10 := (Rely.Ext.trans y3_9 e10)
  refine seq_callR (fun v W' => v = .bool true ∧ Below w.heap.size W10 W') 23 #[.slice (some ⟨g18, 0, none⟩) 3 3] 83 rfl (by kernel_rfl) (by kernel_rfl) ((apart3 (l0 := []) (l1 := key) (l2 := info) x10.size r18_10 (.inl ⟨rfl, rfl⟩) (OwnN.v (OwnN.base x1.size (OwnN.ext (CopyN.own hv9) y2_10))) (OwnN.v (OwnN.base x2.size (OwnN.ext (CopyN.own hv11) y3_10))) (by decide) (by omega) (by omega) (fun _ => rfl) (fun _ => rfl) (fun e => e.trans (own_apart (CopyN.own hv9) (CopyN.own hv11) (Rely.Ext.refl W2).size e.symm))).mono (by rintro e w' ⟨h1, h2⟩; exact ⟨_, h1, rfl, h2⟩)) fun v19 W11 h19 => ?_
  obtain ⟨rfl, l11⟩ := h19
  have x11 : Ext w W11 := Below.trans x10 l11
  refine seq_val (.bool true) 84 rfl (by kernel_rfl) (by kernel_rfl) ?_
  refine seq_val (.bool true) 6 rfl (by kernel_rfl) (by kernel_rfl) ?_
  refine seq_nil ?_
  refine hK17 _ _ ?_
  try clear hK17 K17
  refine wp_ret ?_
  repeat (first | with_reducible refine goR1 ?_ | with_reducible refine goR2 ?_)
  exact (show bodyPost _ _ _ .ret _ _ from ret1 (.bool true) rfl (res_tmp (by kernel_rfl)) ⟨rfl, x11⟩)
set_option maxHeartbeats 4000000 in
theorem exp_F (key info : List Int) (v1 v2 : Value) (B B2 : Nat) (tc tq : TypeId) (w : World) (hc : w.heap[1]? = some (.cells (ints .u64 cubesI) tc)) (hq : w.heap[0]? = some (.cells (ints .u64 squaresI) tq)) (hkb : AreBytes key) (hib : AreBytes info) (hk : RdK .u8 B key v1 w) (hi : RdK .u8 B2 info v2 w) (n : Int) (h1 : key.length ≤ 1000) (h2 : info.length ≤ 1000) (h : 8160 < n) : Calls Tryd.prog 4 #[v1, v2, .int .i64 n] w (Ret w (.bool true)) := by
  obtain ⟨a_key, c_key, rfl, -⟩ := id hk
  obtain ⟨a_info, c_info, rfl, -⟩ := id hi
  refine enter 85 [(0, .slice a_key key.length c_key), (1, .slice a_info info.length c_info), (2, .int .i64 n)] Tryd.func4 rfl rfl (by kernel_rfl) rfl ?_
  refine wp_seq_k fun K3 hK3 => ?_
  refine region_lit ?_
  refine seq_val (.bool false) 6 rfl (by kernel_rfl) (by kernel_rfl) ?_
  refine seq_nil ?_
  refine hK3 _ _ ?_
  try clear hK3 K3
  refine wp_seq_k fun K4 hK4 => ?_
  refine wp_seq_k fun K5 hK5 => ?_
  refine region_lit ?_
  refine seq_call (.bool true) 13 #[] 13 rfl (by kernel_rfl) (by kernel_rfl) (alive02 tc tq _ hc hq) fun W1 e1 => ?_
  have x1 : Ext w W1 := Ext.tr (Rely.Ext.refl w) e1
  refine seq_val (.bool false) 14 rfl (by kernel_rfl) (by kernel_rfl) ?_
  refine seq_nil ?_
  refine hK5 _ _ ?_
  try clear hK5 K5
  refine cond_false (by kernel_rfl) ?_
  refine wp_skip ?_
  refine hK4 _ _ ?_
  try clear hK4 K4
  refine wp_seq_k fun K6 hK6 => ?_
  refine wp_seq_k fun K7 hK7 => ?_
  refine region_lit ?_
  refine seq_val (.slice a_key key.length c_key) 15 rfl (by kernel_rfl) (by kernel_rfl) ?_
  refine seq_val (.int .i64 ((key.length : Nat) : Int)) 16 rfl (by kernel_rfl) (by kernel_rfl) ?_
  refine seq_val (.bool false) 17 rfl (by kernel_rfl) (run_eq (u := .bool (decide (((key.length : Nat) : Int) > 1000))) (by kernel_rfl) (congrArg Value.bool (decide_eq_false (by omega)))) ?_
  refine seq_val (.bool false) 18 rfl (by kernel_rfl) (by kernel_rfl) ?_
  refine seq_val (.slice a_info info.length c_info) 19 rfl (by kernel_rfl) (by kernel_rfl) ?_
  refine seq_val (.int .i64 ((info.length : Nat) : Int)) 20 rfl (by kernel_rfl) (by kernel_rfl) ?_
  refine seq_val (.bool false) 21 rfl (by kernel_rfl) (run_eq (u := .bool (decide (((info.length : Nat) : Int) > 1000))) (by kernel_rfl) (congrArg Value.bool (decide_eq_false (by omega)))) ?_
  refine seq_val (.bool false) 22 rfl (by kernel_rfl) (by kernel_rfl) ?_
  refine seq_val (.bool false) 23 rfl (by kernel_rfl) (by kernel_rfl) ?_
  refine seq_val (.int .i64 n) 24 rfl (by kernel_rfl) (by kernel_rfl) ?_
  refine seq_val (.bool true) 25 rfl (by kernel_rfl) (run_eq (u := .bool (decide (n > 1000))) (by kernel_rfl) (congrArg Value.bool (decide_eq_true (by omega)))) ?_
  refine seq_val (.bool true) 26 rfl (by kernel_rfl) (by kernel_rfl) ?_
  refine seq_val (.int .i64 n) 27 rfl (by kernel_rfl) (by kernel_rfl) ?_
  refine seq_val (.bool false) 28 rfl (by kernel_rfl) (run_eq (u := .bool (decide (n ≤ 8160))) (by kernel_rfl) (congrArg Value.bool (decide_eq_false (by omega)))) ?_
  refine seq_val (.bool false) 29 rfl (by kernel_rfl) (by kernel_rfl) ?_
  refine seq_val (.bool false) 30 rfl (by kernel_rfl) (by kernel_rfl) ?_
  refine seq_nil ?_
  refine hK7 _ _ ?_
  try clear hK7 K7
  refine cond_false (by kernel_rfl) ?_
  refine wp_skip ?_
  refine hK6 _ _ ?_
  try clear hK6 K6
  refine wp_seq_k fun K8 hK8 => ?_
  refine region_lit ?_
  refine seq_val (.slice a_key key.length c_key) 31 rfl (by kernel_rfl) (by kernel_rfl) ?_
  refine seq_callR (fun v W' => (CopyN 5 W1.heap.size (key)) v W' ∧ Ext W1 W') 14 #[.slice a_key key.length c_key] 32 rfl (by kernel_rfl) (by kernel_rfl) ((copyC (key) _ _ _ (by omega) (RdK.ext hk x1)).mono (by rintro e w' ⟨v, rfl, e1, hv⟩; exact ⟨v, rfl, hv, e1⟩)) fun vv9 W2 hh9 => ?_
  obtain ⟨hv9, e2⟩ := hh9
  have x2 : Ext w W2 := Ext.tr x1 e2
  have hq10 := hv9
  obtain ⟨gk10, ck10, rfl, -⟩ := hq10
  refine seq_val (.slice a_info info.length c_info) 33 rfl (by kernel_rfl) (by kernel_rfl) ?_
  refine seq_callR (fun v W' => (CopyN 5 W2.heap.size (info)) v W' ∧ Ext W2 W') 14 #[.slice a_info info.length c_info] 34 rfl (by kernel_rfl) (by kernel_rfl) ((copyC (info) _ _ _ (by omega) (RdK.ext hi x2)).mono (by rintro e w' ⟨v, rfl, e1, hv⟩; exact ⟨v, rfl, hv, e1⟩)) fun vv11 W3 hh11 => ?_
  obtain ⟨hv11, e3⟩ := hh11
  have x3 : Ext w W3 := Ext.tr x2 e3
  have hq12 := hv11
  obtain ⟨gk12, ck12, rfl, -⟩ := hq12
  refine seq_val (.slice (some ⟨gk10, 0, none⟩) (key).length ck10) 7 rfl (by kernel_rfl) (by kernel_rfl) ?_
  refine seq_val (.slice (some ⟨gk12, 0, none⟩) (info).length ck12) 8 rfl (by kernel_rfl) (by kernel_rfl) ?_
  refine seq_nil ?_
  refine hK8 _ _ ?_
  try clear hK8 K8
  refine wp_seq_k fun K13 hK13 => ?_
  refine region_lit ?_
  refine seq_val (.slice (some ⟨gk10, 0, none⟩) (key).length ck10) 36 rfl (by kernel_rfl) (by kernel_rfl) ?_
  refine seq_val (.slice (some ⟨gk12, 0, none⟩) (info).length ck12) 37 rfl (by kernel_rfl) (by kernel_rfl) ?_
  refine seq_val (.int .i64 n) 38 rfl (by kernel_rfl) (by kernel_rfl) ?_
  refine seq_call (.tuple #[.slice none 0 0, .iface 38 (.int .i64 4)]) 19 #[.slice (some ⟨gk10, 0, none⟩) (key).length ck10, .slice (some ⟨gk12, 0, none⟩) (info).length ck12, .int .i64 n] 39 rfl (by kernel_rfl) (by kernel_rfl) ((fun W => kexpandNB _ _ n W h) _) fun W4 e4 => ?_
  have x4 : Ext w W4 := Ext.tr x3 e4
  refine seq_val (.tuple #[.slice none 0 0, .iface 38 (.int .i64 4)]) 35 rfl (by kernel_rfl) (by kernel_rfl) ?_
  refine seq_val (.slice none 0 0) 40 rfl (by kernel_rfl) (by kernel_rfl) ?_
  refine seq_val (.iface 38 (.int .i64 4)) 41 rfl (by kernel_rfl) (by kernel_rfl) ?_
  refine seq_val (.slice none 0 0) 9 rfl (by kernel_rfl) (by kernel_rfl) ?_
  refine seq_val (.iface 38 (.int .i64 4)) 10 rfl (by kernel_rfl) (by kernel_rfl) ?_
  refine seq_nil ?_
  refine hK13 _ _ ?_
  try clear hK13 K13
  refine wp_seq_k fun K14 hK14 => ?_
  refine region_lit ?_
  refine seq_val (.slice a_key key.length c_key) 43 rfl (by kernel_rfl) (by kernel_rfl) ?_
  refine seq_val (.slice a_info info.length c_info) 44 rfl (by kernel_rfl) (by kernel_rfl) ?_
  refine seq_val (.int .i64 n) 45 rfl (by kernel_rfl) (by kernel_rfl) ?_
  refine seq_call (.tuple #[.slice none 0 0, .bool false]) 20 #[.slice a_key key.length c_key, .slice a_info info.length c_info, .int .i64 n] 46 rfl (by kernel_rfl) (by kernel_rfl) ((fun W => rexpandNB _ _ n W h) _) fun W5 e5 => ?_
  have x5 : Ext w W5 := Ext.tr x4 e5
  refine seq_val (.tuple #[.slice none 0 0, .bool false]) 42 rfl (by kernel_rfl) (by kernel_rfl) ?_
  refine seq_val (.slice none 0 0) 47 rfl (by kernel_rfl) (by kernel_rfl) ?_
  refine seq_val (.bool false) 48 rfl (by kernel_rfl) (by kernel_rfl) ?_
  refine seq_val (.slice none 0 0) 11 rfl (by kernel_rfl) (by kernel_rfl) ?_
  refine seq_val (.bool false) 12 rfl (by kernel_rfl) (by kernel_rfl) ?_
  refine seq_nil ?_
  refine hK14 _ _ ?_
  try clear hK14 K14
  refine wp_seq_k fun K15 hK15 => ?_
  refine wp_seq_k fun K16 hK16 => ?_
  refine region_lit ?_
  refine seq_val (.slice (some ⟨gk10, 0, none⟩) (key).length ck10) 49 rfl (by kernel_rfl) (by kernel_rfl) ?_
  refine seq_val (.slice a_key key.length c_key) 50 rfl (by kernel_rfl) (by kernel_rfl) ?_
  have y2_3 : Ext W2 W3 := (Rely.Ext.trans (Rely.Ext.refl W2) e3)
  have y2_4 : Ext W2 W4 := (Rely.Ext.trans y2_3 e4)
  have y2_5 : Ext W2 W5 := (Rely.Ext.trans y2_4 e5)
  refine seq_call (.bool true) 18 #[.slice (some ⟨gk10, 0, none⟩) (key).length ck10, .slice a_key key.length c_key] 51 rfl (by kernel_rfl) (by kernel_rfl) (keptC (key) _ _ _ _ _ (by omega) hkb (CopyN.ext hv9 y2_5) (RdK.ext hk x5)) fun W6 e6 => ?_
  have x6 : Ext w W6 := Ext.tr x5 e6
  refine seq_val (.bool false) 52 rfl (by kernel_rfl) (by kernel_rfl) ?_
  refine seq_val (.bool false) 53 rfl (by kernel_rfl) (by kernel_rfl) ?_
  refine seq_val (.slice (some ⟨gk12, 0, none⟩) (info).length ck12) 54 rfl (by kernel_rfl) (by kernel_rfl) ?_
  refine seq_val (.slice a_info info.length c_info) 55 rfl (by kernel_rfl) (by kernel_rfl) ?_
  have y3_4 : Ext W3 W4 := (Rely.Ext.trans (Rely.Ext.refl W3) e4)
  have y3_5 : Ext W3 W5 := (Rely.Ext.trans y3_4 e5)
  have y3_6 : Ext W3 W6 := (Rely.Ext.trans y3_5 e6)
  refine seq_call (.bool true) 18 #[.slice (some ⟨gk12, 0, none⟩) (info).length ck12, .slice a_info info.length c_info] 56 rfl (by kernel_rfl) (by kernel_rfl) (keptC (info) _ _ _ _ _ (by omega) hib (CopyN.ext hv11 y3_6) (RdK.ext hi x6)) fun W7 e7 => ?_
  have x7 : Ext w W7 := Ext.tr x6 e7
  refine seq_val (.bool false) 57 rfl (by kernel_rfl) (by kernel_rfl) ?_
  refine seq_val (.bool false) 58 rfl (by kernel_rfl) (by kernel_rfl) ?_
  refine seq_val (.bool false) 59 rfl (by kernel_rfl) (by kernel_rfl) ?_
  refine seq_val (.slice none 0 0) 60 rfl (by kernel_rfl) (by kernel_rfl) ?_
  refine seq_val (.slice none 0 0) 61 rfl (by kernel_rfl) (by kernel_rfl) ?_
  refine seq_call (.bool true) 21 #[.slice none 0 0, .slice none 0 0] 62 rfl (by kernel_rfl) (by kernel_rfl) (sameT _ _ ([]) _ (nil_bytes _) (nil_bytes _)) fun W8 e8 => ?_
  have x8 : Ext w W8 := Ext.tr x7 e8
  refine seq_val (.bool false) 63 rfl (by kernel_rfl) (by kernel_rfl) ?_
  refine seq_val (.bool false) 64 rfl (by kernel_rfl) (by kernel_rfl) ?_
  refine seq_nil ?_
  refine hK16 _ _ ?_
  try clear hK16 K16
  refine cond_false (by kernel_rfl) ?_
  refine wp_skip ?_
  refine hK15 _ _ ?_
  try clear hK15 K15
  refine wp_seq_k fun K17 hK17 => ?_
  refine region_lit ?_
  refine seq_val (.bool false) 65 rfl (by kernel_rfl) (by kernel_rfl) ?_
  refine seq_val (.bool false) 66 rfl (by kernel_rfl) (by kernel_rfl) ?_
  refine seq_skip 67 rfl (by kernel_rfl) ?_
  refine seq_skip 68 rfl (by kernel_rfl) ?_
  refine seq_val (.bool false) 69 rfl (by kernel_rfl) (by kernel_rfl) ?_
  refine seq_val (.bool false) 70 rfl (by kernel_rfl) (by kernel_rfl) ?_
  refine seq_val (.bool false) 71 rfl (by kernel_rfl) (by kernel_rfl) ?_
  refine seq_val (.bool true) 72 rfl (by kernel_rfl) (by kernel_rfl) ?_
  refine seq_val (.bool true) 73 rfl (by kernel_rfl) (by kernel_rfl) ?_
  refine seq_val (.iface 38 (.int .i64 4)) 74 rfl (by kernel_rfl) (by kernel_rfl) ?_
  refine seq_call (.bool true) 22 #[.iface 38 (.int .i64 4), .int .i64 4] 75 rfl (by kernel_rfl) (by kernel_rfl) ((is4) _) fun W9 e9 => ?_
  have x9 : Ext w W9 := Ext.tr x8 e9
  refine seq_val (.bool true) 76 rfl (by kernel_rfl) (by kernel_rfl) ?_
  refine seq_val (.bool true) 77 rfl (by kernel_rfl) (by kernel_rfl) ?_
  refine seq_val (.bool true) 78 rfl (by kernel_rfl) (by kernel_rfl) ?_
  refine seq_val (.slice none 0 0) 79 rfl (by kernel_rfl) (by kernel_rfl) ?_
  refine seq_val (.slice (some ⟨gk10, 0, none⟩) (key).length ck10) 80 rfl (by kernel_rfl) (by kernel_rfl) ?_
  refine seq_val (.slice (some ⟨gk12, 0, none⟩) (info).length ck12) 81 rfl (by kernel_rfl) (by kernel_rfl) ?_
  refine seq_makeS (#[.slice none 0 0, .slice (some ⟨gk10, 0, none⟩) (key).length ck10, .slice (some ⟨gk12, 0, none⟩) (info).length ck12]) 22 3 82 rfl (by kernel_rfl) (by kernel_rfl) fun g18 W10 l18 e10 r18_10 => ?_
  have x10 : Ext w W10 := Ext.tr x9 e10
  have b18 : w.heap.size ≤ g18 := Nat.le_trans x9.size l18
  have y2_6 : Ext W2 W6 := (Rely.Ext.trans y2_5 e6)
  have y2_7 : Ext W2 W7 := (Rely.Ext.trans y2_6 e7)
  have y2_8 : Ext W2 W8 := (Rely.Ext.trans y2_7 e8)
  have y2_9 : Ext W2 W9 := (Rely.Ext.trans y2_8 e9)
  have y2_10 : Ext W2 W10 := (Rely.Ext.trans y2_9 e10)
  have y3_7 : Ext W3 W7 := (Rely.Ext.trans y3_6 e7)
  have y3_8 : Ext W3 W8 := (Rely.Ext.trans y3_7 e8)
  have y3_9 : Ext W3 W9 := (Rely.Ext.trans y3_8 e9)
  have y3_10 : Ext W3 W10 := (Rely.Ext.trans y3_9 e10)
  refine seq_callR (fun v W' => v = .bool true ∧ Below w.heap.size W10 W') 23 #[.slice (some ⟨g18, 0, none⟩) 3 3] 83 rfl (by kernel_rfl) (by kernel_rfl) ((apart3 (l0 := []) (l1 := key) (l2 := info) x10.size r18_10 (.inl ⟨rfl, rfl⟩) (OwnN.v (OwnN.base x1.size (OwnN.ext (CopyN.own hv9) y2_10))) (OwnN.v (OwnN.base x2.size (OwnN.ext (CopyN.own hv11) y3_10))) (by decide) (by omega) (by omega) (fun _ => rfl) (fun _ => rfl) (fun e => e.trans (own_apart (CopyN.own hv9) (CopyN.own hv11) (Rely.Ext.refl W2).size e.symm))).mono (by rintro e w' ⟨h1, h2⟩; exact ⟨_, h1, rfl, h2⟩)) fun v19 W11 h19 => ?_
  obtain ⟨rfl, l11⟩ := h19
  have x11 : Ext w W11 := Below.trans x10 l11
  refine seq_val (.bool true) 84 rfl (by kernel_rfl) (by kernel_rfl) ?_
  refine seq_val (.bool true) 6 rfl (by kernel_rfl) (by kernel_rfl) ?_
  refine seq_nil ?_
  refine hK17 _ _ ?_
  try clear hK17 K17
  refine wp_ret ?_
  repeat (first | with_reducible refine goR1 ?_ | with_reducible refine goR2 ?_)
  exact (show bodyPost _ _ _ .ret _ _ from ret1 (.bool true) rfl (res_tmp (by kernel_rfl)) ⟨rfl, x11⟩)
theorem lawExp (key info : List Int) (v1 v2 : Value) (B B2 : Nat) (tc tq : TypeId) (w : World) (hc : w.heap[1]? = some (.cells (ints .u64 cubesI) tc)) (hq : w.heap[0]? = some (.cells (ints .u64 squaresI) tq)) (hkb : AreBytes key) (hib : AreBytes info) (hk : RdK .u8 B key v1 w) (hi : RdK .u8 B2 info v2 w) (n : Int) : Calls Tryd.prog 4 #[v1, v2, .int .i64 n] w (Ret w (.bool true)) := by
  by_cases h1 : 1000 < key.length
  · exact exp_A key info v1 v2 B B2 tc tq w hc hq hkb hib hk hi n h1
  by_cases h2 : 1000 < info.length
  · exact exp_B key info v1 v2 B B2 tc tq w hc hq hkb hib hk hi n (by omega) h2
  by_cases h3 : n < 0
  · exact exp_E key info v1 v2 B B2 tc tq w hc hq hkb hib hk hi n (by omega) (by omega) h3
  by_cases h4 : 8160 < n
  · exact exp_F key info v1 v2 B B2 tc tq w hc hq hkb hib hk hi n (by omega) (by omega) h4
  obtain ⟨m, rfl⟩ := Int.eq_ofNat_of_zero_le (show 0 ≤ n by omega)
  by_cases h5 : m ≤ 1000
  · exact exp_D key info v1 v2 B B2 tc tq w hc hq hkb hib hk hi m (by omega) (by omega) h5
  · exact exp_C key info v1 v2 B B2 tc tq w hc hq hkb hib hk hi m (by omega) (by omega) (by omega) (by omega)

end Go.Proofs.YtamlhbbphnamnaaDoor.Sha
