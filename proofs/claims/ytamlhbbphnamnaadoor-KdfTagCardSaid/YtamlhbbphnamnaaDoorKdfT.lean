/- HMAC: the law KdfTag. -/
import Derived.Test.YtamlhbbphnamnaaDoorOnce
namespace Go.Proofs.YtamlhbbphnamnaaDoor.Sha
open Go Go.RowKit
open Go.Proofs.YtamlhbbphnamnaaDoor.Rely Go.Proofs.YtamlhbbphnamnaaDoor.Auto Go.Proofs.YtamlhbbphnamnaaDoor.Own
set_option linter.unusedVariables false
set_option linter.unusedSimpArgs false

set_option maxHeartbeats 4000000 in
theorem tag_A (key la lb : List Int) (v1 v2 v3 : Value) (B B2 B3 : Nat) (tc tq : TypeId) (w : World) (hc : w.heap[1]? = some (.cells (ints .u64 cubesI) tc)) (hq : w.heap[0]? = some (.cells (ints .u64 squaresI) tq)) (hkb : AreBytes key) (hab : AreBytes la) (hbb : AreBytes lb) (hk : RdK .u8 B key v1 w) (ha : RdK .u8 B2 la v2 w) (hb : RdK .u8 B3 lb v3 w) (h : 1000 < key.length) : Calls Tryd.prog 3 #[v1, v2, v3] w (Ret w (.bool true)) := by
  obtain ⟨a_key, c_key, rfl, -⟩ := id hk
  obtain ⟨a_la, c_la, rfl, -⟩ := id ha
  obtain ⟨a_lb, c_lb, rfl, -⟩ := id hb
  refine enter 70 [(0, .slice a_key key.length c_key), (1, .slice a_la la.length c_la), (2, .slice a_lb lb.length c_lb)] Tryd.func3 rfl rfl (by kernel_rfl) rfl ?_
  refine wp_seq_k fun K3 hK3 => ?_
  refine region_lit ?_
  refine seq_val (.bool false) 6 rfl (by kernel_rfl) (by kernel_rfl) ?_
  refine seq_nil ?_
  refine hK3 _ _ ?_
  try clear hK3 K3
  refine wp_seq_k fun K4 hK4 => ?_
  refine wp_seq_k fun K5 hK5 => ?_
  refine region_lit ?_
  refine seq_call (.bool true) 13 #[] 11 rfl (by kernel_rfl) (by kernel_rfl) (alive02 tc tq _ hc hq) fun W1 e1 => ?_
  have x1 : Ext w W1 := Ext.tr (Rely.Ext.refl w) e1
  refine seq_val (.bool false) 12 rfl (by kernel_rfl) (by kernel_rfl) ?_
  refine seq_nil ?_
  refine hK5 _ _ ?_
  try clear hK5 K5
  refine cond_false (by kernel_rfl) ?_
  refine wp_skip ?_
  refine hK4 _ _ ?_
  try clear hK4 K4
  refine wp_seq_k fun K6 hK6 => ?_
  refine wp_seq_k fun K7 hK7 => ?_
  refine region_lit ?_
  refine seq_val (.slice a_key key.length c_key) 13 rfl (by kernel_rfl) (by kernel_rfl) ?_
  refine seq_val (.int .i64 ((key.length : Nat) : Int)) 14 rfl (by kernel_rfl) (by kernel_rfl) ?_
  refine seq_val (.bool true) 15 rfl (by kernel_rfl) (run_eq (u := .bool (decide (((key.length : Nat) : Int) > 1000))) (by kernel_rfl) (congrArg Value.bool (decide_eq_true (by omega)))) ?_
  refine seq_val (.bool true) 16 rfl (by kernel_rfl) (by kernel_rfl) ?_
  refine seq_skip 17 rfl (by kernel_rfl) ?_
  refine seq_skip 18 rfl (by kernel_rfl) ?_
  refine seq_skip 19 rfl (by kernel_rfl) ?_
  refine seq_val (.bool true) 20 rfl (by kernel_rfl) (by kernel_rfl) ?_
  refine seq_val (.bool true) 21 rfl (by kernel_rfl) (by kernel_rfl) ?_
  refine seq_skip 22 rfl (by kernel_rfl) ?_
  refine seq_skip 23 rfl (by kernel_rfl) ?_
  refine seq_skip 24 rfl (by kernel_rfl) ?_
  refine seq_val (.bool true) 25 rfl (by kernel_rfl) (by kernel_rfl) ?_
  refine seq_nil ?_
  refine hK7 _ _ ?_
  try clear hK7 K7
  refine cond_true (by kernel_rfl) ?_
  refine wp_seq_k fun K8 hK8 => ?_
  refine region_lit ?_
  refine seq_val (.bool true) 6 rfl (by kernel_rfl) (by kernel_rfl) ?_
  refine seq_nil ?_
  refine hK8 _ _ ?_
  try clear hK8 K8
  refine wp_ret ?_
  repeat (first | with_reducible refine goR1 ?_ | with_reducible refine goR2 ?_)
  exact (show bodyPost _ _ _ .ret _ _ from ret1 (.bool true) rfl (res_tmp (by kernel_rfl)) ⟨rfl, x1⟩)
set_option maxHeartbeats 4000000 in
theorem tag_B (key la lb : List Int) (v1 v2 v3 : Value) (B B2 B3 : Nat) (tc tq : TypeId) (w : World) (hc : w.heap[1]? = some (.cells (ints .u64 cubesI) tc)) (hq : w.heap[0]? = some (.cells (ints .u64 squaresI) tq)) (hkb : AreBytes key) (hab : AreBytes la) (hbb : AreBytes lb) (hk : RdK .u8 B key v1 w) (ha : RdK .u8 B2 la v2 w) (hb : RdK .u8 B3 lb v3 w) (h1 : key.length ≤ 1000) (h : 1000 < la.length) : Calls Tryd.prog 3 #[v1, v2, v3] w (Ret w (.bool true)) := by
  obtain ⟨a_key, c_key, rfl, -⟩ := id hk
  obtain ⟨a_la, c_la, rfl, -⟩ := id ha
  obtain ⟨a_lb, c_lb, rfl, -⟩ := id hb
  refine enter 70 [(0, .slice a_key key.length c_key), (1, .slice a_la la.length c_la), (2, .slice a_lb lb.length c_lb)] Tryd.func3 rfl rfl (by kernel_rfl) rfl ?_
  refine wp_seq_k fun K3 hK3 => ?_
  refine region_lit ?_
  refine seq_val (.bool false) 6 rfl (by kernel_rfl) (by kernel_rfl) ?_
  refine seq_nil ?_
  refine hK3 _ _ ?_
  try clear hK3 K3
  refine wp_seq_k fun K4 hK4 => ?_
  refine wp_seq_k fun K5 hK5 => ?_
  refine region_lit ?_
  refine seq_call (.bool true) 13 #[] 11 rfl (by kernel_rfl) (by kernel_rfl) (alive02 tc tq _ hc hq) fun W1 e1 => ?_
  have x1 : Ext w W1 := Ext.tr (Rely.Ext.refl w) e1
  refine seq_val (.bool false) 12 rfl (by kernel_rfl) (by kernel_rfl) ?_
  refine seq_nil ?_
  refine hK5 _ _ ?_
  try clear hK5 K5
  refine cond_false (by kernel_rfl) ?_
  refine wp_skip ?_
  refine hK4 _ _ ?_
  try clear hK4 K4
  refine wp_seq_k fun K6 hK6 => ?_
  refine wp_seq_k fun K7 hK7 => ?_
  refine region_lit ?_
  refine seq_val (.slice a_key key.length c_key) 13 rfl (by kernel_rfl) (by kernel_rfl) ?_
  refine seq_val (.int .i64 ((key.length : Nat) : Int)) 14 rfl (by kernel_rfl) (by kernel_rfl) ?_
  refine seq_val (.bool false) 15 rfl (by kernel_rfl) (run_eq (u := .bool (decide (((key.length : Nat) : Int) > 1000))) (by kernel_rfl) (congrArg Value.bool (decide_eq_false (by omega)))) ?_
  refine seq_val (.bool false) 16 rfl (by kernel_rfl) (by kernel_rfl) ?_
  refine seq_val (.slice a_la la.length c_la) 17 rfl (by kernel_rfl) (by kernel_rfl) ?_
  refine seq_val (.int .i64 ((la.length : Nat) : Int)) 18 rfl (by kernel_rfl) (by kernel_rfl) ?_
  refine seq_val (.bool true) 19 rfl (by kernel_rfl) (run_eq (u := .bool (decide (((la.length : Nat) : Int) > 1000))) (by kernel_rfl) (congrArg Value.bool (decide_eq_true (by omega)))) ?_
  refine seq_val (.bool true) 20 rfl (by kernel_rfl) (by kernel_rfl) ?_
  refine seq_val (.bool true) 21 rfl (by kernel_rfl) (by kernel_rfl) ?_
  refine seq_skip 22 rfl (by kernel_rfl) ?_
  refine seq_skip 23 rfl (by kernel_rfl) ?_
  refine seq_skip 24 rfl (by kernel_rfl) ?_
  refine seq_val (.bool true) 25 rfl (by kernel_rfl) (by kernel_rfl) ?_
  refine seq_nil ?_
  refine hK7 _ _ ?_
  try clear hK7 K7
  refine cond_true (by kernel_rfl) ?_
  refine wp_seq_k fun K8 hK8 => ?_
  refine region_lit ?_
  refine seq_val (.bool true) 6 rfl (by kernel_rfl) (by kernel_rfl) ?_
  refine seq_nil ?_
  refine hK8 _ _ ?_
  try clear hK8 K8
  refine wp_ret ?_
  repeat (first | with_reducible refine goR1 ?_ | with_reducible refine goR2 ?_)
  exact (show bodyPost _ _ _ .ret _ _ from ret1 (.bool true) rfl (res_tmp (by kernel_rfl)) ⟨rfl, x1⟩)
set_option maxHeartbeats 4000000 in
theorem tag_C (key la lb : List Int) (v1 v2 v3 : Value) (B B2 B3 : Nat) (tc tq : TypeId) (w : World) (hc : w.heap[1]? = some (.cells (ints .u64 cubesI) tc)) (hq : w.heap[0]? = some (.cells (ints .u64 squaresI) tq)) (hkb : AreBytes key) (hab : AreBytes la) (hbb : AreBytes lb) (hk : RdK .u8 B key v1 w) (ha : RdK .u8 B2 la v2 w) (hb : RdK .u8 B3 lb v3 w) (h1 : key.length ≤ 1000) (h2 : la.length ≤ 1000) (h : 1000 < lb.length) : Calls Tryd.prog 3 #[v1, v2, v3] w (Ret w (.bool true)) := by
  obtain ⟨a_key, c_key, rfl, -⟩ := id hk
  obtain ⟨a_la, c_la, rfl, -⟩ := id ha
  obtain ⟨a_lb, c_lb, rfl, -⟩ := id hb
  refine enter 70 [(0, .slice a_key key.length c_key), (1, .slice a_la la.length c_la), (2, .slice a_lb lb.length c_lb)] Tryd.func3 rfl rfl (by kernel_rfl) rfl ?_
  refine wp_seq_k fun K3 hK3 => ?_
  refine region_lit ?_
  refine seq_val (.bool false) 6 rfl (by kernel_rfl) (by kernel_rfl) ?_
  refine seq_nil ?_
  refine hK3 _ _ ?_
  try clear hK3 K3
  refine wp_seq_k fun K4 hK4 => ?_
  refine wp_seq_k fun K5 hK5 => ?_
  refine region_lit ?_
  refine seq_call (.bool true) 13 #[] 11 rfl (by kernel_rfl) (by kernel_rfl) (alive02 tc tq _ hc hq) fun W1 e1 => ?_
  have x1 : Ext w W1 := Ext.tr (Rely.Ext.refl w) e1
  refine seq_val (.bool false) 12 rfl (by kernel_rfl) (by kernel_rfl) ?_
  refine seq_nil ?_
  refine hK5 _ _ ?_
  try clear hK5 K5
  refine cond_false (by kernel_rfl) ?_
  refine wp_skip ?_
  refine hK4 _ _ ?_
  try clear hK4 K4
  refine wp_seq_k fun K6 hK6 => ?_
  refine wp_seq_k fun K7 hK7 => ?_
  refine region_lit ?_
  refine seq_val (.slice a_key key.length c_key) 13 rfl (by kernel_rfl) (by kernel_rfl) ?_
  refine seq_val (.int .i64 ((key.length : Nat) : Int)) 14 rfl (by kernel_rfl) (by kernel_rfl) ?_
  refine seq_val (.bool false) 15 rfl (by kernel_rfl) (run_eq (u := .bool (decide (((key.length : Nat) : Int) > 1000))) (by kernel_rfl) (congrArg Value.bool (decide_eq_false (by omega)))) ?_
  refine seq_val (.bool false) 16 rfl (by kernel_rfl) (by kernel_rfl) ?_
  refine seq_val (.slice a_la la.length c_la) 17 rfl (by kernel_rfl) (by kernel_rfl) ?_
  refine seq_val (.int .i64 ((la.length : Nat) : Int)) 18 rfl (by kernel_rfl) (by kernel_rfl) ?_
  refine seq_val (.bool false) 19 rfl (by kernel_rfl) (run_eq (u := .bool (decide (((la.length : Nat) : Int) > 1000))) (by kernel_rfl) (congrArg Value.bool (decide_eq_false (by omega)))) ?_
  refine seq_val (.bool false) 20 rfl (by kernel_rfl) (by kernel_rfl) ?_
  refine seq_val (.bool false) 21 rfl (by kernel_rfl) (by kernel_rfl) ?_
  refine seq_val (.slice a_lb lb.length c_lb) 22 rfl (by kernel_rfl) (by kernel_rfl) ?_
  refine seq_val (.int .i64 ((lb.length : Nat) : Int)) 23 rfl (by kernel_rfl) (by kernel_rfl) ?_
  refine seq_val (.bool true) 24 rfl (by kernel_rfl) (run_eq (u := .bool (decide (((lb.length : Nat) : Int) > 1000))) (by kernel_rfl) (congrArg Value.bool (decide_eq_true (by omega)))) ?_
  refine seq_val (.bool true) 25 rfl (by kernel_rfl) (by kernel_rfl) ?_
  refine seq_nil ?_
  refine hK7 _ _ ?_
  try clear hK7 K7
  refine cond_true (by kernel_rfl) ?_
  refine wp_seq_k fun K8 hK8 => ?_
  refine region_lit ?_
  refine seq_val (.bool true) 6 rfl (by kernel_rfl) (by kernel_rfl) ?_
  refine seq_nil ?_
  refine hK8 _ _ ?_
  try clear hK8 K8
  refine wp_ret ?_
  repeat (first | with_reducible refine goR1 ?_ | with_reducible refine goR2 ?_)
  exact (show bodyPost _ _ _ .ret _ _ from ret1 (.bool true) rfl (res_tmp (by kernel_rfl)) ⟨rfl, x1⟩)
set_option maxHeartbeats 4000000 in
theorem tag_D (key la lb : List Int) (v1 v2 v3 : Value) (B B2 B3 : Nat) (tc tq : TypeId) (w : World) (hc : w.heap[1]? = some (.cells (ints .u64 cubesI) tc)) (hq : w.heap[0]? = some (.cells (ints .u64 squaresI) tq)) (hkb : AreBytes key) (hab : AreBytes la) (hbb : AreBytes lb) (hk : RdK .u8 B key v1 w) (ha : RdK .u8 B2 la v2 w) (hb : RdK .u8 B3 lb v3 w) (h1 : key.length ≤ 1000) (h2 : la.length ≤ 1000) (h3 : lb.length ≤ 1000) : Calls Tryd.prog 3 #[v1, v2, v3] w (Ret w (.bool true)) := by
  obtain ⟨a_key, c_key, rfl, -⟩ := id hk
  obtain ⟨a_la, c_la, rfl, -⟩ := id ha
  obtain ⟨a_lb, c_lb, rfl, -⟩ := id hb
  refine enter 70 [(0, .slice a_key key.length c_key), (1, .slice a_la la.length c_la), (2, .slice a_lb lb.length c_lb)] Tryd.func3 rfl rfl (by kernel_rfl) rfl ?_
  refine wp_seq_k fun K3 hK3 => ?_
  refine region_lit ?_
  refine seq_val (.bool false) 6 rfl (by kernel_rfl) (by kernel_rfl) ?_
  refine seq_nil ?_
  refine hK3 _ _ ?_
  try clear hK3 K3
  refine wp_seq_k fun K4 hK4 => ?_
  refine wp_seq_k fun K5 hK5 => ?_
  refine region_lit ?_
  refine seq_call (.bool true) 13 #[] 11 rfl (by kernel_rfl) (by kernel_rfl) (alive02 tc tq _ hc hq) fun W1 e1 => ?_
  have x1 : Ext w W1 := Ext.tr (Rely.Ext.refl w) e1
  refine seq_val (.bool false) 12 rfl (by kernel_rfl) (by kernel_rfl) ?_
  refine seq_nil ?_
  refine hK5 _ _ ?_
  try clear hK5 K5
  refine cond_false (by kernel_rfl) ?_
  refine wp_skip ?_
  refine hK4 _ _ ?_
  try clear hK4 K4
  refine wp_seq_k fun K6 hK6 => ?_
  refine wp_seq_k fun K7 hK7 => ?_
  refine region_lit ?_
  refine seq_val (.slice a_key key.length c_key) 13 rfl (by kernel_rfl) (by kernel_rfl) ?_
  refine seq_val (.int .i64 ((key.length : Nat) : Int)) 14 rfl (by kernel_rfl) (by kernel_rfl) ?_
  refine seq_val (.bool false) 15 rfl (by kernel_rfl) (run_eq (u := .bool (decide (((key.length : Nat) : Int) > 1000))) (by kernel_rfl) (congrArg Value.bool (decide_eq_false (by omega)))) ?_
  refine seq_val (.bool false) 16 rfl (by kernel_rfl) (by kernel_rfl) ?_
  refine seq_val (.slice a_la la.length c_la) 17 rfl (by kernel_rfl) (by kernel_rfl) ?_
  refine seq_val (.int .i64 ((la.length : Nat) : Int)) 18 rfl (by kernel_rfl) (by kernel_rfl) ?_
  refine seq_val (.bool false) 19 rfl (by kernel_rfl) (run_eq (u := .bool (decide (((la.length : Nat) : Int) > 1000))) (by kernel_rfl) (congrArg Value.bool (decide_eq_false (by omega)))) ?_
  refine seq_val (.bool false) 20 rfl (by kernel_rfl) (by kernel_rfl) ?_
  refine seq_val (.bool false) 21 rfl (by kernel_rfl) (by kernel_rfl) ?_
  refine seq_val (.slice a_lb lb.length c_lb) 22 rfl (by kernel_rfl) (by kernel_rfl) ?_
  refine seq_val (.int .i64 ((lb.length : Nat) : Int)) 23 rfl (by kernel_rfl) (by kernel_rfl) ?_
  refine seq_val (.bool false) 24 rfl (by kernel_rfl) (run_eq (u := .bool (decide (((lb.length : Nat) : Int) > 1000))) (by kernel_rfl) (congrArg Value.bool (decide_eq_false (by omega)))) ?_
  refine seq_val (.bool false) 25 rfl (by kernel_rfl) (by kernel_rfl) ?_
  refine seq_nil ?_
  refine hK7 _ _ ?_
  try clear hK7 K7
  refine cond_false (by kernel_rfl) ?_
  refine wp_skip ?_
  refine hK6 _ _ ?_
  try clear hK6 K6
  refine wp_seq_k fun K8 hK8 => ?_
  refine region_lit ?_
  refine seq_val (.slice a_key key.length c_key) 26 rfl (by kernel_rfl) (by kernel_rfl) ?_
  refine seq_callR (fun v W' => (CopyN 5 W1.heap.size (key)) v W' ∧ Ext W1 W') 14 #[.slice a_key key.length c_key] 27 rfl (by kernel_rfl) (by kernel_rfl) ((copyC (key) _ _ _ (by omega) (RdK.ext hk x1)).mono (by rintro e w' ⟨v, rfl, e1, hv⟩; exact ⟨v, rfl, hv, e1⟩)) fun vv9 W2 hh9 => ?_
  obtain ⟨hv9, e2⟩ := hh9
  have x2 : Ext w W2 := Ext.tr x1 e2
  have hq10 := hv9
  obtain ⟨gk10, ck10, rfl, -⟩ := hq10
  refine seq_val (.slice a_la la.length c_la) 28 rfl (by kernel_rfl) (by kernel_rfl) ?_
  refine seq_callR (fun v W' => (CopyN 5 W2.heap.size (la)) v W' ∧ Ext W2 W') 14 #[.slice a_la la.length c_la] 29 rfl (by kernel_rfl) (by kernel_rfl) ((copyC (la) _ _ _ (by omega) (RdK.ext ha x2)).mono (by rintro e w' ⟨v, rfl, e1, hv⟩; exact ⟨v, rfl, hv, e1⟩)) fun vv11 W3 hh11 => ?_
  obtain ⟨hv11, e3⟩ := hh11
  have x3 : Ext w W3 := Ext.tr x2 e3
  have hq12 := hv11
  obtain ⟨gk12, ck12, rfl, -⟩ := hq12
  refine seq_val (.slice a_lb lb.length c_lb) 30 rfl (by kernel_rfl) (by kernel_rfl) ?_
  refine seq_callR (fun v W' => (CopyN 5 W3.heap.size (lb)) v W' ∧ Ext W3 W') 14 #[.slice a_lb lb.length c_lb] 31 rfl (by kernel_rfl) (by kernel_rfl) ((copyC (lb) _ _ _ (by omega) (RdK.ext hb x3)).mono (by rintro e w' ⟨v, rfl, e1, hv⟩; exact ⟨v, rfl, hv, e1⟩)) fun vv13 W4 hh13 => ?_
  obtain ⟨hv13, e4⟩ := hh13
  have x4 : Ext w W4 := Ext.tr x3 e4
  have hq14 := hv13
  obtain ⟨gk14, ck14, rfl, -⟩ := hq14
  refine seq_val (.slice (some ⟨gk10, 0, none⟩) (key).length ck10) 7 rfl (by kernel_rfl) (by kernel_rfl) ?_
  refine seq_val (.slice (some ⟨gk12, 0, none⟩) (la).length ck12) 8 rfl (by kernel_rfl) (by kernel_rfl) ?_
  refine seq_val (.slice (some ⟨gk14, 0, none⟩) (lb).length ck14) 9 rfl (by kernel_rfl) (by kernel_rfl) ?_
  refine seq_nil ?_
  refine hK8 _ _ ?_
  try clear hK8 K8
  refine wp_seq_k fun K15 hK15 => ?_
  refine region_lit ?_
  refine seq_val (.slice (some ⟨gk10, 0, none⟩) (key).length ck10) 32 rfl (by kernel_rfl) (by kernel_rfl) ?_
  refine seq_val (.slice (some ⟨gk12, 0, none⟩) (la).length ck12) 33 rfl (by kernel_rfl) (by kernel_rfl) ?_
  refine seq_val (.slice (some ⟨gk14, 0, none⟩) (lb).length ck14) 34 rfl (by kernel_rfl) (by kernel_rfl) ?_
  refine seq_makeS (#[.slice (some ⟨gk12, 0, none⟩) (la).length ck12, .slice (some ⟨gk14, 0, none⟩) (lb).length ck14]) 22 2 35 rfl (by kernel_rfl) (by kernel_rfl) fun g16 W5 l16 e5 r16_5 => ?_
  have x5 : Ext w W5 := Ext.tr x4 e5
  have b16 : w.heap.size ≤ g16 := Nat.le_trans x4.size l16
  have y2_3 : Ext W2 W3 := (Rely.Ext.trans (Rely.Ext.refl W2) e3)
  have y2_4 : Ext W2 W4 := (Rely.Ext.trans y2_3 e4)
  have y2_5 : Ext W2 W5 := (Rely.Ext.trans y2_4 e5)
  have y3_4 : Ext W3 W4 := (Rely.Ext.trans (Rely.Ext.refl W3) e4)
  have y3_5 : Ext W3 W5 := (Rely.Ext.trans y3_4 e5)
  have y4_5 : Ext W4 W5 := (Rely.Ext.trans (Rely.Ext.refl W4) e5)
  have r1_1 := (row_ext hc e1)
  have r1_2 := (row_ext r1_1 e2)
  have r1_3 := (row_ext r1_2 e3)
  have r1_4 := (row_ext r1_3 e4)
  have r1_5 := (row_ext r1_4 e5)
  have r2_1 := (row_ext hq e1)
  have r2_2 := (row_ext r2_1 e2)
  have r2_3 := (row_ext r2_2 e3)
  have r2_4 := (row_ext r2_3 e4)
  have r2_5 := (row_ext r2_4 e5)
  have hps17 : ∀ p ∈ ([(.slice (some ⟨gk12, 0, none⟩) (la).length ck12, la), (.slice (some ⟨gk14, 0, none⟩) (lb).length ck14, lb)] : List (Value × List Int)), RdK .u8 W5.heap.size p.2 p.1 W5 ∧ AreBytes p.2 := by
    intro p hp
    simp only [List.mem_cons, List.not_mem_nil, or_false] at hp
    rcases hp with rfl | rfl
    · exact ⟨RdK.here (RdK.ext (CopyN.rd hv11) y3_5), hab⟩
    · exact ⟨RdK.here (RdK.ext (CopyN.rd hv13) y4_5), hbb⟩
  have htg17 := tagC (key) (.slice (some ⟨gk10, 0, none⟩) (key).length ck10) _ g16 2 _ ([(.slice (some ⟨gk12, 0, none⟩) (la).length ck12, la), (.slice (some ⟨gk14, 0, none⟩) (lb).length ck14, lb)] : List (Value × List Int)) rfl (by decide) tc tq W5 r1_5 r2_5 hkb (by omega) (RdK.ext (CopyN.rd hv9) y2_5) r16_5 hps17 (by simp only [List.map_cons, List.map_nil, List.flatten_cons, List.flatten_nil, List.append_nil, List.length_append]; omega)
  rw [show ((List.map Prod.snd ([(.slice (some ⟨gk12, 0, none⟩) (la).length ck12, la), (.slice (some ⟨gk14, 0, none⟩) (lb).length ck14, lb)] : List (Value × List Int))).flatten) = la ++ lb by simp only [List.map_cons, List.map_nil, List.flatten_cons, List.flatten_nil, List.append_nil]] at htg17
  refine seq_call (.agg (ints .u8 (hmac (key) (la ++ lb)))) 15 #[.slice (some ⟨gk10, 0, none⟩) (key).length ck10, .slice (some ⟨g16, 0, none⟩) 2 2] 36 rfl (by kernel_rfl) (by kernel_rfl) htg17 fun W6 e6 => ?_
  have x6 : Ext w W6 := Ext.tr x5 e6
  refine seq_alloc (ints .u8 (List.replicate 32 0)) 26 10 rfl (by kernel_rfl) (by kernel_rfl) fun g18 W7 l18 e7 r18_7 => ?_
  have x7 : Ext w W7 := Ext.tr x6 e7
  have b18 : w.heap.size ≤ g18 := Nat.le_trans x6.size l18
  refine seq_store g18 _ (ints .u8 (hmac (key) (la ++ lb))) 26 r18_7 rfl (by kernel_rfl) (run_store_row 26 _ _ g18 26 _ _ r18_7 rfl (by kernel_rfl) (by kernel_rfl) (isz (n := 32) (by kernel_rfl) ((ints_size _ _).trans (hmac_len _ _))) (eqsz (n := 32) ((ints_size _ _).trans (List.length_replicate (n := 32))) ((ints_size _ _).trans (hmac_len _ _))) (ints_one _ _)) fun W8 p8 r18_8 => ?_
  have x8 : Ext w W8 := Puts.ext p8 x7 b18
  refine seq_nil ?_
  refine hK15 _ _ ?_
  try clear hK15 K15
  refine wp_seq_k fun K19 hK19 => ?_
  have r1_6 := (row_ext r1_5 e6)
  have r1_7 := (row_ext r1_6 e7)
  have r1_8 := (Puts.row p8 r1_7 (ne_of_old r1_6 l18))
  have r2_6 := (row_ext r2_5 e6)
  have r2_7 := (row_ext r2_6 e7)
  have r2_8 := (Puts.row p8 r2_7 (ne_of_old r2_6 l18))
  have y2_6 : Ext W2 W6 := (Rely.Ext.trans y2_5 e6)
  have y2_7 : Ext W2 W7 := (Rely.Ext.trans y2_6 e7)
  have y2_8 : Ext W2 W8 := (Puts.ext p8 y2_7 (Nat.le_trans y2_6.size l18))
  have y3_6 : Ext W3 W6 := (Rely.Ext.trans y3_5 e6)
  have y3_7 : Ext W3 W7 := (Rely.Ext.trans y3_6 e7)
  have y3_8 : Ext W3 W8 := (Puts.ext p8 y3_7 (Nat.le_trans y3_6.size l18))
  have y4_6 : Ext W4 W6 := (Rely.Ext.trans y4_5 e6)
  have y4_7 : Ext W4 W7 := (Rely.Ext.trans y4_6 e7)
  have y4_8 : Ext W4 W8 := (Puts.ext p8 y4_7 (Nat.le_trans y4_6.size l18))
  have hRl := rl_once W8.drew la.length lb
  refine any_regionR (Once W8.drew.heap.size la.length lb) hRl 33 [⟨none, [(10, none)]⟩, ⟨none, [(0, none)]⟩, ⟨none, []⟩, ⟨none, [(1, none)]⟩, ⟨none, [(39, some 2), (40, some 3)]⟩, ⟨none, [(2, none)]⟩, ⟨none, [(41, some 4), (42, some 5)]⟩, ⟨none, [(38, some 1), (43, some 6)]⟩, ⟨none, [(37, some 0), (44, some 7)]⟩, ⟨none, [(45, some 8)]⟩, ⟨some (46, true), [(7, none), (46, some 9)]⟩, ⟨some (46, true), [(8, none), (46, some 9)]⟩, ⟨some (46, true), [(47, some 10), (48, some 11), (46, some 9)]⟩, ⟨some (46, true), [(0, none), (46, some 9)]⟩, ⟨some (46, true), [(1, none), (46, some 9)]⟩, ⟨some (46, true), [(50, some 13), (51, some 14), (46, some 9)]⟩, ⟨some (46, true), [(49, some 12), (52, some 15), (46, some 9)]⟩, ⟨none, [(46, some 9), (53, some 16)]⟩, ⟨none, [(54, some 17)]⟩, ⟨some (55, true), [(7, none), (55, some 18)]⟩, ⟨some (55, true), [(0, none), (55, some 18)]⟩, ⟨some (55, true), [(56, some 19), (57, some 20), (55, some 18)]⟩, ⟨none, [(55, some 18), (58, some 21)]⟩, ⟨none, [(59, some 22)]⟩, ⟨some (60, true), [(8, none), (60, some 23)]⟩, ⟨some (60, true), [(1, none), (60, some 23)]⟩, ⟨some (60, true), [(61, some 24), (62, some 25), (60, some 23)]⟩, ⟨none, [(60, some 23), (63, some 26)]⟩, ⟨none, [(64, some 27)]⟩, ⟨some (65, true), [(9, none), (65, some 28)]⟩, ⟨some (65, true), [(2, none), (65, some 28)]⟩, ⟨some (65, true), [(66, some 29), (67, some 30), (65, some 28)]⟩, ⟨none, [(65, some 28), (68, some 31)]⟩] (by kernel_rfl) (by kernel_rfl) fun F hF => ?_
  refine e_read hRl (.agg (ints .u8 (hmac (key) (la ++ lb)))) (by kernel_rfl) (by kernel_rfl) (fun W hR => (run_load_row 26 _ g18 26 _ _ (row_ext (row_ext r18_8 (ext_drew _)) hR) rfl (by kernel_rfl) (by kernel_rfl) (isz (n := 32) (by kernel_rfl) ((ints_size _ _).trans (hmac_len _ _))))) ?_
  refine e_val hRl (.slice a_key key.length c_key) (by kernel_rfl) (by kernel_rfl) (fun W => by kernel_rfl) ?_
  refine e_newS hRl #[] 5 0 once_new (by kernel_rfl) (by kernel_rfl) (fun W => by kernel_rfl) ?_
  refine e_val hRl (.slice a_la la.length c_la) (by kernel_rfl) (by kernel_rfl) (fun W => by kernel_rfl) ?_
  refine e_runX hRl (OwnN .u8 5 W8.drew.heap.size la) (once_own (fun i hi h => absurd hi (by omega))) (fun ρ W hR hh => ?_) ?_
  · skip
    obtain ⟨gz, ez, lz, rz⟩ : NewS W8.drew.heap.size #[] 5 0 (ρ 39) W := hh.1
    have e40 : ρ 40 = .slice a_la la.length c_la := hh.2.1
    exact append_O (base := W8.drew.heap.size) (n := la.length) (Y := lb) (b := 1) (xs := []) (ys := la) (ρ := Rely.look ρ) (.tmp 39) (.tmp 40) 22 rfl (by kernel_rfl) (by kernel_rfl) (by decide) ez e40 (ownN_row (xs := []) rfl lz rz (by decide)) (RdK.ext (RdK.ext ha x8) (Rely.Ext.trans (ext_drew _) hR)) (by simp only [List.length_nil]; omega) hR.size (.inl ⟨gz, rfl⟩)
  refine e_val hRl (.slice a_lb lb.length c_lb) (by kernel_rfl) (by kernel_rfl) (fun W => by kernel_rfl) ?_
  refine e_runX hRl (OwnN .u8 5 W8.drew.heap.size (la ++ lb)) (once_own (fun i hi h => by unfold nth; rw [List.getD_eq_getElem?_getD, List.getD_eq_getElem?_getD, List.getElem?_append_right h])) (fun ρ W hR hh => ?_) ?_
  · skip
    have h41 : OwnN .u8 5 W8.drew.heap.size la (ρ 41) W := hh.1
    have e42 : ρ 42 = .slice a_lb lb.length c_lb := hh.2.1
    exact append_O (base := W8.drew.heap.size) (n := la.length) (Y := lb) (b := 1) (xs := la) (ys := lb) (ρ := Rely.look ρ) (.tmp 41) (.tmp 42) 22 rfl (by kernel_rfl) (by kernel_rfl) (by decide) rfl e42 h41 (RdK.ext (RdK.ext hb x8) (Rely.Ext.trans (ext_drew _) hR)) (by omega) hR.size (.inr ⟨rfl, rfl⟩)
  refine e_callX hRl (.agg (ints .u8 (hmac (key) (la ++ lb)))) 16 (fun ρ W hR hh => ?_) ?_
  · skip
    have e38 : ρ 38 = .slice a_key key.length c_key := hh.1
    have h43 : OwnN .u8 5 W8.drew.heap.size (la ++ lb) (ρ 43) W := hh.2.1
    refine ⟨#[.slice a_key key.length c_key, ρ 43], Eq.trans (b := Result.ok (Next.enter 16 #[ρ 38, ρ 43]) W) (by kernel_rfl) (by rw [e38]), ?_⟩
    exact rtagC key (la ++ lb) _ _ _ _ W (by omega) (by rw [List.length_append]; omega) hkb (bytes_app hab hbb) (RdK.ext (RdK.ext hk x8) (Rely.Ext.trans (ext_drew _) hR)) (OwnN.rd h43)
  refine e_val hRl (.bool true) (by kernel_rfl) (by kernel_rfl) (fun W => (run_eql_agg 26 _ _ _ _ _ (.bool true) rfl (by kernel_rfl) (by kernel_rfl) (by kernel_rfl) (eql_lists 26 (e := 5) (k := .u8) (hmac (key) (la ++ lb)) (hmac (key) (la ++ lb)) (decide_eq_true rfl) (hmac_len _ _) (hmac_len _ _) (by kernel_rfl) (by kernel_rfl) (by kernel_rfl) _))) ?_
  refine e_val hRl (.bool true) (by kernel_rfl) (by kernel_rfl) (fun W => by kernel_rfl) ?_
  refine e_val hRl (.slice (some ⟨gk10, 0, none⟩) (key).length ck10) (by kernel_rfl) (by kernel_rfl) (fun W => by kernel_rfl) ?_
  refine e_val hRl (.slice (some ⟨gk12, 0, none⟩) (la).length ck12) (by kernel_rfl) (by kernel_rfl) (fun W => by kernel_rfl) ?_
  refine e_call hRl (.agg (ints .u8 (hmac (key) (la)))) 17 #[.slice (some ⟨gk10, 0, none⟩) (key).length ck10, .slice (some ⟨gk12, 0, none⟩) (la).length ck12] (by kernel_rfl) (by kernel_rfl) (fun W => by kernel_rfl) (fun W hR => extractC key la _ _ _ _ tc tq W (row_ext (row_ext r1_8 (ext_drew _)) hR) (row_ext (row_ext r2_8 (ext_drew _)) hR) (by omega) (by omega) hkb hab (RdK.ext (RdK.ext (CopyN.rd hv9) y2_8) (Rely.Ext.trans (ext_drew _) hR)) (RdK.ext (RdK.ext (CopyN.rd hv11) y3_8) (Rely.Ext.trans (ext_drew _) hR))) ?_
  refine e_val hRl (.slice a_key key.length c_key) (by kernel_rfl) (by kernel_rfl) (fun W => by kernel_rfl) ?_
  refine e_val hRl (.slice a_la la.length c_la) (by kernel_rfl) (by kernel_rfl) (fun W => by kernel_rfl) ?_
  refine e_call hRl (.agg (ints .u8 (hmac (key) (la)))) 16 #[.slice a_key key.length c_key, .slice a_la la.length c_la] (by kernel_rfl) (by kernel_rfl) (fun W => by kernel_rfl) (fun W hR => rtagC key la _ _ _ _ W (by omega) (by omega) hkb hab (RdK.ext (RdK.ext hk x8) (Rely.Ext.trans (ext_drew _) hR)) (RdK.ext (RdK.ext ha x8) (Rely.Ext.trans (ext_drew _) hR))) ?_
  refine e_val hRl (.bool true) (by kernel_rfl) (by kernel_rfl) (fun W => (run_eql_agg 26 _ _ _ _ _ (.bool true) rfl (by kernel_rfl) (by kernel_rfl) (by kernel_rfl) (eql_lists 26 (e := 5) (k := .u8) (hmac (key) (la)) (hmac (key) (la)) (decide_eq_true rfl) (hmac_len _ _) (hmac_len _ _) (by kernel_rfl) (by kernel_rfl) (by kernel_rfl) _))) ?_
  refine e_val hRl (.bool true) (by kernel_rfl) (by kernel_rfl) (fun W => by kernel_rfl) ?_
  refine e_val hRl (.bool true) (by kernel_rfl) (by kernel_rfl) (fun W => by kernel_rfl) ?_
  refine e_val hRl (.slice (some ⟨gk10, 0, none⟩) (key).length ck10) (by kernel_rfl) (by kernel_rfl) (fun W => by kernel_rfl) ?_
  refine e_val hRl (.slice a_key key.length c_key) (by kernel_rfl) (by kernel_rfl) (fun W => by kernel_rfl) ?_
  refine e_call hRl (.bool true) 18 #[.slice (some ⟨gk10, 0, none⟩) (key).length ck10, .slice a_key key.length c_key] (by kernel_rfl) (by kernel_rfl) (fun W => by kernel_rfl) (fun W hR => keptC (key) _ _ _ _ W (by omega) hkb (CopyN.ext (CopyN.ext hv9 y2_8) (Rely.Ext.trans (ext_drew _) hR)) (RdK.ext (RdK.ext hk x8) (Rely.Ext.trans (ext_drew _) hR))) ?_
  refine e_val hRl (.bool true) (by kernel_rfl) (by kernel_rfl) (fun W => by kernel_rfl) ?_
  refine e_val hRl (.bool true) (by kernel_rfl) (by kernel_rfl) (fun W => by kernel_rfl) ?_
  refine e_val hRl (.slice (some ⟨gk12, 0, none⟩) (la).length ck12) (by kernel_rfl) (by kernel_rfl) (fun W => by kernel_rfl) ?_
  refine e_val hRl (.slice a_la la.length c_la) (by kernel_rfl) (by kernel_rfl) (fun W => by kernel_rfl) ?_
  refine e_call hRl (.bool true) 18 #[.slice (some ⟨gk12, 0, none⟩) (la).length ck12, .slice a_la la.length c_la] (by kernel_rfl) (by kernel_rfl) (fun W => by kernel_rfl) (fun W hR => keptC (la) _ _ _ _ W (by omega) hab (CopyN.ext (CopyN.ext hv11 y3_8) (Rely.Ext.trans (ext_drew _) hR)) (RdK.ext (RdK.ext ha x8) (Rely.Ext.trans (ext_drew _) hR))) ?_
  refine e_val hRl (.bool true) (by kernel_rfl) (by kernel_rfl) (fun W => by kernel_rfl) ?_
  refine e_val hRl (.bool true) (by kernel_rfl) (by kernel_rfl) (fun W => by kernel_rfl) ?_
  refine e_val hRl (.slice (some ⟨gk14, 0, none⟩) (lb).length ck14) (by kernel_rfl) (by kernel_rfl) (fun W => by kernel_rfl) ?_
  refine e_val hRl (.slice a_lb lb.length c_lb) (by kernel_rfl) (by kernel_rfl) (fun W => by kernel_rfl) ?_
  refine e_call hRl (.bool true) 18 #[.slice (some ⟨gk14, 0, none⟩) (lb).length ck14, .slice a_lb lb.length c_lb] (by kernel_rfl) (by kernel_rfl) (fun W => by kernel_rfl) (fun W hR => keptC (lb) _ _ _ _ W (by omega) hbb (CopyN.ext (CopyN.ext hv13 y4_8) (Rely.Ext.trans (ext_drew _) hR)) (RdK.ext (RdK.ext hb x8) (Rely.Ext.trans (ext_drew _) hR))) ?_
  refine e_val hRl (.bool true) (by kernel_rfl) (by kernel_rfl) (fun W => by kernel_rfl) ?_
  refine e_nil (hF _ fun W9 q9 => ?_)
  simp only [List.nil_append, List.cons_append, List.take_succ_cons, List.take_zero, List.drop_succ_cons, List.drop_zero, finE, up]
  intro vv39 hv39 vv41 hv41 vv43 hv43
  clear hF
  have e9 : Ext W8 W9 := Rely.Ext.trans (ext_drew _) (Once.low q9)
  have x9 : Ext w W9 := Ext.tr x8 e9
  refine seq_val (.bool true) 6 rfl (by kernel_rfl) (by kernel_rfl) ?_
  refine seq_nil ?_
  refine hK19 _ _ ?_
  try clear hK19 K19
  refine wp_ret ?_
  repeat (first | with_reducible refine goR1 ?_ | with_reducible refine goR2 ?_)
  exact (show bodyPost _ _ _ .ret _ _ from ret1 (.bool true) rfl (res_tmp (by kernel_rfl)) ⟨rfl, x9⟩)
theorem lawTag (key la lb : List Int) (v1 v2 v3 : Value) (B B2 B3 : Nat) (tc tq : TypeId) (w : World) (hc : w.heap[1]? = some (.cells (ints .u64 cubesI) tc)) (hq : w.heap[0]? = some (.cells (ints .u64 squaresI) tq)) (hkb : AreBytes key) (hab : AreBytes la) (hbb : AreBytes lb) (hk : RdK .u8 B key v1 w) (ha : RdK .u8 B2 la v2 w) (hb : RdK .u8 B3 lb v3 w) : Calls Tryd.prog 3 #[v1, v2, v3] w (Ret w (.bool true)) := by
  by_cases h1 : 1000 < key.length
  · exact tag_A key la lb v1 v2 v3 B B2 B3 tc tq w hc hq hkb hab hbb hk ha hb h1
  by_cases h2 : 1000 < la.length
  · exact tag_B key la lb v1 v2 v3 B B2 B3 tc tq w hc hq hkb hab hbb hk ha hb (by omega) h2
  by_cases h3 : 1000 < lb.length
  · exact tag_C key la lb v1 v2 v3 B B2 B3 tc tq w hc hq hkb hab hbb hk ha hb (by omega) (by omega) h3
  · exact tag_D key la lb v1 v2 v3 B B2 B3 tc tq w hc hq hkb hab hbb hk ha hb (by omega) (by omega) (by omega)

end Go.Proofs.YtamlhbbphnamnaaDoor.Sha
