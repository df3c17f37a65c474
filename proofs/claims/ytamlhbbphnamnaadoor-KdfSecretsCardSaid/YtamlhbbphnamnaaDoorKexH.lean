/- The law KdfSecrets. -/
import Derived.Test.YtamlhbbphnamnaaDoorKexG
namespace Go.Proofs.YtamlhbbphnamnaaDoor.Sha
open Go Go.RowKit
open Go.Proofs.YtamlhbbphnamnaaDoor.Rely Go.Proofs.YtamlhbbphnamnaaDoor.Auto Go.Proofs.YtamlhbbphnamnaaDoor.Own
set_option linter.unusedVariables false
set_option linter.unusedSimpArgs false

theorem labelN (sec ctx : List Int) (s : ByteArray) (v2 : Value) (B2 : Nat) (tc tq : TypeId) (w : World) (hc : w.heap[1]? = some (.cells (ints .u64 cubesI) tc)) (hq : w.heap[0]? = some (.cells (ints .u64 squaresI) tq)) (hsl : sec.length = 32) (hsb : AreBytes sec) (hxb : AreBytes ctx) (hx : RdK .u8 B2 ctx v2 w) (n : Int) (h : n < 0 ∨ 8160 < n ∨ 255 < (strB s).length ∨ 65536 < ctx.length) : Calls Tryd.prog 47 #[.agg (ints .u8 sec), .string s, v2, .int .i64 n] w (Ret w (.tuple #[.slice none 0 0, .iface 38 (.int .i64 4)])) := by
  by_cases h1 : n < 0
  · exact label_A sec ctx s v2 B2 tc tq w hc hq hsl hsb hxb hx n h1
  by_cases h2 : 8160 < n
  · exact label_B sec ctx s v2 B2 tc tq w hc hq hsl hsb hxb hx n (by omega) h2
  by_cases h3 : 255 < (strB s).length
  · exact label_C sec ctx s v2 B2 tc tq w hc hq hsl hsb hxb hx n (by omega) (by omega) h3
  · exact label_D sec ctx s v2 B2 tc tq w hc hq hsl hsb hxb hx n (by omega) (by omega) (by omega) (by omega)
theorem rlabelN (sec ctx : List Int) (s : ByteArray) (v2 : Value) (B2 : Nat) (w : World)   (hsl : sec.length = 32) (hsb : AreBytes sec) (hxb : AreBytes ctx) (hx : RdK .u8 B2 ctx v2 w) (n : Int) (h : n < 0 ∨ 8160 < n ∨ 255 < (strB s).length ∨ 65536 < ctx.length) : Calls Tryd.prog 48 #[.agg (ints .u8 sec), .string s, v2, .int .i64 n] w (Ret w (.tuple #[.slice none 0 0, .bool false])) := by
  by_cases h1 : 255 < (strB s).length
  · exact rlabel_A sec ctx s v2 B2 w hsl hsb hxb hx n h1
  by_cases h2 : 65536 < ctx.length
  · exact rlabel_B sec ctx s v2 B2 w hsl hsb hxb hx n (by omega) h2
  by_cases h3 : n < 0
  · exact rlabel_C sec ctx s v2 B2 w hsl hsb hxb hx n (by omega) (by omega) h3
  · exact rlabel_D sec ctx s v2 B2 w hsl hsb hxb hx n (by omega) (by omega) (by omega) (by omega)
set_option maxHeartbeats 4000000 in
theorem labels_A (sec ctx : List Int) (s : ByteArray) (v2 : Value) (B2 : Nat) (tc tq : TypeId) (w : World) (hc : w.heap[1]? = some (.cells (ints .u64 cubesI) tc)) (hq : w.heap[0]? = some (.cells (ints .u64 squaresI) tq)) (hsl : sec.length = 32) (hsb : AreBytes sec) (hxb : AreBytes ctx) (hx : RdK .u8 B2 ctx v2 w) (n : Int) (h : 1000 < (strB s).length) : Calls Tryd.prog 24 #[.agg (ints .u8 sec), .string s, v2, .int .i64 n] w (Ret w (.bool true)) := by
  obtain ⟨a_ctx, c_ctx, rfl, -⟩ := id hx
  refine enter 79 [(0, .agg (ints .u8 (sec))), (1, .string s), (2, .slice a_ctx ctx.length c_ctx), (3, .int .i64 n)] Tryd.func24 rfl rfl (by kernel_rfl) rfl ?_
  refine wp_seq_k fun K3 hK3 => ?_
  refine region_lit ?_
  refine seq_alloc (ints .u8 (sec)) 26 4 rfl (by kernel_rfl) (by kernel_rfl) fun g4 W1 l4 e1 r4_1 => ?_
  have x1 : Ext w W1 := Ext.tr (Rely.Ext.refl w) e1
  have b4 : w.heap.size ≤ g4 := Nat.le_trans (Rely.Ext.refl w).size l4
  refine seq_val (.bool false) 8 rfl (by kernel_rfl) (by kernel_rfl) ?_
  refine seq_nil ?_
  refine hK3 _ _ ?_
  try clear hK3 K3
  refine wp_seq_k fun K5 hK5 => ?_
  refine wp_seq_k fun K6 hK6 => ?_
  refine region_lit ?_
  have r1_1 := (row_ext hc e1)
  have r2_1 := (row_ext hq e1)
  refine seq_call (.bool true) 13 #[] 13 rfl (by kernel_rfl) (by kernel_rfl) (alive02 tc tq _ r1_1 r2_1) fun W2 e2 => ?_
  have x2 : Ext w W2 := Ext.tr x1 e2
  refine seq_val (.bool false) 14 rfl (by kernel_rfl) (by kernel_rfl) ?_
  refine seq_nil ?_
  refine hK6 _ _ ?_
  try clear hK6 K6
  refine cond_false (by kernel_rfl) ?_
  refine wp_skip ?_
  refine hK5 _ _ ?_
  try clear hK5 K5
  refine wp_seq_k fun K7 hK7 => ?_
  refine wp_seq_k fun K8 hK8 => ?_
  refine region_lit ?_
  refine seq_val (.string s) 15 rfl (by kernel_rfl) (by kernel_rfl) ?_
  refine seq_val (.int .i64 (((strB s).length : Nat) : Int)) 16 rfl (by kernel_rfl) (run_eq (u := .int .i64 ((s.size : Nat) : Int)) (by kernel_rfl) (congrArg (fun z : Nat => Value.int .i64 (z : Int)) (strB_len s).symm)) ?_
  refine seq_val (.bool true) 17 rfl (by kernel_rfl) (run_eq (u := .bool (decide ((((strB s).length : Nat) : Int) > 1000))) (by kernel_rfl) (congrArg Value.bool (decide_eq_true (by omega)))) ?_
  refine seq_val (.bool true) 18 rfl (by kernel_rfl) (by kernel_rfl) ?_
  refine seq_skip 19 rfl (by kernel_rfl) ?_
  refine seq_skip 20 rfl (by kernel_rfl) ?_
  refine seq_skip 21 rfl (by kernel_rfl) ?_
  refine seq_skip 22 rfl (by kernel_rfl) ?_
  refine seq_skip 23 rfl (by kernel_rfl) ?_
  refine seq_skip 24 rfl (by kernel_rfl) ?_
  refine seq_skip 25 rfl (by kernel_rfl) ?_
  refine seq_skip 26 rfl (by kernel_rfl) ?_
  refine seq_val (.bool true) 27 rfl (by kernel_rfl) (by kernel_rfl) ?_
  refine seq_val (.bool true) 28 rfl (by kernel_rfl) (by kernel_rfl) ?_
  refine seq_skip 29 rfl (by kernel_rfl) ?_
  refine seq_skip 30 rfl (by kernel_rfl) ?_
  refine seq_skip 31 rfl (by kernel_rfl) ?_
  refine seq_skip 32 rfl (by kernel_rfl) ?_
  refine seq_skip 33 rfl (by kernel_rfl) ?_
  refine seq_skip 34 rfl (by kernel_rfl) ?_
  refine seq_val (.bool true) 35 rfl (by kernel_rfl) (by kernel_rfl) ?_
  refine seq_nil ?_
  refine hK8 _ _ ?_
  try clear hK8 K8
  refine cond_true (by kernel_rfl) ?_
  refine wp_seq_k fun K9 hK9 => ?_
  refine region_lit ?_
  refine seq_val (.bool true) 8 rfl (by kernel_rfl) (by kernel_rfl) ?_
  refine seq_nil ?_
  refine hK9 _ _ ?_
  try clear hK9 K9
  refine wp_ret ?_
  repeat (first | with_reducible refine goR1 ?_ | with_reducible refine goR2 ?_)
  exact (show bodyPost _ _ _ .ret _ _ from ret1 (.bool true) rfl (res_tmp (by kernel_rfl)) ⟨rfl, x2⟩)
set_option maxHeartbeats 4000000 in
theorem labels_B (sec ctx : List Int) (s : ByteArray) (v2 : Value) (B2 : Nat) (tc tq : TypeId) (w : World) (hc : w.heap[1]? = some (.cells (ints .u64 cubesI) tc)) (hq : w.heap[0]? = some (.cells (ints .u64 squaresI) tq)) (hsl : sec.length = 32) (hsb : AreBytes sec) (hxb : AreBytes ctx) (hx : RdK .u8 B2 ctx v2 w) (n : Int) (h1 : (strB s).length ≤ 1000) (h2 : 1000 < ctx.length) (h : ctx.length ≤ 65536) : Calls Tryd.prog 24 #[.agg (ints .u8 sec), .string s, v2, .int .i64 n] w (Ret w (.bool true)) := by
  obtain ⟨a_ctx, c_ctx, rfl, -⟩ := id hx
  refine enter 79 [(0, .agg (ints .u8 (sec))), (1, .string s), (2, .slice a_ctx ctx.length c_ctx), (3, .int .i64 n)] Tryd.func24 rfl rfl (by kernel_rfl) rfl ?_
  refine wp_seq_k fun K3 hK3 => ?_
  refine region_lit ?_
  refine seq_alloc (ints .u8 (sec)) 26 4 rfl (by kernel_rfl) (by kernel_rfl) fun g4 W1 l4 e1 r4_1 => ?_
  have x1 : Ext w W1 := Ext.tr (Rely.Ext.refl w) e1
  have b4 : w.heap.size ≤ g4 := Nat.le_trans (Rely.Ext.refl w).size l4
  refine seq_val (.bool false) 8 rfl (by kernel_rfl) (by kernel_rfl) ?_
  refine seq_nil ?_
  refine hK3 _ _ ?_
  try clear hK3 K3
  refine wp_seq_k fun K5 hK5 => ?_
  refine wp_seq_k fun K6 hK6 => ?_
  refine region_lit ?_
  have r1_1 := (row_ext hc e1)
  have r2_1 := (row_ext hq e1)
  refine seq_call (.bool true) 13 #[] 13 rfl (by kernel_rfl) (by kernel_rfl) (alive02 tc tq _ r1_1 r2_1) fun W2 e2 => ?_
  have x2 : Ext w W2 := Ext.tr x1 e2
  refine seq_val (.bool false) 14 rfl (by kernel_rfl) (by kernel_rfl) ?_
  refine seq_nil ?_
  refine hK6 _ _ ?_
  try clear hK6 K6
  refine cond_false (by kernel_rfl) ?_
  refine wp_skip ?_
  refine hK5 _ _ ?_
  try clear hK5 K5
  refine wp_seq_k fun K7 hK7 => ?_
  refine wp_seq_k fun K8 hK8 => ?_
  refine region_lit ?_
  refine seq_val (.string s) 15 rfl (by kernel_rfl) (by kernel_rfl) ?_
  refine seq_val (.int .i64 (((strB s).length : Nat) : Int)) 16 rfl (by kernel_rfl) (run_eq (u := .int .i64 ((s.size : Nat) : Int)) (by kernel_rfl) (congrArg (fun z : Nat => Value.int .i64 (z : Int)) (strB_len s).symm)) ?_
  refine seq_val (.bool false) 17 rfl (by kernel_rfl) (run_eq (u := .bool (decide ((((strB s).length : Nat) : Int) > 1000))) (by kernel_rfl) (congrArg Value.bool (decide_eq_false (by omega)))) ?_
  refine seq_val (.bool false) 18 rfl (by kernel_rfl) (by kernel_rfl) ?_
  refine seq_val (.slice a_ctx ctx.length c_ctx) 19 rfl (by kernel_rfl) (by kernel_rfl) ?_
  refine seq_val (.int .i64 ((ctx.length : Nat) : Int)) 20 rfl (by kernel_rfl) (by kernel_rfl) ?_
  refine seq_val (.bool true) 21 rfl (by kernel_rfl) (run_eq (u := .bool (decide (((ctx.length : Nat) : Int) > 1000))) (by kernel_rfl) (congrArg Value.bool (decide_eq_true (by omega)))) ?_
  refine seq_val (.bool true) 22 rfl (by kernel_rfl) (by kernel_rfl) ?_
  refine seq_val (.slice a_ctx ctx.length c_ctx) 23 rfl (by kernel_rfl) (by kernel_rfl) ?_
  refine seq_val (.int .i64 ((ctx.length : Nat) : Int)) 24 rfl (by kernel_rfl) (by kernel_rfl) ?_
  refine seq_val (.bool true) 25 rfl (by kernel_rfl) (run_eq (u := .bool (decide (((ctx.length : Nat) : Int) ≤ 65536))) (by kernel_rfl) (congrArg Value.bool (decide_eq_true (by omega)))) ?_
  refine seq_val (.bool true) 26 rfl (by kernel_rfl) (by kernel_rfl) ?_
  refine seq_val (.bool true) 27 rfl (by kernel_rfl) (by kernel_rfl) ?_
  refine seq_val (.bool true) 28 rfl (by kernel_rfl) (by kernel_rfl) ?_
  refine seq_skip 29 rfl (by kernel_rfl) ?_
  refine seq_skip 30 rfl (by kernel_rfl) ?_
  refine seq_skip 31 rfl (by kernel_rfl) ?_
  refine seq_skip 32 rfl (by kernel_rfl) ?_
  refine seq_skip 33 rfl (by kernel_rfl) ?_
  refine seq_skip 34 rfl (by kernel_rfl) ?_
  refine seq_val (.bool true) 35 rfl (by kernel_rfl) (by kernel_rfl) ?_
  refine seq_nil ?_
  refine hK8 _ _ ?_
  try clear hK8 K8
  refine cond_true (by kernel_rfl) ?_
  refine wp_seq_k fun K9 hK9 => ?_
  refine region_lit ?_
  refine seq_val (.bool true) 8 rfl (by kernel_rfl) (by kernel_rfl) ?_
  refine seq_nil ?_
  refine hK9 _ _ ?_
  try clear hK9 K9
  refine wp_ret ?_
  repeat (first | with_reducible refine goR1 ?_ | with_reducible refine goR2 ?_)
  exact (show bodyPost _ _ _ .ret _ _ from ret1 (.bool true) rfl (res_tmp (by kernel_rfl)) ⟨rfl, x2⟩)
set_option maxHeartbeats 4000000 in
theorem labels_Cs (sec ctx : List Int) (s : ByteArray) (v2 : Value) (B2 : Nat) (tc tq : TypeId) (w : World) (hc : w.heap[1]? = some (.cells (ints .u64 cubesI) tc)) (hq : w.heap[0]? = some (.cells (ints .u64 squaresI) tq)) (hsl : sec.length = 32) (hsb : AreBytes sec) (hxb : AreBytes ctx) (hx : RdK .u8 B2 ctx v2 w) (n : Int) (h1 : (strB s).length ≤ 1000) (h2 : ctx.length ≤ 1000) (h3 : 1000 < n) (h4 : n ≤ 8160) : Calls Tryd.prog 24 #[.agg (ints .u8 sec), .string s, v2, .int .i64 n] w (Ret w (.bool true)) := by
  obtain ⟨a_ctx, c_ctx, rfl, -⟩ := id hx
  refine enter 79 [(0, .agg (ints .u8 (sec))), (1, .string s), (2, .slice a_ctx ctx.length c_ctx), (3, .int .i64 n)] Tryd.func24 rfl rfl (by kernel_rfl) rfl ?_
  refine wp_seq_k fun K3 hK3 => ?_
  refine region_lit ?_
  refine seq_alloc (ints .u8 (sec)) 26 4 rfl (by kernel_rfl) (by kernel_rfl) fun g4 W1 l4 e1 r4_1 => ?_
  have x1 : Ext w W1 := Ext.tr (Rely.Ext.refl w) e1
  have b4 : w.heap.size ≤ g4 := Nat.le_trans (Rely.Ext.refl w).size l4
  refine seq_val (.bool false) 8 rfl (by kernel_rfl) (by kernel_rfl) ?_
  refine seq_nil ?_
  refine hK3 _ _ ?_
  try clear hK3 K3
  refine wp_seq_k fun K5 hK5 => ?_
  refine wp_seq_k fun K6 hK6 => ?_
  refine region_lit ?_
  have r1_1 := (row_ext hc e1)
  have r2_1 := (row_ext hq e1)
  refine seq_call (.bool true) 13 #[] 13 rfl (by kernel_rfl) (by kernel_rfl) (alive02 tc tq _ r1_1 r2_1) fun W2 e2 => ?_
  have x2 : Ext w W2 := Ext.tr x1 e2
  refine seq_val (.bool false) 14 rfl (by kernel_rfl) (by kernel_rfl) ?_
  refine seq_nil ?_
  refine hK6 _ _ ?_
  try clear hK6 K6
  refine cond_false (by kernel_rfl) ?_
  refine wp_skip ?_
  refine hK5 _ _ ?_
  try clear hK5 K5
  refine wp_seq_k fun K7 hK7 => ?_
  refine wp_seq_k fun K8 hK8 => ?_
  refine region_lit ?_
  refine seq_val (.string s) 15 rfl (by kernel_rfl) (by kernel_rfl) ?_
  refine seq_val (.int .i64 (((strB s).length : Nat) : Int)) 16 rfl (by kernel_rfl) (run_eq (u := .int .i64 ((s.size : Nat) : Int)) (by kernel_rfl) (congrArg (fun z : Nat => Value.int .i64 (z : Int)) (strB_len s).symm)) ?_
  refine seq_val (.bool false) 17 rfl (by kernel_rfl) (run_eq (u := .bool (decide ((((strB s).length : Nat) : Int) > 1000))) (by kernel_rfl) (congrArg Value.bool (decide_eq_false (by omega)))) ?_
  refine seq_val (.bool false) 18 rfl (by kernel_rfl) (by kernel_rfl) ?_
  refine seq_val (.slice a_ctx ctx.length c_ctx) 19 rfl (by kernel_rfl) (by kernel_rfl) ?_
  refine seq_val (.int .i64 ((ctx.length : Nat) : Int)) 20 rfl (by kernel_rfl) (by kernel_rfl) ?_
  refine seq_val (.bool false) 21 rfl (by kernel_rfl) (run_eq (u := .bool (decide (((ctx.length : Nat) : Int) > 1000))) (by kernel_rfl) (congrArg Value.bool (decide_eq_false (by omega)))) ?_
  refine seq_val (.bool false) 22 rfl (by kernel_rfl) (by kernel_rfl) ?_
  refine seq_skip 23 rfl (by kernel_rfl) ?_
  refine seq_skip 24 rfl (by kernel_rfl) ?_
  refine seq_skip 25 rfl (by kernel_rfl) ?_
  refine seq_val (.bool false) 26 rfl (by kernel_rfl) (by kernel_rfl) ?_
  refine seq_val (.bool false) 27 rfl (by kernel_rfl) (by kernel_rfl) ?_
  refine seq_val (.bool false) 28 rfl (by kernel_rfl) (by kernel_rfl) ?_
  refine seq_val (.int .i64 n) 29 rfl (by kernel_rfl) (by kernel_rfl) ?_
  refine seq_val (.bool true) 30 rfl (by kernel_rfl) (run_eq (u := .bool (decide (n > 1000))) (by kernel_rfl) (congrArg Value.bool (decide_eq_true (by omega)))) ?_
  refine seq_val (.bool true) 31 rfl (by kernel_rfl) (by kernel_rfl) ?_
  refine seq_val (.int .i64 n) 32 rfl (by kernel_rfl) (by kernel_rfl) ?_
  refine seq_val (.bool true) 33 rfl (by kernel_rfl) (run_eq (u := .bool (decide (n ≤ 8160))) (by kernel_rfl) (congrArg Value.bool (decide_eq_true (by omega)))) ?_
  refine seq_val (.bool true) 34 rfl (by kernel_rfl) (by kernel_rfl) ?_
  refine seq_val (.bool true) 35 rfl (by kernel_rfl) (by kernel_rfl) ?_
  refine seq_nil ?_
  refine hK8 _ _ ?_
  try clear hK8 K8
  refine cond_true (by kernel_rfl) ?_
  refine wp_seq_k fun K9 hK9 => ?_
  refine region_lit ?_
  refine seq_val (.bool true) 8 rfl (by kernel_rfl) (by kernel_rfl) ?_
  refine seq_nil ?_
  refine hK9 _ _ ?_
  try clear hK9 K9
  refine wp_ret ?_
  repeat (first | with_reducible refine goR1 ?_ | with_reducible refine goR2 ?_)
  exact (show bodyPost _ _ _ .ret _ _ from ret1 (.bool true) rfl (res_tmp (by kernel_rfl)) ⟨rfl, x2⟩)
set_option maxHeartbeats 4000000 in
theorem labels_Cl (sec ctx : List Int) (s : ByteArray) (v2 : Value) (B2 : Nat) (tc tq : TypeId) (w : World) (hc : w.heap[1]? = some (.cells (ints .u64 cubesI) tc)) (hq : w.heap[0]? = some (.cells (ints .u64 squaresI) tq)) (hsl : sec.length = 32) (hsb : AreBytes sec) (hxb : AreBytes ctx) (hx : RdK .u8 B2 ctx v2 w) (n : Int) (h1 : (strB s).length ≤ 1000) (h2 : 65536 < ctx.length) (h3 : 1000 < n) (h4 : n ≤ 8160) : Calls Tryd.prog 24 #[.agg (ints .u8 sec), .string s, v2, .int .i64 n] w (Ret w (.bool true)) := by
  obtain ⟨a_ctx, c_ctx, rfl, -⟩ := id hx
  refine enter 79 [(0, .agg (ints .u8 (sec))), (1, .string s), (2, .slice a_ctx ctx.length c_ctx), (3, .int .i64 n)] Tryd.func24 rfl rfl (by kernel_rfl) rfl ?_
  refine wp_seq_k fun K3 hK3 => ?_
  refine region_lit ?_
  refine seq_alloc (ints .u8 (sec)) 26 4 rfl (by kernel_rfl) (by kernel_rfl) fun g4 W1 l4 e1 r4_1 => ?_
  have x1 : Ext w W1 := Ext.tr (Rely.Ext.refl w) e1
  have b4 : w.heap.size ≤ g4 := Nat.le_trans (Rely.Ext.refl w).size l4
  refine seq_val (.bool false) 8 rfl (by kernel_rfl) (by kernel_rfl) ?_
  refine seq_nil ?_
  refine hK3 _ _ ?_
  try clear hK3 K3
  refine wp_seq_k fun K5 hK5 => ?_
  refine wp_seq_k fun K6 hK6 => ?_
  refine region_lit ?_
  have r1_1 := (row_ext hc e1)
  have r2_1 := (row_ext hq e1)
  refine seq_call (.bool true) 13 #[] 13 rfl (by kernel_rfl) (by kernel_rfl) (alive02 tc tq _ r1_1 r2_1) fun W2 e2 => ?_
  have x2 : Ext w W2 := Ext.tr x1 e2
  refine seq_val (.bool false) 14 rfl (by kernel_rfl) (by kernel_rfl) ?_
  refine seq_nil ?_
  refine hK6 _ _ ?_
  try clear hK6 K6
  refine cond_false (by kernel_rfl) ?_
  refine wp_skip ?_
  refine hK5 _ _ ?_
  try clear hK5 K5
  refine wp_seq_k fun K7 hK7 => ?_
  refine wp_seq_k fun K8 hK8 => ?_
  refine region_lit ?_
  refine seq_val (.string s) 15 rfl (by kernel_rfl) (by kernel_rfl) ?_
  refine seq_val (.int .i64 (((strB s).length : Nat) : Int)) 16 rfl (by kernel_rfl) (run_eq (u := .int .i64 ((s.size : Nat) : Int)) (by kernel_rfl) (congrArg (fun z : Nat => Value.int .i64 (z : Int)) (strB_len s).symm)) ?_
  refine seq_val (.bool false) 17 rfl (by kernel_rfl) (run_eq (u := .bool (decide ((((strB s).length : Nat) : Int) > 1000))) (by kernel_rfl) (congrArg Value.bool (decide_eq_false (by omega)))) ?_
  refine seq_val (.bool false) 18 rfl (by kernel_rfl) (by kernel_rfl) ?_
  refine seq_val (.slice a_ctx ctx.length c_ctx) 19 rfl (by kernel_rfl) (by kernel_rfl) ?_
  refine seq_val (.int .i64 ((ctx.length : Nat) : Int)) 20 rfl (by kernel_rfl) (by kernel_rfl) ?_
  refine seq_val (.bool true) 21 rfl (by kernel_rfl) (run_eq (u := .bool (decide (((ctx.length : Nat) : Int) > 1000))) (by kernel_rfl) (congrArg Value.bool (decide_eq_true (by omega)))) ?_
  refine seq_val (.bool true) 22 rfl (by kernel_rfl) (by kernel_rfl) ?_
  refine seq_val (.slice a_ctx ctx.length c_ctx) 23 rfl (by kernel_rfl) (by kernel_rfl) ?_
  refine seq_val (.int .i64 ((ctx.length : Nat) : Int)) 24 rfl (by kernel_rfl) (by kernel_rfl) ?_
  refine seq_val (.bool false) 25 rfl (by kernel_rfl) (run_eq (u := .bool (decide (((ctx.length : Nat) : Int) ≤ 65536))) (by kernel_rfl) (congrArg Value.bool (decide_eq_false (by omega)))) ?_
  refine seq_val (.bool false) 26 rfl (by kernel_rfl) (by kernel_rfl) ?_
  refine seq_val (.bool false) 27 rfl (by kernel_rfl) (by kernel_rfl) ?_
  refine seq_val (.bool false) 28 rfl (by kernel_rfl) (by kernel_rfl) ?_
  refine seq_val (.int .i64 n) 29 rfl (by kernel_rfl) (by kernel_rfl) ?_
  refine seq_val (.bool true) 30 rfl (by kernel_rfl) (run_eq (u := .bool (decide (n > 1000))) (by kernel_rfl) (congrArg Value.bool (decide_eq_true (by omega)))) ?_
  refine seq_val (.bool true) 31 rfl (by kernel_rfl) (by kernel_rfl) ?_
  refine seq_val (.int .i64 n) 32 rfl (by kernel_rfl) (by kernel_rfl) ?_
  refine seq_val (.bool true) 33 rfl (by kernel_rfl) (run_eq (u := .bool (decide (n ≤ 8160))) (by kernel_rfl) (congrArg Value.bool (decide_eq_true (by omega)))) ?_
  refine seq_val (.bool true) 34 rfl (by kernel_rfl) (by kernel_rfl) ?_
  refine seq_val (.bool true) 35 rfl (by kernel_rfl) (by kernel_rfl) ?_
  refine seq_nil ?_
  refine hK8 _ _ ?_
  try clear hK8 K8
  refine cond_true (by kernel_rfl) ?_
  refine wp_seq_k fun K9 hK9 => ?_
  refine region_lit ?_
  refine seq_val (.bool true) 8 rfl (by kernel_rfl) (by kernel_rfl) ?_
  refine seq_nil ?_
  refine hK9 _ _ ?_
  try clear hK9 K9
  refine wp_ret ?_
  repeat (first | with_reducible refine goR1 ?_ | with_reducible refine goR2 ?_)
  exact (show bodyPost _ _ _ .ret _ _ from ret1 (.bool true) rfl (res_tmp (by kernel_rfl)) ⟨rfl, x2⟩)
set_option maxHeartbeats 4000000 in
theorem labels_Ess (sec ctx : List Int) (s : ByteArray) (v2 : Value) (B2 : Nat) (tc tq : TypeId) (w : World) (hc : w.heap[1]? = some (.cells (ints .u64 cubesI) tc)) (hq : w.heap[0]? = some (.cells (ints .u64 squaresI) tq)) (hsl : sec.length = 32) (hsb : AreBytes sec) (hxb : AreBytes ctx) (hx : RdK .u8 B2 ctx v2 w) (n : Int) (h1 : (strB s).length ≤ 1000) (h2 : ctx.length ≤ 1000) (h3 : n ≤ 1000) (he : n < 0 ∨ 8160 < n ∨ 255 < (strB s).length ∨ 65536 < ctx.length) : Calls Tryd.prog 24 #[.agg (ints .u8 sec), .string s, v2, .int .i64 n] w (Ret w (.bool true)) := by
  obtain ⟨a_ctx, c_ctx, rfl, -⟩ := id hx
  refine enter 79 [(0, .agg (ints .u8 (sec))), (1, .string s), (2, .slice a_ctx ctx.length c_ctx), (3, .int .i64 n)] Tryd.func24 rfl rfl (by kernel_rfl) rfl ?_
  refine wp_seq_k fun K3 hK3 => ?_
  refine region_lit ?_
  refine seq_alloc (ints .u8 (sec)) 26 4 rfl (by kernel_rfl) (by kernel_rfl) fun g4 W1 l4 e1 r4_1 => ?_
  have x1 : Ext w W1 := Ext.tr (Rely.Ext.refl w) e1
  have b4 : w.heap.size ≤ g4 := Nat.le_trans (Rely.Ext.refl w).size l4
  refine seq_val (.bool false) 8 rfl (by kernel_rfl) (by kernel_rfl) ?_
  refine seq_nil ?_
  refine hK3 _ _ ?_
  try clear hK3 K3
  refine wp_seq_k fun K5 hK5 => ?_
  refine wp_seq_k fun K6 hK6 => ?_
  refine region_lit ?_
  have r1_1 := (row_ext hc e1)
  have r2_1 := (row_ext hq e1)
  refine seq_call (.bool true) 13 #[] 13 rfl (by kernel_rfl) (by kernel_rfl) (alive02 tc tq _ r1_1 r2_1) fun W2 e2 => ?_
  have x2 : Ext w W2 := Ext.tr x1 e2
  refine seq_val (.bool false) 14 rfl (by kernel_rfl) (by kernel_rfl) ?_
  refine seq_nil ?_
  refine hK6 _ _ ?_
  try clear hK6 K6
  refine cond_false (by kernel_rfl) ?_
  refine wp_skip ?_
  refine hK5 _ _ ?_
  try clear hK5 K5
  refine wp_seq_k fun K7 hK7 => ?_
  refine wp_seq_k fun K8 hK8 => ?_
  refine region_lit ?_
  refine seq_val (.string s) 15 rfl (by kernel_rfl) (by kernel_rfl) ?_
  refine seq_val (.int .i64 (((strB s).length : Nat) : Int)) 16 rfl (by kernel_rfl) (run_eq (u := .int .i64 ((s.size : Nat) : Int)) (by kernel_rfl) (congrArg (fun z : Nat => Value.int .i64 (z : Int)) (strB_len s).symm)) ?_
  refine seq_val (.bool false) 17 rfl (by kernel_rfl) (run_eq (u := .bool (decide ((((strB s).length : Nat) : Int) > 1000))) (by kernel_rfl) (congrArg Value.bool (decide_eq_false (by omega)))) ?_
  refine seq_val (.bool false) 18 rfl (by kernel_rfl) (by kernel_rfl) ?_
  refine seq_val (.slice a_ctx ctx.length c_ctx) 19 rfl (by kernel_rfl) (by kernel_rfl) ?_
  refine seq_val (.int .i64 ((ctx.length : Nat) : Int)) 20 rfl (by kernel_rfl) (by kernel_rfl) ?_
  refine seq_val (.bool false) 21 rfl (by kernel_rfl) (run_eq (u := .bool (decide (((ctx.length : Nat) : Int) > 1000))) (by kernel_rfl) (congrArg Value.bool (decide_eq_false (by omega)))) ?_
  refine seq_val (.bool false) 22 rfl (by kernel_rfl) (by kernel_rfl) ?_
  refine seq_skip 23 rfl (by kernel_rfl) ?_
  refine seq_skip 24 rfl (by kernel_rfl) ?_
  refine seq_skip 25 rfl (by kernel_rfl) ?_
  refine seq_val (.bool false) 26 rfl (by kernel_rfl) (by kernel_rfl) ?_
  refine seq_val (.bool false) 27 rfl (by kernel_rfl) (by kernel_rfl) ?_
  refine seq_val (.bool false) 28 rfl (by kernel_rfl) (by kernel_rfl) ?_
  refine seq_val (.int .i64 n) 29 rfl (by kernel_rfl) (by kernel_rfl) ?_
  refine seq_val (.bool false) 30 rfl (by kernel_rfl) (run_eq (u := .bool (decide (n > 1000))) (by kernel_rfl) (congrArg Value.bool (decide_eq_false (by omega)))) ?_
  refine seq_val (.bool false) 31 rfl (by kernel_rfl) (by kernel_rfl) ?_
  refine seq_skip 32 rfl (by kernel_rfl) ?_
  refine seq_skip 33 rfl (by kernel_rfl) ?_
  refine seq_val (.bool false) 34 rfl (by kernel_rfl) (by kernel_rfl) ?_
  refine seq_val (.bool false) 35 rfl (by kernel_rfl) (by kernel_rfl) ?_
  refine seq_nil ?_
  refine hK8 _ _ ?_
  try clear hK8 K8
  refine cond_false (by kernel_rfl) ?_
  refine wp_skip ?_
  refine hK7 _ _ ?_
  try clear hK7 K7
  refine wp_seq_k fun K9 hK9 => ?_
  refine region_lit ?_
  have r4_2 := (row_ext r4_1 e2)
  refine seq_val (.agg (ints .u8 (sec))) 37 rfl (by kernel_rfl) (run_load_row 26 _ g4 26 _ _ r4_2 rfl (by kernel_rfl) (by kernel_rfl) (isz (n := 32) (by kernel_rfl) ((ints_size _ _).trans hsl))) ?_
  refine seq_val (.string s) 38 rfl (by kernel_rfl) (by kernel_rfl) ?_
  refine seq_val (.slice a_ctx ctx.length c_ctx) 39 rfl (by kernel_rfl) (by kernel_rfl) ?_
  refine seq_val (.int .i64 n) 40 rfl (by kernel_rfl) (by kernel_rfl) ?_
  have r1_2 := (row_ext r1_1 e2)
  have r2_2 := (row_ext r2_1 e2)
  refine seq_call (.tuple #[.slice none 0 0, .iface 38 (.int .i64 4)]) 47 #[.agg (ints .u8 (sec)), .string s, .slice a_ctx ctx.length c_ctx, .int .i64 n] 41 rfl (by kernel_rfl) (by kernel_rfl) (labelN sec ctx s _ _ tc tq _ r1_2 r2_2 hsl hsb hxb (RdK.ext hx x2) n he) fun W3 e3 => ?_
  have x3 : Ext w W3 := Ext.tr x2 e3
  refine seq_val (.tuple #[.slice none 0 0, .iface 38 (.int .i64 4)]) 36 rfl (by kernel_rfl) (by kernel_rfl) ?_
  refine seq_val (.slice none 0 0) 42 rfl (by kernel_rfl) (by kernel_rfl) ?_
  refine seq_val (.iface 38 (.int .i64 4)) 43 rfl (by kernel_rfl) (by kernel_rfl) ?_
  refine seq_val (.slice none 0 0) 9 rfl (by kernel_rfl) (by kernel_rfl) ?_
  refine seq_val (.iface 38 (.int .i64 4)) 10 rfl (by kernel_rfl) (by kernel_rfl) ?_
  refine seq_nil ?_
  refine hK9 _ _ ?_
  try clear hK9 K9
  refine wp_seq_k fun K10 hK10 => ?_
  refine region_lit ?_
  have r4_3 := (row_ext r4_2 e3)
  refine seq_val (.agg (ints .u8 (sec))) 45 rfl (by kernel_rfl) (run_load_row 26 _ g4 26 _ _ r4_3 rfl (by kernel_rfl) (by kernel_rfl) (isz (n := 32) (by kernel_rfl) ((ints_size _ _).trans hsl))) ?_
  refine seq_val (.string s) 46 rfl (by kernel_rfl) (by kernel_rfl) ?_
  refine seq_val (.slice a_ctx ctx.length c_ctx) 47 rfl (by kernel_rfl) (by kernel_rfl) ?_
  refine seq_val (.int .i64 n) 48 rfl (by kernel_rfl) (by kernel_rfl) ?_
  refine seq_call (.tuple #[.slice none 0 0, .bool false]) 48 #[.agg (ints .u8 (sec)), .string s, .slice a_ctx ctx.length c_ctx, .int .i64 n] 49 rfl (by kernel_rfl) (by kernel_rfl) (rlabelN sec ctx s _ _ _ hsl hsb hxb (RdK.ext hx x3) n he) fun W4 e4 => ?_
  have x4 : Ext w W4 := Ext.tr x3 e4
  refine seq_val (.tuple #[.slice none 0 0, .bool false]) 44 rfl (by kernel_rfl) (by kernel_rfl) ?_
  refine seq_val (.slice none 0 0) 50 rfl (by kernel_rfl) (by kernel_rfl) ?_
  refine seq_val (.bool false) 51 rfl (by kernel_rfl) (by kernel_rfl) ?_
  refine seq_val (.slice none 0 0) 11 rfl (by kernel_rfl) (by kernel_rfl) ?_
  refine seq_val (.bool false) 12 rfl (by kernel_rfl) (by kernel_rfl) ?_
  refine seq_nil ?_
  refine hK10 _ _ ?_
  try clear hK10 K10
  refine wp_seq_k fun K11 hK11 => ?_
  refine any_region 27 [⟨none, [(9, none)]⟩, ⟨none, [(11, none)]⟩, ⟨none, [(52, some 0), (53, some 1)]⟩, ⟨none, [(54, some 2)]⟩, ⟨some (55, true), [(12, none), (55, some 3)]⟩, ⟨some (55, true), [(56, some 4), (55, some 3)]⟩, ⟨some (57, true), [(10, none), (57, some 5)]⟩, ⟨some (57, true), [(58, some 6), (57, some 5)]⟩, ⟨some (55, true), [(57, some 5), (59, some 7), (55, some 3)]⟩, ⟨some (55, true), [(60, some 8), (55, some 3)]⟩, ⟨some (61, false), [(12, none), (61, some 9)]⟩, ⟨some (61, false), [(62, some 10), (61, some 9)]⟩, ⟨some (61, false), [(63, some 11), (61, some 9)]⟩, ⟨some (64, true), [(10, none), (64, some 12)]⟩, ⟨some (64, true), [(65, some 13), (64, some 12)]⟩, ⟨some (61, false), [(64, some 12), (66, some 14), (61, some 9)]⟩, ⟨some (55, true), [(61, some 9), (67, some 15), (55, some 3)]⟩, ⟨none, [(55, some 3), (68, some 16)]⟩, ⟨none, [(69, some 17)]⟩, ⟨some (70, true), [(4, none), (70, some 18)]⟩, ⟨some (70, true), [(1, none), (70, some 18)]⟩, ⟨some (70, true), [(71, some 19), (72, some 20), (70, some 18)]⟩, ⟨some (70, true), [(4, none), (70, some 18)]⟩, ⟨some (70, true), [(1, none), (70, some 18)]⟩, ⟨some (70, true), [(74, some 22), (75, some 23), (70, some 18)]⟩, ⟨some (70, true), [(73, some 21), (76, some 24), (70, some 18)]⟩, ⟨none, [(70, some 18), (77, some 25)]⟩] (by kernel_rfl) (by kernel_rfl) fun F hF => ?_
  refine any_val (.slice none 0 0) (by kernel_rfl) (by kernel_rfl) (fun W => by kernel_rfl) ?_
  refine any_val (.slice none 0 0) (by kernel_rfl) (by kernel_rfl) (fun W => by kernel_rfl) ?_
  refine any_call (.bool true) 21 #[.slice none 0 0, .slice none 0 0] (by kernel_rfl) (by kernel_rfl) (fun W => by kernel_rfl) (fun W hR => (fun W hR => sameT _ _ ([]) W (BytesAt.ext (nil_bytes _) (Rely.Ext.trans (ext_drew _) hR)) (BytesAt.ext (nil_bytes _) (Rely.Ext.trans (ext_drew _) hR))) W hR) ?_
  refine any_val (.bool true) (by kernel_rfl) (by kernel_rfl) (fun W => by kernel_rfl) ?_
  refine any_val (.bool false) (by kernel_rfl) (by kernel_rfl) (fun W => by kernel_rfl) ?_
  refine any_val (.bool false) (by kernel_rfl) (by kernel_rfl) (fun W => by kernel_rfl) ?_
  refine any_skip (by kernel_rfl) (by kernel_rfl) ?_
  refine any_skip (by kernel_rfl) (by kernel_rfl) ?_
  refine any_val (.bool false) (by kernel_rfl) (by kernel_rfl) (fun W => by kernel_rfl) ?_
  refine any_val (.bool false) (by kernel_rfl) (by kernel_rfl) (fun W => by kernel_rfl) ?_
  refine any_val (.bool false) (by kernel_rfl) (by kernel_rfl) (fun W => by kernel_rfl) ?_
  refine any_val (.bool true) (by kernel_rfl) (by kernel_rfl) (fun W => by kernel_rfl) ?_
  refine any_val (.bool true) (by kernel_rfl) (by kernel_rfl) (fun W => by kernel_rfl) ?_
  refine any_val (.iface 38 (.int .i64 4)) (by kernel_rfl) (by kernel_rfl) (fun W => by kernel_rfl) ?_
  refine any_call (.bool true) 22 #[.iface 38 (.int .i64 4), .int .i64 4] (by kernel_rfl) (by kernel_rfl) (fun W => by kernel_rfl) (fun W hR => (is4) W) ?_
  refine any_val (.bool true) (by kernel_rfl) (by kernel_rfl) (fun W => by kernel_rfl) ?_
  refine any_val (.bool true) (by kernel_rfl) (by kernel_rfl) (fun W => by kernel_rfl) ?_
  refine any_val (.bool true) (by kernel_rfl) (by kernel_rfl) (fun W => by kernel_rfl) ?_
  refine any_val (.bool true) (by kernel_rfl) (by kernel_rfl) (fun W => by kernel_rfl) ?_
  have r4_4 := (row_ext r4_3 e4)
  refine any_read (.agg (ints .u8 (sec))) (by kernel_rfl) (by kernel_rfl) (fun W hR => (run_load_row 26 _ g4 26 _ _ (row_ext (row_ext r4_4 (ext_drew _)) hR) rfl (by kernel_rfl) (by kernel_rfl) (isz (n := 32) (by kernel_rfl) ((ints_size _ _).trans hsl)))) ?_
  refine any_val (.string s) (by kernel_rfl) (by kernel_rfl) (fun W => by kernel_rfl) ?_
  have r1_3 := (row_ext r1_2 e3)
  have r1_4 := (row_ext r1_3 e4)
  have r2_3 := (row_ext r2_2 e3)
  have r2_4 := (row_ext r2_3 e4)
  refine any_call (.agg (ints .u8 (deriveV sec (strB s)))) 49 #[.agg (ints .u8 (sec)), .string s] (by kernel_rfl) (by kernel_rfl) (fun W => by kernel_rfl) (fun W hR => deriveC sec s tc tq W (row_ext (row_ext r1_4 (ext_drew _)) hR) (row_ext (row_ext r2_4 (ext_drew _)) hR) hsl hsb) ?_
  refine any_read (.agg (ints .u8 (sec))) (by kernel_rfl) (by kernel_rfl) (fun W hR => (run_load_row 26 _ g4 26 _ _ (row_ext (row_ext r4_4 (ext_drew _)) hR) rfl (by kernel_rfl) (by kernel_rfl) (isz (n := 32) (by kernel_rfl) ((ints_size _ _).trans hsl)))) ?_
  refine any_val (.string s) (by kernel_rfl) (by kernel_rfl) (fun W => by kernel_rfl) ?_
  refine any_call (.agg (ints .u8 (deriveV sec (strB s)))) 50 #[.agg (ints .u8 (sec)), .string s] (by kernel_rfl) (by kernel_rfl) (fun W => by kernel_rfl) (fun W hR => (fun W => rderiveC sec s W hsl hsb) W) ?_
  refine any_val (.bool true) (by kernel_rfl) (by kernel_rfl) (fun W => (run_eql_agg 26 _ _ _ _ _ (.bool true) rfl (by kernel_rfl) (by kernel_rfl) (by kernel_rfl) (eql_lists 26 (e := 5) (k := .u8) (deriveV sec (strB s)) (deriveV sec (strB s)) (decide_eq_true rfl) (deriveV_len _ _) (deriveV_len _ _) (by kernel_rfl) (by kernel_rfl) (by kernel_rfl) _))) ?_
  refine any_val (.bool true) (by kernel_rfl) (by kernel_rfl) (fun W => by kernel_rfl) ?_
  refine steps_nil (hF _ (by kernel_rfl) fun W5 e5 => ?_)
  simp only [ups, up, Kn.val, List.take_succ_cons, List.take_zero, List.drop_succ_cons, List.drop_zero, List.nil_append, List.cons_append]
  clear hF
  have x5 : Ext w W5 := Ext.tr x4 e5
  refine seq_val (.bool true) 8 rfl (by kernel_rfl) (by kernel_rfl) ?_
  refine seq_nil ?_
  refine hK11 _ _ ?_
  try clear hK11 K11
  refine wp_ret ?_
  repeat (first | with_reducible refine goR1 ?_ | with_reducible refine goR2 ?_)
  exact (show bodyPost _ _ _ .ret _ _ from ret1 (.bool true) rfl (res_tmp (by kernel_rfl)) ⟨rfl, x5⟩)
set_option maxHeartbeats 4000000 in
theorem labels_Esl (sec ctx : List Int) (s : ByteArray) (v2 : Value) (B2 : Nat) (tc tq : TypeId) (w : World) (hc : w.heap[1]? = some (.cells (ints .u64 cubesI) tc)) (hq : w.heap[0]? = some (.cells (ints .u64 squaresI) tq)) (hsl : sec.length = 32) (hsb : AreBytes sec) (hxb : AreBytes ctx) (hx : RdK .u8 B2 ctx v2 w) (n : Int) (h1 : (strB s).length ≤ 1000) (h2 : ctx.length ≤ 1000) (h3 : 8160 < n) (he : n < 0 ∨ 8160 < n ∨ 255 < (strB s).length ∨ 65536 < ctx.length) : Calls Tryd.prog 24 #[.agg (ints .u8 sec), .string s, v2, .int .i64 n] w (Ret w (.bool true)) := by
  obtain ⟨a_ctx, c_ctx, rfl, -⟩ := id hx
  refine enter 79 [(0, .agg (ints .u8 (sec))), (1, .string s), (2, .slice a_ctx ctx.length c_ctx), (3, .int .i64 n)] Tryd.func24 rfl rfl (by kernel_rfl) rfl ?_
  refine wp_seq_k fun K3 hK3 => ?_
  refine region_lit ?_
  refine seq_alloc (ints .u8 (sec)) 26 4 rfl (by kernel_rfl) (by kernel_rfl) fun g4 W1 l4 e1 r4_1 => ?_
  have x1 : Ext w W1 := Ext.tr (Rely.Ext.refl w) e1
  have b4 : w.heap.size ≤ g4 := Nat.le_trans (Rely.Ext.refl w).size l4
  refine seq_val (.bool false) 8 rfl (by kernel_rfl) (by kernel_rfl) ?_
  refine seq_nil ?_
  refine hK3 _ _ ?_
  try clear hK3 K3
  refine wp_seq_k fun K5 hK5 => ?_
  refine wp_seq_k fun K6 hK6 => ?_
  refine region_lit ?_
  have r1_1 := (row_ext hc e1)
  have r2_1 := (row_ext hq e1)
  refine seq_call (.bool true) 13 #[] 13 rfl (by kernel_rfl) (by kernel_rfl) (alive02 tc tq _ r1_1 r2_1) fun W2 e2 => ?_
  have x2 : Ext w W2 := Ext.tr x1 e2
  refine seq_val (.bool false) 14 rfl (by kernel_rfl) (by kernel_rfl) ?_
  refine seq_nil ?_
  refine hK6 _ _ ?_
  try clear hK6 K6
  refine cond_false (by kernel_rfl) ?_
  refine wp_skip ?_
  refine hK5 _ _ ?_
  try clear hK5 K5
  refine wp_seq_k fun K7 hK7 => ?_
  refine wp_seq_k fun K8 hK8 => ?_
  refine region_lit ?_
  refine seq_val (.string s) 15 rfl (by kernel_rfl) (by kernel_rfl) ?_
  refine seq_val (.int .i64 (((strB s).length : Nat) : Int)) 16 rfl (by kernel_rfl) (run_eq (u := .int .i64 ((s.size : Nat) : Int)) (by kernel_rfl) (congrArg (fun z : Nat => Value.int .i64 (z : Int)) (strB_len s).symm)) ?_
  refine seq_val (.bool false) 17 rfl (by kernel_rfl) (run_eq (u := .bool (decide ((((strB s).length : Nat) : Int) > 1000))) (by kernel_rfl) (congrArg Value.bool (decide_eq_false (by omega)))) ?_
  refine seq_val (.bool false) 18 rfl (by kernel_rfl) (by kernel_rfl) ?_
  refine seq_val (.slice a_ctx ctx.length c_ctx) 19 rfl (by kernel_rfl) (by kernel_rfl) ?_
  refine seq_val (.int .i64 ((ctx.length : Nat) : Int)) 20 rfl (by kernel_rfl) (by kernel_rfl) ?_
  refine seq_val (.bool false) 21 rfl (by kernel_rfl) (run_eq (u := .bool (decide (((ctx.length : Nat) : Int) > 1000))) (by kernel_rfl) (congrArg Value.bool (decide_eq_false (by omega)))) ?_
  refine seq_val (.bool false) 22 rfl (by kernel_rfl) (by kernel_rfl) ?_
  refine seq_skip 23 rfl (by kernel_rfl) ?_
  refine seq_skip 24 rfl (by kernel_rfl) ?_
  refine seq_skip 25 rfl (by kernel_rfl) ?_
  refine seq_val (.bool false) 26 rfl (by kernel_rfl) (by kernel_rfl) ?_
  refine seq_val (.bool false) 27 rfl (by kernel_rfl) (by kernel_rfl) ?_
  refine seq_val (.bool false) 28 rfl (by kernel_rfl) (by kernel_rfl) ?_
  refine seq_val (.int .i64 n) 29 rfl (by kernel_rfl) (by kernel_rfl) ?_
  refine seq_val (.bool true) 30 rfl (by kernel_rfl) (run_eq (u := .bool (decide (n > 1000))) (by kernel_rfl) (congrArg Value.bool (decide_eq_true (by omega)))) ?_
  refine seq_val (.bool true) 31 rfl (by kernel_rfl) (by kernel_rfl) ?_
  refine seq_val (.int .i64 n) 32 rfl (by kernel_rfl) (by kernel_rfl) ?_
  refine seq_val (.bool false) 33 rfl (by kernel_rfl) (run_eq (u := .bool (decide (n ≤ 8160))) (by kernel_rfl) (congrArg Value.bool (decide_eq_false (by omega)))) ?_
  refine seq_val (.bool false) 34 rfl (by kernel_rfl) (by kernel_rfl) ?_
  refine seq_val (.bool false) 35 rfl (by kernel_rfl) (by kernel_rfl) ?_
  refine seq_nil ?_
  refine hK8 _ _ ?_
  try clear hK8 K8
  refine cond_false (by kernel_rfl) ?_
  refine wp_skip ?_
  refine hK7 _ _ ?_
  try clear hK7 K7
  refine wp_seq_k fun K9 hK9 => ?_
  refine region_lit ?_
  have r4_2 := (row_ext r4_1 e2)
  refine seq_val (.agg (ints .u8 (sec))) 37 rfl (by kernel_rfl) (run_load_row 26 _ g4 26 _ _ r4_2 rfl (by kernel_rfl) (by kernel_rfl) (isz (n := 32) (by kernel_rfl) ((ints_size _ _).trans hsl))) ?_
  refine seq_val (.string s) 38 rfl (by kernel_rfl) (by kernel_rfl) ?_
  refine seq_val (.slice a_ctx ctx.length c_ctx) 39 rfl (by kernel_rfl) (by kernel_rfl) ?_
  refine seq_val (.int .i64 n) 40 rfl (by kernel_rfl) (by kernel_rfl) ?_
  have r1_2 := (row_ext r1_1 e2)
  have r2_2 := (row_ext r2_1 e2)
  refine seq_call (.tuple #[.slice none 0 0, .iface 38 (.int .i64 4)]) 47 #[.agg (ints .u8 (sec)), .string s, .slice a_ctx ctx.length c_ctx, .int .i64 n] 41 rfl (by kernel_rfl) (by kernel_rfl) (labelN sec ctx s _ _ tc tq _ r1_2 r2_2 hsl hsb hxb (RdK.ext hx x2) n he) fun W3 e3 => ?_
  have x3 : Ext w W3 := Ext.tr x2 e3
  refine seq_val (.tuple #[.slice none 0 0, .iface 38 (.int .i64 4)]) 36 rfl (by kernel_rfl) (by kernel_rfl) ?_
  refine seq_val (.slice none 0 0) 42 rfl (by kernel_rfl) (by kernel_rfl) ?_
  refine seq_val (.iface 38 (.int .i64 4)) 43 rfl (by kernel_rfl) (by kernel_rfl) ?_
  refine seq_val (.slice none 0 0) 9 rfl (by kernel_rfl) (by kernel_rfl) ?_
  refine seq_val (.iface 38 (.int .i64 4)) 10 rfl (by kernel_rfl) (by kernel_rfl) ?_
  refine seq_nil ?_
  refine hK9 _ _ ?_
  try clear hK9 K9
  refine wp_seq_k fun K10 hK10 => ?_
  refine region_lit ?_
  have r4_3 := (row_ext r4_2 e3)
  refine seq_val (.agg (ints .u8 (sec))) 45 rfl (by kernel_rfl) (run_load_row 26 _ g4 26 _ _ r4_3 rfl (by kernel_rfl) (by kernel_rfl) (isz (n := 32) (by kernel_rfl) ((ints_size _ _).trans hsl))) ?_
  refine seq_val (.string s) 46 rfl (by kernel_rfl) (by kernel_rfl) ?_
  refine seq_val (.slice a_ctx ctx.length c_ctx) 47 rfl (by kernel_rfl) (by kernel_rfl) ?_
  refine seq_val (.int .i64 n) 48 rfl (by kernel_rfl) (by kernel_rfl) ?_
  refine seq_call (.tuple #[.slice none 0 0, .bool false]) 48 #[.agg (ints .u8 (sec)), .string s, .slice a_ctx ctx.length c_ctx, .int .i64 n] 49 rfl (by kernel_rfl) (by kernel_rfl) (rlabelN sec ctx s _ _ _ hsl hsb hxb (RdK.ext hx x3) n he) fun W4 e4 => ?_
  have x4 : Ext w W4 := Ext.tr x3 e4
  refine seq_val (.tuple #[.slice none 0 0, .bool false]) 44 rfl (by kernel_rfl) (by kernel_rfl) ?_
  refine seq_val (.slice none 0 0) 50 rfl (by kernel_rfl) (by kernel_rfl) ?_
  refine seq_val (.bool false) 51 rfl (by kernel_rfl) (by kernel_rfl) ?_
  refine seq_val (.slice none 0 0) 11 rfl (by kernel_rfl) (by kernel_rfl) ?_
  refine seq_val (.bool false) 12 rfl (by kernel_rfl) (by kernel_rfl) ?_
  refine seq_nil ?_
  refine hK10 _ _ ?_
  try clear hK10 K10
  refine wp_seq_k fun K11 hK11 => ?_
  refine any_region 27 [⟨none, [(9, none)]⟩, ⟨none, [(11, none)]⟩, ⟨none, [(52, some 0), (53, some 1)]⟩, ⟨none, [(54, some 2)]⟩, ⟨some (55, true), [(12, none), (55, some 3)]⟩, ⟨some (55, true), [(56, some 4), (55, some 3)]⟩, ⟨some (57, true), [(10, none), (57, some 5)]⟩, ⟨some (57, true), [(58, some 6), (57, some 5)]⟩, ⟨some (55, true), [(57, some 5), (59, some 7), (55, some 3)]⟩, ⟨some (55, true), [(60, some 8), (55, some 3)]⟩, ⟨some (61, false), [(12, none), (61, some 9)]⟩, ⟨some (61, false), [(62, some 10), (61, some 9)]⟩, ⟨some (61, false), [(63, some 11), (61, some 9)]⟩, ⟨some (64, true), [(10, none), (64, some 12)]⟩, ⟨some (64, true), [(65, some 13), (64, some 12)]⟩, ⟨some (61, false), [(64, some 12), (66, some 14), (61, some 9)]⟩, ⟨some (55, true), [(61, some 9), (67, some 15), (55, some 3)]⟩, ⟨none, [(55, some 3), (68, some 16)]⟩, ⟨none, [(69, some 17)]⟩, ⟨some (70, true), [(4, none), (70, some 18)]⟩, ⟨some (70, true), [(1, none), (70, some 18)]⟩, ⟨some (70, true), [(71, some 19), (72, some 20), (70, some 18)]⟩, ⟨some (70, true), [(4, none), (70, some 18)]⟩, ⟨some (70, true), [(1, none), (70, some 18)]⟩, ⟨some (70, true), [(74, some 22), (75, some 23), (70, some 18)]⟩, ⟨some (70, true), [(73, some 21), (76, some 24), (70, some 18)]⟩, ⟨none, [(70, some 18), (77, some 25)]⟩] (by kernel_rfl) (by kernel_rfl) fun F hF => ?_
  refine any_val (.slice none 0 0) (by kernel_rfl) (by kernel_rfl) (fun W => by kernel_rfl) ?_
  refine any_val (.slice none 0 0) (by kernel_rfl) (by kernel_rfl) (fun W => by kernel_rfl) ?_
  refine any_call (.bool true) 21 #[.slice none 0 0, .slice none 0 0] (by kernel_rfl) (by kernel_rfl) (fun W => by kernel_rfl) (fun W hR => (fun W hR => sameT _ _ ([]) W (BytesAt.ext (nil_bytes _) (Rely.Ext.trans (ext_drew _) hR)) (BytesAt.ext (nil_bytes _) (Rely.Ext.trans (ext_drew _) hR))) W hR) ?_
  refine any_val (.bool true) (by kernel_rfl) (by kernel_rfl) (fun W => by kernel_rfl) ?_
  refine any_val (.bool false) (by kernel_rfl) (by kernel_rfl) (fun W => by kernel_rfl) ?_
  refine any_val (.bool false) (by kernel_rfl) (by kernel_rfl) (fun W => by kernel_rfl) ?_
  refine any_skip (by kernel_rfl) (by kernel_rfl) ?_
  refine any_skip (by kernel_rfl) (by kernel_rfl) ?_
  refine any_val (.bool false) (by kernel_rfl) (by kernel_rfl) (fun W => by kernel_rfl) ?_
  refine any_val (.bool false) (by kernel_rfl) (by kernel_rfl) (fun W => by kernel_rfl) ?_
  refine any_val (.bool false) (by kernel_rfl) (by kernel_rfl) (fun W => by kernel_rfl) ?_
  refine any_val (.bool true) (by kernel_rfl) (by kernel_rfl) (fun W => by kernel_rfl) ?_
  refine any_val (.bool true) (by kernel_rfl) (by kernel_rfl) (fun W => by kernel_rfl) ?_
  refine any_val (.iface 38 (.int .i64 4)) (by kernel_rfl) (by kernel_rfl) (fun W => by kernel_rfl) ?_
  refine any_call (.bool true) 22 #[.iface 38 (.int .i64 4), .int .i64 4] (by kernel_rfl) (by kernel_rfl) (fun W => by kernel_rfl) (fun W hR => (is4) W) ?_
  refine any_val (.bool true) (by kernel_rfl) (by kernel_rfl) (fun W => by kernel_rfl) ?_
  refine any_val (.bool true) (by kernel_rfl) (by kernel_rfl) (fun W => by kernel_rfl) ?_
  refine any_val (.bool true) (by kernel_rfl) (by kernel_rfl) (fun W => by kernel_rfl) ?_
  refine any_val (.bool true) (by kernel_rfl) (by kernel_rfl) (fun W => by kernel_rfl) ?_
  have r4_4 := (row_ext r4_3 e4)
  refine any_read (.agg (ints .u8 (sec))) (by kernel_rfl) (by kernel_rfl) (fun W hR => (run_load_row 26 _ g4 26 _ _ (row_ext (row_ext r4_4 (ext_drew _)) hR) rfl (by kernel_rfl) (by kernel_rfl) (isz (n := 32) (by kernel_rfl) ((ints_size _ _).trans hsl)))) ?_
  refine any_val (.string s) (by kernel_rfl) (by kernel_rfl) (fun W => by kernel_rfl) ?_
  have r1_3 := (row_ext r1_2 e3)
  have r1_4 := (row_ext r1_3 e4)
  have r2_3 := (row_ext r2_2 e3)
  have r2_4 := (row_ext r2_3 e4)
  refine any_call (.agg (ints .u8 (deriveV sec (strB s)))) 49 #[.agg (ints .u8 (sec)), .string s] (by kernel_rfl) (by kernel_rfl) (fun W => by kernel_rfl) (fun W hR => deriveC sec s tc tq W (row_ext (row_ext r1_4 (ext_drew _)) hR) (row_ext (row_ext r2_4 (ext_drew _)) hR) hsl hsb) ?_
  refine any_read (.agg (ints .u8 (sec))) (by kernel_rfl) (by kernel_rfl) (fun W hR => (run_load_row 26 _ g4 26 _ _ (row_ext (row_ext r4_4 (ext_drew _)) hR) rfl (by kernel_rfl) (by kernel_rfl) (isz (n := 32) (by kernel_rfl) ((ints_size _ _).trans hsl)))) ?_
  refine any_val (.string s) (by kernel_rfl) (by kernel_rfl) (fun W => by kernel_rfl) ?_
  refine any_call (.agg (ints .u8 (deriveV sec (strB s)))) 50 #[.agg (ints .u8 (sec)), .string s] (by kernel_rfl) (by kernel_rfl) (fun W => by kernel_rfl) (fun W hR => (fun W => rderiveC sec s W hsl hsb) W) ?_
  refine any_val (.bool true) (by kernel_rfl) (by kernel_rfl) (fun W => (run_eql_agg 26 _ _ _ _ _ (.bool true) rfl (by kernel_rfl) (by kernel_rfl) (by kernel_rfl) (eql_lists 26 (e := 5) (k := .u8) (deriveV sec (strB s)) (deriveV sec (strB s)) (decide_eq_true rfl) (deriveV_len _ _) (deriveV_len _ _) (by kernel_rfl) (by kernel_rfl) (by kernel_rfl) _))) ?_
  refine any_val (.bool true) (by kernel_rfl) (by kernel_rfl) (fun W => by kernel_rfl) ?_
  refine steps_nil (hF _ (by kernel_rfl) fun W5 e5 => ?_)
  simp only [ups, up, Kn.val, List.take_succ_cons, List.take_zero, List.drop_succ_cons, List.drop_zero, List.nil_append, List.cons_append]
  clear hF
  have x5 : Ext w W5 := Ext.tr x4 e5
  refine seq_val (.bool true) 8 rfl (by kernel_rfl) (by kernel_rfl) ?_
  refine seq_nil ?_
  refine hK11 _ _ ?_
  try clear hK11 K11
  refine wp_ret ?_
  repeat (first | with_reducible refine goR1 ?_ | with_reducible refine goR2 ?_)
  exact (show bodyPost _ _ _ .ret _ _ from ret1 (.bool true) rfl (res_tmp (by kernel_rfl)) ⟨rfl, x5⟩)
set_option maxHeartbeats 4000000 in
theorem labels_Els (sec ctx : List Int) (s : ByteArray) (v2 : Value) (B2 : Nat) (tc tq : TypeId) (w : World) (hc : w.heap[1]? = some (.cells (ints .u64 cubesI) tc)) (hq : w.heap[0]? = some (.cells (ints .u64 squaresI) tq)) (hsl : sec.length = 32) (hsb : AreBytes sec) (hxb : AreBytes ctx) (hx : RdK .u8 B2 ctx v2 w) (n : Int) (h1 : (strB s).length ≤ 1000) (h2 : 65536 < ctx.length) (h3 : n ≤ 1000) (he : n < 0 ∨ 8160 < n ∨ 255 < (strB s).length ∨ 65536 < ctx.length) : Calls Tryd.prog 24 #[.agg (ints .u8 sec), .string s, v2, .int .i64 n] w (Ret w (.bool true)) := by
  obtain ⟨a_ctx, c_ctx, rfl, -⟩ := id hx
  refine enter 79 [(0, .agg (ints .u8 (sec))), (1, .string s), (2, .slice a_ctx ctx.length c_ctx), (3, .int .i64 n)] Tryd.func24 rfl rfl (by kernel_rfl) rfl ?_
  refine wp_seq_k fun K3 hK3 => ?_
  refine region_lit ?_
  refine seq_alloc (ints .u8 (sec)) 26 4 rfl (by kernel_rfl) (by kernel_rfl) fun g4 W1 l4 e1 r4_1 => ?_
  have x1 : Ext w W1 := Ext.tr (Rely.Ext.refl w) e1
  have b4 : w.heap.size ≤ g4 := Nat.le_trans (Rely.Ext.refl w).size l4
  refine seq_val (.bool false) 8 rfl (by kernel_rfl) (by kernel_rfl) ?_
  refine seq_nil ?_
  refine hK3 _ _ ?_
  try clear hK3 K3
  refine wp_seq_k fun K5 hK5 => ?_
  refine wp_seq_k fun K6 hK6 => ?_
  refine region_lit ?_
  have r1_1 := (row_ext hc e1)
  have r2_1 := (row_ext hq e1)
  refine seq_call (.bool true) 13 #[] 13 rfl (by kernel_rfl) (by kernel_rfl) (alive02 tc tq _ r1_1 r2_1) fun W2 e2 => ?_
  have x2 : Ext w W2 := Ext.tr x1 e2
  refine seq_val (.bool false) 14 rfl (by kernel_rfl) (by kernel_rfl) ?_
  refine seq_nil ?_
  refine hK6 _ _ ?_
  try clear hK6 K6
  refine cond_false (by kernel_rfl) ?_
  refine wp_skip ?_
  refine hK5 _ _ ?_
  try clear hK5 K5
  refine wp_seq_k fun K7 hK7 => ?_
  refine wp_seq_k fun K8 hK8 => ?_
  refine region_lit ?_
  refine seq_val (.string s) 15 rfl (by kernel_rfl) (by kernel_rfl) ?_
  refine seq_val (.int .i64 (((strB s).length : Nat) : Int)) 16 rfl (by kernel_rfl) (run_eq (u := .int .i64 ((s.size : Nat) : Int)) (by kernel_rfl) (congrArg (fun z : Nat => Value.int .i64 (z : Int)) (strB_len s).symm)) ?_
  refine seq_val (.bool false) 17 rfl (by kernel_rfl) (run_eq (u := .bool (decide ((((strB s).length : Nat) : Int) > 1000))) (by kernel_rfl) (congrArg Value.bool (decide_eq_false (by omega)))) ?_
  refine seq_val (.bool false) 18 rfl (by kernel_rfl) (by kernel_rfl) ?_
  refine seq_val (.slice a_ctx ctx.length c_ctx) 19 rfl (by kernel_rfl) (by kernel_rfl) ?_
  refine seq_val (.int .i64 ((ctx.length : Nat) : Int)) 20 rfl (by kernel_rfl) (by kernel_rfl) ?_
  refine seq_val (.bool true) 21 rfl (by kernel_rfl) (run_eq (u := .bool (decide (((ctx.length : Nat) : Int) > 1000))) (by kernel_rfl) (congrArg Value.bool (decide_eq_true (by omega)))) ?_
  refine seq_val (.bool true) 22 rfl (by kernel_rfl) (by kernel_rfl) ?_
  refine seq_val (.slice a_ctx ctx.length c_ctx) 23 rfl (by kernel_rfl) (by kernel_rfl) ?_
  refine seq_val (.int .i64 ((ctx.length : Nat) : Int)) 24 rfl (by kernel_rfl) (by kernel_rfl) ?_
  refine seq_val (.bool false) 25 rfl (by kernel_rfl) (run_eq (u := .bool (decide (((ctx.length : Nat) : Int) ≤ 65536))) (by kernel_rfl) (congrArg Value.bool (decide_eq_false (by omega)))) ?_
  refine seq_val (.bool false) 26 rfl (by kernel_rfl) (by kernel_rfl) ?_
  refine seq_val (.bool false) 27 rfl (by kernel_rfl) (by kernel_rfl) ?_
  refine seq_val (.bool false) 28 rfl (by kernel_rfl) (by kernel_rfl) ?_
  refine seq_val (.int .i64 n) 29 rfl (by kernel_rfl) (by kernel_rfl) ?_
  refine seq_val (.bool false) 30 rfl (by kernel_rfl) (run_eq (u := .bool (decide (n > 1000))) (by kernel_rfl) (congrArg Value.bool (decide_eq_false (by omega)))) ?_
  refine seq_val (.bool false) 31 rfl (by kernel_rfl) (by kernel_rfl) ?_
  refine seq_skip 32 rfl (by kernel_rfl) ?_
  refine seq_skip 33 rfl (by kernel_rfl) ?_
  refine seq_val (.bool false) 34 rfl (by kernel_rfl) (by kernel_rfl) ?_
  refine seq_val (.bool false) 35 rfl (by kernel_rfl) (by kernel_rfl) ?_
  refine seq_nil ?_
  refine hK8 _ _ ?_
  try clear hK8 K8
  refine cond_false (by kernel_rfl) ?_
  refine wp_skip ?_
  refine hK7 _ _ ?_
  try clear hK7 K7
  refine wp_seq_k fun K9 hK9 => ?_
  refine region_lit ?_
  have r4_2 := (row_ext r4_1 e2)
  refine seq_val (.agg (ints .u8 (sec))) 37 rfl (by kernel_rfl) (run_load_row 26 _ g4 26 _ _ r4_2 rfl (by kernel_rfl) (by kernel_rfl) (isz (n := 32) (by kernel_rfl) ((ints_size _ _).trans hsl))) ?_
  refine seq_val (.string s) 38 rfl (by kernel_rfl) (by kernel_rfl) ?_
  refine seq_val (.slice a_ctx ctx.length c_ctx) 39 rfl (by kernel_rfl) (by kernel_rfl) ?_
  refine seq_val (.int .i64 n) 40 rfl (by kernel_rfl) (by kernel_rfl) ?_
  have r1_2 := (row_ext r1_1 e2)
  have r2_2 := (row_ext r2_1 e2)
  refine seq_call (.tuple #[.slice none 0 0, .iface 38 (.int .i64 4)]) 47 #[.agg (ints .u8 (sec)), .string s, .slice a_ctx ctx.length c_ctx, .int .i64 n] 41 rfl (by kernel_rfl) (by kernel_rfl) (labelN sec ctx s _ _ tc tq _ r1_2 r2_2 hsl hsb hxb (RdK.ext hx x2) n he) fun W3 e3 => ?_
  have x3 : Ext w W3 := Ext.tr x2 e3
  refine seq_val (.tuple #[.slice none 0 0, .iface 38 (.int .i64 4)]) 36 rfl (by kernel_rfl) (by kernel_rfl) ?_
  refine seq_val (.slice none 0 0) 42 rfl (by kernel_rfl) (by kernel_rfl) ?_
  refine seq_val (.iface 38 (.int .i64 4)) 43 rfl (by kernel_rfl) (by kernel_rfl) ?_
  refine seq_val (.slice none 0 0) 9 rfl (by kernel_rfl) (by kernel_rfl) ?_
  refine seq_val (.iface 38 (.int .i64 4)) 10 rfl (by kernel_rfl) (by kernel_rfl) ?_
  refine seq_nil ?_
  refine hK9 _ _ ?_
  try clear hK9 K9
  refine wp_seq_k fun K10 hK10 => ?_
  refine region_lit ?_
  have r4_3 := (row_ext r4_2 e3)
  refine seq_val (.agg (ints .u8 (sec))) 45 rfl (by kernel_rfl) (run_load_row 26 _ g4 26 _ _ r4_3 rfl (by kernel_rfl) (by kernel_rfl) (isz (n := 32) (by kernel_rfl) ((ints_size _ _).trans hsl))) ?_
  refine seq_val (.string s) 46 rfl (by kernel_rfl) (by kernel_rfl) ?_
  refine seq_val (.slice a_ctx ctx.length c_ctx) 47 rfl (by kernel_rfl) (by kernel_rfl) ?_
  refine seq_val (.int .i64 n) 48 rfl (by kernel_rfl) (by kernel_rfl) ?_
  refine seq_call (.tuple #[.slice none 0 0, .bool false]) 48 #[.agg (ints .u8 (sec)), .string s, .slice a_ctx ctx.length c_ctx, .int .i64 n] 49 rfl (by kernel_rfl) (by kernel_rfl) (rlabelN sec ctx s _ _ _ hsl hsb hxb (RdK.ext hx x3) n he) fun W4 e4 => ?_
  have x4 : Ext w W4 := Ext.tr x3 e4
  refine seq_val (.tuple #[.slice none 0 0, .bool false]) 44 rfl (by kernel_rfl) (by kernel_rfl) ?_
  refine seq_val (.slice none 0 0) 50 rfl (by kernel_rfl) (by kernel_rfl) ?_
  refine seq_val (.bool false) 51 rfl (by kernel_rfl) (by kernel_rfl) ?_
  refine seq_val (.slice none 0 0) 11 rfl (by kernel_rfl) (by kernel_rfl) ?_
  refine seq_val (.bool false) 12 rfl (by kernel_rfl) (by kernel_rfl) ?_
  refine seq_nil ?_
  refine hK10 _ _ ?_
  try clear hK10 K10
  refine wp_seq_k fun K11 hK11 => ?_
  refine any_region 27 [⟨none, [(9, none)]⟩, ⟨none, [(11, none)]⟩, ⟨none, [(52, some 0), (53, some 1)]⟩, ⟨none, [(54, some 2)]⟩, ⟨some (55, true), [(12, none), (55, some 3)]⟩, ⟨some (55, true), [(56, some 4), (55, some 3)]⟩, ⟨some (57, true), [(10, none), (57, some 5)]⟩, ⟨some (57, true), [(58, some 6), (57, some 5)]⟩, ⟨some (55, true), [(57, some 5), (59, some 7), (55, some 3)]⟩, ⟨some (55, true), [(60, some 8), (55, some 3)]⟩, ⟨some (61, false), [(12, none), (61, some 9)]⟩, ⟨some (61, false), [(62, some 10), (61, some 9)]⟩, ⟨some (61, false), [(63, some 11), (61, some 9)]⟩, ⟨some (64, true), [(10, none), (64, some 12)]⟩, ⟨some (64, true), [(65, some 13), (64, some 12)]⟩, ⟨some (61, false), [(64, some 12), (66, some 14), (61, some 9)]⟩, ⟨some (55, true), [(61, some 9), (67, some 15), (55, some 3)]⟩, ⟨none, [(55, some 3), (68, some 16)]⟩, ⟨none, [(69, some 17)]⟩, ⟨some (70, true), [(4, none), (70, some 18)]⟩, ⟨some (70, true), [(1, none), (70, some 18)]⟩, ⟨some (70, true), [(71, some 19), (72, some 20), (70, some 18)]⟩, ⟨some (70, true), [(4, none), (70, some 18)]⟩, ⟨some (70, true), [(1, none), (70, some 18)]⟩, ⟨some (70, true), [(74, some 22), (75, some 23), (70, some 18)]⟩, ⟨some (70, true), [(73, some 21), (76, some 24), (70, some 18)]⟩, ⟨none, [(70, some 18), (77, some 25)]⟩] (by kernel_rfl) (by kernel_rfl) fun F hF => ?_
  refine any_val (.slice none 0 0) (by kernel_rfl) (by kernel_rfl) (fun W => by kernel_rfl) ?_
  refine any_val (.slice none 0 0) (by kernel_rfl) (by kernel_rfl) (fun W => by kernel_rfl) ?_
  refine any_call (.bool true) 21 #[.slice none 0 0, .slice none 0 0] (by kernel_rfl) (by kernel_rfl) (fun W => by kernel_rfl) (fun W hR => (fun W hR => sameT _ _ ([]) W (BytesAt.ext (nil_bytes _) (Rely.Ext.trans (ext_drew _) hR)) (BytesAt.ext (nil_bytes _) (Rely.Ext.trans (ext_drew _) hR))) W hR) ?_
  refine any_val (.bool true) (by kernel_rfl) (by kernel_rfl) (fun W => by kernel_rfl) ?_
  refine any_val (.bool false) (by kernel_rfl) (by kernel_rfl) (fun W => by kernel_rfl) ?_
  refine any_val (.bool false) (by kernel_rfl) (by kernel_rfl) (fun W => by kernel_rfl) ?_
  refine any_skip (by kernel_rfl) (by kernel_rfl) ?_
  refine any_skip (by kernel_rfl) (by kernel_rfl) ?_
  refine any_val (.bool false) (by kernel_rfl) (by kernel_rfl) (fun W => by kernel_rfl) ?_
  refine any_val (.bool false) (by kernel_rfl) (by kernel_rfl) (fun W => by kernel_rfl) ?_
  refine any_val (.bool false) (by kernel_rfl) (by kernel_rfl) (fun W => by kernel_rfl) ?_
  refine any_val (.bool true) (by kernel_rfl) (by kernel_rfl) (fun W => by kernel_rfl) ?_
  refine any_val (.bool true) (by kernel_rfl) (by kernel_rfl) (fun W => by kernel_rfl) ?_
  refine any_val (.iface 38 (.int .i64 4)) (by kernel_rfl) (by kernel_rfl) (fun W => by kernel_rfl) ?_
  refine any_call (.bool true) 22 #[.iface 38 (.int .i64 4), .int .i64 4] (by kernel_rfl) (by kernel_rfl) (fun W => by kernel_rfl) (fun W hR => (is4) W) ?_
  refine any_val (.bool true) (by kernel_rfl) (by kernel_rfl) (fun W => by kernel_rfl) ?_
  refine any_val (.bool true) (by kernel_rfl) (by kernel_rfl) (fun W => by kernel_rfl) ?_
  refine any_val (.bool true) (by kernel_rfl) (by kernel_rfl) (fun W => by kernel_rfl) ?_
  refine any_val (.bool true) (by kernel_rfl) (by kernel_rfl) (fun W => by kernel_rfl) ?_
  have r4_4 := (row_ext r4_3 e4)
  refine any_read (.agg (ints .u8 (sec))) (by kernel_rfl) (by kernel_rfl) (fun W hR => (run_load_row 26 _ g4 26 _ _ (row_ext (row_ext r4_4 (ext_drew _)) hR) rfl (by kernel_rfl) (by kernel_rfl) (isz (n := 32) (by kernel_rfl) ((ints_size _ _).trans hsl)))) ?_
  refine any_val (.string s) (by kernel_rfl) (by kernel_rfl) (fun W => by kernel_rfl) ?_
  have r1_3 := (row_ext r1_2 e3)
  have r1_4 := (row_ext r1_3 e4)
  have r2_3 := (row_ext r2_2 e3)
  have r2_4 := (row_ext r2_3 e4)
  refine any_call (.agg (ints .u8 (deriveV sec (strB s)))) 49 #[.agg (ints .u8 (sec)), .string s] (by kernel_rfl) (by kernel_rfl) (fun W => by kernel_rfl) (fun W hR => deriveC sec s tc tq W (row_ext (row_ext r1_4 (ext_drew _)) hR) (row_ext (row_ext r2_4 (ext_drew _)) hR) hsl hsb) ?_
  refine any_read (.agg (ints .u8 (sec))) (by kernel_rfl) (by kernel_rfl) (fun W hR => (run_load_row 26 _ g4 26 _ _ (row_ext (row_ext r4_4 (ext_drew _)) hR) rfl (by kernel_rfl) (by kernel_rfl) (isz (n := 32) (by kernel_rfl) ((ints_size _ _).trans hsl)))) ?_
  refine any_val (.string s) (by kernel_rfl) (by kernel_rfl) (fun W => by kernel_rfl) ?_
  refine any_call (.agg (ints .u8 (deriveV sec (strB s)))) 50 #[.agg (ints .u8 (sec)), .string s] (by kernel_rfl) (by kernel_rfl) (fun W => by kernel_rfl) (fun W hR => (fun W => rderiveC sec s W hsl hsb) W) ?_
  refine any_val (.bool true) (by kernel_rfl) (by kernel_rfl) (fun W => (run_eql_agg 26 _ _ _ _ _ (.bool true) rfl (by kernel_rfl) (by kernel_rfl) (by kernel_rfl) (eql_lists 26 (e := 5) (k := .u8) (deriveV sec (strB s)) (deriveV sec (strB s)) (decide_eq_true rfl) (deriveV_len _ _) (deriveV_len _ _) (by kernel_rfl) (by kernel_rfl) (by kernel_rfl) _))) ?_
  refine any_val (.bool true) (by kernel_rfl) (by kernel_rfl) (fun W => by kernel_rfl) ?_
  refine steps_nil (hF _ (by kernel_rfl) fun W5 e5 => ?_)
  simp only [ups, up, Kn.val, List.take_succ_cons, List.take_zero, List.drop_succ_cons, List.drop_zero, List.nil_append, List.cons_append]
  clear hF
  have x5 : Ext w W5 := Ext.tr x4 e5
  refine seq_val (.bool true) 8 rfl (by kernel_rfl) (by kernel_rfl) ?_
  refine seq_nil ?_
  refine hK11 _ _ ?_
  try clear hK11 K11
  refine wp_ret ?_
  repeat (first | with_reducible refine goR1 ?_ | with_reducible refine goR2 ?_)
  exact (show bodyPost _ _ _ .ret _ _ from ret1 (.bool true) rfl (res_tmp (by kernel_rfl)) ⟨rfl, x5⟩)
set_option maxHeartbeats 4000000 in
theorem labels_Ell (sec ctx : List Int) (s : ByteArray) (v2 : Value) (B2 : Nat) (tc tq : TypeId) (w : World) (hc : w.heap[1]? = some (.cells (ints .u64 cubesI) tc)) (hq : w.heap[0]? = some (.cells (ints .u64 squaresI) tq)) (hsl : sec.length = 32) (hsb : AreBytes sec) (hxb : AreBytes ctx) (hx : RdK .u8 B2 ctx v2 w) (n : Int) (h1 : (strB s).length ≤ 1000) (h2 : 65536 < ctx.length) (h3 : 8160 < n) (he : n < 0 ∨ 8160 < n ∨ 255 < (strB s).length ∨ 65536 < ctx.length) : Calls Tryd.prog 24 #[.agg (ints .u8 sec), .string s, v2, .int .i64 n] w (Ret w (.bool true)) := by
  obtain ⟨a_ctx, c_ctx, rfl, -⟩ := id hx
  refine enter 79 [(0, .agg (ints .u8 (sec))), (1, .string s), (2, .slice a_ctx ctx.length c_ctx), (3, .int .i64 n)] Tryd.func24 rfl rfl (by kernel_rfl) rfl ?_
  refine wp_seq_k fun K3 hK3 => ?_
  refine region_lit ?_
  refine seq_alloc (ints .u8 (sec)) 26 4 rfl (by kernel_rfl) (by kernel_rfl) fun g4 W1 l4 e1 r4_1 => ?_
  have x1 : Ext w W1 := Ext.tr (Rely.Ext.refl w) e1
  have b4 : w.heap.size ≤ g4 := Nat.le_trans (Rely.Ext.refl w).size l4
  refine seq_val (.bool false) 8 rfl (by kernel_rfl) (by kernel_rfl) ?_
  refine seq_nil ?_
  refine hK3 _ _ ?_
  try clear hK3 K3
  refine wp_seq_k fun K5 hK5 => ?_
  refine wp_seq_k fun K6 hK6 => ?_
  refine region_lit ?_
  have r1_1 := (row_ext hc e1)
  have r2_1 := (row_ext hq e1)
  refine seq_call (.bool true) 13 #[] 13 rfl (by kernel_rfl) (by kernel_rfl) (alive02 tc tq _ r1_1 r2_1) fun W2 e2 => ?_
  have x2 : Ext w W2 := Ext.tr x1 e2
  refine seq_val (.bool false) 14 rfl (by kernel_rfl) (by kernel_rfl) ?_
  refine seq_nil ?_
  refine hK6 _ _ ?_
  try clear hK6 K6
  refine cond_false (by kernel_rfl) ?_
  refine wp_skip ?_
  refine hK5 _ _ ?_
  try clear hK5 K5
  refine wp_seq_k fun K7 hK7 => ?_
  refine wp_seq_k fun K8 hK8 => ?_
  refine region_lit ?_
  refine seq_val (.string s) 15 rfl (by kernel_rfl) (by kernel_rfl) ?_
  refine seq_val (.int .i64 (((strB s).length : Nat) : Int)) 16 rfl (by kernel_rfl) (run_eq (u := .int .i64 ((s.size : Nat) : Int)) (by kernel_rfl) (congrArg (fun z : Nat => Value.int .i64 (z : Int)) (strB_len s).symm)) ?_
  refine seq_val (.bool false) 17 rfl (by kernel_rfl) (run_eq (u := .bool (decide ((((strB s).length : Nat) : Int) > 1000))) (by kernel_rfl) (congrArg Value.bool (decide_eq_false (by omega)))) ?_
  refine seq_val (.bool false) 18 rfl (by kernel_rfl) (by kernel_rfl) ?_
  refine seq_val (.slice a_ctx ctx.length c_ctx) 19 rfl (by kernel_rfl) (by kernel_rfl) ?_
  refine seq_val (.int .i64 ((ctx.length : Nat) : Int)) 20 rfl (by kernel_rfl) (by kernel_rfl) ?_
  refine seq_val (.bool true) 21 rfl (by kernel_rfl) (run_eq (u := .bool (decide (((ctx.length : Nat) : Int) > 1000))) (by kernel_rfl) (congrArg Value.bool (decide_eq_true (by omega)))) ?_
  refine seq_val (.bool true) 22 rfl (by kernel_rfl) (by kernel_rfl) ?_
  refine seq_val (.slice a_ctx ctx.length c_ctx) 23 rfl (by kernel_rfl) (by kernel_rfl) ?_
  refine seq_val (.int .i64 ((ctx.length : Nat) : Int)) 24 rfl (by kernel_rfl) (by kernel_rfl) ?_
  refine seq_val (.bool false) 25 rfl (by kernel_rfl) (run_eq (u := .bool (decide (((ctx.length : Nat) : Int) ≤ 65536))) (by kernel_rfl) (congrArg Value.bool (decide_eq_false (by omega)))) ?_
  refine seq_val (.bool false) 26 rfl (by kernel_rfl) (by kernel_rfl) ?_
  refine seq_val (.bool false) 27 rfl (by kernel_rfl) (by kernel_rfl) ?_
  refine seq_val (.bool false) 28 rfl (by kernel_rfl) (by kernel_rfl) ?_
  refine seq_val (.int .i64 n) 29 rfl (by kernel_rfl) (by kernel_rfl) ?_
  refine seq_val (.bool true) 30 rfl (by kernel_rfl) (run_eq (u := .bool (decide (n > 1000))) (by kernel_rfl) (congrArg Value.bool (decide_eq_true (by omega)))) ?_
  refine seq_val (.bool true) 31 rfl (by kernel_rfl) (by kernel_rfl) ?_
  refine seq_val (.int .i64 n) 32 rfl (by kernel_rfl) (by kernel_rfl) ?_
  refine seq_val (.bool false) 33 rfl (by kernel_rfl) (run_eq (u := .bool (decide (n ≤ 8160))) (by kernel_rfl) (congrArg Value.bool (decide_eq_false (by omega)))) ?_
  refine seq_val (.bool false) 34 rfl (by kernel_rfl) (by kernel_rfl) ?_
  refine seq_val (.bool false) 35 rfl (by kernel_rfl) (by kernel_rfl) ?_
  refine seq_nil ?_
  refine hK8 _ _ ?_
  try clear hK8 K8
  refine cond_false (by kernel_rfl) ?_
  refine wp_skip ?_
  refine hK7 _ _ ?_
  try clear hK7 K7
  refine wp_seq_k fun K9 hK9 => ?_
  refine region_lit ?_
  have r4_2 := (row_ext r4_1 e2)
  refine seq_val (.agg (ints .u8 (sec))) 37 rfl (by kernel_rfl) (run_load_row 26 _ g4 26 _ _ r4_2 rfl (by kernel_rfl) (by kernel_rfl) (isz (n := 32) (by kernel_rfl) ((ints_size _ _).trans hsl))) ?_
  refine seq_val (.string s) 38 rfl (by kernel_rfl) (by kernel_rfl) ?_
  refine seq_val (.slice a_ctx ctx.length c_ctx) 39 rfl (by kernel_rfl) (by kernel_rfl) ?_
  refine seq_val (.int .i64 n) 40 rfl (by kernel_rfl) (by kernel_rfl) ?_
  have r1_2 := (row_ext r1_1 e2)
  have r2_2 := (row_ext r2_1 e2)
  refine seq_call (.tuple #[.slice none 0 0, .iface 38 (.int .i64 4)]) 47 #[.agg (ints .u8 (sec)), .string s, .slice a_ctx ctx.length c_ctx, .int .i64 n] 41 rfl (by kernel_rfl) (by kernel_rfl) (labelN sec ctx s _ _ tc tq _ r1_2 r2_2 hsl hsb hxb (RdK.ext hx x2) n he) fun W3 e3 => ?_
  have x3 : Ext w W3 := Ext.tr x2 e3
  refine seq_val (.tuple #[.slice none 0 0, .iface 38 (.int .i64 4)]) 36 rfl (by kernel_rfl) (by kernel_rfl) ?_
  refine seq_val (.slice none 0 0) 42 rfl (by kernel_rfl) (by kernel_rfl) ?_
  refine seq_val (.iface 38 (.int .i64 4)) 43 rfl (by kernel_rfl) (by kernel_rfl) ?_
  refine seq_val (.slice none 0 0) 9 rfl (by kernel_rfl) (by kernel_rfl) ?_
  refine seq_val (.iface 38 (.int .i64 4)) 10 rfl (by kernel_rfl) (by kernel_rfl) ?_
  refine seq_nil ?_
  refine hK9 _ _ ?_
  try clear hK9 K9
  refine wp_seq_k fun K10 hK10 => ?_
  refine region_lit ?_
  have r4_3 := (row_ext r4_2 e3)
  refine seq_val (.agg (ints .u8 (sec))) 45 rfl (by kernel_rfl) (run_load_row 26 _ g4 26 _ _ r4_3 rfl (by kernel_rfl) (by kernel_rfl) (isz (n := 32) (by kernel_rfl) ((ints_size _ _).trans hsl))) ?_
  refine seq_val (.string s) 46 rfl (by kernel_rfl) (by kernel_rfl) ?_
  refine seq_val (.slice a_ctx ctx.length c_ctx) 47 rfl (by kernel_rfl) (by kernel_rfl) ?_
  refine seq_val (.int .i64 n) 48 rfl (by kernel_rfl) (by kernel_rfl) ?_
  refine seq_call (.tuple #[.slice none 0 0, .bool false]) 48 #[.agg (ints .u8 (sec)), .string s, .slice a_ctx ctx.length c_ctx, .int .i64 n] 49 rfl (by kernel_rfl) (by kernel_rfl) (rlabelN sec ctx s _ _ _ hsl hsb hxb (RdK.ext hx x3) n he) fun W4 e4 => ?_
  have x4 : Ext w W4 := Ext.tr x3 e4
  refine seq_val (.tuple #[.slice none 0 0, .bool false]) 44 rfl (by kernel_rfl) (by kernel_rfl) ?_
  refine seq_val (.slice none 0 0) 50 rfl (by kernel_rfl) (by kernel_rfl) ?_
  refine seq_val (.bool false) 51 rfl (by kernel_rfl) (by kernel_rfl) ?_
  refine seq_val (.slice none 0 0) 11 rfl (by kernel_rfl) (by kernel_rfl) ?_
  refine seq_val (.bool false) 12 rfl (by kernel_rfl) (by kernel_rfl) ?_
  refine seq_nil ?_
  refine hK10 _ _ ?_
  try clear hK10 K10
  refine wp_seq_k fun K11 hK11 => ?_
  refine any_region 27 [⟨none, [(9, none)]⟩, ⟨none, [(11, none)]⟩, ⟨none, [(52, some 0), (53, some 1)]⟩, ⟨none, [(54, some 2)]⟩, ⟨some (55, true), [(12, none), (55, some 3)]⟩, ⟨some (55, true), [(56, some 4), (55, some 3)]⟩, ⟨some (57, true), [(10, none), (57, some 5)]⟩, ⟨some (57, true), [(58, some 6), (57, some 5)]⟩, ⟨some (55, true), [(57, some 5), (59, some 7), (55, some 3)]⟩, ⟨some (55, true), [(60, some 8), (55, some 3)]⟩, ⟨some (61, false), [(12, none), (61, some 9)]⟩, ⟨some (61, false), [(62, some 10), (61, some 9)]⟩, ⟨some (61, false), [(63, some 11), (61, some 9)]⟩, ⟨some (64, true), [(10, none), (64, some 12)]⟩, ⟨some (64, true), [(65, some 13), (64, some 12)]⟩, ⟨some (61, false), [(64, some 12), (66, some 14), (61, some 9)]⟩, ⟨some (55, true), [(61, some 9), (67, some 15), (55, some 3)]⟩, ⟨none, [(55, some 3), (68, some 16)]⟩, ⟨none, [(69, some 17)]⟩, ⟨some (70, true), [(4, none), (70, some 18)]⟩, ⟨some (70, true), [(1, none), (70, some 18)]⟩, ⟨some (70, true), [(71, some 19), (72, some 20), (70, some 18)]⟩, ⟨some (70, true), [(4, none), (70, some 18)]⟩, ⟨some (70, true), [(1, none), (70, some 18)]⟩, ⟨some (70, true), [(74, some 22), (75, some 23), (70, some 18)]⟩, ⟨some (70, true), [(73, some 21), (76, some 24), (70, some 18)]⟩, ⟨none, [(70, some 18), (77, some 25)]⟩] (by kernel_rfl) (by kernel_rfl) fun F hF => ?_
  refine any_val (.slice none 0 0) (by kernel_rfl) (by kernel_rfl) (fun W => by kernel_rfl) ?_
  refine any_val (.slice none 0 0) (by kernel_rfl) (by kernel_rfl) (fun W => by kernel_rfl) ?_
  refine any_call (.bool true) 21 #[.slice none 0 0, .slice none 0 0] (by kernel_rfl) (by kernel_rfl) (fun W => by kernel_rfl) (fun W hR => (fun W hR => sameT _ _ ([]) W (BytesAt.ext (nil_bytes _) (Rely.Ext.trans (ext_drew _) hR)) (BytesAt.ext (nil_bytes _) (Rely.Ext.trans (ext_drew _) hR))) W hR) ?_
  refine any_val (.bool true) (by kernel_rfl) (by kernel_rfl) (fun W => by kernel_rfl) ?_
  refine any_val (.bool false) (by kernel_rfl) (by kernel_rfl) (fun W => by kernel_rfl) ?_
  refine any_val (.bool false) (by kernel_rfl) (by kernel_rfl) (fun W => by kernel_rfl) ?_
  refine any_skip (by kernel_rfl) (by kernel_rfl) ?_
  refine any_skip (by kernel_rfl) (by kernel_rfl) ?_
  refine any_val (.bool false) (by kernel_rfl) (by kernel_rfl) (fun W => by kernel_rfl) ?_
  refine any_val (.bool false) (by kernel_rfl) (by kernel_rfl) (fun W => by kernel_rfl) ?_
  refine any_val (.bool false) (by kernel_rfl) (by kernel_rfl) (fun W => by kernel_rfl) ?_
  refine any_val (.bool true) (by kernel_rfl) (by kernel_rfl) (fun W => by kernel_rfl) ?_
  refine any_val (.bool true) (by kernel_rfl) (by kernel_rfl) (fun W => by kernel_rfl) ?_
  refine any_val (.iface 38 (.int .i64 4)) (by kernel_rfl) (by kernel_rfl) (fun W => by kernel_rfl) ?_
  refine any_call (.bool true) 22 #[.iface 38 (.int .i64 4), .int .i64 4] (by kernel_rfl) (by kernel_rfl) (fun W => by kernel_rfl) (fun W hR => (is4) W) ?_
  refine any_val (.bool true) (by kernel_rfl) (by kernel_rfl) (fun W => by kernel_rfl) ?_
  refine any_val (.bool true) (by kernel_rfl) (by kernel_rfl) (fun W => by kernel_rfl) ?_
  refine any_val (.bool true) (by kernel_rfl) (by kernel_rfl) (fun W => by kernel_rfl) ?_
  refine any_val (.bool true) (by kernel_rfl) (by kernel_rfl) (fun W => by kernel_rfl) ?_
  have r4_4 := (row_ext r4_3 e4)
  refine any_read (.agg (ints .u8 (sec))) (by kernel_rfl) (by kernel_rfl) (fun W hR => (run_load_row 26 _ g4 26 _ _ (row_ext (row_ext r4_4 (ext_drew _)) hR) rfl (by kernel_rfl) (by kernel_rfl) (isz (n := 32) (by kernel_rfl) ((ints_size _ _).trans hsl)))) ?_
  refine any_val (.string s) (by kernel_rfl) (by kernel_rfl) (fun W => by kernel_rfl) ?_
  have r1_3 := (row_ext r1_2 e3)
  have r1_4 := (row_ext r1_3 e4)
  have r2_3 := (row_ext r2_2 e3)
  have r2_4 := (row_ext r2_3 e4)
  refine any_call (.agg (ints .u8 (deriveV sec (strB s)))) 49 #[.agg (ints .u8 (sec)), .string s] (by kernel_rfl) (by kernel_rfl) (fun W => by kernel_rfl) (fun W hR => deriveC sec s tc tq W (row_ext (row_ext r1_4 (ext_drew _)) hR) (row_ext (row_ext r2_4 (ext_drew _)) hR) hsl hsb) ?_
  refine any_read (.agg (ints .u8 (sec))) (by kernel_rfl) (by kernel_rfl) (fun W hR => (run_load_row 26 _ g4 26 _ _ (row_ext (row_ext r4_4 (ext_drew _)) hR) rfl (by kernel_rfl) (by kernel_rfl) (isz (n := 32) (by kernel_rfl) ((ints_size _ _).trans hsl)))) ?_
  refine any_val (.string s) (by kernel_rfl) (by kernel_rfl) (fun W => by kernel_rfl) ?_
  refine any_call (.agg (ints .u8 (deriveV sec (strB s)))) 50 #[.agg (ints .u8 (sec)), .string s] (by kernel_rfl) (by kernel_rfl) (fun W => by kernel_rfl) (fun W hR => (fun W => rderiveC sec s W hsl hsb) W) ?_
  refine any_val (.bool true) (by kernel_rfl) (by kernel_rfl) (fun W => (run_eql_agg 26 _ _ _ _ _ (.bool true) rfl (by kernel_rfl) (by kernel_rfl) (by kernel_rfl) (eql_lists 26 (e := 5) (k := .u8) (deriveV sec (strB s)) (deriveV sec (strB s)) (decide_eq_true rfl) (deriveV_len _ _) (deriveV_len _ _) (by kernel_rfl) (by kernel_rfl) (by kernel_rfl) _))) ?_
  refine any_val (.bool true) (by kernel_rfl) (by kernel_rfl) (fun W => by kernel_rfl) ?_
  refine steps_nil (hF _ (by kernel_rfl) fun W5 e5 => ?_)
  simp only [ups, up, Kn.val, List.take_succ_cons, List.take_zero, List.drop_succ_cons, List.drop_zero, List.nil_append, List.cons_append]
  clear hF
  have x5 : Ext w W5 := Ext.tr x4 e5
  refine seq_val (.bool true) 8 rfl (by kernel_rfl) (by kernel_rfl) ?_
  refine seq_nil ?_
  refine hK11 _ _ ?_
  try clear hK11 K11
  refine wp_ret ?_
  repeat (first | with_reducible refine goR1 ?_ | with_reducible refine goR2 ?_)
  exact (show bodyPost _ _ _ .ret _ _ from ret1 (.bool true) rfl (res_tmp (by kernel_rfl)) ⟨rfl, x5⟩)
set_option maxHeartbeats 4000000 in
theorem labels_G (sec ctx : List Int) (s : ByteArray) (v2 : Value) (B2 : Nat) (tc tq : TypeId) (w : World) (hc : w.heap[1]? = some (.cells (ints .u64 cubesI) tc)) (hq : w.heap[0]? = some (.cells (ints .u64 squaresI) tq)) (hsl : sec.length = 32) (hsb : AreBytes sec) (hxb : AreBytes ctx) (hx : RdK .u8 B2 ctx v2 w) (n : Nat) (h1 : (strB s).length ≤ 255) (h2 : ctx.length ≤ 1000) (h : n ≤ 1000) : Calls Tryd.prog 24 #[.agg (ints .u8 sec), .string s, v2, .int .i64 ((n : Nat) : Int)] w (Ret w (.bool true)) := by
  obtain ⟨a_ctx, c_ctx, rfl, -⟩ := id hx
  refine enter 79 [(0, .agg (ints .u8 (sec))), (1, .string s), (2, .slice a_ctx ctx.length c_ctx), (3, .int .i64 ((n : Nat) : Int))] Tryd.func24 rfl rfl (by kernel_rfl) rfl ?_
  refine wp_seq_k fun K3 hK3 => ?_
  refine region_lit ?_
  refine seq_alloc (ints .u8 (sec)) 26 4 rfl (by kernel_rfl) (by kernel_rfl) fun g4 W1 l4 e1 r4_1 => ?_
  have x1 : Ext w W1 := Ext.tr (Rely.Ext.refl w) e1
  have b4 : w.heap.size ≤ g4 := Nat.le_trans (Rely.Ext.refl w).size l4
  refine seq_val (.bool false) 8 rfl (by kernel_rfl) (by kernel_rfl) ?_
  refine seq_nil ?_
  refine hK3 _ _ ?_
  try clear hK3 K3
  refine wp_seq_k fun K5 hK5 => ?_
  refine wp_seq_k fun K6 hK6 => ?_
  refine region_lit ?_
  have r1_1 := (row_ext hc e1)
  have r2_1 := (row_ext hq e1)
  refine seq_call (.bool true) 13 #[] 13 rfl (by kernel_rfl) (by kernel_rfl) (alive02 tc tq _ r1_1 r2_1) fun W2 e2 => ?_
  have x2 : Ext w W2 := Ext.tr x1 e2
  refine seq_val (.bool false) 14 rfl (by kernel_rfl) (by kernel_rfl) ?_
  refine seq_nil ?_
  refine hK6 _ _ ?_
  try clear hK6 K6
  refine cond_false (by kernel_rfl) ?_
  refine wp_skip ?_
  refine hK5 _ _ ?_
  try clear hK5 K5
  refine wp_seq_k fun K7 hK7 => ?_
  refine wp_seq_k fun K8 hK8 => ?_
  refine region_lit ?_
  refine seq_val (.string s) 15 rfl (by kernel_rfl) (by kernel_rfl) ?_
  refine seq_val (.int .i64 (((strB s).length : Nat) : Int)) 16 rfl (by kernel_rfl) (run_eq (u := .int .i64 ((s.size : Nat) : Int)) (by kernel_rfl) (congrArg (fun z : Nat => Value.int .i64 (z : Int)) (strB_len s).symm)) ?_
  refine seq_val (.bool false) 17 rfl (by kernel_rfl) (run_eq (u := .bool (decide ((((strB s).length : Nat) : Int) > 1000))) (by kernel_rfl) (congrArg Value.bool (decide_eq_false (by omega)))) ?_
  refine seq_val (.bool false) 18 rfl (by kernel_rfl) (by kernel_rfl) ?_
  refine seq_val (.slice a_ctx ctx.length c_ctx) 19 rfl (by kernel_rfl) (by kernel_rfl) ?_
  refine seq_val (.int .i64 ((ctx.length : Nat) : Int)) 20 rfl (by kernel_rfl) (by kernel_rfl) ?_
  refine seq_val (.bool false) 21 rfl (by kernel_rfl) (run_eq (u := .bool (decide (((ctx.length : Nat) : Int) > 1000))) (by kernel_rfl) (congrArg Value.bool (decide_eq_false (by omega)))) ?_
  refine seq_val (.bool false) 22 rfl (by kernel_rfl) (by kernel_rfl) ?_
  refine seq_skip 23 rfl (by kernel_rfl) ?_
  refine seq_skip 24 rfl (by kernel_rfl) ?_
  refine seq_skip 25 rfl (by kernel_rfl) ?_
  refine seq_val (.bool false) 26 rfl (by kernel_rfl) (by kernel_rfl) ?_
  refine seq_val (.bool false) 27 rfl (by kernel_rfl) (by kernel_rfl) ?_
  refine seq_val (.bool false) 28 rfl (by kernel_rfl) (by kernel_rfl) ?_
  refine seq_val (.int .i64 ((n : Nat) : Int)) 29 rfl (by kernel_rfl) (by kernel_rfl) ?_
  refine seq_val (.bool false) 30 rfl (by kernel_rfl) (run_eq (u := .bool (decide (((n : Nat) : Int) > 1000))) (by kernel_rfl) (congrArg Value.bool (decide_eq_false (by omega)))) ?_
  refine seq_val (.bool false) 31 rfl (by kernel_rfl) (by kernel_rfl) ?_
  refine seq_skip 32 rfl (by kernel_rfl) ?_
  refine seq_skip 33 rfl (by kernel_rfl) ?_
  refine seq_val (.bool false) 34 rfl (by kernel_rfl) (by kernel_rfl) ?_
  refine seq_val (.bool false) 35 rfl (by kernel_rfl) (by kernel_rfl) ?_
  refine seq_nil ?_
  refine hK8 _ _ ?_
  try clear hK8 K8
  refine cond_false (by kernel_rfl) ?_
  refine wp_skip ?_
  refine hK7 _ _ ?_
  try clear hK7 K7
  refine wp_seq_k fun K9 hK9 => ?_
  refine region_lit ?_
  have r4_2 := (row_ext r4_1 e2)
  refine seq_val (.agg (ints .u8 (sec))) 37 rfl (by kernel_rfl) (run_load_row 26 _ g4 26 _ _ r4_2 rfl (by kernel_rfl) (by kernel_rfl) (isz (n := 32) (by kernel_rfl) ((ints_size _ _).trans hsl))) ?_
  refine seq_val (.string s) 38 rfl (by kernel_rfl) (by kernel_rfl) ?_
  refine seq_val (.slice a_ctx ctx.length c_ctx) 39 rfl (by kernel_rfl) (by kernel_rfl) ?_
  refine seq_val (.int .i64 ((n : Nat) : Int)) 40 rfl (by kernel_rfl) (by kernel_rfl) ?_
  have r1_2 := (row_ext r1_1 e2)
  have r2_2 := (row_ext r2_1 e2)
  refine seq_callR (fun v W' => (fun v W => ∃ u, v = .tuple #[u, .nilIface] ∧ OwnN .u8 5 W2.heap.size (kx sec (infoL (strB s) ctx n) n) u W) v W' ∧ Ext W2 W') 47 #[.agg (ints .u8 (sec)), .string s, .slice a_ctx ctx.length c_ctx, .int .i64 ((n : Nat) : Int)] 41 rfl (by kernel_rfl) (by kernel_rfl) ((labelC sec ctx s _ _ tc tq _ r1_2 r2_2 hsl hsb hxb (RdK.ext hx x2) n (by omega) (by omega) (by omega)).mono (by rintro e w' ⟨v, rfl, e1, hv⟩; exact ⟨v, rfl, hv, e1⟩)) fun vv10 W3 hh10 => ?_
  obtain ⟨hv10, e3⟩ := hh10
  have x3 : Ext w W3 := Ext.tr x2 e3
  obtain ⟨u11, rfl, hu11⟩ := hv10
  obtain ⟨au11, cu11, rfl, -⟩ := id (OwnN.rd hu11)
  refine seq_val (.tuple #[.slice au11 ((kx sec (infoL (strB s) ctx n) n).length) cu11, .nilIface]) 36 rfl (by kernel_rfl) (by kernel_rfl) ?_
  refine seq_val (.slice au11 ((kx sec (infoL (strB s) ctx n) n).length) cu11) 42 rfl (by kernel_rfl) (by kernel_rfl) ?_
  refine seq_val (.nilIface) 43 rfl (by kernel_rfl) (by kernel_rfl) ?_
  refine seq_val (.slice au11 ((kx sec (infoL (strB s) ctx n) n).length) cu11) 9 rfl (by kernel_rfl) (by kernel_rfl) ?_
  refine seq_val (.nilIface) 10 rfl (by kernel_rfl) (by kernel_rfl) ?_
  refine seq_nil ?_
  refine hK9 _ _ ?_
  try clear hK9 K9
  refine wp_seq_k fun K12 hK12 => ?_
  refine region_lit ?_
  have r4_3 := (row_ext r4_2 e3)
  refine seq_val (.agg (ints .u8 (sec))) 45 rfl (by kernel_rfl) (run_load_row 26 _ g4 26 _ _ r4_3 rfl (by kernel_rfl) (by kernel_rfl) (isz (n := 32) (by kernel_rfl) ((ints_size _ _).trans hsl))) ?_
  refine seq_val (.string s) 46 rfl (by kernel_rfl) (by kernel_rfl) ?_
  refine seq_val (.slice a_ctx ctx.length c_ctx) 47 rfl (by kernel_rfl) (by kernel_rfl) ?_
  refine seq_val (.int .i64 ((n : Nat) : Int)) 48 rfl (by kernel_rfl) (by kernel_rfl) ?_
  refine seq_callR (fun v W' => (fun v W => ∃ u, v = .tuple #[u, .bool true] ∧ OwnN .u8 5 W3.heap.size (kx sec (infoL (strB s) ctx n) n) u W) v W' ∧ Ext W3 W') 48 #[.agg (ints .u8 (sec)), .string s, .slice a_ctx ctx.length c_ctx, .int .i64 ((n : Nat) : Int)] 49 rfl (by kernel_rfl) (by kernel_rfl) ((rlabelC sec ctx s _ _ _ hsl hsb hxb (RdK.ext hx x3) n (by omega) (by omega) (by omega)).mono (by rintro e w' ⟨v, rfl, e1, hv⟩; exact ⟨v, rfl, hv, e1⟩)) fun vv13 W4 hh13 => ?_
  obtain ⟨hv13, e4⟩ := hh13
  have x4 : Ext w W4 := Ext.tr x3 e4
  obtain ⟨u14, rfl, hu14⟩ := hv13
  obtain ⟨au14, cu14, rfl, -⟩ := id (OwnN.rd hu14)
  refine seq_val (.tuple #[.slice au14 ((kx sec (infoL (strB s) ctx n) n).length) cu14, .bool true]) 44 rfl (by kernel_rfl) (by kernel_rfl) ?_
  refine seq_val (.slice au14 ((kx sec (infoL (strB s) ctx n) n).length) cu14) 50 rfl (by kernel_rfl) (by kernel_rfl) ?_
  refine seq_val (.bool true) 51 rfl (by kernel_rfl) (by kernel_rfl) ?_
  refine seq_val (.slice au14 ((kx sec (infoL (strB s) ctx n) n).length) cu14) 11 rfl (by kernel_rfl) (by kernel_rfl) ?_
  refine seq_val (.bool true) 12 rfl (by kernel_rfl) (by kernel_rfl) ?_
  refine seq_nil ?_
  refine hK12 _ _ ?_
  try clear hK12 K12
  refine wp_seq_k fun K15 hK15 => ?_
  refine any_region 27 [⟨none, [(9, none)]⟩, ⟨none, [(11, none)]⟩, ⟨none, [(52, some 0), (53, some 1)]⟩, ⟨none, [(54, some 2)]⟩, ⟨some (55, true), [(12, none), (55, some 3)]⟩, ⟨some (55, true), [(56, some 4), (55, some 3)]⟩, ⟨some (57, true), [(10, none), (57, some 5)]⟩, ⟨some (57, true), [(58, some 6), (57, some 5)]⟩, ⟨some (55, true), [(57, some 5), (59, some 7), (55, some 3)]⟩, ⟨some (55, true), [(60, some 8), (55, some 3)]⟩, ⟨some (61, false), [(12, none), (61, some 9)]⟩, ⟨some (61, false), [(62, some 10), (61, some 9)]⟩, ⟨some (61, false), [(63, some 11), (61, some 9)]⟩, ⟨some (64, true), [(10, none), (64, some 12)]⟩, ⟨some (64, true), [(65, some 13), (64, some 12)]⟩, ⟨some (61, false), [(64, some 12), (66, some 14), (61, some 9)]⟩, ⟨some (55, true), [(61, some 9), (67, some 15), (55, some 3)]⟩, ⟨none, [(55, some 3), (68, some 16)]⟩, ⟨none, [(69, some 17)]⟩, ⟨some (70, true), [(4, none), (70, some 18)]⟩, ⟨some (70, true), [(1, none), (70, some 18)]⟩, ⟨some (70, true), [(71, some 19), (72, some 20), (70, some 18)]⟩, ⟨some (70, true), [(4, none), (70, some 18)]⟩, ⟨some (70, true), [(1, none), (70, some 18)]⟩, ⟨some (70, true), [(74, some 22), (75, some 23), (70, some 18)]⟩, ⟨some (70, true), [(73, some 21), (76, some 24), (70, some 18)]⟩, ⟨none, [(70, some 18), (77, some 25)]⟩] (by kernel_rfl) (by kernel_rfl) fun F hF => ?_
  refine any_val (.slice au11 ((kx sec (infoL (strB s) ctx n) n).length) cu11) (by kernel_rfl) (by kernel_rfl) (fun W => by kernel_rfl) ?_
  refine any_val (.slice au14 ((kx sec (infoL (strB s) ctx n) n).length) cu14) (by kernel_rfl) (by kernel_rfl) (fun W => by kernel_rfl) ?_
  have y3_4 : Ext W3 W4 := (Rely.Ext.trans (Rely.Ext.refl W3) e4)
  refine any_call (.bool true) 21 #[.slice au11 ((kx sec (infoL (strB s) ctx n) n).length) cu11, .slice au14 ((kx sec (infoL (strB s) ctx n) n).length) cu14] (by kernel_rfl) (by kernel_rfl) (fun W => by kernel_rfl) (fun W hR => (fun W hR => sameT _ _ (kx sec (infoL (strB s) ctx n) n) W (BytesAt.ext (RdK.bytes (OwnN.rd (OwnN.ext hu11 y3_4)) (kx_bytes _ _ _)) (Rely.Ext.trans (ext_drew _) hR)) (BytesAt.ext (RdK.bytes (OwnN.rd (OwnN.ext hu14 (Rely.Ext.refl W4))) (kx_bytes _ _ _)) (Rely.Ext.trans (ext_drew _) hR))) W hR) ?_
  refine any_val (.bool true) (by kernel_rfl) (by kernel_rfl) (fun W => by kernel_rfl) ?_
  refine any_val (.bool true) (by kernel_rfl) (by kernel_rfl) (fun W => by kernel_rfl) ?_
  refine any_val (.bool true) (by kernel_rfl) (by kernel_rfl) (fun W => by kernel_rfl) ?_
  refine any_val (.nilIface) (by kernel_rfl) (by kernel_rfl) (fun W => by kernel_rfl) ?_
  refine any_val (.bool true) (by kernel_rfl) (by kernel_rfl) (fun W => by kernel_rfl) ?_
  refine any_val (.bool true) (by kernel_rfl) (by kernel_rfl) (fun W => by kernel_rfl) ?_
  refine any_val (.bool true) (by kernel_rfl) (by kernel_rfl) (fun W => by kernel_rfl) ?_
  refine any_skip (by kernel_rfl) (by kernel_rfl) ?_
  refine any_skip (by kernel_rfl) (by kernel_rfl) ?_
  refine any_skip (by kernel_rfl) (by kernel_rfl) ?_
  refine any_skip (by kernel_rfl) (by kernel_rfl) ?_
  refine any_skip (by kernel_rfl) (by kernel_rfl) ?_
  refine any_skip (by kernel_rfl) (by kernel_rfl) ?_
  refine any_val (.bool true) (by kernel_rfl) (by kernel_rfl) (fun W => by kernel_rfl) ?_
  refine any_val (.bool true) (by kernel_rfl) (by kernel_rfl) (fun W => by kernel_rfl) ?_
  refine any_val (.bool true) (by kernel_rfl) (by kernel_rfl) (fun W => by kernel_rfl) ?_
  have r4_4 := (row_ext r4_3 e4)
  refine any_read (.agg (ints .u8 (sec))) (by kernel_rfl) (by kernel_rfl) (fun W hR => (run_load_row 26 _ g4 26 _ _ (row_ext (row_ext r4_4 (ext_drew _)) hR) rfl (by kernel_rfl) (by kernel_rfl) (isz (n := 32) (by kernel_rfl) ((ints_size _ _).trans hsl)))) ?_
  refine any_val (.string s) (by kernel_rfl) (by kernel_rfl) (fun W => by kernel_rfl) ?_
  have r1_3 := (row_ext r1_2 e3)
  have r1_4 := (row_ext r1_3 e4)
  have r2_3 := (row_ext r2_2 e3)
  have r2_4 := (row_ext r2_3 e4)
  refine any_call (.agg (ints .u8 (deriveV sec (strB s)))) 49 #[.agg (ints .u8 (sec)), .string s] (by kernel_rfl) (by kernel_rfl) (fun W => by kernel_rfl) (fun W hR => deriveC sec s tc tq W (row_ext (row_ext r1_4 (ext_drew _)) hR) (row_ext (row_ext r2_4 (ext_drew _)) hR) hsl hsb) ?_
  refine any_read (.agg (ints .u8 (sec))) (by kernel_rfl) (by kernel_rfl) (fun W hR => (run_load_row 26 _ g4 26 _ _ (row_ext (row_ext r4_4 (ext_drew _)) hR) rfl (by kernel_rfl) (by kernel_rfl) (isz (n := 32) (by kernel_rfl) ((ints_size _ _).trans hsl)))) ?_
  refine any_val (.string s) (by kernel_rfl) (by kernel_rfl) (fun W => by kernel_rfl) ?_
  refine any_call (.agg (ints .u8 (deriveV sec (strB s)))) 50 #[.agg (ints .u8 (sec)), .string s] (by kernel_rfl) (by kernel_rfl) (fun W => by kernel_rfl) (fun W hR => (fun W => rderiveC sec s W hsl hsb) W) ?_
  refine any_val (.bool true) (by kernel_rfl) (by kernel_rfl) (fun W => (run_eql_agg 26 _ _ _ _ _ (.bool true) rfl (by kernel_rfl) (by kernel_rfl) (by kernel_rfl) (eql_lists 26 (e := 5) (k := .u8) (deriveV sec (strB s)) (deriveV sec (strB s)) (decide_eq_true rfl) (deriveV_len _ _) (deriveV_len _ _) (by kernel_rfl) (by kernel_rfl) (by kernel_rfl) _))) ?_
  refine any_val (.bool true) (by kernel_rfl) (by kernel_rfl) (fun W => by kernel_rfl) ?_
  refine steps_nil (hF _ (by kernel_rfl) fun W5 e5 => ?_)
  simp only [ups, up, Kn.val, List.take_succ_cons, List.take_zero, List.drop_succ_cons, List.drop_zero, List.nil_append, List.cons_append]
  clear hF
  have x5 : Ext w W5 := Ext.tr x4 e5
  refine seq_val (.bool true) 8 rfl (by kernel_rfl) (by kernel_rfl) ?_
  refine seq_nil ?_
  refine hK15 _ _ ?_
  try clear hK15 K15
  refine wp_ret ?_
  repeat (first | with_reducible refine goR1 ?_ | with_reducible refine goR2 ?_)
  exact (show bodyPost _ _ _ .ret _ _ from ret1 (.bool true) rfl (res_tmp (by kernel_rfl)) ⟨rfl, x5⟩)
theorem labelsC (sec ctx : List Int) (s : ByteArray) (v2 : Value) (B2 : Nat) (tc tq : TypeId) (w : World) (hc : w.heap[1]? = some (.cells (ints .u64 cubesI) tc)) (hq : w.heap[0]? = some (.cells (ints .u64 squaresI) tq)) (hsl : sec.length = 32) (hsb : AreBytes sec) (hxb : AreBytes ctx) (hx : RdK .u8 B2 ctx v2 w) (n : Int) : Calls Tryd.prog 24 #[.agg (ints .u8 sec), .string s, v2, .int .i64 n] w (Ret w (.bool true)) := by
  by_cases h1 : 1000 < (strB s).length
  · exact labels_A sec ctx s v2 B2 tc tq w hc hq hsl hsb hxb hx n h1
  by_cases h2 : ctx.length ≤ 1000
  · by_cases h3 : n ≤ 1000
    · by_cases h4 : n < 0 ∨ 255 < (strB s).length
      · exact labels_Ess sec ctx s v2 B2 tc tq w hc hq hsl hsb hxb hx n (by omega) h2 h3 (by omega)
      · obtain ⟨m, rfl⟩ := Int.eq_ofNat_of_zero_le (show 0 ≤ n by omega)
        exact labels_G sec ctx s v2 B2 tc tq w hc hq hsl hsb hxb hx m (by omega) h2 (by omega)
    by_cases h5 : n ≤ 8160
    · exact labels_Cs sec ctx s v2 B2 tc tq w hc hq hsl hsb hxb hx n (by omega) h2 (by omega) h5
    · exact labels_Esl sec ctx s v2 B2 tc tq w hc hq hsl hsb hxb hx n (by omega) h2 (by omega) (by omega)
  by_cases h6 : ctx.length ≤ 65536
  · exact labels_B sec ctx s v2 B2 tc tq w hc hq hsl hsb hxb hx n (by omega) (by omega) h6
  by_cases h3 : n ≤ 1000
  · exact labels_Els sec ctx s v2 B2 tc tq w hc hq hsl hsb hxb hx n (by omega) (by omega) h3 (by omega)
  by_cases h5 : n ≤ 8160
  · exact labels_Cl sec ctx s v2 B2 tc tq w hc hq hsl hsb hxb hx n (by omega) (by omega) (by omega) h5
  · exact labels_Ell sec ctx s v2 B2 tc tq w hc hq hsl hsb hxb hx n (by omega) (by omega) (by omega) (by omega)
set_option maxHeartbeats 4000000 in
theorem lawSec (sec ctx : List Int) (s : ByteArray) (v2 : Value) (B2 : Nat) (tc tq : TypeId) (w : World) (hc : w.heap[1]? = some (.cells (ints .u64 cubesI) tc)) (hq : w.heap[0]? = some (.cells (ints .u64 squaresI) tq)) (hsl : sec.length = 32) (hsb : AreBytes sec) (hxb : AreBytes ctx) (hx : RdK .u8 B2 ctx v2 w) (n : Int) : Calls Tryd.prog 5 #[.agg (cat [ints .u8 sec, #[.string s], #[v2], #[.int .i64 n]])] w (Ret w (.bool true)) := by
  obtain ⟨a_ctx, c_ctx, rfl, -⟩ := id hx
  refine enter 12 [(0, .agg (cat [ints .u8 (sec), #[.string s], #[.slice a_ctx ctx.length c_ctx], #[.int .i64 n]]))] Tryd.func5 rfl rfl (by kernel_rfl) rfl ?_
  refine wp_seq_k fun K3 hK3 => ?_
  refine region_lit ?_
  refine seq_alloc (cat [ints .u8 (sec), #[.string s], #[.slice a_ctx ctx.length c_ctx], #[.int .i64 n]]) 43 1 rfl (by kernel_rfl) (by kernel_rfl) fun g4 W1 l4 e1 r4_1 => ?_
  have x1 : Ext w W1 := Ext.tr (Rely.Ext.refl w) e1
  have b4 : w.heap.size ≤ g4 := Nat.le_trans (Rely.Ext.refl w).size l4
  refine seq_val (.bool false) 2 rfl (by kernel_rfl) (by kernel_rfl) ?_
  refine seq_nil ?_
  refine hK3 _ _ ?_
  try clear hK3 K3
  refine wp_seq_k fun K5 hK5 => ?_
  refine region_lit ?_
  refine seq_val (.pointer (some ⟨g4, 0, none⟩)) 3 rfl (by kernel_rfl) (by kernel_rfl) ?_
  refine seq_val (.agg (ints .u8 (sec))) 4 rfl (by kernel_rfl) (run_load_part 26 _ g4 0 43 _ _ _ r4_1 rfl (by kernel_rfl) (cat_part [] [ints .u8 (sec)] [#[.string s], #[.slice a_ctx ctx.length c_ctx], #[.int .i64 n]] 0 (by kernel_rfl)) (by kernel_rfl) (isz (n := 32) (by kernel_rfl) ((ints_size _ _).trans hsl))) ?_
  refine seq_val (.pointer (some ⟨g4, 32, none⟩)) 5 rfl (by kernel_rfl) (by kernel_rfl) ?_
  refine seq_val (.string s) 6 rfl (by kernel_rfl) (run_loadC1 9 _ g4 32 43 _ (.string s) _ r4_1 rfl (by kernel_rfl) (cat_part [ints .u8 (sec)] [#[.string s]] [#[.slice a_ctx ctx.length c_ctx], #[.int .i64 n]] 32 ((ints_size _ _).trans hsl) 0 _ rfl) (by kernel_rfl)) ?_
  refine seq_val (.pointer (some ⟨g4, 33, none⟩)) 7 rfl (by kernel_rfl) (by kernel_rfl) ?_
  refine seq_val (.slice a_ctx ctx.length c_ctx) 8 rfl (by kernel_rfl) (run_loadC1 22 _ g4 33 43 _ (.slice a_ctx ctx.length c_ctx) _ r4_1 rfl (by kernel_rfl) (cat_part [ints .u8 (sec), #[.string s]] [#[.slice a_ctx ctx.length c_ctx]] [#[.int .i64 n]] 33 (by rw [cat_cons, cat_cons]; simp only [Array.size_append, cat, ((ints_size _ _).trans hsl)]; rfl) 0 _ rfl) (by kernel_rfl)) ?_
  refine seq_val (.pointer (some ⟨g4, 34, none⟩)) 9 rfl (by kernel_rfl) (by kernel_rfl) ?_
  refine seq_val (.int .i64 n) 10 rfl (by kernel_rfl) (run_loadC1 3 _ g4 34 43 _ (.int .i64 n) _ r4_1 rfl (by kernel_rfl) (cat_part [ints .u8 (sec), #[.string s], #[.slice a_ctx ctx.length c_ctx]] [#[.int .i64 n]] [] 34 (by rw [cat_cons, cat_cons, cat_cons]; simp only [Array.size_append, cat, ((ints_size _ _).trans hsl)]; rfl) 0 _ rfl) (by kernel_rfl)) ?_
  have r1_1 := (row_ext hc e1)
  have r2_1 := (row_ext hq e1)
  refine seq_call (.bool true) 24 #[.agg (ints .u8 (sec)), .string s, .slice a_ctx ctx.length c_ctx, .int .i64 n] 11 rfl (by kernel_rfl) (by kernel_rfl) (labelsC sec ctx s _ _ tc tq _ r1_1 r2_1 hsl hsb hxb (RdK.ext hx x1) n) fun W2 e2 => ?_
  have x2 : Ext w W2 := Ext.tr x1 e2
  refine seq_val (.bool true) 2 rfl (by kernel_rfl) (by kernel_rfl) ?_
  refine seq_nil ?_
  refine hK5 _ _ ?_
  try clear hK5 K5
  refine wp_ret ?_
  repeat (first | with_reducible refine goR1 ?_ | with_reducible refine goR2 ?_)
  exact (show bodyPost _ _ _ .ret _ _ from ret1 (.bool true) rfl (res_tmp (by kernel_rfl)) ⟨rfl, x2⟩)

end Go.Proofs.YtamlhbbphnamnaaDoor.Sha
