/- Windows: the fixed fact. -/
import Derived.Test.YtfkldohjeepbkaaLkPB
namespace Go.Proofs.Ytfkldohjeepbkaa.Lk
open Go Go.RowKit
open Go.Proofs.Ytfkldohjeepbkaa.Rely Go.Proofs.Ytfkldohjeepbkaa.Auto
set_option linter.unusedVariables false

set_option maxHeartbeats 4000000 in
theorem alive12 (w : World) : Calls Try.prog 9 #[] w (Ret w (.bool true)) := by
  refine enter 41 [] Try.func9 rfl rfl (by kernel_rfl) rfl ?_
  refine wp_seq_k fun K1 hK1 => ?_
  refine region_lit ?_
  refine seq_val (.bool false) 0 rfl (by kernel_rfl) (by kernel_rfl) ?_
  refine seq_nil ?_
  refine hK1 _ _ ?_
  try clear hK1 K1
  refine wp_seq_k fun K2 hK2 => ?_
  refine region_lit ?_
  refine seq_val (.agg (cat [#[.int .i64 0], #[.int .u64 0]])) 4 rfl (by kernel_rfl) (by kernel_rfl) ?_
  refine seq_alloc (cat [#[.int .i64 0], #[.int .u64 0]]) 35 5 rfl (by kernel_rfl) (by kernel_rfl) fun g3 W1 l3 e1 r3_1 => ?_
  have x1 : Ext w W1 := Ext.tr (Rely.Ext.refl w) e1
  have b3 : w.heap.size ≤ g3 := Nat.le_trans (Rely.Ext.refl w).size l3
  refine seq_val (.pointer (some ⟨g3, 0, none⟩)) 1 rfl (by kernel_rfl) (by kernel_rfl) ?_
  refine seq_nil ?_
  refine hK2 _ _ ?_
  try clear hK2 K2
  refine wp_seq_k fun K4 hK4 => ?_
  refine wp_seq_k fun K5 hK5 => ?_
  refine region_lit ?_
  refine seq_makeS (ints .i64 ([0, 64, 65])) 3 3 6 rfl (by kernel_rfl) (by kernel_rfl) fun g6 W2 l6 e2 r6_2 => ?_
  have x2 : Ext w W2 := Ext.tr x1 e2
  have b6 : w.heap.size ≤ g6 := Nat.le_trans x1.size l6
  refine seq_val (.int .i64 3) 7 rfl (by kernel_rfl) (by kernel_rfl) ?_
  refine seq_val (.int .i64 0) 8 rfl (by kernel_rfl) (by kernel_rfl) ?_
  refine seq_nil ?_
  refine hK5 _ _ ?_
  try clear hK5 K5
  refine wp_block ?_
  refine wp_loop_rounds 4 ?_
  show Code.wp _ _ (Exit.then (Code.rounds _ _ _ 3) _) _ _
  refine wp_seq_k fun K7 hK7 => ?_
  refine region_lit ?_
  refine seq_val (.bool true) 9 rfl (by kernel_rfl) (by kernel_rfl) ?_
  refine seq_nil ?_
  refine hK7 _ _ ?_
  try clear hK7 K7
  refine wp_seq_k fun K8 hK8 => ?_
  refine cond_true (by kernel_rfl) ?_
  refine wp_skip ?_
  refine hK8 _ _ ?_
  try clear hK8 K8
  refine wp_seq_k fun K9 hK9 => ?_
  refine wp_block ?_
  refine wp_seq_k fun K10 hK10 => ?_
  refine region_lit ?_
  refine seq_val (.pointer (some ⟨g6, 0, none⟩)) 10 rfl (by kernel_rfl) (run_indexS0 28 _ _ .i64 (0) g6 3 3 3 rfl (by kernel_rfl) (by kernel_rfl) (by kernel_rfl) (by kernel_rfl) (by decide)) ?_
  refine seq_val (.int .i64 0) 11 rfl (by kernel_rfl) (run_loadC1 3 _ g6 0 3 _ (.int .i64 0) _ r6_2 rfl (by kernel_rfl) (by kernel_rfl) (by kernel_rfl)) ?_
  refine seq_val (.int .i64 0) 3 rfl (by kernel_rfl) (by kernel_rfl) ?_
  refine seq_nil ?_
  refine hK10 _ _ ?_
  try clear hK10 K10
  refine wp_seq_k fun K11 hK11 => ?_
  refine region_lit ?_
  refine seq_val (.pointer (some ⟨g3, 0, none⟩)) 12 rfl (by kernel_rfl) (by kernel_rfl) ?_
  refine seq_val (.int .i64 0) 13 rfl (by kernel_rfl) (by kernel_rfl) ?_
  have r3_2 := (row_ext r3_1 e2)
  refine seq_call (.nilIface) 12 #[.pointer (some ⟨g3, 0, none⟩), .int .i64 0] 14 rfl (by kernel_rfl) (by kernel_rfl) (CheckZ g3 0 0 0 (by omega) (by decide) _ r3_2 (by decide +kernel)) fun W3 e3 => ?_
  have x3 : Ext w W3 := Ext.tr x2 e3
  refine seq_val (.bool false) 15 rfl (by kernel_rfl) (by kernel_rfl) ?_
  refine seq_val (.bool false) 16 rfl (by kernel_rfl) (by kernel_rfl) ?_
  refine seq_val (.pointer (some ⟨g3, 0, none⟩)) 17 rfl (by kernel_rfl) (by kernel_rfl) ?_
  refine seq_val (.int .i64 0) 18 rfl (by kernel_rfl) (by kernel_rfl) ?_
  have r3_3 := (row_ext r3_2 e3)
  refine seq_callR (fun v W' => v = .nilIface ∧ ExtB g3 W3 W' ∧ W'.heap[g3]? = some (.cells (cat [#[.int .i64 1], #[.int .u64 (((1 : Nat) : Int))]]) 35)) 13 #[.pointer (some ⟨g3, 0, none⟩), .int .i64 0] 19 rfl (by kernel_rfl) (by kernel_rfl) ((MarkGL g3 0 0 0 (by omega) (by decide) _ r3_3 (by decide +kernel) (by omega) 1 (by decide) (by decide) 1 1 (by decide) (by decide +kernel)).mono fun e w' ⟨h1, h2, h3⟩ => ⟨_, h1, rfl, h2, h3⟩) fun v W4 h => ?_
  obtain ⟨rfl, q4, r3_4⟩ := h
  have x4 : Ext w W4 := ExtB.up x3 q4 b3
  refine seq_val (.bool false) 20 rfl (by kernel_rfl) (by kernel_rfl) ?_
  refine seq_val (.bool false) 21 rfl (by kernel_rfl) (by kernel_rfl) ?_
  refine seq_nil ?_
  refine hK11 _ _ ?_
  try clear hK11 K11
  refine cond_false (by kernel_rfl) ?_
  refine wp_skip ?_
  refine hK9 _ _ ?_
  try clear hK9 K9
  refine region_lit ?_
  refine seq_val (.int .i64 1) 22 rfl (by kernel_rfl) (by kernel_rfl) ?_
  refine seq_val (.int .i64 1) 8 rfl (by kernel_rfl) (by kernel_rfl) ?_
  refine seq_nil ?_
  show Code.rounds _ _ _ 3 _ _
  show Code.wp _ _ (Exit.then (Code.rounds _ _ _ 2) _) _ _
  refine wp_seq_k fun K12 hK12 => ?_
  refine region_lit ?_
  refine seq_val (.bool true) 9 rfl (by kernel_rfl) (by kernel_rfl) ?_
  refine seq_nil ?_
  refine hK12 _ _ ?_
  try clear hK12 K12
  refine wp_seq_k fun K13 hK13 => ?_
  refine cond_true (by kernel_rfl) ?_
  refine wp_skip ?_
  refine hK13 _ _ ?_
  try clear hK13 K13
  refine wp_seq_k fun K14 hK14 => ?_
  refine wp_block ?_
  refine wp_seq_k fun K15 hK15 => ?_
  refine region_lit ?_
  refine seq_val (.pointer (some ⟨g6, 1, none⟩)) 10 rfl (by kernel_rfl) (run_indexS0 28 _ _ .i64 (1) g6 3 3 3 rfl (by kernel_rfl) (by kernel_rfl) (by kernel_rfl) (by kernel_rfl) (by decide)) ?_
  have r6_4 := (ExtB.row q4 (row_ext r6_2 e3) (ne_of_new r3_1 l6))
  refine seq_val (.int .i64 64) 11 rfl (by kernel_rfl) (run_loadC1 3 _ g6 1 3 _ (.int .i64 64) _ r6_4 rfl (by kernel_rfl) (by kernel_rfl) (by kernel_rfl)) ?_
  refine seq_val (.int .i64 64) 3 rfl (by kernel_rfl) (by kernel_rfl) ?_
  refine seq_nil ?_
  refine hK15 _ _ ?_
  try clear hK15 K15
  refine wp_seq_k fun K16 hK16 => ?_
  refine region_lit ?_
  refine seq_val (.pointer (some ⟨g3, 0, none⟩)) 12 rfl (by kernel_rfl) (by kernel_rfl) ?_
  refine seq_val (.int .i64 64) 13 rfl (by kernel_rfl) (by kernel_rfl) ?_
  refine seq_call (.nilIface) 12 #[.pointer (some ⟨g3, 0, none⟩), .int .i64 64] 14 rfl (by kernel_rfl) (by kernel_rfl) (CheckZ g3 1 1 64 (by omega) (by decide) _ r3_4 (by decide +kernel)) fun W5 e5 => ?_
  have x5 : Ext w W5 := Ext.tr x4 e5
  refine seq_val (.bool false) 15 rfl (by kernel_rfl) (by kernel_rfl) ?_
  refine seq_val (.bool false) 16 rfl (by kernel_rfl) (by kernel_rfl) ?_
  refine seq_val (.pointer (some ⟨g3, 0, none⟩)) 17 rfl (by kernel_rfl) (by kernel_rfl) ?_
  refine seq_val (.int .i64 64) 18 rfl (by kernel_rfl) (by kernel_rfl) ?_
  have r3_5 := (row_ext r3_4 e5)
  refine seq_callR (fun v W' => v = .nilIface ∧ ExtB g3 W5 W' ∧ W'.heap[g3]? = some (.cells (cat [#[.int .i64 65], #[.int .u64 (((9223372036854775808 : Nat) : Int))]]) 35)) 13 #[.pointer (some ⟨g3, 0, none⟩), .int .i64 64] 19 rfl (by kernel_rfl) (by kernel_rfl) ((MarkGL g3 1 1 64 (by omega) (by decide) _ r3_5 (by decide +kernel) (by omega) 64 (by decide) (by decide) 65 9223372036854775808 (by decide) (by decide +kernel)).mono fun e w' ⟨h1, h2, h3⟩ => ⟨_, h1, rfl, h2, h3⟩) fun v W6 h => ?_
  obtain ⟨rfl, q6, r3_6⟩ := h
  have x6 : Ext w W6 := ExtB.up x5 q6 b3
  refine seq_val (.bool false) 20 rfl (by kernel_rfl) (by kernel_rfl) ?_
  refine seq_val (.bool false) 21 rfl (by kernel_rfl) (by kernel_rfl) ?_
  refine seq_nil ?_
  refine hK16 _ _ ?_
  try clear hK16 K16
  refine cond_false (by kernel_rfl) ?_
  refine wp_skip ?_
  refine hK14 _ _ ?_
  try clear hK14 K14
  refine region_lit ?_
  refine seq_val (.int .i64 2) 22 rfl (by kernel_rfl) (by kernel_rfl) ?_
  refine seq_val (.int .i64 2) 8 rfl (by kernel_rfl) (by kernel_rfl) ?_
  refine seq_nil ?_
  show Code.rounds _ _ _ 2 _ _
  show Code.wp _ _ (Exit.then (Code.rounds _ _ _ 1) _) _ _
  refine wp_seq_k fun K17 hK17 => ?_
  refine region_lit ?_
  refine seq_val (.bool true) 9 rfl (by kernel_rfl) (by kernel_rfl) ?_
  refine seq_nil ?_
  refine hK17 _ _ ?_
  try clear hK17 K17
  refine wp_seq_k fun K18 hK18 => ?_
  refine cond_true (by kernel_rfl) ?_
  refine wp_skip ?_
  refine hK18 _ _ ?_
  try clear hK18 K18
  refine wp_seq_k fun K19 hK19 => ?_
  refine wp_block ?_
  refine wp_seq_k fun K20 hK20 => ?_
  refine region_lit ?_
  refine seq_val (.pointer (some ⟨g6, 2, none⟩)) 10 rfl (by kernel_rfl) (run_indexS0 28 _ _ .i64 (2) g6 3 3 3 rfl (by kernel_rfl) (by kernel_rfl) (by kernel_rfl) (by kernel_rfl) (by decide)) ?_
  have r6_6 := (ExtB.row q6 (row_ext r6_4 e5) (ne_of_new r3_1 l6))
  refine seq_val (.int .i64 65) 11 rfl (by kernel_rfl) (run_loadC1 3 _ g6 2 3 _ (.int .i64 65) _ r6_6 rfl (by kernel_rfl) (by kernel_rfl) (by kernel_rfl)) ?_
  refine seq_val (.int .i64 65) 3 rfl (by kernel_rfl) (by kernel_rfl) ?_
  refine seq_nil ?_
  refine hK20 _ _ ?_
  try clear hK20 K20
  refine wp_seq_k fun K21 hK21 => ?_
  refine region_lit ?_
  refine seq_val (.pointer (some ⟨g3, 0, none⟩)) 12 rfl (by kernel_rfl) (by kernel_rfl) ?_
  refine seq_val (.int .i64 65) 13 rfl (by kernel_rfl) (by kernel_rfl) ?_
  refine seq_call (.nilIface) 12 #[.pointer (some ⟨g3, 0, none⟩), .int .i64 65] 14 rfl (by kernel_rfl) (by kernel_rfl) (CheckZ g3 65 9223372036854775808 65 (by omega) (by decide) _ r3_6 (by decide +kernel)) fun W7 e7 => ?_
  have x7 : Ext w W7 := Ext.tr x6 e7
  refine seq_val (.bool false) 15 rfl (by kernel_rfl) (by kernel_rfl) ?_
  refine seq_val (.bool false) 16 rfl (by kernel_rfl) (by kernel_rfl) ?_
  refine seq_val (.pointer (some ⟨g3, 0, none⟩)) 17 rfl (by kernel_rfl) (by kernel_rfl) ?_
  refine seq_val (.int .i64 65) 18 rfl (by kernel_rfl) (by kernel_rfl) ?_
  have r3_7 := (row_ext r3_6 e7)
  refine seq_callR (fun v W' => v = .nilIface ∧ ExtB g3 W7 W' ∧ W'.heap[g3]? = some (.cells (cat [#[.int .i64 66], #[.int .u64 (((1 : Nat) : Int))]]) 35)) 13 #[.pointer (some ⟨g3, 0, none⟩), .int .i64 65] 19 rfl (by kernel_rfl) (by kernel_rfl) ((MarkGL g3 65 9223372036854775808 65 (by omega) (by decide) _ r3_7 (by decide +kernel) (by omega) 1 (by decide) (by decide) 66 1 (by decide) (by decide +kernel)).mono fun e w' ⟨h1, h2, h3⟩ => ⟨_, h1, rfl, h2, h3⟩) fun v W8 h => ?_
  obtain ⟨rfl, q8, r3_8⟩ := h
  have x8 : Ext w W8 := ExtB.up x7 q8 b3
  refine seq_val (.bool false) 20 rfl (by kernel_rfl) (by kernel_rfl) ?_
  refine seq_val (.bool false) 21 rfl (by kernel_rfl) (by kernel_rfl) ?_
  refine seq_nil ?_
  refine hK21 _ _ ?_
  try clear hK21 K21
  refine cond_false (by kernel_rfl) ?_
  refine wp_skip ?_
  refine hK19 _ _ ?_
  try clear hK19 K19
  refine region_lit ?_
  refine seq_val (.int .i64 3) 22 rfl (by kernel_rfl) (by kernel_rfl) ?_
  refine seq_val (.int .i64 3) 8 rfl (by kernel_rfl) (by kernel_rfl) ?_
  refine seq_nil ?_
  show Code.rounds _ _ _ 1 _ _
  show Code.wp _ _ (Exit.then (Code.rounds _ _ _ 0) _) _ _
  refine wp_seq_k fun K22 hK22 => ?_
  refine region_lit ?_
  refine seq_val (.bool false) 9 rfl (by kernel_rfl) (by kernel_rfl) ?_
  refine seq_nil ?_
  refine hK22 _ _ ?_
  try clear hK22 K22
  refine wp_seq_k fun K23 hK23 => ?_
  refine cond_false (by kernel_rfl) ?_
  refine wp_exit ?_
  refine hK4 _ _ ?_
  try clear hK4 K4
  refine wp_seq_k fun K24 hK24 => ?_
  refine region_lit ?_
  refine seq_val (.pointer (some ⟨g3, 0, none⟩)) 23 rfl (by kernel_rfl) (by kernel_rfl) ?_
  refine seq_call (.iface 44 (.int .i64 7)) 12 #[.pointer (some ⟨g3, 0, none⟩), .int .i64 64] 24 rfl (by kernel_rfl) (by kernel_rfl) (CheckE g3 66 1 64 (by omega) (by decide) _ r3_8 7 (by decide +kernel) (by decide)) fun W9 e9 => ?_
  have x9 : Ext w W9 := Ext.tr x8 e9
  refine seq_call (.bool true) 16 #[.iface 44 (.int .i64 7), .int .i64 7] 25 rfl (by kernel_rfl) (by kernel_rfl) ((IsT 7 (.iface 44 (.int .i64 7)) rfl) _) fun W10 e10 => ?_
  have x10 : Ext w W10 := Ext.tr x9 e10
  refine seq_val (.bool true) 26 rfl (by kernel_rfl) (by kernel_rfl) ?_
  refine seq_val (.pointer (some ⟨g3, 0, none⟩)) 27 rfl (by kernel_rfl) (by kernel_rfl) ?_
  have r3_10 := (row_ext (row_ext r3_8 e9) e10)
  refine seq_call (.iface 44 (.int .i64 11)) 12 #[.pointer (some ⟨g3, 0, none⟩), .int .i64 0] 28 rfl (by kernel_rfl) (by kernel_rfl) (CheckE g3 66 1 0 (by omega) (by decide) _ r3_10 11 (by decide +kernel) (by decide)) fun W11 e11 => ?_
  have x11 : Ext w W11 := Ext.tr x10 e11
  refine seq_call (.bool true) 16 #[.iface 44 (.int .i64 11), .int .i64 11] 29 rfl (by kernel_rfl) (by kernel_rfl) ((IsT 11 (.iface 44 (.int .i64 11)) rfl) _) fun W12 e12 => ?_
  have x12 : Ext w W12 := Ext.tr x11 e12
  refine seq_val (.bool true) 30 rfl (by kernel_rfl) (by kernel_rfl) ?_
  refine seq_val (.bool true) 31 rfl (by kernel_rfl) (by kernel_rfl) ?_
  refine seq_val (.pointer (some ⟨g3, 0, none⟩)) 32 rfl (by kernel_rfl) (by kernel_rfl) ?_
  have r3_12 := (row_ext (row_ext r3_10 e11) e12)
  refine seq_call (.nilIface) 12 #[.pointer (some ⟨g3, 0, none⟩), .int .i64 1] 33 rfl (by kernel_rfl) (by kernel_rfl) (CheckZ g3 66 1 1 (by omega) (by decide) _ r3_12 (by decide +kernel)) fun W13 e13 => ?_
  have x13 : Ext w W13 := Ext.tr x12 e13
  refine seq_val (.bool true) 34 rfl (by kernel_rfl) (by kernel_rfl) ?_
  refine seq_val (.bool true) 35 rfl (by kernel_rfl) (by kernel_rfl) ?_
  refine seq_val (.bool true) 36 rfl (by kernel_rfl) (by kernel_rfl) ?_
  refine seq_val (.pointer (some ⟨g3, 0, none⟩)) 37 rfl (by kernel_rfl) (by kernel_rfl) ?_
  have r3_13 := (row_ext r3_12 e13)
  refine seq_call (.int .i64 65) 14 #[.pointer (some ⟨g3, 0, none⟩)] 38 rfl (by kernel_rfl) (by kernel_rfl) (HighestC g3 66 1 (by omega) (by decide) _ r3_13) fun W14 e14 => ?_
  have x14 : Ext w W14 := Ext.tr x13 e14
  refine seq_val (.bool true) 39 rfl (by kernel_rfl) (by kernel_rfl) ?_
  refine seq_val (.bool true) 40 rfl (by kernel_rfl) (by kernel_rfl) ?_
  refine seq_val (.bool true) 0 rfl (by kernel_rfl) (by kernel_rfl) ?_
  refine seq_nil ?_
  refine hK24 _ _ ?_
  try clear hK24 K24
  refine wp_ret ?_
  repeat (first | with_reducible refine goR1 ?_ | with_reducible refine goR2 ?_)
  exact (show bodyPost _ _ _ .ret _ _ from ret1 (.bool true) rfl (res_tmp (by kernel_rfl)) ⟨rfl, x14⟩)

end Go.Proofs.Ytfkldohjeepbkaa.Lk
