/- Residues: the sum. -/
import Derived.Test.YtaojnmjmmfdfjaaDoorPtKit
import Derived.Test.YtaojnmjmmfdfjaaDoorAutoS
import Derived.Test.YtaojnmjmmfdfjaaDoorAutoV
import Derived.Test.YtaojnmjmmfdfjaaDoorPtOps
namespace Go.Proofs.YtaojnmjmmfdfjaaDoor.Field
open Go Go.RowKit
open Go.Proofs.YtaojnmjmmfdfjaaDoor.Rely Go.Proofs.YtaojnmjmmfdfjaaDoor.Auto.V
open Go.Proofs.YtaojnmjmmfdfjaaDoor.Auto hiding isT tailT readsT storesT okT TailRun tailsOf pureOk stepsT stepsT_found InvT rem Phase isT_some mem_tails mem_rem rem_nodup list_false rem_sorted rem_set filter_ne holdsC wpAny_of_T t_store t_op t_skip t_val t_read t_call t_new t_nil TailEnv tail_env te_nil te_store any_regionT
set_option linter.unusedVariables false

abbrev orderA : Array Value := ints .u64 [6346243789798364141, 1503914060200516822, 0, 1152921504606846976]
set_option maxHeartbeats 4000000 in
theorem plus_1 (m0 m1 m2 m3 y0 y1 y2 y3 v0 v1 v2 v3 ca0 ca1 ca2 ca3 u0 u1 u2 u3 d0 d1 d2 : Int)
    (r0 : ∀ W, (callFunc 62 #[.int .u64 m0, .int .u64 y0, .int .u64 0]).run Tryd.prog W = .ok (.value (.tuple #[.int .u64 v0, .int .u64 ca0])) W)
    (s0 : ∀ W, (callFunc 63 #[.int .u64 v0, .int .u64 6346243789798364141, .int .u64 0]).run Tryd.prog W = .ok (.value (.tuple #[.int .u64 u0, .int .u64 d0])) W)
    (r1 : ∀ W, (callFunc 62 #[.int .u64 m1, .int .u64 y1, .int .u64 ca0]).run Tryd.prog W = .ok (.value (.tuple #[.int .u64 v1, .int .u64 ca1])) W)
    (s1 : ∀ W, (callFunc 63 #[.int .u64 v1, .int .u64 1503914060200516822, .int .u64 d0]).run Tryd.prog W = .ok (.value (.tuple #[.int .u64 u1, .int .u64 d1])) W)
    (r2 : ∀ W, (callFunc 62 #[.int .u64 m2, .int .u64 y2, .int .u64 ca1]).run Tryd.prog W = .ok (.value (.tuple #[.int .u64 v2, .int .u64 ca2])) W)
    (s2 : ∀ W, (callFunc 63 #[.int .u64 v2, .int .u64 0, .int .u64 d1]).run Tryd.prog W = .ok (.value (.tuple #[.int .u64 u2, .int .u64 d2])) W)
    (r3 : ∀ W, (callFunc 62 #[.int .u64 m3, .int .u64 y3, .int .u64 ca2]).run Tryd.prog W = .ok (.value (.tuple #[.int .u64 v3, .int .u64 ca3])) W)
    (s3 : ∀ W, (callFunc 63 #[.int .u64 v3, .int .u64 1152921504606846976, .int .u64 d2]).run Tryd.prog W = .ok (.value (.tuple #[.int .u64 u3, .int .u64 1])) W) (w : World) (tO : TypeId) (hO : w.heap[3]? = some (.cells orderA tO)) :
    Calls Tryd.prog 56 #[.agg #[.int .u64 m0, .int .u64 m1, .int .u64 m2, .int .u64 m3], .agg #[.int .u64 y0, .int .u64 y1, .int .u64 y2, .int .u64 y3]] w (Ret w (words v0 v1 v2 v3)) := by
  refine enter 44 [(0, .agg (ints .u64 ([m0, m1, m2, m3]))), (1, .agg (ints .u64 ([y0, y1, y2, y3])))] Tryd.func56 rfl rfl (by kernel_rfl) rfl ?_
  refine wp_seq_k fun K2 hK2 => ?_
  refine region_lit ?_
  refine seq_alloc (ints .u64 ([m0, m1, m2, m3])) 82 2 rfl (by kernel_rfl) (by kernel_rfl) fun g3 W1 l3 e1 r3_1 => ?_
  have x1 : Ext w W1 := Ext.tr (Rely.Ext.refl w) e1
  have b3 : w.heap.size ≤ g3 := Nat.le_trans (Rely.Ext.refl w).size l3
  refine seq_alloc (ints .u64 ([y0, y1, y2, y3])) 82 3 rfl (by kernel_rfl) (by kernel_rfl) fun g4 W2 l4 e2 r4_2 => ?_
  have x2 : Ext w W2 := Ext.tr x1 e2
  have b4 : w.heap.size ≤ g4 := Nat.le_trans x1.size l4
  refine seq_alloc (ints .u64 ([0, 0, 0, 0])) 82 4 rfl (by kernel_rfl) (by kernel_rfl) fun g5 W3 l5 e3 r5_3 => ?_
  have x3 : Ext w W3 := Ext.tr x2 e3
  have b5 : w.heap.size ≤ g5 := Nat.le_trans x2.size l5
  refine seq_nil ?_
  refine hK2 _ _ ?_
  try clear hK2 K2
  refine wp_seq_k fun K6 hK6 => ?_
  refine region_lit ?_
  refine seq_val (.int .u64 0) 5 rfl (by kernel_rfl) (by kernel_rfl) ?_
  refine seq_val (.int .u64 0) 6 rfl (by kernel_rfl) (by kernel_rfl) ?_
  refine seq_nil ?_
  refine hK6 _ _ ?_
  try clear hK6 K6
  refine wp_seq_k fun K7 hK7 => ?_
  refine region_lit ?_
  have r3_3 := (row_ext (row_ext r3_1 e2) e3)
  refine seq_val (.agg (ints .u64 ([m0, m1, m2, m3]))) 9 rfl (by kernel_rfl) (run_load_row 82 _ g3 82 _ _ r3_3 rfl (by kernel_rfl) (by kernel_rfl) (isz (n := 4) (by kernel_rfl) (by kernel_rfl))) ?_
  refine seq_alloc (ints .u64 ([0, 0, 0, 0])) 82 7 rfl (by kernel_rfl) (by kernel_rfl) fun g8 W4 l8 e4 r8_4 => ?_
  have x4 : Ext w W4 := Ext.tr x3 e4
  have b8 : w.heap.size ≤ g8 := Nat.le_trans x3.size l8
  refine seq_store g8 _ (ints .u64 ([m0, m1, m2, m3])) 82 r8_4 rfl (by kernel_rfl) (run_store_row 82 _ _ g8 82 _ _ r8_4 rfl (by kernel_rfl) (by kernel_rfl) (isz (n := 4) (by kernel_rfl) (by kernel_rfl)) (eqsz (n := 4) (by kernel_rfl) (by kernel_rfl)) (by kernel_rfl)) fun W5 p5 r8_5 => ?_
  have x5 : Ext w W5 := Puts.ext p5 x4 b8
  refine seq_nil ?_
  refine hK7 _ _ ?_
  try clear hK7 K7
  refine wp_seq_k fun K9 hK9 => ?_
  refine wp_seq_k fun K10 hK10 => ?_
  refine region_lit ?_
  refine seq_val (.int .i64 0) 10 rfl (by kernel_rfl) (by kernel_rfl) ?_
  refine seq_nil ?_
  refine hK10 _ _ ?_
  try clear hK10 K10
  refine wp_block ?_
  refine wp_loop_rounds 5 ?_
  show Code.wp _ _ (Exit.then (Code.rounds _ _ _ 4) _) _ _
  refine wp_seq_k fun K11 hK11 => ?_
  refine region_lit ?_
  refine seq_val (.bool true) 11 rfl (by kernel_rfl) (by kernel_rfl) ?_
  refine seq_nil ?_
  refine hK11 _ _ ?_
  try clear hK11 K11
  refine wp_seq_k fun K12 hK12 => ?_
  refine cond_true (by kernel_rfl) ?_
  refine wp_skip ?_
  refine hK12 _ _ ?_
  try clear hK12 K12
  refine wp_seq_k fun K13 hK13 => ?_
  refine wp_block ?_
  refine wp_seq_k fun K14 hK14 => ?_
  refine region_lit ?_
  refine seq_val (.int .i64 0) 12 rfl (by kernel_rfl) (by kernel_rfl) ?_
  refine seq_val (.int .i64 0) 8 rfl (by kernel_rfl) (by kernel_rfl) ?_
  refine seq_nil ?_
  refine hK14 _ _ ?_
  try clear hK14 K14
  refine wp_seq_k fun K15 hK15 => ?_
  refine any_regionT (fun W => True) [⟨none, [(8, none)]⟩, ⟨none, [(8, none)]⟩, ⟨none, [(2, none), (15, some 1)]⟩, ⟨none, [(16, some 2)]⟩, ⟨none, [(8, none)]⟩, ⟨none, [(3, none), (18, some 4)]⟩, ⟨none, [(19, some 5)]⟩, ⟨none, [(5, none)]⟩, ⟨none, [(17, some 3), (20, some 6), (21, some 7)]⟩, ⟨none, [(22, some 8)]⟩, ⟨none, [(13, some 9)]⟩, ⟨none, [(13, some 9)]⟩, ⟨none, [(2, none), (14, some 0)]⟩, ⟨none, [(25, some 12), (23, some 10)]⟩, ⟨none, [(24, some 11)]⟩] [] [11, 14] (by kernel_rfl) (by kernel_rfl) (by kernel_rfl) (fun W hR => trivial) fun F hF => ?_
  refine t_val (.int .i64 0) (by kernel_rfl) (by kernel_rfl) rfl (fun W => by kernel_rfl) ?_
  refine t_val (.int .i64 0) (by kernel_rfl) (by kernel_rfl) rfl (fun W => by kernel_rfl) ?_
  refine t_val (.pointer (some ⟨g3, 0, none⟩)) (by kernel_rfl) (by kernel_rfl) rfl (fun W => by kernel_rfl) ?_
  have r3_5 := (Puts.row p5 (row_ext r3_3 e4) (ne_of_old r3_3 l8))
  refine t_read (.int .u64 m0) (by kernel_rfl) (by kernel_rfl) (by kernel_rfl) rfl (fun W hR => (run_loadC1 25 _ g3 0 82 _ (.int .u64 m0) _ (row_ext (row_ext r3_5 (ext_drew _)) hR) rfl (by kernel_rfl) (by kernel_rfl) (by kernel_rfl))) ?_
  refine t_val (.int .i64 0) (by kernel_rfl) (by kernel_rfl) rfl (fun W => by kernel_rfl) ?_
  refine t_val (.pointer (some ⟨g4, 0, none⟩)) (by kernel_rfl) (by kernel_rfl) rfl (fun W => by kernel_rfl) ?_
  have r4_3 := (row_ext r4_2 e3)
  have r4_5 := (Puts.row p5 (row_ext (row_ext r4_2 e3) e4) (ne_of_old r4_3 l8))
  refine t_read (.int .u64 y0) (by kernel_rfl) (by kernel_rfl) (by kernel_rfl) rfl (fun W hR => (run_loadC1 25 _ g4 0 82 _ (.int .u64 y0) _ (row_ext (row_ext r4_5 (ext_drew _)) hR) rfl (by kernel_rfl) (by kernel_rfl) (by kernel_rfl))) ?_
  refine t_val (.int .u64 0) (by kernel_rfl) (by kernel_rfl) rfl (fun W => by kernel_rfl) ?_
  refine t_val (.tuple #[.int .u64 v0, .int .u64 ca0]) (by kernel_rfl) (by kernel_rfl) rfl (fun W => (run_extF (f := 62) (args := #[.int .u64 m0, .int .u64 y0, .int .u64 0]) _ _ _ rfl (by kernel_rfl) (by kernel_rfl) (r0 _))) ?_
  refine t_val (.tuple #[.int .u64 v0, .int .u64 ca0]) (by kernel_rfl) (by kernel_rfl) rfl (fun W => by kernel_rfl) ?_
  refine t_val (.int .u64 v0) (by kernel_rfl) (by kernel_rfl) rfl (fun W => by kernel_rfl) ?_
  refine t_val (.int .u64 ca0) (by kernel_rfl) (by kernel_rfl) rfl (fun W => by kernel_rfl) ?_
  refine t_val (.pointer (some ⟨g3, 0, none⟩)) (by kernel_rfl) (by kernel_rfl) rfl (fun W => by kernel_rfl) ?_
  refine t_store rfl ?_
  refine t_val (.int .u64 ca0) (by kernel_rfl) (by kernel_rfl) rfl (fun W => by kernel_rfl) ?_
  refine t_nil (hF _ (by kernel_rfl) fun W6 e6 => ?_)
  simp only [List.nil_append, List.cons_append, fins, up]
  clear hF
  have x6 : Ext w W6 := Ext.tr x5 e6
  have r3_6 := (row_ext r3_5 e6)
  refine te_store _ g3 _ (ints .u64 ([v0, m1, m2, m3])) 82 r3_6 rfl (run_storeI 25 _ _ g3 0 82 _ _ r3_6 rfl (by kernel_rfl) (by kernel_rfl) (by kernel_rfl) (Nat.lt_of_lt_of_eq (show 0 < 4 by decide) rfl.symm)) (fun W hp => trivial) fun W7 p7 r3_7 => ?_
  have x7 : Ext w W7 := Puts.ext p7 x6 b3
  refine te_nil ?_
  refine hK15 _ _ ?_
  try clear hK15 K15
  refine any_regionT (fun W => True) [⟨none, [(8, none)]⟩, ⟨none, [(8, none)]⟩, ⟨none, [(2, none), (28, some 1)]⟩, ⟨none, [(29, some 2)]⟩, ⟨none, [(8, none)]⟩, ⟨none, [(31, some 4)]⟩, ⟨none, [(32, some 5)]⟩, ⟨none, [(6, none)]⟩, ⟨none, [(30, some 3), (33, some 6), (34, some 7)]⟩, ⟨none, [(35, some 8)]⟩, ⟨none, [(26, some 9)]⟩, ⟨none, [(26, some 9)]⟩, ⟨none, [(7, none), (27, some 0)]⟩, ⟨none, [(38, some 12), (36, some 10)]⟩, ⟨none, [(37, some 11)]⟩] [] [11, 14] (by kernel_rfl) (by kernel_rfl) (by kernel_rfl) (fun W hR => trivial) fun F hF => ?_
  refine t_val (.int .i64 0) (by kernel_rfl) (by kernel_rfl) rfl (fun W => by kernel_rfl) ?_
  refine t_val (.int .i64 0) (by kernel_rfl) (by kernel_rfl) rfl (fun W => by kernel_rfl) ?_
  refine t_val (.pointer (some ⟨g3, 0, none⟩)) (by kernel_rfl) (by kernel_rfl) rfl (fun W => by kernel_rfl) ?_
  refine t_read (.int .u64 v0) (by kernel_rfl) (by kernel_rfl) (by kernel_rfl) rfl (fun W hR => (run_loadC1 25 _ g3 0 82 _ (.int .u64 v0) _ (row_ext (row_ext r3_7 (ext_drew _)) hR) rfl (by kernel_rfl) (by kernel_rfl) (by kernel_rfl))) ?_
  refine t_val (.int .i64 0) (by kernel_rfl) (by kernel_rfl) rfl (fun W => by kernel_rfl) ?_
  refine t_val (.pointer (some ⟨3, 0, none⟩)) (by kernel_rfl) (by kernel_rfl) rfl (fun W => by kernel_rfl) ?_
  have r1_3 := (row_ext (row_ext (row_ext hO e1) e2) e3)
  have r1_7 := (Puts.row p7 (row_ext (Puts.row p5 (row_ext (row_ext (row_ext (row_ext hO e1) e2) e3) e4) (ne_of_old r1_3 l8)) e6) (ne_of_old hO l3))
  refine t_read (.int .u64 6346243789798364141) (by kernel_rfl) (by kernel_rfl) (by kernel_rfl) rfl (fun W hR => (run_loadC1 25 _ 3 0 tO _ (.int .u64 6346243789798364141) _ (row_ext (row_ext r1_7 (ext_drew _)) hR) rfl (by kernel_rfl) (by kernel_rfl) (by kernel_rfl))) ?_
  refine t_val (.int .u64 0) (by kernel_rfl) (by kernel_rfl) rfl (fun W => by kernel_rfl) ?_
  refine t_val (.tuple #[.int .u64 u0, .int .u64 d0]) (by kernel_rfl) (by kernel_rfl) rfl (fun W => (run_extF (f := 63) (args := #[.int .u64 v0, .int .u64 6346243789798364141, .int .u64 0]) _ _ _ rfl (by kernel_rfl) (by kernel_rfl) (s0 _))) ?_
  refine t_val (.tuple #[.int .u64 u0, .int .u64 d0]) (by kernel_rfl) (by kernel_rfl) rfl (fun W => by kernel_rfl) ?_
  refine t_val (.int .u64 u0) (by kernel_rfl) (by kernel_rfl) rfl (fun W => by kernel_rfl) ?_
  refine t_val (.int .u64 d0) (by kernel_rfl) (by kernel_rfl) rfl (fun W => by kernel_rfl) ?_
  refine t_val (.pointer (some ⟨g8, 0, none⟩)) (by kernel_rfl) (by kernel_rfl) rfl (fun W => by kernel_rfl) ?_
  refine t_store rfl ?_
  refine t_val (.int .u64 d0) (by kernel_rfl) (by kernel_rfl) rfl (fun W => by kernel_rfl) ?_
  refine t_nil (hF _ (by kernel_rfl) fun W8 e8 => ?_)
  simp only [List.nil_append, List.cons_append, fins, up]
  clear hF
  have x8 : Ext w W8 := Ext.tr x7 e8
  have r8_8 := (row_ext (Puts.row p7 (row_ext r8_5 e6) (ne_of_new r3_3 l8)) e8)
  refine te_store _ g8 _ (ints .u64 ([u0, m1, m2, m3])) 82 r8_8 rfl (run_storeI 25 _ _ g8 0 82 _ _ r8_8 rfl (by kernel_rfl) (by kernel_rfl) (by kernel_rfl) (Nat.lt_of_lt_of_eq (show 0 < 4 by decide) rfl.symm)) (fun W hp => trivial) fun W9 p9 r8_9 => ?_
  have x9 : Ext w W9 := Puts.ext p9 x8 b8
  refine te_nil ?_
  refine hK13 _ _ ?_
  try clear hK13 K13
  refine region_lit ?_
  refine seq_val (.int .i64 1) 39 rfl (by kernel_rfl) (by kernel_rfl) ?_
  refine seq_val (.int .i64 1) 10 rfl (by kernel_rfl) (by kernel_rfl) ?_
  refine seq_nil ?_
  show Code.rounds _ _ _ 4 _ _
  show Code.wp _ _ (Exit.then (Code.rounds _ _ _ 3) _) _ _
  refine wp_seq_k fun K16 hK16 => ?_
  refine region_lit ?_
  refine seq_val (.bool true) 11 rfl (by kernel_rfl) (by kernel_rfl) ?_
  refine seq_nil ?_
  refine hK16 _ _ ?_
  try clear hK16 K16
  refine wp_seq_k fun K17 hK17 => ?_
  refine cond_true (by kernel_rfl) ?_
  refine wp_skip ?_
  refine hK17 _ _ ?_
  try clear hK17 K17
  refine wp_seq_k fun K18 hK18 => ?_
  refine wp_block ?_
  refine wp_seq_k fun K19 hK19 => ?_
  refine region_lit ?_
  refine seq_val (.int .i64 1) 12 rfl (by kernel_rfl) (by kernel_rfl) ?_
  refine seq_val (.int .i64 1) 8 rfl (by kernel_rfl) (by kernel_rfl) ?_
  refine seq_nil ?_
  refine hK19 _ _ ?_
  try clear hK19 K19
  refine wp_seq_k fun K20 hK20 => ?_
  refine any_regionT (fun W => True) [⟨none, [(8, none)]⟩, ⟨none, [(8, none)]⟩, ⟨none, [(2, none), (15, some 1)]⟩, ⟨none, [(16, some 2)]⟩, ⟨none, [(8, none)]⟩, ⟨none, [(3, none), (18, some 4)]⟩, ⟨none, [(19, some 5)]⟩, ⟨none, [(5, none)]⟩, ⟨none, [(17, some 3), (20, some 6), (21, some 7)]⟩, ⟨none, [(22, some 8)]⟩, ⟨none, [(13, some 9)]⟩, ⟨none, [(13, some 9)]⟩, ⟨none, [(2, none), (14, some 0)]⟩, ⟨none, [(25, some 12), (23, some 10)]⟩, ⟨none, [(24, some 11)]⟩] [] [11, 14] (by kernel_rfl) (by kernel_rfl) (by kernel_rfl) (fun W hR => trivial) fun F hF => ?_
  refine t_val (.int .i64 1) (by kernel_rfl) (by kernel_rfl) rfl (fun W => by kernel_rfl) ?_
  refine t_val (.int .i64 1) (by kernel_rfl) (by kernel_rfl) rfl (fun W => by kernel_rfl) ?_
  refine t_val (.pointer (some ⟨g3, 1, none⟩)) (by kernel_rfl) (by kernel_rfl) rfl (fun W => by kernel_rfl) ?_
  have r3_9 := (Puts.row p9 (row_ext r3_7 e8) (ne_of_old r3_3 l8))
  refine t_read (.int .u64 m1) (by kernel_rfl) (by kernel_rfl) (by kernel_rfl) rfl (fun W hR => (run_loadC1 25 _ g3 1 82 _ (.int .u64 m1) _ (row_ext (row_ext r3_9 (ext_drew _)) hR) rfl (by kernel_rfl) (by kernel_rfl) (by kernel_rfl))) ?_
  refine t_val (.int .i64 1) (by kernel_rfl) (by kernel_rfl) rfl (fun W => by kernel_rfl) ?_
  refine t_val (.pointer (some ⟨g4, 1, none⟩)) (by kernel_rfl) (by kernel_rfl) rfl (fun W => by kernel_rfl) ?_
  have r4_9 := (Puts.row p9 (row_ext (Puts.row p7 (row_ext r4_5 e6) (ne_of_new r3_1 l4)) e8) (ne_of_old r4_3 l8))
  refine t_read (.int .u64 y1) (by kernel_rfl) (by kernel_rfl) (by kernel_rfl) rfl (fun W hR => (run_loadC1 25 _ g4 1 82 _ (.int .u64 y1) _ (row_ext (row_ext r4_9 (ext_drew _)) hR) rfl (by kernel_rfl) (by kernel_rfl) (by kernel_rfl))) ?_
  refine t_val (.int .u64 ca0) (by kernel_rfl) (by kernel_rfl) rfl (fun W => by kernel_rfl) ?_
  refine t_val (.tuple #[.int .u64 v1, .int .u64 ca1]) (by kernel_rfl) (by kernel_rfl) rfl (fun W => (run_extF (f := 62) (args := #[.int .u64 m1, .int .u64 y1, .int .u64 ca0]) _ _ _ rfl (by kernel_rfl) (by kernel_rfl) (r1 _))) ?_
  refine t_val (.tuple #[.int .u64 v1, .int .u64 ca1]) (by kernel_rfl) (by kernel_rfl) rfl (fun W => by kernel_rfl) ?_
  refine t_val (.int .u64 v1) (by kernel_rfl) (by kernel_rfl) rfl (fun W => by kernel_rfl) ?_
  refine t_val (.int .u64 ca1) (by kernel_rfl) (by kernel_rfl) rfl (fun W => by kernel_rfl) ?_
  refine t_val (.pointer (some ⟨g3, 1, none⟩)) (by kernel_rfl) (by kernel_rfl) rfl (fun W => by kernel_rfl) ?_
  refine t_store rfl ?_
  refine t_val (.int .u64 ca1) (by kernel_rfl) (by kernel_rfl) rfl (fun W => by kernel_rfl) ?_
  refine t_nil (hF _ (by kernel_rfl) fun W10 e10 => ?_)
  simp only [List.nil_append, List.cons_append, fins, up]
  clear hF
  have x10 : Ext w W10 := Ext.tr x9 e10
  have r3_10 := (row_ext r3_9 e10)
  refine te_store _ g3 _ (ints .u64 ([v0, v1, m2, m3])) 82 r3_10 rfl (run_storeI 25 _ _ g3 1 82 _ _ r3_10 rfl (by kernel_rfl) (by kernel_rfl) (by kernel_rfl) (Nat.lt_of_lt_of_eq (show 1 < 4 by decide) rfl.symm)) (fun W hp => trivial) fun W11 p11 r3_11 => ?_
  have x11 : Ext w W11 := Puts.ext p11 x10 b3
  refine te_nil ?_
  refine hK20 _ _ ?_
  try clear hK20 K20
  refine any_regionT (fun W => True) [⟨none, [(8, none)]⟩, ⟨none, [(8, none)]⟩, ⟨none, [(2, none), (28, some 1)]⟩, ⟨none, [(29, some 2)]⟩, ⟨none, [(8, none)]⟩, ⟨none, [(31, some 4)]⟩, ⟨none, [(32, some 5)]⟩, ⟨none, [(6, none)]⟩, ⟨none, [(30, some 3), (33, some 6), (34, some 7)]⟩, ⟨none, [(35, some 8)]⟩, ⟨none, [(26, some 9)]⟩, ⟨none, [(26, some 9)]⟩, ⟨none, [(7, none), (27, some 0)]⟩, ⟨none, [(38, some 12), (36, some 10)]⟩, ⟨none, [(37, some 11)]⟩] [] [11, 14] (by kernel_rfl) (by kernel_rfl) (by kernel_rfl) (fun W hR => trivial) fun F hF => ?_
  refine t_val (.int .i64 1) (by kernel_rfl) (by kernel_rfl) rfl (fun W => by kernel_rfl) ?_
  refine t_val (.int .i64 1) (by kernel_rfl) (by kernel_rfl) rfl (fun W => by kernel_rfl) ?_
  refine t_val (.pointer (some ⟨g3, 1, none⟩)) (by kernel_rfl) (by kernel_rfl) rfl (fun W => by kernel_rfl) ?_
  refine t_read (.int .u64 v1) (by kernel_rfl) (by kernel_rfl) (by kernel_rfl) rfl (fun W hR => (run_loadC1 25 _ g3 1 82 _ (.int .u64 v1) _ (row_ext (row_ext r3_11 (ext_drew _)) hR) rfl (by kernel_rfl) (by kernel_rfl) (by kernel_rfl))) ?_
  refine t_val (.int .i64 1) (by kernel_rfl) (by kernel_rfl) rfl (fun W => by kernel_rfl) ?_
  refine t_val (.pointer (some ⟨3, 1, none⟩)) (by kernel_rfl) (by kernel_rfl) rfl (fun W => by kernel_rfl) ?_
  have r1_11 := (Puts.row p11 (row_ext (Puts.row p9 (row_ext r1_7 e8) (ne_of_old r1_3 l8)) e10) (ne_of_old hO l3))
  refine t_read (.int .u64 1503914060200516822) (by kernel_rfl) (by kernel_rfl) (by kernel_rfl) rfl (fun W hR => (run_loadC1 25 _ 3 1 tO _ (.int .u64 1503914060200516822) _ (row_ext (row_ext r1_11 (ext_drew _)) hR) rfl (by kernel_rfl) (by kernel_rfl) (by kernel_rfl))) ?_
  refine t_val (.int .u64 d0) (by kernel_rfl) (by kernel_rfl) rfl (fun W => by kernel_rfl) ?_
  refine t_val (.tuple #[.int .u64 u1, .int .u64 d1]) (by kernel_rfl) (by kernel_rfl) rfl (fun W => (run_extF (f := 63) (args := #[.int .u64 v1, .int .u64 1503914060200516822, .int .u64 d0]) _ _ _ rfl (by kernel_rfl) (by kernel_rfl) (s1 _))) ?_
  refine t_val (.tuple #[.int .u64 u1, .int .u64 d1]) (by kernel_rfl) (by kernel_rfl) rfl (fun W => by kernel_rfl) ?_
  refine t_val (.int .u64 u1) (by kernel_rfl) (by kernel_rfl) rfl (fun W => by kernel_rfl) ?_
  refine t_val (.int .u64 d1) (by kernel_rfl) (by kernel_rfl) rfl (fun W => by kernel_rfl) ?_
  refine t_val (.pointer (some ⟨g8, 1, none⟩)) (by kernel_rfl) (by kernel_rfl) rfl (fun W => by kernel_rfl) ?_
  refine t_store rfl ?_
  refine t_val (.int .u64 d1) (by kernel_rfl) (by kernel_rfl) rfl (fun W => by kernel_rfl) ?_
  refine t_nil (hF _ (by kernel_rfl) fun W12 e12 => ?_)
  simp only [List.nil_append, List.cons_append, fins, up]
  clear hF
  have x12 : Ext w W12 := Ext.tr x11 e12
  have r8_12 := (row_ext (Puts.row p11 (row_ext r8_9 e10) (ne_of_new r3_3 l8)) e12)
  refine te_store _ g8 _ (ints .u64 ([u0, u1, m2, m3])) 82 r8_12 rfl (run_storeI 25 _ _ g8 1 82 _ _ r8_12 rfl (by kernel_rfl) (by kernel_rfl) (by kernel_rfl) (Nat.lt_of_lt_of_eq (show 1 < 4 by decide) rfl.symm)) (fun W hp => trivial) fun W13 p13 r8_13 => ?_
  have x13 : Ext w W13 := Puts.ext p13 x12 b8
  refine te_nil ?_
  refine hK18 _ _ ?_
  try clear hK18 K18
  refine region_lit ?_
  refine seq_val (.int .i64 2) 39 rfl (by kernel_rfl) (by kernel_rfl) ?_
  refine seq_val (.int .i64 2) 10 rfl (by kernel_rfl) (by kernel_rfl) ?_
  refine seq_nil ?_
  show Code.rounds _ _ _ 3 _ _
  show Code.wp _ _ (Exit.then (Code.rounds _ _ _ 2) _) _ _
  refine wp_seq_k fun K21 hK21 => ?_
  refine region_lit ?_
  refine seq_val (.bool true) 11 rfl (by kernel_rfl) (by kernel_rfl) ?_
  refine seq_nil ?_
  refine hK21 _ _ ?_
  try clear hK21 K21
  refine wp_seq_k fun K22 hK22 => ?_
  refine cond_true (by kernel_rfl) ?_
  refine wp_skip ?_
  refine hK22 _ _ ?_
  try clear hK22 K22
  refine wp_seq_k fun K23 hK23 => ?_
  refine wp_block ?_
  refine wp_seq_k fun K24 hK24 => ?_
  refine region_lit ?_
  refine seq_val (.int .i64 2) 12 rfl (by kernel_rfl) (by kernel_rfl) ?_
  refine seq_val (.int .i64 2) 8 rfl (by kernel_rfl) (by kernel_rfl) ?_
  refine seq_nil ?_
  refine hK24 _ _ ?_
  try clear hK24 K24
  refine wp_seq_k fun K25 hK25 => ?_
  refine any_regionT (fun W => True) [⟨none, [(8, none)]⟩, ⟨none, [(8, none)]⟩, ⟨none, [(2, none), (15, some 1)]⟩, ⟨none, [(16, some 2)]⟩, ⟨none, [(8, none)]⟩, ⟨none, [(3, none), (18, some 4)]⟩, ⟨none, [(19, some 5)]⟩, ⟨none, [(5, none)]⟩, ⟨none, [(17, some 3), (20, some 6), (21, some 7)]⟩, ⟨none, [(22, some 8)]⟩, ⟨none, [(13, some 9)]⟩, ⟨none, [(13, some 9)]⟩, ⟨none, [(2, none), (14, some 0)]⟩, ⟨none, [(25, some 12), (23, some 10)]⟩, ⟨none, [(24, some 11)]⟩] [] [11, 14] (by kernel_rfl) (by kernel_rfl) (by kernel_rfl) (fun W hR => trivial) fun F hF => ?_
  refine t_val (.int .i64 2) (by kernel_rfl) (by kernel_rfl) rfl (fun W => by kernel_rfl) ?_
  refine t_val (.int .i64 2) (by kernel_rfl) (by kernel_rfl) rfl (fun W => by kernel_rfl) ?_
  refine t_val (.pointer (some ⟨g3, 2, none⟩)) (by kernel_rfl) (by kernel_rfl) rfl (fun W => by kernel_rfl) ?_
  have r3_13 := (Puts.row p13 (row_ext r3_11 e12) (ne_of_old r3_3 l8))
  refine t_read (.int .u64 m2) (by kernel_rfl) (by kernel_rfl) (by kernel_rfl) rfl (fun W hR => (run_loadC1 25 _ g3 2 82 _ (.int .u64 m2) _ (row_ext (row_ext r3_13 (ext_drew _)) hR) rfl (by kernel_rfl) (by kernel_rfl) (by kernel_rfl))) ?_
  refine t_val (.int .i64 2) (by kernel_rfl) (by kernel_rfl) rfl (fun W => by kernel_rfl) ?_
  refine t_val (.pointer (some ⟨g4, 2, none⟩)) (by kernel_rfl) (by kernel_rfl) rfl (fun W => by kernel_rfl) ?_
  have r4_13 := (Puts.row p13 (row_ext (Puts.row p11 (row_ext r4_9 e10) (ne_of_new r3_1 l4)) e12) (ne_of_old r4_3 l8))
  refine t_read (.int .u64 y2) (by kernel_rfl) (by kernel_rfl) (by kernel_rfl) rfl (fun W hR => (run_loadC1 25 _ g4 2 82 _ (.int .u64 y2) _ (row_ext (row_ext r4_13 (ext_drew _)) hR) rfl (by kernel_rfl) (by kernel_rfl) (by kernel_rfl))) ?_
  refine t_val (.int .u64 ca1) (by kernel_rfl) (by kernel_rfl) rfl (fun W => by kernel_rfl) ?_
  refine t_val (.tuple #[.int .u64 v2, .int .u64 ca2]) (by kernel_rfl) (by kernel_rfl) rfl (fun W => (run_extF (f := 62) (args := #[.int .u64 m2, .int .u64 y2, .int .u64 ca1]) _ _ _ rfl (by kernel_rfl) (by kernel_rfl) (r2 _))) ?_
  refine t_val (.tuple #[.int .u64 v2, .int .u64 ca2]) (by kernel_rfl) (by kernel_rfl) rfl (fun W => by kernel_rfl) ?_
  refine t_val (.int .u64 v2) (by kernel_rfl) (by kernel_rfl) rfl (fun W => by kernel_rfl) ?_
  refine t_val (.int .u64 ca2) (by kernel_rfl) (by kernel_rfl) rfl (fun W => by kernel_rfl) ?_
  refine t_val (.pointer (some ⟨g3, 2, none⟩)) (by kernel_rfl) (by kernel_rfl) rfl (fun W => by kernel_rfl) ?_
  refine t_store rfl ?_
  refine t_val (.int .u64 ca2) (by kernel_rfl) (by kernel_rfl) rfl (fun W => by kernel_rfl) ?_
  refine t_nil (hF _ (by kernel_rfl) fun W14 e14 => ?_)
  simp only [List.nil_append, List.cons_append, fins, up]
  clear hF
  have x14 : Ext w W14 := Ext.tr x13 e14
  have r3_14 := (row_ext r3_13 e14)
  refine te_store _ g3 _ (ints .u64 ([v0, v1, v2, m3])) 82 r3_14 rfl (run_storeI 25 _ _ g3 2 82 _ _ r3_14 rfl (by kernel_rfl) (by kernel_rfl) (by kernel_rfl) (Nat.lt_of_lt_of_eq (show 2 < 4 by decide) rfl.symm)) (fun W hp => trivial) fun W15 p15 r3_15 => ?_
  have x15 : Ext w W15 := Puts.ext p15 x14 b3
  refine te_nil ?_
  refine hK25 _ _ ?_
  try clear hK25 K25
  refine any_regionT (fun W => True) [⟨none, [(8, none)]⟩, ⟨none, [(8, none)]⟩, ⟨none, [(2, none), (28, some 1)]⟩, ⟨none, [(29, some 2)]⟩, ⟨none, [(8, none)]⟩, ⟨none, [(31, some 4)]⟩, ⟨none, [(32, some 5)]⟩, ⟨none, [(6, none)]⟩, ⟨none, [(30, some 3), (33, some 6), (34, some 7)]⟩, ⟨none, [(35, some 8)]⟩, ⟨none, [(26, some 9)]⟩, ⟨none, [(26, some 9)]⟩, ⟨none, [(7, none), (27, some 0)]⟩, ⟨none, [(38, some 12), (36, some 10)]⟩, ⟨none, [(37, some 11)]⟩] [] [11, 14] (by kernel_rfl) (by kernel_rfl) (by kernel_rfl) (fun W hR => trivial) fun F hF => ?_
  refine t_val (.int .i64 2) (by kernel_rfl) (by kernel_rfl) rfl (fun W => by kernel_rfl) ?_
  refine t_val (.int .i64 2) (by kernel_rfl) (by kernel_rfl) rfl (fun W => by kernel_rfl) ?_
  refine t_val (.pointer (some ⟨g3, 2, none⟩)) (by kernel_rfl) (by kernel_rfl) rfl (fun W => by kernel_rfl) ?_
  refine t_read (.int .u64 v2) (by kernel_rfl) (by kernel_rfl) (by kernel_rfl) rfl (fun W hR => (run_loadC1 25 _ g3 2 82 _ (.int .u64 v2) _ (row_ext (row_ext r3_15 (ext_drew _)) hR) rfl (by kernel_rfl) (by kernel_rfl) (by kernel_rfl))) ?_
  refine t_val (.int .i64 2) (by kernel_rfl) (by kernel_rfl) rfl (fun W => by kernel_rfl) ?_
  refine t_val (.pointer (some ⟨3, 2, none⟩)) (by kernel_rfl) (by kernel_rfl) rfl (fun W => by kernel_rfl) ?_
  have r1_15 := (Puts.row p15 (row_ext (Puts.row p13 (row_ext r1_11 e12) (ne_of_old r1_3 l8)) e14) (ne_of_old hO l3))
  refine t_read (.int .u64 0) (by kernel_rfl) (by kernel_rfl) (by kernel_rfl) rfl (fun W hR => (run_loadC1 25 _ 3 2 tO _ (.int .u64 0) _ (row_ext (row_ext r1_15 (ext_drew _)) hR) rfl (by kernel_rfl) (by kernel_rfl) (by kernel_rfl))) ?_
  refine t_val (.int .u64 d1) (by kernel_rfl) (by kernel_rfl) rfl (fun W => by kernel_rfl) ?_
  refine t_val (.tuple #[.int .u64 u2, .int .u64 d2]) (by kernel_rfl) (by kernel_rfl) rfl (fun W => (run_extF (f := 63) (args := #[.int .u64 v2, .int .u64 0, .int .u64 d1]) _ _ _ rfl (by kernel_rfl) (by kernel_rfl) (s2 _))) ?_
  refine t_val (.tuple #[.int .u64 u2, .int .u64 d2]) (by kernel_rfl) (by kernel_rfl) rfl (fun W => by kernel_rfl) ?_
  refine t_val (.int .u64 u2) (by kernel_rfl) (by kernel_rfl) rfl (fun W => by kernel_rfl) ?_
  refine t_val (.int .u64 d2) (by kernel_rfl) (by kernel_rfl) rfl (fun W => by kernel_rfl) ?_
  refine t_val (.pointer (some ⟨g8, 2, none⟩)) (by kernel_rfl) (by kernel_rfl) rfl (fun W => by kernel_rfl) ?_
  refine t_store rfl ?_
  refine t_val (.int .u64 d2) (by kernel_rfl) (by kernel_rfl) rfl (fun W => by kernel_rfl) ?_
  refine t_nil (hF _ (by kernel_rfl) fun W16 e16 => ?_)
  simp only [List.nil_append, List.cons_append, fins, up]
  clear hF
  have x16 : Ext w W16 := Ext.tr x15 e16
  have r8_16 := (row_ext (Puts.row p15 (row_ext r8_13 e14) (ne_of_new r3_3 l8)) e16)
  refine te_store _ g8 _ (ints .u64 ([u0, u1, u2, m3])) 82 r8_16 rfl (run_storeI 25 _ _ g8 2 82 _ _ r8_16 rfl (by kernel_rfl) (by kernel_rfl) (by kernel_rfl) (Nat.lt_of_lt_of_eq (show 2 < 4 by decide) rfl.symm)) (fun W hp => trivial) fun W17 p17 r8_17 => ?_
  have x17 : Ext w W17 := Puts.ext p17 x16 b8
  refine te_nil ?_
  refine hK23 _ _ ?_
  try clear hK23 K23
  refine region_lit ?_
  refine seq_val (.int .i64 3) 39 rfl (by kernel_rfl) (by kernel_rfl) ?_
  refine seq_val (.int .i64 3) 10 rfl (by kernel_rfl) (by kernel_rfl) ?_
  refine seq_nil ?_
  show Code.rounds _ _ _ 2 _ _
  show Code.wp _ _ (Exit.then (Code.rounds _ _ _ 1) _) _ _
  refine wp_seq_k fun K26 hK26 => ?_
  refine region_lit ?_
  refine seq_val (.bool true) 11 rfl (by kernel_rfl) (by kernel_rfl) ?_
  refine seq_nil ?_
  refine hK26 _ _ ?_
  try clear hK26 K26
  refine wp_seq_k fun K27 hK27 => ?_
  refine cond_true (by kernel_rfl) ?_
  refine wp_skip ?_
  refine hK27 _ _ ?_
  try clear hK27 K27
  refine wp_seq_k fun K28 hK28 => ?_
  refine wp_block ?_
  refine wp_seq_k fun K29 hK29 => ?_
  refine region_lit ?_
  refine seq_val (.int .i64 3) 12 rfl (by kernel_rfl) (by kernel_rfl) ?_
  refine seq_val (.int .i64 3) 8 rfl (by kernel_rfl) (by kernel_rfl) ?_
  refine seq_nil ?_
  refine hK29 _ _ ?_
  try clear hK29 K29
  refine wp_seq_k fun K30 hK30 => ?_
  refine any_regionT (fun W => True) [⟨none, [(8, none)]⟩, ⟨none, [(8, none)]⟩, ⟨none, [(2, none), (15, some 1)]⟩, ⟨none, [(16, some 2)]⟩, ⟨none, [(8, none)]⟩, ⟨none, [(3, none), (18, some 4)]⟩, ⟨none, [(19, some 5)]⟩, ⟨none, [(5, none)]⟩, ⟨none, [(17, some 3), (20, some 6), (21, some 7)]⟩, ⟨none, [(22, some 8)]⟩, ⟨none, [(13, some 9)]⟩, ⟨none, [(13, some 9)]⟩, ⟨none, [(2, none), (14, some 0)]⟩, ⟨none, [(25, some 12), (23, some 10)]⟩, ⟨none, [(24, some 11)]⟩] [] [11, 14] (by kernel_rfl) (by kernel_rfl) (by kernel_rfl) (fun W hR => trivial) fun F hF => ?_
  refine t_val (.int .i64 3) (by kernel_rfl) (by kernel_rfl) rfl (fun W => by kernel_rfl) ?_
  refine t_val (.int .i64 3) (by kernel_rfl) (by kernel_rfl) rfl (fun W => by kernel_rfl) ?_
  refine t_val (.pointer (some ⟨g3, 3, none⟩)) (by kernel_rfl) (by kernel_rfl) rfl (fun W => by kernel_rfl) ?_
  have r3_17 := (Puts.row p17 (row_ext r3_15 e16) (ne_of_old r3_3 l8))
  refine t_read (.int .u64 m3) (by kernel_rfl) (by kernel_rfl) (by kernel_rfl) rfl (fun W hR => (run_loadC1 25 _ g3 3 82 _ (.int .u64 m3) _ (row_ext (row_ext r3_17 (ext_drew _)) hR) rfl (by kernel_rfl) (by kernel_rfl) (by kernel_rfl))) ?_
  refine t_val (.int .i64 3) (by kernel_rfl) (by kernel_rfl) rfl (fun W => by kernel_rfl) ?_
  refine t_val (.pointer (some ⟨g4, 3, none⟩)) (by kernel_rfl) (by kernel_rfl) rfl (fun W => by kernel_rfl) ?_
  have r4_17 := (Puts.row p17 (row_ext (Puts.row p15 (row_ext r4_13 e14) (ne_of_new r3_1 l4)) e16) (ne_of_old r4_3 l8))
  refine t_read (.int .u64 y3) (by kernel_rfl) (by kernel_rfl) (by kernel_rfl) rfl (fun W hR => (run_loadC1 25 _ g4 3 82 _ (.int .u64 y3) _ (row_ext (row_ext r4_17 (ext_drew _)) hR) rfl (by kernel_rfl) (by kernel_rfl) (by kernel_rfl))) ?_
  refine t_val (.int .u64 ca2) (by kernel_rfl) (by kernel_rfl) rfl (fun W => by kernel_rfl) ?_
  refine t_val (.tuple #[.int .u64 v3, .int .u64 ca3]) (by kernel_rfl) (by kernel_rfl) rfl (fun W => (run_extF (f := 62) (args := #[.int .u64 m3, .int .u64 y3, .int .u64 ca2]) _ _ _ rfl (by kernel_rfl) (by kernel_rfl) (r3 _))) ?_
  refine t_val (.tuple #[.int .u64 v3, .int .u64 ca3]) (by kernel_rfl) (by kernel_rfl) rfl (fun W => by kernel_rfl) ?_
  refine t_val (.int .u64 v3) (by kernel_rfl) (by kernel_rfl) rfl (fun W => by kernel_rfl) ?_
  refine t_val (.int .u64 ca3) (by kernel_rfl) (by kernel_rfl) rfl (fun W => by kernel_rfl) ?_
  refine t_val (.pointer (some ⟨g3, 3, none⟩)) (by kernel_rfl) (by kernel_rfl) rfl (fun W => by kernel_rfl) ?_
  refine t_store rfl ?_
  refine t_val (.int .u64 ca3) (by kernel_rfl) (by kernel_rfl) rfl (fun W => by kernel_rfl) ?_
  refine t_nil (hF _ (by kernel_rfl) fun W18 e18 => ?_)
  simp only [List.nil_append, List.cons_append, fins, up]
  clear hF
  have x18 : Ext w W18 := Ext.tr x17 e18
  have r3_18 := (row_ext r3_17 e18)
  refine te_store _ g3 _ (ints .u64 ([v0, v1, v2, v3])) 82 r3_18 rfl (run_storeI 25 _ _ g3 3 82 _ _ r3_18 rfl (by kernel_rfl) (by kernel_rfl) (by kernel_rfl) (Nat.lt_of_lt_of_eq (show 3 < 4 by decide) rfl.symm)) (fun W hp => trivial) fun W19 p19 r3_19 => ?_
  have x19 : Ext w W19 := Puts.ext p19 x18 b3
  refine te_nil ?_
  refine hK30 _ _ ?_
  try clear hK30 K30
  refine any_regionT (fun W => True) [⟨none, [(8, none)]⟩, ⟨none, [(8, none)]⟩, ⟨none, [(2, none), (28, some 1)]⟩, ⟨none, [(29, some 2)]⟩, ⟨none, [(8, none)]⟩, ⟨none, [(31, some 4)]⟩, ⟨none, [(32, some 5)]⟩, ⟨none, [(6, none)]⟩, ⟨none, [(30, some 3), (33, some 6), (34, some 7)]⟩, ⟨none, [(35, some 8)]⟩, ⟨none, [(26, some 9)]⟩, ⟨none, [(26, some 9)]⟩, ⟨none, [(7, none), (27, some 0)]⟩, ⟨none, [(38, some 12), (36, some 10)]⟩, ⟨none, [(37, some 11)]⟩] [] [11, 14] (by kernel_rfl) (by kernel_rfl) (by kernel_rfl) (fun W hR => trivial) fun F hF => ?_
  refine t_val (.int .i64 3) (by kernel_rfl) (by kernel_rfl) rfl (fun W => by kernel_rfl) ?_
  refine t_val (.int .i64 3) (by kernel_rfl) (by kernel_rfl) rfl (fun W => by kernel_rfl) ?_
  refine t_val (.pointer (some ⟨g3, 3, none⟩)) (by kernel_rfl) (by kernel_rfl) rfl (fun W => by kernel_rfl) ?_
  refine t_read (.int .u64 v3) (by kernel_rfl) (by kernel_rfl) (by kernel_rfl) rfl (fun W hR => (run_loadC1 25 _ g3 3 82 _ (.int .u64 v3) _ (row_ext (row_ext r3_19 (ext_drew _)) hR) rfl (by kernel_rfl) (by kernel_rfl) (by kernel_rfl))) ?_
  refine t_val (.int .i64 3) (by kernel_rfl) (by kernel_rfl) rfl (fun W => by kernel_rfl) ?_
  refine t_val (.pointer (some ⟨3, 3, none⟩)) (by kernel_rfl) (by kernel_rfl) rfl (fun W => by kernel_rfl) ?_
  have r1_19 := (Puts.row p19 (row_ext (Puts.row p17 (row_ext r1_15 e16) (ne_of_old r1_3 l8)) e18) (ne_of_old hO l3))
  refine t_read (.int .u64 1152921504606846976) (by kernel_rfl) (by kernel_rfl) (by kernel_rfl) rfl (fun W hR => (run_loadC1 25 _ 3 3 tO _ (.int .u64 1152921504606846976) _ (row_ext (row_ext r1_19 (ext_drew _)) hR) rfl (by kernel_rfl) (by kernel_rfl) (by kernel_rfl))) ?_
  refine t_val (.int .u64 d2) (by kernel_rfl) (by kernel_rfl) rfl (fun W => by kernel_rfl) ?_
  refine t_val (.tuple #[.int .u64 u3, .int .u64 1]) (by kernel_rfl) (by kernel_rfl) rfl (fun W => (run_extF (f := 63) (args := #[.int .u64 v3, .int .u64 1152921504606846976, .int .u64 d2]) _ _ _ rfl (by kernel_rfl) (by kernel_rfl) (s3 _))) ?_
  refine t_val (.tuple #[.int .u64 u3, .int .u64 1]) (by kernel_rfl) (by kernel_rfl) rfl (fun W => by kernel_rfl) ?_
  refine t_val (.int .u64 u3) (by kernel_rfl) (by kernel_rfl) rfl (fun W => by kernel_rfl) ?_
  refine t_val (.int .u64 1) (by kernel_rfl) (by kernel_rfl) rfl (fun W => by kernel_rfl) ?_
  refine t_val (.pointer (some ⟨g8, 3, none⟩)) (by kernel_rfl) (by kernel_rfl) rfl (fun W => by kernel_rfl) ?_
  refine t_store rfl ?_
  refine t_val (.int .u64 1) (by kernel_rfl) (by kernel_rfl) rfl (fun W => by kernel_rfl) ?_
  refine t_nil (hF _ (by kernel_rfl) fun W20 e20 => ?_)
  simp only [List.nil_append, List.cons_append, fins, up]
  clear hF
  have x20 : Ext w W20 := Ext.tr x19 e20
  have r8_20 := (row_ext (Puts.row p19 (row_ext r8_17 e18) (ne_of_new r3_3 l8)) e20)
  refine te_store _ g8 _ (ints .u64 ([u0, u1, u2, u3])) 82 r8_20 rfl (run_storeI 25 _ _ g8 3 82 _ _ r8_20 rfl (by kernel_rfl) (by kernel_rfl) (by kernel_rfl) (Nat.lt_of_lt_of_eq (show 3 < 4 by decide) rfl.symm)) (fun W hp => trivial) fun W21 p21 r8_21 => ?_
  have x21 : Ext w W21 := Puts.ext p21 x20 b8
  refine te_nil ?_
  refine hK28 _ _ ?_
  try clear hK28 K28
  refine region_lit ?_
  refine seq_val (.int .i64 4) 39 rfl (by kernel_rfl) (by kernel_rfl) ?_
  refine seq_val (.int .i64 4) 10 rfl (by kernel_rfl) (by kernel_rfl) ?_
  refine seq_nil ?_
  show Code.rounds _ _ _ 1 _ _
  show Code.wp _ _ (Exit.then (Code.rounds _ _ _ 0) _) _ _
  refine wp_seq_k fun K31 hK31 => ?_
  refine region_lit ?_
  refine seq_val (.bool false) 11 rfl (by kernel_rfl) (by kernel_rfl) ?_
  refine seq_nil ?_
  refine hK31 _ _ ?_
  try clear hK31 K31
  refine wp_seq_k fun K32 hK32 => ?_
  refine cond_false (by kernel_rfl) ?_
  refine wp_exit ?_
  refine hK9 _ _ ?_
  try clear hK9 K9
  refine wp_seq_k fun K33 hK33 => ?_
  refine wp_seq_k fun K34 hK34 => ?_
  refine region_lit ?_
  refine seq_val (.int .u64 1) 40 rfl (by kernel_rfl) (by kernel_rfl) ?_
  refine seq_val (.bool true) 41 rfl (by kernel_rfl) (by kernel_rfl) ?_
  refine seq_nil ?_
  refine hK34 _ _ ?_
  try clear hK34 K34
  refine cond_true (by kernel_rfl) ?_
  refine wp_seq_k fun K35 hK35 => ?_
  refine region_lit ?_
  have r3_21 := (Puts.row p21 (row_ext r3_19 e20) (ne_of_old r3_3 l8))
  refine seq_val (.agg (ints .u64 ([v0, v1, v2, v3]))) 42 rfl (by kernel_rfl) (run_load_row 82 _ g3 82 _ _ r3_21 rfl (by kernel_rfl) (by kernel_rfl) (isz (n := 4) (by kernel_rfl) (by kernel_rfl))) ?_
  have r3_2 := (row_ext r3_1 e2)
  have r5_21 := (Puts.row p21 (row_ext (Puts.row p19 (row_ext (Puts.row p17 (row_ext (Puts.row p15 (row_ext (Puts.row p13 (row_ext (Puts.row p11 (row_ext (Puts.row p9 (row_ext (Puts.row p7 (row_ext (Puts.row p5 (row_ext r5_3 e4) (ne_of_old r5_3 l8)) e6) (ne_of_new r3_2 l5)) e8) (ne_of_old r5_3 l8)) e10) (ne_of_new r3_2 l5)) e12) (ne_of_old r5_3 l8)) e14) (ne_of_new r3_2 l5)) e16) (ne_of_old r5_3 l8)) e18) (ne_of_new r3_2 l5)) e20) (ne_of_old r5_3 l8))
  refine seq_store g5 _ (ints .u64 ([v0, v1, v2, v3])) 82 r5_21 rfl (by kernel_rfl) (run_store_row 82 _ _ g5 82 _ _ r5_21 rfl (by kernel_rfl) (by kernel_rfl) (isz (n := 4) (by kernel_rfl) (by kernel_rfl)) (eqsz (n := 4) (by kernel_rfl) (by kernel_rfl)) (by kernel_rfl)) fun W22 p22 r5_22 => ?_
  have x22 : Ext w W22 := Puts.ext p22 x21 b5
  refine seq_nil ?_
  refine hK35 _ _ ?_
  try clear hK35 K35
  refine wp_ret ?_
  exact (show bodyPost _ _ _ .ret _ _ from ret1 (.agg (ints .u64 ([v0, v1, v2, v3]))) rfl (res_cell g5 82 _ r5_22 (by kernel_rfl) (by kernel_rfl) (isz (n := 4) (by kernel_rfl) (by kernel_rfl))) ⟨rfl, x22⟩)
set_option maxHeartbeats 4000000 in
theorem plus_0 (m0 m1 m2 m3 y0 y1 y2 y3 v0 v1 v2 v3 ca0 ca1 ca2 ca3 u0 u1 u2 u3 d0 d1 d2 : Int)
    (r0 : ∀ W, (callFunc 62 #[.int .u64 m0, .int .u64 y0, .int .u64 0]).run Tryd.prog W = .ok (.value (.tuple #[.int .u64 v0, .int .u64 ca0])) W)
    (s0 : ∀ W, (callFunc 63 #[.int .u64 v0, .int .u64 6346243789798364141, .int .u64 0]).run Tryd.prog W = .ok (.value (.tuple #[.int .u64 u0, .int .u64 d0])) W)
    (r1 : ∀ W, (callFunc 62 #[.int .u64 m1, .int .u64 y1, .int .u64 ca0]).run Tryd.prog W = .ok (.value (.tuple #[.int .u64 v1, .int .u64 ca1])) W)
    (s1 : ∀ W, (callFunc 63 #[.int .u64 v1, .int .u64 1503914060200516822, .int .u64 d0]).run Tryd.prog W = .ok (.value (.tuple #[.int .u64 u1, .int .u64 d1])) W)
    (r2 : ∀ W, (callFunc 62 #[.int .u64 m2, .int .u64 y2, .int .u64 ca1]).run Tryd.prog W = .ok (.value (.tuple #[.int .u64 v2, .int .u64 ca2])) W)
    (s2 : ∀ W, (callFunc 63 #[.int .u64 v2, .int .u64 0, .int .u64 d1]).run Tryd.prog W = .ok (.value (.tuple #[.int .u64 u2, .int .u64 d2])) W)
    (r3 : ∀ W, (callFunc 62 #[.int .u64 m3, .int .u64 y3, .int .u64 ca2]).run Tryd.prog W = .ok (.value (.tuple #[.int .u64 v3, .int .u64 ca3])) W)
    (s3 : ∀ W, (callFunc 63 #[.int .u64 v3, .int .u64 1152921504606846976, .int .u64 d2]).run Tryd.prog W = .ok (.value (.tuple #[.int .u64 u3, .int .u64 0])) W) (w : World) (tO : TypeId) (hO : w.heap[3]? = some (.cells orderA tO)) :
    Calls Tryd.prog 56 #[.agg #[.int .u64 m0, .int .u64 m1, .int .u64 m2, .int .u64 m3], .agg #[.int .u64 y0, .int .u64 y1, .int .u64 y2, .int .u64 y3]] w (Ret w (words u0 u1 u2 u3)) := by
  refine enter 44 [(0, .agg (ints .u64 ([m0, m1, m2, m3]))), (1, .agg (ints .u64 ([y0, y1, y2, y3])))] Tryd.func56 rfl rfl (by kernel_rfl) rfl ?_
  refine wp_seq_k fun K2 hK2 => ?_
  refine region_lit ?_
  refine seq_alloc (ints .u64 ([m0, m1, m2, m3])) 82 2 rfl (by kernel_rfl) (by kernel_rfl) fun g3 W1 l3 e1 r3_1 => ?_
  have x1 : Ext w W1 := Ext.tr (Rely.Ext.refl w) e1
  have b3 : w.heap.size ≤ g3 := Nat.le_trans (Rely.Ext.refl w).size l3
  refine seq_alloc (ints .u64 ([y0, y1, y2, y3])) 82 3 rfl (by kernel_rfl) (by kernel_rfl) fun g4 W2 l4 e2 r4_2 => ?_
  have x2 : Ext w W2 := Ext.tr x1 e2
  have b4 : w.heap.size ≤ g4 := Nat.le_trans x1.size l4
  refine seq_alloc (ints .u64 ([0, 0, 0, 0])) 82 4 rfl (by kernel_rfl) (by kernel_rfl) fun g5 W3 l5 e3 r5_3 => ?_
  have x3 : Ext w W3 := Ext.tr x2 e3
  have b5 : w.heap.size ≤ g5 := Nat.le_trans x2.size l5
  refine seq_nil ?_
  refine hK2 _ _ ?_
  try clear hK2 K2
  refine wp_seq_k fun K6 hK6 => ?_
  refine region_lit ?_
  refine seq_val (.int .u64 0) 5 rfl (by kernel_rfl) (by kernel_rfl) ?_
  refine seq_val (.int .u64 0) 6 rfl (by kernel_rfl) (by kernel_rfl) ?_
  refine seq_nil ?_
  refine hK6 _ _ ?_
  try clear hK6 K6
  refine wp_seq_k fun K7 hK7 => ?_
  refine region_lit ?_
  have r3_3 := (row_ext (row_ext r3_1 e2) e3)
  refine seq_val (.agg (ints .u64 ([m0, m1, m2, m3]))) 9 rfl (by kernel_rfl) (run_load_row 82 _ g3 82 _ _ r3_3 rfl (by kernel_rfl) (by kernel_rfl) (isz (n := 4) (by kernel_rfl) (by kernel_rfl))) ?_
  refine seq_alloc (ints .u64 ([0, 0, 0, 0])) 82 7 rfl (by kernel_rfl) (by kernel_rfl) fun g8 W4 l8 e4 r8_4 => ?_
  have x4 : Ext w W4 := Ext.tr x3 e4
  have b8 : w.heap.size ≤ g8 := Nat.le_trans x3.size l8
  refine seq_store g8 _ (ints .u64 ([m0, m1, m2, m3])) 82 r8_4 rfl (by kernel_rfl) (run_store_row 82 _ _ g8 82 _ _ r8_4 rfl (by kernel_rfl) (by kernel_rfl) (isz (n := 4) (by kernel_rfl) (by kernel_rfl)) (eqsz (n := 4) (by kernel_rfl) (by kernel_rfl)) (by kernel_rfl)) fun W5 p5 r8_5 => ?_
  have x5 : Ext w W5 := Puts.ext p5 x4 b8
  refine seq_nil ?_
  refine hK7 _ _ ?_
  try clear hK7 K7
  refine wp_seq_k fun K9 hK9 => ?_
  refine wp_seq_k fun K10 hK10 => ?_
  refine region_lit ?_
  refine seq_val (.int .i64 0) 10 rfl (by kernel_rfl) (by kernel_rfl) ?_
  refine seq_nil ?_
  refine hK10 _ _ ?_
  try clear hK10 K10
  refine wp_block ?_
  refine wp_loop_rounds 5 ?_
  show Code.wp _ _ (Exit.then (Code.rounds _ _ _ 4) _) _ _
  refine wp_seq_k fun K11 hK11 => ?_
  refine region_lit ?_
  refine seq_val (.bool true) 11 rfl (by kernel_rfl) (by kernel_rfl) ?_
  refine seq_nil ?_
  refine hK11 _ _ ?_
  try clear hK11 K11
  refine wp_seq_k fun K12 hK12 => ?_
  refine cond_true (by kernel_rfl) ?_
  refine wp_skip ?_
  refine hK12 _ _ ?_
  try clear hK12 K12
  refine wp_seq_k fun K13 hK13 => ?_
  refine wp_block ?_
  refine wp_seq_k fun K14 hK14 => ?_
  refine region_lit ?_
  refine seq_val (.int .i64 0) 12 rfl (by kernel_rfl) (by kernel_rfl) ?_
  refine seq_val (.int .i64 0) 8 rfl (by kernel_rfl) (by kernel_rfl) ?_
  refine seq_nil ?_
  refine hK14 _ _ ?_
  try clear hK14 K14
  refine wp_seq_k fun K15 hK15 => ?_
  refine any_regionT (fun W => True) [⟨none, [(8, none)]⟩, ⟨none, [(8, none)]⟩, ⟨none, [(2, none), (15, some 1)]⟩, ⟨none, [(16, some 2)]⟩, ⟨none, [(8, none)]⟩, ⟨none, [(3, none), (18, some 4)]⟩, ⟨none, [(19, some 5)]⟩, ⟨none, [(5, none)]⟩, ⟨none, [(17, some 3), (20, some 6), (21, some 7)]⟩, ⟨none, [(22, some 8)]⟩, ⟨none, [(13, some 9)]⟩, ⟨none, [(13, some 9)]⟩, ⟨none, [(2, none), (14, some 0)]⟩, ⟨none, [(25, some 12), (23, some 10)]⟩, ⟨none, [(24, some 11)]⟩] [] [11, 14] (by kernel_rfl) (by kernel_rfl) (by kernel_rfl) (fun W hR => trivial) fun F hF => ?_
  refine t_val (.int .i64 0) (by kernel_rfl) (by kernel_rfl) rfl (fun W => by kernel_rfl) ?_
  refine t_val (.int .i64 0) (by kernel_rfl) (by kernel_rfl) rfl (fun W => by kernel_rfl) ?_
  refine t_val (.pointer (some ⟨g3, 0, none⟩)) (by kernel_rfl) (by kernel_rfl) rfl (fun W => by kernel_rfl) ?_
  have r3_5 := (Puts.row p5 (row_ext r3_3 e4) (ne_of_old r3_3 l8))
  refine t_read (.int .u64 m0) (by kernel_rfl) (by kernel_rfl) (by kernel_rfl) rfl (fun W hR => (run_loadC1 25 _ g3 0 82 _ (.int .u64 m0) _ (row_ext (row_ext r3_5 (ext_drew _)) hR) rfl (by kernel_rfl) (by kernel_rfl) (by kernel_rfl))) ?_
  refine t_val (.int .i64 0) (by kernel_rfl) (by kernel_rfl) rfl (fun W => by kernel_rfl) ?_
  refine t_val (.pointer (some ⟨g4, 0, none⟩)) (by kernel_rfl) (by kernel_rfl) rfl (fun W => by kernel_rfl) ?_
  have r4_3 := (row_ext r4_2 e3)
  have r4_5 := (Puts.row p5 (row_ext (row_ext r4_2 e3) e4) (ne_of_old r4_3 l8))
  refine t_read (.int .u64 y0) (by kernel_rfl) (by kernel_rfl) (by kernel_rfl) rfl (fun W hR => (run_loadC1 25 _ g4 0 82 _ (.int .u64 y0) _ (row_ext (row_ext r4_5 (ext_drew _)) hR) rfl (by kernel_rfl) (by kernel_rfl) (by kernel_rfl))) ?_
  refine t_val (.int .u64 0) (by kernel_rfl) (by kernel_rfl) rfl (fun W => by kernel_rfl) ?_
  refine t_val (.tuple #[.int .u64 v0, .int .u64 ca0]) (by kernel_rfl) (by kernel_rfl) rfl (fun W => (run_extF (f := 62) (args := #[.int .u64 m0, .int .u64 y0, .int .u64 0]) _ _ _ rfl (by kernel_rfl) (by kernel_rfl) (r0 _))) ?_
  refine t_val (.tuple #[.int .u64 v0, .int .u64 ca0]) (by kernel_rfl) (by kernel_rfl) rfl (fun W => by kernel_rfl) ?_
  refine t_val (.int .u64 v0) (by kernel_rfl) (by kernel_rfl) rfl (fun W => by kernel_rfl) ?_
  refine t_val (.int .u64 ca0) (by kernel_rfl) (by kernel_rfl) rfl (fun W => by kernel_rfl) ?_
  refine t_val (.pointer (some ⟨g3, 0, none⟩)) (by kernel_rfl) (by kernel_rfl) rfl (fun W => by kernel_rfl) ?_
  refine t_store rfl ?_
  refine t_val (.int .u64 ca0) (by kernel_rfl) (by kernel_rfl) rfl (fun W => by kernel_rfl) ?_
  refine t_nil (hF _ (by kernel_rfl) fun W6 e6 => ?_)
  simp only [List.nil_append, List.cons_append, fins, up]
  clear hF
  have x6 : Ext w W6 := Ext.tr x5 e6
  have r3_6 := (row_ext r3_5 e6)
  refine te_store _ g3 _ (ints .u64 ([v0, m1, m2, m3])) 82 r3_6 rfl (run_storeI 25 _ _ g3 0 82 _ _ r3_6 rfl (by kernel_rfl) (by kernel_rfl) (by kernel_rfl) (Nat.lt_of_lt_of_eq (show 0 < 4 by decide) rfl.symm)) (fun W hp => trivial) fun W7 p7 r3_7 => ?_
  have x7 : Ext w W7 := Puts.ext p7 x6 b3
  refine te_nil ?_
  refine hK15 _ _ ?_
  try clear hK15 K15
  refine any_regionT (fun W => True) [⟨none, [(8, none)]⟩, ⟨none, [(8, none)]⟩, ⟨none, [(2, none), (28, some 1)]⟩, ⟨none, [(29, some 2)]⟩, ⟨none, [(8, none)]⟩, ⟨none, [(31, some 4)]⟩, ⟨none, [(32, some 5)]⟩, ⟨none, [(6, none)]⟩, ⟨none, [(30, some 3), (33, some 6), (34, some 7)]⟩, ⟨none, [(35, some 8)]⟩, ⟨none, [(26, some 9)]⟩, ⟨none, [(26, some 9)]⟩, ⟨none, [(7, none), (27, some 0)]⟩, ⟨none, [(38, some 12), (36, some 10)]⟩, ⟨none, [(37, some 11)]⟩] [] [11, 14] (by kernel_rfl) (by kernel_rfl) (by kernel_rfl) (fun W hR => trivial) fun F hF => ?_
  refine t_val (.int .i64 0) (by kernel_rfl) (by kernel_rfl) rfl (fun W => by kernel_rfl) ?_
  refine t_val (.int .i64 0) (by kernel_rfl) (by kernel_rfl) rfl (fun W => by kernel_rfl) ?_
  refine t_val (.pointer (some ⟨g3, 0, none⟩)) (by kernel_rfl) (by kernel_rfl) rfl (fun W => by kernel_rfl) ?_
  refine t_read (.int .u64 v0) (by kernel_rfl) (by kernel_rfl) (by kernel_rfl) rfl (fun W hR => (run_loadC1 25 _ g3 0 82 _ (.int .u64 v0) _ (row_ext (row_ext r3_7 (ext_drew _)) hR) rfl (by kernel_rfl) (by kernel_rfl) (by kernel_rfl))) ?_
  refine t_val (.int .i64 0) (by kernel_rfl) (by kernel_rfl) rfl (fun W => by kernel_rfl) ?_
  refine t_val (.pointer (some ⟨3, 0, none⟩)) (by kernel_rfl) (by kernel_rfl) rfl (fun W => by kernel_rfl) ?_
  have r1_3 := (row_ext (row_ext (row_ext hO e1) e2) e3)
  have r1_7 := (Puts.row p7 (row_ext (Puts.row p5 (row_ext (row_ext (row_ext (row_ext hO e1) e2) e3) e4) (ne_of_old r1_3 l8)) e6) (ne_of_old hO l3))
  refine t_read (.int .u64 6346243789798364141) (by kernel_rfl) (by kernel_rfl) (by kernel_rfl) rfl (fun W hR => (run_loadC1 25 _ 3 0 tO _ (.int .u64 6346243789798364141) _ (row_ext (row_ext r1_7 (ext_drew _)) hR) rfl (by kernel_rfl) (by kernel_rfl) (by kernel_rfl))) ?_
  refine t_val (.int .u64 0) (by kernel_rfl) (by kernel_rfl) rfl (fun W => by kernel_rfl) ?_
  refine t_val (.tuple #[.int .u64 u0, .int .u64 d0]) (by kernel_rfl) (by kernel_rfl) rfl (fun W => (run_extF (f := 63) (args := #[.int .u64 v0, .int .u64 6346243789798364141, .int .u64 0]) _ _ _ rfl (by kernel_rfl) (by kernel_rfl) (s0 _))) ?_
  refine t_val (.tuple #[.int .u64 u0, .int .u64 d0]) (by kernel_rfl) (by kernel_rfl) rfl (fun W => by kernel_rfl) ?_
  refine t_val (.int .u64 u0) (by kernel_rfl) (by kernel_rfl) rfl (fun W => by kernel_rfl) ?_
  refine t_val (.int .u64 d0) (by kernel_rfl) (by kernel_rfl) rfl (fun W => by kernel_rfl) ?_
  refine t_val (.pointer (some ⟨g8, 0, none⟩)) (by kernel_rfl) (by kernel_rfl) rfl (fun W => by kernel_rfl) ?_
  refine t_store rfl ?_
  refine t_val (.int .u64 d0) (by kernel_rfl) (by kernel_rfl) rfl (fun W => by kernel_rfl) ?_
  refine t_nil (hF _ (by kernel_rfl) fun W8 e8 => ?_)
  simp only [List.nil_append, List.cons_append, fins, up]
  clear hF
  have x8 : Ext w W8 := Ext.tr x7 e8
  have r8_8 := (row_ext (Puts.row p7 (row_ext r8_5 e6) (ne_of_new r3_3 l8)) e8)
  refine te_store _ g8 _ (ints .u64 ([u0, m1, m2, m3])) 82 r8_8 rfl (run_storeI 25 _ _ g8 0 82 _ _ r8_8 rfl (by kernel_rfl) (by kernel_rfl) (by kernel_rfl) (Nat.lt_of_lt_of_eq (show 0 < 4 by decide) rfl.symm)) (fun W hp => trivial) fun W9 p9 r8_9 => ?_
  have x9 : Ext w W9 := Puts.ext p9 x8 b8
  refine te_nil ?_
  refine hK13 _ _ ?_
  try clear hK13 K13
  refine region_lit ?_
  refine seq_val (.int .i64 1) 39 rfl (by kernel_rfl) (by kernel_rfl) ?_
  refine seq_val (.int .i64 1) 10 rfl (by kernel_rfl) (by kernel_rfl) ?_
  refine seq_nil ?_
  show Code.rounds _ _ _ 4 _ _
  show Code.wp _ _ (Exit.then (Code.rounds _ _ _ 3) _) _ _
  refine wp_seq_k fun K16 hK16 => ?_
  refine region_lit ?_
  refine seq_val (.bool true) 11 rfl (by kernel_rfl) (by kernel_rfl) ?_
  refine seq_nil ?_
  refine hK16 _ _ ?_
  try clear hK16 K16
  refine wp_seq_k fun K17 hK17 => ?_
  refine cond_true (by kernel_rfl) ?_
  refine wp_skip ?_
  refine hK17 _ _ ?_
  try clear hK17 K17
  refine wp_seq_k fun K18 hK18 => ?_
  refine wp_block ?_
  refine wp_seq_k fun K19 hK19 => ?_
  refine region_lit ?_
  refine seq_val (.int .i64 1) 12 rfl (by kernel_rfl) (by kernel_rfl) ?_
  refine seq_val (.int .i64 1) 8 rfl (by kernel_rfl) (by kernel_rfl) ?_
  refine seq_nil ?_
  refine hK19 _ _ ?_
  try clear hK19 K19
  refine wp_seq_k fun K20 hK20 => ?_
  refine any_regionT (fun W => True) [⟨none, [(8, none)]⟩, ⟨none, [(8, none)]⟩, ⟨none, [(2, none), (15, some 1)]⟩, ⟨none, [(16, some 2)]⟩, ⟨none, [(8, none)]⟩, ⟨none, [(3, none), (18, some 4)]⟩, ⟨none, [(19, some 5)]⟩, ⟨none, [(5, none)]⟩, ⟨none, [(17, some 3), (20, some 6), (21, some 7)]⟩, ⟨none, [(22, some 8)]⟩, ⟨none, [(13, some 9)]⟩, ⟨none, [(13, some 9)]⟩, ⟨none, [(2, none), (14, some 0)]⟩, ⟨none, [(25, some 12), (23, some 10)]⟩, ⟨none, [(24, some 11)]⟩] [] [11, 14] (by kernel_rfl) (by kernel_rfl) (by kernel_rfl) (fun W hR => trivial) fun F hF => ?_
  refine t_val (.int .i64 1) (by kernel_rfl) (by kernel_rfl) rfl (fun W => by kernel_rfl) ?_
  refine t_val (.int .i64 1) (by kernel_rfl) (by kernel_rfl) rfl (fun W => by kernel_rfl) ?_
  refine t_val (.pointer (some ⟨g3, 1, none⟩)) (by kernel_rfl) (by kernel_rfl) rfl (fun W => by kernel_rfl) ?_
  have r3_9 := (Puts.row p9 (row_ext r3_7 e8) (ne_of_old r3_3 l8))
  refine t_read (.int .u64 m1) (by kernel_rfl) (by kernel_rfl) (by kernel_rfl) rfl (fun W hR => (run_loadC1 25 _ g3 1 82 _ (.int .u64 m1) _ (row_ext (row_ext r3_9 (ext_drew _)) hR) rfl (by kernel_rfl) (by kernel_rfl) (by kernel_rfl))) ?_
  refine t_val (.int .i64 1) (by kernel_rfl) (by kernel_rfl) rfl (fun W => by kernel_rfl) ?_
  refine t_val (.pointer (some ⟨g4, 1, none⟩)) (by kernel_rfl) (by kernel_rfl) rfl (fun W => by kernel_rfl) ?_
  have r4_9 := (Puts.row p9 (row_ext (Puts.row p7 (row_ext r4_5 e6) (ne_of_new r3_1 l4)) e8) (ne_of_old r4_3 l8))
  refine t_read (.int .u64 y1) (by kernel_rfl) (by kernel_rfl) (by kernel_rfl) rfl (fun W hR => (run_loadC1 25 _ g4 1 82 _ (.int .u64 y1) _ (row_ext (row_ext r4_9 (ext_drew _)) hR) rfl (by kernel_rfl) (by kernel_rfl) (by kernel_rfl))) ?_
  refine t_val (.int .u64 ca0) (by kernel_rfl) (by kernel_rfl) rfl (fun W => by kernel_rfl) ?_
  refine t_val (.tuple #[.int .u64 v1, .int .u64 ca1]) (by kernel_rfl) (by kernel_rfl) rfl (fun W => (run_extF (f := 62) (args := #[.int .u64 m1, .int .u64 y1, .int .u64 ca0]) _ _ _ rfl (by kernel_rfl) (by kernel_rfl) (r1 _))) ?_
  refine t_val (.tuple #[.int .u64 v1, .int .u64 ca1]) (by kernel_rfl) (by kernel_rfl) rfl (fun W => by kernel_rfl) ?_
  refine t_val (.int .u64 v1) (by kernel_rfl) (by kernel_rfl) rfl (fun W => by kernel_rfl) ?_
  refine t_val (.int .u64 ca1) (by kernel_rfl) (by kernel_rfl) rfl (fun W => by kernel_rfl) ?_
  refine t_val (.pointer (some ⟨g3, 1, none⟩)) (by kernel_rfl) (by kernel_rfl) rfl (fun W => by kernel_rfl) ?_
  refine t_store rfl ?_
  refine t_val (.int .u64 ca1) (by kernel_rfl) (by kernel_rfl) rfl (fun W => by kernel_rfl) ?_
  refine t_nil (hF _ (by kernel_rfl) fun W10 e10 => ?_)
  simp only [List.nil_append, List.cons_append, fins, up]
  clear hF
  have x10 : Ext w W10 := Ext.tr x9 e10
  have r3_10 := (row_ext r3_9 e10)
  refine te_store _ g3 _ (ints .u64 ([v0, v1, m2, m3])) 82 r3_10 rfl (run_storeI 25 _ _ g3 1 82 _ _ r3_10 rfl (by kernel_rfl) (by kernel_rfl) (by kernel_rfl) (Nat.lt_of_lt_of_eq (show 1 < 4 by decide) rfl.symm)) (fun W hp => trivial) fun W11 p11 r3_11 => ?_
  have x11 : Ext w W11 := Puts.ext p11 x10 b3
  refine te_nil ?_
  refine hK20 _ _ ?_
  try clear hK20 K20
  refine any_regionT (fun W => True) [⟨none, [(8, none)]⟩, ⟨none, [(8, none)]⟩, ⟨none, [(2, none), (28, some 1)]⟩, ⟨none, [(29, some 2)]⟩, ⟨none, [(8, none)]⟩, ⟨none, [(31, some 4)]⟩, ⟨none, [(32, some 5)]⟩, ⟨none, [(6, none)]⟩, ⟨none, [(30, some 3), (33, some 6), (34, some 7)]⟩, ⟨none, [(35, some 8)]⟩, ⟨none, [(26, some 9)]⟩, ⟨none, [(26, some 9)]⟩, ⟨none, [(7, none), (27, some 0)]⟩, ⟨none, [(38, some 12), (36, some 10)]⟩, ⟨none, [(37, some 11)]⟩] [] [11, 14] (by kernel_rfl) (by kernel_rfl) (by kernel_rfl) (fun W hR => trivial) fun F hF => ?_
  refine t_val (.int .i64 1) (by kernel_rfl) (by kernel_rfl) rfl (fun W => by kernel_rfl) ?_
  refine t_val (.int .i64 1) (by kernel_rfl) (by kernel_rfl) rfl (fun W => by kernel_rfl) ?_
  refine t_val (.pointer (some ⟨g3, 1, none⟩)) (by kernel_rfl) (by kernel_rfl) rfl (fun W => by kernel_rfl) ?_
  refine t_read (.int .u64 v1) (by kernel_rfl) (by kernel_rfl) (by kernel_rfl) rfl (fun W hR => (run_loadC1 25 _ g3 1 82 _ (.int .u64 v1) _ (row_ext (row_ext r3_11 (ext_drew _)) hR) rfl (by kernel_rfl) (by kernel_rfl) (by kernel_rfl))) ?_
  refine t_val (.int .i64 1) (by kernel_rfl) (by kernel_rfl) rfl (fun W => by kernel_rfl) ?_
  refine t_val (.pointer (some ⟨3, 1, none⟩)) (by kernel_rfl) (by kernel_rfl) rfl (fun W => by kernel_rfl) ?_
  have r1_11 := (Puts.row p11 (row_ext (Puts.row p9 (row_ext r1_7 e8) (ne_of_old r1_3 l8)) e10) (ne_of_old hO l3))
  refine t_read (.int .u64 1503914060200516822) (by kernel_rfl) (by kernel_rfl) (by kernel_rfl) rfl (fun W hR => (run_loadC1 25 _ 3 1 tO _ (.int .u64 1503914060200516822) _ (row_ext (row_ext r1_11 (ext_drew _)) hR) rfl (by kernel_rfl) (by kernel_rfl) (by kernel_rfl))) ?_
  refine t_val (.int .u64 d0) (by kernel_rfl) (by kernel_rfl) rfl (fun W => by kernel_rfl) ?_
  refine t_val (.tuple #[.int .u64 u1, .int .u64 d1]) (by kernel_rfl) (by kernel_rfl) rfl (fun W => (run_extF (f := 63) (args := #[.int .u64 v1, .int .u64 1503914060200516822, .int .u64 d0]) _ _ _ rfl (by kernel_rfl) (by kernel_rfl) (s1 _))) ?_
  refine t_val (.tuple #[.int .u64 u1, .int .u64 d1]) (by kernel_rfl) (by kernel_rfl) rfl (fun W => by kernel_rfl) ?_
  refine t_val (.int .u64 u1) (by kernel_rfl) (by kernel_rfl) rfl (fun W => by kernel_rfl) ?_
  refine t_val (.int .u64 d1) (by kernel_rfl) (by kernel_rfl) rfl (fun W => by kernel_rfl) ?_
  refine t_val (.pointer (some ⟨g8, 1, none⟩)) (by kernel_rfl) (by kernel_rfl) rfl (fun W => by kernel_rfl) ?_
  refine t_store rfl ?_
  refine t_val (.int .u64 d1) (by kernel_rfl) (by kernel_rfl) rfl (fun W => by kernel_rfl) ?_
  refine t_nil (hF _ (by kernel_rfl) fun W12 e12 => ?_)
  simp only [List.nil_append, List.cons_append, fins, up]
  clear hF
  have x12 : Ext w W12 := Ext.tr x11 e12
  have r8_12 := (row_ext (Puts.row p11 (row_ext r8_9 e10) (ne_of_new r3_3 l8)) e12)
  refine te_store _ g8 _ (ints .u64 ([u0, u1, m2, m3])) 82 r8_12 rfl (run_storeI 25 _ _ g8 1 82 _ _ r8_12 rfl (by kernel_rfl) (by kernel_rfl) (by kernel_rfl) (Nat.lt_of_lt_of_eq (show 1 < 4 by decide) rfl.symm)) (fun W hp => trivial) fun W13 p13 r8_13 => ?_
  have x13 : Ext w W13 := Puts.ext p13 x12 b8
  refine te_nil ?_
  refine hK18 _ _ ?_
  try clear hK18 K18
  refine region_lit ?_
  refine seq_val (.int .i64 2) 39 rfl (by kernel_rfl) (by kernel_rfl) ?_
  refine seq_val (.int .i64 2) 10 rfl (by kernel_rfl) (by kernel_rfl) ?_
  refine seq_nil ?_
  show Code.rounds _ _ _ 3 _ _
  show Code.wp _ _ (Exit.then (Code.rounds _ _ _ 2) _) _ _
  refine wp_seq_k fun K21 hK21 => ?_
  refine region_lit ?_
  refine seq_val (.bool true) 11 rfl (by kernel_rfl) (by kernel_rfl) ?_
  refine seq_nil ?_
  refine hK21 _ _ ?_
  try clear hK21 K21
  refine wp_seq_k fun K22 hK22 => ?_
  refine cond_true (by kernel_rfl) ?_
  refine wp_skip ?_
  refine hK22 _ _ ?_
  try clear hK22 K22
  refine wp_seq_k fun K23 hK23 => ?_
  refine wp_block ?_
  refine wp_seq_k fun K24 hK24 => ?_
  refine region_lit ?_
  refine seq_val (.int .i64 2) 12 rfl (by kernel_rfl) (by kernel_rfl) ?_
  refine seq_val (.int .i64 2) 8 rfl (by kernel_rfl) (by kernel_rfl) ?_
  refine seq_nil ?_
  refine hK24 _ _ ?_
  try clear hK24 K24
  refine wp_seq_k fun K25 hK25 => ?_
  refine any_regionT (fun W => True) [⟨none, [(8, none)]⟩, ⟨none, [(8, none)]⟩, ⟨none, [(2, none), (15, some 1)]⟩, ⟨none, [(16, some 2)]⟩, ⟨none, [(8, none)]⟩, ⟨none, [(3, none), (18, some 4)]⟩, ⟨none, [(19, some 5)]⟩, ⟨none, [(5, none)]⟩, ⟨none, [(17, some 3), (20, some 6), (21, some 7)]⟩, ⟨none, [(22, some 8)]⟩, ⟨none, [(13, some 9)]⟩, ⟨none, [(13, some 9)]⟩, ⟨none, [(2, none), (14, some 0)]⟩, ⟨none, [(25, some 12), (23, some 10)]⟩, ⟨none, [(24, some 11)]⟩] [] [11, 14] (by kernel_rfl) (by kernel_rfl) (by kernel_rfl) (fun W hR => trivial) fun F hF => ?_
  refine t_val (.int .i64 2) (by kernel_rfl) (by kernel_rfl) rfl (fun W => by kernel_rfl) ?_
  refine t_val (.int .i64 2) (by kernel_rfl) (by kernel_rfl) rfl (fun W => by kernel_rfl) ?_
  refine t_val (.pointer (some ⟨g3, 2, none⟩)) (by kernel_rfl) (by kernel_rfl) rfl (fun W => by kernel_rfl) ?_
  have r3_13 := (Puts.row p13 (row_ext r3_11 e12) (ne_of_old r3_3 l8))
  refine t_read (.int .u64 m2) (by kernel_rfl) (by kernel_rfl) (by kernel_rfl) rfl (fun W hR => (run_loadC1 25 _ g3 2 82 _ (.int .u64 m2) _ (row_ext (row_ext r3_13 (ext_drew _)) hR) rfl (by kernel_rfl) (by kernel_rfl) (by kernel_rfl))) ?_
  refine t_val (.int .i64 2) (by kernel_rfl) (by kernel_rfl) rfl (fun W => by kernel_rfl) ?_
  refine t_val (.pointer (some ⟨g4, 2, none⟩)) (by kernel_rfl) (by kernel_rfl) rfl (fun W => by kernel_rfl) ?_
  have r4_13 := (Puts.row p13 (row_ext (Puts.row p11 (row_ext r4_9 e10) (ne_of_new r3_1 l4)) e12) (ne_of_old r4_3 l8))
  refine t_read (.int .u64 y2) (by kernel_rfl) (by kernel_rfl) (by kernel_rfl) rfl (fun W hR => (run_loadC1 25 _ g4 2 82 _ (.int .u64 y2) _ (row_ext (row_ext r4_13 (ext_drew _)) hR) rfl (by kernel_rfl) (by kernel_rfl) (by kernel_rfl))) ?_
  refine t_val (.int .u64 ca1) (by kernel_rfl) (by kernel_rfl) rfl (fun W => by kernel_rfl) ?_
  refine t_val (.tuple #[.int .u64 v2, .int .u64 ca2]) (by kernel_rfl) (by kernel_rfl) rfl (fun W => (run_extF (f := 62) (args := #[.int .u64 m2, .int .u64 y2, .int .u64 ca1]) _ _ _ rfl (by kernel_rfl) (by kernel_rfl) (r2 _))) ?_
  refine t_val (.tuple #[.int .u64 v2, .int .u64 ca2]) (by kernel_rfl) (by kernel_rfl) rfl (fun W => by kernel_rfl) ?_
  refine t_val (.int .u64 v2) (by kernel_rfl) (by kernel_rfl) rfl (fun W => by kernel_rfl) ?_
  refine t_val (.int .u64 ca2) (by kernel_rfl) (by kernel_rfl) rfl (fun W => by kernel_rfl) ?_
  refine t_val (.pointer (some ⟨g3, 2, none⟩)) (by kernel_rfl) (by kernel_rfl) rfl (fun W => by kernel_rfl) ?_
  refine t_store rfl ?_
  refine t_val (.int .u64 ca2) (by kernel_rfl) (by kernel_rfl) rfl (fun W => by kernel_rfl) ?_
  refine t_nil (hF _ (by kernel_rfl) fun W14 e14 => ?_)
  simp only [List.nil_append, List.cons_append, fins, up]
  clear hF
  have x14 : Ext w W14 := Ext.tr x13 e14
  have r3_14 := (row_ext r3_13 e14)
  refine te_store _ g3 _ (ints .u64 ([v0, v1, v2, m3])) 82 r3_14 rfl (run_storeI 25 _ _ g3 2 82 _ _ r3_14 rfl (by kernel_rfl) (by kernel_rfl) (by kernel_rfl) (Nat.lt_of_lt_of_eq (show 2 < 4 by decide) rfl.symm)) (fun W hp => trivial) fun W15 p15 r3_15 => ?_
  have x15 : Ext w W15 := Puts.ext p15 x14 b3
  refine te_nil ?_
  refine hK25 _ _ ?_
  try clear hK25 K25
  refine any_regionT (fun W => True) [⟨none, [(8, none)]⟩, ⟨none, [(8, none)]⟩, ⟨none, [(2, none), (28, some 1)]⟩, ⟨none, [(29, some 2)]⟩, ⟨none, [(8, none)]⟩, ⟨none, [(31, some 4)]⟩, ⟨none, [(32, some 5)]⟩, ⟨none, [(6, none)]⟩, ⟨none, [(30, some 3), (33, some 6), (34, some 7)]⟩, ⟨none, [(35, some 8)]⟩, ⟨none, [(26, some 9)]⟩, ⟨none, [(26, some 9)]⟩, ⟨none, [(7, none), (27, some 0)]⟩, ⟨none, [(38, some 12), (36, some 10)]⟩, ⟨none, [(37, some 11)]⟩] [] [11, 14] (by kernel_rfl) (by kernel_rfl) (by kernel_rfl) (fun W hR => trivial) fun F hF => ?_
  refine t_val (.int .i64 2) (by kernel_rfl) (by kernel_rfl) rfl (fun W => by kernel_rfl) ?_
  refine t_val (.int .i64 2) (by kernel_rfl) (by kernel_rfl) rfl (fun W => by kernel_rfl) ?_
  refine t_val (.pointer (some ⟨g3, 2, none⟩)) (by kernel_rfl) (by kernel_rfl) rfl (fun W => by kernel_rfl) ?_
  refine t_read (.int .u64 v2) (by kernel_rfl) (by kernel_rfl) (by kernel_rfl) rfl (fun W hR => (run_loadC1 25 _ g3 2 82 _ (.int .u64 v2) _ (row_ext (row_ext r3_15 (ext_drew _)) hR) rfl (by kernel_rfl) (by kernel_rfl) (by kernel_rfl))) ?_
  refine t_val (.int .i64 2) (by kernel_rfl) (by kernel_rfl) rfl (fun W => by kernel_rfl) ?_
  refine t_val (.pointer (some ⟨3, 2, none⟩)) (by kernel_rfl) (by kernel_rfl) rfl (fun W => by kernel_rfl) ?_
  have r1_15 := (Puts.row p15 (row_ext (Puts.row p13 (row_ext r1_11 e12) (ne_of_old r1_3 l8)) e14) (ne_of_old hO l3))
  refine t_read (.int .u64 0) (by kernel_rfl) (by kernel_rfl) (by kernel_rfl) rfl (fun W hR => (run_loadC1 25 _ 3 2 tO _ (.int .u64 0) _ (row_ext (row_ext r1_15 (ext_drew _)) hR) rfl (by kernel_rfl) (by kernel_rfl) (by kernel_rfl))) ?_
  refine t_val (.int .u64 d1) (by kernel_rfl) (by kernel_rfl) rfl (fun W => by kernel_rfl) ?_
  refine t_val (.tuple #[.int .u64 u2, .int .u64 d2]) (by kernel_rfl) (by kernel_rfl) rfl (fun W => (run_extF (f := 63) (args := #[.int .u64 v2, .int .u64 0, .int .u64 d1]) _ _ _ rfl (by kernel_rfl) (by kernel_rfl) (s2 _))) ?_
  refine t_val (.tuple #[.int .u64 u2, .int .u64 d2]) (by kernel_rfl) (by kernel_rfl) rfl (fun W => by kernel_rfl) ?_
  refine t_val (.int .u64 u2) (by kernel_rfl) (by kernel_rfl) rfl (fun W => by kernel_rfl) ?_
  refine t_val (.int .u64 d2) (by kernel_rfl) (by kernel_rfl) rfl (fun W => by kernel_rfl) ?_
  refine t_val (.pointer (some ⟨g8, 2, none⟩)) (by kernel_rfl) (by kernel_rfl) rfl (fun W => by kernel_rfl) ?_
  refine t_store rfl ?_
  refine t_val (.int .u64 d2) (by kernel_rfl) (by kernel_rfl) rfl (fun W => by kernel_rfl) ?_
  refine t_nil (hF _ (by kernel_rfl) fun W16 e16 => ?_)
  simp only [List.nil_append, List.cons_append, fins, up]
  clear hF
  have x16 : Ext w W16 := Ext.tr x15 e16
  have r8_16 := (row_ext (Puts.row p15 (row_ext r8_13 e14) (ne_of_new r3_3 l8)) e16)
  refine te_store _ g8 _ (ints .u64 ([u0, u1, u2, m3])) 82 r8_16 rfl (run_storeI 25 _ _ g8 2 82 _ _ r8_16 rfl (by kernel_rfl) (by kernel_rfl) (by kernel_rfl) (Nat.lt_of_lt_of_eq (show 2 < 4 by decide) rfl.symm)) (fun W hp => trivial) fun W17 p17 r8_17 => ?_
  have x17 : Ext w W17 := Puts.ext p17 x16 b8
  refine te_nil ?_
  refine hK23 _ _ ?_
  try clear hK23 K23
  refine region_lit ?_
  refine seq_val (.int .i64 3) 39 rfl (by kernel_rfl) (by kernel_rfl) ?_
  refine seq_val (.int .i64 3) 10 rfl (by kernel_rfl) (by kernel_rfl) ?_
  refine seq_nil ?_
  show Code.rounds _ _ _ 2 _ _
  show Code.wp _ _ (Exit.then (Code.rounds _ _ _ 1) _) _ _
  refine wp_seq_k fun K26 hK26 => ?_
  refine region_lit ?_
  refine seq_val (.bool true) 11 rfl (by kernel_rfl) (by kernel_rfl) ?_
  refine seq_nil ?_
  refine hK26 _ _ ?_
  try clear hK26 K26
  refine wp_seq_k fun K27 hK27 => ?_
  refine cond_true (by kernel_rfl) ?_
  refine wp_skip ?_
  refine hK27 _ _ ?_
  try clear hK27 K27
  refine wp_seq_k fun K28 hK28 => ?_
  refine wp_block ?_
  refine wp_seq_k fun K29 hK29 => ?_
  refine region_lit ?_
  refine seq_val (.int .i64 3) 12 rfl (by kernel_rfl) (by kernel_rfl) ?_
  refine seq_val (.int .i64 3) 8 rfl (by kernel_rfl) (by kernel_rfl) ?_
  refine seq_nil ?_
  refine hK29 _ _ ?_
  try clear hK29 K29
  refine wp_seq_k fun K30 hK30 => ?_
  refine any_regionT (fun W => True) [⟨none, [(8, none)]⟩, ⟨none, [(8, none)]⟩, ⟨none, [(2, none), (15, some 1)]⟩, ⟨none, [(16, some 2)]⟩, ⟨none, [(8, none)]⟩, ⟨none, [(3, none), (18, some 4)]⟩, ⟨none, [(19, some 5)]⟩, ⟨none, [(5, none)]⟩, ⟨none, [(17, some 3), (20, some 6), (21, some 7)]⟩, ⟨none, [(22, some 8)]⟩, ⟨none, [(13, some 9)]⟩, ⟨none, [(13, some 9)]⟩, ⟨none, [(2, none), (14, some 0)]⟩, ⟨none, [(25, some 12), (23, some 10)]⟩, ⟨none, [(24, some 11)]⟩] [] [11, 14] (by kernel_rfl) (by kernel_rfl) (by kernel_rfl) (fun W hR => trivial) fun F hF => ?_
  refine t_val (.int .i64 3) (by kernel_rfl) (by kernel_rfl) rfl (fun W => by kernel_rfl) ?_
  refine t_val (.int .i64 3) (by kernel_rfl) (by kernel_rfl) rfl (fun W => by kernel_rfl) ?_
  refine t_val (.pointer (some ⟨g3, 3, none⟩)) (by kernel_rfl) (by kernel_rfl) rfl (fun W => by kernel_rfl) ?_
  have r3_17 := (Puts.row p17 (row_ext r3_15 e16) (ne_of_old r3_3 l8))
  refine t_read (.int .u64 m3) (by kernel_rfl) (by kernel_rfl) (by kernel_rfl) rfl (fun W hR => (run_loadC1 25 _ g3 3 82 _ (.int .u64 m3) _ (row_ext (row_ext r3_17 (ext_drew _)) hR) rfl (by kernel_rfl) (by kernel_rfl) (by kernel_rfl))) ?_
  refine t_val (.int .i64 3) (by kernel_rfl) (by kernel_rfl) rfl (fun W => by kernel_rfl) ?_
  refine t_val (.pointer (some ⟨g4, 3, none⟩)) (by kernel_rfl) (by kernel_rfl) rfl (fun W => by kernel_rfl) ?_
  have r4_17 := (Puts.row p17 (row_ext (Puts.row p15 (row_ext r4_13 e14) (ne_of_new r3_1 l4)) e16) (ne_of_old r4_3 l8))
  refine t_read (.int .u64 y3) (by kernel_rfl) (by kernel_rfl) (by kernel_rfl) rfl (fun W hR => (run_loadC1 25 _ g4 3 82 _ (.int .u64 y3) _ (row_ext (row_ext r4_17 (ext_drew _)) hR) rfl (by kernel_rfl) (by kernel_rfl) (by kernel_rfl))) ?_
  refine t_val (.int .u64 ca2) (by kernel_rfl) (by kernel_rfl) rfl (fun W => by kernel_rfl) ?_
  refine t_val (.tuple #[.int .u64 v3, .int .u64 ca3]) (by kernel_rfl) (by kernel_rfl) rfl (fun W => (run_extF (f := 62) (args := #[.int .u64 m3, .int .u64 y3, .int .u64 ca2]) _ _ _ rfl (by kernel_rfl) (by kernel_rfl) (r3 _))) ?_
  refine t_val (.tuple #[.int .u64 v3, .int .u64 ca3]) (by kernel_rfl) (by kernel_rfl) rfl (fun W => by kernel_rfl) ?_
  refine t_val (.int .u64 v3) (by kernel_rfl) (by kernel_rfl) rfl (fun W => by kernel_rfl) ?_
  refine t_val (.int .u64 ca3) (by kernel_rfl) (by kernel_rfl) rfl (fun W => by kernel_rfl) ?_
  refine t_val (.pointer (some ⟨g3, 3, none⟩)) (by kernel_rfl) (by kernel_rfl) rfl (fun W => by kernel_rfl) ?_
  refine t_store rfl ?_
  refine t_val (.int .u64 ca3) (by kernel_rfl) (by kernel_rfl) rfl (fun W => by kernel_rfl) ?_
  refine t_nil (hF _ (by kernel_rfl) fun W18 e18 => ?_)
  simp only [List.nil_append, List.cons_append, fins, up]
  clear hF
  have x18 : Ext w W18 := Ext.tr x17 e18
  have r3_18 := (row_ext r3_17 e18)
  refine te_store _ g3 _ (ints .u64 ([v0, v1, v2, v3])) 82 r3_18 rfl (run_storeI 25 _ _ g3 3 82 _ _ r3_18 rfl (by kernel_rfl) (by kernel_rfl) (by kernel_rfl) (Nat.lt_of_lt_of_eq (show 3 < 4 by decide) rfl.symm)) (fun W hp => trivial) fun W19 p19 r3_19 => ?_
  have x19 : Ext w W19 := Puts.ext p19 x18 b3
  refine te_nil ?_
  refine hK30 _ _ ?_
  try clear hK30 K30
  refine any_regionT (fun W => True) [⟨none, [(8, none)]⟩, ⟨none, [(8, none)]⟩, ⟨none, [(2, none), (28, some 1)]⟩, ⟨none, [(29, some 2)]⟩, ⟨none, [(8, none)]⟩, ⟨none, [(31, some 4)]⟩, ⟨none, [(32, some 5)]⟩, ⟨none, [(6, none)]⟩, ⟨none, [(30, some 3), (33, some 6), (34, some 7)]⟩, ⟨none, [(35, some 8)]⟩, ⟨none, [(26, some 9)]⟩, ⟨none, [(26, some 9)]⟩, ⟨none, [(7, none), (27, some 0)]⟩, ⟨none, [(38, some 12), (36, some 10)]⟩, ⟨none, [(37, some 11)]⟩] [] [11, 14] (by kernel_rfl) (by kernel_rfl) (by kernel_rfl) (fun W hR => trivial) fun F hF => ?_
  refine t_val (.int .i64 3) (by kernel_rfl) (by kernel_rfl) rfl (fun W => by kernel_rfl) ?_
  refine t_val (.int .i64 3) (by kernel_rfl) (by kernel_rfl) rfl (fun W => by kernel_rfl) ?_
  refine t_val (.pointer (some ⟨g3, 3, none⟩)) (by kernel_rfl) (by kernel_rfl) rfl (fun W => by kernel_rfl) ?_
  refine t_read (.int .u64 v3) (by kernel_rfl) (by kernel_rfl) (by kernel_rfl) rfl (fun W hR => (run_loadC1 25 _ g3 3 82 _ (.int .u64 v3) _ (row_ext (row_ext r3_19 (ext_drew _)) hR) rfl (by kernel_rfl) (by kernel_rfl) (by kernel_rfl))) ?_
  refine t_val (.int .i64 3) (by kernel_rfl) (by kernel_rfl) rfl (fun W => by kernel_rfl) ?_
  refine t_val (.pointer (some ⟨3, 3, none⟩)) (by kernel_rfl) (by kernel_rfl) rfl (fun W => by kernel_rfl) ?_
  have r1_19 := (Puts.row p19 (row_ext (Puts.row p17 (row_ext r1_15 e16) (ne_of_old r1_3 l8)) e18) (ne_of_old hO l3))
  refine t_read (.int .u64 1152921504606846976) (by kernel_rfl) (by kernel_rfl) (by kernel_rfl) rfl (fun W hR => (run_loadC1 25 _ 3 3 tO _ (.int .u64 1152921504606846976) _ (row_ext (row_ext r1_19 (ext_drew _)) hR) rfl (by kernel_rfl) (by kernel_rfl) (by kernel_rfl))) ?_
  refine t_val (.int .u64 d2) (by kernel_rfl) (by kernel_rfl) rfl (fun W => by kernel_rfl) ?_
  refine t_val (.tuple #[.int .u64 u3, .int .u64 0]) (by kernel_rfl) (by kernel_rfl) rfl (fun W => (run_extF (f := 63) (args := #[.int .u64 v3, .int .u64 1152921504606846976, .int .u64 d2]) _ _ _ rfl (by kernel_rfl) (by kernel_rfl) (s3 _))) ?_
  refine t_val (.tuple #[.int .u64 u3, .int .u64 0]) (by kernel_rfl) (by kernel_rfl) rfl (fun W => by kernel_rfl) ?_
  refine t_val (.int .u64 u3) (by kernel_rfl) (by kernel_rfl) rfl (fun W => by kernel_rfl) ?_
  refine t_val (.int .u64 0) (by kernel_rfl) (by kernel_rfl) rfl (fun W => by kernel_rfl) ?_
  refine t_val (.pointer (some ⟨g8, 3, none⟩)) (by kernel_rfl) (by kernel_rfl) rfl (fun W => by kernel_rfl) ?_
  refine t_store rfl ?_
  refine t_val (.int .u64 0) (by kernel_rfl) (by kernel_rfl) rfl (fun W => by kernel_rfl) ?_
  refine t_nil (hF _ (by kernel_rfl) fun W20 e20 => ?_)
  simp only [List.nil_append, List.cons_append, fins, up]
  clear hF
  have x20 : Ext w W20 := Ext.tr x19 e20
  have r8_20 := (row_ext (Puts.row p19 (row_ext r8_17 e18) (ne_of_new r3_3 l8)) e20)
  refine te_store _ g8 _ (ints .u64 ([u0, u1, u2, u3])) 82 r8_20 rfl (run_storeI 25 _ _ g8 3 82 _ _ r8_20 rfl (by kernel_rfl) (by kernel_rfl) (by kernel_rfl) (Nat.lt_of_lt_of_eq (show 3 < 4 by decide) rfl.symm)) (fun W hp => trivial) fun W21 p21 r8_21 => ?_
  have x21 : Ext w W21 := Puts.ext p21 x20 b8
  refine te_nil ?_
  refine hK28 _ _ ?_
  try clear hK28 K28
  refine region_lit ?_
  refine seq_val (.int .i64 4) 39 rfl (by kernel_rfl) (by kernel_rfl) ?_
  refine seq_val (.int .i64 4) 10 rfl (by kernel_rfl) (by kernel_rfl) ?_
  refine seq_nil ?_
  show Code.rounds _ _ _ 1 _ _
  show Code.wp _ _ (Exit.then (Code.rounds _ _ _ 0) _) _ _
  refine wp_seq_k fun K31 hK31 => ?_
  refine region_lit ?_
  refine seq_val (.bool false) 11 rfl (by kernel_rfl) (by kernel_rfl) ?_
  refine seq_nil ?_
  refine hK31 _ _ ?_
  try clear hK31 K31
  refine wp_seq_k fun K32 hK32 => ?_
  refine cond_false (by kernel_rfl) ?_
  refine wp_exit ?_
  refine hK9 _ _ ?_
  try clear hK9 K9
  refine wp_seq_k fun K33 hK33 => ?_
  refine wp_seq_k fun K34 hK34 => ?_
  refine region_lit ?_
  refine seq_val (.int .u64 0) 40 rfl (by kernel_rfl) (by kernel_rfl) ?_
  refine seq_val (.bool false) 41 rfl (by kernel_rfl) (by kernel_rfl) ?_
  refine seq_nil ?_
  refine hK34 _ _ ?_
  try clear hK34 K34
  refine cond_false (by kernel_rfl) ?_
  refine wp_skip ?_
  refine hK33 _ _ ?_
  try clear hK33 K33
  refine wp_seq_k fun K35 hK35 => ?_
  refine region_lit ?_
  refine seq_val (.agg (ints .u64 ([u0, u1, u2, u3]))) 43 rfl (by kernel_rfl) (run_load_row 82 _ g8 82 _ _ r8_21 rfl (by kernel_rfl) (by kernel_rfl) (isz (n := 4) (by kernel_rfl) (by kernel_rfl))) ?_
  have r3_2 := (row_ext r3_1 e2)
  have r5_21 := (Puts.row p21 (row_ext (Puts.row p19 (row_ext (Puts.row p17 (row_ext (Puts.row p15 (row_ext (Puts.row p13 (row_ext (Puts.row p11 (row_ext (Puts.row p9 (row_ext (Puts.row p7 (row_ext (Puts.row p5 (row_ext r5_3 e4) (ne_of_old r5_3 l8)) e6) (ne_of_new r3_2 l5)) e8) (ne_of_old r5_3 l8)) e10) (ne_of_new r3_2 l5)) e12) (ne_of_old r5_3 l8)) e14) (ne_of_new r3_2 l5)) e16) (ne_of_old r5_3 l8)) e18) (ne_of_new r3_2 l5)) e20) (ne_of_old r5_3 l8))
  refine seq_store g5 _ (ints .u64 ([u0, u1, u2, u3])) 82 r5_21 rfl (by kernel_rfl) (run_store_row 82 _ _ g5 82 _ _ r5_21 rfl (by kernel_rfl) (by kernel_rfl) (isz (n := 4) (by kernel_rfl) (by kernel_rfl)) (eqsz (n := 4) (by kernel_rfl) (by kernel_rfl)) (by kernel_rfl)) fun W22 p22 r5_22 => ?_
  have x22 : Ext w W22 := Puts.ext p22 x21 b5
  refine seq_nil ?_
  refine hK35 _ _ ?_
  try clear hK35 K35
  refine wp_ret ?_
  exact (show bodyPost _ _ _ .ret _ _ from ret1 (.agg (ints .u64 ([u0, u1, u2, u3]))) rfl (res_cell g5 82 _ r5_22 (by kernel_rfl) (by kernel_rfl) (isz (n := 4) (by kernel_rfl) (by kernel_rfl))) ⟨rfl, x22⟩)

end Go.Proofs.YtaojnmjmmfdfjaaDoor.Field
