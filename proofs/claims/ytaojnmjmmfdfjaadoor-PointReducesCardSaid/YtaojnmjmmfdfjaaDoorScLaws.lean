/- Residues: the laws PointReduces and PointMuls. -/
import Derived.Test.YtaojnmjmmfdfjaaDoorScMul
namespace Go.Proofs.YtaojnmjmmfdfjaaDoor.Field
open Go Go.RowKit
open Go.Proofs.YtaojnmjmmfdfjaaDoor.Rely Go.Proofs.YtaojnmjmmfdfjaaDoor.Auto.V
open Go.Proofs.YtaojnmjmmfdfjaaDoor.Auto hiding isT tailT readsT storesT okT TailRun tailsOf pureOk stepsT stepsT_found InvT rem Phase isT_some mem_tails mem_rem rem_nodup list_false rem_sorted rem_set filter_ne holdsC wpAny_of_T t_store t_op t_skip t_val t_read t_call t_new t_nil TailEnv tail_env te_nil te_store any_regionT
set_option linter.unusedVariables false

theorem five_bytes : AreBytes [5] := by unfold AreBytes; decide
theorem five_eq : bytesOf (resN [5]) = key1 5 := by decide +kernel
theorem seven_eq : bytesOf (mulR (key1 2) (key1 3) (key1 1)) = key1 7 := by
  rw [← mulR_le (key1 2) (key1 3) (key1 1) (key1_bytes (by omega)) (key1_len _) (key1_bytes (by omega)) (key1_len _) (key1_bytes (by omega))]
  decide +kernel
theorem residue_true (bs : List Int) (w : World) (tO : TypeId) (hO : w.heap[3]? = some (.cells orderA tO)) : Calls Tryd.prog 27 #[.agg (ints .u8 (bytesOf (resN bs)))] w (Ret w (.bool true)) := by
  have h := residueBC (bytesOf (resN bs)) (bytesOf_len _) (bytesOf_bytes _) w tO hO
  rw [resN_back, decide_eq_true rfl] at h
  exact h
set_option maxHeartbeats 4000000 in
theorem lawReduces_big (A : Option Addr) (n c : Nat) (bs : List Int) (hbl : bs.length = n) (hn : 64 < n) (hb : AreBytes bs) (w : World) (tO : TypeId) (hO : w.heap[3]? = some (.cells orderA tO))
    (hc : n = 0 ∨ ∃ sb so, A = some ⟨sb, so, none⟩ ∧ sb < w.heap.size ∧ ∀ i, i < n → w.cell? ⟨sb, so + i, none⟩ = some (.int .u8 (nth bs i))) :
    Calls Tryd.prog 7 #[.slice A n c] w (Ret w (.bool true)) := by
  refine enter 44 [(0, .slice A n c)] Tryd.func7 rfl rfl (by kernel_rfl) rfl ?_
  refine wp_seq_k fun K2 hK2 => ?_
  refine region_lit ?_
  refine seq_val (.bool false) 2 rfl (by kernel_rfl) (by kernel_rfl) ?_
  refine seq_nil ?_
  refine hK2 _ _ ?_
  try clear hK2 K2
  refine wp_seq_k fun K3 hK3 => ?_
  refine region_lit ?_
  refine seq_makeS (ints .u8 ([5])) 5 1 7 rfl (by kernel_rfl) (by kernel_rfl) fun g4 W1 l4 e1 r4_1 => ?_
  have x1 : Ext w W1 := Ext.tr (Rely.Ext.refl w) e1
  have b4 : w.heap.size ≤ g4 := Nat.le_trans (Rely.Ext.refl w).size l4
  have r1_1 := (row_ext hO e1)
  refine seq_call (.tuple #[.agg (ints .u8 (bytesOf (resN [5]))), .bool true]) 25 #[.slice (some ⟨g4, 0, none⟩) 1 1] 8 rfl (by kernel_rfl) (by kernel_rfl) (reduce_ok _ 1 1 [5] rfl (by omega) five_bytes _ tO r1_1 (.inr ⟨g4, 0, rfl, row_lt r4_1, cells_of r4_1 rfl⟩)) fun W2 e2 => ?_
  have x2 : Ext w W2 := Ext.tr x1 e2
  refine seq_val (.tuple #[.agg (ints .u8 (bytesOf (resN [5]))), .bool true]) 6 rfl (by kernel_rfl) (by kernel_rfl) ?_
  refine seq_val (.agg (ints .u8 (bytesOf (resN [5])))) 9 rfl (by kernel_rfl) (by kernel_rfl) ?_
  refine seq_val (.bool true) 10 rfl (by kernel_rfl) (by kernel_rfl) ?_
  refine seq_alloc (ints .u8 (List.replicate 32 0)) 23 3 rfl (by kernel_rfl) (by kernel_rfl) fun g5 W3 l5 e3 r5_3 => ?_
  have x3 : Ext w W3 := Ext.tr x2 e3
  have b5 : w.heap.size ≤ g5 := Nat.le_trans x2.size l5
  refine seq_store g5 _ (ints .u8 (bytesOf (resN [5]))) 23 r5_3 rfl (by kernel_rfl) (run_store_row 23 _ _ g5 23 _ _ r5_3 rfl (by kernel_rfl) (by kernel_rfl) (isz (n := 32) (by kernel_rfl) ((ints_size _ _).trans (bytes_len _))) (eqsz (n := 32) ((ints_size _ _).trans zlen) ((ints_size _ _).trans (bytes_len _))) (ints_one _ _)) fun W4 p4 r5_4 => ?_
  have x4 : Ext w W4 := Puts.ext p4 x3 b5
  refine seq_val (.bool true) 4 rfl (by kernel_rfl) (by kernel_rfl) ?_
  refine seq_nil ?_
  refine hK3 _ _ ?_
  try clear hK3 K3
  refine wp_seq_k fun K6 hK6 => ?_
  refine wp_seq_k fun K7 hK7 => ?_
  refine region_lit ?_
  refine seq_val (.bool true) 11 rfl (by kernel_rfl) (by kernel_rfl) ?_
  refine seq_val (.bool false) 12 rfl (by kernel_rfl) (by kernel_rfl) ?_
  refine seq_val (.bool false) 13 rfl (by kernel_rfl) (by kernel_rfl) ?_
  refine seq_val (.agg (ints .u8 (bytesOf (resN [5])))) 14 rfl (by kernel_rfl) (run_load_row 23 _ g5 23 _ _ r5_4 rfl (by kernel_rfl) (by kernel_rfl) (isz (n := 32) (by kernel_rfl) ((ints_size _ _).trans (bytes_len _)))) ?_
  refine seq_val (.agg (ints .u8 (key1 5))) 15 rfl (by kernel_rfl) (by kernel_rfl) ?_
  refine seq_val (.bool false) 16 rfl (by kernel_rfl) (run_neq_agg 23 _ _ _ _ _ (.bool false) rfl (by kernel_rfl) (by kernel_rfl) (by kernel_rfl) (key_neq (bytesOf (resN [5])) (key1 5) true (bytes_len _) (key1_len _) (decide_eq_true five_eq) _)) ?_
  refine seq_val (.bool false) 17 rfl (by kernel_rfl) (by kernel_rfl) ?_
  refine seq_nil ?_
  refine hK7 _ _ ?_
  try clear hK7 K7
  refine cond_false (by kernel_rfl) ?_
  refine wp_skip ?_
  refine hK6 _ _ ?_
  try clear hK6 K6
  refine wp_seq_k fun K8 hK8 => ?_
  refine region_lit ?_
  refine seq_val (.slice A n c) 19 rfl (by kernel_rfl) (by kernel_rfl) ?_
  have r1_2 := (row_ext r1_1 e2)
  have r1_4 := (Puts.row p4 (row_ext (row_ext r1_1 e2) e3) (ne_of_old r1_2 l5))
  refine seq_call (.tuple #[.agg (ints .u8 (List.replicate 32 0)), .bool false]) 25 #[.slice A n c] 20 rfl (by kernel_rfl) (by kernel_rfl) (reduce_big A n c bs hbl hn hb _ tO r1_4 (cells_ext hc x4)) fun W5 e5 => ?_
  have x5 : Ext w W5 := Ext.tr x4 e5
  refine seq_val (.tuple #[.agg (ints .u8 (List.replicate 32 0)), .bool false]) 18 rfl (by kernel_rfl) (by kernel_rfl) ?_
  refine seq_val (.agg (ints .u8 (List.replicate 32 0))) 21 rfl (by kernel_rfl) (by kernel_rfl) ?_
  refine seq_val (.bool false) 22 rfl (by kernel_rfl) (by kernel_rfl) ?_
  refine seq_alloc (ints .u8 (List.replicate 32 0)) 23 5 rfl (by kernel_rfl) (by kernel_rfl) fun g9 W6 l9 e6 r9_6 => ?_
  have x6 : Ext w W6 := Ext.tr x5 e6
  have b9 : w.heap.size ≤ g9 := Nat.le_trans x5.size l9
  refine seq_store g9 _ (ints .u8 (List.replicate 32 0)) 23 r9_6 rfl (by kernel_rfl) (run_store_row 23 _ _ g9 23 _ _ r9_6 rfl (by kernel_rfl) (by kernel_rfl) (isz (n := 32) (by kernel_rfl) ((ints_size _ _).trans zlen)) (eqsz (n := 32) ((ints_size _ _).trans zlen) ((ints_size _ _).trans zlen)) (ints_one _ _)) fun W7 p7 r9_7 => ?_
  have x7 : Ext w W7 := Puts.ext p7 x6 b9
  refine seq_val (.bool false) 4 rfl (by kernel_rfl) (by kernel_rfl) ?_
  refine seq_nil ?_
  refine hK8 _ _ ?_
  try clear hK8 K8
  refine wp_seq_k fun K10 hK10 => ?_
  refine wp_seq_k fun K11 hK11 => ?_
  refine region_lit ?_
  refine seq_val (.slice A n c) 23 rfl (by kernel_rfl) (by kernel_rfl) ?_
  refine seq_val (.int .i64 ((n : Nat) : Int)) 24 rfl (by kernel_rfl) (by kernel_rfl) ?_
  refine seq_val (.bool true) 25 rfl (by kernel_rfl) (run_eq (u := .bool (decide (((n : Nat) : Int) > 64))) (by kernel_rfl) (congrArg Value.bool (decide_eq_true (by omega)))) ?_
  refine seq_nil ?_
  refine hK11 _ _ ?_
  try clear hK11 K11
  refine cond_true (by kernel_rfl) ?_
  refine wp_seq_k fun K12 hK12 => ?_
  refine region_lit ?_
  refine seq_val (.bool false) 26 rfl (by kernel_rfl) (by kernel_rfl) ?_
  refine seq_val (.bool true) 27 rfl (by kernel_rfl) (by kernel_rfl) ?_
  refine seq_val (.bool true) 28 rfl (by kernel_rfl) (by kernel_rfl) ?_
  refine seq_val (.agg (ints .u8 (List.replicate 32 0))) 29 rfl (by kernel_rfl) (run_load_row 23 _ g9 23 _ _ r9_7 rfl (by kernel_rfl) (by kernel_rfl) (isz (n := 32) (by kernel_rfl) ((ints_size _ _).trans zlen))) ?_
  refine seq_val (.agg (ints .u8 (List.replicate 32 0))) 30 rfl (by kernel_rfl) (by kernel_rfl) ?_
  refine seq_val (.bool true) 31 rfl (by kernel_rfl) (run_eql_agg 23 _ _ _ _ _ (.bool true) rfl (by kernel_rfl) (by kernel_rfl) (by kernel_rfl) (key_eql (List.replicate 32 0) (List.replicate 32 0) true zlen zlen (decide_eq_true rfl) _)) ?_
  refine seq_val (.bool true) 32 rfl (by kernel_rfl) (by kernel_rfl) ?_
  refine seq_val (.bool true) 2 rfl (by kernel_rfl) (by kernel_rfl) ?_
  refine seq_nil ?_
  refine hK12 _ _ ?_
  try clear hK12 K12
  refine wp_ret ?_
  exact (show bodyPost _ _ _ .ret _ _ from ret1 (.bool true) rfl (res_tmp (by kernel_rfl)) ⟨rfl, x7⟩)
set_option maxHeartbeats 4000000 in
theorem lawReduces_ok (A : Option Addr) (n c : Nat) (bs : List Int) (hbl : bs.length = n) (hn : n ≤ 64) (hb : AreBytes bs) (w : World) (tO : TypeId) (hO : w.heap[3]? = some (.cells orderA tO))
    (hc : n = 0 ∨ ∃ sb so, A = some ⟨sb, so, none⟩ ∧ sb < w.heap.size ∧ ∀ i, i < n → w.cell? ⟨sb, so + i, none⟩ = some (.int .u8 (nth bs i))) :
    Calls Tryd.prog 7 #[.slice A n c] w (Ret w (.bool true)) := by
  refine enter 44 [(0, .slice A n c)] Tryd.func7 rfl rfl (by kernel_rfl) rfl ?_
  refine wp_seq_k fun K2 hK2 => ?_
  refine region_lit ?_
  refine seq_val (.bool false) 2 rfl (by kernel_rfl) (by kernel_rfl) ?_
  refine seq_nil ?_
  refine hK2 _ _ ?_
  try clear hK2 K2
  refine wp_seq_k fun K3 hK3 => ?_
  refine region_lit ?_
  refine seq_makeS (ints .u8 ([5])) 5 1 7 rfl (by kernel_rfl) (by kernel_rfl) fun g4 W1 l4 e1 r4_1 => ?_
  have x1 : Ext w W1 := Ext.tr (Rely.Ext.refl w) e1
  have b4 : w.heap.size ≤ g4 := Nat.le_trans (Rely.Ext.refl w).size l4
  have r1_1 := (row_ext hO e1)
  refine seq_call (.tuple #[.agg (ints .u8 (bytesOf (resN [5]))), .bool true]) 25 #[.slice (some ⟨g4, 0, none⟩) 1 1] 8 rfl (by kernel_rfl) (by kernel_rfl) (reduce_ok _ 1 1 [5] rfl (by omega) five_bytes _ tO r1_1 (.inr ⟨g4, 0, rfl, row_lt r4_1, cells_of r4_1 rfl⟩)) fun W2 e2 => ?_
  have x2 : Ext w W2 := Ext.tr x1 e2
  refine seq_val (.tuple #[.agg (ints .u8 (bytesOf (resN [5]))), .bool true]) 6 rfl (by kernel_rfl) (by kernel_rfl) ?_
  refine seq_val (.agg (ints .u8 (bytesOf (resN [5])))) 9 rfl (by kernel_rfl) (by kernel_rfl) ?_
  refine seq_val (.bool true) 10 rfl (by kernel_rfl) (by kernel_rfl) ?_
  refine seq_alloc (ints .u8 (List.replicate 32 0)) 23 3 rfl (by kernel_rfl) (by kernel_rfl) fun g5 W3 l5 e3 r5_3 => ?_
  have x3 : Ext w W3 := Ext.tr x2 e3
  have b5 : w.heap.size ≤ g5 := Nat.le_trans x2.size l5
  refine seq_store g5 _ (ints .u8 (bytesOf (resN [5]))) 23 r5_3 rfl (by kernel_rfl) (run_store_row 23 _ _ g5 23 _ _ r5_3 rfl (by kernel_rfl) (by kernel_rfl) (isz (n := 32) (by kernel_rfl) ((ints_size _ _).trans (bytes_len _))) (eqsz (n := 32) ((ints_size _ _).trans zlen) ((ints_size _ _).trans (bytes_len _))) (ints_one _ _)) fun W4 p4 r5_4 => ?_
  have x4 : Ext w W4 := Puts.ext p4 x3 b5
  refine seq_val (.bool true) 4 rfl (by kernel_rfl) (by kernel_rfl) ?_
  refine seq_nil ?_
  refine hK3 _ _ ?_
  try clear hK3 K3
  refine wp_seq_k fun K6 hK6 => ?_
  refine wp_seq_k fun K7 hK7 => ?_
  refine region_lit ?_
  refine seq_val (.bool true) 11 rfl (by kernel_rfl) (by kernel_rfl) ?_
  refine seq_val (.bool false) 12 rfl (by kernel_rfl) (by kernel_rfl) ?_
  refine seq_val (.bool false) 13 rfl (by kernel_rfl) (by kernel_rfl) ?_
  refine seq_val (.agg (ints .u8 (bytesOf (resN [5])))) 14 rfl (by kernel_rfl) (run_load_row 23 _ g5 23 _ _ r5_4 rfl (by kernel_rfl) (by kernel_rfl) (isz (n := 32) (by kernel_rfl) ((ints_size _ _).trans (bytes_len _)))) ?_
  refine seq_val (.agg (ints .u8 (key1 5))) 15 rfl (by kernel_rfl) (by kernel_rfl) ?_
  refine seq_val (.bool false) 16 rfl (by kernel_rfl) (run_neq_agg 23 _ _ _ _ _ (.bool false) rfl (by kernel_rfl) (by kernel_rfl) (by kernel_rfl) (key_neq (bytesOf (resN [5])) (key1 5) true (bytes_len _) (key1_len _) (decide_eq_true five_eq) _)) ?_
  refine seq_val (.bool false) 17 rfl (by kernel_rfl) (by kernel_rfl) ?_
  refine seq_nil ?_
  refine hK7 _ _ ?_
  try clear hK7 K7
  refine cond_false (by kernel_rfl) ?_
  refine wp_skip ?_
  refine hK6 _ _ ?_
  try clear hK6 K6
  refine wp_seq_k fun K8 hK8 => ?_
  refine region_lit ?_
  refine seq_val (.slice A n c) 19 rfl (by kernel_rfl) (by kernel_rfl) ?_
  have r1_2 := (row_ext r1_1 e2)
  have r1_4 := (Puts.row p4 (row_ext (row_ext r1_1 e2) e3) (ne_of_old r1_2 l5))
  refine seq_call (.tuple #[.agg (ints .u8 (bytesOf (resN bs))), .bool true]) 25 #[.slice A n c] 20 rfl (by kernel_rfl) (by kernel_rfl) (reduce_ok A n c bs hbl hn hb _ tO r1_4 (cells_ext hc x4)) fun W5 e5 => ?_
  have x5 : Ext w W5 := Ext.tr x4 e5
  refine seq_val (.tuple #[.agg (ints .u8 (bytesOf (resN bs))), .bool true]) 18 rfl (by kernel_rfl) (by kernel_rfl) ?_
  refine seq_val (.agg (ints .u8 (bytesOf (resN bs)))) 21 rfl (by kernel_rfl) (by kernel_rfl) ?_
  refine seq_val (.bool true) 22 rfl (by kernel_rfl) (by kernel_rfl) ?_
  refine seq_alloc (ints .u8 (List.replicate 32 0)) 23 5 rfl (by kernel_rfl) (by kernel_rfl) fun g9 W6 l9 e6 r9_6 => ?_
  have x6 : Ext w W6 := Ext.tr x5 e6
  have b9 : w.heap.size ≤ g9 := Nat.le_trans x5.size l9
  refine seq_store g9 _ (ints .u8 (bytesOf (resN bs))) 23 r9_6 rfl (by kernel_rfl) (run_store_row 23 _ _ g9 23 _ _ r9_6 rfl (by kernel_rfl) (by kernel_rfl) (isz (n := 32) (by kernel_rfl) ((ints_size _ _).trans (bytes_len _))) (eqsz (n := 32) ((ints_size _ _).trans zlen) ((ints_size _ _).trans (bytes_len _))) (ints_one _ _)) fun W7 p7 r9_7 => ?_
  have x7 : Ext w W7 := Puts.ext p7 x6 b9
  refine seq_val (.bool true) 4 rfl (by kernel_rfl) (by kernel_rfl) ?_
  refine seq_nil ?_
  refine hK8 _ _ ?_
  try clear hK8 K8
  refine wp_seq_k fun K10 hK10 => ?_
  refine wp_seq_k fun K11 hK11 => ?_
  refine region_lit ?_
  refine seq_val (.slice A n c) 23 rfl (by kernel_rfl) (by kernel_rfl) ?_
  refine seq_val (.int .i64 ((n : Nat) : Int)) 24 rfl (by kernel_rfl) (by kernel_rfl) ?_
  refine seq_val (.bool false) 25 rfl (by kernel_rfl) (run_eq (u := .bool (decide (((n : Nat) : Int) > 64))) (by kernel_rfl) (congrArg Value.bool (decide_eq_false (by omega)))) ?_
  refine seq_nil ?_
  refine hK11 _ _ ?_
  try clear hK11 K11
  refine cond_false (by kernel_rfl) ?_
  refine wp_skip ?_
  refine hK10 _ _ ?_
  try clear hK10 K10
  refine wp_seq_k fun K12 hK12 => ?_
  refine any_region 11 [⟨none, [(4, none)]⟩, ⟨none, [(33, some 0)]⟩, ⟨some (34, true), [(5, none), (34, some 1)]⟩, ⟨some (34, true), [(0, none), (34, some 1)]⟩, ⟨some (34, true), [(36, some 3), (34, some 1)]⟩, ⟨some (34, true), [(35, some 2), (37, some 4), (34, some 1)]⟩, ⟨none, [(34, some 1), (38, some 5)]⟩, ⟨none, [(39, some 6)]⟩, ⟨some (40, true), [(5, none), (40, some 7)]⟩, ⟨some (40, true), [(41, some 8), (40, some 7)]⟩, ⟨none, [(40, some 7), (42, some 9)]⟩] (by kernel_rfl) (by kernel_rfl) fun F hF => ?_
  refine any_val (.bool true) (by kernel_rfl) (by kernel_rfl) (fun W => by kernel_rfl) ?_
  refine any_val (.bool true) (by kernel_rfl) (by kernel_rfl) (fun W => by kernel_rfl) ?_
  refine any_read (.agg (ints .u8 (bytesOf (resN bs)))) (by kernel_rfl) (by kernel_rfl) (fun W hR => (run_load_row 23 _ g9 23 _ _ (row_ext (row_ext r9_7 (ext_drew _)) hR) rfl (by kernel_rfl) (by kernel_rfl) (isz (n := 32) (by kernel_rfl) ((ints_size _ _).trans (bytes_len _))))) ?_
  refine any_val (.slice A n c) (by kernel_rfl) (by kernel_rfl) (fun W => by kernel_rfl) ?_
  refine any_call (.agg (ints .u8 (bytesOf (resN bs)))) 26 #[.slice A n c] (by kernel_rfl) (by kernel_rfl) (fun W => by kernel_rfl) (fun W hR => (fun W hR => bitsC A n c bs hbl (by omega) hb W (cells_ext hc (Ext.tr (Ext.tr x7 (ext_drew _)) hR))) W hR) ?_
  refine any_val (.bool true) (by kernel_rfl) (by kernel_rfl) (fun W => (run_eql_agg 23 _ _ _ _ _ (.bool true) rfl (by kernel_rfl) (by kernel_rfl) (by kernel_rfl) (key_eql (bytesOf (resN bs)) (bytesOf (resN bs)) true (bytes_len _) (bytes_len _) (decide_eq_true rfl) _))) ?_
  refine any_val (.bool true) (by kernel_rfl) (by kernel_rfl) (fun W => by kernel_rfl) ?_
  refine any_val (.bool true) (by kernel_rfl) (by kernel_rfl) (fun W => by kernel_rfl) ?_
  refine any_read (.agg (ints .u8 (bytesOf (resN bs)))) (by kernel_rfl) (by kernel_rfl) (fun W hR => (run_load_row 23 _ g9 23 _ _ (row_ext (row_ext r9_7 (ext_drew _)) hR) rfl (by kernel_rfl) (by kernel_rfl) (isz (n := 32) (by kernel_rfl) ((ints_size _ _).trans (bytes_len _))))) ?_
  have r1_5 := (row_ext r1_4 e5)
  have r1_7 := (Puts.row p7 (row_ext (row_ext r1_4 e5) e6) (ne_of_old r1_5 l9))
  refine any_call (.bool true) 27 #[.agg (ints .u8 (bytesOf (resN bs)))] (by kernel_rfl) (by kernel_rfl) (fun W => by kernel_rfl) (fun W hR => residue_true bs W tO (row_ext (row_ext r1_7 (ext_drew _)) hR)) ?_
  refine any_val (.bool true) (by kernel_rfl) (by kernel_rfl) (fun W => by kernel_rfl) ?_
  refine steps_nil (hF _ (by kernel_rfl) fun W8 e8 => ?_)
  simp only [ups, up, Kn.val, List.take_succ_cons, List.take_zero, List.drop_succ_cons, List.drop_zero, List.nil_append, List.cons_append]
  clear hF
  have x8 : Ext w W8 := Ext.tr x7 e8
  refine seq_val (.bool true) 2 rfl (by kernel_rfl) (by kernel_rfl) ?_
  refine seq_nil ?_
  refine hK12 _ _ ?_
  try clear hK12 K12
  refine wp_ret ?_
  exact (show bodyPost _ _ _ .ret _ _ from ret1 (.bool true) rfl (res_tmp (by kernel_rfl)) ⟨rfl, x8⟩)
set_option maxHeartbeats 4000000 in
theorem lawMuls (za zb zc : List Int) (ha : za.length = 32) (hab : AreBytes za) (hb : zb.length = 32) (hbb : AreBytes zb) (hc : zc.length = 32) (hcb : AreBytes zc) (w : World) (tO : TypeId) (hO : w.heap[3]? = some (.cells orderA tO)) : Calls Tryd.prog 8 #[.agg (ints .u8 za), .agg (ints .u8 zb), .agg (ints .u8 zc)] w (Ret w (.bool true)) := by
  refine enter 31 [(0, .agg (ints .u8 (za))), (1, .agg (ints .u8 (zb))), (2, .agg (ints .u8 (zc)))] Tryd.func8 rfl rfl (by kernel_rfl) rfl ?_
  refine wp_seq_k fun K2 hK2 => ?_
  refine region_lit ?_
  refine seq_alloc (ints .u8 (za)) 23 3 rfl (by kernel_rfl) (by kernel_rfl) fun g3 W1 l3 e1 r3_1 => ?_
  have x1 : Ext w W1 := Ext.tr (Rely.Ext.refl w) e1
  have b3 : w.heap.size ≤ g3 := Nat.le_trans (Rely.Ext.refl w).size l3
  refine seq_alloc (ints .u8 (zb)) 23 4 rfl (by kernel_rfl) (by kernel_rfl) fun g4 W2 l4 e2 r4_2 => ?_
  have x2 : Ext w W2 := Ext.tr x1 e2
  have b4 : w.heap.size ≤ g4 := Nat.le_trans x1.size l4
  refine seq_alloc (ints .u8 (zc)) 23 5 rfl (by kernel_rfl) (by kernel_rfl) fun g5 W3 l5 e3 r5_3 => ?_
  have x3 : Ext w W3 := Ext.tr x2 e3
  have b5 : w.heap.size ≤ g5 := Nat.le_trans x2.size l5
  refine seq_val (.bool false) 6 rfl (by kernel_rfl) (by kernel_rfl) ?_
  refine seq_nil ?_
  refine hK2 _ _ ?_
  try clear hK2 K2
  refine wp_seq_k fun K6 hK6 => ?_
  refine wp_seq_k fun K7 hK7 => ?_
  refine region_lit ?_
  refine seq_val (.agg (ints .u8 (key1 2))) 7 rfl (by kernel_rfl) (by kernel_rfl) ?_
  refine seq_val (.agg (ints .u8 (key1 3))) 8 rfl (by kernel_rfl) (by kernel_rfl) ?_
  refine seq_val (.agg (ints .u8 (key1 1))) 9 rfl (by kernel_rfl) (by kernel_rfl) ?_
  have r1_3 := (row_ext (row_ext (row_ext hO e1) e2) e3)
  refine seq_call (.agg (ints .u8 (bytesOf (mulR (key1 2) (key1 3) (key1 1))))) 23 #[.agg (ints .u8 (key1 2)), .agg (ints .u8 (key1 3)), .agg (ints .u8 (key1 1))] 10 rfl (by kernel_rfl) (by kernel_rfl) (mulAddC (key1 2) (key1 3) (key1 1) (key1_len _) (key1_bytes (by omega)) (key1_len _) (key1_bytes (by omega)) (key1_len _) (key1_bytes (by omega)) _ tO r1_3) fun W4 e4 => ?_
  have x4 : Ext w W4 := Ext.tr x3 e4
  refine seq_val (.agg (ints .u8 (key1 7))) 11 rfl (by kernel_rfl) (by kernel_rfl) ?_
  refine seq_val (.bool false) 12 rfl (by kernel_rfl) (run_neq_agg 23 _ _ _ _ _ (.bool false) rfl (by kernel_rfl) (by kernel_rfl) (by kernel_rfl) (key_neq (bytesOf (mulR (key1 2) (key1 3) (key1 1))) (key1 7) true (bytes_len _) (key1_len _) (decide_eq_true seven_eq) _)) ?_
  refine seq_nil ?_
  refine hK7 _ _ ?_
  try clear hK7 K7
  refine cond_false (by kernel_rfl) ?_
  refine wp_skip ?_
  refine hK6 _ _ ?_
  try clear hK6 K6
  refine wp_seq_k fun K8 hK8 => ?_
  refine any_region 18 [⟨none, [(3, none)]⟩, ⟨none, [(4, none)]⟩, ⟨none, [(5, none)]⟩, ⟨none, [(13, some 0), (14, some 1), (15, some 2)]⟩, ⟨none, [(3, none)]⟩, ⟨none, [(4, none)]⟩, ⟨none, [(5, none)]⟩, ⟨none, [(17, some 4), (18, some 5), (19, some 6)]⟩, ⟨none, [(16, some 3), (20, some 7)]⟩, ⟨none, [(21, some 8)]⟩, ⟨some (22, true), [(3, none), (22, some 9)]⟩, ⟨some (22, true), [(23, some 10), (22, some 9)]⟩, ⟨some (22, true), [(3, none), (22, some 9)]⟩, ⟨some (22, true), [(25, some 12), (22, some 9)]⟩, ⟨some (22, true), [(3, none), (22, some 9)]⟩, ⟨some (22, true), [(26, some 13), (27, some 14), (22, some 9)]⟩, ⟨some (22, true), [(24, some 11), (28, some 15), (22, some 9)]⟩, ⟨none, [(22, some 9), (29, some 16)]⟩] (by kernel_rfl) (by kernel_rfl) fun F hF => ?_
  have r3_4 := (row_ext (row_ext (row_ext r3_1 e2) e3) e4)
  refine any_read (.agg (ints .u8 (za))) (by kernel_rfl) (by kernel_rfl) (fun W hR => (run_load_row 23 _ g3 23 _ _ (row_ext (row_ext r3_4 (ext_drew _)) hR) rfl (by kernel_rfl) (by kernel_rfl) (isz (n := 32) (by kernel_rfl) ((ints_size _ _).trans ha)))) ?_
  have r4_4 := (row_ext (row_ext r4_2 e3) e4)
  refine any_read (.agg (ints .u8 (zb))) (by kernel_rfl) (by kernel_rfl) (fun W hR => (run_load_row 23 _ g4 23 _ _ (row_ext (row_ext r4_4 (ext_drew _)) hR) rfl (by kernel_rfl) (by kernel_rfl) (isz (n := 32) (by kernel_rfl) ((ints_size _ _).trans hb)))) ?_
  have r5_4 := (row_ext r5_3 e4)
  refine any_read (.agg (ints .u8 (zc))) (by kernel_rfl) (by kernel_rfl) (fun W hR => (run_load_row 23 _ g5 23 _ _ (row_ext (row_ext r5_4 (ext_drew _)) hR) rfl (by kernel_rfl) (by kernel_rfl) (isz (n := 32) (by kernel_rfl) ((ints_size _ _).trans hc)))) ?_
  have r1_4 := (row_ext r1_3 e4)
  refine any_call (.agg (ints .u8 (bytesOf (mulR za zb zc)))) 23 #[.agg (ints .u8 (za)), .agg (ints .u8 (zb)), .agg (ints .u8 (zc))] (by kernel_rfl) (by kernel_rfl) (fun W => by kernel_rfl) (fun W hR => mulAddC za zb zc ha hab hb hbb hc hcb W tO (row_ext (row_ext r1_4 (ext_drew _)) hR)) ?_
  refine any_read (.agg (ints .u8 (za))) (by kernel_rfl) (by kernel_rfl) (fun W hR => (run_load_row 23 _ g3 23 _ _ (row_ext (row_ext r3_4 (ext_drew _)) hR) rfl (by kernel_rfl) (by kernel_rfl) (isz (n := 32) (by kernel_rfl) ((ints_size _ _).trans ha)))) ?_
  refine any_read (.agg (ints .u8 (zb))) (by kernel_rfl) (by kernel_rfl) (fun W hR => (run_load_row 23 _ g4 23 _ _ (row_ext (row_ext r4_4 (ext_drew _)) hR) rfl (by kernel_rfl) (by kernel_rfl) (isz (n := 32) (by kernel_rfl) ((ints_size _ _).trans hb)))) ?_
  refine any_read (.agg (ints .u8 (zc))) (by kernel_rfl) (by kernel_rfl) (fun W hR => (run_load_row 23 _ g5 23 _ _ (row_ext (row_ext r5_4 (ext_drew _)) hR) rfl (by kernel_rfl) (by kernel_rfl) (isz (n := 32) (by kernel_rfl) ((ints_size _ _).trans hc)))) ?_
  refine any_call (.agg (ints .u8 (bytesOf (mulR za zb zc)))) 28 #[.agg (ints .u8 (za)), .agg (ints .u8 (zb)), .agg (ints .u8 (zc))] (by kernel_rfl) (by kernel_rfl) (fun W => by kernel_rfl) (fun W hR => (rMulAddC za zb zc ha hab hb hbb hc hcb) W) ?_
  refine any_val (.bool true) (by kernel_rfl) (by kernel_rfl) (fun W => (run_eql_agg 23 _ _ _ _ _ (.bool true) rfl (by kernel_rfl) (by kernel_rfl) (by kernel_rfl) (key_eql (bytesOf (mulR za zb zc)) (bytesOf (mulR za zb zc)) true (bytes_len _) (bytes_len _) (decide_eq_true rfl) _))) ?_
  refine any_val (.bool true) (by kernel_rfl) (by kernel_rfl) (fun W => by kernel_rfl) ?_
  refine any_read (.agg (ints .u8 (za))) (by kernel_rfl) (by kernel_rfl) (fun W hR => (run_load_row 23 _ g3 23 _ _ (row_ext (row_ext r3_4 (ext_drew _)) hR) rfl (by kernel_rfl) (by kernel_rfl) (isz (n := 32) (by kernel_rfl) ((ints_size _ _).trans ha)))) ?_
  refine any_call (.bool (decide (bytesOf (resN za) = za))) 27 #[.agg (ints .u8 (za))] (by kernel_rfl) (by kernel_rfl) (fun W => by kernel_rfl) (fun W hR => residueBC za ha hab W tO (row_ext (row_ext r1_4 (ext_drew _)) hR)) ?_
  refine any_val (.slice (some ⟨g3, 0, none⟩) 32 32) (by kernel_rfl) (by kernel_rfl) (fun W => by kernel_rfl) ?_
  refine any_call (.agg (ints .u8 (bytesOf (resN za)))) 26 #[.slice (some ⟨g3, 0, none⟩) 32 32] (by kernel_rfl) (by kernel_rfl) (fun W => by kernel_rfl) (fun W hR => bitsC _ _ _ za ha (by omega) hab W (.inr ⟨g3, 0, rfl, row_lt (row_ext (row_ext r3_4 (ext_drew _)) hR), cells_of (row_ext (row_ext r3_4 (ext_drew _)) hR) ha⟩)) ?_
  refine any_read (.agg (ints .u8 (za))) (by kernel_rfl) (by kernel_rfl) (fun W hR => (run_load_row 23 _ g3 23 _ _ (row_ext (row_ext r3_4 (ext_drew _)) hR) rfl (by kernel_rfl) (by kernel_rfl) (isz (n := 32) (by kernel_rfl) ((ints_size _ _).trans ha)))) ?_
  refine any_val (.bool (decide (bytesOf (resN za) = za))) (by kernel_rfl) (by kernel_rfl) (fun W => (run_eql_agg 23 _ _ _ _ _ (.bool (decide (bytesOf (resN za) = za))) rfl (by kernel_rfl) (by kernel_rfl) (by kernel_rfl) (key_eql (bytesOf (resN za)) (za) (decide (bytesOf (resN za) = za)) (bytes_len _) ha rfl _))) ?_
  refine any_val (.bool true) (by kernel_rfl) (by kernel_rfl) (fun W => (run_eq (u := .bool (decide (bytesOf (resN za) = za) == decide (bytesOf (resN za) = za))) (by kernel_rfl) (congrArg Value.bool (beq_self_eq_true _)))) ?_
  refine any_val (.bool true) (by kernel_rfl) (by kernel_rfl) (fun W => by kernel_rfl) ?_
  refine steps_nil (hF _ (by kernel_rfl) fun W5 e5 => ?_)
  simp only [ups, up, Kn.val, List.take_succ_cons, List.take_zero, List.drop_succ_cons, List.drop_zero, List.nil_append, List.cons_append]
  clear hF
  have x5 : Ext w W5 := Ext.tr x4 e5
  refine seq_val (.bool true) 6 rfl (by kernel_rfl) (by kernel_rfl) ?_
  refine seq_nil ?_
  refine hK8 _ _ ?_
  try clear hK8 K8
  refine wp_ret ?_
  exact (show bodyPost _ _ _ .ret _ _ from ret1 (.bool true) rfl (res_tmp (by kernel_rfl)) ⟨rfl, x5⟩)

end Go.Proofs.YtaojnmjmmfdfjaaDoor.Field
