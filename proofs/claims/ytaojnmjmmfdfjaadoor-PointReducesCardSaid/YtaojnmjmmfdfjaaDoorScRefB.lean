/- Residues: the document's Reduce. -/
import Derived.Test.YtaojnmjmmfdfjaaDoorScRefA
namespace Go.Proofs.YtaojnmjmmfdfjaaDoor.Field
open Go Go.RowKit
open Go.Proofs.YtaojnmjmmfdfjaaDoor.Rely Go.Proofs.YtaojnmjmmfdfjaaDoor.Auto.V
open Go.Proofs.YtaojnmjmmfdfjaaDoor.Auto hiding isT tailT readsT storesT okT TailRun tailsOf pureOk stepsT stepsT_found InvT rem Phase isT_some mem_tails mem_rem rem_nodup list_false rem_sorted rem_set filter_ne holdsC wpAny_of_T t_store t_op t_skip t_val t_read t_call t_new t_nil TailEnv tail_env te_nil te_store any_regionT
set_option linter.unusedVariables false

set_option maxHeartbeats 16000000 in
theorem reduceC (gl N : Nat) (xs : List Int) (hx : xs.length = N) (hN : N ≤ 1000) (hxb : AreBytes xs) (w : World) (hl : w.heap[gl]? = some (.cells (ints .i64 xs) 3)) :
    Calls Tryd.prog 58 #[.slice (some ⟨gl, 0, none⟩) N N] w (Ret w (.agg (ints .u8 (bytesOf (leAt xs 0 N % ordL))))) := by
  refine enter 83 [(0, .slice (some ⟨gl, 0, none⟩) N N)] Tryd.func58 rfl rfl (by kernel_rfl) rfl ?_
  refine wp_seq_k fun K2 hK2 => ?_
  refine region_lit ?_
  refine seq_alloc (ints .u8 (List.replicate 32 0)) 23 2 rfl (by kernel_rfl) (by kernel_rfl) fun g3 W1 l3 e1 r3_1 => ?_
  have x1 : Ext w W1 := Ext.tr (Rely.Ext.refl w) e1
  have b3 : w.heap.size ≤ g3 := Nat.le_trans (Rely.Ext.refl w).size l3
  refine seq_nil ?_
  refine hK2 _ _ ?_
  try clear hK2 K2
  refine wp_seq_k fun K4 hK4 => ?_
  refine region_lit ?_
  refine seq_call (.agg (ints .u8 (ordI))) 24 #[] 13 rfl (by kernel_rfl) (by kernel_rfl) (orderI _) fun W2 e2 => ?_
  have x2 : Ext w W2 := Ext.tr x1 e2
  refine seq_alloc (ints .u8 (List.replicate 32 0)) 23 3 rfl (by kernel_rfl) (by kernel_rfl) fun g5 W3 l5 e3 r5_3 => ?_
  have x3 : Ext w W3 := Ext.tr x2 e3
  have b5 : w.heap.size ≤ g5 := Nat.le_trans x2.size l5
  refine seq_store g5 _ (ints .u8 (ordI)) 23 r5_3 rfl (by kernel_rfl) (run_store_row 23 _ _ g5 23 _ _ r5_3 rfl (by kernel_rfl) (by kernel_rfl) (isz (n := 32) (by kernel_rfl) ((ints_size _ _).trans ordI_len)) (eqsz (n := 32) ((ints_size _ _).trans zlen) ((ints_size _ _).trans ordI_len)) (ints_one _ _)) fun W4 p4 r5_4 => ?_
  have x4 : Ext w W4 := Puts.ext p4 x3 b5
  refine seq_nil ?_
  refine hK4 _ _ ?_
  try clear hK4 K4
  refine wp_seq_k fun K6 hK6 => ?_
  refine region_lit ?_
  refine seq_val (.slice (some ⟨g5, 0, none⟩) 32 32) 14 rfl (by kernel_rfl) (by kernel_rfl) ?_
  refine seq_callR (fun v W' => Ext W4 W' ∧ ∃ g, W4.heap.size ≤ g ∧ v = .slice (some ⟨g, 0, none⟩) 32 32 ∧ W'.heap[g]? = some (.cells (ints .i64 ordI) 3)) 59 #[.slice (some ⟨g5, 0, none⟩) 32 32] 15 rfl (by kernel_rfl) (by kernel_rfl) ((intsC _ 32 32 ordI ordI_len (by omega) ordI_bytes _ (.inr ⟨g5, 0, rfl, row_lt r5_4, cells_of r5_4 ordI_len⟩)).mono fun e w' ⟨v, h1, h2, h3⟩ => ⟨v, h1, h2, h3⟩) fun v W5 h => ?_
  obtain ⟨e5, gm, lm, rfl, r7_5⟩ := h
  have x5 : Ext w W5 := Ext.tr x4 e5
  have bm : w.heap.size ≤ gm := Nat.le_trans x4.size lm
  refine seq_val (.slice (some ⟨gm, 0, none⟩) 32 32) 4 rfl (by kernel_rfl) (by kernel_rfl) ?_
  refine seq_nil ?_
  refine hK6 _ _ ?_
  try clear hK6 K6
  refine wp_seq_k fun K8 hK8 => ?_
  refine region_lit ?_
  refine seq_makeS (ints .i64 (List.replicate 34 0)) 3 34 16 rfl (by kernel_rfl) (run_makeI 86 _ _ .i64 .i64 34 3 rfl (by kernel_rfl) (by kernel_rfl) (by kernel_rfl) (by first | exact .inl (by kernel_rfl) | exact .inr (by kernel_rfl)) (by decide)) fun g9 W6 l9 e6 r9_6 => ?_
  have x6 : Ext w W6 := Ext.tr x5 e6
  have b9 : w.heap.size ≤ g9 := Nat.le_trans x5.size l9
  refine seq_val (.slice (some ⟨g9, 0, none⟩) 34 34) 5 rfl (by kernel_rfl) (by kernel_rfl) ?_
  refine seq_nil ?_
  refine hK8 _ _ ?_
  try clear hK8 K8
  refine wp_seq_k fun K10 hK10 => ?_
  refine wp_seq_k fun K11 hK11 => ?_
  refine region_lit ?_
  refine seq_val (.slice (some ⟨gl, 0, none⟩) N N) 17 rfl (by kernel_rfl) (by kernel_rfl) ?_
  refine seq_val (.int .i64 ((N : Nat) : Int)) 18 rfl (by kernel_rfl) (by kernel_rfl) ?_
  refine seq_val (.int .i64 ((N : Int) - 1)) 19 rfl (by kernel_rfl) (run_eq (u := .int .i64 (IntKind.i64.wrap (((N : Nat) : Int) - 1))) (by kernel_rfl) (congrArg (Value.int .i64) (i64_sub1 N (by omega)))) ?_
  refine seq_val (.int .i64 ((N : Int) - 1)) 6 rfl (by kernel_rfl) (by kernel_rfl) ?_
  refine seq_nil ?_
  refine hK11 _ _ ?_
  try clear hK11 K11
  refine wp_block ?_
  have r3_2 := (row_ext r3_1 e2)
  have n_3_5 : g3 ≠ g5 := (ne_of_old r3_2 l5)
  have r3_4 := (Puts.row p4 (row_ext r3_2 e3) n_3_5)
  have n_3_7 : g3 ≠ gm := (ne_of_old r3_4 lm)
  have r3_5 := (row_ext r3_4 e5)
  have n_3_9 : g3 ≠ g9 := (ne_of_old r3_5 l9)
  have n_5_3 : g5 ≠ g3 := (ne_of_new r3_2 l5)
  have n_5_7 : g5 ≠ gm := (ne_of_old r5_4 lm)
  have r5_5 := (row_ext r5_4 e5)
  have n_5_9 : g5 ≠ g9 := (ne_of_old r5_5 l9)
  have n_7_3 : gm ≠ g3 := (ne_of_new r3_4 lm)
  have n_7_5 : gm ≠ g5 := (ne_of_new r5_4 lm)
  have n_7_9 : gm ≠ g9 := (ne_of_old r7_5 l9)
  have n_9_3 : g9 ≠ g3 := (ne_of_new r3_5 l9)
  have n_9_5 : g9 ≠ g5 := (ne_of_new r5_5 l9)
  have n_9_7 : g9 ≠ gm := (ne_of_new r7_5 l9)
  have r3_6 := (row_ext r3_5 e6)
  have r5_6 := (row_ext r5_5 e6)
  have r7_6 := (row_ext r7_5 e6)
  refine loop_auto (fun (k : Nat) => [(6, .int .i64 ((k : Int) - 1)), (0, .slice (some ⟨gl, 0, none⟩) N N), (2, .pointer (some ⟨g3, 0, none⟩)), (3, .pointer (some ⟨g5, 0, none⟩)), (4, .slice (some ⟨gm, 0, none⟩) 32 32), (5, .slice (some ⟨g9, 0, none⟩) 34 34)]) (fun (k : Nat) W => (k ≤ N) ∧ W.heap[g3]? = some (.cells (ints .u8 (List.replicate 32 0)) 23) ∧ W.heap[g5]? = some (.cells (ints .u8 (ordI)) 23) ∧ W.heap[gm]? = some (.cells (ints .i64 (ordI)) 3) ∧ W.heap[g9]? = some (.cells (ints .i64 (dig (redT xs N (N - k)))) 3) ∧ Ext w W) (fun (k : Nat) => k) N ⟨rfl, rfl, rfl, rfl, rfl, rfl, trivial⟩ ⟨(by omega), r3_6, r5_6, r7_6, (row_eq r9_6 (by rw [Nat.sub_self]; exact dig_zero)), x6⟩ fun k X1 V1 hI => ?_
  obtain ⟨hkN, q3_1, q5_1, q7_1, q9_1, xx1⟩ := hI
  rcases k with _ | j
  · skip
    refine wp_seq_k fun K12 hK12 => ?_
    refine wp_seq_k fun K13 hK13 => ?_
    refine region_lit ?_
    refine seq_val (.int .i64 (-1)) 20 rfl (by kernel_rfl) (by kernel_rfl) ?_
    refine seq_val (.bool false) 21 rfl (by kernel_rfl) (by kernel_rfl) ?_
    refine seq_nil ?_
    refine hK13 _ _ ?_
    try clear hK13 K13
    refine cond_false (by kernel_rfl) ?_
    refine wp_exit ?_
    refine hK10 _ _ ?_
    try clear hK10 K10
    refine wp_seq_k fun K14 hK14 => ?_
    refine region_lit ?_
    refine seq_alloc (ints .u8 (List.replicate 32 0)) 23 11 rfl (by kernel_rfl) (by kernel_rfl) fun g15 W8 l15 e8 r15_8 => ?_
    have x8 : Ext w W8 := Ext.tr xx1 e8
    have b15 : w.heap.size ≤ g15 := Nat.le_trans xx1.size l15
    refine seq_nil ?_
    refine hK14 _ _ ?_
    try clear hK14 K14
    refine wp_seq_k fun K16 hK16 => ?_
    refine wp_seq_k fun K17 hK17 => ?_
    refine region_lit ?_
    refine seq_val (.int .i64 0) 12 rfl (by kernel_rfl) (by kernel_rfl) ?_
    refine seq_nil ?_
    refine hK17 _ _ ?_
    try clear hK17 K17
    refine wp_block ?_
    have n_3_15 : g3 ≠ g15 := (ne_of_old q3_1 l15)
    have n_5_15 : g5 ≠ g15 := (ne_of_old q5_1 l15)
    have n_7_15 : gm ≠ g15 := (ne_of_old q7_1 l15)
    have n_9_15 : g9 ≠ g15 := (ne_of_old q9_1 l15)
    have n_15_3 : g15 ≠ g3 := (ne_of_new q3_1 l15)
    have n_15_5 : g15 ≠ g5 := (ne_of_new q5_1 l15)
    have n_15_7 : g15 ≠ gm := (ne_of_new q7_1 l15)
    have n_15_9 : g15 ≠ g9 := (ne_of_new q9_1 l15)
    have r3_8 := (row_ext q3_1 e8)
    have r5_8 := (row_ext q5_1 e8)
    have r7_8 := (row_ext q7_1 e8)
    have r9_8 := (row_ext q9_1 e8)
    refine loop_auto (fun (k : Nat) => [(12, .int .i64 ((k : Nat) : Int)), (11, .pointer (some ⟨g15, 0, none⟩)), (0, .slice (some ⟨gl, 0, none⟩) N N), (2, .pointer (some ⟨g3, 0, none⟩)), (3, .pointer (some ⟨g5, 0, none⟩)), (4, .slice (some ⟨gm, 0, none⟩) 32 32), (5, .slice (some ⟨g9, 0, none⟩) 34 34)]) (fun (k : Nat) W => (k ≤ 32) ∧ W.heap[g3]? = some (.cells (ints .u8 (List.replicate 32 0)) 23) ∧ W.heap[g5]? = some (.cells (ints .u8 (ordI)) 23) ∧ W.heap[gm]? = some (.cells (ints .i64 (ordI)) 3) ∧ W.heap[g9]? = some (.cells (ints .i64 (dig (redT xs N (N - 0)))) 3) ∧ W.heap[g15]? = some (.cells (ints .u8 (part (redT xs N (N - 0)) k)) 23) ∧ Ext w W) (fun (k : Nat) => 32 - k) 0 ⟨rfl, rfl, rfl, rfl, rfl, rfl, rfl, trivial⟩ ⟨(by omega), r3_8, r5_8, r7_8, r9_8, (row_eq r15_8 (part_none _)), x8⟩ fun k X2 V2 hI => ?_
    obtain ⟨hk32, q3_2, q5_2, q7_2, q9_2, q15_2, xx2⟩ := hI
    refine wp_seq_k fun K18 hK18 => ?_
    refine wp_seq_k fun K19 hK19 => ?_
    refine region_lit ?_
    refine seq_val (.int .i64 ((k : Nat) : Int)) 71 rfl (by kernel_rfl) (by kernel_rfl) ?_
    refine seq_val (.bool (decide (((k : Nat) : Int) < 32))) 72 rfl (by kernel_rfl) (by kernel_rfl) ?_
    refine seq_nil ?_
    refine hK19 _ _ ?_
    try clear hK19 K19
    refine cond_split (t := decide (((k : Nat) : Int) < 32)) (by kernel_rfl) (fun c20 => ?_) (fun c20 => ?_)
    · skip
      have hk : k < 32 := by have := of_decide_eq_true c20; omega
      have hbr := byteAt_range (redT xs N (N - 0)) k
      refine wp_skip ?_
      refine hK18 _ _ ?_
      try clear hK18 K18
      refine wp_seq_k fun K21 hK21 => ?_
      refine wp_block ?_
      refine region_lit ?_
      refine seq_val (.int .i64 ((k : Nat) : Int)) 75 rfl (by kernel_rfl) (by kernel_rfl) ?_
      refine seq_val (.slice (some ⟨g9, 0, none⟩) 34 34) 76 rfl (by kernel_rfl) (by kernel_rfl) ?_
      refine seq_val (.int .i64 ((k : Nat) : Int)) 77 rfl (by kernel_rfl) (by kernel_rfl) ?_
      refine seq_val (.pointer (some ⟨g9, k, none⟩)) 78 rfl (by kernel_rfl) (run_indexS0 86 _ _ .i64 (k) g9 34 34 3 rfl (by kernel_rfl) (by kernel_rfl) (by kernel_rfl) (by kernel_rfl) (by omega)) ?_
      refine seq_val (.int .i64 (byteAt (redT xs N (N - 0)) k)) 79 rfl (by kernel_rfl) (run_loadC1 3 _ g9 k 3 _ (.int .i64 (byteAt (redT xs N (N - 0)) k)) _ q9_2 rfl (by kernel_rfl) ((ints_get _ _ _ (Nat.lt_of_lt_of_eq (by omega) (dig_len _).symm)).trans (congrArg (fun z => some (Value.int .i64 z)) (dig_nth _ k (by omega)))) (by kernel_rfl)) ?_
      refine seq_val (.int .u8 (byteAt (redT xs N (N - 0)) k)) 80 rfl (by kernel_rfl) (run_eq (u := .int .u8 (IntKind.u8.wrap (byteAt (redT xs N (N - 0)) k))) (by kernel_rfl) (congrArg (Value.int .u8) (by rw [u8_mod]; omega))) ?_
      refine seq_val (.pointer (some ⟨g15, k, none⟩)) 81 rfl (by kernel_rfl) (run_index0 _ _ _ .i64 (k) _ 32 5 rfl (by kernel_rfl) (by kernel_rfl) (by kernel_rfl) (by kernel_rfl) hk) ?_
      refine seq_store g15 _ (ints .u8 ((part (redT xs N (N - 0)) k).set k (byteAt (redT xs N (N - 0)) k))) 23 q15_2 rfl (by kernel_rfl) (run_storeI 5 _ _ g15 k 23 _ _ q15_2 rfl (by kernel_rfl) (by kernel_rfl) (by kernel_rfl) (Nat.lt_of_lt_of_eq hk (part_len _ _).symm)) fun W10 p10 r15_10 => ?_
      have x10 : Ext w W10 := Puts.ext p10 xx2 b15
      refine seq_nil ?_
      refine hK21 _ _ ?_
      try clear hK21 K21
      refine region_lit ?_
      refine seq_val (.int .i64 ((k : Nat) : Int)) 73 rfl (by kernel_rfl) (by kernel_rfl) ?_
      refine seq_val (.int .i64 (((k + 1 : Nat) : Int))) 74 rfl (by kernel_rfl) (run_eq (u := .int .i64 (IntKind.i64.wrap (((k : Nat) : Int) + 1))) (by kernel_rfl) (congrArg (Value.int .i64) (i64_add1 k (by omega)))) ?_
      refine seq_val (.int .i64 (((k + 1 : Nat) : Int))) 12 rfl (by kernel_rfl) (by kernel_rfl) ?_
      refine seq_nil ?_
      have r3_10 := (Puts.row p10 q3_2 n_3_15)
      have r5_10 := (Puts.row p10 q5_2 n_5_15)
      have r7_10 := (Puts.row p10 q7_2 n_7_15)
      have r9_10 := (Puts.row p10 q9_2 n_9_15)
      repeat (first | with_reducible refine goX1 ?_ | with_reducible refine goX2 ?_ | with_reducible refine goX3 ?_)
      exact goes_then (k + 1) ⟨rfl, rfl, rfl, rfl, rfl, rfl, rfl, trivial⟩ ⟨(by omega), r3_10, r5_10, r7_10, r9_10, (row_eq r15_10 (part_next _ k hk)), x10⟩ (by omega)
    · skip
      have hk : k = 32 := by have := of_decide_eq_false c20; omega
      subst hk
      refine wp_exit ?_
      refine hK16 _ _ ?_
      try clear hK16 K16
      refine wp_seq_k fun K22 hK22 => ?_
      refine region_lit ?_
      refine seq_val (.agg (ints .u8 (part (redT xs N (N - 0)) 32))) 82 rfl (by kernel_rfl) (run_load_row 23 _ g15 23 _ _ q15_2 rfl (by kernel_rfl) (by kernel_rfl) (isz (n := 32) (by kernel_rfl) ((ints_size _ _).trans (part_len _ _)))) ?_
      refine seq_store g3 _ (ints .u8 (part (redT xs N (N - 0)) 32)) 23 q3_2 rfl (by kernel_rfl) (run_store_row 23 _ _ g3 23 _ _ q3_2 rfl (by kernel_rfl) (by kernel_rfl) (isz (n := 32) (by kernel_rfl) ((ints_size _ _).trans (part_len _ _))) (eqsz (n := 32) ((ints_size _ _).trans zlen) ((ints_size _ _).trans (part_len _ _))) (ints_one _ _)) fun W10 p10 r3_10 => ?_
      have x10 : Ext w W10 := Puts.ext p10 xx2 b3
      refine seq_nil ?_
      refine hK22 _ _ ?_
      try clear hK22 K22
      refine wp_ret ?_
      exact (show bodyPost _ _ _ .ret _ _ from ret1 (.agg (ints .u8 (part (redT xs N (N - 0)) 32))) rfl (res_cell g3 23 _ r3_10 (by kernel_rfl) (by kernel_rfl) (isz (n := 32) (by kernel_rfl) ((ints_size _ _).trans (part_len _ _)))) ⟨by rw [Nat.sub_zero, redT_val xs N N (Nat.le_refl _), Nat.sub_self]; rfl, x10⟩)
  · rw [show (((j + 1 : Nat) : Int) - 1) = ((j : Nat) : Int) by omega]
    have hRT : redT xs N (N - j) = (256 * redT xs N (N - (j + 1)) + nth xs j) % ordL := by
      rw [show N - j = (N - (j + 1)) + 1 by omega, redT, show N - 1 - (N - (j + 1)) = j by omega]
    have hRS := redT_isS xs N (N - (j + 1))
    generalize redT xs N (N - (j + 1)) = R at hRT hRS q9_1
    refine wp_seq_k fun K23 hK23 => ?_
    refine wp_seq_k fun K24 hK24 => ?_
    refine region_lit ?_
    refine seq_val (.int .i64 ((j : Nat) : Int)) 20 rfl (by kernel_rfl) (by kernel_rfl) ?_
    refine seq_val (.bool true) 21 rfl (by kernel_rfl) (run_eq (u := .bool (decide (((j : Nat) : Int) ≥ 0))) (by kernel_rfl) (congrArg Value.bool (decide_eq_true (by omega)))) ?_
    refine seq_nil ?_
    refine hK24 _ _ ?_
    try clear hK24 K24
    refine cond_true (by kernel_rfl) ?_
    refine wp_skip ?_
    refine hK23 _ _ ?_
    try clear hK23 K23
    refine wp_seq_k fun K25 hK25 => ?_
    refine wp_block ?_
    refine wp_seq_k fun K26 hK26 => ?_
    refine wp_seq_k fun K27 hK27 => ?_
    refine region_lit ?_
    refine seq_val (.int .i64 33) 7 rfl (by kernel_rfl) (by kernel_rfl) ?_
    refine seq_nil ?_
    refine hK27 _ _ ?_
    try clear hK27 K27
    refine wp_block ?_
    refine loop_auto (fun (q : Nat) => [(7, .int .i64 ((q : Nat) : Int)), (6, .int .i64 ((j : Nat) : Int)), (0, .slice (some ⟨gl, 0, none⟩) N N), (2, .pointer (some ⟨g3, 0, none⟩)), (3, .pointer (some ⟨g5, 0, none⟩)), (4, .slice (some ⟨gm, 0, none⟩) 32 32), (5, .slice (some ⟨g9, 0, none⟩) 34 34)]) (fun (q : Nat) W => (q ≤ 33) ∧ W.heap[g3]? = some (.cells (ints .u8 (List.replicate 32 0)) 23) ∧ W.heap[g5]? = some (.cells (ints .u8 (ordI)) 23) ∧ W.heap[gm]? = some (.cells (ints .i64 (ordI)) 3) ∧ W.heap[g9]? = some (.cells (ints .i64 (sh R (q + 1))) 3) ∧ Ext w W) (fun (q : Nat) => q) 33 ⟨rfl, rfl, rfl, rfl, rfl, rfl, rfl, trivial⟩ ⟨(by omega), q3_1, q5_1, q7_1, (row_eq q9_1 (sh_start R)), xx1⟩ fun q X3 V3 hI => ?_
    obtain ⟨hq33, q3_3, q5_3, q7_3, q9_3, xx3⟩ := hI
    refine wp_seq_k fun K28 hK28 => ?_
    refine wp_seq_k fun K29 hK29 => ?_
    refine region_lit ?_
    refine seq_val (.int .i64 ((q : Nat) : Int)) 24 rfl (by kernel_rfl) (by kernel_rfl) ?_
    refine seq_val (.bool (decide (((q : Nat) : Int) > 0))) 25 rfl (by kernel_rfl) (by kernel_rfl) ?_
    refine seq_nil ?_
    refine hK29 _ _ ?_
    try clear hK29 K29
    refine cond_split (t := decide (((q : Nat) : Int) > 0)) (by kernel_rfl) (fun c30 => ?_) (fun c30 => ?_)
    · skip
      have hq0 : 0 < q := by have := of_decide_eq_true c30; omega
      refine wp_skip ?_
      refine hK28 _ _ ?_
      try clear hK28 K28
      refine wp_seq_k fun K31 hK31 => ?_
      refine wp_block ?_
      refine region_lit ?_
      refine seq_val (.slice (some ⟨g9, 0, none⟩) 34 34) 28 rfl (by kernel_rfl) (by kernel_rfl) ?_
      refine seq_val (.int .i64 ((q : Nat) : Int)) 29 rfl (by kernel_rfl) (by kernel_rfl) ?_
      refine seq_val (.slice (some ⟨g9, 0, none⟩) 34 34) 30 rfl (by kernel_rfl) (by kernel_rfl) ?_
      refine seq_val (.int .i64 ((q : Nat) : Int)) 31 rfl (by kernel_rfl) (by kernel_rfl) ?_
      refine seq_val (.int .i64 (((q - 1 : Nat) : Int))) 32 rfl (by kernel_rfl) (run_eq (u := .int .i64 (IntKind.i64.wrap (((q : Nat) : Int) - 1))) (by kernel_rfl) (congrArg (Value.int .i64) (i64_pred q hq0 (by omega)))) ?_
      refine seq_val (.pointer (some ⟨g9, (q - 1), none⟩)) 33 rfl (by kernel_rfl) (run_indexS0 86 _ _ .i64 (q - 1) g9 34 34 3 rfl (by kernel_rfl) (by kernel_rfl) (by kernel_rfl) (by kernel_rfl) (by omega)) ?_
      refine seq_val (.int .i64 (byteAt R (q - 1))) 34 rfl (by kernel_rfl) (run_loadC1 3 _ g9 (q - 1) 3 _ (.int .i64 (byteAt R (q - 1))) _ q9_3 rfl (by kernel_rfl) ((ints_get _ _ _ (Nat.lt_of_lt_of_eq (by omega) (sh_len _ _).symm)).trans (congrArg (fun z => some (Value.int .i64 z)) (sh_nth R _ _ (by omega) (by omega)))) (by kernel_rfl)) ?_
      refine seq_val (.pointer (some ⟨g9, q, none⟩)) 35 rfl (by kernel_rfl) (run_indexS0 86 _ _ .i64 (q) g9 34 34 3 rfl (by kernel_rfl) (by kernel_rfl) (by kernel_rfl) (by kernel_rfl) (by omega)) ?_
      refine seq_store g9 _ (ints .i64 ((sh R (q + 1)).set q (byteAt R (q - 1)))) 3 q9_3 rfl (by kernel_rfl) (run_storeI 3 _ _ g9 q 3 _ _ q9_3 rfl (by kernel_rfl) (by kernel_rfl) (by kernel_rfl) (Nat.lt_of_lt_of_eq (by omega) (sh_len _ _).symm)) fun W9 p9 r9_9 => ?_
      have x9 : Ext w W9 := Puts.ext p9 xx3 b9
      refine seq_nil ?_
      refine hK31 _ _ ?_
      try clear hK31 K31
      refine region_lit ?_
      refine seq_val (.int .i64 ((q : Nat) : Int)) 26 rfl (by kernel_rfl) (by kernel_rfl) ?_
      refine seq_val (.int .i64 (((q - 1 : Nat) : Int))) 27 rfl (by kernel_rfl) (run_eq (u := .int .i64 (IntKind.i64.wrap (((q : Nat) : Int) - 1))) (by kernel_rfl) (congrArg (Value.int .i64) (i64_pred q hq0 (by omega)))) ?_
      refine seq_val (.int .i64 (((q - 1 : Nat) : Int))) 7 rfl (by kernel_rfl) (by kernel_rfl) ?_
      refine seq_nil ?_
      have r3_9 := (Puts.row p9 q3_3 n_3_9)
      have r5_9 := (Puts.row p9 q5_3 n_5_9)
      have r7_9 := (Puts.row p9 q7_3 n_7_9)
      repeat (first | with_reducible refine goX1 ?_ | with_reducible refine goX2 ?_ | with_reducible refine goX3 ?_)
      exact goes_then (q - 1) ⟨rfl, rfl, rfl, rfl, rfl, rfl, rfl, trivial⟩ ⟨(by omega), r3_9, r5_9, r7_9, (row_eq r9_9 (sh_next R q hq0 (by omega))), x9⟩ (by omega)
    · skip
      have hq0 : q = 0 := by have := of_decide_eq_false c30; omega
      subst hq0
      have hx0 : 0 ≤ nth xs j ∧ nth xs j ≤ 255 := hxb.nth j
      refine wp_exit ?_
      refine hK26 _ _ ?_
      try clear hK26 K26
      refine wp_seq_k fun K32 hK32 => ?_
      refine region_lit ?_
      refine seq_val (.slice (some ⟨g9, 0, none⟩) 34 34) 36 rfl (by kernel_rfl) (by kernel_rfl) ?_
      refine seq_val (.slice (some ⟨gl, 0, none⟩) N N) 37 rfl (by kernel_rfl) (by kernel_rfl) ?_
      refine seq_val (.int .i64 ((j : Nat) : Int)) 38 rfl (by kernel_rfl) (by kernel_rfl) ?_
      refine seq_val (.pointer (some ⟨gl, j, none⟩)) 39 rfl (by kernel_rfl) (run_indexS0 86 _ _ .i64 (j) gl N N 3 rfl (by kernel_rfl) (by kernel_rfl) (by kernel_rfl) (by kernel_rfl) (by omega)) ?_
      refine seq_val (.int .i64 (nth (xs) j)) 40 rfl (by kernel_rfl) (run_loadC1 3 _ gl j 3 _ (.int .i64 (nth (xs) j)) _ (row_ext hl xx3) rfl (by kernel_rfl) (ints_get _ _ _ (Nat.lt_of_lt_of_eq (by omega) hx.symm)) (by kernel_rfl)) ?_
      refine seq_val (.pointer (some ⟨g9, 0, none⟩)) 41 rfl (by kernel_rfl) (run_indexS0 86 _ _ .i64 (0) g9 34 34 3 rfl (by kernel_rfl) (by kernel_rfl) (by kernel_rfl) (by kernel_rfl) (by decide)) ?_
      refine seq_store g9 _ (ints .i64 ((sh R (0 + 1)).set 0 (nth (xs) j))) 3 q9_3 rfl (by kernel_rfl) (run_storeI 3 _ _ g9 0 3 _ _ q9_3 rfl (by kernel_rfl) (by kernel_rfl) (by kernel_rfl) (Nat.lt_of_lt_of_eq (by decide) (sh_len _ _).symm)) fun W9 p9 r9_9 => ?_
      have x9 : Ext w W9 := Puts.ext p9 xx3 b9
      refine seq_nil ?_
      refine hK32 _ _ ?_
      try clear hK32 K32
      refine wp_block ?_
      have r3_9 := (Puts.row p9 q3_3 n_3_9)
      have r5_9 := (Puts.row p9 q5_3 n_5_9)
      have r7_9 := (Puts.row p9 q7_3 n_7_9)
      refine loop_auto (fun (V : Int) => [(6, .int .i64 ((j : Nat) : Int)), (0, .slice (some ⟨gl, 0, none⟩) N N), (2, .pointer (some ⟨g3, 0, none⟩)), (3, .pointer (some ⟨g5, 0, none⟩)), (4, .slice (some ⟨gm, 0, none⟩) 32 32), (5, .slice (some ⟨g9, 0, none⟩) 34 34)]) (fun (V : Int) W => (0 ≤ V) ∧ (V % ordL = (256 * R + nth xs j) % ordL) ∧ (V < 256 ^ 34) ∧ W.heap[g3]? = some (.cells (ints .u8 (List.replicate 32 0)) 23) ∧ W.heap[g5]? = some (.cells (ints .u8 (ordI)) 23) ∧ W.heap[gm]? = some (.cells (ints .i64 (ordI)) 3) ∧ W.heap[g9]? = some (.cells (ints .i64 (dig V)) 3) ∧ Ext w W) (fun (V : Int) => V.toNat) (256 * R + nth xs j) ⟨rfl, rfl, rfl, rfl, rfl, rfl, trivial⟩ ⟨(by have := hRS.1; omega), rfl, (v_bound hRS hx0), r3_9, r5_9, r7_9, (row_eq r9_9 (sh_end R (nth xs j) hx0)), x9⟩ fun V X4 V4 hI => ?_
      obtain ⟨hV0, hVm, hV1, q3_4, q5_4, q7_4, q9_4, xx4⟩ := hI
      refine wp_seq_k fun K33 hK33 => ?_
      refine wp_seq_k fun K34 hK34 => ?_
      refine region_lit ?_
      refine seq_val (.slice (some ⟨g9, 0, none⟩) 34 34) 42 rfl (by kernel_rfl) (by kernel_rfl) ?_
      refine seq_val (.slice (some ⟨gm, 0, none⟩) 32 32) 43 rfl (by kernel_rfl) (by kernel_rfl) ?_
      refine seq_call (.bool (decide (ordL ≤ V))) 73 #[.slice (some ⟨g9, 0, none⟩) 34 34, .slice (some ⟨gm, 0, none⟩) 32 32] 44 rfl (by kernel_rfl) (by kernel_rfl) ((ge_dig V hV0 hV1) ▸ (atLeastC _ _ (dig V) ordI (dig_len V) ordI_len (dig_bytes V) ordI_bytes _ q9_4 q7_4)) fun W11 e11 => ?_
      have x11 : Ext w W11 := Ext.tr xx4 e11
      refine seq_nil ?_
      refine hK34 _ _ ?_
      try clear hK34 K34
      refine cond_split (t := decide (ordL ≤ V)) (by kernel_rfl) (fun c35 => ?_) (fun c35 => ?_)
      · skip
        have hge : ordL ≤ V := of_decide_eq_true c35
        refine wp_skip ?_
        refine hK33 _ _ ?_
        try clear hK33 K33
        refine wp_block ?_
        refine wp_seq_k fun K36 hK36 => ?_
        refine region_lit ?_
        refine seq_val (.int .i64 0) 8 rfl (by kernel_rfl) (by kernel_rfl) ?_
        refine seq_nil ?_
        refine hK36 _ _ ?_
        try clear hK36 K36
        refine wp_seq_k fun K37 hK37 => ?_
        refine region_lit ?_
        refine seq_val (.int .i64 0) 9 rfl (by kernel_rfl) (by kernel_rfl) ?_
        refine seq_nil ?_
        refine hK37 _ _ ?_
        try clear hK37 K37
        refine wp_block ?_
        have r3_11 := (row_ext q3_4 e11)
        have r5_11 := (row_ext q5_4 e11)
        have r7_11 := (row_ext q7_4 e11)
        have r9_11 := (row_ext q9_4 e11)
        refine loop_auto (fun (k : Nat) => [(8, .int .i64 (bo V k)), (9, .int .i64 ((k : Nat) : Int)), (6, .int .i64 ((j : Nat) : Int)), (0, .slice (some ⟨gl, 0, none⟩) N N), (2, .pointer (some ⟨g3, 0, none⟩)), (3, .pointer (some ⟨g5, 0, none⟩)), (4, .slice (some ⟨gm, 0, none⟩) 32 32), (5, .slice (some ⟨g9, 0, none⟩) 34 34)]) (fun (k : Nat) W => (k ≤ 34) ∧ W.heap[g3]? = some (.cells (ints .u8 (List.replicate 32 0)) 23) ∧ W.heap[g5]? = some (.cells (ints .u8 (ordI)) 23) ∧ W.heap[gm]? = some (.cells (ints .i64 (ordI)) 3) ∧ W.heap[g9]? = some (.cells (ints .i64 (sb V k)) 3) ∧ Ext w W) (fun (k : Nat) => 34 - k) 0 ⟨(congrArg (Value.int .i64) (bo_zero V).symm), rfl, rfl, rfl, rfl, rfl, rfl, rfl, trivial⟩ ⟨(by omega), r3_11, r5_11, r7_11, (row_eq r9_11 (sb_start V)), x11⟩ fun k X5 V5 hI => ?_
        obtain ⟨hk34, q3_5, q5_5, q7_5, q9_5, xx5⟩ := hI
        refine wp_seq_k fun K38 hK38 => ?_
        refine wp_seq_k fun K39 hK39 => ?_
        refine region_lit ?_
        refine seq_val (.int .i64 ((k : Nat) : Int)) 45 rfl (by kernel_rfl) (by kernel_rfl) ?_
        refine seq_val (.bool (decide (((k : Nat) : Int) < 34))) 46 rfl (by kernel_rfl) (by kernel_rfl) ?_
        refine seq_nil ?_
        refine hK39 _ _ ?_
        try clear hK39 K39
        refine cond_split (t := decide (((k : Nat) : Int) < 34)) (by kernel_rfl) (fun c40 => ?_) (fun c40 => ?_)
        · skip
          have hk : k < 34 := by have := of_decide_eq_true c40; omega
          have hbr := byteAt_range V k
          have hbo := bo_range V k
          have hbl2 := byteAt_range ordL k
          refine wp_skip ?_
          refine hK38 _ _ ?_
          try clear hK38 K38
          refine wp_seq_k fun K41 hK41 => ?_
          refine wp_block ?_
          refine wp_seq_k fun K42 hK42 => ?_
          refine region_lit ?_
          refine seq_val (.slice (some ⟨g9, 0, none⟩) 34 34) 49 rfl (by kernel_rfl) (by kernel_rfl) ?_
          refine seq_val (.int .i64 ((k : Nat) : Int)) 50 rfl (by kernel_rfl) (by kernel_rfl) ?_
          refine seq_val (.pointer (some ⟨g9, k, none⟩)) 51 rfl (by kernel_rfl) (run_indexS0 86 _ _ .i64 (k) g9 34 34 3 rfl (by kernel_rfl) (by kernel_rfl) (by kernel_rfl) (by kernel_rfl) hk) ?_
          refine seq_val (.int .i64 (byteAt V k)) 52 rfl (by kernel_rfl) (run_loadC1 3 _ g9 k 3 _ (.int .i64 (byteAt V k)) _ q9_5 rfl (by kernel_rfl) ((ints_get _ _ _ (Nat.lt_of_lt_of_eq hk (sb_len _ _).symm)).trans (congrArg (fun z => some (Value.int .i64 z)) (sb_nth V k hk))) (by kernel_rfl)) ?_
          refine seq_val (.int .i64 (bo V k)) 53 rfl (by kernel_rfl) (by kernel_rfl) ?_
          refine seq_val (.int .i64 (byteAt V k - bo V k)) 54 rfl (by kernel_rfl) (run_eq (u := .int .i64 (IntKind.i64.wrap ((byteAt V k) - (bo V k)))) (by kernel_rfl) (congrArg (Value.int .i64) (i64_small _ (by omega)))) ?_
          refine seq_val (.int .i64 (byteAt V k - bo V k)) 10 rfl (by kernel_rfl) (by kernel_rfl) ?_
          refine seq_nil ?_
          refine hK42 _ _ ?_
          try clear hK42 K42
          refine wp_seq_k fun K43 hK43 => ?_
          refine wp_seq_k fun K44 hK44 => ?_
          refine region_lit ?_
          refine seq_val (.int .i64 ((k : Nat) : Int)) 55 rfl (by kernel_rfl) (by kernel_rfl) ?_
          refine seq_val (.bool (decide (((k : Nat) : Int) < 32))) 56 rfl (by kernel_rfl) (by kernel_rfl) ?_
          refine seq_nil ?_
          refine hK44 _ _ ?_
          try clear hK44 K44
          refine cond_split (t := decide (((k : Nat) : Int) < 32)) (by kernel_rfl) (fun c45 => ?_) (fun c45 => ?_)
          · skip
            have hk2 : k < 32 := by have := of_decide_eq_true c45; omega
            have hdn : dn V k = byteAt V k - bo V k - byteAt ordL k := rfl
            refine region_lit ?_
            refine seq_val (.int .i64 (byteAt V k - bo V k)) 57 rfl (by kernel_rfl) (by kernel_rfl) ?_
            refine seq_val (.slice (some ⟨gm, 0, none⟩) 32 32) 58 rfl (by kernel_rfl) (by kernel_rfl) ?_
            refine seq_val (.int .i64 ((k : Nat) : Int)) 59 rfl (by kernel_rfl) (by kernel_rfl) ?_
            refine seq_val (.pointer (some ⟨gm, k, none⟩)) 60 rfl (by kernel_rfl) (run_indexS0 86 _ _ .i64 (k) gm 32 32 3 rfl (by kernel_rfl) (by kernel_rfl) (by kernel_rfl) (by kernel_rfl) (by omega)) ?_
            refine seq_val (.int .i64 (byteAt ordL k)) 61 rfl (by kernel_rfl) (run_loadC1 3 _ gm k 3 _ (.int .i64 (byteAt ordL k)) _ q7_5 rfl (by kernel_rfl) ((ints_get _ _ _ (Nat.lt_of_lt_of_eq (by omega) ordI_len.symm)).trans (congrArg (fun z => some (Value.int .i64 z)) (ordI_nth k hk2))) (by kernel_rfl)) ?_
            refine seq_val (.int .i64 (byteAt V k - bo V k - byteAt ordL k)) 62 rfl (by kernel_rfl) (run_eq (u := .int .i64 (IntKind.i64.wrap ((byteAt V k - bo V k) - (byteAt ordL k)))) (by kernel_rfl) (congrArg (Value.int .i64) (i64_small _ (by omega)))) ?_
            refine seq_val (.int .i64 (byteAt V k - bo V k - byteAt ordL k)) 10 rfl (by kernel_rfl) (by kernel_rfl) ?_
            refine seq_nil ?_
            refine hK43 _ _ ?_
            try clear hK43 K43
            refine wp_seq_k fun K46 hK46 => ?_
            refine region_lit ?_
            refine seq_val (.int .i64 0) 8 rfl (by kernel_rfl) (by kernel_rfl) ?_
            refine seq_nil ?_
            refine hK46 _ _ ?_
            try clear hK46 K46
            refine wp_seq_k fun K47 hK47 => ?_
            refine wp_seq_k fun K48 hK48 => ?_
            refine region_lit ?_
            refine seq_val (.int .i64 (byteAt V k - bo V k - byteAt ordL k)) 63 rfl (by kernel_rfl) (by kernel_rfl) ?_
            refine seq_val (.bool (decide ((byteAt V k - bo V k - byteAt ordL k) < 0))) 64 rfl (by kernel_rfl) (by kernel_rfl) ?_
            refine seq_nil ?_
            refine hK48 _ _ ?_
            try clear hK48 K48
            refine cond_split (t := decide ((byteAt V k - bo V k - byteAt ordL k) < 0)) (by kernel_rfl) (fun c49 => ?_) (fun c49 => ?_)
            · skip
              have hneg : dn V k < 0 := by rw [hdn]; exact of_decide_eq_true c49
              obtain ⟨hd1, hd2⟩ := dsub_neg V k hneg
              rw [hdn] at hd1
              refine wp_seq_k fun K50 hK50 => ?_
              refine region_lit ?_
              refine seq_val (.int .i64 (byteAt V k - bo V k - byteAt ordL k)) 65 rfl (by kernel_rfl) (by kernel_rfl) ?_
              refine seq_val (.int .i64 ((byteAt V k - bo V k - byteAt ordL k) + 256)) 66 rfl (by kernel_rfl) (run_eq (u := .int .i64 (IntKind.i64.wrap ((byteAt V k - bo V k - byteAt ordL k) + 256))) (by kernel_rfl) (congrArg (Value.int .i64) (i64_small _ (by omega)))) ?_
              refine seq_val (.int .i64 ((byteAt V k - bo V k - byteAt ordL k) + 256)) 10 rfl (by kernel_rfl) (by kernel_rfl) ?_
              refine seq_nil ?_
              refine hK50 _ _ ?_
              try clear hK50 K50
              refine region_lit ?_
              refine seq_val (.int .i64 1) 8 rfl (by kernel_rfl) (by kernel_rfl) ?_
              refine seq_nil ?_
              refine hK47 _ _ ?_
              try clear hK47 K47
              refine region_lit ?_
              refine seq_val (.slice (some ⟨g9, 0, none⟩) 34 34) 67 rfl (by kernel_rfl) (by kernel_rfl) ?_
              refine seq_val (.int .i64 ((k : Nat) : Int)) 68 rfl (by kernel_rfl) (by kernel_rfl) ?_
              refine seq_val (.int .i64 ((byteAt V k - bo V k - byteAt ordL k) + 256)) 69 rfl (by kernel_rfl) (by kernel_rfl) ?_
              refine seq_val (.pointer (some ⟨g9, k, none⟩)) 70 rfl (by kernel_rfl) (run_indexS0 86 _ _ .i64 (k) g9 34 34 3 rfl (by kernel_rfl) (by kernel_rfl) (by kernel_rfl) (by kernel_rfl) hk) ?_
              refine seq_store g9 _ (ints .i64 ((sb V k).set k ((byteAt V k - bo V k - byteAt ordL k) + 256))) 3 q9_5 rfl (by kernel_rfl) (run_storeI 3 _ _ g9 k 3 _ _ q9_5 rfl (by kernel_rfl) (by kernel_rfl) (by kernel_rfl) (Nat.lt_of_lt_of_eq hk (sb_len _ _).symm)) fun W13 p13 r9_13 => ?_
              have x13 : Ext w W13 := Puts.ext p13 xx5 b9
              refine seq_nil ?_
              refine hK41 _ _ ?_
              try clear hK41 K41
              refine region_lit ?_
              refine seq_val (.int .i64 ((k : Nat) : Int)) 47 rfl (by kernel_rfl) (by kernel_rfl) ?_
              refine seq_val (.int .i64 (((k + 1 : Nat) : Int))) 48 rfl (by kernel_rfl) (run_eq (u := .int .i64 (IntKind.i64.wrap (((k : Nat) : Int) + 1))) (by kernel_rfl) (congrArg (Value.int .i64) (i64_add1 k (by omega)))) ?_
              refine seq_val (.int .i64 (((k + 1 : Nat) : Int))) 9 rfl (by kernel_rfl) (by kernel_rfl) ?_
              refine seq_nil ?_
              have r3_13 := (Puts.row p13 q3_5 n_3_9)
              have r5_13 := (Puts.row p13 q5_5 n_5_9)
              have r7_13 := (Puts.row p13 q7_5 n_7_9)
              repeat (first | with_reducible refine goX1 ?_ | with_reducible refine goX2 ?_ | with_reducible refine goX3 ?_)
              exact goes_then (k + 1) ⟨(congrArg (Value.int .i64) hd2.symm), rfl, rfl, rfl, rfl, rfl, rfl, rfl, trivial⟩ ⟨(by omega), r3_13, r5_13, r7_13, (row_eq r9_13 (sb_next V k hk _ hd1)), x13⟩ (by omega)
            · skip
              have hneg : ¬ dn V k < 0 := by rw [hdn]; exact of_decide_eq_false c49
              obtain ⟨hd1, hd2⟩ := dsub_pos V k hneg
              rw [hdn] at hd1
              refine wp_skip ?_
              refine hK47 _ _ ?_
              try clear hK47 K47
              refine region_lit ?_
              refine seq_val (.slice (some ⟨g9, 0, none⟩) 34 34) 67 rfl (by kernel_rfl) (by kernel_rfl) ?_
              refine seq_val (.int .i64 ((k : Nat) : Int)) 68 rfl (by kernel_rfl) (by kernel_rfl) ?_
              refine seq_val (.int .i64 (byteAt V k - bo V k - byteAt ordL k)) 69 rfl (by kernel_rfl) (by kernel_rfl) ?_
              refine seq_val (.pointer (some ⟨g9, k, none⟩)) 70 rfl (by kernel_rfl) (run_indexS0 86 _ _ .i64 (k) g9 34 34 3 rfl (by kernel_rfl) (by kernel_rfl) (by kernel_rfl) (by kernel_rfl) hk) ?_
              refine seq_store g9 _ (ints .i64 ((sb V k).set k (byteAt V k - bo V k - byteAt ordL k))) 3 q9_5 rfl (by kernel_rfl) (run_storeI 3 _ _ g9 k 3 _ _ q9_5 rfl (by kernel_rfl) (by kernel_rfl) (by kernel_rfl) (Nat.lt_of_lt_of_eq hk (sb_len _ _).symm)) fun W13 p13 r9_13 => ?_
              have x13 : Ext w W13 := Puts.ext p13 xx5 b9
              refine seq_nil ?_
              refine hK41 _ _ ?_
              try clear hK41 K41
              refine region_lit ?_
              refine seq_val (.int .i64 ((k : Nat) : Int)) 47 rfl (by kernel_rfl) (by kernel_rfl) ?_
              refine seq_val (.int .i64 (((k + 1 : Nat) : Int))) 48 rfl (by kernel_rfl) (run_eq (u := .int .i64 (IntKind.i64.wrap (((k : Nat) : Int) + 1))) (by kernel_rfl) (congrArg (Value.int .i64) (i64_add1 k (by omega)))) ?_
              refine seq_val (.int .i64 (((k + 1 : Nat) : Int))) 9 rfl (by kernel_rfl) (by kernel_rfl) ?_
              refine seq_nil ?_
              have r3_13 := (Puts.row p13 q3_5 n_3_9)
              have r5_13 := (Puts.row p13 q5_5 n_5_9)
              have r7_13 := (Puts.row p13 q7_5 n_7_9)
              repeat (first | with_reducible refine goX1 ?_ | with_reducible refine goX2 ?_ | with_reducible refine goX3 ?_)
              exact goes_then (k + 1) ⟨(congrArg (Value.int .i64) hd2.symm), rfl, rfl, rfl, rfl, rfl, rfl, rfl, trivial⟩ ⟨(by omega), r3_13, r5_13, r7_13, (row_eq r9_13 (sb_next V k hk _ hd1)), x13⟩ (by omega)
          · skip
            have hk2 : 32 ≤ k := by have := of_decide_eq_false c45; omega
            have hdn : dn V k = byteAt V k - bo V k := by show _ - byteAt ordL k = _; rw [ord_high k hk2]; omega
            refine wp_skip ?_
            refine hK43 _ _ ?_
            try clear hK43 K43
            refine wp_seq_k fun K51 hK51 => ?_
            refine region_lit ?_
            refine seq_val (.int .i64 0) 8 rfl (by kernel_rfl) (by kernel_rfl) ?_
            refine seq_nil ?_
            refine hK51 _ _ ?_
            try clear hK51 K51
            refine wp_seq_k fun K52 hK52 => ?_
            refine wp_seq_k fun K53 hK53 => ?_
            refine region_lit ?_
            refine seq_val (.int .i64 (byteAt V k - bo V k)) 63 rfl (by kernel_rfl) (by kernel_rfl) ?_
            refine seq_val (.bool (decide ((byteAt V k - bo V k) < 0))) 64 rfl (by kernel_rfl) (by kernel_rfl) ?_
            refine seq_nil ?_
            refine hK53 _ _ ?_
            try clear hK53 K53
            refine cond_split (t := decide ((byteAt V k - bo V k) < 0)) (by kernel_rfl) (fun c54 => ?_) (fun c54 => ?_)
            · skip
              have hneg : dn V k < 0 := by rw [hdn]; exact of_decide_eq_true c54
              obtain ⟨hd1, hd2⟩ := dsub_neg V k hneg
              rw [hdn] at hd1
              refine wp_seq_k fun K55 hK55 => ?_
              refine region_lit ?_
              refine seq_val (.int .i64 (byteAt V k - bo V k)) 65 rfl (by kernel_rfl) (by kernel_rfl) ?_
              refine seq_val (.int .i64 ((byteAt V k - bo V k) + 256)) 66 rfl (by kernel_rfl) (run_eq (u := .int .i64 (IntKind.i64.wrap ((byteAt V k - bo V k) + 256))) (by kernel_rfl) (congrArg (Value.int .i64) (i64_small _ (by omega)))) ?_
              refine seq_val (.int .i64 ((byteAt V k - bo V k) + 256)) 10 rfl (by kernel_rfl) (by kernel_rfl) ?_
              refine seq_nil ?_
              refine hK55 _ _ ?_
              try clear hK55 K55
              refine region_lit ?_
              refine seq_val (.int .i64 1) 8 rfl (by kernel_rfl) (by kernel_rfl) ?_
              refine seq_nil ?_
              refine hK52 _ _ ?_
              try clear hK52 K52
              refine region_lit ?_
              refine seq_val (.slice (some ⟨g9, 0, none⟩) 34 34) 67 rfl (by kernel_rfl) (by kernel_rfl) ?_
              refine seq_val (.int .i64 ((k : Nat) : Int)) 68 rfl (by kernel_rfl) (by kernel_rfl) ?_
              refine seq_val (.int .i64 ((byteAt V k - bo V k) + 256)) 69 rfl (by kernel_rfl) (by kernel_rfl) ?_
              refine seq_val (.pointer (some ⟨g9, k, none⟩)) 70 rfl (by kernel_rfl) (run_indexS0 86 _ _ .i64 (k) g9 34 34 3 rfl (by kernel_rfl) (by kernel_rfl) (by kernel_rfl) (by kernel_rfl) hk) ?_
              refine seq_store g9 _ (ints .i64 ((sb V k).set k ((byteAt V k - bo V k) + 256))) 3 q9_5 rfl (by kernel_rfl) (run_storeI 3 _ _ g9 k 3 _ _ q9_5 rfl (by kernel_rfl) (by kernel_rfl) (by kernel_rfl) (Nat.lt_of_lt_of_eq hk (sb_len _ _).symm)) fun W13 p13 r9_13 => ?_
              have x13 : Ext w W13 := Puts.ext p13 xx5 b9
              refine seq_nil ?_
              refine hK41 _ _ ?_
              try clear hK41 K41
              refine region_lit ?_
              refine seq_val (.int .i64 ((k : Nat) : Int)) 47 rfl (by kernel_rfl) (by kernel_rfl) ?_
              refine seq_val (.int .i64 (((k + 1 : Nat) : Int))) 48 rfl (by kernel_rfl) (run_eq (u := .int .i64 (IntKind.i64.wrap (((k : Nat) : Int) + 1))) (by kernel_rfl) (congrArg (Value.int .i64) (i64_add1 k (by omega)))) ?_
              refine seq_val (.int .i64 (((k + 1 : Nat) : Int))) 9 rfl (by kernel_rfl) (by kernel_rfl) ?_
              refine seq_nil ?_
              have r3_13 := (Puts.row p13 q3_5 n_3_9)
              have r5_13 := (Puts.row p13 q5_5 n_5_9)
              have r7_13 := (Puts.row p13 q7_5 n_7_9)
              repeat (first | with_reducible refine goX1 ?_ | with_reducible refine goX2 ?_ | with_reducible refine goX3 ?_)
              exact goes_then (k + 1) ⟨(congrArg (Value.int .i64) hd2.symm), rfl, rfl, rfl, rfl, rfl, rfl, rfl, trivial⟩ ⟨(by omega), r3_13, r5_13, r7_13, (row_eq r9_13 (sb_next V k hk _ hd1)), x13⟩ (by omega)
            · skip
              have hneg : ¬ dn V k < 0 := by rw [hdn]; exact of_decide_eq_false c54
              obtain ⟨hd1, hd2⟩ := dsub_pos V k hneg
              rw [hdn] at hd1
              refine wp_skip ?_
              refine hK52 _ _ ?_
              try clear hK52 K52
              refine region_lit ?_
              refine seq_val (.slice (some ⟨g9, 0, none⟩) 34 34) 67 rfl (by kernel_rfl) (by kernel_rfl) ?_
              refine seq_val (.int .i64 ((k : Nat) : Int)) 68 rfl (by kernel_rfl) (by kernel_rfl) ?_
              refine seq_val (.int .i64 (byteAt V k - bo V k)) 69 rfl (by kernel_rfl) (by kernel_rfl) ?_
              refine seq_val (.pointer (some ⟨g9, k, none⟩)) 70 rfl (by kernel_rfl) (run_indexS0 86 _ _ .i64 (k) g9 34 34 3 rfl (by kernel_rfl) (by kernel_rfl) (by kernel_rfl) (by kernel_rfl) hk) ?_
              refine seq_store g9 _ (ints .i64 ((sb V k).set k (byteAt V k - bo V k))) 3 q9_5 rfl (by kernel_rfl) (run_storeI 3 _ _ g9 k 3 _ _ q9_5 rfl (by kernel_rfl) (by kernel_rfl) (by kernel_rfl) (Nat.lt_of_lt_of_eq hk (sb_len _ _).symm)) fun W13 p13 r9_13 => ?_
              have x13 : Ext w W13 := Puts.ext p13 xx5 b9
              refine seq_nil ?_
              refine hK41 _ _ ?_
              try clear hK41 K41
              refine region_lit ?_
              refine seq_val (.int .i64 ((k : Nat) : Int)) 47 rfl (by kernel_rfl) (by kernel_rfl) ?_
              refine seq_val (.int .i64 (((k + 1 : Nat) : Int))) 48 rfl (by kernel_rfl) (run_eq (u := .int .i64 (IntKind.i64.wrap (((k : Nat) : Int) + 1))) (by kernel_rfl) (congrArg (Value.int .i64) (i64_add1 k (by omega)))) ?_
              refine seq_val (.int .i64 (((k + 1 : Nat) : Int))) 9 rfl (by kernel_rfl) (by kernel_rfl) ?_
              refine seq_nil ?_
              have r3_13 := (Puts.row p13 q3_5 n_3_9)
              have r5_13 := (Puts.row p13 q5_5 n_5_9)
              have r7_13 := (Puts.row p13 q7_5 n_7_9)
              repeat (first | with_reducible refine goX1 ?_ | with_reducible refine goX2 ?_ | with_reducible refine goX3 ?_)
              exact goes_then (k + 1) ⟨(congrArg (Value.int .i64) hd2.symm), rfl, rfl, rfl, rfl, rfl, rfl, rfl, trivial⟩ ⟨(by omega), r3_13, r5_13, r7_13, (row_eq r9_13 (sb_next V k hk _ hd1)), x13⟩ (by omega)
        · skip
          have hk : k = 34 := by have := of_decide_eq_false c40; omega
          subst hk
          refine wp_exit ?_
          repeat (first | with_reducible refine goX1 ?_ | with_reducible refine goX2 ?_ | with_reducible refine goX3 ?_)
          exact goes_then (V - ordL) ⟨rfl, rfl, rfl, rfl, rfl, rfl, trivial⟩ ⟨(by omega), (by rw [← hVm, Int.sub_emod_right]), (v_less hV1), q3_5, q5_5, q7_5, (row_eq q9_5 (sb_end V)), xx5⟩ (v_dec hge)
      · skip
        have hlt : ¬ ordL ≤ V := of_decide_eq_false c35
        have hVT : redT xs N (N - j) = V := by rw [hRT, ← hVm]; exact Int.emod_eq_of_lt hV0 (by omega)
        refine wp_exit ?_
        refine hK25 _ _ ?_
        try clear hK25 K25
        refine region_lit ?_
        refine seq_val (.int .i64 ((j : Nat) : Int)) 22 rfl (by kernel_rfl) (by kernel_rfl) ?_
        refine seq_val (.int .i64 ((j : Int) - 1)) 23 rfl (by kernel_rfl) (run_eq (u := .int .i64 (IntKind.i64.wrap (((j : Nat) : Int) - 1))) (by kernel_rfl) (congrArg (Value.int .i64) (i64_sub1 j (by omega)))) ?_
        refine seq_val (.int .i64 ((j : Int) - 1)) 6 rfl (by kernel_rfl) (by kernel_rfl) ?_
        refine seq_nil ?_
        have r3_11 := (row_ext q3_4 e11)
        have r5_11 := (row_ext q5_4 e11)
        have r7_11 := (row_ext q7_4 e11)
        have r9_11 := (row_ext q9_4 e11)
        repeat (first | with_reducible refine goX1 ?_ | with_reducible refine goX2 ?_ | with_reducible refine goX3 ?_)
        exact goes_then j ⟨rfl, rfl, rfl, rfl, rfl, rfl, trivial⟩ ⟨(by omega), r3_11, r5_11, r7_11, (row_eq r9_11 (by rw [hVT]) ), x11⟩ (by omega)

end Go.Proofs.YtaojnmjmmfdfjaaDoor.Field
