/- Residues: the document's Bits and MulAdd. -/
import Derived.Test.YtaojnmjmmfdfjaaDoorScRefC
namespace Go.Proofs.YtaojnmjmmfdfjaaDoor.Field
open Go Go.RowKit
open Go.Proofs.YtaojnmjmmfdfjaaDoor.Rely Go.Proofs.YtaojnmjmmfdfjaaDoor.Auto.V
open Go.Proofs.YtaojnmjmmfdfjaaDoor.Auto hiding isT tailT readsT storesT okT TailRun tailsOf pureOk stepsT stepsT_found InvT rem Phase isT_some mem_tails mem_rem rem_nodup list_false rem_sorted rem_set filter_ne holdsC wpAny_of_T t_store t_op t_skip t_val t_read t_call t_new t_nil TailEnv tail_env te_nil te_store any_regionT
set_option linter.unusedVariables false

set_option maxHeartbeats 4000000 in
theorem bitsC (A : Option Addr) (n c : Nat) (bs : List Int) (hbl : bs.length = n) (hn : n ≤ 1000) (hb : AreBytes bs) (w : World)
    (hc : n = 0 ∨ ∃ sb so, A = some ⟨sb, so, none⟩ ∧ sb < w.heap.size ∧ ∀ i, i < n → w.cell? ⟨sb, so + i, none⟩ = some (.int .u8 (nth bs i))) :
    Calls Tryd.prog 26 #[.slice A n c] w (Ret w (.agg (ints .u8 (bytesOf (resN bs))))) := by
  refine enter 6 [(0, .slice A n c)] Tryd.func26 rfl rfl (by kernel_rfl) rfl ?_
  refine wp_seq_k fun K1 hK1 => ?_
  refine region_lit ?_
  refine seq_alloc (ints .u8 (List.replicate 32 0)) 23 2 rfl (by kernel_rfl) (by kernel_rfl) fun g2 W1 l2 e1 r2_1 => ?_
  have x1 : Ext w W1 := Ext.tr (Rely.Ext.refl w) e1
  have b2 : w.heap.size ≤ g2 := Nat.le_trans (Rely.Ext.refl w).size l2
  refine seq_nil ?_
  refine hK1 _ _ ?_
  try clear hK1 K1
  refine wp_seq_k fun K3 hK3 => ?_
  refine region_lit ?_
  refine seq_val (.slice A n c) 3 rfl (by kernel_rfl) (by kernel_rfl) ?_
  refine seq_callR (fun v W' => Ext W1 W' ∧ ∃ g, W1.heap.size ≤ g ∧ v = .slice (some ⟨g, 0, none⟩) n n ∧ W'.heap[g]? = some (.cells (ints .i64 bs) 3)) 59 #[.slice A n c] 4 rfl (by kernel_rfl) (by kernel_rfl) ((intsC A n c bs hbl hn hb _ (cells_ext hc x1)).mono fun e w' ⟨v, h1, h2, h3⟩ => ⟨v, h1, h2, h3⟩) fun v W2 h => ?_
  obtain ⟨e2, gi, li, rfl, r4_2⟩ := h
  have x2 : Ext w W2 := Ext.tr x1 e2
  refine seq_call (.agg (ints .u8 (bytesOf (leAt bs 0 n % ordL)))) 58 #[.slice (some ⟨gi, 0, none⟩) n n] 5 rfl (by kernel_rfl) (by kernel_rfl) (reduceC _ n bs hbl hn hb _ r4_2) fun W3 e3 => ?_
  have x3 : Ext w W3 := Ext.tr x2 e3
  have r2_3 := (row_ext (row_ext r2_1 e2) e3)
  refine seq_store g2 _ (ints .u8 (bytesOf (leAt bs 0 n % ordL))) 23 r2_3 rfl (by kernel_rfl) (run_store_row 23 _ _ g2 23 _ _ r2_3 rfl (by kernel_rfl) (by kernel_rfl) (isz (n := 32) (by kernel_rfl) ((ints_size _ _).trans (bytes_len _))) (eqsz (n := 32) ((ints_size _ _).trans zlen) ((ints_size _ _).trans (bytes_len _))) (ints_one _ _)) fun W4 p4 r2_4 => ?_
  have x4 : Ext w W4 := Puts.ext p4 x3 b2
  refine seq_nil ?_
  refine hK3 _ _ ?_
  try clear hK3 K3
  refine wp_ret ?_
  exact (show bodyPost _ _ _ .ret _ _ from ret1 (.agg (ints .u8 (bytesOf (leAt bs 0 n % ordL)))) rfl (res_cell g2 23 _ r2_4 (by kernel_rfl) (by kernel_rfl) (isz (n := 32) (by kernel_rfl) ((ints_size _ _).trans (bytes_len _)))) ⟨by rw [resN_le bs hb, hbl], x4⟩)
set_option maxHeartbeats 16000000 in
theorem rMulAddC (za zb zc : List Int) (ha : za.length = 32) (hab : AreBytes za) (hb : zb.length = 32) (hbb : AreBytes zb) (hc : zc.length = 32) (hcb : AreBytes zc) (w : World) : Calls Tryd.prog 28 #[.agg (ints .u8 za), .agg (ints .u8 zb), .agg (ints .u8 zc)] w (Ret w (.agg (ints .u8 (bytesOf (mulR za zb zc))))) := by
  refine enter 82 [(0, .agg (ints .u8 (za))), (1, .agg (ints .u8 (zb))), (2, .agg (ints .u8 (zc)))] Tryd.func28 rfl rfl (by kernel_rfl) rfl ?_
  refine wp_seq_k fun K1 hK1 => ?_
  refine region_lit ?_
  refine seq_alloc (ints .u8 (za)) 23 3 rfl (by kernel_rfl) (by kernel_rfl) fun g2 W1 l2 e1 r2_1 => ?_
  have x1 : Ext w W1 := Ext.tr (Rely.Ext.refl w) e1
  have b2 : w.heap.size ≤ g2 := Nat.le_trans (Rely.Ext.refl w).size l2
  refine seq_alloc (ints .u8 (zb)) 23 4 rfl (by kernel_rfl) (by kernel_rfl) fun g3 W2 l3 e2 r3_2 => ?_
  have x2 : Ext w W2 := Ext.tr x1 e2
  have b3 : w.heap.size ≤ g3 := Nat.le_trans x1.size l3
  refine seq_alloc (ints .u8 (zc)) 23 5 rfl (by kernel_rfl) (by kernel_rfl) fun g4 W3 l4 e3 r4_3 => ?_
  have x3 : Ext w W3 := Ext.tr x2 e3
  have b4 : w.heap.size ≤ g4 := Nat.le_trans x2.size l4
  refine seq_alloc (ints .u8 (List.replicate 32 0)) 23 6 rfl (by kernel_rfl) (by kernel_rfl) fun g5 W4 l5 e4 r5_4 => ?_
  have x4 : Ext w W4 := Ext.tr x3 e4
  have b5 : w.heap.size ≤ g5 := Nat.le_trans x3.size l5
  refine seq_nil ?_
  refine hK1 _ _ ?_
  try clear hK1 K1
  refine wp_seq_k fun K6 hK6 => ?_
  refine region_lit ?_
  refine seq_makeS (ints .i64 (List.replicate 66 0)) 3 66 12 rfl (by kernel_rfl) (run_makeI 86 _ _ .i64 .i64 66 3 rfl (by kernel_rfl) (by kernel_rfl) (by kernel_rfl) (by first | exact .inl (by kernel_rfl) | exact .inr (by kernel_rfl)) (by decide)) fun g7 W5 l7 e5 r7_5 => ?_
  have x5 : Ext w W5 := Ext.tr x4 e5
  have b7 : w.heap.size ≤ g7 := Nat.le_trans x4.size l7
  refine seq_val (.slice (some ⟨g7, 0, none⟩) 66 66) 7 rfl (by kernel_rfl) (by kernel_rfl) ?_
  refine seq_nil ?_
  refine hK6 _ _ ?_
  try clear hK6 K6
  refine wp_seq_k fun K8 hK8 => ?_
  refine wp_seq_k fun K9 hK9 => ?_
  refine region_lit ?_
  refine seq_val (.int .i64 0) 8 rfl (by kernel_rfl) (by kernel_rfl) ?_
  refine seq_nil ?_
  refine hK9 _ _ ?_
  try clear hK9 K9
  refine wp_block ?_
  have n_2_3 : g2 ≠ g3 := (ne_of_old r2_1 l3)
  have r2_2 := (row_ext r2_1 e2)
  have n_2_4 : g2 ≠ g4 := (ne_of_old r2_2 l4)
  have r2_3 := (row_ext r2_2 e3)
  have n_2_5 : g2 ≠ g5 := (ne_of_old r2_3 l5)
  have r2_4 := (row_ext r2_3 e4)
  have n_2_7 : g2 ≠ g7 := (ne_of_old r2_4 l7)
  have n_3_2 : g3 ≠ g2 := (ne_of_new r2_1 l3)
  have n_3_4 : g3 ≠ g4 := (ne_of_old r3_2 l4)
  have r3_3 := (row_ext r3_2 e3)
  have n_3_5 : g3 ≠ g5 := (ne_of_old r3_3 l5)
  have r3_4 := (row_ext r3_3 e4)
  have n_3_7 : g3 ≠ g7 := (ne_of_old r3_4 l7)
  have n_4_2 : g4 ≠ g2 := (ne_of_new r2_2 l4)
  have n_4_3 : g4 ≠ g3 := (ne_of_new r3_2 l4)
  have n_4_5 : g4 ≠ g5 := (ne_of_old r4_3 l5)
  have r4_4 := (row_ext r4_3 e4)
  have n_4_7 : g4 ≠ g7 := (ne_of_old r4_4 l7)
  have n_5_2 : g5 ≠ g2 := (ne_of_new r2_3 l5)
  have n_5_3 : g5 ≠ g3 := (ne_of_new r3_3 l5)
  have n_5_4 : g5 ≠ g4 := (ne_of_new r4_3 l5)
  have n_5_7 : g5 ≠ g7 := (ne_of_old r5_4 l7)
  have n_7_2 : g7 ≠ g2 := (ne_of_new r2_4 l7)
  have n_7_3 : g7 ≠ g3 := (ne_of_new r3_4 l7)
  have n_7_4 : g7 ≠ g4 := (ne_of_new r4_4 l7)
  have n_7_5 : g7 ≠ g5 := (ne_of_new r5_4 l7)
  have r2_5 := (row_ext r2_4 e5)
  have r3_5 := (row_ext r3_4 e5)
  have r4_5 := (row_ext r4_4 e5)
  have r5_5 := (row_ext r5_4 e5)
  refine loop_auto (fun (k : Nat) => [(8, .int .i64 ((k : Nat) : Int)), (3, .pointer (some ⟨g2, 0, none⟩)), (4, .pointer (some ⟨g3, 0, none⟩)), (5, .pointer (some ⟨g4, 0, none⟩)), (6, .pointer (some ⟨g5, 0, none⟩)), (7, .slice (some ⟨g7, 0, none⟩) 66 66)]) (fun (k : Nat) W => (k ≤ 32) ∧ W.heap[g2]? = some (.cells (ints .u8 (za)) 23) ∧ W.heap[g3]? = some (.cells (ints .u8 (zb)) 23) ∧ W.heap[g4]? = some (.cells (ints .u8 (zc)) 23) ∧ W.heap[g5]? = some (.cells (ints .u8 (List.replicate 32 0)) 23) ∧ W.heap[g7]? = some (.cells (ints .i64 (fill zc 66 k)) 3) ∧ Ext w W) (fun (k : Nat) => 32 - k) 0 ⟨rfl, rfl, rfl, rfl, rfl, rfl, trivial⟩ ⟨(by omega), r2_5, r3_5, r4_5, r5_5, (row_eq r7_5 (fill_start zc 66)), x5⟩ fun k X1 V1 hI => ?_
  obtain ⟨hk32, q2_1, q3_1, q4_1, q5_1, q7_1, xx1⟩ := hI
  refine wp_seq_k fun K10 hK10 => ?_
  refine wp_seq_k fun K11 hK11 => ?_
  refine region_lit ?_
  refine seq_val (.int .i64 ((k : Nat) : Int)) 13 rfl (by kernel_rfl) (by kernel_rfl) ?_
  refine seq_val (.bool (decide (((k : Nat) : Int) < 32))) 14 rfl (by kernel_rfl) (by kernel_rfl) ?_
  refine seq_nil ?_
  refine hK11 _ _ ?_
  try clear hK11 K11
  refine cond_split (t := decide (((k : Nat) : Int) < 32)) (by kernel_rfl) (fun c12 => ?_) (fun c12 => ?_)
  · skip
    have hk : k < 32 := by have := of_decide_eq_true c12; omega
    refine wp_skip ?_
    refine hK10 _ _ ?_
    try clear hK10 K10
    refine wp_seq_k fun K13 hK13 => ?_
    refine wp_block ?_
    refine region_lit ?_
    refine seq_val (.slice (some ⟨g7, 0, none⟩) 66 66) 17 rfl (by kernel_rfl) (by kernel_rfl) ?_
    refine seq_val (.int .i64 ((k : Nat) : Int)) 18 rfl (by kernel_rfl) (by kernel_rfl) ?_
    refine seq_val (.int .i64 ((k : Nat) : Int)) 19 rfl (by kernel_rfl) (by kernel_rfl) ?_
    refine seq_val (.pointer (some ⟨g4, k, none⟩)) 20 rfl (by kernel_rfl) (run_index0 _ _ _ .i64 (k) _ 32 5 rfl (by kernel_rfl) (by kernel_rfl) (by kernel_rfl) (by kernel_rfl) hk) ?_
    refine seq_val (.int .u8 (nth (zc) k)) 21 rfl (by kernel_rfl) (run_loadC1 5 _ g4 k 23 _ (.int .u8 (nth (zc) k)) _ q4_1 rfl (by kernel_rfl) (ints_get _ _ _ (Nat.lt_of_lt_of_eq hk hc.symm)) (by kernel_rfl)) ?_
    refine seq_val (.int .i64 (nth zc k)) 22 rfl (by kernel_rfl) (run_eq (u := .int .i64 (IntKind.i64.wrap (nth (zc) k))) (by kernel_rfl) (congrArg (Value.int .i64) (i64_u8 (hcb.nth k)))) ?_
    refine seq_val (.pointer (some ⟨g7, k, none⟩)) 23 rfl (by kernel_rfl) (run_indexS0 86 _ _ .i64 (k) g7 66 66 3 rfl (by kernel_rfl) (by kernel_rfl) (by kernel_rfl) (by kernel_rfl) (by omega)) ?_
    refine seq_store g7 _ (ints .i64 ((fill zc 66 k).set k (nth zc k))) 3 q7_1 rfl (by kernel_rfl) (run_storeI 3 _ _ g7 k 3 _ _ q7_1 rfl (by kernel_rfl) (by kernel_rfl) (by kernel_rfl) (Nat.lt_of_lt_of_eq (by omega) (fill_len _ _ _).symm)) fun W7 p7 r7_7 => ?_
    have x7 : Ext w W7 := Puts.ext p7 xx1 b7
    refine seq_nil ?_
    refine hK13 _ _ ?_
    try clear hK13 K13
    refine region_lit ?_
    refine seq_val (.int .i64 ((k : Nat) : Int)) 15 rfl (by kernel_rfl) (by kernel_rfl) ?_
    refine seq_val (.int .i64 (((k + 1 : Nat) : Int))) 16 rfl (by kernel_rfl) (run_eq (u := .int .i64 (IntKind.i64.wrap (((k : Nat) : Int) + 1))) (by kernel_rfl) (congrArg (Value.int .i64) (i64_add1 k (by omega)))) ?_
    refine seq_val (.int .i64 (((k + 1 : Nat) : Int))) 8 rfl (by kernel_rfl) (by kernel_rfl) ?_
    refine seq_nil ?_
    have r2_7 := (Puts.row p7 q2_1 n_2_7)
    have r3_7 := (Puts.row p7 q3_1 n_3_7)
    have r4_7 := (Puts.row p7 q4_1 n_4_7)
    have r5_7 := (Puts.row p7 q5_1 n_5_7)
    repeat (first | with_reducible refine goX1 ?_ | with_reducible refine goX2 ?_ | with_reducible refine goX3 ?_)
    exact goes_then (k + 1) ⟨rfl, rfl, rfl, rfl, rfl, rfl, trivial⟩ ⟨(by omega), r2_7, r3_7, r4_7, r5_7, (row_eq r7_7 (mix_set 66 (nth zc) (fun _ => 0) k (by omega))), x7⟩ (by omega)
  · skip
    have hk : k = 32 := by have := of_decide_eq_false c12; omega
    subst hk
    refine wp_exit ?_
    refine hK8 _ _ ?_
    try clear hK8 K8
    refine wp_seq_k fun K14 hK14 => ?_
    refine wp_seq_k fun K15 hK15 => ?_
    refine region_lit ?_
    refine seq_val (.int .i64 0) 9 rfl (by kernel_rfl) (by kernel_rfl) ?_
    refine seq_nil ?_
    refine hK15 _ _ ?_
    try clear hK15 K15
    refine wp_block ?_
    refine loop_auto (fun (s : Nat × List Int) => [(9, .int .i64 ((s.1 : Nat) : Int)), (3, .pointer (some ⟨g2, 0, none⟩)), (4, .pointer (some ⟨g3, 0, none⟩)), (5, .pointer (some ⟨g4, 0, none⟩)), (6, .pointer (some ⟨g5, 0, none⟩)), (7, .slice (some ⟨g7, 0, none⟩) 66 66)]) (fun (s : Nat × List Int) W => (s.1 ≤ 32) ∧ (s.2.length = 66) ∧ (Rows za zb zc s.1 s.2) ∧ W.heap[g2]? = some (.cells (ints .u8 (za)) 23) ∧ W.heap[g3]? = some (.cells (ints .u8 (zb)) 23) ∧ W.heap[g4]? = some (.cells (ints .u8 (zc)) 23) ∧ W.heap[g5]? = some (.cells (ints .u8 (List.replicate 32 0)) 23) ∧ W.heap[g7]? = some (.cells (ints .i64 (s.2)) 3) ∧ Ext w W) (fun (s : Nat × List Int) => 32 - s.1) (0, fill zc 66 32) ⟨rfl, rfl, rfl, rfl, rfl, rfl, trivial⟩ ⟨(Nat.zero_le _), (fill_len _ _ _), (rows_start za zb zc hcb), q2_1, q3_1, q4_1, q5_1, q7_1, xx1⟩ fun s X2 V2 hI => ?_
    obtain ⟨hi32, hls, hs, q2_2, q3_2, q4_2, q5_2, q7_2, xx2⟩ := hI
    refine wp_seq_k fun K16 hK16 => ?_
    refine wp_seq_k fun K17 hK17 => ?_
    refine region_lit ?_
    refine seq_val (.int .i64 ((s.1 : Nat) : Int)) 24 rfl (by kernel_rfl) (by kernel_rfl) ?_
    refine seq_val (.bool (decide (((s.1 : Nat) : Int) < 32))) 25 rfl (by kernel_rfl) (by kernel_rfl) ?_
    refine seq_nil ?_
    refine hK17 _ _ ?_
    try clear hK17 K17
    refine cond_split (t := decide (((s.1 : Nat) : Int) < 32)) (by kernel_rfl) (fun c18 => ?_) (fun c18 => ?_)
    · skip
      have hi : s.1 < 32 := by have := of_decide_eq_true c18; omega
      refine wp_skip ?_
      refine hK16 _ _ ?_
      try clear hK16 K16
      refine wp_seq_k fun K19 hK19 => ?_
      refine wp_block ?_
      refine wp_seq_k fun K20 hK20 => ?_
      refine region_lit ?_
      refine seq_val (.int .i64 0) 10 rfl (by kernel_rfl) (by kernel_rfl) ?_
      refine seq_nil ?_
      refine hK20 _ _ ?_
      try clear hK20 K20
      refine wp_block ?_
      refine loop_auto (fun (t : Nat × List Int) => [(10, .int .i64 ((t.1 : Nat) : Int)), (9, .int .i64 ((s.1 : Nat) : Int)), (3, .pointer (some ⟨g2, 0, none⟩)), (4, .pointer (some ⟨g3, 0, none⟩)), (5, .pointer (some ⟨g4, 0, none⟩)), (6, .pointer (some ⟨g5, 0, none⟩)), (7, .slice (some ⟨g7, 0, none⟩) 66 66)]) (fun (t : Nat × List Int) W => (t.1 ≤ 32) ∧ (t.2.length = 66) ∧ (RowJ za zb zc s.1 t.1 t.2) ∧ W.heap[g2]? = some (.cells (ints .u8 (za)) 23) ∧ W.heap[g3]? = some (.cells (ints .u8 (zb)) 23) ∧ W.heap[g4]? = some (.cells (ints .u8 (zc)) 23) ∧ W.heap[g5]? = some (.cells (ints .u8 (List.replicate 32 0)) 23) ∧ W.heap[g7]? = some (.cells (ints .i64 (t.2)) 3) ∧ Ext w W) (fun (t : Nat × List Int) => 32 - t.1) (0, s.2) ⟨rfl, rfl, rfl, rfl, rfl, rfl, rfl, trivial⟩ ⟨(Nat.zero_le _), hls, (rowj_start hs), q2_2, q3_2, q4_2, q5_2, q7_2, xx2⟩ fun t X3 V3 hI => ?_
      obtain ⟨hj32, hlt, ht, q2_3, q3_3, q4_3, q5_3, q7_3, xx3⟩ := hI
      refine wp_seq_k fun K21 hK21 => ?_
      refine wp_seq_k fun K22 hK22 => ?_
      refine region_lit ?_
      refine seq_val (.int .i64 ((t.1 : Nat) : Int)) 28 rfl (by kernel_rfl) (by kernel_rfl) ?_
      refine seq_val (.bool (decide (((t.1 : Nat) : Int) < 32))) 29 rfl (by kernel_rfl) (by kernel_rfl) ?_
      refine seq_nil ?_
      refine hK22 _ _ ?_
      try clear hK22 K22
      refine cond_split (t := decide (((t.1 : Nat) : Int) < 32)) (by kernel_rfl) (fun c23 => ?_) (fun c23 => ?_)
      · skip
        have hj : t.1 < 32 := by have := of_decide_eq_true c23; omega
        have hpr := prod_range (hab.nth s.1) (hbb.nth t.1)
        have hq := ht.2 (s.1 + t.1)
        refine wp_skip ?_
        refine hK21 _ _ ?_
        try clear hK21 K21
        refine wp_seq_k fun K24 hK24 => ?_
        refine wp_block ?_
        refine any_region 21 [⟨none, [(7, none)]⟩, ⟨none, [(9, none)]⟩, ⟨none, [(10, none)]⟩, ⟨none, [(33, some 1), (34, some 2)]⟩, ⟨none, [(7, none)]⟩, ⟨none, [(9, none)]⟩, ⟨none, [(10, none)]⟩, ⟨none, [(37, some 5), (38, some 6)]⟩, ⟨none, [(36, some 4), (39, some 7)]⟩, ⟨none, [(40, some 8)]⟩, ⟨none, [(9, none)]⟩, ⟨none, [(3, none), (42, some 10)]⟩, ⟨none, [(43, some 11)]⟩, ⟨none, [(44, some 12)]⟩, ⟨none, [(10, none)]⟩, ⟨none, [(4, none), (46, some 14)]⟩, ⟨none, [(47, some 15)]⟩, ⟨none, [(48, some 16)]⟩, ⟨none, [(45, some 13), (49, some 17)]⟩, ⟨none, [(41, some 9), (50, some 18)]⟩, ⟨none, [(32, some 0), (35, some 3)]⟩] (by kernel_rfl) (by kernel_rfl) fun F hF => ?_
        refine any_val (.slice (some ⟨g7, 0, none⟩) 66 66) (by kernel_rfl) (by kernel_rfl) (fun W => by kernel_rfl) ?_
        refine any_val (.int .i64 ((s.1 : Nat) : Int)) (by kernel_rfl) (by kernel_rfl) (fun W => by kernel_rfl) ?_
        refine any_val (.int .i64 ((t.1 : Nat) : Int)) (by kernel_rfl) (by kernel_rfl) (fun W => by kernel_rfl) ?_
        refine any_val (.int .i64 (((s.1 + t.1 : Nat) : Int))) (by kernel_rfl) (by kernel_rfl) (fun W => (run_eq (u := .int .i64 (IntKind.i64.wrap (((s.1 : Nat) : Int) + ((t.1 : Nat) : Int)))) (by kernel_rfl) (congrArg (Value.int .i64) (i64_addn _ _ (by omega))))) ?_
        refine any_val (.slice (some ⟨g7, 0, none⟩) 66 66) (by kernel_rfl) (by kernel_rfl) (fun W => by kernel_rfl) ?_
        refine any_val (.int .i64 ((s.1 : Nat) : Int)) (by kernel_rfl) (by kernel_rfl) (fun W => by kernel_rfl) ?_
        refine any_val (.int .i64 ((t.1 : Nat) : Int)) (by kernel_rfl) (by kernel_rfl) (fun W => by kernel_rfl) ?_
        refine any_val (.int .i64 (((s.1 + t.1 : Nat) : Int))) (by kernel_rfl) (by kernel_rfl) (fun W => (run_eq (u := .int .i64 (IntKind.i64.wrap (((s.1 : Nat) : Int) + ((t.1 : Nat) : Int)))) (by kernel_rfl) (congrArg (Value.int .i64) (i64_addn _ _ (by omega))))) ?_
        refine any_val (.pointer (some ⟨g7, (s.1 + t.1), none⟩)) (by kernel_rfl) (by kernel_rfl) (fun W => (run_indexS0 86 _ _ .i64 (s.1 + t.1) g7 66 66 3 rfl (by kernel_rfl) (by kernel_rfl) (by kernel_rfl) (by kernel_rfl) (by omega))) ?_
        refine any_read (.int .i64 (nth (t.2) (s.1 + t.1))) (by kernel_rfl) (by kernel_rfl) (fun W hR => (run_loadC1 3 _ g7 (s.1 + t.1) 3 _ (.int .i64 (nth (t.2) (s.1 + t.1))) _ (row_ext (row_ext q7_3 (ext_drew _)) hR) rfl (by kernel_rfl) (ints_get _ _ _ (Nat.lt_of_lt_of_eq (by omega) hlt.symm)) (by kernel_rfl))) ?_
        refine any_val (.int .i64 ((s.1 : Nat) : Int)) (by kernel_rfl) (by kernel_rfl) (fun W => by kernel_rfl) ?_
        refine any_val (.pointer (some ⟨g2, s.1, none⟩)) (by kernel_rfl) (by kernel_rfl) (fun W => (run_index0 _ _ _ .i64 (s.1) _ 32 5 rfl (by kernel_rfl) (by kernel_rfl) (by kernel_rfl) (by kernel_rfl) hi)) ?_
        refine any_read (.int .u8 (nth (za) s.1)) (by kernel_rfl) (by kernel_rfl) (fun W hR => (run_loadC1 5 _ g2 s.1 23 _ (.int .u8 (nth (za) s.1)) _ (row_ext (row_ext q2_3 (ext_drew _)) hR) rfl (by kernel_rfl) (ints_get _ _ _ (Nat.lt_of_lt_of_eq hi ha.symm)) (by kernel_rfl))) ?_
        refine any_val (.int .i64 (nth za s.1)) (by kernel_rfl) (by kernel_rfl) (fun W => (run_eq (u := .int .i64 (IntKind.i64.wrap (nth (za) s.1))) (by kernel_rfl) (congrArg (Value.int .i64) (i64_u8 (hab.nth s.1))))) ?_
        refine any_val (.int .i64 ((t.1 : Nat) : Int)) (by kernel_rfl) (by kernel_rfl) (fun W => by kernel_rfl) ?_
        refine any_val (.pointer (some ⟨g3, t.1, none⟩)) (by kernel_rfl) (by kernel_rfl) (fun W => (run_index0 _ _ _ .i64 (t.1) _ 32 5 rfl (by kernel_rfl) (by kernel_rfl) (by kernel_rfl) (by kernel_rfl) hj)) ?_
        refine any_read (.int .u8 (nth (zb) t.1)) (by kernel_rfl) (by kernel_rfl) (fun W hR => (run_loadC1 5 _ g3 t.1 23 _ (.int .u8 (nth (zb) t.1)) _ (row_ext (row_ext q3_3 (ext_drew _)) hR) rfl (by kernel_rfl) (ints_get _ _ _ (Nat.lt_of_lt_of_eq hj hb.symm)) (by kernel_rfl))) ?_
        refine any_val (.int .i64 (nth zb t.1)) (by kernel_rfl) (by kernel_rfl) (fun W => (run_eq (u := .int .i64 (IntKind.i64.wrap (nth (zb) t.1))) (by kernel_rfl) (congrArg (Value.int .i64) (i64_u8 (hbb.nth t.1))))) ?_
        refine any_val (.int .i64 (nth za s.1 * nth zb t.1)) (by kernel_rfl) (by kernel_rfl) (fun W => (run_eq (u := .int .i64 (IntKind.i64.wrap ((nth za s.1) * (nth zb t.1)))) (by kernel_rfl) (congrArg (Value.int .i64) (i64_mid _ (by omega))))) ?_
        refine any_val (.int .i64 (nth t.2 (s.1 + t.1) + nth za s.1 * nth zb t.1)) (by kernel_rfl) (by kernel_rfl) (fun W => (run_eq (u := .int .i64 (IntKind.i64.wrap ((nth (t.2) (s.1 + t.1)) + (nth za s.1 * nth zb t.1)))) (by kernel_rfl) (congrArg (Value.int .i64) (i64_mid _ (by have := hq.2.1; omega))))) ?_
        refine any_val (.pointer (some ⟨g7, (s.1 + t.1), none⟩)) (by kernel_rfl) (by kernel_rfl) (fun W => (run_indexS0 86 _ _ .i64 (s.1 + t.1) g7 66 66 3 rfl (by kernel_rfl) (by kernel_rfl) (by kernel_rfl) (by kernel_rfl) (by omega))) ?_
        refine steps_nil (hF _ (by kernel_rfl) fun W9 e9 => ?_)
        simp only [ups, up, Kn.val, List.take_succ_cons, List.take_zero, List.drop_succ_cons, List.drop_zero, List.nil_append, List.cons_append]
        clear hF
        have x9 : Ext w W9 := Ext.tr xx3 e9
        have r7_9 := (row_ext q7_3 e9)
        refine seq_store g7 _ (ints .i64 ((t.2).set (s.1 + t.1) (nth t.2 (s.1 + t.1) + nth za s.1 * nth zb t.1))) 3 r7_9 rfl (by kernel_rfl) (run_storeI 3 _ _ g7 (s.1 + t.1) 3 _ _ r7_9 rfl (by kernel_rfl) (by kernel_rfl) (by kernel_rfl) (Nat.lt_of_lt_of_eq (by omega) hlt.symm)) fun W10 p10 r7_10 => ?_
        have x10 : Ext w W10 := Puts.ext p10 x9 b7
        refine seq_nil ?_
        refine hK24 _ _ ?_
        try clear hK24 K24
        refine region_lit ?_
        refine seq_val (.int .i64 ((t.1 : Nat) : Int)) 30 rfl (by kernel_rfl) (by kernel_rfl) ?_
        refine seq_val (.int .i64 (((t.1 + 1 : Nat) : Int))) 31 rfl (by kernel_rfl) (run_eq (u := .int .i64 (IntKind.i64.wrap (((t.1 : Nat) : Int) + 1))) (by kernel_rfl) (congrArg (Value.int .i64) (i64_add1 t.1 (by omega)))) ?_
        refine seq_val (.int .i64 (((t.1 + 1 : Nat) : Int))) 10 rfl (by kernel_rfl) (by kernel_rfl) ?_
        refine seq_nil ?_
        have r2_10 := (Puts.row p10 (row_ext q2_3 e9) n_2_7)
        have r3_10 := (Puts.row p10 (row_ext q3_3 e9) n_3_7)
        have r4_10 := (Puts.row p10 (row_ext q4_3 e9) n_4_7)
        have r5_10 := (Puts.row p10 (row_ext q5_3 e9) n_5_7)
        repeat (first | with_reducible refine goX1 ?_ | with_reducible refine goX2 ?_ | with_reducible refine goX3 ?_)
        exact goes_then (t.1 + 1, (t.2).set (s.1 + t.1) (nth t.2 (s.1 + t.1) + nth za s.1 * nth zb t.1)) ⟨rfl, rfl, rfl, rfl, rfl, rfl, rfl, trivial⟩ ⟨(by show t.1 + 1 ≤ 32; omega), ((List.length_set ..).trans hlt), (rowj_next hab hbb hlt hi hj ht), r2_10, r3_10, r4_10, r5_10, r7_10, x10⟩ (by show 32 - (t.1 + 1) < 32 - t.1; omega)
      · skip
        have hj : t.1 = 32 := by have := of_decide_eq_false c23; omega
        refine wp_exit ?_
        refine hK19 _ _ ?_
        try clear hK19 K19
        refine region_lit ?_
        refine seq_val (.int .i64 ((s.1 : Nat) : Int)) 26 rfl (by kernel_rfl) (by kernel_rfl) ?_
        refine seq_val (.int .i64 (((s.1 + 1 : Nat) : Int))) 27 rfl (by kernel_rfl) (run_eq (u := .int .i64 (IntKind.i64.wrap (((s.1 : Nat) : Int) + 1))) (by kernel_rfl) (congrArg (Value.int .i64) (i64_add1 s.1 (by omega)))) ?_
        refine seq_val (.int .i64 (((s.1 + 1 : Nat) : Int))) 9 rfl (by kernel_rfl) (by kernel_rfl) ?_
        refine seq_nil ?_
        repeat (first | with_reducible refine goX1 ?_ | with_reducible refine goX2 ?_ | with_reducible refine goX3 ?_)
        exact goes_then (s.1 + 1, t.2) ⟨rfl, rfl, rfl, rfl, rfl, rfl, trivial⟩ ⟨(by show s.1 + 1 ≤ 32; omega), hlt, (by have ht := ht; rw [hj] at ht; exact rows_next ht), q2_3, q3_3, q4_3, q5_3, q7_3, xx3⟩ (by show 32 - (s.1 + 1) < 32 - s.1; omega)
    · skip
      have hi : s.1 = 32 := by have := of_decide_eq_false c18; omega
      rw [hi] at hs
      refine wp_exit ?_
      refine hK14 _ _ ?_
      try clear hK14 K14
      refine wp_seq_k fun K25 hK25 => ?_
      refine wp_seq_k fun K26 hK26 => ?_
      refine region_lit ?_
      refine seq_val (.int .i64 0) 11 rfl (by kernel_rfl) (by kernel_rfl) ?_
      refine seq_nil ?_
      refine hK26 _ _ ?_
      try clear hK26 K26
      refine wp_block ?_
      refine loop_auto (fun (u : Nat × List Int) => [(11, .int .i64 ((u.1 : Nat) : Int)), (3, .pointer (some ⟨g2, 0, none⟩)), (4, .pointer (some ⟨g3, 0, none⟩)), (5, .pointer (some ⟨g4, 0, none⟩)), (6, .pointer (some ⟨g5, 0, none⟩)), (7, .slice (some ⟨g7, 0, none⟩) 66 66)]) (fun (u : Nat × List Int) W => (u.1 ≤ 65) ∧ (u.2.length = 66) ∧ (CarT (leAt zc 0 32 + leAt za 0 32 * leAt zb 0 32) u.1 u.2) ∧ W.heap[g2]? = some (.cells (ints .u8 (za)) 23) ∧ W.heap[g3]? = some (.cells (ints .u8 (zb)) 23) ∧ W.heap[g4]? = some (.cells (ints .u8 (zc)) 23) ∧ W.heap[g5]? = some (.cells (ints .u8 (List.replicate 32 0)) 23) ∧ W.heap[g7]? = some (.cells (ints .i64 (u.2)) 3) ∧ Ext w W) (fun (u : Nat × List Int) => 65 - u.1) (0, s.2) ⟨rfl, rfl, rfl, rfl, rfl, rfl, trivial⟩ ⟨(Nat.zero_le _), hls, (car_start hs), q2_2, q3_2, q4_2, q5_2, q7_2, xx2⟩ fun u X4 V4 hI => ?_
      obtain ⟨hu65, hlu, hu, q2_4, q3_4, q4_4, q5_4, q7_4, xx4⟩ := hI
      refine wp_seq_k fun K27 hK27 => ?_
      refine wp_seq_k fun K28 hK28 => ?_
      refine region_lit ?_
      refine seq_val (.int .i64 ((u.1 : Nat) : Int)) 53 rfl (by kernel_rfl) (by kernel_rfl) ?_
      refine seq_val (.bool (decide (((u.1 : Nat) : Int) < 65))) 54 rfl (by kernel_rfl) (by kernel_rfl) ?_
      refine seq_nil ?_
      refine hK28 _ _ ?_
      try clear hK28 K28
      refine cond_split (t := decide (((u.1 : Nat) : Int) < 65)) (by kernel_rfl) (fun c29 => ?_) (fun c29 => ?_)
      · skip
        have hk : u.1 < 65 := by have := of_decide_eq_true c29; omega
        have h0 := hu.2 u.1
        have h1 := hu.2 (u.1 + 1)
        have h0b := h0.2.2.1 rfl
        have h1b := h1.2.2.2 (by omega)
        refine wp_skip ?_
        refine hK27 _ _ ?_
        try clear hK27 K27
        refine wp_seq_k fun K30 hK30 => ?_
        refine wp_block ?_
        refine wp_seq_k fun K31 hK31 => ?_
        refine any_region 15 [⟨none, [(7, none)]⟩, ⟨none, [(11, none)]⟩, ⟨none, [(58, some 1)]⟩, ⟨none, [(7, none)]⟩, ⟨none, [(11, none)]⟩, ⟨none, [(61, some 4)]⟩, ⟨none, [(60, some 3), (62, some 5)]⟩, ⟨none, [(63, some 6)]⟩, ⟨none, [(7, none)]⟩, ⟨none, [(11, none)]⟩, ⟨none, [(65, some 8), (66, some 9)]⟩, ⟨none, [(67, some 10)]⟩, ⟨none, [(68, some 11)]⟩, ⟨none, [(64, some 7), (69, some 12)]⟩, ⟨none, [(57, some 0), (59, some 2)]⟩] (by kernel_rfl) (by kernel_rfl) fun F hF => ?_
        refine any_val (.slice (some ⟨g7, 0, none⟩) 66 66) (by kernel_rfl) (by kernel_rfl) (fun W => by kernel_rfl) ?_
        refine any_val (.int .i64 ((u.1 : Nat) : Int)) (by kernel_rfl) (by kernel_rfl) (fun W => by kernel_rfl) ?_
        refine any_val (.int .i64 (((u.1 + 1 : Nat) : Int))) (by kernel_rfl) (by kernel_rfl) (fun W => (run_eq (u := .int .i64 (IntKind.i64.wrap (((u.1 : Nat) : Int) + 1))) (by kernel_rfl) (congrArg (Value.int .i64) (i64_add1 u.1 (by omega))))) ?_
        refine any_val (.slice (some ⟨g7, 0, none⟩) 66 66) (by kernel_rfl) (by kernel_rfl) (fun W => by kernel_rfl) ?_
        refine any_val (.int .i64 ((u.1 : Nat) : Int)) (by kernel_rfl) (by kernel_rfl) (fun W => by kernel_rfl) ?_
        refine any_val (.int .i64 (((u.1 + 1 : Nat) : Int))) (by kernel_rfl) (by kernel_rfl) (fun W => (run_eq (u := .int .i64 (IntKind.i64.wrap (((u.1 : Nat) : Int) + 1))) (by kernel_rfl) (congrArg (Value.int .i64) (i64_add1 u.1 (by omega))))) ?_
        refine any_val (.pointer (some ⟨g7, (u.1 + 1), none⟩)) (by kernel_rfl) (by kernel_rfl) (fun W => (run_indexS0 86 _ _ .i64 (u.1 + 1) g7 66 66 3 rfl (by kernel_rfl) (by kernel_rfl) (by kernel_rfl) (by kernel_rfl) (by omega))) ?_
        refine any_read (.int .i64 (nth (u.2) (u.1 + 1))) (by kernel_rfl) (by kernel_rfl) (fun W hR => (run_loadC1 3 _ g7 (u.1 + 1) 3 _ (.int .i64 (nth (u.2) (u.1 + 1))) _ (row_ext (row_ext q7_4 (ext_drew _)) hR) rfl (by kernel_rfl) (ints_get _ _ _ (Nat.lt_of_lt_of_eq (by omega) hlu.symm)) (by kernel_rfl))) ?_
        refine any_val (.slice (some ⟨g7, 0, none⟩) 66 66) (by kernel_rfl) (by kernel_rfl) (fun W => by kernel_rfl) ?_
        refine any_val (.int .i64 ((u.1 : Nat) : Int)) (by kernel_rfl) (by kernel_rfl) (fun W => by kernel_rfl) ?_
        refine any_val (.pointer (some ⟨g7, u.1, none⟩)) (by kernel_rfl) (by kernel_rfl) (fun W => (run_indexS0 86 _ _ .i64 (u.1) g7 66 66 3 rfl (by kernel_rfl) (by kernel_rfl) (by kernel_rfl) (by kernel_rfl) (by omega))) ?_
        refine any_read (.int .i64 (nth (u.2) u.1)) (by kernel_rfl) (by kernel_rfl) (fun W hR => (run_loadC1 3 _ g7 u.1 3 _ (.int .i64 (nth (u.2) u.1)) _ (row_ext (row_ext q7_4 (ext_drew _)) hR) rfl (by kernel_rfl) (ints_get _ _ _ (Nat.lt_of_lt_of_eq (by omega) hlu.symm)) (by kernel_rfl))) ?_
        refine any_val (.int .i64 (nth u.2 u.1 / 256)) (by kernel_rfl) (by kernel_rfl) (fun W => (run_eq (u := .int .i64 (IntKind.i64.wrap (Int.tdiv ((nth (u.2) u.1)) (256)))) (by kernel_rfl) (congrArg (Value.int .i64) (quo256 _ (by omega))))) ?_
        refine any_val (.int .i64 (nth u.2 (u.1 + 1) + nth u.2 u.1 / 256)) (by kernel_rfl) (by kernel_rfl) (fun W => (run_eq (u := .int .i64 (IntKind.i64.wrap ((nth (u.2) (u.1 + 1)) + (nth u.2 u.1 / 256)))) (by kernel_rfl) (congrArg (Value.int .i64) (i64_mid _ (by omega))))) ?_
        refine any_val (.pointer (some ⟨g7, (u.1 + 1), none⟩)) (by kernel_rfl) (by kernel_rfl) (fun W => (run_indexS0 86 _ _ .i64 (u.1 + 1) g7 66 66 3 rfl (by kernel_rfl) (by kernel_rfl) (by kernel_rfl) (by kernel_rfl) (by omega))) ?_
        refine steps_nil (hF _ (by kernel_rfl) fun W9 e9 => ?_)
        simp only [ups, up, Kn.val, List.take_succ_cons, List.take_zero, List.drop_succ_cons, List.drop_zero, List.nil_append, List.cons_append]
        clear hF
        have x9 : Ext w W9 := Ext.tr xx4 e9
        have r7_9 := (row_ext q7_4 e9)
        refine seq_store g7 _ (ints .i64 ((u.2).set (u.1 + 1) (nth u.2 (u.1 + 1) + nth u.2 u.1 / 256))) 3 r7_9 rfl (by kernel_rfl) (run_storeI 3 _ _ g7 (u.1 + 1) 3 _ _ r7_9 rfl (by kernel_rfl) (by kernel_rfl) (by kernel_rfl) (Nat.lt_of_lt_of_eq (by omega) hlu.symm)) fun W10 p10 r7_10 => ?_
        have x10 : Ext w W10 := Puts.ext p10 x9 b7
        refine seq_nil ?_
        refine hK31 _ _ ?_
        try clear hK31 K31
        refine region_lit ?_
        refine seq_val (.slice (some ⟨g7, 0, none⟩) 66 66) 72 rfl (by kernel_rfl) (by kernel_rfl) ?_
        refine seq_val (.int .i64 ((u.1 : Nat) : Int)) 73 rfl (by kernel_rfl) (by kernel_rfl) ?_
        refine seq_val (.slice (some ⟨g7, 0, none⟩) 66 66) 74 rfl (by kernel_rfl) (by kernel_rfl) ?_
        refine seq_val (.int .i64 ((u.1 : Nat) : Int)) 75 rfl (by kernel_rfl) (by kernel_rfl) ?_
        refine seq_val (.pointer (some ⟨g7, u.1, none⟩)) 76 rfl (by kernel_rfl) (run_indexS0 86 _ _ .i64 (u.1) g7 66 66 3 rfl (by kernel_rfl) (by kernel_rfl) (by kernel_rfl) (by kernel_rfl) (by omega)) ?_
        refine seq_val (.int .i64 (nth u.2 u.1)) 77 rfl (by kernel_rfl) (run_loadC1 3 _ g7 u.1 3 _ (.int .i64 (nth u.2 u.1)) _ r7_10 rfl (by kernel_rfl) ((ints_get _ _ _ (Nat.lt_of_lt_of_eq (by omega) ((List.length_set ..).trans hlu).symm)).trans (congrArg (fun z => some (Value.int .i64 z)) (nth_set_ne _ _ _ _ (by omega)))) (by kernel_rfl)) ?_
        refine seq_val (.int .i64 (nth u.2 u.1 % 256)) 78 rfl (by kernel_rfl) (run_eq (u := .int .i64 (Int.tmod ((nth u.2 u.1)) (256))) (by kernel_rfl) (congrArg (Value.int .i64) (rem256 _ h0.1))) ?_
        refine seq_val (.pointer (some ⟨g7, u.1, none⟩)) 79 rfl (by kernel_rfl) (run_indexS0 86 _ _ .i64 (u.1) g7 66 66 3 rfl (by kernel_rfl) (by kernel_rfl) (by kernel_rfl) (by kernel_rfl) (by omega)) ?_
        refine seq_store g7 _ (ints .i64 (((u.2).set (u.1 + 1) (nth u.2 (u.1 + 1) + nth u.2 u.1 / 256)).set u.1 (nth u.2 u.1 % 256))) 3 r7_10 rfl (by kernel_rfl) (run_storeI 3 _ _ g7 u.1 3 _ _ r7_10 rfl (by kernel_rfl) (by kernel_rfl) (by kernel_rfl) (Nat.lt_of_lt_of_eq (by omega) ((List.length_set ..).trans hlu).symm)) fun W11 p11 r7_11 => ?_
        have x11 : Ext w W11 := Puts.ext p11 x10 b7
        refine seq_nil ?_
        refine hK30 _ _ ?_
        try clear hK30 K30
        refine region_lit ?_
        refine seq_val (.int .i64 ((u.1 : Nat) : Int)) 55 rfl (by kernel_rfl) (by kernel_rfl) ?_
        refine seq_val (.int .i64 (((u.1 + 1 : Nat) : Int))) 56 rfl (by kernel_rfl) (run_eq (u := .int .i64 (IntKind.i64.wrap (((u.1 : Nat) : Int) + 1))) (by kernel_rfl) (congrArg (Value.int .i64) (i64_add1 u.1 (by omega)))) ?_
        refine seq_val (.int .i64 (((u.1 + 1 : Nat) : Int))) 11 rfl (by kernel_rfl) (by kernel_rfl) ?_
        refine seq_nil ?_
        have r2_11 := (Puts.row p11 (Puts.row p10 (row_ext q2_4 e9) n_2_7) n_2_7)
        have r3_11 := (Puts.row p11 (Puts.row p10 (row_ext q3_4 e9) n_3_7) n_3_7)
        have r4_11 := (Puts.row p11 (Puts.row p10 (row_ext q4_4 e9) n_4_7) n_4_7)
        have r5_11 := (Puts.row p11 (Puts.row p10 (row_ext q5_4 e9) n_5_7) n_5_7)
        repeat (first | with_reducible refine goX1 ?_ | with_reducible refine goX2 ?_ | with_reducible refine goX3 ?_)
        exact goes_then (u.1 + 1, ((u.2).set (u.1 + 1) (nth u.2 (u.1 + 1) + nth u.2 u.1 / 256)).set u.1 (nth u.2 u.1 % 256)) ⟨rfl, rfl, rfl, rfl, rfl, rfl, trivial⟩ ⟨(by show u.1 + 1 ≤ 65; omega), ((List.length_set ..).trans ((List.length_set ..).trans hlu)), (car_next hlu hk hu), r2_11, r3_11, r4_11, r5_11, r7_11, x11⟩ (by show 65 - (u.1 + 1) < 65 - u.1; omega)
      · skip
        have hk : u.1 = 65 := by have := of_decide_eq_false c29; omega
        rw [hk] at hu
        refine wp_exit ?_
        refine hK25 _ _ ?_
        try clear hK25 K25
        refine wp_seq_k fun K32 hK32 => ?_
        refine region_lit ?_
        refine seq_val (.slice (some ⟨g7, 0, none⟩) 66 66) 80 rfl (by kernel_rfl) (by kernel_rfl) ?_
        refine seq_call (.agg (ints .u8 (bytesOf (leAt u.2 0 66 % ordL)))) 58 #[.slice (some ⟨g7, 0, none⟩) 66 66] 81 rfl (by kernel_rfl) (by kernel_rfl) (reduceC _ 66 u.2 hlu (by omega) (car_end hab hbb hcb hlu hu) _ q7_4) fun W9 e9 => ?_
        have x9 : Ext w W9 := Ext.tr xx4 e9
        have r5_9 := (row_ext q5_4 e9)
        refine seq_store g5 _ (ints .u8 (bytesOf (leAt u.2 0 66 % ordL))) 23 r5_9 rfl (by kernel_rfl) (run_store_row 23 _ _ g5 23 _ _ r5_9 rfl (by kernel_rfl) (by kernel_rfl) (isz (n := 32) (by kernel_rfl) ((ints_size _ _).trans (bytes_len _))) (eqsz (n := 32) ((ints_size _ _).trans zlen) ((ints_size _ _).trans (bytes_len _))) (ints_one _ _)) fun W10 p10 r5_10 => ?_
        have x10 : Ext w W10 := Puts.ext p10 x9 b5
        refine seq_nil ?_
        refine hK32 _ _ ?_
        try clear hK32 K32
        refine wp_ret ?_
        exact (show bodyPost _ _ _ .ret _ _ from ret1 (.agg (ints .u8 (bytesOf (leAt u.2 0 66 % ordL)))) rfl (res_cell g5 23 _ r5_10 (by kernel_rfl) (by kernel_rfl) (isz (n := 32) (by kernel_rfl) ((ints_size _ _).trans (bytes_len _)))) ⟨by rw [hu.1, mulR_le za zb zc hab hb hbb hc hcb], x10⟩)

end Go.Proofs.YtaojnmjmmfdfjaaDoor.Field
