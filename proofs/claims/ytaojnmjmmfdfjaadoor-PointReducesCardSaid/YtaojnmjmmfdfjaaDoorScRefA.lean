/- Residues: the document's lists, and which is greater. -/
import Derived.Test.YtaojnmjmmfdfjaaDoorScRef
namespace Go.Proofs.YtaojnmjmmfdfjaaDoor.Field
open Go Go.RowKit
open Go.Proofs.YtaojnmjmmfdfjaaDoor.Rely Go.Proofs.YtaojnmjmmfdfjaaDoor.Auto.V
open Go.Proofs.YtaojnmjmmfdfjaaDoor.Auto hiding isT tailT readsT storesT okT TailRun tailsOf pureOk stepsT stepsT_found InvT rem Phase isT_some mem_tails mem_rem rem_nodup list_false rem_sorted rem_set filter_ne holdsC wpAny_of_T t_store t_op t_skip t_val t_read t_call t_new t_nil TailEnv tail_env te_nil te_store any_regionT
set_option linter.unusedVariables false

theorem v_bound {R x : Int} (h : isS R) (hx : 0 ≤ x ∧ x ≤ 255) : 256 * R + x < 256 ^ 34 := by
  have e : 256 * ordL + 256 ≤ (256 : Int) ^ 34 := by decide
  have h2 := h.2
  generalize (256 : Int) ^ 34 = P at *
  omega
theorem v_less {V : Int} (h : V < 256 ^ 34) : V - ordL < 256 ^ 34 := by
  have e : (0 : Int) < ordL := by decide
  generalize (256 : Int) ^ 34 = P at *
  omega
theorem v_dec {V : Int} (h : ordL ≤ V) : (V - ordL).toNat < V.toNat := by
  have e : (0 : Int) < ordL := by decide
  omega
theorem i64_pred (q : Nat) (h0 : 0 < q) (h : q < 9223372036854775808) : IntKind.i64.wrap ((q : Int) - 1) = ((q - 1 : Nat) : Int) := by
  rw [show ((q - 1 : Nat) : Int) = (q : Int) - 1 by omega]
  exact i64_sub1 q h
theorem i64_small (v : Int) (h : -1000000 ≤ v ∧ v ≤ 1000000) : IntKind.i64.wrap v = v := IntWalk.i64_in _ (by omega)
theorem orderI (w : World) : Calls Tryd.prog 24 #[] w (Ret w (.agg (ints .u8 ordI))) := by
  refine enter 2 [] Tryd.func24 rfl rfl (by kernel_rfl) rfl ?_
  refine wp_seq_k fun K1 hK1 => ?_
  refine region_lit ?_
  refine seq_alloc (ints .u8 (List.replicate 32 0)) 23 0 rfl (by kernel_rfl) (by kernel_rfl) fun g2 W1 l2 e1 r2_1 => ?_
  have x1 : Ext w W1 := Ext.tr (Rely.Ext.refl w) e1
  have b2 : w.heap.size ≤ g2 := Nat.le_trans (Rely.Ext.refl w).size l2
  refine seq_nil ?_
  refine hK1 _ _ ?_
  try clear hK1 K1
  refine wp_seq_k fun K3 hK3 => ?_
  refine region_lit ?_
  refine seq_val (.agg (ints .u8 (ordI))) 1 rfl (by kernel_rfl) (by kernel_rfl) ?_
  refine seq_store g2 _ (ints .u8 (ordI)) 23 r2_1 rfl (by kernel_rfl) (run_store_row 23 _ _ g2 23 _ _ r2_1 rfl (by kernel_rfl) (by kernel_rfl) (isz (n := 32) (by kernel_rfl) ((ints_size _ _).trans ordI_len)) (eqsz (n := 32) ((ints_size _ _).trans zlen) ((ints_size _ _).trans ordI_len)) (ints_one _ _)) fun W2 p2 r2_2 => ?_
  have x2 : Ext w W2 := Puts.ext p2 x1 b2
  refine seq_nil ?_
  refine hK3 _ _ ?_
  try clear hK3 K3
  refine wp_ret ?_
  exact (show bodyPost _ _ _ .ret _ _ from ret1 (.agg (ints .u8 (ordI))) rfl (res_cell g2 23 _ r2_2 (by kernel_rfl) (by kernel_rfl) (isz (n := 32) (by kernel_rfl) ((ints_size _ _).trans ordI_len))) ⟨rfl, x2⟩)
set_option maxHeartbeats 4000000 in
theorem intsC (A : Option Addr) (n c : Nat) (bs : List Int) (hbl : bs.length = n) (hn : n ≤ 1000) (hb : AreBytes bs) (w : World)
    (hc : n = 0 ∨ ∃ sb so, A = some ⟨sb, so, none⟩ ∧ sb < w.heap.size ∧ ∀ i, i < n → w.cell? ⟨sb, so + i, none⟩ = some (.int .u8 (nth bs i))) :
    Calls Tryd.prog 59 #[.slice A n c] w fun e w' => ∃ v, e = .returned v ∧ Ext w w' ∧ ∃ g, w.heap.size ≤ g ∧ v = .slice (some ⟨g, 0, none⟩) n n ∧ w'.heap[g]? = some (.cells (ints .i64 bs) 3) := by
  refine enter 23 [(0, .slice A n c)] Tryd.func59 rfl rfl (by kernel_rfl) rfl ?_
  refine wp_seq_k fun K1 hK1 => ?_
  refine region_lit ?_
  refine seq_val (.slice none 0 0) 2 rfl (by kernel_rfl) (by kernel_rfl) ?_
  refine seq_nil ?_
  refine hK1 _ _ ?_
  try clear hK1 K1
  refine wp_seq_k fun K2 hK2 => ?_
  refine region_lit ?_
  refine seq_val (.slice A n c) 5 rfl (by kernel_rfl) (by kernel_rfl) ?_
  refine seq_val (.int .i64 ((n : Nat) : Int)) 6 rfl (by kernel_rfl) (by kernel_rfl) ?_
  refine seq_makeS (ints .i64 (List.replicate n 0)) 3 n 7 rfl (by kernel_rfl) (run_makeI 86 _ _ .i64 .i64 n 3 rfl (by kernel_rfl) (by kernel_rfl) (by kernel_rfl) (by first | exact .inl (by kernel_rfl) | exact .inr (by kernel_rfl)) (by omega)) fun g3 W1 l3 e1 r3_1 => ?_
  have x1 : Ext w W1 := Ext.tr (Rely.Ext.refl w) e1
  have b3 : w.heap.size ≤ g3 := Nat.le_trans (Rely.Ext.refl w).size l3
  refine seq_val (.slice (some ⟨g3, 0, none⟩) n n) 3 rfl (by kernel_rfl) (by kernel_rfl) ?_
  refine seq_nil ?_
  refine hK2 _ _ ?_
  try clear hK2 K2
  refine wp_seq_k fun K4 hK4 => ?_
  refine wp_seq_k fun K5 hK5 => ?_
  refine region_lit ?_
  refine seq_val (.int .i64 0) 4 rfl (by kernel_rfl) (by kernel_rfl) ?_
  refine seq_nil ?_
  refine hK5 _ _ ?_
  try clear hK5 K5
  refine wp_block ?_
  refine loop_auto (fun (k : Nat) => [(4, .int .i64 ((k : Nat) : Int)), (0, .slice A n c), (3, .slice (some ⟨g3, 0, none⟩) n n)]) (fun (k : Nat) W => (k ≤ n) ∧ W.heap[g3]? = some (.cells (ints .i64 (fill bs n k)) 3) ∧ Ext w W) (fun (k : Nat) => n - k) 0 ⟨rfl, rfl, rfl, trivial⟩ ⟨(by omega), (row_eq r3_1 (fill_start bs n)), x1⟩ fun k X1 V1 hI => ?_
  obtain ⟨hkn, q3_1, xx1⟩ := hI
  refine wp_seq_k fun K6 hK6 => ?_
  refine wp_seq_k fun K7 hK7 => ?_
  refine region_lit ?_
  refine seq_val (.int .i64 ((k : Nat) : Int)) 8 rfl (by kernel_rfl) (by kernel_rfl) ?_
  refine seq_val (.slice A n c) 9 rfl (by kernel_rfl) (by kernel_rfl) ?_
  refine seq_val (.int .i64 ((n : Nat) : Int)) 10 rfl (by kernel_rfl) (by kernel_rfl) ?_
  refine seq_val (.bool (decide (((k : Nat) : Int) < ((n : Nat) : Int)))) 11 rfl (by kernel_rfl) (by kernel_rfl) ?_
  refine seq_nil ?_
  refine hK7 _ _ ?_
  try clear hK7 K7
  refine cond_split (t := decide (((k : Nat) : Int) < ((n : Nat) : Int))) (by kernel_rfl) (fun c8 => ?_) (fun c8 => ?_)
  · skip
    have hk : k < n := by have := of_decide_eq_true c8; omega
    obtain ⟨sb, so, hA, hsb, hcell⟩ := hc.resolve_left (by omega)
    subst hA
    refine wp_skip ?_
    refine hK6 _ _ ?_
    try clear hK6 K6
    refine wp_seq_k fun K9 hK9 => ?_
    refine wp_block ?_
    refine region_lit ?_
    refine seq_val (.slice (some ⟨g3, 0, none⟩) n n) 14 rfl (by kernel_rfl) (by kernel_rfl) ?_
    refine seq_val (.int .i64 ((k : Nat) : Int)) 15 rfl (by kernel_rfl) (by kernel_rfl) ?_
    refine seq_val (.slice (some ⟨sb, so, none⟩) n c) 16 rfl (by kernel_rfl) (by kernel_rfl) ?_
    refine seq_val (.int .i64 ((k : Nat) : Int)) 17 rfl (by kernel_rfl) (by kernel_rfl) ?_
    refine seq_val (.pointer (some ⟨sb, so + k, none⟩)) 18 rfl (by kernel_rfl) (run_indexS 52 _ _ .i64 (k) sb so n c 5 rfl (by kernel_rfl) (by kernel_rfl) (by kernel_rfl) (by kernel_rfl) hk) ?_
    refine seq_val (.int .u8 (nth (bs) (k))) 19 rfl (by kernel_rfl) (run_loadCell 5 _ _ (.int .u8 (nth (bs) (k))) ((Below.cell xx1 hsb).trans (hcell k hk)) rfl (by kernel_rfl) (by kernel_rfl)) ?_
    refine seq_val (.int .i64 (nth bs k)) 20 rfl (by kernel_rfl) (run_eq (u := .int .i64 (IntKind.i64.wrap (nth (bs) (k)))) (by kernel_rfl) (congrArg (Value.int .i64) (i64_u8 (hb.nth k)))) ?_
    refine seq_val (.pointer (some ⟨g3, k, none⟩)) 21 rfl (by kernel_rfl) (run_indexS0 86 _ _ .i64 (k) g3 n n 3 rfl (by kernel_rfl) (by kernel_rfl) (by kernel_rfl) (by kernel_rfl) hk) ?_
    refine seq_store g3 _ (ints .i64 ((fill bs n k).set k (nth bs k))) 3 q3_1 rfl (by kernel_rfl) (run_storeI 3 _ _ g3 k 3 _ _ q3_1 rfl (by kernel_rfl) (by kernel_rfl) (by kernel_rfl) (Nat.lt_of_lt_of_eq hk (fill_len _ _ _).symm)) fun W3 p3 r3_3 => ?_
    have x3 : Ext w W3 := Puts.ext p3 xx1 b3
    refine seq_nil ?_
    refine hK9 _ _ ?_
    try clear hK9 K9
    refine region_lit ?_
    refine seq_val (.int .i64 ((k : Nat) : Int)) 12 rfl (by kernel_rfl) (by kernel_rfl) ?_
    refine seq_val (.int .i64 (((k + 1 : Nat) : Int))) 13 rfl (by kernel_rfl) (run_eq (u := .int .i64 (IntKind.i64.wrap (((k : Nat) : Int) + 1))) (by kernel_rfl) (congrArg (Value.int .i64) (i64_add1 k (by omega)))) ?_
    refine seq_val (.int .i64 (((k + 1 : Nat) : Int))) 4 rfl (by kernel_rfl) (by kernel_rfl) ?_
    refine seq_nil ?_
    repeat (first | with_reducible refine goX1 ?_ | with_reducible refine goX2 ?_ | with_reducible refine goX3 ?_)
    exact goes_then (k + 1) ⟨rfl, rfl, rfl, trivial⟩ ⟨(by omega), (row_eq r3_3 (fill_next bs n k hk)), x3⟩ (by omega)
  · skip
    have hk : k = n := by have := of_decide_eq_false c8; omega
    subst hk
    refine wp_exit ?_
    refine hK4 _ _ ?_
    try clear hK4 K4
    refine wp_seq_k fun K10 hK10 => ?_
    refine region_lit ?_
    refine seq_val (.slice (some ⟨g3, 0, none⟩) k k) 22 rfl (by kernel_rfl) (by kernel_rfl) ?_
    refine seq_val (.slice (some ⟨g3, 0, none⟩) k k) 2 rfl (by kernel_rfl) (by kernel_rfl) ?_
    refine seq_nil ?_
    refine hK10 _ _ ?_
    try clear hK10 K10
    refine wp_ret ?_
    exact (show bodyPost _ _ _ .ret _ _ from ret1 (.slice (some ⟨g3, 0, none⟩) k k) rfl (res_tmp (by kernel_rfl)) ⟨_, rfl, xx1, g3, b3, rfl, (row_eq q3_1 (fill_end bs k hbl))⟩)
set_option maxHeartbeats 4000000 in
theorem atLeastC (ga gb : Nat) (xs ys : List Int) (hx : xs.length = 34) (hy : ys.length = 32) (hxb : AreBytes xs) (hyb : AreBytes ys) (w : World) (ha : w.heap[ga]? = some (.cells (ints .i64 xs) 3)) (hb : w.heap[gb]? = some (.cells (ints .i64 ys) 3)) :
    Calls Tryd.prog 73 #[.slice (some ⟨ga, 0, none⟩) 34 34, .slice (some ⟨gb, 0, none⟩) 32 32] w (Ret w (.bool (decide (leAt ys 0 34 ≤ leAt xs 0 34)))) := by
  refine enter 34 [(0, .slice (some ⟨ga, 0, none⟩) 34 34), (1, .slice (some ⟨gb, 0, none⟩) 32 32)] Tryd.func73 rfl rfl (by kernel_rfl) rfl ?_
  refine wp_seq_k fun K3 hK3 => ?_
  refine region_lit ?_
  refine seq_val (.bool false) 4 rfl (by kernel_rfl) (by kernel_rfl) ?_
  refine seq_nil ?_
  refine hK3 _ _ ?_
  try clear hK3 K3
  refine wp_seq_k fun K4 hK4 => ?_
  refine wp_seq_k fun K5 hK5 => ?_
  refine region_lit ?_
  refine seq_val (.slice (some ⟨ga, 0, none⟩) 34 34) 7 rfl (by kernel_rfl) (by kernel_rfl) ?_
  refine seq_val (.int .i64 34) 8 rfl (by kernel_rfl) (by kernel_rfl) ?_
  refine seq_val (.int .i64 33) 9 rfl (by kernel_rfl) (by kernel_rfl) ?_
  refine seq_val (.int .i64 33) 5 rfl (by kernel_rfl) (by kernel_rfl) ?_
  refine seq_nil ?_
  refine hK5 _ _ ?_
  try clear hK5 K5
  refine wp_block ?_
  refine loop_auto (fun (k : Nat) => [(5, .int .i64 ((k : Int) - 1)), (0, .slice (some ⟨ga, 0, none⟩) 34 34), (1, .slice (some ⟨gb, 0, none⟩) 32 32)]) (fun (k : Nat) W => (k ≤ 34) ∧ (∀ j, k ≤ j → j < 34 → nth xs j = nth ys j) ∧ Ext w W) (fun (k : Nat) => k) 34 ⟨rfl, rfl, rfl, trivial⟩ ⟨(by omega), (fun j h1 h2 => by omega), (Rely.Ext.refl w)⟩ fun k X1 V1 hI => ?_
  obtain ⟨hk34, hs, xx1⟩ := hI
  rcases k with _ | j
  · skip
    refine wp_seq_k fun K6 hK6 => ?_
    refine wp_seq_k fun K7 hK7 => ?_
    refine region_lit ?_
    refine seq_val (.int .i64 (-1)) 10 rfl (by kernel_rfl) (by kernel_rfl) ?_
    refine seq_val (.bool false) 11 rfl (by kernel_rfl) (by kernel_rfl) ?_
    refine seq_nil ?_
    refine hK7 _ _ ?_
    try clear hK7 K7
    refine cond_false (by kernel_rfl) ?_
    refine wp_exit ?_
    refine hK4 _ _ ?_
    try clear hK4 K4
    refine wp_seq_k fun K8 hK8 => ?_
    refine region_lit ?_
    refine seq_val (.bool true) 4 rfl (by kernel_rfl) (by kernel_rfl) ?_
    refine seq_nil ?_
    refine hK8 _ _ ?_
    try clear hK8 K8
    refine wp_ret ?_
    exact (show bodyPost _ _ _ .ret _ _ from ret1 (.bool true) rfl (res_tmp (by kernel_rfl)) ⟨congrArg (fun b => Ending.returned (.bool b)) (cmp_all xs ys 34 hs).symm, xx1⟩)
  · rw [show (((j + 1 : Nat) : Int) - 1) = ((j : Nat) : Int) by omega]
    refine wp_seq_k fun K9 hK9 => ?_
    refine wp_seq_k fun K10 hK10 => ?_
    refine region_lit ?_
    refine seq_val (.int .i64 ((j : Nat) : Int)) 10 rfl (by kernel_rfl) (by kernel_rfl) ?_
    refine seq_val (.bool true) 11 rfl (by kernel_rfl) (run_eq (u := .bool (decide (((j : Nat) : Int) ≥ 0))) (by kernel_rfl) (congrArg Value.bool (decide_eq_true (by omega)))) ?_
    refine seq_nil ?_
    refine hK10 _ _ ?_
    try clear hK10 K10
    refine cond_true (by kernel_rfl) ?_
    refine wp_skip ?_
    refine hK9 _ _ ?_
    try clear hK9 K9
    refine wp_seq_k fun K11 hK11 => ?_
    refine wp_block ?_
    refine wp_seq_k fun K12 hK12 => ?_
    refine region_lit ?_
    refine seq_val (.int .i64 0) 6 rfl (by kernel_rfl) (by kernel_rfl) ?_
    refine seq_nil ?_
    refine hK12 _ _ ?_
    try clear hK12 K12
    refine wp_seq_k fun K13 hK13 => ?_
    refine wp_seq_k fun K14 hK14 => ?_
    refine region_lit ?_
    refine seq_val (.int .i64 ((j : Nat) : Int)) 14 rfl (by kernel_rfl) (by kernel_rfl) ?_
    refine seq_val (.slice (some ⟨gb, 0, none⟩) 32 32) 15 rfl (by kernel_rfl) (by kernel_rfl) ?_
    refine seq_val (.int .i64 32) 16 rfl (by kernel_rfl) (by kernel_rfl) ?_
    refine seq_val (.bool (decide (((j : Nat) : Int) < 32))) 17 rfl (by kernel_rfl) (by kernel_rfl) ?_
    refine seq_nil ?_
    refine hK14 _ _ ?_
    try clear hK14 K14
    refine cond_split (t := decide (((j : Nat) : Int) < 32)) (by kernel_rfl) (fun c15 => ?_) (fun c15 => ?_)
    · skip
      have hj : j < 32 := by have := of_decide_eq_true c15; omega
      refine region_lit ?_
      refine seq_val (.slice (some ⟨gb, 0, none⟩) 32 32) 18 rfl (by kernel_rfl) (by kernel_rfl) ?_
      refine seq_val (.int .i64 ((j : Nat) : Int)) 19 rfl (by kernel_rfl) (by kernel_rfl) ?_
      refine seq_val (.pointer (some ⟨gb, j, none⟩)) 20 rfl (by kernel_rfl) (run_indexS0 86 _ _ .i64 (j) gb 32 32 3 rfl (by kernel_rfl) (by kernel_rfl) (by kernel_rfl) (by kernel_rfl) (by omega)) ?_
      refine seq_val (.int .i64 (nth (ys) j)) 21 rfl (by kernel_rfl) (run_loadC1 3 _ gb j 3 _ (.int .i64 (nth (ys) j)) _ (row_ext hb xx1) rfl (by kernel_rfl) (ints_get _ _ _ (Nat.lt_of_lt_of_eq (by omega) hy.symm)) (by kernel_rfl)) ?_
      refine seq_val (.int .i64 (nth (ys) j)) 6 rfl (by kernel_rfl) (by kernel_rfl) ?_
      refine seq_nil ?_
      refine hK13 _ _ ?_
      try clear hK13 K13
      refine wp_seq_k fun K16 hK16 => ?_
      refine region_lit ?_
      refine seq_val (.slice (some ⟨ga, 0, none⟩) 34 34) 22 rfl (by kernel_rfl) (by kernel_rfl) ?_
      refine seq_val (.int .i64 ((j : Nat) : Int)) 23 rfl (by kernel_rfl) (by kernel_rfl) ?_
      refine seq_val (.pointer (some ⟨ga, j, none⟩)) 24 rfl (by kernel_rfl) (run_indexS0 86 _ _ .i64 (j) ga 34 34 3 rfl (by kernel_rfl) (by kernel_rfl) (by kernel_rfl) (by kernel_rfl) (by omega)) ?_
      refine seq_val (.int .i64 (nth (xs) j)) 25 rfl (by kernel_rfl) (run_loadC1 3 _ ga j 3 _ (.int .i64 (nth (xs) j)) _ (row_ext ha xx1) rfl (by kernel_rfl) (ints_get _ _ _ (Nat.lt_of_lt_of_eq (by omega) hx.symm)) (by kernel_rfl)) ?_
      refine seq_val (.int .i64 (nth (ys) j)) 26 rfl (by kernel_rfl) (by kernel_rfl) ?_
      refine seq_val (.bool (nth xs j != nth ys j)) 27 rfl (by kernel_rfl) (run_eq (u := .bool (((nth (xs) j) != (nth (ys) j)))) (by kernel_rfl) (congrArg Value.bool rfl)) ?_
      refine seq_nil ?_
      refine hK16 _ _ ?_
      try clear hK16 K16
      refine cond_split (t := nth xs j != nth ys j) (by kernel_rfl) (fun c17 => ?_) (fun c17 => ?_)
      · skip
        have hne : nth xs j ≠ nth ys j := by intro e; rw [e] at c17; simp at c17
        refine wp_seq_k fun K18 hK18 => ?_
        refine region_lit ?_
        refine seq_val (.slice (some ⟨ga, 0, none⟩) 34 34) 28 rfl (by kernel_rfl) (by kernel_rfl) ?_
        refine seq_val (.int .i64 ((j : Nat) : Int)) 29 rfl (by kernel_rfl) (by kernel_rfl) ?_
        refine seq_val (.pointer (some ⟨ga, j, none⟩)) 30 rfl (by kernel_rfl) (run_indexS0 86 _ _ .i64 (j) ga 34 34 3 rfl (by kernel_rfl) (by kernel_rfl) (by kernel_rfl) (by kernel_rfl) (by omega)) ?_
        refine seq_val (.int .i64 (nth (xs) j)) 31 rfl (by kernel_rfl) (run_loadC1 3 _ ga j 3 _ (.int .i64 (nth (xs) j)) _ (row_ext ha xx1) rfl (by kernel_rfl) (ints_get _ _ _ (Nat.lt_of_lt_of_eq (by omega) hx.symm)) (by kernel_rfl)) ?_
        refine seq_val (.int .i64 (nth (ys) j)) 32 rfl (by kernel_rfl) (by kernel_rfl) ?_
        refine seq_val (.bool (decide ((nth (xs) j) > (nth (ys) j)))) 33 rfl (by kernel_rfl) (by kernel_rfl) ?_
        refine seq_val (.bool (decide ((nth (xs) j) > (nth (ys) j)))) 4 rfl (by kernel_rfl) (by kernel_rfl) ?_
        refine seq_nil ?_
        refine hK18 _ _ ?_
        try clear hK18 K18
        refine wp_ret ?_
        exact (show bodyPost _ _ _ .ret _ _ from ret1 (.bool (decide ((nth (xs) j) > (nth (ys) j)))) rfl (res_tmp (by kernel_rfl)) ⟨congrArg (fun b => Ending.returned (.bool b)) (cmp_at xs ys hxb hyb j 34 (by omega) hs hne), xx1⟩)
      · skip
        have heq : nth xs j = nth ys j := by simpa using c17
        refine wp_skip ?_
        refine hK11 _ _ ?_
        try clear hK11 K11
        refine region_lit ?_
        refine seq_val (.int .i64 ((j : Nat) : Int)) 12 rfl (by kernel_rfl) (by kernel_rfl) ?_
        refine seq_val (.int .i64 ((j : Int) - 1)) 13 rfl (by kernel_rfl) (run_eq (u := .int .i64 (IntKind.i64.wrap (((j : Nat) : Int) - 1))) (by kernel_rfl) (congrArg (Value.int .i64) (i64_sub1 j (by omega)))) ?_
        refine seq_val (.int .i64 ((j : Int) - 1)) 5 rfl (by kernel_rfl) (by kernel_rfl) ?_
        refine seq_nil ?_
        repeat (first | with_reducible refine goX1 ?_ | with_reducible refine goX2 ?_ | with_reducible refine goX3 ?_)
        exact goes_then j ⟨rfl, rfl, rfl, trivial⟩ ⟨(by omega), (fun q h1 h2 => by rcases Nat.lt_or_ge j q with h | h; exact hs q (by omega) h2; rw [show q = j by omega]; exact heq), xx1⟩ (by omega)
    · skip
      have hj : 32 ≤ j := by have := of_decide_eq_false c15; omega
      have hz := nth_beyond ys j (by omega)
      refine wp_skip ?_
      refine hK13 _ _ ?_
      try clear hK13 K13
      refine wp_seq_k fun K19 hK19 => ?_
      refine region_lit ?_
      refine seq_val (.slice (some ⟨ga, 0, none⟩) 34 34) 22 rfl (by kernel_rfl) (by kernel_rfl) ?_
      refine seq_val (.int .i64 ((j : Nat) : Int)) 23 rfl (by kernel_rfl) (by kernel_rfl) ?_
      refine seq_val (.pointer (some ⟨ga, j, none⟩)) 24 rfl (by kernel_rfl) (run_indexS0 86 _ _ .i64 (j) ga 34 34 3 rfl (by kernel_rfl) (by kernel_rfl) (by kernel_rfl) (by kernel_rfl) (by omega)) ?_
      refine seq_val (.int .i64 (nth (xs) j)) 25 rfl (by kernel_rfl) (run_loadC1 3 _ ga j 3 _ (.int .i64 (nth (xs) j)) _ (row_ext ha xx1) rfl (by kernel_rfl) (ints_get _ _ _ (Nat.lt_of_lt_of_eq (by omega) hx.symm)) (by kernel_rfl)) ?_
      refine seq_val (.int .i64 0) 26 rfl (by kernel_rfl) (by kernel_rfl) ?_
      refine seq_val (.bool (nth xs j != 0)) 27 rfl (by kernel_rfl) (run_eq (u := .bool (((nth (xs) j) != 0))) (by kernel_rfl) (congrArg Value.bool rfl)) ?_
      refine seq_nil ?_
      refine hK19 _ _ ?_
      try clear hK19 K19
      refine cond_split (t := nth xs j != 0) (by kernel_rfl) (fun c20 => ?_) (fun c20 => ?_)
      · skip
        have hne : nth xs j ≠ nth ys j := by intro e; rw [e, hz] at c20; simp at c20
        refine wp_seq_k fun K21 hK21 => ?_
        refine region_lit ?_
        refine seq_val (.slice (some ⟨ga, 0, none⟩) 34 34) 28 rfl (by kernel_rfl) (by kernel_rfl) ?_
        refine seq_val (.int .i64 ((j : Nat) : Int)) 29 rfl (by kernel_rfl) (by kernel_rfl) ?_
        refine seq_val (.pointer (some ⟨ga, j, none⟩)) 30 rfl (by kernel_rfl) (run_indexS0 86 _ _ .i64 (j) ga 34 34 3 rfl (by kernel_rfl) (by kernel_rfl) (by kernel_rfl) (by kernel_rfl) (by omega)) ?_
        refine seq_val (.int .i64 (nth (xs) j)) 31 rfl (by kernel_rfl) (run_loadC1 3 _ ga j 3 _ (.int .i64 (nth (xs) j)) _ (row_ext ha xx1) rfl (by kernel_rfl) (ints_get _ _ _ (Nat.lt_of_lt_of_eq (by omega) hx.symm)) (by kernel_rfl)) ?_
        refine seq_val (.int .i64 0) 32 rfl (by kernel_rfl) (by kernel_rfl) ?_
        refine seq_val (.bool (decide ((nth (xs) j) > 0))) 33 rfl (by kernel_rfl) (by kernel_rfl) ?_
        refine seq_val (.bool (decide ((nth (xs) j) > 0))) 4 rfl (by kernel_rfl) (by kernel_rfl) ?_
        refine seq_nil ?_
        refine hK21 _ _ ?_
        try clear hK21 K21
        refine wp_ret ?_
        exact (show bodyPost _ _ _ .ret _ _ from ret1 (.bool (decide ((nth (xs) j) > 0))) rfl (res_tmp (by kernel_rfl)) ⟨congrArg (fun b => Ending.returned (.bool b)) (by have := cmp_at xs ys hxb hyb j 34 (by omega) hs hne; rwa [hz] at this), xx1⟩)
      · skip
        have heq : nth xs j = nth ys j := by rw [hz]; simpa using c20
        refine wp_skip ?_
        refine hK11 _ _ ?_
        try clear hK11 K11
        refine region_lit ?_
        refine seq_val (.int .i64 ((j : Nat) : Int)) 12 rfl (by kernel_rfl) (by kernel_rfl) ?_
        refine seq_val (.int .i64 ((j : Int) - 1)) 13 rfl (by kernel_rfl) (run_eq (u := .int .i64 (IntKind.i64.wrap (((j : Nat) : Int) - 1))) (by kernel_rfl) (congrArg (Value.int .i64) (i64_sub1 j (by omega)))) ?_
        refine seq_val (.int .i64 ((j : Int) - 1)) 5 rfl (by kernel_rfl) (by kernel_rfl) ?_
        refine seq_nil ?_
        repeat (first | with_reducible refine goX1 ?_ | with_reducible refine goX2 ?_ | with_reducible refine goX3 ?_)
        exact goes_then j ⟨rfl, rfl, rfl, trivial⟩ ⟨(by omega), (fun q h1 h2 => by rcases Nat.lt_or_ge j q with h | h; exact hs q (by omega) h2; rw [show q = j by omega]; exact heq), xx1⟩ (by omega)

end Go.Proofs.YtaojnmjmmfdfjaaDoor.Field
