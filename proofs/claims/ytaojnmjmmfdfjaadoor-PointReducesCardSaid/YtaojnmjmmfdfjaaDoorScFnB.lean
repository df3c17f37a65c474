/- Residues: Reduce, Residue, MulAdd. -/
import Derived.Test.YtaojnmjmmfdfjaaDoorScFn
namespace Go.Proofs.YtaojnmjmmfdfjaaDoor.Field
open Go Go.RowKit
open Go.Proofs.YtaojnmjmmfdfjaaDoor.Rely Go.Proofs.YtaojnmjmmfdfjaaDoor.Auto.V
open Go.Proofs.YtaojnmjmmfdfjaaDoor.Auto hiding isT tailT readsT storesT okT TailRun tailsOf pureOk stepsT stepsT_found InvT rem Phase isT_some mem_tails mem_rem rem_nodup list_false rem_sorted rem_set filter_ne holdsC wpAny_of_T t_store t_op t_skip t_val t_read t_call t_new t_nil TailEnv tail_env te_nil te_store any_regionT
set_option linter.unusedVariables false

set_option maxHeartbeats 4000000 in
theorem reduce_big (A : Option Addr) (n c : Nat) (bs : List Int) (hbl : bs.length = n) (hn : 64 < n) (hb : AreBytes bs) (w : World) (tO : TypeId) (hO : w.heap[3]? = some (.cells orderA tO))
    (hc : n = 0 ∨ ∃ sb so, A = some ⟨sb, so, none⟩ ∧ sb < w.heap.size ∧ ∀ i, i < n → w.cell? ⟨sb, so + i, none⟩ = some (.int .u8 (nth bs i))) :
    Calls Tryd.prog 25 #[.slice A n c] w (Ret w (.tuple #[.agg (ints .u8 (List.replicate 32 0)), .bool false])) := by
  refine enter 11 [(0, .slice A n c)] Tryd.func25 rfl rfl (by kernel_rfl) rfl ?_
  refine wp_seq_k fun K2 hK2 => ?_
  refine region_lit ?_
  refine seq_alloc (ints .u8 (List.replicate 32 0)) 23 2 rfl (by kernel_rfl) (by kernel_rfl) fun g3 W1 l3 e1 r3_1 => ?_
  have x1 : Ext w W1 := Ext.tr (Rely.Ext.refl w) e1
  have b3 : w.heap.size ≤ g3 := Nat.le_trans (Rely.Ext.refl w).size l3
  refine seq_val (.bool false) 3 rfl (by kernel_rfl) (by kernel_rfl) ?_
  refine seq_nil ?_
  refine hK2 _ _ ?_
  try clear hK2 K2
  refine wp_seq_k fun K4 hK4 => ?_
  refine wp_seq_k fun K5 hK5 => ?_
  refine region_lit ?_
  refine seq_val (.slice A n c) 4 rfl (by kernel_rfl) (by kernel_rfl) ?_
  refine seq_val (.int .i64 ((n : Nat) : Int)) 5 rfl (by kernel_rfl) (by kernel_rfl) ?_
  refine seq_val (.bool true) 6 rfl (by kernel_rfl) (run_eq (u := .bool (decide (((n : Nat) : Int) > 64))) (by kernel_rfl) (congrArg Value.bool (decide_eq_true (by omega)))) ?_
  refine seq_nil ?_
  refine hK5 _ _ ?_
  try clear hK5 K5
  refine cond_true (by kernel_rfl) ?_
  refine wp_seq_k fun K6 hK6 => ?_
  refine region_lit ?_
  refine seq_val (.agg (ints .u8 (List.replicate 32 0))) 7 rfl (by kernel_rfl) (by kernel_rfl) ?_
  refine seq_store g3 _ (ints .u8 (List.replicate 32 0)) 23 r3_1 rfl (by kernel_rfl) (run_store_row 23 _ _ g3 23 _ _ r3_1 rfl (by kernel_rfl) (by kernel_rfl) (isz (n := 32) (by kernel_rfl) ((ints_size _ _).trans zlen)) (eqsz (n := 32) ((ints_size _ _).trans zlen) ((ints_size _ _).trans zlen)) (ints_one _ _)) fun W2 p2 r3_2 => ?_
  have x2 : Ext w W2 := Puts.ext p2 x1 b3
  refine seq_val (.bool false) 3 rfl (by kernel_rfl) (by kernel_rfl) ?_
  refine seq_nil ?_
  refine hK6 _ _ ?_
  try clear hK6 K6
  refine wp_ret ?_
  exact (show bodyPost _ _ _ .ret _ _ from ret2 (.agg (ints .u8 (List.replicate 32 0))) (.bool false) rfl (res_cell g3 23 _ r3_2 (by kernel_rfl) (by kernel_rfl) (isz (n := 32) (by kernel_rfl) ((ints_size _ _).trans zlen))) (res_tmp (by kernel_rfl)) ⟨rfl, x2⟩)
set_option maxHeartbeats 4000000 in
theorem reduce_ok (A : Option Addr) (n c : Nat) (bs : List Int) (hbl : bs.length = n) (hn : n ≤ 64) (hb : AreBytes bs) (w : World) (tO : TypeId) (hO : w.heap[3]? = some (.cells orderA tO))
    (hc : n = 0 ∨ ∃ sb so, A = some ⟨sb, so, none⟩ ∧ sb < w.heap.size ∧ ∀ i, i < n → w.cell? ⟨sb, so + i, none⟩ = some (.int .u8 (nth bs i))) :
    Calls Tryd.prog 25 #[.slice A n c] w (Ret w (.tuple #[.agg (ints .u8 (bytesOf (resN bs))), .bool true])) := by
  refine enter 11 [(0, .slice A n c)] Tryd.func25 rfl rfl (by kernel_rfl) rfl ?_
  refine wp_seq_k fun K2 hK2 => ?_
  refine region_lit ?_
  refine seq_alloc (ints .u8 (List.replicate 32 0)) 23 2 rfl (by kernel_rfl) (by kernel_rfl) fun g3 W1 l3 e1 r3_1 => ?_
  have x1 : Ext w W1 := Ext.tr (Rely.Ext.refl w) e1
  have b3 : w.heap.size ≤ g3 := Nat.le_trans (Rely.Ext.refl w).size l3
  refine seq_val (.bool false) 3 rfl (by kernel_rfl) (by kernel_rfl) ?_
  refine seq_nil ?_
  refine hK2 _ _ ?_
  try clear hK2 K2
  refine wp_seq_k fun K4 hK4 => ?_
  refine wp_seq_k fun K5 hK5 => ?_
  refine region_lit ?_
  refine seq_val (.slice A n c) 4 rfl (by kernel_rfl) (by kernel_rfl) ?_
  refine seq_val (.int .i64 ((n : Nat) : Int)) 5 rfl (by kernel_rfl) (by kernel_rfl) ?_
  refine seq_val (.bool false) 6 rfl (by kernel_rfl) (run_eq (u := .bool (decide (((n : Nat) : Int) > 64))) (by kernel_rfl) (congrArg Value.bool (decide_eq_false (by omega)))) ?_
  refine seq_nil ?_
  refine hK5 _ _ ?_
  try clear hK5 K5
  refine cond_false (by kernel_rfl) ?_
  refine wp_skip ?_
  refine hK4 _ _ ?_
  try clear hK4 K4
  refine wp_seq_k fun K6 hK6 => ?_
  refine region_lit ?_
  refine seq_val (.slice A n c) 8 rfl (by kernel_rfl) (by kernel_rfl) ?_
  have r1_1 := (row_ext hO e1)
  refine seq_call (.agg (ints .u64 (wl (resN bs)))) 55 #[.slice A n c] 9 rfl (by kernel_rfl) (by kernel_rfl) (residueC A n c bs hbl (by omega) hb _ tO r1_1 (cells_ext hc x1)) fun W2 e2 => ?_
  have x2 : Ext w W2 := Ext.tr x1 e2
  have r1_2 := (row_ext r1_1 e2)
  refine seq_call (.agg (ints .u8 (bytesOf (resN bs)))) 57 #[.agg (ints .u64 (wl (resN bs)))] 10 rfl (by kernel_rfl) (by kernel_rfl) (sbytesC _ _ tO r1_2) fun W3 e3 => ?_
  have x3 : Ext w W3 := Ext.tr x2 e3
  have r3_3 := (row_ext (row_ext r3_1 e2) e3)
  refine seq_store g3 _ (ints .u8 (bytesOf (resN bs))) 23 r3_3 rfl (by kernel_rfl) (run_store_row 23 _ _ g3 23 _ _ r3_3 rfl (by kernel_rfl) (by kernel_rfl) (isz (n := 32) (by kernel_rfl) ((ints_size _ _).trans (bytes_len _))) (eqsz (n := 32) ((ints_size _ _).trans zlen) ((ints_size _ _).trans (bytes_len _))) (ints_one _ _)) fun W4 p4 r3_4 => ?_
  have x4 : Ext w W4 := Puts.ext p4 x3 b3
  refine seq_val (.bool true) 3 rfl (by kernel_rfl) (by kernel_rfl) ?_
  refine seq_nil ?_
  refine hK6 _ _ ?_
  try clear hK6 K6
  refine wp_ret ?_
  exact (show bodyPost _ _ _ .ret _ _ from ret2 (.agg (ints .u8 (bytesOf (resN bs)))) (.bool true) rfl (res_cell g3 23 _ r3_4 (by kernel_rfl) (by kernel_rfl) (isz (n := 32) (by kernel_rfl) ((ints_size _ _).trans (bytes_len _)))) (res_tmp (by kernel_rfl)) ⟨rfl, x4⟩)
set_option maxHeartbeats 4000000 in
theorem residueBC (xs : List Int) (hx : xs.length = 32) (hb : AreBytes xs) (w : World) (tO : TypeId) (hO : w.heap[3]? = some (.cells orderA tO)) : Calls Tryd.prog 27 #[.agg (ints .u8 xs)] w (Ret w (.bool (decide (bytesOf (resN xs) = xs)))) := by
  refine enter 8 [(0, .agg (ints .u8 (xs)))] Tryd.func27 rfl rfl (by kernel_rfl) rfl ?_
  refine wp_seq_k fun K2 hK2 => ?_
  refine region_lit ?_
  refine seq_alloc (ints .u8 (xs)) 23 1 rfl (by kernel_rfl) (by kernel_rfl) fun g3 W1 l3 e1 r3_1 => ?_
  have x1 : Ext w W1 := Ext.tr (Rely.Ext.refl w) e1
  have b3 : w.heap.size ≤ g3 := Nat.le_trans (Rely.Ext.refl w).size l3
  refine seq_val (.bool false) 2 rfl (by kernel_rfl) (by kernel_rfl) ?_
  refine seq_nil ?_
  refine hK2 _ _ ?_
  try clear hK2 K2
  refine wp_seq_k fun K4 hK4 => ?_
  refine any_region 5 [⟨none, [(1, none)]⟩, ⟨none, [(3, some 0)]⟩, ⟨none, [(4, some 1)]⟩, ⟨none, [(1, none)]⟩, ⟨none, [(5, some 2), (6, some 3)]⟩] (by kernel_rfl) (by kernel_rfl) fun F hF => ?_
  refine any_val (.slice (some ⟨g3, 0, none⟩) 32 32) (by kernel_rfl) (by kernel_rfl) (fun W => by kernel_rfl) ?_
  have r1_1 := (row_ext hO e1)
  refine any_call (.agg (ints .u64 (wl (resN xs)))) 55 #[.slice (some ⟨g3, 0, none⟩) 32 32] (by kernel_rfl) (by kernel_rfl) (fun W => by kernel_rfl) (fun W hR => residueC _ _ _ xs hx (by omega) hb W tO (row_ext (row_ext r1_1 (ext_drew _)) hR) (.inr ⟨g3, 0, rfl, row_lt (row_ext (row_ext r3_1 (ext_drew _)) hR), cells_of (row_ext (row_ext r3_1 (ext_drew _)) hR) hx⟩)) ?_
  refine any_call (.agg (ints .u8 (bytesOf (resN xs)))) 57 #[.agg (ints .u64 (wl (resN xs)))] (by kernel_rfl) (by kernel_rfl) (fun W => by kernel_rfl) (fun W hR => sbytesC _ W tO (row_ext (row_ext r1_1 (ext_drew _)) hR)) ?_
  refine any_read (.agg (ints .u8 (xs))) (by kernel_rfl) (by kernel_rfl) (fun W hR => (run_load_row 23 _ g3 23 _ _ (row_ext (row_ext r3_1 (ext_drew _)) hR) rfl (by kernel_rfl) (by kernel_rfl) (isz (n := 32) (by kernel_rfl) ((ints_size _ _).trans hx)))) ?_
  refine any_val (.bool (decide (bytesOf (resN xs) = xs))) (by kernel_rfl) (by kernel_rfl) (fun W => (run_eql_agg 23 _ _ _ _ _ (.bool (decide (bytesOf (resN xs) = xs))) rfl (by kernel_rfl) (by kernel_rfl) (by kernel_rfl) (key_eql (bytesOf (resN xs)) (xs) (decide (bytesOf (resN xs) = xs)) (bytes_len _) hx rfl _))) ?_
  refine steps_nil (hF _ (by kernel_rfl) fun W2 e2 => ?_)
  simp only [ups, up, Kn.val, List.take_succ_cons, List.take_zero, List.drop_succ_cons, List.drop_zero, List.nil_append, List.cons_append]
  clear hF
  have x2 : Ext w W2 := Ext.tr x1 e2
  refine seq_val (.bool (decide (bytesOf (resN xs) = xs))) 2 rfl (by kernel_rfl) (by kernel_rfl) ?_
  refine seq_nil ?_
  refine hK4 _ _ ?_
  try clear hK4 K4
  refine wp_ret ?_
  exact (show bodyPost _ _ _ .ret _ _ from ret1 (.bool (decide (bytesOf (resN xs) = xs))) rfl (res_tmp (by kernel_rfl)) ⟨rfl, x2⟩)
set_option maxHeartbeats 8000000 in
theorem mulAddC (za zb zc : List Int) (ha : za.length = 32) (hab : AreBytes za) (hb : zb.length = 32) (hbb : AreBytes zb) (hc : zc.length = 32) (hcb : AreBytes zc) (w : World) (tO : TypeId) (hO : w.heap[3]? = some (.cells orderA tO)) : Calls Tryd.prog 23 #[.agg (ints .u8 za), .agg (ints .u8 zb), .agg (ints .u8 zc)] w (Ret w (.agg (ints .u8 (bytesOf ((mulB (resN zb) (bitsB za) + resN zc) % ordL))))) := by
  refine enterM 28 [(0, .agg (ints .u8 (za))), (1, .agg (ints .u8 (zb))), (2, .agg (ints .u8 (zc)))] Tryd.func23 rfl rfl (by kernel_rfl) rfl ?_
  refine wp_seq_k fun K2 hK2 => ?_
  refine region_lit ?_
  refine seq_alloc (ints .u8 (za)) 23 3 rfl (by kernel_rfl) (by kernel_rfl) fun g3 W1 l3 e1 r3_1 => ?_
  have x1 : Ext w W1 := Ext.tr (Rely.Ext.refl w) e1
  have b3 : w.heap.size ≤ g3 := Nat.le_trans (Rely.Ext.refl w).size l3
  refine seq_alloc (ints .u8 (zb)) 23 4 rfl (by kernel_rfl) (by kernel_rfl) fun g4 W2 l4 e2 r4_2 => ?_
  have x2 : Ext w W2 := Ext.tr x1 e2
  have b4 : w.heap.size ≤ g4 := Nat.le_trans x1.size l4
  refine seq_alloc (ints .u8 (zc)) 23 5 rfl (by kernel_rfl) (by kernel_rfl) fun g5 W3 l5 e3 r5_3 => ?_
  have x3 : Ext w W3 := Ext.tr x2 e3
  have b5 : w.heap.size ≤ g5 := Nat.le_trans x2.size l5
  refine seq_alloc (ints .u8 (List.replicate 32 0)) 23 6 rfl (by kernel_rfl) (by kernel_rfl) fun g6 W4 l6 e4 r6_4 => ?_
  have x4 : Ext w W4 := Ext.tr x3 e4
  have b6 : w.heap.size ≤ g6 := Nat.le_trans x3.size l6
  refine seq_nil ?_
  refine hK2 _ _ ?_
  try clear hK2 K2
  refine wp_seq_k fun K7 hK7 => ?_
  refine region_lit ?_
  refine seq_val (.slice (some ⟨g4, 0, none⟩) 32 32) 10 rfl (by kernel_rfl) (by kernel_rfl) ?_
  have r1_4 := (row_ext (row_ext (row_ext (row_ext hO e1) e2) e3) e4)
  have r4_4 := (row_ext (row_ext r4_2 e3) e4)
  refine seq_call (.agg (ints .u64 (wl (resN zb)))) 55 #[.slice (some ⟨g4, 0, none⟩) 32 32] 11 rfl (by kernel_rfl) (by kernel_rfl) (residueC _ _ _ zb hb (by omega) hbb _ tO r1_4 (.inr ⟨g4, 0, rfl, row_lt r4_4, cells_of r4_4 hb⟩)) fun W5 e5 => ?_
  have x5 : Ext w W5 := Ext.tr x4 e5
  refine seq_alloc (ints .u64 ([0, 0, 0, 0])) 82 7 rfl (by kernel_rfl) (by kernel_rfl) fun g8 W6 l8 e6 r8_6 => ?_
  have x6 : Ext w W6 := Ext.tr x5 e6
  have b8 : w.heap.size ≤ g8 := Nat.le_trans x5.size l8
  refine seq_store g8 _ (ints .u64 (wl (resN zb))) 82 r8_6 rfl (by kernel_rfl) (run_store_row 82 _ _ g8 82 _ _ r8_6 rfl (by kernel_rfl) (by kernel_rfl) (isz (n := 4) (by kernel_rfl) ((ints_size _ _).trans (wl_len _))) (eqsz (n := 4) (by kernel_rfl) ((ints_size _ _).trans (wl_len _))) (ints_one _ _)) fun W7 p7 r8_7 => ?_
  have x7 : Ext w W7 := Puts.ext p7 x6 b8
  refine seq_nil ?_
  refine hK7 _ _ ?_
  try clear hK7 K7
  refine wp_seq_k fun K9 hK9 => ?_
  refine region_lit ?_
  refine seq_alloc (ints .u64 ([0, 0, 0, 0])) 82 8 rfl (by kernel_rfl) (by kernel_rfl) fun g10 W8 l10 e8 r10_8 => ?_
  have x8 : Ext w W8 := Ext.tr x7 e8
  have b10 : w.heap.size ≤ g10 := Nat.le_trans x7.size l10
  refine seq_nil ?_
  refine hK9 _ _ ?_
  try clear hK9 K9
  refine wp_seq_k fun K11 hK11 => ?_
  refine wp_seq_k fun K12 hK12 => ?_
  refine region_lit ?_
  have r3_5 := (row_ext (row_ext (row_ext (row_ext r3_1 e2) e3) e4) e5)
  have r3_8 := (row_ext (Puts.row p7 (row_ext (row_ext (row_ext (row_ext (row_ext r3_1 e2) e3) e4) e5) e6) (ne_of_old r3_5 l8)) e8)
  refine seq_val (.agg (ints .u8 (za))) 12 rfl (by kernel_rfl) (run_load_row 23 _ g3 23 _ _ r3_8 rfl (by kernel_rfl) (by kernel_rfl) (isz (n := 32) (by kernel_rfl) ((ints_size _ _).trans ha))) ?_
  refine seq_callR (fun v W' => Ext W8 W' ∧ ∃ kb, W8.heap.size ≤ kb ∧ v = .func (.func 71) #[] #[.pointer (some ⟨kb, 0, none⟩)] ∧ W'.heap[kb]? = some (.cells (ints .u8 za) 23)) 54 #[.agg (ints .u8 za)] 13 rfl (by kernel_rfl) (by kernel_rfl) (bits_callK _ _) fun v W9 h => ?_
  obtain ⟨e9, kb, lk, rfl, r13_9⟩ := h
  have x9 : Ext w W9 := Ext.tr x8 e9
  refine seq_nil ?_
  refine hK12 _ _ ?_
  try clear hK12 K12
  refine wp_block ?_
  have r10_9 := (row_ext r10_8 e9)
  have r8_9 := (row_ext (row_ext r8_7 e8) e9)
  have r5_5 := (row_ext (row_ext r5_3 e4) e5)
  have r5_9 := (row_ext (row_ext (Puts.row p7 (row_ext (row_ext (row_ext r5_3 e4) e5) e6) (ne_of_old r5_5 l8)) e8) e9)
  have r6_5 := (row_ext r6_4 e5)
  have r6_9 := (row_ext (row_ext (Puts.row p7 (row_ext (row_ext r6_4 e5) e6) (ne_of_old r6_5 l8)) e8) e9)
  have n_ry0_ro : g8 ≠ g10 := (ne_of_old r8_7 l10)
  have r5_7 := (Puts.row p7 (row_ext r5_5 e6) (ne_of_old r5_5 l8))
  have n_ry1_ro : g5 ≠ g10 := (ne_of_old r5_7 l10)
  have r6_7 := (Puts.row p7 (row_ext r6_5 e6) (ne_of_old r6_5 l8))
  have n_ry2_ro : g6 ≠ g10 := (ne_of_old r6_7 l10)
  have n_rk_ro : kb ≠ g10 := (ne_of_new r10_8 lk)
  refine range_auto (gf := 71) (lb := #[.pointer (some ⟨kb, 0, none⟩)]) (enc := encB) (by kernel_rfl) (enters_of Tryd.func71 (by kernel_rfl) rfl) (bits_stops_b _ (by omega) kb za ha hab W9 r13_9) (fun h k => Same.trans' h k) (same_book (row_lt r13_9)) (Below.refl _ _)
      (fun pre W => (W.heap[g10]? = some (.cells (ints .u64 (wl (mulB (resN zb) pre))) 82) ∧ W.heap[g8]? = some (.cells (ints .u64 (wl (resN zb))) 82) ∧ W.heap[g5]? = some (.cells (ints .u8 (zc)) 23) ∧ W.heap[g6]? = some (.cells (ints .u8 (List.replicate 32 0)) 23) ∧ W.heap[kb]? = some (.cells (ints .u8 (za)) 23)) ∧ Ext w W)
      (fun _ _ _ => False) (OwnFrom.and (Own.from (fun s A B row hs hg hr => ⟨row_kept hs.1 hg hr, row_kept hs.2.1 hg hr, row_kept hs.2.2.1 hg hr, row_kept hs.2.2.2.1 hg hr, row_kept hs.2.2.2.2 hg hr⟩) _) (ownFrom_below (Nat.le_refl _) x9.size)) (fun _ _ _ _ _ h _ _ => h) ⟨⟨(row_eq r10_9 (show [0, 0, 0, 0] = wl (mulB (resN zb) []) from rfl)), r8_9, r5_9, r6_9, r13_9⟩, x9⟩ (fun x => [(9, encB x), (14, encB x)]) (fun l x W K hK => ?_) (fun l pre bt W hI hp => ?_) (fun D ys W lD hS hI rD => ?_) (fun _ _ _ _ _ _ h _ => h.elim)
  · refine region_litIn ?_
    refine in_val (encB x) 9 rfl (free_wide l 1 _) rfl (by kernel_rfl) (by kernel_rfl) ?_
    refine in_nil ?_
    exact hK
  · obtain ⟨⟨ro, ry0, ry1, ry2, rk⟩, xx⟩ := hI
    have hO2 := row_ext hO xx
    have hS0 := mulB_snoc (resN zb) pre bt
    have hL := mulB_isS (resN zb) pre
    generalize mulB (resN zb) pre = s at hS0 hL ro
    cases bt
    · have cs := fun W tO hO => plusC s s hL hL W tO hO
      have hn0 := isS_mod (s + s)
      obtain ⟨n0, hn⟩ : ∃ n0, n0 = (s + s) % ordL := ⟨_, rfl⟩
      rw [← hn] at cs hn0
      have hS : mulB (resN zb) (pre ++ [false]) = n0 := by
        rw [hS0]
        simp only [mulb, Bool.false_eq_true, if_false, hn]
      have ls := b10
      refine wpIn_block ?_
      refine wpIn_seq_k fun K107 hK107 => ?_
      refine region_litIn ?_
      refine in_val (.agg (ints .u64 (wl (s)))) 15 rfl (free_wide l 1 _) rfl (by kernel_rfl) (run_load_row 82 _ g10 82 _ _ ro rfl (by kernel_rfl) (by kernel_rfl) (isz (n := 4) (by kernel_rfl) ((ints_size _ _).trans (wl_len _)))) ?_
      refine in_val (.agg (ints .u64 (wl (s)))) 16 rfl (free_wide l 1 _) rfl (by kernel_rfl) (run_load_row 82 _ g10 82 _ _ ro rfl (by kernel_rfl) (by kernel_rfl) (isz (n := 4) (by kernel_rfl) ((ints_size _ _).trans (wl_len _)))) ?_
      refine in_call (.agg (ints .u64 (wl (n0)))) 56 #[.agg (ints .u64 (wl (s))), .agg (ints .u64 (wl (s)))] 17 rfl (free_wide l 1 _) rfl (by kernel_rfl) (by kernel_rfl) (cs _ tO hO2) fun W1 e1 => ?_
      have x1 : Ext w W1 := Ext.tr xx e1
      have r102_1 := (row_ext ro e1)
      refine in_store g10 _ (ints .u64 (wl (n0))) 82 r102_1 rfl (free_wide l 1 _) rfl (by kernel_rfl) (run_store_row 82 _ _ g10 82 _ _ r102_1 rfl (by kernel_rfl) (by kernel_rfl) (isz (n := 4) (by kernel_rfl) ((ints_size _ _).trans (wl_len _))) (eqsz (n := 4) ((ints_size _ _).trans (wl_len _)) ((ints_size _ _).trans (wl_len _))) (ints_one _ _)) fun W2 p2 r102_2 => ?_
      have x2 : Ext w W2 := Puts.ext p2 x1 ls
      refine in_nil ?_
      refine hK107 _ _ ?_
      try clear hK107 K107
      refine wpIn_seq_k fun K108 hK108 => ?_
      refine region_litIn ?_
      refine in_val (.int .i64 0) 18 rfl (free_wide l 1 _) rfl (by kernel_rfl) (by kernel_rfl) ?_
      refine in_val (.bool false) 19 rfl (free_wide l 1 _) rfl (by kernel_rfl) (by kernel_rfl) ?_
      refine in_nil ?_
      refine hK108 _ _ ?_
      try clear hK108 K108
      refine in_cond_false (by kernel_rfl) ?_
      refine wpIn_skip ?_
      have r103_2 := (Puts.row p2 (row_ext ry0 e1) n_ry0_ro)
      have r104_2 := (Puts.row p2 (row_ext ry1 e1) n_ry1_ro)
      have r105_2 := (Puts.row p2 (row_ext ry2 e1) n_ry2_ro)
      have r106_2 := (Puts.row p2 (row_ext rk e1) n_rk_ro)
      exact ⟨((keeps_ext e1).trans (keeps_puts p2 r102_1)), r106_2.trans rk.symm, ⟨by rw [hS]; exact r102_2, r103_2, r104_2, r105_2, r106_2⟩, x2⟩
    · have cs := fun W tO hO => plusC s s hL hL W tO hO
      have hn0 := isS_mod (s + s)
      obtain ⟨n0, hn⟩ : ∃ n0, n0 = (s + s) % ordL := ⟨_, rfl⟩
      rw [← hn] at cs hn0
      have ct := fun W tO hO => plusC n0 (resN zb) hn0 (resN_isS zb) W tO hO
      obtain ⟨m0, hm⟩ : ∃ m0, m0 = (n0 + resN zb) % ordL := ⟨_, rfl⟩
      rw [← hm] at ct
      have hS : mulB (resN zb) (pre ++ [true]) = m0 := by
        rw [hS0]
        simp only [mulb, if_true, hm, hn]
      have ls := b10
      refine wpIn_block ?_
      refine wpIn_seq_k fun K107 hK107 => ?_
      refine region_litIn ?_
      refine in_val (.agg (ints .u64 (wl (s)))) 15 rfl (free_wide l 1 _) rfl (by kernel_rfl) (run_load_row 82 _ g10 82 _ _ ro rfl (by kernel_rfl) (by kernel_rfl) (isz (n := 4) (by kernel_rfl) ((ints_size _ _).trans (wl_len _)))) ?_
      refine in_val (.agg (ints .u64 (wl (s)))) 16 rfl (free_wide l 1 _) rfl (by kernel_rfl) (run_load_row 82 _ g10 82 _ _ ro rfl (by kernel_rfl) (by kernel_rfl) (isz (n := 4) (by kernel_rfl) ((ints_size _ _).trans (wl_len _)))) ?_
      refine in_call (.agg (ints .u64 (wl (n0)))) 56 #[.agg (ints .u64 (wl (s))), .agg (ints .u64 (wl (s)))] 17 rfl (free_wide l 1 _) rfl (by kernel_rfl) (by kernel_rfl) (cs _ tO hO2) fun W1 e1 => ?_
      have x1 : Ext w W1 := Ext.tr xx e1
      have r102_1 := (row_ext ro e1)
      refine in_store g10 _ (ints .u64 (wl (n0))) 82 r102_1 rfl (free_wide l 1 _) rfl (by kernel_rfl) (run_store_row 82 _ _ g10 82 _ _ r102_1 rfl (by kernel_rfl) (by kernel_rfl) (isz (n := 4) (by kernel_rfl) ((ints_size _ _).trans (wl_len _))) (eqsz (n := 4) ((ints_size _ _).trans (wl_len _)) ((ints_size _ _).trans (wl_len _))) (ints_one _ _)) fun W2 p2 r102_2 => ?_
      have x2 : Ext w W2 := Puts.ext p2 x1 ls
      refine in_nil ?_
      refine hK107 _ _ ?_
      try clear hK107 K107
      refine wpIn_seq_k fun K108 hK108 => ?_
      refine region_litIn ?_
      refine in_val (.int .i64 1) 18 rfl (free_wide l 1 _) rfl (by kernel_rfl) (by kernel_rfl) ?_
      refine in_val (.bool true) 19 rfl (free_wide l 1 _) rfl (by kernel_rfl) (by kernel_rfl) ?_
      refine in_nil ?_
      refine hK108 _ _ ?_
      try clear hK108 K108
      refine in_cond_true (by kernel_rfl) ?_
      refine region_litIn ?_
      refine in_val (.agg (ints .u64 (wl (n0)))) 20 rfl (free_wide l 1 _) rfl (by kernel_rfl) (run_load_row 82 _ g10 82 _ _ r102_2 rfl (by kernel_rfl) (by kernel_rfl) (isz (n := 4) (by kernel_rfl) ((ints_size _ _).trans (wl_len _)))) ?_
      have r103_2 := (Puts.row p2 (row_ext ry0 e1) n_ry0_ro)
      refine in_val (.agg (ints .u64 (wl (resN zb)))) 21 rfl (free_wide l 1 _) rfl (by kernel_rfl) (run_load_row 82 _ g8 82 _ _ r103_2 rfl (by kernel_rfl) (by kernel_rfl) (isz (n := 4) (by kernel_rfl) ((ints_size _ _).trans (wl_len _)))) ?_
      have r101_2 := (Puts.row p2 (row_ext hO2 e1) (Nat.ne_of_lt (Nat.lt_of_lt_of_le (row_lt hO) ls)))
      refine in_call (.agg (ints .u64 (wl (m0)))) 56 #[.agg (ints .u64 (wl (n0))), .agg (ints .u64 (wl (resN zb)))] 22 rfl (free_wide l 1 _) rfl (by kernel_rfl) (by kernel_rfl) (ct _ tO r101_2) fun W3 e3 => ?_
      have x3 : Ext w W3 := Ext.tr x2 e3
      have r102_3 := (row_ext r102_2 e3)
      refine in_store g10 _ (ints .u64 (wl (m0))) 82 r102_3 rfl (free_wide l 1 _) rfl (by kernel_rfl) (run_store_row 82 _ _ g10 82 _ _ r102_3 rfl (by kernel_rfl) (by kernel_rfl) (isz (n := 4) (by kernel_rfl) ((ints_size _ _).trans (wl_len _))) (eqsz (n := 4) ((ints_size _ _).trans (wl_len _)) ((ints_size _ _).trans (wl_len _))) (ints_one _ _)) fun W4 p4 r102_4 => ?_
      have x4 : Ext w W4 := Puts.ext p4 x3 ls
      refine in_nil ?_
      have r103_4 := (Puts.row p4 (row_ext r103_2 e3) n_ry0_ro)
      have r104_4 := (Puts.row p4 (row_ext (Puts.row p2 (row_ext ry1 e1) n_ry1_ro) e3) n_ry1_ro)
      have r105_4 := (Puts.row p4 (row_ext (Puts.row p2 (row_ext ry2 e1) n_ry2_ro) e3) n_ry2_ro)
      have r106_4 := (Puts.row p4 (row_ext (Puts.row p2 (row_ext rk e1) n_rk_ro) e3) n_rk_ro)
      exact ⟨((((keeps_ext e1).trans (keeps_puts p2 r102_1)).trans (keeps_ext e3)).trans (keeps_puts p4 r102_3)), r106_4.trans rk.symm, ⟨by rw [hS]; exact r102_4, r103_4, r104_4, r105_4, r106_4⟩, x4⟩
  obtain ⟨⟨ro, ry0, ry1, ry2, rk⟩, xx⟩ := hI
  subst hS
  have bD : w.heap.size ≤ D := Nat.le_trans x9.size lD
  refine hK11 _ _ ?_
  try clear hK11 K11
  refine wp_seq_k fun K15 hK15 => ?_
  refine any_region 5 [⟨none, [(8, none)]⟩, ⟨none, [(5, none)]⟩, ⟨none, [(24, some 1)]⟩, ⟨none, [(23, some 0), (25, some 2)]⟩, ⟨none, [(26, some 3)]⟩] (by kernel_rfl) (by kernel_rfl) fun F hF => ?_
  refine any_read (.agg (ints .u64 (wl (mulB (resN zb) (bitsB za))))) (by kernel_rfl) (by kernel_rfl) (fun W hR => (run_load_row 82 _ g10 82 _ _ (row_ext (row_ext ro (ext_drew _)) hR) rfl (by kernel_rfl) (by kernel_rfl) (isz (n := 4) (by kernel_rfl) ((ints_size _ _).trans (wl_len _))))) ?_
  refine any_val (.slice (some ⟨g5, 0, none⟩) 32 32) (by kernel_rfl) (by kernel_rfl) (fun W => by kernel_rfl) ?_
  refine any_call (.agg (ints .u64 (wl (resN zc)))) 55 #[.slice (some ⟨g5, 0, none⟩) 32 32] (by kernel_rfl) (by kernel_rfl) (fun W => by kernel_rfl) (fun W hR => residueC _ _ _ zc hc (by omega) hcb W tO (row_ext (row_ext (row_ext hO xx) (ext_drew _)) hR) (.inr ⟨g5, 0, rfl, row_lt (row_ext (row_ext ry1 (ext_drew _)) hR), cells_of (row_ext (row_ext ry1 (ext_drew _)) hR) hc⟩)) ?_
  refine any_call (.agg (ints .u64 (wl ((mulB (resN zb) (bitsB za) + resN zc) % ordL)))) 56 #[.agg (ints .u64 (wl (mulB (resN zb) (bitsB za)))), .agg (ints .u64 (wl (resN zc)))] (by kernel_rfl) (by kernel_rfl) (fun W => by kernel_rfl) (fun W hR => plusC _ _ (mulB_isS _ _) (resN_isS _) W tO (row_ext (row_ext (row_ext hO xx) (ext_drew _)) hR)) ?_
  refine any_call (.agg (ints .u8 (bytesOf ((mulB (resN zb) (bitsB za) + resN zc) % ordL)))) 57 #[.agg (ints .u64 (wl ((mulB (resN zb) (bitsB za) + resN zc) % ordL)))] (by kernel_rfl) (by kernel_rfl) (fun W => by kernel_rfl) (fun W hR => sbytesC _ W tO (row_ext (row_ext (row_ext hO xx) (ext_drew _)) hR)) ?_
  refine steps_nil (hF _ (by kernel_rfl) fun W11 e11 => ?_)
  simp only [ups, up, Kn.val, List.take_succ_cons, List.take_zero, List.drop_succ_cons, List.drop_zero, List.nil_append, List.cons_append]
  clear hF
  have x11 : Ext w W11 := Ext.tr xx e11
  have r6_11 := (row_ext ry2 e11)
  refine seq_store g6 _ (ints .u8 (bytesOf ((mulB (resN zb) (bitsB za) + resN zc) % ordL))) 23 r6_11 rfl (by kernel_rfl) (run_store_row 23 _ _ g6 23 _ _ r6_11 rfl (by kernel_rfl) (by kernel_rfl) (isz (n := 32) (by kernel_rfl) ((ints_size _ _).trans (bytes_len _))) (eqsz (n := 32) ((ints_size _ _).trans zlen) ((ints_size _ _).trans (bytes_len _))) (ints_one _ _)) fun W12 p12 r6_12 => ?_
  have x12 : Ext w W12 := Puts.ext p12 x11 b6
  refine seq_nil ?_
  refine hK15 _ _ ?_
  try clear hK15 K15
  refine wp_ret ?_
  have r14_12 := (Puts.row p12 (row_ext rD e11) (ne_mark ry2 rD))
  exact (show bodyPostM _ _ _ _ _ .ret _ _ from retM1 (.agg (ints .u8 (bytesOf ((mulB (resN zb) (bitsB za) + resN zc) % ordL)))) rfl r14_12 (res_cell g6 23 _ (putD_row r6_12 r14_12 _) (by kernel_rfl) (by kernel_rfl) (isz (n := 32) (by kernel_rfl) ((ints_size _ _).trans (bytes_len _)))) ⟨rfl, putD_ext x12 bD r14_12 _⟩)

end Go.Proofs.YtaojnmjmmfdfjaaDoor.Field
