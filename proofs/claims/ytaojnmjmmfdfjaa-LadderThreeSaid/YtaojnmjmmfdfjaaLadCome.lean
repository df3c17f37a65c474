/- The document's Come. -/
import Derived.Test.YtaojnmjmmfdfjaaAutoT
import Derived.Test.YtaojnmjmmfdfjaaClamp
import Derived.Test.YtaojnmjmmfdfjaaLadMath2
import Derived.Test.YtaojnmjmmfdfjaaAutoI
namespace Go.Proofs.Ytaojnmjmmfdfjaa.Field
open Go Go.RowKit
open Go.Proofs.Ytaojnmjmmfdfjaa.Rely Go.Proofs.Ytaojnmjmmfdfjaa.Auto Go.Proofs.Ytaojnmjmmfdfjaa.Ladder
set_option linter.unusedVariables false

set_option maxHeartbeats 8000000 in
theorem come (xs : List Int) (hx : xs.length = 32) (hb : AreBytes xs) (u : Int) (hu : isN u) (w : World) :
    Calls Try.prog 60 #[.agg (ints .u8 xs), lnum u] w (Ret w (.agg (ints .u8 (bytesOf (outN u (crungs u (clamp xs) 0)))))) := by
  have hcs := hcs_ xs hx
  have hxs : (ints .u8 xs).size = 32 := by rw [ints_size, hx]
  have hcl : (clamp xs).length = 32 := by simp [clamp, hx]
  have hcb := clamp_bytes xs hx hb
  have lsk : ∀ W, Calls Try.prog 23 #[.int .i64 121665] W (Ret W (lnum 121665)) := fun W => by
    have := lSmall_pos 121665 (by decide) W
    rw [show (121665 : Int) % p = 121665 by decide] at this
    exact this
  refine enter 112 [(0, .agg (ints .u8 xs)), (1, .agg (ints .i64 (lims (u))))] Try.func60 rfl rfl (by kernel_rfl) rfl ?_
  refine wp_seq_k fun K1 hK1 => ?_
  refine region_lit ?_
  refine seq_alloc (ints .u8 xs) 23 2 rfl (by kernel_rfl) (by kernel_rfl) fun g2 W1 l2 e1 r2_1 => ?_
  have x1 : Ext w W1 := Ext.tr (Rely.Ext.refl w) e1
  have b2 : w.heap.size ≤ g2 := Nat.le_trans (Rely.Ext.refl w).size l2
  refine seq_alloc (ints .i64 (lims (u))) 32 3 rfl (by kernel_rfl) (by kernel_rfl) fun g3 W2 l3 e2 r3_2 => ?_
  have x2 : Ext w W2 := Ext.tr x1 e2
  have b3 : w.heap.size ≤ g3 := Nat.le_trans x1.size l3
  refine seq_alloc ((Array.replicate 32 (.int .u8 0))) 23 4 rfl (by kernel_rfl) (by kernel_rfl) fun g4 W3 l4 e3 r4_3 => ?_
  have x3 : Ext w W3 := Ext.tr x2 e3
  have b4 : w.heap.size ≤ g4 := Nat.le_trans x2.size l4
  refine seq_nil ?_
  refine hK1 _ _ ?_
  try clear hK1 K1
  refine wp_seq_k fun K5 hK5 => ?_
  refine region_lit ?_
  have r2_3 := (row_ext (row_ext r2_1 e2) e3)
  refine seq_val (.agg (ints .u8 xs)) 24 rfl (by kernel_rfl) (run_load_row 23 _ g2 23 _ _ r2_3 rfl (by kernel_rfl) (by kernel_rfl) (isz (n := 32) (by kernel_rfl) hxs)) ?_
  refine seq_call (.agg (ints .u8 (clamp xs))) 40 #[.agg (ints .u8 xs)] 25 rfl (by kernel_rfl) (by kernel_rfl) ((refClampC xs hx hb) _) fun W4 e4 => ?_
  have x4 : Ext w W4 := Ext.tr x3 e4
  refine seq_alloc ((Array.replicate 32 (.int .u8 0))) 23 5 rfl (by kernel_rfl) (by kernel_rfl) fun g6 W5 l6 e5 r6_5 => ?_
  have x5 : Ext w W5 := Ext.tr x4 e5
  have b6 : w.heap.size ≤ g6 := Nat.le_trans x4.size l6
  refine seq_store g6 _ (ints .u8 (clamp xs)) 23 r6_5 rfl (by kernel_rfl) (run_store_row 23 _ _ g6 23 _ _ r6_5 rfl (by kernel_rfl) (by kernel_rfl) (isz (n := 32) (by kernel_rfl) hcs) (eqsz (n := 32) (by kernel_rfl) hcs) (ints_one _ _)) fun W6 p6 r6_6 => ?_
  have x6 : Ext w W6 := Puts.ext p6 x5 b6
  refine seq_nil ?_
  refine hK5 _ _ ?_
  try clear hK5 K5
  refine wp_seq_k fun K7 hK7 => ?_
  refine region_lit ?_
  refine seq_val (.agg (ints .i64 (lims (1)))) 26 rfl (by kernel_rfl) (by kernel_rfl) ?_
  refine seq_alloc (ints .i64 (lims (0))) 32 6 rfl (by kernel_rfl) (by kernel_rfl) fun g8 W7 l8 e7 r8_7 => ?_
  have x7 : Ext w W7 := Ext.tr x6 e7
  have b8 : w.heap.size ≤ g8 := Nat.le_trans x6.size l8
  refine seq_store g8 _ (ints .i64 (lims (1))) 32 r8_7 rfl (by kernel_rfl) (run_store_row 32 _ _ g8 32 _ _ r8_7 rfl (by kernel_rfl) (by kernel_rfl) (isz (n := 16) (by kernel_rfl) (by kernel_rfl)) (eqsz (n := 16) (by kernel_rfl) (by kernel_rfl)) (by kernel_rfl)) fun W8 p8 r8_8 => ?_
  have x8 : Ext w W8 := Puts.ext p8 x7 b8
  refine seq_nil ?_
  refine hK7 _ _ ?_
  try clear hK7 K7
  refine wp_seq_k fun K9 hK9 => ?_
  refine region_lit ?_
  refine seq_val (.agg (ints .i64 (lims (0)))) 27 rfl (by kernel_rfl) (by kernel_rfl) ?_
  refine seq_alloc (ints .i64 (lims (0))) 32 7 rfl (by kernel_rfl) (by kernel_rfl) fun g10 W9 l10 e9 r10_9 => ?_
  have x9 : Ext w W9 := Ext.tr x8 e9
  have b10 : w.heap.size ≤ g10 := Nat.le_trans x8.size l10
  refine seq_store g10 _ (ints .i64 (lims (0))) 32 r10_9 rfl (by kernel_rfl) (run_store_row 32 _ _ g10 32 _ _ r10_9 rfl (by kernel_rfl) (by kernel_rfl) (isz (n := 16) (by kernel_rfl) (by kernel_rfl)) (eqsz (n := 16) (by kernel_rfl) (by kernel_rfl)) (by kernel_rfl)) fun W10 p10 r10_10 => ?_
  have x10 : Ext w W10 := Puts.ext p10 x9 b10
  refine seq_nil ?_
  refine hK9 _ _ ?_
  try clear hK9 K9
  refine wp_seq_k fun K11 hK11 => ?_
  refine region_lit ?_
  have r3_4 := (row_ext (row_ext r3_2 e3) e4)
  have r3_6 := (Puts.row p6 (row_ext r3_4 e5) (ne_of_old r3_4 l6))
  have r3_8 := (Puts.row p8 (row_ext r3_6 e7) (ne_of_old r3_6 l8))
  have r3_10 := (Puts.row p10 (row_ext (Puts.row p8 (row_ext (Puts.row p6 (row_ext (row_ext (row_ext r3_2 e3) e4) e5) (ne_of_old r3_4 l6)) e7) (ne_of_old r3_6 l8)) e9) (ne_of_old r3_8 l10))
  refine seq_val (.agg (ints .i64 (lims (u)))) 28 rfl (by kernel_rfl) (run_load_row 32 _ g3 32 _ _ r3_10 rfl (by kernel_rfl) (by kernel_rfl) (isz (n := 16) (by kernel_rfl) (by kernel_rfl))) ?_
  refine seq_alloc (ints .i64 (lims (0))) 32 8 rfl (by kernel_rfl) (by kernel_rfl) fun g12 W11 l12 e11 r12_11 => ?_
  have x11 : Ext w W11 := Ext.tr x10 e11
  have b12 : w.heap.size ≤ g12 := Nat.le_trans x10.size l12
  refine seq_store g12 _ (ints .i64 (lims (u))) 32 r12_11 rfl (by kernel_rfl) (run_store_row 32 _ _ g12 32 _ _ r12_11 rfl (by kernel_rfl) (by kernel_rfl) (isz (n := 16) (by kernel_rfl) (by kernel_rfl)) (eqsz (n := 16) (by kernel_rfl) (by kernel_rfl)) (by kernel_rfl)) fun W12 p12 r12_12 => ?_
  have x12 : Ext w W12 := Puts.ext p12 x11 b12
  refine seq_nil ?_
  refine hK11 _ _ ?_
  try clear hK11 K11
  refine wp_seq_k fun K13 hK13 => ?_
  refine region_lit ?_
  refine seq_val (.agg (ints .i64 (lims (1)))) 29 rfl (by kernel_rfl) (by kernel_rfl) ?_
  refine seq_alloc (ints .i64 (lims (0))) 32 9 rfl (by kernel_rfl) (by kernel_rfl) fun g14 W13 l14 e13 r14_13 => ?_
  have x13 : Ext w W13 := Ext.tr x12 e13
  have b14 : w.heap.size ≤ g14 := Nat.le_trans x12.size l14
  refine seq_store g14 _ (ints .i64 (lims (1))) 32 r14_13 rfl (by kernel_rfl) (run_store_row 32 _ _ g14 32 _ _ r14_13 rfl (by kernel_rfl) (by kernel_rfl) (isz (n := 16) (by kernel_rfl) (by kernel_rfl)) (eqsz (n := 16) (by kernel_rfl) (by kernel_rfl)) (by kernel_rfl)) fun W14 p14 r14_14 => ?_
  have x14 : Ext w W14 := Puts.ext p14 x13 b14
  refine seq_nil ?_
  refine hK13 _ _ ?_
  try clear hK13 K13
  refine wp_seq_k fun K15 hK15 => ?_
  refine region_lit ?_
  refine seq_call (.agg (ints .i64 (lims (121665)))) 23 #[.int .i64 121665] 30 rfl (by kernel_rfl) (by kernel_rfl) (lsk _) fun W15 e15 => ?_
  have x15 : Ext w W15 := Ext.tr x14 e15
  refine seq_alloc (ints .i64 (lims (0))) 32 10 rfl (by kernel_rfl) (by kernel_rfl) fun g16 W16 l16 e16 r16_16 => ?_
  have x16 : Ext w W16 := Ext.tr x15 e16
  have b16 : w.heap.size ≤ g16 := Nat.le_trans x15.size l16
  refine seq_store g16 _ (ints .i64 (lims (121665))) 32 r16_16 rfl (by kernel_rfl) (run_store_row 32 _ _ g16 32 _ _ r16_16 rfl (by kernel_rfl) (by kernel_rfl) (isz (n := 16) (by kernel_rfl) (by kernel_rfl)) (eqsz (n := 16) (by kernel_rfl) (by kernel_rfl)) (by kernel_rfl)) fun W17 p17 r16_17 => ?_
  have x17 : Ext w W17 := Puts.ext p17 x16 b16
  refine seq_nil ?_
  refine hK15 _ _ ?_
  try clear hK15 K15
  refine wp_seq_k fun K17 hK17 => ?_
  refine wp_seq_k fun K18 hK18 => ?_
  refine region_lit ?_
  refine seq_val (.int .i64 254) 11 rfl (by kernel_rfl) (by kernel_rfl) ?_
  refine seq_nil ?_
  refine hK18 _ _ ?_
  try clear hK18 K18
  refine wp_block ?_
  obtain ⟨es, hes⟩ : ∃ es, es = clamp xs := ⟨_, rfl⟩
  rw [← hes] at hcs hcl hcb
  have r2_4 := (row_ext r2_3 e4)
  have r2_6 := (Puts.row p6 (row_ext r2_4 e5) (ne_of_old r2_4 l6))
  have r2_8 := (Puts.row p8 (row_ext r2_6 e7) (ne_of_old r2_6 l8))
  have r2_10 := (Puts.row p10 (row_ext r2_8 e9) (ne_of_old r2_8 l10))
  have r2_12 := (Puts.row p12 (row_ext r2_10 e11) (ne_of_old r2_10 l12))
  have r2_15 := (row_ext (Puts.row p14 (row_ext r2_12 e13) (ne_of_old r2_12 l14)) e15)
  have r2_17 := (Puts.row p17 (row_ext (row_ext (Puts.row p14 (row_ext (Puts.row p12 (row_ext (Puts.row p10 (row_ext (Puts.row p8 (row_ext (Puts.row p6 (row_ext (row_ext r2_3 e4) e5) (ne_of_old r2_4 l6)) e7) (ne_of_old r2_6 l8)) e9) (ne_of_old r2_8 l10)) e11) (ne_of_old r2_10 l12)) e13) (ne_of_old r2_12 l14)) e15) e16) (ne_of_old r2_15 l16))
  have r3_12 := (Puts.row p12 (row_ext r3_10 e11) (ne_of_old r3_10 l12))
  have r3_15 := (row_ext (Puts.row p14 (row_ext r3_12 e13) (ne_of_old r3_12 l14)) e15)
  have r3_17 := (Puts.row p17 (row_ext (row_ext (Puts.row p14 (row_ext (Puts.row p12 (row_ext r3_10 e11) (ne_of_old r3_10 l12)) e13) (ne_of_old r3_12 l14)) e15) e16) (ne_of_old r3_15 l16))
  have r4_4 := (row_ext r4_3 e4)
  have r4_6 := (Puts.row p6 (row_ext r4_4 e5) (ne_of_old r4_4 l6))
  have r4_8 := (Puts.row p8 (row_ext r4_6 e7) (ne_of_old r4_6 l8))
  have r4_10 := (Puts.row p10 (row_ext r4_8 e9) (ne_of_old r4_8 l10))
  have r4_12 := (Puts.row p12 (row_ext r4_10 e11) (ne_of_old r4_10 l12))
  have r4_15 := (row_ext (Puts.row p14 (row_ext r4_12 e13) (ne_of_old r4_12 l14)) e15)
  have r4_17 := (Puts.row p17 (row_ext (row_ext (Puts.row p14 (row_ext (Puts.row p12 (row_ext (Puts.row p10 (row_ext (Puts.row p8 (row_ext (Puts.row p6 (row_ext (row_ext r4_3 e4) e5) (ne_of_old r4_4 l6)) e7) (ne_of_old r4_6 l8)) e9) (ne_of_old r4_8 l10)) e11) (ne_of_old r4_10 l12)) e13) (ne_of_old r4_12 l14)) e15) e16) (ne_of_old r4_15 l16))
  have r6_8 := (Puts.row p8 (row_ext r6_6 e7) (ne_of_old r6_6 l8))
  have r6_10 := (Puts.row p10 (row_ext r6_8 e9) (ne_of_old r6_8 l10))
  have r6_12 := (Puts.row p12 (row_ext r6_10 e11) (ne_of_old r6_10 l12))
  have r6_15 := (row_ext (Puts.row p14 (row_ext r6_12 e13) (ne_of_old r6_12 l14)) e15)
  have r6_17 := (Puts.row p17 (row_ext (row_ext (Puts.row p14 (row_ext (Puts.row p12 (row_ext (Puts.row p10 (row_ext (Puts.row p8 (row_ext r6_6 e7) (ne_of_old r6_6 l8)) e9) (ne_of_old r6_8 l10)) e11) (ne_of_old r6_10 l12)) e13) (ne_of_old r6_12 l14)) e15) e16) (ne_of_old r6_15 l16))
  have r8_10 := (Puts.row p10 (row_ext r8_8 e9) (ne_of_old r8_8 l10))
  have r8_12 := (Puts.row p12 (row_ext r8_10 e11) (ne_of_old r8_10 l12))
  have r8_15 := (row_ext (Puts.row p14 (row_ext r8_12 e13) (ne_of_old r8_12 l14)) e15)
  have r8_17 := (Puts.row p17 (row_ext (row_ext (Puts.row p14 (row_ext (Puts.row p12 (row_ext (Puts.row p10 (row_ext r8_8 e9) (ne_of_old r8_8 l10)) e11) (ne_of_old r8_10 l12)) e13) (ne_of_old r8_12 l14)) e15) e16) (ne_of_old r8_15 l16))
  have r10_12 := (Puts.row p12 (row_ext r10_10 e11) (ne_of_old r10_10 l12))
  have r10_15 := (row_ext (Puts.row p14 (row_ext r10_12 e13) (ne_of_old r10_12 l14)) e15)
  have r10_17 := (Puts.row p17 (row_ext (row_ext (Puts.row p14 (row_ext (Puts.row p12 (row_ext r10_10 e11) (ne_of_old r10_10 l12)) e13) (ne_of_old r10_12 l14)) e15) e16) (ne_of_old r10_15 l16))
  have r12_15 := (row_ext (Puts.row p14 (row_ext r12_12 e13) (ne_of_old r12_12 l14)) e15)
  have r12_17 := (Puts.row p17 (row_ext (row_ext (Puts.row p14 (row_ext r12_12 e13) (ne_of_old r12_12 l14)) e15) e16) (ne_of_old r12_15 l16))
  have r14_15 := (row_ext r14_14 e15)
  have r14_17 := (Puts.row p17 (row_ext (row_ext r14_14 e15) e16) (ne_of_old r14_15 l16))
  rw [← hes] at r6_17
  have n_2_6 : g2 ≠ g8 := (ne_of_old r2_6 l8)
  have n_2_7 : g2 ≠ g10 := (ne_of_old r2_8 l10)
  have n_2_8 : g2 ≠ g12 := (ne_of_old r2_10 l12)
  have n_2_9 : g2 ≠ g14 := (ne_of_old r2_12 l14)
  have n_3_6 : g3 ≠ g8 := (ne_of_old r3_6 l8)
  have n_3_7 : g3 ≠ g10 := (ne_of_old r3_8 l10)
  have n_3_8 : g3 ≠ g12 := (ne_of_old r3_10 l12)
  have n_3_9 : g3 ≠ g14 := (ne_of_old r3_12 l14)
  have n_4_6 : g4 ≠ g8 := (ne_of_old r4_6 l8)
  have n_4_7 : g4 ≠ g10 := (ne_of_old r4_8 l10)
  have n_4_8 : g4 ≠ g12 := (ne_of_old r4_10 l12)
  have n_4_9 : g4 ≠ g14 := (ne_of_old r4_12 l14)
  have n_5_6 : g6 ≠ g8 := (ne_of_old r6_6 l8)
  have n_5_7 : g6 ≠ g10 := (ne_of_old r6_8 l10)
  have n_5_8 : g6 ≠ g12 := (ne_of_old r6_10 l12)
  have n_5_9 : g6 ≠ g14 := (ne_of_old r6_12 l14)
  have n_6_7 : g8 ≠ g10 := (ne_of_old r8_8 l10)
  have n_6_8 : g8 ≠ g12 := (ne_of_old r8_10 l12)
  have n_6_9 : g8 ≠ g14 := (ne_of_old r8_12 l14)
  have n_7_6 : g10 ≠ g8 := (ne_of_new r8_8 l10)
  have n_7_8 : g10 ≠ g12 := (ne_of_old r10_10 l12)
  have n_7_9 : g10 ≠ g14 := (ne_of_old r10_12 l14)
  have n_8_6 : g12 ≠ g8 := (ne_of_new r8_10 l12)
  have n_8_7 : g12 ≠ g10 := (ne_of_new r10_10 l12)
  have n_8_9 : g12 ≠ g14 := (ne_of_old r12_12 l14)
  have n_9_6 : g14 ≠ g8 := (ne_of_new r8_12 l14)
  have n_9_7 : g14 ≠ g10 := (ne_of_new r10_12 l14)
  have n_9_8 : g14 ≠ g12 := (ne_of_new r12_12 l14)
  have n_10_6 : g16 ≠ g8 := (ne_of_new r8_15 l16)
  have n_10_7 : g16 ≠ g10 := (ne_of_new r10_15 l16)
  have n_10_8 : g16 ≠ g12 := (ne_of_new r12_15 l16)
  have n_10_9 : g16 ≠ g14 := (ne_of_new r14_15 l16)
  refine loop_auto (fun (k : Nat) => [(11, .int .i64 ((k : Int) - 1)), (2, .pointer (some ⟨g2, 0, none⟩)), (3, .pointer (some ⟨g3, 0, none⟩)), (4, .pointer (some ⟨g4, 0, none⟩)), (5, .pointer (some ⟨g6, 0, none⟩)), (6, .pointer (some ⟨g8, 0, none⟩)), (7, .pointer (some ⟨g10, 0, none⟩)), (8, .pointer (some ⟨g12, 0, none⟩)), (9, .pointer (some ⟨g14, 0, none⟩)), (10, .pointer (some ⟨g16, 0, none⟩))]) (fun (k : Nat) W => k ≤ 255 ∧ W.heap[g2]? = some (.cells (ints .u8 xs) 23) ∧ W.heap[g3]? = some (.cells (ints .i64 (lims u)) 32) ∧ W.heap[g4]? = some (.cells ((Array.replicate 32 (.int .u8 0))) 23) ∧ W.heap[g6]? = some (.cells (ints .u8 es) 23) ∧ W.heap[g8]? = some (.cells (ints .i64 (lims (crungs u es k).1)) 32) ∧ W.heap[g10]? = some (.cells (ints .i64 (lims (crungs u es k).2.1)) 32) ∧ W.heap[g12]? = some (.cells (ints .i64 (lims (crungs u es k).2.2.1)) 32) ∧ W.heap[g14]? = some (.cells (ints .i64 (lims (crungs u es k).2.2.2)) 32) ∧ W.heap[g16]? = some (.cells (ints .i64 (lims 121665)) 32) ∧ Ext w W) (fun k => k) 255 ⟨rfl, rfl, rfl, rfl, rfl, rfl, rfl, rfl, rfl, rfl, trivial⟩ ⟨by omega, r2_17, r3_17, r4_17, r6_17, r8_17, r10_17, r12_17, r14_17, r16_17, x17⟩ fun k X W hI => ?_
  obtain ⟨hk, q2, q3, q4, q5, q6, q7, q8, q9, q10, xx⟩ := hI
  rcases k with _ | j
  · skip
    have hL := crungs_isL u hu es 0
    refine wp_seq_k fun K19 hK19 => ?_
    refine wp_seq_k fun K20 hK20 => ?_
    refine region_lit ?_
    refine seq_val (.int .i64 (-1)) 31 rfl (by kernel_rfl) (by kernel_rfl) ?_
    refine seq_val (.bool false) 32 rfl (by kernel_rfl) (by kernel_rfl) ?_
    refine seq_nil ?_
    refine hK20 _ _ ?_
    try clear hK20 K20
    refine cond_false (by kernel_rfl) ?_
    refine wp_exit ?_
    refine hK17 _ _ ?_
    try clear hK17 K17
    refine wp_seq_k fun K21 hK21 => ?_
    refine any_region 5 [⟨none, [(6, none)]⟩, ⟨none, [(7, none)]⟩, ⟨none, [(108, some 1)]⟩, ⟨none, [(107, some 0), (109, some 2)]⟩, ⟨none, [(110, some 3)]⟩] (by kernel_rfl) (by kernel_rfl) fun F hF => ?_
    refine any_read (.agg (ints .i64 (lims ((crungs u es 0).1)))) (by kernel_rfl) (by kernel_rfl) (fun W hR => (run_load_row 32 _ g8 32 _ _ (row_ext (row_ext q6 (ext_drew _)) hR) rfl (by kernel_rfl) (by kernel_rfl) (isz (n := 16) (by kernel_rfl) (by kernel_rfl)))) ?_
    refine any_read (.agg (ints .i64 (lims ((crungs u es 0).2.1)))) (by kernel_rfl) (by kernel_rfl) (fun W hR => (run_load_row 32 _ g10 32 _ _ (row_ext (row_ext q7 (ext_drew _)) hR) rfl (by kernel_rfl) (by kernel_rfl) (isz (n := 16) (by kernel_rfl) (by kernel_rfl)))) ?_
    refine any_call (.agg (ints .i64 (lims (invN (crungs u es 0).2.1)))) 33 #[.agg (ints .i64 (lims ((crungs u es 0).2.1)))] (by kernel_rfl) (by kernel_rfl) (fun W => by kernel_rfl) (fun W hR => (lInv _ hL.2.1) W) ?_
    refine any_call (.agg (ints .i64 (lims (outN u (crungs u es 0))))) 31 #[.agg (ints .i64 (lims ((crungs u es 0).1))), .agg (ints .i64 (lims (invN (crungs u es 0).2.1)))] (by kernel_rfl) (by kernel_rfl) (fun W => by kernel_rfl) (fun W hR => (lMul _ _ (isN_big hL.1) (isN_big (invN_isN _))) W) ?_
    refine any_call (.agg (ints .u8 (bytesOf (outN u (crungs u es 0))))) 49 #[.agg (ints .i64 (lims (outN u (crungs u es 0))))] (by kernel_rfl) (by kernel_rfl) (fun W => by kernel_rfl) (fun W hR => (lBytes _) W) ?_
    refine steps_nil (hF _ (by kernel_rfl) fun W19 e19 => ?_)
    simp only [ups, up, Kn.val, List.take_succ_cons, List.take_zero, List.drop_succ_cons, List.drop_zero, List.nil_append, List.cons_append]
    clear hF
    have x19 : Ext w W19 := Ext.tr xx e19
    have r4_19 := (row_ext q4 e19)
    refine seq_store g4 _ (ints .u8 (bytesOf (outN u (crungs u es 0)))) 23 r4_19 rfl (by kernel_rfl) (run_store_row 23 _ _ g4 23 _ _ r4_19 rfl (by kernel_rfl) (by kernel_rfl) (isz (n := 32) (by kernel_rfl) (by kernel_rfl)) (eqsz (n := 32) (by kernel_rfl) (by kernel_rfl)) (ints_one _ _)) fun W20 p20 r4_20 => ?_
    have x20 : Ext w W20 := Puts.ext p20 x19 b4
    refine seq_nil ?_
    refine hK21 _ _ ?_
    try clear hK21 K21
    refine wp_ret ?_
    exact (show bodyPost _ _ _ .ret _ _ from ret1 (.agg (ints .u8 (bytesOf (outN u (crungs u es 0))))) rfl (res_cell g4 23 _ r4_20 (by kernel_rfl) (by kernel_rfl) (isz (n := 32) (by kernel_rfl) (by kernel_rfl))) ⟨by rw [hes], x20⟩)
  · rw [show (((j + 1 : Nat) : Int) - 1) = (j : Int) by omega]
    have hS0 := crungs_step u es j (by omega)
    have hL := crungs_isL u hu es (j + 1)
    generalize crungs u es (j + 1) = st at hS0 hL q6 q7 q8 q9
    obtain ⟨a, b, c, d⟩ := st
    obtain ⟨ia, ib, ic, id⟩ := hL
    have iu := hu
    have hbr := bitAt_range es j
    by_cases hb1 : bitAt es j = 1
    · have hbit : Int.tmod (nth es (j / 8) / 2 ^ (j % 8)) 2 = 1 := bit_tmod es j hcb hb1
      rw [show bitB es j = true by simp [bitB, hb1]] at hS0
      obtain ⟨s0, e_s0⟩ : ∃ s, s = (c + d) % p := ⟨_, rfl⟩
      have is0 : isN s0 := e_s0 ▸ isN_mod _
      have c_s0 : ∀ W, Calls Try.prog 26 #[lnum c, lnum d] W (Ret W (lnum s0)) := by rw [e_s0]; exact (lAdd c d (isN_big ic) (isN_big id))
      obtain ⟨s1, e_s1⟩ : ∃ s, s = (c - d) % p := ⟨_, rfl⟩
      have is1 : isN s1 := e_s1 ▸ isN_mod _
      have c_s1 : ∀ W, Calls Try.prog 28 #[lnum c, lnum d] W (Ret W (lnum s1)) := by rw [e_s1]; exact (lSub c d (isN_big ic) (isN_le id))
      obtain ⟨s2, e_s2⟩ : ∃ s, s = (a + b) % p := ⟨_, rfl⟩
      have is2 : isN s2 := e_s2 ▸ isN_mod _
      have c_s2 : ∀ W, Calls Try.prog 26 #[lnum a, lnum b] W (Ret W (lnum s2)) := by rw [e_s2]; exact (lAdd a b (isN_big ia) (isN_big ib))
      obtain ⟨s3, e_s3⟩ : ∃ s, s = (a - b) % p := ⟨_, rfl⟩
      have is3 : isN s3 := e_s3 ▸ isN_mod _
      have c_s3 : ∀ W, Calls Try.prog 28 #[lnum a, lnum b] W (Ret W (lnum s3)) := by rw [e_s3]; exact (lSub a b (isN_big ia) (isN_le ib))
      obtain ⟨s4, e_s4⟩ : ∃ s, s = s0 * s0 % p := ⟨_, rfl⟩
      have is4 : isN s4 := e_s4 ▸ isN_mod _
      have c_s4 : ∀ W, Calls Try.prog 31 #[lnum s0, lnum s0] W (Ret W (lnum s4)) := by rw [e_s4]; exact (lMul s0 s0 (isN_big is0) (isN_big is0))
      obtain ⟨s5, e_s5⟩ : ∃ s, s = s1 * s1 % p := ⟨_, rfl⟩
      have is5 : isN s5 := e_s5 ▸ isN_mod _
      have c_s5 : ∀ W, Calls Try.prog 31 #[lnum s1, lnum s1] W (Ret W (lnum s5)) := by rw [e_s5]; exact (lMul s1 s1 (isN_big is1) (isN_big is1))
      obtain ⟨s6, e_s6⟩ : ∃ s, s = (s4 - s5) % p := ⟨_, rfl⟩
      have is6 : isN s6 := e_s6 ▸ isN_mod _
      have c_s6 : ∀ W, Calls Try.prog 28 #[lnum s4, lnum s5] W (Ret W (lnum s6)) := by rw [e_s6]; exact (lSub s4 s5 (isN_big is4) (isN_le is5))
      obtain ⟨s7, e_s7⟩ : ∃ s, s = s3 * s0 % p := ⟨_, rfl⟩
      have is7 : isN s7 := e_s7 ▸ isN_mod _
      have c_s7 : ∀ W, Calls Try.prog 31 #[lnum s3, lnum s0] W (Ret W (lnum s7)) := by rw [e_s7]; exact (lMul s3 s0 (isN_big is3) (isN_big is0))
      obtain ⟨s8, e_s8⟩ : ∃ s, s = s2 * s1 % p := ⟨_, rfl⟩
      have is8 : isN s8 := e_s8 ▸ isN_mod _
      have c_s8 : ∀ W, Calls Try.prog 31 #[lnum s2, lnum s1] W (Ret W (lnum s8)) := by rw [e_s8]; exact (lMul s2 s1 (isN_big is2) (isN_big is1))
      obtain ⟨s9, e_s9⟩ : ∃ s, s = (s7 + s8) % p := ⟨_, rfl⟩
      have is9 : isN s9 := e_s9 ▸ isN_mod _
      have c_s9 : ∀ W, Calls Try.prog 26 #[lnum s7, lnum s8] W (Ret W (lnum s9)) := by rw [e_s9]; exact (lAdd s7 s8 (isN_big is7) (isN_big is8))
      obtain ⟨s10, e_s10⟩ : ∃ s, s = (s7 - s8) % p := ⟨_, rfl⟩
      have is10 : isN s10 := e_s10 ▸ isN_mod _
      have c_s10 : ∀ W, Calls Try.prog 28 #[lnum s7, lnum s8] W (Ret W (lnum s10)) := by rw [e_s10]; exact (lSub s7 s8 (isN_big is7) (isN_le is8))
      obtain ⟨s11, e_s11⟩ : ∃ s, s = s9 * s9 % p := ⟨_, rfl⟩
      have is11 : isN s11 := e_s11 ▸ isN_mod _
      have c_s11 : ∀ W, Calls Try.prog 31 #[lnum s9, lnum s9] W (Ret W (lnum s11)) := by rw [e_s11]; exact (lMul s9 s9 (isN_big is9) (isN_big is9))
      obtain ⟨s12, e_s12⟩ : ∃ s, s = s10 * s10 % p := ⟨_, rfl⟩
      have is12 : isN s12 := e_s12 ▸ isN_mod _
      have c_s12 : ∀ W, Calls Try.prog 31 #[lnum s10, lnum s10] W (Ret W (lnum s12)) := by rw [e_s12]; exact (lMul s10 s10 (isN_big is10) (isN_big is10))
      obtain ⟨s13, e_s13⟩ : ∃ s, s = u * s12 % p := ⟨_, rfl⟩
      have is13 : isN s13 := e_s13 ▸ isN_mod _
      have c_s13 : ∀ W, Calls Try.prog 31 #[lnum u, lnum s12] W (Ret W (lnum s13)) := by rw [e_s13]; exact (lMul u s12 (isN_big iu) (isN_big is12))
      obtain ⟨s14, e_s14⟩ : ∃ s, s = s4 * s5 % p := ⟨_, rfl⟩
      have is14 : isN s14 := e_s14 ▸ isN_mod _
      have c_s14 : ∀ W, Calls Try.prog 31 #[lnum s4, lnum s5] W (Ret W (lnum s14)) := by rw [e_s14]; exact (lMul s4 s5 (isN_big is4) (isN_big is5))
      obtain ⟨s15, e_s15⟩ : ∃ s, s = s6 * 121665 % p := ⟨_, rfl⟩
      have is15 : isN s15 := e_s15 ▸ isN_mod _
      have c_s15 : ∀ W, Calls Try.prog 31 #[lnum 121665, lnum s6] W (Ret W (lnum s15)) := by rw [e_s15]; exact (mulc s6 is6)
      obtain ⟨s16, e_s16⟩ : ∃ s, s = (s4 + s15) % p := ⟨_, rfl⟩
      have is16 : isN s16 := e_s16 ▸ isN_mod _
      have c_s16 : ∀ W, Calls Try.prog 26 #[lnum s4, lnum s15] W (Ret W (lnum s16)) := by rw [e_s16]; exact (lAdd s4 s15 (isN_big is4) (isN_big is15))
      obtain ⟨s17, e_s17⟩ : ∃ s, s = s6 * s16 % p := ⟨_, rfl⟩
      have is17 : isN s17 := e_s17 ▸ isN_mod _
      have c_s17 : ∀ W, Calls Try.prog 31 #[lnum s6, lnum s16] W (Ret W (lnum s17)) := by rw [e_s17]; exact (lMul s6 s16 (isN_big is6) (isN_big is16))
      refine wp_seq_k fun K55 hK55 => ?_
      refine wp_seq_k fun K56 hK56 => ?_
      refine region_lit ?_
      refine seq_val (.int .i64 ((j : Int))) 31 rfl (by kernel_rfl) (by kernel_rfl) ?_
      refine seq_val (.bool true) 32 rfl (by kernel_rfl) (run_eq (u := .bool (decide (((j : Int)) ≥ 0))) (by kernel_rfl) (congrArg Value.bool (decide_eq_true (by omega)))) ?_
      refine seq_nil ?_
      refine hK56 _ _ ?_
      try clear hK56 K56
      refine cond_true (by kernel_rfl) ?_
      refine wp_skip ?_
      refine hK55 _ _ ?_
      try clear hK55 K55
      refine wp_seq_k fun K57 hK57 => ?_
      refine wp_block ?_
      refine wp_seq_k fun K58 hK58 => ?_
      refine region_lit ?_
      refine seq_val (.int .i64 ((j : Int))) 35 rfl (by kernel_rfl) (by kernel_rfl) ?_
      refine seq_val (.int .i64 (((j / 8 : Nat) : Int))) 36 rfl (by kernel_rfl) (run_eq (u := .int .i64 (IntKind.i64.wrap (Int.tdiv (((j : Int))) (8)))) (by kernel_rfl) (congrArg (Value.int .i64) (i64_quo j 8 (by omega)))) ?_
      refine seq_val (.pointer (some ⟨g6, j / 8, none⟩)) 37 rfl (by kernel_rfl) (run_index0 _ _ _ .i64 (j / 8) _ 32 5 rfl (by kernel_rfl) (by kernel_rfl) (by kernel_rfl) (by kernel_rfl) (by omega)) ?_
      refine seq_val (.int .u8 (nth es (j / 8))) 38 rfl (by kernel_rfl) (run_loadC1 5 _ g6 (j / 8) 23 _ (.int .u8 (nth es (j / 8))) _ q5 rfl (by kernel_rfl) (ints_get _ _ _ (by omega)) (by kernel_rfl)) ?_
      refine seq_val (.int .i64 ((j : Int))) 39 rfl (by kernel_rfl) (by kernel_rfl) ?_
      refine seq_val (.int .i64 (((j % 8 : Nat) : Int))) 40 rfl (by kernel_rfl) (run_eq (u := .int .i64 (Int.tmod (((j : Int))) (8))) (by kernel_rfl) (congrArg (Value.int .i64) (nat_rem j 8))) ?_
      refine seq_val (.int .u64 (((j % 8 : Nat) : Int))) 41 rfl (by kernel_rfl) (run_eq (u := .int .u64 (IntKind.u64.wrap (((j % 8 : Nat) : Int)))) (by kernel_rfl) (congrArg (Value.int .u64) (u64_nat _ (by omega)))) ?_
      refine seq_val (.int .u8 (nth es (j / 8) / 2 ^ (j % 8))) 42 rfl (by kernel_rfl) (run_bin .shr _ _ _ _ .u8 .u64 _ _ _ rfl (by kernel_rfl) (by kernel_rfl) (b_shr _ _ _ _ _ _ (by omega) (shr8 _ _ (by omega)))) ?_
      refine seq_val (.int .u8 (1)) 43 rfl (by kernel_rfl) (run_eq (u := .int .u8 (Int.tmod ((nth es (j / 8) / 2 ^ (j % 8))) (2))) (by kernel_rfl) (congrArg (Value.int .u8) hbit)) ?_
      refine seq_val (.int .u8 (1)) 12 rfl (by kernel_rfl) (by kernel_rfl) ?_
      refine seq_nil ?_
      refine hK58 _ _ ?_
      try clear hK58 K58
      refine wp_seq_k fun K59 hK59 => ?_
      refine wp_seq_k fun K60 hK60 => ?_
      refine region_lit ?_
      refine seq_val (.int .u8 (1)) 44 rfl (by kernel_rfl) (by kernel_rfl) ?_
      refine seq_val (.bool true) 45 rfl (by kernel_rfl) (by kernel_rfl) ?_
      refine seq_nil ?_
      refine hK60 _ _ ?_
      try clear hK60 K60
      refine cond_true (by kernel_rfl) ?_
      refine wp_seq_k fun K61 hK61 => ?_
      refine region_lit ?_
      refine seq_val (.agg (ints .i64 (lims (c)))) 46 rfl (by kernel_rfl) (run_load_row 32 _ g12 32 _ _ q8 rfl (by kernel_rfl) (by kernel_rfl) (isz (n := 16) (by kernel_rfl) (by kernel_rfl))) ?_
      refine seq_val (.agg (ints .i64 (lims (a)))) 47 rfl (by kernel_rfl) (run_load_row 32 _ g8 32 _ _ q6 rfl (by kernel_rfl) (by kernel_rfl) (isz (n := 16) (by kernel_rfl) (by kernel_rfl))) ?_
      refine seq_store g8 _ (ints .i64 (lims (c))) 32 q6 rfl (by kernel_rfl) (run_store_row 32 _ _ g8 32 _ _ q6 rfl (by kernel_rfl) (by kernel_rfl) (isz (n := 16) (by kernel_rfl) (by kernel_rfl)) (eqsz (n := 16) (by kernel_rfl) (by kernel_rfl)) (by kernel_rfl)) fun W19 p19 r8_19 => ?_
      have x19 : Ext w W19 := Puts.ext p19 xx b8
      have r12_19 := (Puts.row p19 q8 n_8_6)
      refine seq_store g12 _ (ints .i64 (lims (a))) 32 r12_19 rfl (by kernel_rfl) (run_store_row 32 _ _ g12 32 _ _ r12_19 rfl (by kernel_rfl) (by kernel_rfl) (isz (n := 16) (by kernel_rfl) (by kernel_rfl)) (eqsz (n := 16) (by kernel_rfl) (by kernel_rfl)) (by kernel_rfl)) fun W20 p20 r12_20 => ?_
      have x20 : Ext w W20 := Puts.ext p20 x19 b12
      refine seq_nil ?_
      refine hK61 _ _ ?_
      try clear hK61 K61
      refine region_lit ?_
      have r14_20 := (Puts.row p20 (Puts.row p19 q9 n_9_6) n_9_8)
      refine seq_val (.agg (ints .i64 (lims (d)))) 48 rfl (by kernel_rfl) (run_load_row 32 _ g14 32 _ _ r14_20 rfl (by kernel_rfl) (by kernel_rfl) (isz (n := 16) (by kernel_rfl) (by kernel_rfl))) ?_
      have r10_20 := (Puts.row p20 (Puts.row p19 q7 n_7_6) n_7_8)
      refine seq_val (.agg (ints .i64 (lims (b)))) 49 rfl (by kernel_rfl) (run_load_row 32 _ g10 32 _ _ r10_20 rfl (by kernel_rfl) (by kernel_rfl) (isz (n := 16) (by kernel_rfl) (by kernel_rfl))) ?_
      refine seq_store g10 _ (ints .i64 (lims (d))) 32 r10_20 rfl (by kernel_rfl) (run_store_row 32 _ _ g10 32 _ _ r10_20 rfl (by kernel_rfl) (by kernel_rfl) (isz (n := 16) (by kernel_rfl) (by kernel_rfl)) (eqsz (n := 16) (by kernel_rfl) (by kernel_rfl)) (by kernel_rfl)) fun W21 p21 r10_21 => ?_
      have x21 : Ext w W21 := Puts.ext p21 x20 b10
      have r14_21 := (Puts.row p21 r14_20 n_9_7)
      refine seq_store g14 _ (ints .i64 (lims (b))) 32 r14_21 rfl (by kernel_rfl) (run_store_row 32 _ _ g14 32 _ _ r14_21 rfl (by kernel_rfl) (by kernel_rfl) (isz (n := 16) (by kernel_rfl) (by kernel_rfl)) (eqsz (n := 16) (by kernel_rfl) (by kernel_rfl)) (by kernel_rfl)) fun W22 p22 r14_22 => ?_
      have x22 : Ext w W22 := Puts.ext p22 x21 b14
      refine seq_nil ?_
      refine hK59 _ _ ?_
      try clear hK59 K59
      refine wp_seq_k fun K62 hK62 => ?_
      refine region_lit ?_
      have r8_22 := (Puts.row p22 (Puts.row p21 (Puts.row p20 r8_19 n_6_8) n_6_7) n_6_9)
      refine seq_val (.agg (ints .i64 (lims (c)))) 50 rfl (by kernel_rfl) (run_load_row 32 _ g8 32 _ _ r8_22 rfl (by kernel_rfl) (by kernel_rfl) (isz (n := 16) (by kernel_rfl) (by kernel_rfl))) ?_
      have r10_22 := (Puts.row p22 r10_21 n_7_9)
      refine seq_val (.agg (ints .i64 (lims (d)))) 51 rfl (by kernel_rfl) (run_load_row 32 _ g10 32 _ _ r10_22 rfl (by kernel_rfl) (by kernel_rfl) (isz (n := 16) (by kernel_rfl) (by kernel_rfl))) ?_
      refine seq_call (.agg (ints .i64 (lims (s0)))) 26 #[.agg (ints .i64 (lims (c))), .agg (ints .i64 (lims (d)))] 52 rfl (by kernel_rfl) (by kernel_rfl) (c_s0 _) fun W23 e23 => ?_
      have x23 : Ext w W23 := Ext.tr x22 e23
      refine seq_alloc (ints .i64 (lims (0))) 32 13 rfl (by kernel_rfl) (by kernel_rfl) fun g63 W24 l63 e24 r63_24 => ?_
      have x24 : Ext w W24 := Ext.tr x23 e24
      have b63 : w.heap.size ≤ g63 := Nat.le_trans x23.size l63
      refine seq_store g63 _ (ints .i64 (lims (s0))) 32 r63_24 rfl (by kernel_rfl) (run_store_row 32 _ _ g63 32 _ _ r63_24 rfl (by kernel_rfl) (by kernel_rfl) (isz (n := 16) (by kernel_rfl) (by kernel_rfl)) (eqsz (n := 16) (by kernel_rfl) (by kernel_rfl)) (by kernel_rfl)) fun W25 p25 r63_25 => ?_
      have x25 : Ext w W25 := Puts.ext p25 x24 b63
      refine seq_nil ?_
      refine hK62 _ _ ?_
      try clear hK62 K62
      refine wp_seq_k fun K64 hK64 => ?_
      refine region_lit ?_
      have r8_23 := (row_ext r8_22 e23)
      have r8_25 := (Puts.row p25 (row_ext (row_ext r8_22 e23) e24) (ne_of_old r8_23 l63))
      refine seq_val (.agg (ints .i64 (lims (c)))) 53 rfl (by kernel_rfl) (run_load_row 32 _ g8 32 _ _ r8_25 rfl (by kernel_rfl) (by kernel_rfl) (isz (n := 16) (by kernel_rfl) (by kernel_rfl))) ?_
      have r10_23 := (row_ext r10_22 e23)
      have r10_25 := (Puts.row p25 (row_ext (row_ext r10_22 e23) e24) (ne_of_old r10_23 l63))
      refine seq_val (.agg (ints .i64 (lims (d)))) 54 rfl (by kernel_rfl) (run_load_row 32 _ g10 32 _ _ r10_25 rfl (by kernel_rfl) (by kernel_rfl) (isz (n := 16) (by kernel_rfl) (by kernel_rfl))) ?_
      refine seq_call (.agg (ints .i64 (lims (s1)))) 28 #[.agg (ints .i64 (lims (c))), .agg (ints .i64 (lims (d)))] 55 rfl (by kernel_rfl) (by kernel_rfl) (c_s1 _) fun W26 e26 => ?_
      have x26 : Ext w W26 := Ext.tr x25 e26
      refine seq_alloc (ints .i64 (lims (0))) 32 14 rfl (by kernel_rfl) (by kernel_rfl) fun g65 W27 l65 e27 r65_27 => ?_
      have x27 : Ext w W27 := Ext.tr x26 e27
      have b65 : w.heap.size ≤ g65 := Nat.le_trans x26.size l65
      refine seq_store g65 _ (ints .i64 (lims (s1))) 32 r65_27 rfl (by kernel_rfl) (run_store_row 32 _ _ g65 32 _ _ r65_27 rfl (by kernel_rfl) (by kernel_rfl) (isz (n := 16) (by kernel_rfl) (by kernel_rfl)) (eqsz (n := 16) (by kernel_rfl) (by kernel_rfl)) (by kernel_rfl)) fun W28 p28 r65_28 => ?_
      have x28 : Ext w W28 := Puts.ext p28 x27 b65
      refine seq_nil ?_
      refine hK64 _ _ ?_
      try clear hK64 K64
      refine wp_seq_k fun K66 hK66 => ?_
      refine region_lit ?_
      have r12_23 := (row_ext (Puts.row p22 (Puts.row p21 r12_20 n_8_7) n_8_9) e23)
      have r12_26 := (row_ext (Puts.row p25 (row_ext r12_23 e24) (ne_of_old r12_23 l63)) e26)
      have r12_28 := (Puts.row p28 (row_ext (row_ext (Puts.row p25 (row_ext (row_ext (Puts.row p22 (Puts.row p21 r12_20 n_8_7) n_8_9) e23) e24) (ne_of_old r12_23 l63)) e26) e27) (ne_of_old r12_26 l65))
      refine seq_val (.agg (ints .i64 (lims (a)))) 56 rfl (by kernel_rfl) (run_load_row 32 _ g12 32 _ _ r12_28 rfl (by kernel_rfl) (by kernel_rfl) (isz (n := 16) (by kernel_rfl) (by kernel_rfl))) ?_
      have r14_23 := (row_ext r14_22 e23)
      have r14_26 := (row_ext (Puts.row p25 (row_ext r14_23 e24) (ne_of_old r14_23 l63)) e26)
      have r14_28 := (Puts.row p28 (row_ext (row_ext (Puts.row p25 (row_ext (row_ext r14_22 e23) e24) (ne_of_old r14_23 l63)) e26) e27) (ne_of_old r14_26 l65))
      refine seq_val (.agg (ints .i64 (lims (b)))) 57 rfl (by kernel_rfl) (run_load_row 32 _ g14 32 _ _ r14_28 rfl (by kernel_rfl) (by kernel_rfl) (isz (n := 16) (by kernel_rfl) (by kernel_rfl))) ?_
      refine seq_call (.agg (ints .i64 (lims (s2)))) 26 #[.agg (ints .i64 (lims (a))), .agg (ints .i64 (lims (b)))] 58 rfl (by kernel_rfl) (by kernel_rfl) (c_s2 _) fun W29 e29 => ?_
      have x29 : Ext w W29 := Ext.tr x28 e29
      refine seq_alloc (ints .i64 (lims (0))) 32 15 rfl (by kernel_rfl) (by kernel_rfl) fun g67 W30 l67 e30 r67_30 => ?_
      have x30 : Ext w W30 := Ext.tr x29 e30
      have b67 : w.heap.size ≤ g67 := Nat.le_trans x29.size l67
      refine seq_store g67 _ (ints .i64 (lims (s2))) 32 r67_30 rfl (by kernel_rfl) (run_store_row 32 _ _ g67 32 _ _ r67_30 rfl (by kernel_rfl) (by kernel_rfl) (isz (n := 16) (by kernel_rfl) (by kernel_rfl)) (eqsz (n := 16) (by kernel_rfl) (by kernel_rfl)) (by kernel_rfl)) fun W31 p31 r67_31 => ?_
      have x31 : Ext w W31 := Puts.ext p31 x30 b67
      refine seq_nil ?_
      refine hK66 _ _ ?_
      try clear hK66 K66
      refine wp_seq_k fun K68 hK68 => ?_
      refine region_lit ?_
      have r12_29 := (row_ext r12_28 e29)
      have r12_31 := (Puts.row p31 (row_ext (row_ext r12_28 e29) e30) (ne_of_old r12_29 l67))
      refine seq_val (.agg (ints .i64 (lims (a)))) 59 rfl (by kernel_rfl) (run_load_row 32 _ g12 32 _ _ r12_31 rfl (by kernel_rfl) (by kernel_rfl) (isz (n := 16) (by kernel_rfl) (by kernel_rfl))) ?_
      have r14_29 := (row_ext r14_28 e29)
      have r14_31 := (Puts.row p31 (row_ext (row_ext r14_28 e29) e30) (ne_of_old r14_29 l67))
      refine seq_val (.agg (ints .i64 (lims (b)))) 60 rfl (by kernel_rfl) (run_load_row 32 _ g14 32 _ _ r14_31 rfl (by kernel_rfl) (by kernel_rfl) (isz (n := 16) (by kernel_rfl) (by kernel_rfl))) ?_
      refine seq_call (.agg (ints .i64 (lims (s3)))) 28 #[.agg (ints .i64 (lims (a))), .agg (ints .i64 (lims (b)))] 61 rfl (by kernel_rfl) (by kernel_rfl) (c_s3 _) fun W32 e32 => ?_
      have x32 : Ext w W32 := Ext.tr x31 e32
      refine seq_alloc (ints .i64 (lims (0))) 32 16 rfl (by kernel_rfl) (by kernel_rfl) fun g69 W33 l69 e33 r69_33 => ?_
      have x33 : Ext w W33 := Ext.tr x32 e33
      have b69 : w.heap.size ≤ g69 := Nat.le_trans x32.size l69
      refine seq_store g69 _ (ints .i64 (lims (s3))) 32 r69_33 rfl (by kernel_rfl) (run_store_row 32 _ _ g69 32 _ _ r69_33 rfl (by kernel_rfl) (by kernel_rfl) (isz (n := 16) (by kernel_rfl) (by kernel_rfl)) (eqsz (n := 16) (by kernel_rfl) (by kernel_rfl)) (by kernel_rfl)) fun W34 p34 r69_34 => ?_
      have x34 : Ext w W34 := Puts.ext p34 x33 b69
      refine seq_nil ?_
      refine hK68 _ _ ?_
      try clear hK68 K68
      refine wp_seq_k fun K70 hK70 => ?_
      refine region_lit ?_
      have r63_26 := (row_ext r63_25 e26)
      have r63_29 := (row_ext (Puts.row p28 (row_ext r63_26 e27) (ne_of_old r63_26 l65)) e29)
      have r63_32 := (row_ext (Puts.row p31 (row_ext r63_29 e30) (ne_of_old r63_29 l67)) e32)
      have r63_34 := (Puts.row p34 (row_ext (row_ext (Puts.row p31 (row_ext (row_ext (Puts.row p28 (row_ext (row_ext r63_25 e26) e27) (ne_of_old r63_26 l65)) e29) e30) (ne_of_old r63_29 l67)) e32) e33) (ne_of_old r63_32 l69))
      refine seq_val (.agg (ints .i64 (lims (s0)))) 62 rfl (by kernel_rfl) (run_load_row 32 _ g63 32 _ _ r63_34 rfl (by kernel_rfl) (by kernel_rfl) (isz (n := 16) (by kernel_rfl) (by kernel_rfl))) ?_
      refine seq_val (.agg (ints .i64 (lims (s0)))) 63 rfl (by kernel_rfl) (run_load_row 32 _ g63 32 _ _ r63_34 rfl (by kernel_rfl) (by kernel_rfl) (isz (n := 16) (by kernel_rfl) (by kernel_rfl))) ?_
      refine seq_call (.agg (ints .i64 (lims (s4)))) 31 #[.agg (ints .i64 (lims (s0))), .agg (ints .i64 (lims (s0)))] 64 rfl (by kernel_rfl) (by kernel_rfl) (c_s4 _) fun W35 e35 => ?_
      have x35 : Ext w W35 := Ext.tr x34 e35
      refine seq_alloc (ints .i64 (lims (0))) 32 17 rfl (by kernel_rfl) (by kernel_rfl) fun g71 W36 l71 e36 r71_36 => ?_
      have x36 : Ext w W36 := Ext.tr x35 e36
      have b71 : w.heap.size ≤ g71 := Nat.le_trans x35.size l71
      refine seq_store g71 _ (ints .i64 (lims (s4))) 32 r71_36 rfl (by kernel_rfl) (run_store_row 32 _ _ g71 32 _ _ r71_36 rfl (by kernel_rfl) (by kernel_rfl) (isz (n := 16) (by kernel_rfl) (by kernel_rfl)) (eqsz (n := 16) (by kernel_rfl) (by kernel_rfl)) (by kernel_rfl)) fun W37 p37 r71_37 => ?_
      have x37 : Ext w W37 := Puts.ext p37 x36 b71
      refine seq_nil ?_
      refine hK70 _ _ ?_
      try clear hK70 K70
      refine wp_seq_k fun K72 hK72 => ?_
      refine region_lit ?_
      have r65_29 := (row_ext r65_28 e29)
      have r65_32 := (row_ext (Puts.row p31 (row_ext r65_29 e30) (ne_of_old r65_29 l67)) e32)
      have r65_35 := (row_ext (Puts.row p34 (row_ext r65_32 e33) (ne_of_old r65_32 l69)) e35)
      have r65_37 := (Puts.row p37 (row_ext (row_ext (Puts.row p34 (row_ext (row_ext (Puts.row p31 (row_ext (row_ext r65_28 e29) e30) (ne_of_old r65_29 l67)) e32) e33) (ne_of_old r65_32 l69)) e35) e36) (ne_of_old r65_35 l71))
      refine seq_val (.agg (ints .i64 (lims (s1)))) 65 rfl (by kernel_rfl) (run_load_row 32 _ g65 32 _ _ r65_37 rfl (by kernel_rfl) (by kernel_rfl) (isz (n := 16) (by kernel_rfl) (by kernel_rfl))) ?_
      refine seq_val (.agg (ints .i64 (lims (s1)))) 66 rfl (by kernel_rfl) (run_load_row 32 _ g65 32 _ _ r65_37 rfl (by kernel_rfl) (by kernel_rfl) (isz (n := 16) (by kernel_rfl) (by kernel_rfl))) ?_
      refine seq_call (.agg (ints .i64 (lims (s5)))) 31 #[.agg (ints .i64 (lims (s1))), .agg (ints .i64 (lims (s1)))] 67 rfl (by kernel_rfl) (by kernel_rfl) (c_s5 _) fun W38 e38 => ?_
      have x38 : Ext w W38 := Ext.tr x37 e38
      refine seq_alloc (ints .i64 (lims (0))) 32 18 rfl (by kernel_rfl) (by kernel_rfl) fun g73 W39 l73 e39 r73_39 => ?_
      have x39 : Ext w W39 := Ext.tr x38 e39
      have b73 : w.heap.size ≤ g73 := Nat.le_trans x38.size l73
      refine seq_store g73 _ (ints .i64 (lims (s5))) 32 r73_39 rfl (by kernel_rfl) (run_store_row 32 _ _ g73 32 _ _ r73_39 rfl (by kernel_rfl) (by kernel_rfl) (isz (n := 16) (by kernel_rfl) (by kernel_rfl)) (eqsz (n := 16) (by kernel_rfl) (by kernel_rfl)) (by kernel_rfl)) fun W40 p40 r73_40 => ?_
      have x40 : Ext w W40 := Puts.ext p40 x39 b73
      refine seq_nil ?_
      refine hK72 _ _ ?_
      try clear hK72 K72
      refine wp_seq_k fun K74 hK74 => ?_
      refine region_lit ?_
      have r71_38 := (row_ext r71_37 e38)
      have r71_40 := (Puts.row p40 (row_ext (row_ext r71_37 e38) e39) (ne_of_old r71_38 l73))
      refine seq_val (.agg (ints .i64 (lims (s4)))) 68 rfl (by kernel_rfl) (run_load_row 32 _ g71 32 _ _ r71_40 rfl (by kernel_rfl) (by kernel_rfl) (isz (n := 16) (by kernel_rfl) (by kernel_rfl))) ?_
      refine seq_val (.agg (ints .i64 (lims (s5)))) 69 rfl (by kernel_rfl) (run_load_row 32 _ g73 32 _ _ r73_40 rfl (by kernel_rfl) (by kernel_rfl) (isz (n := 16) (by kernel_rfl) (by kernel_rfl))) ?_
      refine seq_call (.agg (ints .i64 (lims (s6)))) 28 #[.agg (ints .i64 (lims (s4))), .agg (ints .i64 (lims (s5)))] 70 rfl (by kernel_rfl) (by kernel_rfl) (c_s6 _) fun W41 e41 => ?_
      have x41 : Ext w W41 := Ext.tr x40 e41
      refine seq_alloc (ints .i64 (lims (0))) 32 19 rfl (by kernel_rfl) (by kernel_rfl) fun g75 W42 l75 e42 r75_42 => ?_
      have x42 : Ext w W42 := Ext.tr x41 e42
      have b75 : w.heap.size ≤ g75 := Nat.le_trans x41.size l75
      refine seq_store g75 _ (ints .i64 (lims (s6))) 32 r75_42 rfl (by kernel_rfl) (run_store_row 32 _ _ g75 32 _ _ r75_42 rfl (by kernel_rfl) (by kernel_rfl) (isz (n := 16) (by kernel_rfl) (by kernel_rfl)) (eqsz (n := 16) (by kernel_rfl) (by kernel_rfl)) (by kernel_rfl)) fun W43 p43 r75_43 => ?_
      have x43 : Ext w W43 := Puts.ext p43 x42 b75
      refine seq_nil ?_
      refine hK74 _ _ ?_
      try clear hK74 K74
      refine wp_seq_k fun K76 hK76 => ?_
      refine region_lit ?_
      have r69_35 := (row_ext r69_34 e35)
      have r69_38 := (row_ext (Puts.row p37 (row_ext r69_35 e36) (ne_of_old r69_35 l71)) e38)
      have r69_41 := (row_ext (Puts.row p40 (row_ext r69_38 e39) (ne_of_old r69_38 l73)) e41)
      have r69_43 := (Puts.row p43 (row_ext (row_ext (Puts.row p40 (row_ext (row_ext (Puts.row p37 (row_ext (row_ext r69_34 e35) e36) (ne_of_old r69_35 l71)) e38) e39) (ne_of_old r69_38 l73)) e41) e42) (ne_of_old r69_41 l75))
      refine seq_val (.agg (ints .i64 (lims (s3)))) 71 rfl (by kernel_rfl) (run_load_row 32 _ g69 32 _ _ r69_43 rfl (by kernel_rfl) (by kernel_rfl) (isz (n := 16) (by kernel_rfl) (by kernel_rfl))) ?_
      have r63_35 := (row_ext r63_34 e35)
      have r63_38 := (row_ext (Puts.row p37 (row_ext r63_35 e36) (ne_of_old r63_35 l71)) e38)
      have r63_41 := (row_ext (Puts.row p40 (row_ext r63_38 e39) (ne_of_old r63_38 l73)) e41)
      have r63_43 := (Puts.row p43 (row_ext (row_ext (Puts.row p40 (row_ext (row_ext (Puts.row p37 (row_ext (row_ext r63_34 e35) e36) (ne_of_old r63_35 l71)) e38) e39) (ne_of_old r63_38 l73)) e41) e42) (ne_of_old r63_41 l75))
      refine seq_val (.agg (ints .i64 (lims (s0)))) 72 rfl (by kernel_rfl) (run_load_row 32 _ g63 32 _ _ r63_43 rfl (by kernel_rfl) (by kernel_rfl) (isz (n := 16) (by kernel_rfl) (by kernel_rfl))) ?_
      refine seq_call (.agg (ints .i64 (lims (s7)))) 31 #[.agg (ints .i64 (lims (s3))), .agg (ints .i64 (lims (s0)))] 73 rfl (by kernel_rfl) (by kernel_rfl) (c_s7 _) fun W44 e44 => ?_
      have x44 : Ext w W44 := Ext.tr x43 e44
      refine seq_alloc (ints .i64 (lims (0))) 32 20 rfl (by kernel_rfl) (by kernel_rfl) fun g77 W45 l77 e45 r77_45 => ?_
      have x45 : Ext w W45 := Ext.tr x44 e45
      have b77 : w.heap.size ≤ g77 := Nat.le_trans x44.size l77
      refine seq_store g77 _ (ints .i64 (lims (s7))) 32 r77_45 rfl (by kernel_rfl) (run_store_row 32 _ _ g77 32 _ _ r77_45 rfl (by kernel_rfl) (by kernel_rfl) (isz (n := 16) (by kernel_rfl) (by kernel_rfl)) (eqsz (n := 16) (by kernel_rfl) (by kernel_rfl)) (by kernel_rfl)) fun W46 p46 r77_46 => ?_
      have x46 : Ext w W46 := Puts.ext p46 x45 b77
      refine seq_nil ?_
      refine hK76 _ _ ?_
      try clear hK76 K76
      refine wp_seq_k fun K78 hK78 => ?_
      refine region_lit ?_
      have r67_32 := (row_ext r67_31 e32)
      have r67_35 := (row_ext (Puts.row p34 (row_ext r67_32 e33) (ne_of_old r67_32 l69)) e35)
      have r67_38 := (row_ext (Puts.row p37 (row_ext r67_35 e36) (ne_of_old r67_35 l71)) e38)
      have r67_41 := (row_ext (Puts.row p40 (row_ext r67_38 e39) (ne_of_old r67_38 l73)) e41)
      have r67_44 := (row_ext (Puts.row p43 (row_ext r67_41 e42) (ne_of_old r67_41 l75)) e44)
      have r67_46 := (Puts.row p46 (row_ext (row_ext (Puts.row p43 (row_ext (row_ext (Puts.row p40 (row_ext (row_ext (Puts.row p37 (row_ext (row_ext (Puts.row p34 (row_ext (row_ext r67_31 e32) e33) (ne_of_old r67_32 l69)) e35) e36) (ne_of_old r67_35 l71)) e38) e39) (ne_of_old r67_38 l73)) e41) e42) (ne_of_old r67_41 l75)) e44) e45) (ne_of_old r67_44 l77))
      refine seq_val (.agg (ints .i64 (lims (s2)))) 74 rfl (by kernel_rfl) (run_load_row 32 _ g67 32 _ _ r67_46 rfl (by kernel_rfl) (by kernel_rfl) (isz (n := 16) (by kernel_rfl) (by kernel_rfl))) ?_
      have r65_38 := (row_ext r65_37 e38)
      have r65_41 := (row_ext (Puts.row p40 (row_ext r65_38 e39) (ne_of_old r65_38 l73)) e41)
      have r65_44 := (row_ext (Puts.row p43 (row_ext r65_41 e42) (ne_of_old r65_41 l75)) e44)
      have r65_46 := (Puts.row p46 (row_ext (row_ext (Puts.row p43 (row_ext (row_ext (Puts.row p40 (row_ext (row_ext r65_37 e38) e39) (ne_of_old r65_38 l73)) e41) e42) (ne_of_old r65_41 l75)) e44) e45) (ne_of_old r65_44 l77))
      refine seq_val (.agg (ints .i64 (lims (s1)))) 75 rfl (by kernel_rfl) (run_load_row 32 _ g65 32 _ _ r65_46 rfl (by kernel_rfl) (by kernel_rfl) (isz (n := 16) (by kernel_rfl) (by kernel_rfl))) ?_
      refine seq_call (.agg (ints .i64 (lims (s8)))) 31 #[.agg (ints .i64 (lims (s2))), .agg (ints .i64 (lims (s1)))] 76 rfl (by kernel_rfl) (by kernel_rfl) (c_s8 _) fun W47 e47 => ?_
      have x47 : Ext w W47 := Ext.tr x46 e47
      refine seq_alloc (ints .i64 (lims (0))) 32 21 rfl (by kernel_rfl) (by kernel_rfl) fun g79 W48 l79 e48 r79_48 => ?_
      have x48 : Ext w W48 := Ext.tr x47 e48
      have b79 : w.heap.size ≤ g79 := Nat.le_trans x47.size l79
      refine seq_store g79 _ (ints .i64 (lims (s8))) 32 r79_48 rfl (by kernel_rfl) (run_store_row 32 _ _ g79 32 _ _ r79_48 rfl (by kernel_rfl) (by kernel_rfl) (isz (n := 16) (by kernel_rfl) (by kernel_rfl)) (eqsz (n := 16) (by kernel_rfl) (by kernel_rfl)) (by kernel_rfl)) fun W49 p49 r79_49 => ?_
      have x49 : Ext w W49 := Puts.ext p49 x48 b79
      refine seq_nil ?_
      refine hK78 _ _ ?_
      try clear hK78 K78
      refine wp_seq_k fun K80 hK80 => ?_
      refine region_lit ?_
      have r77_47 := (row_ext r77_46 e47)
      have r77_49 := (Puts.row p49 (row_ext (row_ext r77_46 e47) e48) (ne_of_old r77_47 l79))
      refine seq_val (.agg (ints .i64 (lims (s7)))) 77 rfl (by kernel_rfl) (run_load_row 32 _ g77 32 _ _ r77_49 rfl (by kernel_rfl) (by kernel_rfl) (isz (n := 16) (by kernel_rfl) (by kernel_rfl))) ?_
      refine seq_val (.agg (ints .i64 (lims (s8)))) 78 rfl (by kernel_rfl) (run_load_row 32 _ g79 32 _ _ r79_49 rfl (by kernel_rfl) (by kernel_rfl) (isz (n := 16) (by kernel_rfl) (by kernel_rfl))) ?_
      refine seq_call (.agg (ints .i64 (lims (s9)))) 26 #[.agg (ints .i64 (lims (s7))), .agg (ints .i64 (lims (s8)))] 79 rfl (by kernel_rfl) (by kernel_rfl) (c_s9 _) fun W50 e50 => ?_
      have x50 : Ext w W50 := Ext.tr x49 e50
      refine seq_alloc (ints .i64 (lims (0))) 32 22 rfl (by kernel_rfl) (by kernel_rfl) fun g81 W51 l81 e51 r81_51 => ?_
      have x51 : Ext w W51 := Ext.tr x50 e51
      have b81 : w.heap.size ≤ g81 := Nat.le_trans x50.size l81
      refine seq_store g81 _ (ints .i64 (lims (s9))) 32 r81_51 rfl (by kernel_rfl) (run_store_row 32 _ _ g81 32 _ _ r81_51 rfl (by kernel_rfl) (by kernel_rfl) (isz (n := 16) (by kernel_rfl) (by kernel_rfl)) (eqsz (n := 16) (by kernel_rfl) (by kernel_rfl)) (by kernel_rfl)) fun W52 p52 r81_52 => ?_
      have x52 : Ext w W52 := Puts.ext p52 x51 b81
      refine seq_nil ?_
      refine hK80 _ _ ?_
      try clear hK80 K80
      refine wp_seq_k fun K82 hK82 => ?_
      refine region_lit ?_
      have r77_50 := (row_ext r77_49 e50)
      have r77_52 := (Puts.row p52 (row_ext (row_ext r77_49 e50) e51) (ne_of_old r77_50 l81))
      refine seq_val (.agg (ints .i64 (lims (s7)))) 80 rfl (by kernel_rfl) (run_load_row 32 _ g77 32 _ _ r77_52 rfl (by kernel_rfl) (by kernel_rfl) (isz (n := 16) (by kernel_rfl) (by kernel_rfl))) ?_
      have r79_50 := (row_ext r79_49 e50)
      have r79_52 := (Puts.row p52 (row_ext (row_ext r79_49 e50) e51) (ne_of_old r79_50 l81))
      refine seq_val (.agg (ints .i64 (lims (s8)))) 81 rfl (by kernel_rfl) (run_load_row 32 _ g79 32 _ _ r79_52 rfl (by kernel_rfl) (by kernel_rfl) (isz (n := 16) (by kernel_rfl) (by kernel_rfl))) ?_
      refine seq_call (.agg (ints .i64 (lims (s10)))) 28 #[.agg (ints .i64 (lims (s7))), .agg (ints .i64 (lims (s8)))] 82 rfl (by kernel_rfl) (by kernel_rfl) (c_s10 _) fun W53 e53 => ?_
      have x53 : Ext w W53 := Ext.tr x52 e53
      refine seq_alloc (ints .i64 (lims (0))) 32 23 rfl (by kernel_rfl) (by kernel_rfl) fun g83 W54 l83 e54 r83_54 => ?_
      have x54 : Ext w W54 := Ext.tr x53 e54
      have b83 : w.heap.size ≤ g83 := Nat.le_trans x53.size l83
      refine seq_store g83 _ (ints .i64 (lims (s10))) 32 r83_54 rfl (by kernel_rfl) (run_store_row 32 _ _ g83 32 _ _ r83_54 rfl (by kernel_rfl) (by kernel_rfl) (isz (n := 16) (by kernel_rfl) (by kernel_rfl)) (eqsz (n := 16) (by kernel_rfl) (by kernel_rfl)) (by kernel_rfl)) fun W55 p55 r83_55 => ?_
      have x55 : Ext w W55 := Puts.ext p55 x54 b83
      refine seq_nil ?_
      refine hK82 _ _ ?_
      try clear hK82 K82
      refine wp_seq_k fun K84 hK84 => ?_
      refine region_lit ?_
      have r81_53 := (row_ext r81_52 e53)
      have r81_55 := (Puts.row p55 (row_ext (row_ext r81_52 e53) e54) (ne_of_old r81_53 l83))
      refine seq_val (.agg (ints .i64 (lims (s9)))) 83 rfl (by kernel_rfl) (run_load_row 32 _ g81 32 _ _ r81_55 rfl (by kernel_rfl) (by kernel_rfl) (isz (n := 16) (by kernel_rfl) (by kernel_rfl))) ?_
      refine seq_val (.agg (ints .i64 (lims (s9)))) 84 rfl (by kernel_rfl) (run_load_row 32 _ g81 32 _ _ r81_55 rfl (by kernel_rfl) (by kernel_rfl) (isz (n := 16) (by kernel_rfl) (by kernel_rfl))) ?_
      refine seq_call (.agg (ints .i64 (lims (s11)))) 31 #[.agg (ints .i64 (lims (s9))), .agg (ints .i64 (lims (s9)))] 85 rfl (by kernel_rfl) (by kernel_rfl) (c_s11 _) fun W56 e56 => ?_
      have x56 : Ext w W56 := Ext.tr x55 e56
      have r12_32 := (row_ext r12_31 e32)
      have r12_35 := (row_ext (Puts.row p34 (row_ext r12_32 e33) (ne_of_old r12_32 l69)) e35)
      have r12_38 := (row_ext (Puts.row p37 (row_ext r12_35 e36) (ne_of_old r12_35 l71)) e38)
      have r12_41 := (row_ext (Puts.row p40 (row_ext r12_38 e39) (ne_of_old r12_38 l73)) e41)
      have r12_44 := (row_ext (Puts.row p43 (row_ext r12_41 e42) (ne_of_old r12_41 l75)) e44)
      have r12_47 := (row_ext (Puts.row p46 (row_ext r12_44 e45) (ne_of_old r12_44 l77)) e47)
      have r12_50 := (row_ext (Puts.row p49 (row_ext r12_47 e48) (ne_of_old r12_47 l79)) e50)
      have r12_53 := (row_ext (Puts.row p52 (row_ext r12_50 e51) (ne_of_old r12_50 l81)) e53)
      have r12_56 := (row_ext (Puts.row p55 (row_ext (row_ext (Puts.row p52 (row_ext (row_ext (Puts.row p49 (row_ext (row_ext (Puts.row p46 (row_ext (row_ext (Puts.row p43 (row_ext (row_ext (Puts.row p40 (row_ext (row_ext (Puts.row p37 (row_ext (row_ext (Puts.row p34 (row_ext (row_ext r12_31 e32) e33) (ne_of_old r12_32 l69)) e35) e36) (ne_of_old r12_35 l71)) e38) e39) (ne_of_old r12_38 l73)) e41) e42) (ne_of_old r12_41 l75)) e44) e45) (ne_of_old r12_44 l77)) e47) e48) (ne_of_old r12_47 l79)) e50) e51) (ne_of_old r12_50 l81)) e53) e54) (ne_of_old r12_53 l83)) e56)
      refine seq_store g12 _ (ints .i64 (lims (s11))) 32 r12_56 rfl (by kernel_rfl) (run_store_row 32 _ _ g12 32 _ _ r12_56 rfl (by kernel_rfl) (by kernel_rfl) (isz (n := 16) (by kernel_rfl) (by kernel_rfl)) (eqsz (n := 16) (by kernel_rfl) (by kernel_rfl)) (by kernel_rfl)) fun W57 p57 r12_57 => ?_
      have x57 : Ext w W57 := Puts.ext p57 x56 b12
      refine seq_nil ?_
      refine hK84 _ _ ?_
      try clear hK84 K84
      refine wp_seq_k fun K85 hK85 => ?_
      refine any_region 5 [⟨none, [(3, none)]⟩, ⟨none, [(23, none)]⟩, ⟨none, [(23, none)]⟩, ⟨none, [(87, some 1), (88, some 2)]⟩, ⟨none, [(86, some 0), (89, some 3)]⟩] (by kernel_rfl) (by kernel_rfl) fun F hF => ?_
      have r3_23 := (row_ext (Puts.row p22 (Puts.row p21 (Puts.row p20 (Puts.row p19 q3 n_3_6) n_3_8) n_3_7) n_3_9) e23)
      have r3_26 := (row_ext (Puts.row p25 (row_ext r3_23 e24) (ne_of_old r3_23 l63)) e26)
      have r3_29 := (row_ext (Puts.row p28 (row_ext r3_26 e27) (ne_of_old r3_26 l65)) e29)
      have r3_32 := (row_ext (Puts.row p31 (row_ext r3_29 e30) (ne_of_old r3_29 l67)) e32)
      have r3_35 := (row_ext (Puts.row p34 (row_ext r3_32 e33) (ne_of_old r3_32 l69)) e35)
      have r3_38 := (row_ext (Puts.row p37 (row_ext r3_35 e36) (ne_of_old r3_35 l71)) e38)
      have r3_41 := (row_ext (Puts.row p40 (row_ext r3_38 e39) (ne_of_old r3_38 l73)) e41)
      have r3_44 := (row_ext (Puts.row p43 (row_ext r3_41 e42) (ne_of_old r3_41 l75)) e44)
      have r3_47 := (row_ext (Puts.row p46 (row_ext r3_44 e45) (ne_of_old r3_44 l77)) e47)
      have r3_50 := (row_ext (Puts.row p49 (row_ext r3_47 e48) (ne_of_old r3_47 l79)) e50)
      have r3_53 := (row_ext (Puts.row p52 (row_ext r3_50 e51) (ne_of_old r3_50 l81)) e53)
      have r3_57 := (Puts.row p57 (row_ext (Puts.row p55 (row_ext (row_ext (Puts.row p52 (row_ext (row_ext (Puts.row p49 (row_ext (row_ext (Puts.row p46 (row_ext (row_ext (Puts.row p43 (row_ext (row_ext (Puts.row p40 (row_ext (row_ext (Puts.row p37 (row_ext (row_ext (Puts.row p34 (row_ext (row_ext (Puts.row p31 (row_ext (row_ext (Puts.row p28 (row_ext (row_ext (Puts.row p25 (row_ext (row_ext (Puts.row p22 (Puts.row p21 (Puts.row p20 (Puts.row p19 q3 n_3_6) n_3_8) n_3_7) n_3_9) e23) e24) (ne_of_old r3_23 l63)) e26) e27) (ne_of_old r3_26 l65)) e29) e30) (ne_of_old r3_29 l67)) e32) e33) (ne_of_old r3_32 l69)) e35) e36) (ne_of_old r3_35 l71)) e38) e39) (ne_of_old r3_38 l73)) e41) e42) (ne_of_old r3_41 l75)) e44) e45) (ne_of_old r3_44 l77)) e47) e48) (ne_of_old r3_47 l79)) e50) e51) (ne_of_old r3_50 l81)) e53) e54) (ne_of_old r3_53 l83)) e56) n_3_8)
      refine any_read (.agg (ints .i64 (lims (u)))) (by kernel_rfl) (by kernel_rfl) (fun W hR => (run_load_row 32 _ g3 32 _ _ (row_ext (row_ext r3_57 (ext_drew _)) hR) rfl (by kernel_rfl) (by kernel_rfl) (isz (n := 16) (by kernel_rfl) (by kernel_rfl)))) ?_
      have r83_57 := (Puts.row p57 (row_ext r83_55 e56) (ne_of_new r12_53 l83))
      refine any_read (.agg (ints .i64 (lims (s10)))) (by kernel_rfl) (by kernel_rfl) (fun W hR => (run_load_row 32 _ g83 32 _ _ (row_ext (row_ext r83_57 (ext_drew _)) hR) rfl (by kernel_rfl) (by kernel_rfl) (isz (n := 16) (by kernel_rfl) (by kernel_rfl)))) ?_
      refine any_read (.agg (ints .i64 (lims (s10)))) (by kernel_rfl) (by kernel_rfl) (fun W hR => (run_load_row 32 _ g83 32 _ _ (row_ext (row_ext r83_57 (ext_drew _)) hR) rfl (by kernel_rfl) (by kernel_rfl) (isz (n := 16) (by kernel_rfl) (by kernel_rfl)))) ?_
      refine any_call (.agg (ints .i64 (lims (s12)))) 31 #[.agg (ints .i64 (lims (s10))), .agg (ints .i64 (lims (s10)))] (by kernel_rfl) (by kernel_rfl) (fun W => by kernel_rfl) (fun W hR => c_s12 W) ?_
      refine any_call (.agg (ints .i64 (lims (s13)))) 31 #[.agg (ints .i64 (lims (u))), .agg (ints .i64 (lims (s12)))] (by kernel_rfl) (by kernel_rfl) (fun W => by kernel_rfl) (fun W hR => c_s13 W) ?_
      refine steps_nil (hF _ (by kernel_rfl) fun W58 e58 => ?_)
      simp only [ups, up, Kn.val, List.take_succ_cons, List.take_zero, List.drop_succ_cons, List.drop_zero, List.nil_append, List.cons_append]
      clear hF
      have x58 : Ext w W58 := Ext.tr x57 e58
      have r14_32 := (row_ext r14_31 e32)
      have r14_35 := (row_ext (Puts.row p34 (row_ext r14_32 e33) (ne_of_old r14_32 l69)) e35)
      have r14_38 := (row_ext (Puts.row p37 (row_ext r14_35 e36) (ne_of_old r14_35 l71)) e38)
      have r14_41 := (row_ext (Puts.row p40 (row_ext r14_38 e39) (ne_of_old r14_38 l73)) e41)
      have r14_44 := (row_ext (Puts.row p43 (row_ext r14_41 e42) (ne_of_old r14_41 l75)) e44)
      have r14_47 := (row_ext (Puts.row p46 (row_ext r14_44 e45) (ne_of_old r14_44 l77)) e47)
      have r14_50 := (row_ext (Puts.row p49 (row_ext r14_47 e48) (ne_of_old r14_47 l79)) e50)
      have r14_53 := (row_ext (Puts.row p52 (row_ext r14_50 e51) (ne_of_old r14_50 l81)) e53)
      have r14_58 := (row_ext (Puts.row p57 (row_ext (Puts.row p55 (row_ext (row_ext (Puts.row p52 (row_ext (row_ext (Puts.row p49 (row_ext (row_ext (Puts.row p46 (row_ext (row_ext (Puts.row p43 (row_ext (row_ext (Puts.row p40 (row_ext (row_ext (Puts.row p37 (row_ext (row_ext (Puts.row p34 (row_ext (row_ext r14_31 e32) e33) (ne_of_old r14_32 l69)) e35) e36) (ne_of_old r14_35 l71)) e38) e39) (ne_of_old r14_38 l73)) e41) e42) (ne_of_old r14_41 l75)) e44) e45) (ne_of_old r14_44 l77)) e47) e48) (ne_of_old r14_47 l79)) e50) e51) (ne_of_old r14_50 l81)) e53) e54) (ne_of_old r14_53 l83)) e56) n_9_8) e58)
      refine seq_store g14 _ (ints .i64 (lims (s13))) 32 r14_58 rfl (by kernel_rfl) (run_store_row 32 _ _ g14 32 _ _ r14_58 rfl (by kernel_rfl) (by kernel_rfl) (isz (n := 16) (by kernel_rfl) (by kernel_rfl)) (eqsz (n := 16) (by kernel_rfl) (by kernel_rfl)) (by kernel_rfl)) fun W59 p59 r14_59 => ?_
      have x59 : Ext w W59 := Puts.ext p59 x58 b14
      refine seq_nil ?_
      refine hK85 _ _ ?_
      try clear hK85 K85
      refine wp_seq_k fun K86 hK86 => ?_
      refine region_lit ?_
      have r71_41 := (row_ext r71_40 e41)
      have r71_44 := (row_ext (Puts.row p43 (row_ext r71_41 e42) (ne_of_old r71_41 l75)) e44)
      have r71_47 := (row_ext (Puts.row p46 (row_ext r71_44 e45) (ne_of_old r71_44 l77)) e47)
      have r71_50 := (row_ext (Puts.row p49 (row_ext r71_47 e48) (ne_of_old r71_47 l79)) e50)
      have r71_53 := (row_ext (Puts.row p52 (row_ext r71_50 e51) (ne_of_old r71_50 l81)) e53)
      have r71_59 := (Puts.row p59 (row_ext (Puts.row p57 (row_ext (Puts.row p55 (row_ext (row_ext (Puts.row p52 (row_ext (row_ext (Puts.row p49 (row_ext (row_ext (Puts.row p46 (row_ext (row_ext (Puts.row p43 (row_ext (row_ext r71_40 e41) e42) (ne_of_old r71_41 l75)) e44) e45) (ne_of_old r71_44 l77)) e47) e48) (ne_of_old r71_47 l79)) e50) e51) (ne_of_old r71_50 l81)) e53) e54) (ne_of_old r71_53 l83)) e56) (ne_of_new r12_35 l71)) e58) (ne_of_new r14_35 l71))
      refine seq_val (.agg (ints .i64 (lims (s4)))) 91 rfl (by kernel_rfl) (run_load_row 32 _ g71 32 _ _ r71_59 rfl (by kernel_rfl) (by kernel_rfl) (isz (n := 16) (by kernel_rfl) (by kernel_rfl))) ?_
      have r73_41 := (row_ext r73_40 e41)
      have r73_44 := (row_ext (Puts.row p43 (row_ext r73_41 e42) (ne_of_old r73_41 l75)) e44)
      have r73_47 := (row_ext (Puts.row p46 (row_ext r73_44 e45) (ne_of_old r73_44 l77)) e47)
      have r73_50 := (row_ext (Puts.row p49 (row_ext r73_47 e48) (ne_of_old r73_47 l79)) e50)
      have r73_53 := (row_ext (Puts.row p52 (row_ext r73_50 e51) (ne_of_old r73_50 l81)) e53)
      have r73_59 := (Puts.row p59 (row_ext (Puts.row p57 (row_ext (Puts.row p55 (row_ext (row_ext (Puts.row p52 (row_ext (row_ext (Puts.row p49 (row_ext (row_ext (Puts.row p46 (row_ext (row_ext (Puts.row p43 (row_ext (row_ext r73_40 e41) e42) (ne_of_old r73_41 l75)) e44) e45) (ne_of_old r73_44 l77)) e47) e48) (ne_of_old r73_47 l79)) e50) e51) (ne_of_old r73_50 l81)) e53) e54) (ne_of_old r73_53 l83)) e56) (ne_of_new r12_38 l73)) e58) (ne_of_new r14_38 l73))
      refine seq_val (.agg (ints .i64 (lims (s5)))) 92 rfl (by kernel_rfl) (run_load_row 32 _ g73 32 _ _ r73_59 rfl (by kernel_rfl) (by kernel_rfl) (isz (n := 16) (by kernel_rfl) (by kernel_rfl))) ?_
      refine seq_call (.agg (ints .i64 (lims (s14)))) 31 #[.agg (ints .i64 (lims (s4))), .agg (ints .i64 (lims (s5)))] 93 rfl (by kernel_rfl) (by kernel_rfl) (c_s14 _) fun W60 e60 => ?_
      have x60 : Ext w W60 := Ext.tr x59 e60
      have r8_26 := (row_ext r8_25 e26)
      have r8_29 := (row_ext (Puts.row p28 (row_ext r8_26 e27) (ne_of_old r8_26 l65)) e29)
      have r8_32 := (row_ext (Puts.row p31 (row_ext r8_29 e30) (ne_of_old r8_29 l67)) e32)
      have r8_35 := (row_ext (Puts.row p34 (row_ext r8_32 e33) (ne_of_old r8_32 l69)) e35)
      have r8_38 := (row_ext (Puts.row p37 (row_ext r8_35 e36) (ne_of_old r8_35 l71)) e38)
      have r8_41 := (row_ext (Puts.row p40 (row_ext r8_38 e39) (ne_of_old r8_38 l73)) e41)
      have r8_44 := (row_ext (Puts.row p43 (row_ext r8_41 e42) (ne_of_old r8_41 l75)) e44)
      have r8_47 := (row_ext (Puts.row p46 (row_ext r8_44 e45) (ne_of_old r8_44 l77)) e47)
      have r8_50 := (row_ext (Puts.row p49 (row_ext r8_47 e48) (ne_of_old r8_47 l79)) e50)
      have r8_53 := (row_ext (Puts.row p52 (row_ext r8_50 e51) (ne_of_old r8_50 l81)) e53)
      have r8_60 := (row_ext (Puts.row p59 (row_ext (Puts.row p57 (row_ext (Puts.row p55 (row_ext (row_ext (Puts.row p52 (row_ext (row_ext (Puts.row p49 (row_ext (row_ext (Puts.row p46 (row_ext (row_ext (Puts.row p43 (row_ext (row_ext (Puts.row p40 (row_ext (row_ext (Puts.row p37 (row_ext (row_ext (Puts.row p34 (row_ext (row_ext (Puts.row p31 (row_ext (row_ext (Puts.row p28 (row_ext (row_ext r8_25 e26) e27) (ne_of_old r8_26 l65)) e29) e30) (ne_of_old r8_29 l67)) e32) e33) (ne_of_old r8_32 l69)) e35) e36) (ne_of_old r8_35 l71)) e38) e39) (ne_of_old r8_38 l73)) e41) e42) (ne_of_old r8_41 l75)) e44) e45) (ne_of_old r8_44 l77)) e47) e48) (ne_of_old r8_47 l79)) e50) e51) (ne_of_old r8_50 l81)) e53) e54) (ne_of_old r8_53 l83)) e56) n_6_8) e58) n_6_9) e60)
      refine seq_store g8 _ (ints .i64 (lims (s14))) 32 r8_60 rfl (by kernel_rfl) (run_store_row 32 _ _ g8 32 _ _ r8_60 rfl (by kernel_rfl) (by kernel_rfl) (isz (n := 16) (by kernel_rfl) (by kernel_rfl)) (eqsz (n := 16) (by kernel_rfl) (by kernel_rfl)) (by kernel_rfl)) fun W61 p61 r8_61 => ?_
      have x61 : Ext w W61 := Puts.ext p61 x60 b8
      refine seq_nil ?_
      refine hK86 _ _ ?_
      try clear hK86 K86
      refine wp_seq_k fun K87 hK87 => ?_
      refine any_region 7 [⟨none, [(19, none)]⟩, ⟨none, [(17, none)]⟩, ⟨none, [(10, none)]⟩, ⟨none, [(19, none)]⟩, ⟨none, [(96, some 2), (97, some 3)]⟩, ⟨none, [(95, some 1), (98, some 4)]⟩, ⟨none, [(94, some 0), (99, some 5)]⟩] (by kernel_rfl) (by kernel_rfl) fun F hF => ?_
      have r75_44 := (row_ext r75_43 e44)
      have r75_47 := (row_ext (Puts.row p46 (row_ext r75_44 e45) (ne_of_old r75_44 l77)) e47)
      have r75_50 := (row_ext (Puts.row p49 (row_ext r75_47 e48) (ne_of_old r75_47 l79)) e50)
      have r75_53 := (row_ext (Puts.row p52 (row_ext r75_50 e51) (ne_of_old r75_50 l81)) e53)
      have r75_61 := (Puts.row p61 (row_ext (Puts.row p59 (row_ext (Puts.row p57 (row_ext (Puts.row p55 (row_ext (row_ext (Puts.row p52 (row_ext (row_ext (Puts.row p49 (row_ext (row_ext (Puts.row p46 (row_ext (row_ext r75_43 e44) e45) (ne_of_old r75_44 l77)) e47) e48) (ne_of_old r75_47 l79)) e50) e51) (ne_of_old r75_50 l81)) e53) e54) (ne_of_old r75_53 l83)) e56) (ne_of_new r12_41 l75)) e58) (ne_of_new r14_41 l75)) e60) (ne_of_new r8_41 l75))
      refine any_read (.agg (ints .i64 (lims (s6)))) (by kernel_rfl) (by kernel_rfl) (fun W hR => (run_load_row 32 _ g75 32 _ _ (row_ext (row_ext r75_61 (ext_drew _)) hR) rfl (by kernel_rfl) (by kernel_rfl) (isz (n := 16) (by kernel_rfl) (by kernel_rfl)))) ?_
      have r71_61 := (Puts.row p61 (row_ext r71_59 e60) (ne_of_new r8_35 l71))
      refine any_read (.agg (ints .i64 (lims (s4)))) (by kernel_rfl) (by kernel_rfl) (fun W hR => (run_load_row 32 _ g71 32 _ _ (row_ext (row_ext r71_61 (ext_drew _)) hR) rfl (by kernel_rfl) (by kernel_rfl) (isz (n := 16) (by kernel_rfl) (by kernel_rfl)))) ?_
      have r16_23 := (row_ext (Puts.row p22 (Puts.row p21 (Puts.row p20 (Puts.row p19 q10 n_10_6) n_10_8) n_10_7) n_10_9) e23)
      have r16_26 := (row_ext (Puts.row p25 (row_ext r16_23 e24) (ne_of_old r16_23 l63)) e26)
      have r16_29 := (row_ext (Puts.row p28 (row_ext r16_26 e27) (ne_of_old r16_26 l65)) e29)
      have r16_32 := (row_ext (Puts.row p31 (row_ext r16_29 e30) (ne_of_old r16_29 l67)) e32)
      have r16_35 := (row_ext (Puts.row p34 (row_ext r16_32 e33) (ne_of_old r16_32 l69)) e35)
      have r16_38 := (row_ext (Puts.row p37 (row_ext r16_35 e36) (ne_of_old r16_35 l71)) e38)
      have r16_41 := (row_ext (Puts.row p40 (row_ext r16_38 e39) (ne_of_old r16_38 l73)) e41)
      have r16_44 := (row_ext (Puts.row p43 (row_ext r16_41 e42) (ne_of_old r16_41 l75)) e44)
      have r16_47 := (row_ext (Puts.row p46 (row_ext r16_44 e45) (ne_of_old r16_44 l77)) e47)
      have r16_50 := (row_ext (Puts.row p49 (row_ext r16_47 e48) (ne_of_old r16_47 l79)) e50)
      have r16_53 := (row_ext (Puts.row p52 (row_ext r16_50 e51) (ne_of_old r16_50 l81)) e53)
      have r16_61 := (Puts.row p61 (row_ext (Puts.row p59 (row_ext (Puts.row p57 (row_ext (Puts.row p55 (row_ext (row_ext (Puts.row p52 (row_ext (row_ext (Puts.row p49 (row_ext (row_ext (Puts.row p46 (row_ext (row_ext (Puts.row p43 (row_ext (row_ext (Puts.row p40 (row_ext (row_ext (Puts.row p37 (row_ext (row_ext (Puts.row p34 (row_ext (row_ext (Puts.row p31 (row_ext (row_ext (Puts.row p28 (row_ext (row_ext (Puts.row p25 (row_ext (row_ext (Puts.row p22 (Puts.row p21 (Puts.row p20 (Puts.row p19 q10 n_10_6) n_10_8) n_10_7) n_10_9) e23) e24) (ne_of_old r16_23 l63)) e26) e27) (ne_of_old r16_26 l65)) e29) e30) (ne_of_old r16_29 l67)) e32) e33) (ne_of_old r16_32 l69)) e35) e36) (ne_of_old r16_35 l71)) e38) e39) (ne_of_old r16_38 l73)) e41) e42) (ne_of_old r16_41 l75)) e44) e45) (ne_of_old r16_44 l77)) e47) e48) (ne_of_old r16_47 l79)) e50) e51) (ne_of_old r16_50 l81)) e53) e54) (ne_of_old r16_53 l83)) e56) n_10_8) e58) n_10_9) e60) n_10_6)
      refine any_read (.agg (ints .i64 (lims (121665)))) (by kernel_rfl) (by kernel_rfl) (fun W hR => (run_load_row 32 _ g16 32 _ _ (row_ext (row_ext r16_61 (ext_drew _)) hR) rfl (by kernel_rfl) (by kernel_rfl) (isz (n := 16) (by kernel_rfl) (by kernel_rfl)))) ?_
      refine any_read (.agg (ints .i64 (lims (s6)))) (by kernel_rfl) (by kernel_rfl) (fun W hR => (run_load_row 32 _ g75 32 _ _ (row_ext (row_ext r75_61 (ext_drew _)) hR) rfl (by kernel_rfl) (by kernel_rfl) (isz (n := 16) (by kernel_rfl) (by kernel_rfl)))) ?_
      refine any_call (.agg (ints .i64 (lims (s15)))) 31 #[.agg (ints .i64 (lims (121665))), .agg (ints .i64 (lims (s6)))] (by kernel_rfl) (by kernel_rfl) (fun W => by kernel_rfl) (fun W hR => c_s15 W) ?_
      refine any_call (.agg (ints .i64 (lims (s16)))) 26 #[.agg (ints .i64 (lims (s4))), .agg (ints .i64 (lims (s15)))] (by kernel_rfl) (by kernel_rfl) (fun W => by kernel_rfl) (fun W hR => c_s16 W) ?_
      refine any_call (.agg (ints .i64 (lims (s17)))) 31 #[.agg (ints .i64 (lims (s6))), .agg (ints .i64 (lims (s16)))] (by kernel_rfl) (by kernel_rfl) (fun W => by kernel_rfl) (fun W hR => c_s17 W) ?_
      refine steps_nil (hF _ (by kernel_rfl) fun W62 e62 => ?_)
      simp only [ups, up, Kn.val, List.take_succ_cons, List.take_zero, List.drop_succ_cons, List.drop_zero, List.nil_append, List.cons_append]
      clear hF
      have x62 : Ext w W62 := Ext.tr x61 e62
      have r10_26 := (row_ext r10_25 e26)
      have r10_29 := (row_ext (Puts.row p28 (row_ext r10_26 e27) (ne_of_old r10_26 l65)) e29)
      have r10_32 := (row_ext (Puts.row p31 (row_ext r10_29 e30) (ne_of_old r10_29 l67)) e32)
      have r10_35 := (row_ext (Puts.row p34 (row_ext r10_32 e33) (ne_of_old r10_32 l69)) e35)
      have r10_38 := (row_ext (Puts.row p37 (row_ext r10_35 e36) (ne_of_old r10_35 l71)) e38)
      have r10_41 := (row_ext (Puts.row p40 (row_ext r10_38 e39) (ne_of_old r10_38 l73)) e41)
      have r10_44 := (row_ext (Puts.row p43 (row_ext r10_41 e42) (ne_of_old r10_41 l75)) e44)
      have r10_47 := (row_ext (Puts.row p46 (row_ext r10_44 e45) (ne_of_old r10_44 l77)) e47)
      have r10_50 := (row_ext (Puts.row p49 (row_ext r10_47 e48) (ne_of_old r10_47 l79)) e50)
      have r10_53 := (row_ext (Puts.row p52 (row_ext r10_50 e51) (ne_of_old r10_50 l81)) e53)
      have r10_62 := (row_ext (Puts.row p61 (row_ext (Puts.row p59 (row_ext (Puts.row p57 (row_ext (Puts.row p55 (row_ext (row_ext (Puts.row p52 (row_ext (row_ext (Puts.row p49 (row_ext (row_ext (Puts.row p46 (row_ext (row_ext (Puts.row p43 (row_ext (row_ext (Puts.row p40 (row_ext (row_ext (Puts.row p37 (row_ext (row_ext (Puts.row p34 (row_ext (row_ext (Puts.row p31 (row_ext (row_ext (Puts.row p28 (row_ext (row_ext r10_25 e26) e27) (ne_of_old r10_26 l65)) e29) e30) (ne_of_old r10_29 l67)) e32) e33) (ne_of_old r10_32 l69)) e35) e36) (ne_of_old r10_35 l71)) e38) e39) (ne_of_old r10_38 l73)) e41) e42) (ne_of_old r10_41 l75)) e44) e45) (ne_of_old r10_44 l77)) e47) e48) (ne_of_old r10_47 l79)) e50) e51) (ne_of_old r10_50 l81)) e53) e54) (ne_of_old r10_53 l83)) e56) n_7_8) e58) n_7_9) e60) n_7_6) e62)
      refine seq_store g10 _ (ints .i64 (lims (s17))) 32 r10_62 rfl (by kernel_rfl) (run_store_row 32 _ _ g10 32 _ _ r10_62 rfl (by kernel_rfl) (by kernel_rfl) (isz (n := 16) (by kernel_rfl) (by kernel_rfl)) (eqsz (n := 16) (by kernel_rfl) (by kernel_rfl)) (by kernel_rfl)) fun W63 p63 r10_63 => ?_
      have x63 : Ext w W63 := Puts.ext p63 x62 b10
      refine seq_nil ?_
      refine hK87 _ _ ?_
      try clear hK87 K87
      refine wp_seq_k fun K88 hK88 => ?_
      refine region_lit ?_
      refine seq_val (.int .u8 (1)) 101 rfl (by kernel_rfl) (by kernel_rfl) ?_
      refine seq_val (.bool true) 102 rfl (by kernel_rfl) (by kernel_rfl) ?_
      refine seq_nil ?_
      refine hK88 _ _ ?_
      try clear hK88 K88
      refine cond_true (by kernel_rfl) ?_
      refine wp_seq_k fun K89 hK89 => ?_
      refine region_lit ?_
      have r12_63 := (Puts.row p63 (row_ext (Puts.row p61 (row_ext (Puts.row p59 (row_ext r12_57 e58) n_8_9) e60) n_8_6) e62) n_8_7)
      refine seq_val (.agg (ints .i64 (lims (s11)))) 103 rfl (by kernel_rfl) (run_load_row 32 _ g12 32 _ _ r12_63 rfl (by kernel_rfl) (by kernel_rfl) (isz (n := 16) (by kernel_rfl) (by kernel_rfl))) ?_
      have r8_63 := (Puts.row p63 (row_ext r8_61 e62) n_6_7)
      refine seq_val (.agg (ints .i64 (lims (s14)))) 104 rfl (by kernel_rfl) (run_load_row 32 _ g8 32 _ _ r8_63 rfl (by kernel_rfl) (by kernel_rfl) (isz (n := 16) (by kernel_rfl) (by kernel_rfl))) ?_
      refine seq_store g8 _ (ints .i64 (lims (s11))) 32 r8_63 rfl (by kernel_rfl) (run_store_row 32 _ _ g8 32 _ _ r8_63 rfl (by kernel_rfl) (by kernel_rfl) (isz (n := 16) (by kernel_rfl) (by kernel_rfl)) (eqsz (n := 16) (by kernel_rfl) (by kernel_rfl)) (by kernel_rfl)) fun W64 p64 r8_64 => ?_
      have x64 : Ext w W64 := Puts.ext p64 x63 b8
      have r12_64 := (Puts.row p64 r12_63 n_8_6)
      refine seq_store g12 _ (ints .i64 (lims (s14))) 32 r12_64 rfl (by kernel_rfl) (run_store_row 32 _ _ g12 32 _ _ r12_64 rfl (by kernel_rfl) (by kernel_rfl) (isz (n := 16) (by kernel_rfl) (by kernel_rfl)) (eqsz (n := 16) (by kernel_rfl) (by kernel_rfl)) (by kernel_rfl)) fun W65 p65 r12_65 => ?_
      have x65 : Ext w W65 := Puts.ext p65 x64 b12
      refine seq_nil ?_
      refine hK89 _ _ ?_
      try clear hK89 K89
      refine region_lit ?_
      have r14_65 := (Puts.row p65 (Puts.row p64 (Puts.row p63 (row_ext (Puts.row p61 (row_ext r14_59 e60) n_9_6) e62) n_9_7) n_9_6) n_9_8)
      refine seq_val (.agg (ints .i64 (lims (s13)))) 105 rfl (by kernel_rfl) (run_load_row 32 _ g14 32 _ _ r14_65 rfl (by kernel_rfl) (by kernel_rfl) (isz (n := 16) (by kernel_rfl) (by kernel_rfl))) ?_
      have r10_65 := (Puts.row p65 (Puts.row p64 r10_63 n_7_6) n_7_8)
      refine seq_val (.agg (ints .i64 (lims (s17)))) 106 rfl (by kernel_rfl) (run_load_row 32 _ g10 32 _ _ r10_65 rfl (by kernel_rfl) (by kernel_rfl) (isz (n := 16) (by kernel_rfl) (by kernel_rfl))) ?_
      refine seq_store g10 _ (ints .i64 (lims (s13))) 32 r10_65 rfl (by kernel_rfl) (run_store_row 32 _ _ g10 32 _ _ r10_65 rfl (by kernel_rfl) (by kernel_rfl) (isz (n := 16) (by kernel_rfl) (by kernel_rfl)) (eqsz (n := 16) (by kernel_rfl) (by kernel_rfl)) (by kernel_rfl)) fun W66 p66 r10_66 => ?_
      have x66 : Ext w W66 := Puts.ext p66 x65 b10
      have r14_66 := (Puts.row p66 r14_65 n_9_7)
      refine seq_store g14 _ (ints .i64 (lims (s17))) 32 r14_66 rfl (by kernel_rfl) (run_store_row 32 _ _ g14 32 _ _ r14_66 rfl (by kernel_rfl) (by kernel_rfl) (isz (n := 16) (by kernel_rfl) (by kernel_rfl)) (eqsz (n := 16) (by kernel_rfl) (by kernel_rfl)) (by kernel_rfl)) fun W67 p67 r14_67 => ?_
      have x67 : Ext w W67 := Puts.ext p67 x66 b14
      refine seq_nil ?_
      refine hK57 _ _ ?_
      try clear hK57 K57
      refine region_lit ?_
      refine seq_val (.int .i64 ((j : Int))) 33 rfl (by kernel_rfl) (by kernel_rfl) ?_
      refine seq_val (.int .i64 ((j : Int) - 1)) 34 rfl (by kernel_rfl) (run_eq (u := .int .i64 (IntKind.i64.wrap (((j : Int)) - 1))) (by kernel_rfl) (congrArg (Value.int .i64) (i64_sub1 j (by omega)))) ?_
      refine seq_val (.int .i64 ((j : Int) - 1)) 11 rfl (by kernel_rfl) (by kernel_rfl) ?_
      refine seq_nil ?_
      have r2_23 := (row_ext (Puts.row p22 (Puts.row p21 (Puts.row p20 (Puts.row p19 q2 n_2_6) n_2_8) n_2_7) n_2_9) e23)
      have r2_26 := (row_ext (Puts.row p25 (row_ext r2_23 e24) (ne_of_old r2_23 l63)) e26)
      have r2_29 := (row_ext (Puts.row p28 (row_ext r2_26 e27) (ne_of_old r2_26 l65)) e29)
      have r2_32 := (row_ext (Puts.row p31 (row_ext r2_29 e30) (ne_of_old r2_29 l67)) e32)
      have r2_35 := (row_ext (Puts.row p34 (row_ext r2_32 e33) (ne_of_old r2_32 l69)) e35)
      have r2_38 := (row_ext (Puts.row p37 (row_ext r2_35 e36) (ne_of_old r2_35 l71)) e38)
      have r2_41 := (row_ext (Puts.row p40 (row_ext r2_38 e39) (ne_of_old r2_38 l73)) e41)
      have r2_44 := (row_ext (Puts.row p43 (row_ext r2_41 e42) (ne_of_old r2_41 l75)) e44)
      have r2_47 := (row_ext (Puts.row p46 (row_ext r2_44 e45) (ne_of_old r2_44 l77)) e47)
      have r2_50 := (row_ext (Puts.row p49 (row_ext r2_47 e48) (ne_of_old r2_47 l79)) e50)
      have r2_53 := (row_ext (Puts.row p52 (row_ext r2_50 e51) (ne_of_old r2_50 l81)) e53)
      have r2_67 := (Puts.row p67 (Puts.row p66 (Puts.row p65 (Puts.row p64 (Puts.row p63 (row_ext (Puts.row p61 (row_ext (Puts.row p59 (row_ext (Puts.row p57 (row_ext (Puts.row p55 (row_ext (row_ext (Puts.row p52 (row_ext (row_ext (Puts.row p49 (row_ext (row_ext (Puts.row p46 (row_ext (row_ext (Puts.row p43 (row_ext (row_ext (Puts.row p40 (row_ext (row_ext (Puts.row p37 (row_ext (row_ext (Puts.row p34 (row_ext (row_ext (Puts.row p31 (row_ext (row_ext (Puts.row p28 (row_ext (row_ext (Puts.row p25 (row_ext (row_ext (Puts.row p22 (Puts.row p21 (Puts.row p20 (Puts.row p19 q2 n_2_6) n_2_8) n_2_7) n_2_9) e23) e24) (ne_of_old r2_23 l63)) e26) e27) (ne_of_old r2_26 l65)) e29) e30) (ne_of_old r2_29 l67)) e32) e33) (ne_of_old r2_32 l69)) e35) e36) (ne_of_old r2_35 l71)) e38) e39) (ne_of_old r2_38 l73)) e41) e42) (ne_of_old r2_41 l75)) e44) e45) (ne_of_old r2_44 l77)) e47) e48) (ne_of_old r2_47 l79)) e50) e51) (ne_of_old r2_50 l81)) e53) e54) (ne_of_old r2_53 l83)) e56) n_2_8) e58) n_2_9) e60) n_2_6) e62) n_2_7) n_2_6) n_2_8) n_2_7) n_2_9)
      have r3_67 := (Puts.row p67 (Puts.row p66 (Puts.row p65 (Puts.row p64 (Puts.row p63 (row_ext (Puts.row p61 (row_ext (Puts.row p59 (row_ext r3_57 e58) n_3_9) e60) n_3_6) e62) n_3_7) n_3_6) n_3_8) n_3_7) n_3_9)
      have r4_23 := (row_ext (Puts.row p22 (Puts.row p21 (Puts.row p20 (Puts.row p19 q4 n_4_6) n_4_8) n_4_7) n_4_9) e23)
      have r4_26 := (row_ext (Puts.row p25 (row_ext r4_23 e24) (ne_of_old r4_23 l63)) e26)
      have r4_29 := (row_ext (Puts.row p28 (row_ext r4_26 e27) (ne_of_old r4_26 l65)) e29)
      have r4_32 := (row_ext (Puts.row p31 (row_ext r4_29 e30) (ne_of_old r4_29 l67)) e32)
      have r4_35 := (row_ext (Puts.row p34 (row_ext r4_32 e33) (ne_of_old r4_32 l69)) e35)
      have r4_38 := (row_ext (Puts.row p37 (row_ext r4_35 e36) (ne_of_old r4_35 l71)) e38)
      have r4_41 := (row_ext (Puts.row p40 (row_ext r4_38 e39) (ne_of_old r4_38 l73)) e41)
      have r4_44 := (row_ext (Puts.row p43 (row_ext r4_41 e42) (ne_of_old r4_41 l75)) e44)
      have r4_47 := (row_ext (Puts.row p46 (row_ext r4_44 e45) (ne_of_old r4_44 l77)) e47)
      have r4_50 := (row_ext (Puts.row p49 (row_ext r4_47 e48) (ne_of_old r4_47 l79)) e50)
      have r4_53 := (row_ext (Puts.row p52 (row_ext r4_50 e51) (ne_of_old r4_50 l81)) e53)
      have r4_67 := (Puts.row p67 (Puts.row p66 (Puts.row p65 (Puts.row p64 (Puts.row p63 (row_ext (Puts.row p61 (row_ext (Puts.row p59 (row_ext (Puts.row p57 (row_ext (Puts.row p55 (row_ext (row_ext (Puts.row p52 (row_ext (row_ext (Puts.row p49 (row_ext (row_ext (Puts.row p46 (row_ext (row_ext (Puts.row p43 (row_ext (row_ext (Puts.row p40 (row_ext (row_ext (Puts.row p37 (row_ext (row_ext (Puts.row p34 (row_ext (row_ext (Puts.row p31 (row_ext (row_ext (Puts.row p28 (row_ext (row_ext (Puts.row p25 (row_ext (row_ext (Puts.row p22 (Puts.row p21 (Puts.row p20 (Puts.row p19 q4 n_4_6) n_4_8) n_4_7) n_4_9) e23) e24) (ne_of_old r4_23 l63)) e26) e27) (ne_of_old r4_26 l65)) e29) e30) (ne_of_old r4_29 l67)) e32) e33) (ne_of_old r4_32 l69)) e35) e36) (ne_of_old r4_35 l71)) e38) e39) (ne_of_old r4_38 l73)) e41) e42) (ne_of_old r4_41 l75)) e44) e45) (ne_of_old r4_44 l77)) e47) e48) (ne_of_old r4_47 l79)) e50) e51) (ne_of_old r4_50 l81)) e53) e54) (ne_of_old r4_53 l83)) e56) n_4_8) e58) n_4_9) e60) n_4_6) e62) n_4_7) n_4_6) n_4_8) n_4_7) n_4_9)
      have r6_23 := (row_ext (Puts.row p22 (Puts.row p21 (Puts.row p20 (Puts.row p19 q5 n_5_6) n_5_8) n_5_7) n_5_9) e23)
      have r6_26 := (row_ext (Puts.row p25 (row_ext r6_23 e24) (ne_of_old r6_23 l63)) e26)
      have r6_29 := (row_ext (Puts.row p28 (row_ext r6_26 e27) (ne_of_old r6_26 l65)) e29)
      have r6_32 := (row_ext (Puts.row p31 (row_ext r6_29 e30) (ne_of_old r6_29 l67)) e32)
      have r6_35 := (row_ext (Puts.row p34 (row_ext r6_32 e33) (ne_of_old r6_32 l69)) e35)
      have r6_38 := (row_ext (Puts.row p37 (row_ext r6_35 e36) (ne_of_old r6_35 l71)) e38)
      have r6_41 := (row_ext (Puts.row p40 (row_ext r6_38 e39) (ne_of_old r6_38 l73)) e41)
      have r6_44 := (row_ext (Puts.row p43 (row_ext r6_41 e42) (ne_of_old r6_41 l75)) e44)
      have r6_47 := (row_ext (Puts.row p46 (row_ext r6_44 e45) (ne_of_old r6_44 l77)) e47)
      have r6_50 := (row_ext (Puts.row p49 (row_ext r6_47 e48) (ne_of_old r6_47 l79)) e50)
      have r6_53 := (row_ext (Puts.row p52 (row_ext r6_50 e51) (ne_of_old r6_50 l81)) e53)
      have r6_67 := (Puts.row p67 (Puts.row p66 (Puts.row p65 (Puts.row p64 (Puts.row p63 (row_ext (Puts.row p61 (row_ext (Puts.row p59 (row_ext (Puts.row p57 (row_ext (Puts.row p55 (row_ext (row_ext (Puts.row p52 (row_ext (row_ext (Puts.row p49 (row_ext (row_ext (Puts.row p46 (row_ext (row_ext (Puts.row p43 (row_ext (row_ext (Puts.row p40 (row_ext (row_ext (Puts.row p37 (row_ext (row_ext (Puts.row p34 (row_ext (row_ext (Puts.row p31 (row_ext (row_ext (Puts.row p28 (row_ext (row_ext (Puts.row p25 (row_ext (row_ext (Puts.row p22 (Puts.row p21 (Puts.row p20 (Puts.row p19 q5 n_5_6) n_5_8) n_5_7) n_5_9) e23) e24) (ne_of_old r6_23 l63)) e26) e27) (ne_of_old r6_26 l65)) e29) e30) (ne_of_old r6_29 l67)) e32) e33) (ne_of_old r6_32 l69)) e35) e36) (ne_of_old r6_35 l71)) e38) e39) (ne_of_old r6_38 l73)) e41) e42) (ne_of_old r6_41 l75)) e44) e45) (ne_of_old r6_44 l77)) e47) e48) (ne_of_old r6_47 l79)) e50) e51) (ne_of_old r6_50 l81)) e53) e54) (ne_of_old r6_53 l83)) e56) n_5_8) e58) n_5_9) e60) n_5_6) e62) n_5_7) n_5_6) n_5_8) n_5_7) n_5_9)
      have r8_67 := (Puts.row p67 (Puts.row p66 (Puts.row p65 r8_64 n_6_8) n_6_7) n_6_9)
      have r10_67 := (Puts.row p67 r10_66 n_7_9)
      have r12_67 := (Puts.row p67 (Puts.row p66 r12_65 n_8_7) n_8_9)
      have r16_67 := (Puts.row p67 (Puts.row p66 (Puts.row p65 (Puts.row p64 (Puts.row p63 (row_ext r16_61 e62) n_10_7) n_10_6) n_10_8) n_10_7) n_10_9)
      have hl : lstep u c d a b = (s14, s17, s11, s13) := by subst_vars; rfl
      have hS : crungs u es j = (s11, s13, s14, s17) := by
        rw [hS0]
        simp only [rung, hl, if_true]
      exact goes_then j ⟨rfl, rfl, rfl, rfl, rfl, rfl, rfl, rfl, rfl, rfl, trivial⟩ ⟨by omega, r2_67, r3_67, r4_67, r6_67, by rw [hS]; exact r8_67, by rw [hS]; exact r10_67, by rw [hS]; exact r12_67, by rw [hS]; exact r14_67, r16_67, x67⟩ (Nat.lt_succ_self j)
    · have hbit : Int.tmod (nth es (j / 8) / 2 ^ (j % 8)) 2 = 0 := bit_tmod es j hcb (by omega)
      rw [show bitB es j = false by simp [bitB, hb1]] at hS0
      obtain ⟨s0, e_s0⟩ : ∃ s, s = (a + b) % p := ⟨_, rfl⟩
      have is0 : isN s0 := e_s0 ▸ isN_mod _
      have c_s0 : ∀ W, Calls Try.prog 26 #[lnum a, lnum b] W (Ret W (lnum s0)) := by rw [e_s0]; exact (lAdd a b (isN_big ia) (isN_big ib))
      obtain ⟨s1, e_s1⟩ : ∃ s, s = (a - b) % p := ⟨_, rfl⟩
      have is1 : isN s1 := e_s1 ▸ isN_mod _
      have c_s1 : ∀ W, Calls Try.prog 28 #[lnum a, lnum b] W (Ret W (lnum s1)) := by rw [e_s1]; exact (lSub a b (isN_big ia) (isN_le ib))
      obtain ⟨s2, e_s2⟩ : ∃ s, s = (c + d) % p := ⟨_, rfl⟩
      have is2 : isN s2 := e_s2 ▸ isN_mod _
      have c_s2 : ∀ W, Calls Try.prog 26 #[lnum c, lnum d] W (Ret W (lnum s2)) := by rw [e_s2]; exact (lAdd c d (isN_big ic) (isN_big id))
      obtain ⟨s3, e_s3⟩ : ∃ s, s = (c - d) % p := ⟨_, rfl⟩
      have is3 : isN s3 := e_s3 ▸ isN_mod _
      have c_s3 : ∀ W, Calls Try.prog 28 #[lnum c, lnum d] W (Ret W (lnum s3)) := by rw [e_s3]; exact (lSub c d (isN_big ic) (isN_le id))
      obtain ⟨s4, e_s4⟩ : ∃ s, s = s0 * s0 % p := ⟨_, rfl⟩
      have is4 : isN s4 := e_s4 ▸ isN_mod _
      have c_s4 : ∀ W, Calls Try.prog 31 #[lnum s0, lnum s0] W (Ret W (lnum s4)) := by rw [e_s4]; exact (lMul s0 s0 (isN_big is0) (isN_big is0))
      obtain ⟨s5, e_s5⟩ : ∃ s, s = s1 * s1 % p := ⟨_, rfl⟩
      have is5 : isN s5 := e_s5 ▸ isN_mod _
      have c_s5 : ∀ W, Calls Try.prog 31 #[lnum s1, lnum s1] W (Ret W (lnum s5)) := by rw [e_s5]; exact (lMul s1 s1 (isN_big is1) (isN_big is1))
      obtain ⟨s6, e_s6⟩ : ∃ s, s = (s4 - s5) % p := ⟨_, rfl⟩
      have is6 : isN s6 := e_s6 ▸ isN_mod _
      have c_s6 : ∀ W, Calls Try.prog 28 #[lnum s4, lnum s5] W (Ret W (lnum s6)) := by rw [e_s6]; exact (lSub s4 s5 (isN_big is4) (isN_le is5))
      obtain ⟨s7, e_s7⟩ : ∃ s, s = s3 * s0 % p := ⟨_, rfl⟩
      have is7 : isN s7 := e_s7 ▸ isN_mod _
      have c_s7 : ∀ W, Calls Try.prog 31 #[lnum s3, lnum s0] W (Ret W (lnum s7)) := by rw [e_s7]; exact (lMul s3 s0 (isN_big is3) (isN_big is0))
      obtain ⟨s8, e_s8⟩ : ∃ s, s = s2 * s1 % p := ⟨_, rfl⟩
      have is8 : isN s8 := e_s8 ▸ isN_mod _
      have c_s8 : ∀ W, Calls Try.prog 31 #[lnum s2, lnum s1] W (Ret W (lnum s8)) := by rw [e_s8]; exact (lMul s2 s1 (isN_big is2) (isN_big is1))
      obtain ⟨s9, e_s9⟩ : ∃ s, s = (s7 + s8) % p := ⟨_, rfl⟩
      have is9 : isN s9 := e_s9 ▸ isN_mod _
      have c_s9 : ∀ W, Calls Try.prog 26 #[lnum s7, lnum s8] W (Ret W (lnum s9)) := by rw [e_s9]; exact (lAdd s7 s8 (isN_big is7) (isN_big is8))
      obtain ⟨s10, e_s10⟩ : ∃ s, s = (s7 - s8) % p := ⟨_, rfl⟩
      have is10 : isN s10 := e_s10 ▸ isN_mod _
      have c_s10 : ∀ W, Calls Try.prog 28 #[lnum s7, lnum s8] W (Ret W (lnum s10)) := by rw [e_s10]; exact (lSub s7 s8 (isN_big is7) (isN_le is8))
      obtain ⟨s11, e_s11⟩ : ∃ s, s = s9 * s9 % p := ⟨_, rfl⟩
      have is11 : isN s11 := e_s11 ▸ isN_mod _
      have c_s11 : ∀ W, Calls Try.prog 31 #[lnum s9, lnum s9] W (Ret W (lnum s11)) := by rw [e_s11]; exact (lMul s9 s9 (isN_big is9) (isN_big is9))
      obtain ⟨s12, e_s12⟩ : ∃ s, s = s10 * s10 % p := ⟨_, rfl⟩
      have is12 : isN s12 := e_s12 ▸ isN_mod _
      have c_s12 : ∀ W, Calls Try.prog 31 #[lnum s10, lnum s10] W (Ret W (lnum s12)) := by rw [e_s12]; exact (lMul s10 s10 (isN_big is10) (isN_big is10))
      obtain ⟨s13, e_s13⟩ : ∃ s, s = u * s12 % p := ⟨_, rfl⟩
      have is13 : isN s13 := e_s13 ▸ isN_mod _
      have c_s13 : ∀ W, Calls Try.prog 31 #[lnum u, lnum s12] W (Ret W (lnum s13)) := by rw [e_s13]; exact (lMul u s12 (isN_big iu) (isN_big is12))
      obtain ⟨s14, e_s14⟩ : ∃ s, s = s4 * s5 % p := ⟨_, rfl⟩
      have is14 : isN s14 := e_s14 ▸ isN_mod _
      have c_s14 : ∀ W, Calls Try.prog 31 #[lnum s4, lnum s5] W (Ret W (lnum s14)) := by rw [e_s14]; exact (lMul s4 s5 (isN_big is4) (isN_big is5))
      obtain ⟨s15, e_s15⟩ : ∃ s, s = s6 * 121665 % p := ⟨_, rfl⟩
      have is15 : isN s15 := e_s15 ▸ isN_mod _
      have c_s15 : ∀ W, Calls Try.prog 31 #[lnum 121665, lnum s6] W (Ret W (lnum s15)) := by rw [e_s15]; exact (mulc s6 is6)
      obtain ⟨s16, e_s16⟩ : ∃ s, s = (s4 + s15) % p := ⟨_, rfl⟩
      have is16 : isN s16 := e_s16 ▸ isN_mod _
      have c_s16 : ∀ W, Calls Try.prog 26 #[lnum s4, lnum s15] W (Ret W (lnum s16)) := by rw [e_s16]; exact (lAdd s4 s15 (isN_big is4) (isN_big is15))
      obtain ⟨s17, e_s17⟩ : ∃ s, s = s6 * s16 % p := ⟨_, rfl⟩
      have is17 : isN s17 := e_s17 ▸ isN_mod _
      have c_s17 : ∀ W, Calls Try.prog 31 #[lnum s6, lnum s16] W (Ret W (lnum s17)) := by rw [e_s17]; exact (lMul s6 s16 (isN_big is6) (isN_big is16))
      refine wp_seq_k fun K22 hK22 => ?_
      refine wp_seq_k fun K23 hK23 => ?_
      refine region_lit ?_
      refine seq_val (.int .i64 ((j : Int))) 31 rfl (by kernel_rfl) (by kernel_rfl) ?_
      refine seq_val (.bool true) 32 rfl (by kernel_rfl) (run_eq (u := .bool (decide (((j : Int)) ≥ 0))) (by kernel_rfl) (congrArg Value.bool (decide_eq_true (by omega)))) ?_
      refine seq_nil ?_
      refine hK23 _ _ ?_
      try clear hK23 K23
      refine cond_true (by kernel_rfl) ?_
      refine wp_skip ?_
      refine hK22 _ _ ?_
      try clear hK22 K22
      refine wp_seq_k fun K24 hK24 => ?_
      refine wp_block ?_
      refine wp_seq_k fun K25 hK25 => ?_
      refine region_lit ?_
      refine seq_val (.int .i64 ((j : Int))) 35 rfl (by kernel_rfl) (by kernel_rfl) ?_
      refine seq_val (.int .i64 (((j / 8 : Nat) : Int))) 36 rfl (by kernel_rfl) (run_eq (u := .int .i64 (IntKind.i64.wrap (Int.tdiv (((j : Int))) (8)))) (by kernel_rfl) (congrArg (Value.int .i64) (i64_quo j 8 (by omega)))) ?_
      refine seq_val (.pointer (some ⟨g6, j / 8, none⟩)) 37 rfl (by kernel_rfl) (run_index0 _ _ _ .i64 (j / 8) _ 32 5 rfl (by kernel_rfl) (by kernel_rfl) (by kernel_rfl) (by kernel_rfl) (by omega)) ?_
      refine seq_val (.int .u8 (nth es (j / 8))) 38 rfl (by kernel_rfl) (run_loadC1 5 _ g6 (j / 8) 23 _ (.int .u8 (nth es (j / 8))) _ q5 rfl (by kernel_rfl) (ints_get _ _ _ (by omega)) (by kernel_rfl)) ?_
      refine seq_val (.int .i64 ((j : Int))) 39 rfl (by kernel_rfl) (by kernel_rfl) ?_
      refine seq_val (.int .i64 (((j % 8 : Nat) : Int))) 40 rfl (by kernel_rfl) (run_eq (u := .int .i64 (Int.tmod (((j : Int))) (8))) (by kernel_rfl) (congrArg (Value.int .i64) (nat_rem j 8))) ?_
      refine seq_val (.int .u64 (((j % 8 : Nat) : Int))) 41 rfl (by kernel_rfl) (run_eq (u := .int .u64 (IntKind.u64.wrap (((j % 8 : Nat) : Int)))) (by kernel_rfl) (congrArg (Value.int .u64) (u64_nat _ (by omega)))) ?_
      refine seq_val (.int .u8 (nth es (j / 8) / 2 ^ (j % 8))) 42 rfl (by kernel_rfl) (run_bin .shr _ _ _ _ .u8 .u64 _ _ _ rfl (by kernel_rfl) (by kernel_rfl) (b_shr _ _ _ _ _ _ (by omega) (shr8 _ _ (by omega)))) ?_
      refine seq_val (.int .u8 (0)) 43 rfl (by kernel_rfl) (run_eq (u := .int .u8 (Int.tmod ((nth es (j / 8) / 2 ^ (j % 8))) (2))) (by kernel_rfl) (congrArg (Value.int .u8) hbit)) ?_
      refine seq_val (.int .u8 (0)) 12 rfl (by kernel_rfl) (by kernel_rfl) ?_
      refine seq_nil ?_
      refine hK25 _ _ ?_
      try clear hK25 K25
      refine wp_seq_k fun K26 hK26 => ?_
      refine wp_seq_k fun K27 hK27 => ?_
      refine region_lit ?_
      refine seq_val (.int .u8 (0)) 44 rfl (by kernel_rfl) (by kernel_rfl) ?_
      refine seq_val (.bool false) 45 rfl (by kernel_rfl) (by kernel_rfl) ?_
      refine seq_nil ?_
      refine hK27 _ _ ?_
      try clear hK27 K27
      refine cond_false (by kernel_rfl) ?_
      refine wp_skip ?_
      refine hK26 _ _ ?_
      try clear hK26 K26
      refine wp_seq_k fun K28 hK28 => ?_
      refine region_lit ?_
      refine seq_val (.agg (ints .i64 (lims (a)))) 50 rfl (by kernel_rfl) (run_load_row 32 _ g8 32 _ _ q6 rfl (by kernel_rfl) (by kernel_rfl) (isz (n := 16) (by kernel_rfl) (by kernel_rfl))) ?_
      refine seq_val (.agg (ints .i64 (lims (b)))) 51 rfl (by kernel_rfl) (run_load_row 32 _ g10 32 _ _ q7 rfl (by kernel_rfl) (by kernel_rfl) (isz (n := 16) (by kernel_rfl) (by kernel_rfl))) ?_
      refine seq_call (.agg (ints .i64 (lims (s0)))) 26 #[.agg (ints .i64 (lims (a))), .agg (ints .i64 (lims (b)))] 52 rfl (by kernel_rfl) (by kernel_rfl) (c_s0 _) fun W19 e19 => ?_
      have x19 : Ext w W19 := Ext.tr xx e19
      refine seq_alloc (ints .i64 (lims (0))) 32 13 rfl (by kernel_rfl) (by kernel_rfl) fun g29 W20 l29 e20 r29_20 => ?_
      have x20 : Ext w W20 := Ext.tr x19 e20
      have b29 : w.heap.size ≤ g29 := Nat.le_trans x19.size l29
      refine seq_store g29 _ (ints .i64 (lims (s0))) 32 r29_20 rfl (by kernel_rfl) (run_store_row 32 _ _ g29 32 _ _ r29_20 rfl (by kernel_rfl) (by kernel_rfl) (isz (n := 16) (by kernel_rfl) (by kernel_rfl)) (eqsz (n := 16) (by kernel_rfl) (by kernel_rfl)) (by kernel_rfl)) fun W21 p21 r29_21 => ?_
      have x21 : Ext w W21 := Puts.ext p21 x20 b29
      refine seq_nil ?_
      refine hK28 _ _ ?_
      try clear hK28 K28
      refine wp_seq_k fun K30 hK30 => ?_
      refine region_lit ?_
      have r8_19 := (row_ext q6 e19)
      have r8_21 := (Puts.row p21 (row_ext (row_ext q6 e19) e20) (ne_of_old r8_19 l29))
      refine seq_val (.agg (ints .i64 (lims (a)))) 53 rfl (by kernel_rfl) (run_load_row 32 _ g8 32 _ _ r8_21 rfl (by kernel_rfl) (by kernel_rfl) (isz (n := 16) (by kernel_rfl) (by kernel_rfl))) ?_
      have r10_19 := (row_ext q7 e19)
      have r10_21 := (Puts.row p21 (row_ext (row_ext q7 e19) e20) (ne_of_old r10_19 l29))
      refine seq_val (.agg (ints .i64 (lims (b)))) 54 rfl (by kernel_rfl) (run_load_row 32 _ g10 32 _ _ r10_21 rfl (by kernel_rfl) (by kernel_rfl) (isz (n := 16) (by kernel_rfl) (by kernel_rfl))) ?_
      refine seq_call (.agg (ints .i64 (lims (s1)))) 28 #[.agg (ints .i64 (lims (a))), .agg (ints .i64 (lims (b)))] 55 rfl (by kernel_rfl) (by kernel_rfl) (c_s1 _) fun W22 e22 => ?_
      have x22 : Ext w W22 := Ext.tr x21 e22
      refine seq_alloc (ints .i64 (lims (0))) 32 14 rfl (by kernel_rfl) (by kernel_rfl) fun g31 W23 l31 e23 r31_23 => ?_
      have x23 : Ext w W23 := Ext.tr x22 e23
      have b31 : w.heap.size ≤ g31 := Nat.le_trans x22.size l31
      refine seq_store g31 _ (ints .i64 (lims (s1))) 32 r31_23 rfl (by kernel_rfl) (run_store_row 32 _ _ g31 32 _ _ r31_23 rfl (by kernel_rfl) (by kernel_rfl) (isz (n := 16) (by kernel_rfl) (by kernel_rfl)) (eqsz (n := 16) (by kernel_rfl) (by kernel_rfl)) (by kernel_rfl)) fun W24 p24 r31_24 => ?_
      have x24 : Ext w W24 := Puts.ext p24 x23 b31
      refine seq_nil ?_
      refine hK30 _ _ ?_
      try clear hK30 K30
      refine wp_seq_k fun K32 hK32 => ?_
      refine region_lit ?_
      have r12_19 := (row_ext q8 e19)
      have r12_22 := (row_ext (Puts.row p21 (row_ext r12_19 e20) (ne_of_old r12_19 l29)) e22)
      have r12_24 := (Puts.row p24 (row_ext (row_ext (Puts.row p21 (row_ext (row_ext q8 e19) e20) (ne_of_old r12_19 l29)) e22) e23) (ne_of_old r12_22 l31))
      refine seq_val (.agg (ints .i64 (lims (c)))) 56 rfl (by kernel_rfl) (run_load_row 32 _ g12 32 _ _ r12_24 rfl (by kernel_rfl) (by kernel_rfl) (isz (n := 16) (by kernel_rfl) (by kernel_rfl))) ?_
      have r14_19 := (row_ext q9 e19)
      have r14_22 := (row_ext (Puts.row p21 (row_ext r14_19 e20) (ne_of_old r14_19 l29)) e22)
      have r14_24 := (Puts.row p24 (row_ext (row_ext (Puts.row p21 (row_ext (row_ext q9 e19) e20) (ne_of_old r14_19 l29)) e22) e23) (ne_of_old r14_22 l31))
      refine seq_val (.agg (ints .i64 (lims (d)))) 57 rfl (by kernel_rfl) (run_load_row 32 _ g14 32 _ _ r14_24 rfl (by kernel_rfl) (by kernel_rfl) (isz (n := 16) (by kernel_rfl) (by kernel_rfl))) ?_
      refine seq_call (.agg (ints .i64 (lims (s2)))) 26 #[.agg (ints .i64 (lims (c))), .agg (ints .i64 (lims (d)))] 58 rfl (by kernel_rfl) (by kernel_rfl) (c_s2 _) fun W25 e25 => ?_
      have x25 : Ext w W25 := Ext.tr x24 e25
      refine seq_alloc (ints .i64 (lims (0))) 32 15 rfl (by kernel_rfl) (by kernel_rfl) fun g33 W26 l33 e26 r33_26 => ?_
      have x26 : Ext w W26 := Ext.tr x25 e26
      have b33 : w.heap.size ≤ g33 := Nat.le_trans x25.size l33
      refine seq_store g33 _ (ints .i64 (lims (s2))) 32 r33_26 rfl (by kernel_rfl) (run_store_row 32 _ _ g33 32 _ _ r33_26 rfl (by kernel_rfl) (by kernel_rfl) (isz (n := 16) (by kernel_rfl) (by kernel_rfl)) (eqsz (n := 16) (by kernel_rfl) (by kernel_rfl)) (by kernel_rfl)) fun W27 p27 r33_27 => ?_
      have x27 : Ext w W27 := Puts.ext p27 x26 b33
      refine seq_nil ?_
      refine hK32 _ _ ?_
      try clear hK32 K32
      refine wp_seq_k fun K34 hK34 => ?_
      refine region_lit ?_
      have r12_25 := (row_ext r12_24 e25)
      have r12_27 := (Puts.row p27 (row_ext (row_ext r12_24 e25) e26) (ne_of_old r12_25 l33))
      refine seq_val (.agg (ints .i64 (lims (c)))) 59 rfl (by kernel_rfl) (run_load_row 32 _ g12 32 _ _ r12_27 rfl (by kernel_rfl) (by kernel_rfl) (isz (n := 16) (by kernel_rfl) (by kernel_rfl))) ?_
      have r14_25 := (row_ext r14_24 e25)
      have r14_27 := (Puts.row p27 (row_ext (row_ext r14_24 e25) e26) (ne_of_old r14_25 l33))
      refine seq_val (.agg (ints .i64 (lims (d)))) 60 rfl (by kernel_rfl) (run_load_row 32 _ g14 32 _ _ r14_27 rfl (by kernel_rfl) (by kernel_rfl) (isz (n := 16) (by kernel_rfl) (by kernel_rfl))) ?_
      refine seq_call (.agg (ints .i64 (lims (s3)))) 28 #[.agg (ints .i64 (lims (c))), .agg (ints .i64 (lims (d)))] 61 rfl (by kernel_rfl) (by kernel_rfl) (c_s3 _) fun W28 e28 => ?_
      have x28 : Ext w W28 := Ext.tr x27 e28
      refine seq_alloc (ints .i64 (lims (0))) 32 16 rfl (by kernel_rfl) (by kernel_rfl) fun g35 W29 l35 e29 r35_29 => ?_
      have x29 : Ext w W29 := Ext.tr x28 e29
      have b35 : w.heap.size ≤ g35 := Nat.le_trans x28.size l35
      refine seq_store g35 _ (ints .i64 (lims (s3))) 32 r35_29 rfl (by kernel_rfl) (run_store_row 32 _ _ g35 32 _ _ r35_29 rfl (by kernel_rfl) (by kernel_rfl) (isz (n := 16) (by kernel_rfl) (by kernel_rfl)) (eqsz (n := 16) (by kernel_rfl) (by kernel_rfl)) (by kernel_rfl)) fun W30 p30 r35_30 => ?_
      have x30 : Ext w W30 := Puts.ext p30 x29 b35
      refine seq_nil ?_
      refine hK34 _ _ ?_
      try clear hK34 K34
      refine wp_seq_k fun K36 hK36 => ?_
      refine region_lit ?_
      have r29_22 := (row_ext r29_21 e22)
      have r29_25 := (row_ext (Puts.row p24 (row_ext r29_22 e23) (ne_of_old r29_22 l31)) e25)
      have r29_28 := (row_ext (Puts.row p27 (row_ext r29_25 e26) (ne_of_old r29_25 l33)) e28)
      have r29_30 := (Puts.row p30 (row_ext (row_ext (Puts.row p27 (row_ext (row_ext (Puts.row p24 (row_ext (row_ext r29_21 e22) e23) (ne_of_old r29_22 l31)) e25) e26) (ne_of_old r29_25 l33)) e28) e29) (ne_of_old r29_28 l35))
      refine seq_val (.agg (ints .i64 (lims (s0)))) 62 rfl (by kernel_rfl) (run_load_row 32 _ g29 32 _ _ r29_30 rfl (by kernel_rfl) (by kernel_rfl) (isz (n := 16) (by kernel_rfl) (by kernel_rfl))) ?_
      refine seq_val (.agg (ints .i64 (lims (s0)))) 63 rfl (by kernel_rfl) (run_load_row 32 _ g29 32 _ _ r29_30 rfl (by kernel_rfl) (by kernel_rfl) (isz (n := 16) (by kernel_rfl) (by kernel_rfl))) ?_
      refine seq_call (.agg (ints .i64 (lims (s4)))) 31 #[.agg (ints .i64 (lims (s0))), .agg (ints .i64 (lims (s0)))] 64 rfl (by kernel_rfl) (by kernel_rfl) (c_s4 _) fun W31 e31 => ?_
      have x31 : Ext w W31 := Ext.tr x30 e31
      refine seq_alloc (ints .i64 (lims (0))) 32 17 rfl (by kernel_rfl) (by kernel_rfl) fun g37 W32 l37 e32 r37_32 => ?_
      have x32 : Ext w W32 := Ext.tr x31 e32
      have b37 : w.heap.size ≤ g37 := Nat.le_trans x31.size l37
      refine seq_store g37 _ (ints .i64 (lims (s4))) 32 r37_32 rfl (by kernel_rfl) (run_store_row 32 _ _ g37 32 _ _ r37_32 rfl (by kernel_rfl) (by kernel_rfl) (isz (n := 16) (by kernel_rfl) (by kernel_rfl)) (eqsz (n := 16) (by kernel_rfl) (by kernel_rfl)) (by kernel_rfl)) fun W33 p33 r37_33 => ?_
      have x33 : Ext w W33 := Puts.ext p33 x32 b37
      refine seq_nil ?_
      refine hK36 _ _ ?_
      try clear hK36 K36
      refine wp_seq_k fun K38 hK38 => ?_
      refine region_lit ?_
      have r31_25 := (row_ext r31_24 e25)
      have r31_28 := (row_ext (Puts.row p27 (row_ext r31_25 e26) (ne_of_old r31_25 l33)) e28)
      have r31_31 := (row_ext (Puts.row p30 (row_ext r31_28 e29) (ne_of_old r31_28 l35)) e31)
      have r31_33 := (Puts.row p33 (row_ext (row_ext (Puts.row p30 (row_ext (row_ext (Puts.row p27 (row_ext (row_ext r31_24 e25) e26) (ne_of_old r31_25 l33)) e28) e29) (ne_of_old r31_28 l35)) e31) e32) (ne_of_old r31_31 l37))
      refine seq_val (.agg (ints .i64 (lims (s1)))) 65 rfl (by kernel_rfl) (run_load_row 32 _ g31 32 _ _ r31_33 rfl (by kernel_rfl) (by kernel_rfl) (isz (n := 16) (by kernel_rfl) (by kernel_rfl))) ?_
      refine seq_val (.agg (ints .i64 (lims (s1)))) 66 rfl (by kernel_rfl) (run_load_row 32 _ g31 32 _ _ r31_33 rfl (by kernel_rfl) (by kernel_rfl) (isz (n := 16) (by kernel_rfl) (by kernel_rfl))) ?_
      refine seq_call (.agg (ints .i64 (lims (s5)))) 31 #[.agg (ints .i64 (lims (s1))), .agg (ints .i64 (lims (s1)))] 67 rfl (by kernel_rfl) (by kernel_rfl) (c_s5 _) fun W34 e34 => ?_
      have x34 : Ext w W34 := Ext.tr x33 e34
      refine seq_alloc (ints .i64 (lims (0))) 32 18 rfl (by kernel_rfl) (by kernel_rfl) fun g39 W35 l39 e35 r39_35 => ?_
      have x35 : Ext w W35 := Ext.tr x34 e35
      have b39 : w.heap.size ≤ g39 := Nat.le_trans x34.size l39
      refine seq_store g39 _ (ints .i64 (lims (s5))) 32 r39_35 rfl (by kernel_rfl) (run_store_row 32 _ _ g39 32 _ _ r39_35 rfl (by kernel_rfl) (by kernel_rfl) (isz (n := 16) (by kernel_rfl) (by kernel_rfl)) (eqsz (n := 16) (by kernel_rfl) (by kernel_rfl)) (by kernel_rfl)) fun W36 p36 r39_36 => ?_
      have x36 : Ext w W36 := Puts.ext p36 x35 b39
      refine seq_nil ?_
      refine hK38 _ _ ?_
      try clear hK38 K38
      refine wp_seq_k fun K40 hK40 => ?_
      refine region_lit ?_
      have r37_34 := (row_ext r37_33 e34)
      have r37_36 := (Puts.row p36 (row_ext (row_ext r37_33 e34) e35) (ne_of_old r37_34 l39))
      refine seq_val (.agg (ints .i64 (lims (s4)))) 68 rfl (by kernel_rfl) (run_load_row 32 _ g37 32 _ _ r37_36 rfl (by kernel_rfl) (by kernel_rfl) (isz (n := 16) (by kernel_rfl) (by kernel_rfl))) ?_
      refine seq_val (.agg (ints .i64 (lims (s5)))) 69 rfl (by kernel_rfl) (run_load_row 32 _ g39 32 _ _ r39_36 rfl (by kernel_rfl) (by kernel_rfl) (isz (n := 16) (by kernel_rfl) (by kernel_rfl))) ?_
      refine seq_call (.agg (ints .i64 (lims (s6)))) 28 #[.agg (ints .i64 (lims (s4))), .agg (ints .i64 (lims (s5)))] 70 rfl (by kernel_rfl) (by kernel_rfl) (c_s6 _) fun W37 e37 => ?_
      have x37 : Ext w W37 := Ext.tr x36 e37
      refine seq_alloc (ints .i64 (lims (0))) 32 19 rfl (by kernel_rfl) (by kernel_rfl) fun g41 W38 l41 e38 r41_38 => ?_
      have x38 : Ext w W38 := Ext.tr x37 e38
      have b41 : w.heap.size ≤ g41 := Nat.le_trans x37.size l41
      refine seq_store g41 _ (ints .i64 (lims (s6))) 32 r41_38 rfl (by kernel_rfl) (run_store_row 32 _ _ g41 32 _ _ r41_38 rfl (by kernel_rfl) (by kernel_rfl) (isz (n := 16) (by kernel_rfl) (by kernel_rfl)) (eqsz (n := 16) (by kernel_rfl) (by kernel_rfl)) (by kernel_rfl)) fun W39 p39 r41_39 => ?_
      have x39 : Ext w W39 := Puts.ext p39 x38 b41
      refine seq_nil ?_
      refine hK40 _ _ ?_
      try clear hK40 K40
      refine wp_seq_k fun K42 hK42 => ?_
      refine region_lit ?_
      have r35_31 := (row_ext r35_30 e31)
      have r35_34 := (row_ext (Puts.row p33 (row_ext r35_31 e32) (ne_of_old r35_31 l37)) e34)
      have r35_37 := (row_ext (Puts.row p36 (row_ext r35_34 e35) (ne_of_old r35_34 l39)) e37)
      have r35_39 := (Puts.row p39 (row_ext (row_ext (Puts.row p36 (row_ext (row_ext (Puts.row p33 (row_ext (row_ext r35_30 e31) e32) (ne_of_old r35_31 l37)) e34) e35) (ne_of_old r35_34 l39)) e37) e38) (ne_of_old r35_37 l41))
      refine seq_val (.agg (ints .i64 (lims (s3)))) 71 rfl (by kernel_rfl) (run_load_row 32 _ g35 32 _ _ r35_39 rfl (by kernel_rfl) (by kernel_rfl) (isz (n := 16) (by kernel_rfl) (by kernel_rfl))) ?_
      have r29_31 := (row_ext r29_30 e31)
      have r29_34 := (row_ext (Puts.row p33 (row_ext r29_31 e32) (ne_of_old r29_31 l37)) e34)
      have r29_37 := (row_ext (Puts.row p36 (row_ext r29_34 e35) (ne_of_old r29_34 l39)) e37)
      have r29_39 := (Puts.row p39 (row_ext (row_ext (Puts.row p36 (row_ext (row_ext (Puts.row p33 (row_ext (row_ext r29_30 e31) e32) (ne_of_old r29_31 l37)) e34) e35) (ne_of_old r29_34 l39)) e37) e38) (ne_of_old r29_37 l41))
      refine seq_val (.agg (ints .i64 (lims (s0)))) 72 rfl (by kernel_rfl) (run_load_row 32 _ g29 32 _ _ r29_39 rfl (by kernel_rfl) (by kernel_rfl) (isz (n := 16) (by kernel_rfl) (by kernel_rfl))) ?_
      refine seq_call (.agg (ints .i64 (lims (s7)))) 31 #[.agg (ints .i64 (lims (s3))), .agg (ints .i64 (lims (s0)))] 73 rfl (by kernel_rfl) (by kernel_rfl) (c_s7 _) fun W40 e40 => ?_
      have x40 : Ext w W40 := Ext.tr x39 e40
      refine seq_alloc (ints .i64 (lims (0))) 32 20 rfl (by kernel_rfl) (by kernel_rfl) fun g43 W41 l43 e41 r43_41 => ?_
      have x41 : Ext w W41 := Ext.tr x40 e41
      have b43 : w.heap.size ≤ g43 := Nat.le_trans x40.size l43
      refine seq_store g43 _ (ints .i64 (lims (s7))) 32 r43_41 rfl (by kernel_rfl) (run_store_row 32 _ _ g43 32 _ _ r43_41 rfl (by kernel_rfl) (by kernel_rfl) (isz (n := 16) (by kernel_rfl) (by kernel_rfl)) (eqsz (n := 16) (by kernel_rfl) (by kernel_rfl)) (by kernel_rfl)) fun W42 p42 r43_42 => ?_
      have x42 : Ext w W42 := Puts.ext p42 x41 b43
      refine seq_nil ?_
      refine hK42 _ _ ?_
      try clear hK42 K42
      refine wp_seq_k fun K44 hK44 => ?_
      refine region_lit ?_
      have r33_28 := (row_ext r33_27 e28)
      have r33_31 := (row_ext (Puts.row p30 (row_ext r33_28 e29) (ne_of_old r33_28 l35)) e31)
      have r33_34 := (row_ext (Puts.row p33 (row_ext r33_31 e32) (ne_of_old r33_31 l37)) e34)
      have r33_37 := (row_ext (Puts.row p36 (row_ext r33_34 e35) (ne_of_old r33_34 l39)) e37)
      have r33_40 := (row_ext (Puts.row p39 (row_ext r33_37 e38) (ne_of_old r33_37 l41)) e40)
      have r33_42 := (Puts.row p42 (row_ext (row_ext (Puts.row p39 (row_ext (row_ext (Puts.row p36 (row_ext (row_ext (Puts.row p33 (row_ext (row_ext (Puts.row p30 (row_ext (row_ext r33_27 e28) e29) (ne_of_old r33_28 l35)) e31) e32) (ne_of_old r33_31 l37)) e34) e35) (ne_of_old r33_34 l39)) e37) e38) (ne_of_old r33_37 l41)) e40) e41) (ne_of_old r33_40 l43))
      refine seq_val (.agg (ints .i64 (lims (s2)))) 74 rfl (by kernel_rfl) (run_load_row 32 _ g33 32 _ _ r33_42 rfl (by kernel_rfl) (by kernel_rfl) (isz (n := 16) (by kernel_rfl) (by kernel_rfl))) ?_
      have r31_34 := (row_ext r31_33 e34)
      have r31_37 := (row_ext (Puts.row p36 (row_ext r31_34 e35) (ne_of_old r31_34 l39)) e37)
      have r31_40 := (row_ext (Puts.row p39 (row_ext r31_37 e38) (ne_of_old r31_37 l41)) e40)
      have r31_42 := (Puts.row p42 (row_ext (row_ext (Puts.row p39 (row_ext (row_ext (Puts.row p36 (row_ext (row_ext r31_33 e34) e35) (ne_of_old r31_34 l39)) e37) e38) (ne_of_old r31_37 l41)) e40) e41) (ne_of_old r31_40 l43))
      refine seq_val (.agg (ints .i64 (lims (s1)))) 75 rfl (by kernel_rfl) (run_load_row 32 _ g31 32 _ _ r31_42 rfl (by kernel_rfl) (by kernel_rfl) (isz (n := 16) (by kernel_rfl) (by kernel_rfl))) ?_
      refine seq_call (.agg (ints .i64 (lims (s8)))) 31 #[.agg (ints .i64 (lims (s2))), .agg (ints .i64 (lims (s1)))] 76 rfl (by kernel_rfl) (by kernel_rfl) (c_s8 _) fun W43 e43 => ?_
      have x43 : Ext w W43 := Ext.tr x42 e43
      refine seq_alloc (ints .i64 (lims (0))) 32 21 rfl (by kernel_rfl) (by kernel_rfl) fun g45 W44 l45 e44 r45_44 => ?_
      have x44 : Ext w W44 := Ext.tr x43 e44
      have b45 : w.heap.size ≤ g45 := Nat.le_trans x43.size l45
      refine seq_store g45 _ (ints .i64 (lims (s8))) 32 r45_44 rfl (by kernel_rfl) (run_store_row 32 _ _ g45 32 _ _ r45_44 rfl (by kernel_rfl) (by kernel_rfl) (isz (n := 16) (by kernel_rfl) (by kernel_rfl)) (eqsz (n := 16) (by kernel_rfl) (by kernel_rfl)) (by kernel_rfl)) fun W45 p45 r45_45 => ?_
      have x45 : Ext w W45 := Puts.ext p45 x44 b45
      refine seq_nil ?_
      refine hK44 _ _ ?_
      try clear hK44 K44
      refine wp_seq_k fun K46 hK46 => ?_
      refine region_lit ?_
      have r43_43 := (row_ext r43_42 e43)
      have r43_45 := (Puts.row p45 (row_ext (row_ext r43_42 e43) e44) (ne_of_old r43_43 l45))
      refine seq_val (.agg (ints .i64 (lims (s7)))) 77 rfl (by kernel_rfl) (run_load_row 32 _ g43 32 _ _ r43_45 rfl (by kernel_rfl) (by kernel_rfl) (isz (n := 16) (by kernel_rfl) (by kernel_rfl))) ?_
      refine seq_val (.agg (ints .i64 (lims (s8)))) 78 rfl (by kernel_rfl) (run_load_row 32 _ g45 32 _ _ r45_45 rfl (by kernel_rfl) (by kernel_rfl) (isz (n := 16) (by kernel_rfl) (by kernel_rfl))) ?_
      refine seq_call (.agg (ints .i64 (lims (s9)))) 26 #[.agg (ints .i64 (lims (s7))), .agg (ints .i64 (lims (s8)))] 79 rfl (by kernel_rfl) (by kernel_rfl) (c_s9 _) fun W46 e46 => ?_
      have x46 : Ext w W46 := Ext.tr x45 e46
      refine seq_alloc (ints .i64 (lims (0))) 32 22 rfl (by kernel_rfl) (by kernel_rfl) fun g47 W47 l47 e47 r47_47 => ?_
      have x47 : Ext w W47 := Ext.tr x46 e47
      have b47 : w.heap.size ≤ g47 := Nat.le_trans x46.size l47
      refine seq_store g47 _ (ints .i64 (lims (s9))) 32 r47_47 rfl (by kernel_rfl) (run_store_row 32 _ _ g47 32 _ _ r47_47 rfl (by kernel_rfl) (by kernel_rfl) (isz (n := 16) (by kernel_rfl) (by kernel_rfl)) (eqsz (n := 16) (by kernel_rfl) (by kernel_rfl)) (by kernel_rfl)) fun W48 p48 r47_48 => ?_
      have x48 : Ext w W48 := Puts.ext p48 x47 b47
      refine seq_nil ?_
      refine hK46 _ _ ?_
      try clear hK46 K46
      refine wp_seq_k fun K48 hK48 => ?_
      refine region_lit ?_
      have r43_46 := (row_ext r43_45 e46)
      have r43_48 := (Puts.row p48 (row_ext (row_ext r43_45 e46) e47) (ne_of_old r43_46 l47))
      refine seq_val (.agg (ints .i64 (lims (s7)))) 80 rfl (by kernel_rfl) (run_load_row 32 _ g43 32 _ _ r43_48 rfl (by kernel_rfl) (by kernel_rfl) (isz (n := 16) (by kernel_rfl) (by kernel_rfl))) ?_
      have r45_46 := (row_ext r45_45 e46)
      have r45_48 := (Puts.row p48 (row_ext (row_ext r45_45 e46) e47) (ne_of_old r45_46 l47))
      refine seq_val (.agg (ints .i64 (lims (s8)))) 81 rfl (by kernel_rfl) (run_load_row 32 _ g45 32 _ _ r45_48 rfl (by kernel_rfl) (by kernel_rfl) (isz (n := 16) (by kernel_rfl) (by kernel_rfl))) ?_
      refine seq_call (.agg (ints .i64 (lims (s10)))) 28 #[.agg (ints .i64 (lims (s7))), .agg (ints .i64 (lims (s8)))] 82 rfl (by kernel_rfl) (by kernel_rfl) (c_s10 _) fun W49 e49 => ?_
      have x49 : Ext w W49 := Ext.tr x48 e49
      refine seq_alloc (ints .i64 (lims (0))) 32 23 rfl (by kernel_rfl) (by kernel_rfl) fun g49 W50 l49 e50 r49_50 => ?_
      have x50 : Ext w W50 := Ext.tr x49 e50
      have b49 : w.heap.size ≤ g49 := Nat.le_trans x49.size l49
      refine seq_store g49 _ (ints .i64 (lims (s10))) 32 r49_50 rfl (by kernel_rfl) (run_store_row 32 _ _ g49 32 _ _ r49_50 rfl (by kernel_rfl) (by kernel_rfl) (isz (n := 16) (by kernel_rfl) (by kernel_rfl)) (eqsz (n := 16) (by kernel_rfl) (by kernel_rfl)) (by kernel_rfl)) fun W51 p51 r49_51 => ?_
      have x51 : Ext w W51 := Puts.ext p51 x50 b49
      refine seq_nil ?_
      refine hK48 _ _ ?_
      try clear hK48 K48
      refine wp_seq_k fun K50 hK50 => ?_
      refine region_lit ?_
      have r47_49 := (row_ext r47_48 e49)
      have r47_51 := (Puts.row p51 (row_ext (row_ext r47_48 e49) e50) (ne_of_old r47_49 l49))
      refine seq_val (.agg (ints .i64 (lims (s9)))) 83 rfl (by kernel_rfl) (run_load_row 32 _ g47 32 _ _ r47_51 rfl (by kernel_rfl) (by kernel_rfl) (isz (n := 16) (by kernel_rfl) (by kernel_rfl))) ?_
      refine seq_val (.agg (ints .i64 (lims (s9)))) 84 rfl (by kernel_rfl) (run_load_row 32 _ g47 32 _ _ r47_51 rfl (by kernel_rfl) (by kernel_rfl) (isz (n := 16) (by kernel_rfl) (by kernel_rfl))) ?_
      refine seq_call (.agg (ints .i64 (lims (s11)))) 31 #[.agg (ints .i64 (lims (s9))), .agg (ints .i64 (lims (s9)))] 85 rfl (by kernel_rfl) (by kernel_rfl) (c_s11 _) fun W52 e52 => ?_
      have x52 : Ext w W52 := Ext.tr x51 e52
      have r12_28 := (row_ext r12_27 e28)
      have r12_31 := (row_ext (Puts.row p30 (row_ext r12_28 e29) (ne_of_old r12_28 l35)) e31)
      have r12_34 := (row_ext (Puts.row p33 (row_ext r12_31 e32) (ne_of_old r12_31 l37)) e34)
      have r12_37 := (row_ext (Puts.row p36 (row_ext r12_34 e35) (ne_of_old r12_34 l39)) e37)
      have r12_40 := (row_ext (Puts.row p39 (row_ext r12_37 e38) (ne_of_old r12_37 l41)) e40)
      have r12_43 := (row_ext (Puts.row p42 (row_ext r12_40 e41) (ne_of_old r12_40 l43)) e43)
      have r12_46 := (row_ext (Puts.row p45 (row_ext r12_43 e44) (ne_of_old r12_43 l45)) e46)
      have r12_49 := (row_ext (Puts.row p48 (row_ext r12_46 e47) (ne_of_old r12_46 l47)) e49)
      have r12_52 := (row_ext (Puts.row p51 (row_ext (row_ext (Puts.row p48 (row_ext (row_ext (Puts.row p45 (row_ext (row_ext (Puts.row p42 (row_ext (row_ext (Puts.row p39 (row_ext (row_ext (Puts.row p36 (row_ext (row_ext (Puts.row p33 (row_ext (row_ext (Puts.row p30 (row_ext (row_ext r12_27 e28) e29) (ne_of_old r12_28 l35)) e31) e32) (ne_of_old r12_31 l37)) e34) e35) (ne_of_old r12_34 l39)) e37) e38) (ne_of_old r12_37 l41)) e40) e41) (ne_of_old r12_40 l43)) e43) e44) (ne_of_old r12_43 l45)) e46) e47) (ne_of_old r12_46 l47)) e49) e50) (ne_of_old r12_49 l49)) e52)
      refine seq_store g12 _ (ints .i64 (lims (s11))) 32 r12_52 rfl (by kernel_rfl) (run_store_row 32 _ _ g12 32 _ _ r12_52 rfl (by kernel_rfl) (by kernel_rfl) (isz (n := 16) (by kernel_rfl) (by kernel_rfl)) (eqsz (n := 16) (by kernel_rfl) (by kernel_rfl)) (by kernel_rfl)) fun W53 p53 r12_53 => ?_
      have x53 : Ext w W53 := Puts.ext p53 x52 b12
      refine seq_nil ?_
      refine hK50 _ _ ?_
      try clear hK50 K50
      refine wp_seq_k fun K51 hK51 => ?_
      refine any_region 5 [⟨none, [(3, none)]⟩, ⟨none, [(23, none)]⟩, ⟨none, [(23, none)]⟩, ⟨none, [(87, some 1), (88, some 2)]⟩, ⟨none, [(86, some 0), (89, some 3)]⟩] (by kernel_rfl) (by kernel_rfl) fun F hF => ?_
      have r3_19 := (row_ext q3 e19)
      have r3_22 := (row_ext (Puts.row p21 (row_ext r3_19 e20) (ne_of_old r3_19 l29)) e22)
      have r3_25 := (row_ext (Puts.row p24 (row_ext r3_22 e23) (ne_of_old r3_22 l31)) e25)
      have r3_28 := (row_ext (Puts.row p27 (row_ext r3_25 e26) (ne_of_old r3_25 l33)) e28)
      have r3_31 := (row_ext (Puts.row p30 (row_ext r3_28 e29) (ne_of_old r3_28 l35)) e31)
      have r3_34 := (row_ext (Puts.row p33 (row_ext r3_31 e32) (ne_of_old r3_31 l37)) e34)
      have r3_37 := (row_ext (Puts.row p36 (row_ext r3_34 e35) (ne_of_old r3_34 l39)) e37)
      have r3_40 := (row_ext (Puts.row p39 (row_ext r3_37 e38) (ne_of_old r3_37 l41)) e40)
      have r3_43 := (row_ext (Puts.row p42 (row_ext r3_40 e41) (ne_of_old r3_40 l43)) e43)
      have r3_46 := (row_ext (Puts.row p45 (row_ext r3_43 e44) (ne_of_old r3_43 l45)) e46)
      have r3_49 := (row_ext (Puts.row p48 (row_ext r3_46 e47) (ne_of_old r3_46 l47)) e49)
      have r3_53 := (Puts.row p53 (row_ext (Puts.row p51 (row_ext (row_ext (Puts.row p48 (row_ext (row_ext (Puts.row p45 (row_ext (row_ext (Puts.row p42 (row_ext (row_ext (Puts.row p39 (row_ext (row_ext (Puts.row p36 (row_ext (row_ext (Puts.row p33 (row_ext (row_ext (Puts.row p30 (row_ext (row_ext (Puts.row p27 (row_ext (row_ext (Puts.row p24 (row_ext (row_ext (Puts.row p21 (row_ext (row_ext q3 e19) e20) (ne_of_old r3_19 l29)) e22) e23) (ne_of_old r3_22 l31)) e25) e26) (ne_of_old r3_25 l33)) e28) e29) (ne_of_old r3_28 l35)) e31) e32) (ne_of_old r3_31 l37)) e34) e35) (ne_of_old r3_34 l39)) e37) e38) (ne_of_old r3_37 l41)) e40) e41) (ne_of_old r3_40 l43)) e43) e44) (ne_of_old r3_43 l45)) e46) e47) (ne_of_old r3_46 l47)) e49) e50) (ne_of_old r3_49 l49)) e52) n_3_8)
      refine any_read (.agg (ints .i64 (lims (u)))) (by kernel_rfl) (by kernel_rfl) (fun W hR => (run_load_row 32 _ g3 32 _ _ (row_ext (row_ext r3_53 (ext_drew _)) hR) rfl (by kernel_rfl) (by kernel_rfl) (isz (n := 16) (by kernel_rfl) (by kernel_rfl)))) ?_
      have r49_53 := (Puts.row p53 (row_ext r49_51 e52) (ne_of_new r12_49 l49))
      refine any_read (.agg (ints .i64 (lims (s10)))) (by kernel_rfl) (by kernel_rfl) (fun W hR => (run_load_row 32 _ g49 32 _ _ (row_ext (row_ext r49_53 (ext_drew _)) hR) rfl (by kernel_rfl) (by kernel_rfl) (isz (n := 16) (by kernel_rfl) (by kernel_rfl)))) ?_
      refine any_read (.agg (ints .i64 (lims (s10)))) (by kernel_rfl) (by kernel_rfl) (fun W hR => (run_load_row 32 _ g49 32 _ _ (row_ext (row_ext r49_53 (ext_drew _)) hR) rfl (by kernel_rfl) (by kernel_rfl) (isz (n := 16) (by kernel_rfl) (by kernel_rfl)))) ?_
      refine any_call (.agg (ints .i64 (lims (s12)))) 31 #[.agg (ints .i64 (lims (s10))), .agg (ints .i64 (lims (s10)))] (by kernel_rfl) (by kernel_rfl) (fun W => by kernel_rfl) (fun W hR => c_s12 W) ?_
      refine any_call (.agg (ints .i64 (lims (s13)))) 31 #[.agg (ints .i64 (lims (u))), .agg (ints .i64 (lims (s12)))] (by kernel_rfl) (by kernel_rfl) (fun W => by kernel_rfl) (fun W hR => c_s13 W) ?_
      refine steps_nil (hF _ (by kernel_rfl) fun W54 e54 => ?_)
      simp only [ups, up, Kn.val, List.take_succ_cons, List.take_zero, List.drop_succ_cons, List.drop_zero, List.nil_append, List.cons_append]
      clear hF
      have x54 : Ext w W54 := Ext.tr x53 e54
      have r14_28 := (row_ext r14_27 e28)
      have r14_31 := (row_ext (Puts.row p30 (row_ext r14_28 e29) (ne_of_old r14_28 l35)) e31)
      have r14_34 := (row_ext (Puts.row p33 (row_ext r14_31 e32) (ne_of_old r14_31 l37)) e34)
      have r14_37 := (row_ext (Puts.row p36 (row_ext r14_34 e35) (ne_of_old r14_34 l39)) e37)
      have r14_40 := (row_ext (Puts.row p39 (row_ext r14_37 e38) (ne_of_old r14_37 l41)) e40)
      have r14_43 := (row_ext (Puts.row p42 (row_ext r14_40 e41) (ne_of_old r14_40 l43)) e43)
      have r14_46 := (row_ext (Puts.row p45 (row_ext r14_43 e44) (ne_of_old r14_43 l45)) e46)
      have r14_49 := (row_ext (Puts.row p48 (row_ext r14_46 e47) (ne_of_old r14_46 l47)) e49)
      have r14_54 := (row_ext (Puts.row p53 (row_ext (Puts.row p51 (row_ext (row_ext (Puts.row p48 (row_ext (row_ext (Puts.row p45 (row_ext (row_ext (Puts.row p42 (row_ext (row_ext (Puts.row p39 (row_ext (row_ext (Puts.row p36 (row_ext (row_ext (Puts.row p33 (row_ext (row_ext (Puts.row p30 (row_ext (row_ext r14_27 e28) e29) (ne_of_old r14_28 l35)) e31) e32) (ne_of_old r14_31 l37)) e34) e35) (ne_of_old r14_34 l39)) e37) e38) (ne_of_old r14_37 l41)) e40) e41) (ne_of_old r14_40 l43)) e43) e44) (ne_of_old r14_43 l45)) e46) e47) (ne_of_old r14_46 l47)) e49) e50) (ne_of_old r14_49 l49)) e52) n_9_8) e54)
      refine seq_store g14 _ (ints .i64 (lims (s13))) 32 r14_54 rfl (by kernel_rfl) (run_store_row 32 _ _ g14 32 _ _ r14_54 rfl (by kernel_rfl) (by kernel_rfl) (isz (n := 16) (by kernel_rfl) (by kernel_rfl)) (eqsz (n := 16) (by kernel_rfl) (by kernel_rfl)) (by kernel_rfl)) fun W55 p55 r14_55 => ?_
      have x55 : Ext w W55 := Puts.ext p55 x54 b14
      refine seq_nil ?_
      refine hK51 _ _ ?_
      try clear hK51 K51
      refine wp_seq_k fun K52 hK52 => ?_
      refine region_lit ?_
      have r37_37 := (row_ext r37_36 e37)
      have r37_40 := (row_ext (Puts.row p39 (row_ext r37_37 e38) (ne_of_old r37_37 l41)) e40)
      have r37_43 := (row_ext (Puts.row p42 (row_ext r37_40 e41) (ne_of_old r37_40 l43)) e43)
      have r37_46 := (row_ext (Puts.row p45 (row_ext r37_43 e44) (ne_of_old r37_43 l45)) e46)
      have r37_49 := (row_ext (Puts.row p48 (row_ext r37_46 e47) (ne_of_old r37_46 l47)) e49)
      have r37_55 := (Puts.row p55 (row_ext (Puts.row p53 (row_ext (Puts.row p51 (row_ext (row_ext (Puts.row p48 (row_ext (row_ext (Puts.row p45 (row_ext (row_ext (Puts.row p42 (row_ext (row_ext (Puts.row p39 (row_ext (row_ext r37_36 e37) e38) (ne_of_old r37_37 l41)) e40) e41) (ne_of_old r37_40 l43)) e43) e44) (ne_of_old r37_43 l45)) e46) e47) (ne_of_old r37_46 l47)) e49) e50) (ne_of_old r37_49 l49)) e52) (ne_of_new r12_31 l37)) e54) (ne_of_new r14_31 l37))
      refine seq_val (.agg (ints .i64 (lims (s4)))) 91 rfl (by kernel_rfl) (run_load_row 32 _ g37 32 _ _ r37_55 rfl (by kernel_rfl) (by kernel_rfl) (isz (n := 16) (by kernel_rfl) (by kernel_rfl))) ?_
      have r39_37 := (row_ext r39_36 e37)
      have r39_40 := (row_ext (Puts.row p39 (row_ext r39_37 e38) (ne_of_old r39_37 l41)) e40)
      have r39_43 := (row_ext (Puts.row p42 (row_ext r39_40 e41) (ne_of_old r39_40 l43)) e43)
      have r39_46 := (row_ext (Puts.row p45 (row_ext r39_43 e44) (ne_of_old r39_43 l45)) e46)
      have r39_49 := (row_ext (Puts.row p48 (row_ext r39_46 e47) (ne_of_old r39_46 l47)) e49)
      have r39_55 := (Puts.row p55 (row_ext (Puts.row p53 (row_ext (Puts.row p51 (row_ext (row_ext (Puts.row p48 (row_ext (row_ext (Puts.row p45 (row_ext (row_ext (Puts.row p42 (row_ext (row_ext (Puts.row p39 (row_ext (row_ext r39_36 e37) e38) (ne_of_old r39_37 l41)) e40) e41) (ne_of_old r39_40 l43)) e43) e44) (ne_of_old r39_43 l45)) e46) e47) (ne_of_old r39_46 l47)) e49) e50) (ne_of_old r39_49 l49)) e52) (ne_of_new r12_34 l39)) e54) (ne_of_new r14_34 l39))
      refine seq_val (.agg (ints .i64 (lims (s5)))) 92 rfl (by kernel_rfl) (run_load_row 32 _ g39 32 _ _ r39_55 rfl (by kernel_rfl) (by kernel_rfl) (isz (n := 16) (by kernel_rfl) (by kernel_rfl))) ?_
      refine seq_call (.agg (ints .i64 (lims (s14)))) 31 #[.agg (ints .i64 (lims (s4))), .agg (ints .i64 (lims (s5)))] 93 rfl (by kernel_rfl) (by kernel_rfl) (c_s14 _) fun W56 e56 => ?_
      have x56 : Ext w W56 := Ext.tr x55 e56
      have r8_22 := (row_ext r8_21 e22)
      have r8_25 := (row_ext (Puts.row p24 (row_ext r8_22 e23) (ne_of_old r8_22 l31)) e25)
      have r8_28 := (row_ext (Puts.row p27 (row_ext r8_25 e26) (ne_of_old r8_25 l33)) e28)
      have r8_31 := (row_ext (Puts.row p30 (row_ext r8_28 e29) (ne_of_old r8_28 l35)) e31)
      have r8_34 := (row_ext (Puts.row p33 (row_ext r8_31 e32) (ne_of_old r8_31 l37)) e34)
      have r8_37 := (row_ext (Puts.row p36 (row_ext r8_34 e35) (ne_of_old r8_34 l39)) e37)
      have r8_40 := (row_ext (Puts.row p39 (row_ext r8_37 e38) (ne_of_old r8_37 l41)) e40)
      have r8_43 := (row_ext (Puts.row p42 (row_ext r8_40 e41) (ne_of_old r8_40 l43)) e43)
      have r8_46 := (row_ext (Puts.row p45 (row_ext r8_43 e44) (ne_of_old r8_43 l45)) e46)
      have r8_49 := (row_ext (Puts.row p48 (row_ext r8_46 e47) (ne_of_old r8_46 l47)) e49)
      have r8_56 := (row_ext (Puts.row p55 (row_ext (Puts.row p53 (row_ext (Puts.row p51 (row_ext (row_ext (Puts.row p48 (row_ext (row_ext (Puts.row p45 (row_ext (row_ext (Puts.row p42 (row_ext (row_ext (Puts.row p39 (row_ext (row_ext (Puts.row p36 (row_ext (row_ext (Puts.row p33 (row_ext (row_ext (Puts.row p30 (row_ext (row_ext (Puts.row p27 (row_ext (row_ext (Puts.row p24 (row_ext (row_ext r8_21 e22) e23) (ne_of_old r8_22 l31)) e25) e26) (ne_of_old r8_25 l33)) e28) e29) (ne_of_old r8_28 l35)) e31) e32) (ne_of_old r8_31 l37)) e34) e35) (ne_of_old r8_34 l39)) e37) e38) (ne_of_old r8_37 l41)) e40) e41) (ne_of_old r8_40 l43)) e43) e44) (ne_of_old r8_43 l45)) e46) e47) (ne_of_old r8_46 l47)) e49) e50) (ne_of_old r8_49 l49)) e52) n_6_8) e54) n_6_9) e56)
      refine seq_store g8 _ (ints .i64 (lims (s14))) 32 r8_56 rfl (by kernel_rfl) (run_store_row 32 _ _ g8 32 _ _ r8_56 rfl (by kernel_rfl) (by kernel_rfl) (isz (n := 16) (by kernel_rfl) (by kernel_rfl)) (eqsz (n := 16) (by kernel_rfl) (by kernel_rfl)) (by kernel_rfl)) fun W57 p57 r8_57 => ?_
      have x57 : Ext w W57 := Puts.ext p57 x56 b8
      refine seq_nil ?_
      refine hK52 _ _ ?_
      try clear hK52 K52
      refine wp_seq_k fun K53 hK53 => ?_
      refine any_region 7 [⟨none, [(19, none)]⟩, ⟨none, [(17, none)]⟩, ⟨none, [(10, none)]⟩, ⟨none, [(19, none)]⟩, ⟨none, [(96, some 2), (97, some 3)]⟩, ⟨none, [(95, some 1), (98, some 4)]⟩, ⟨none, [(94, some 0), (99, some 5)]⟩] (by kernel_rfl) (by kernel_rfl) fun F hF => ?_
      have r41_40 := (row_ext r41_39 e40)
      have r41_43 := (row_ext (Puts.row p42 (row_ext r41_40 e41) (ne_of_old r41_40 l43)) e43)
      have r41_46 := (row_ext (Puts.row p45 (row_ext r41_43 e44) (ne_of_old r41_43 l45)) e46)
      have r41_49 := (row_ext (Puts.row p48 (row_ext r41_46 e47) (ne_of_old r41_46 l47)) e49)
      have r41_57 := (Puts.row p57 (row_ext (Puts.row p55 (row_ext (Puts.row p53 (row_ext (Puts.row p51 (row_ext (row_ext (Puts.row p48 (row_ext (row_ext (Puts.row p45 (row_ext (row_ext (Puts.row p42 (row_ext (row_ext r41_39 e40) e41) (ne_of_old r41_40 l43)) e43) e44) (ne_of_old r41_43 l45)) e46) e47) (ne_of_old r41_46 l47)) e49) e50) (ne_of_old r41_49 l49)) e52) (ne_of_new r12_37 l41)) e54) (ne_of_new r14_37 l41)) e56) (ne_of_new r8_37 l41))
      refine any_read (.agg (ints .i64 (lims (s6)))) (by kernel_rfl) (by kernel_rfl) (fun W hR => (run_load_row 32 _ g41 32 _ _ (row_ext (row_ext r41_57 (ext_drew _)) hR) rfl (by kernel_rfl) (by kernel_rfl) (isz (n := 16) (by kernel_rfl) (by kernel_rfl)))) ?_
      have r37_57 := (Puts.row p57 (row_ext r37_55 e56) (ne_of_new r8_31 l37))
      refine any_read (.agg (ints .i64 (lims (s4)))) (by kernel_rfl) (by kernel_rfl) (fun W hR => (run_load_row 32 _ g37 32 _ _ (row_ext (row_ext r37_57 (ext_drew _)) hR) rfl (by kernel_rfl) (by kernel_rfl) (isz (n := 16) (by kernel_rfl) (by kernel_rfl)))) ?_
      have r16_19 := (row_ext q10 e19)
      have r16_22 := (row_ext (Puts.row p21 (row_ext r16_19 e20) (ne_of_old r16_19 l29)) e22)
      have r16_25 := (row_ext (Puts.row p24 (row_ext r16_22 e23) (ne_of_old r16_22 l31)) e25)
      have r16_28 := (row_ext (Puts.row p27 (row_ext r16_25 e26) (ne_of_old r16_25 l33)) e28)
      have r16_31 := (row_ext (Puts.row p30 (row_ext r16_28 e29) (ne_of_old r16_28 l35)) e31)
      have r16_34 := (row_ext (Puts.row p33 (row_ext r16_31 e32) (ne_of_old r16_31 l37)) e34)
      have r16_37 := (row_ext (Puts.row p36 (row_ext r16_34 e35) (ne_of_old r16_34 l39)) e37)
      have r16_40 := (row_ext (Puts.row p39 (row_ext r16_37 e38) (ne_of_old r16_37 l41)) e40)
      have r16_43 := (row_ext (Puts.row p42 (row_ext r16_40 e41) (ne_of_old r16_40 l43)) e43)
      have r16_46 := (row_ext (Puts.row p45 (row_ext r16_43 e44) (ne_of_old r16_43 l45)) e46)
      have r16_49 := (row_ext (Puts.row p48 (row_ext r16_46 e47) (ne_of_old r16_46 l47)) e49)
      have r16_57 := (Puts.row p57 (row_ext (Puts.row p55 (row_ext (Puts.row p53 (row_ext (Puts.row p51 (row_ext (row_ext (Puts.row p48 (row_ext (row_ext (Puts.row p45 (row_ext (row_ext (Puts.row p42 (row_ext (row_ext (Puts.row p39 (row_ext (row_ext (Puts.row p36 (row_ext (row_ext (Puts.row p33 (row_ext (row_ext (Puts.row p30 (row_ext (row_ext (Puts.row p27 (row_ext (row_ext (Puts.row p24 (row_ext (row_ext (Puts.row p21 (row_ext (row_ext q10 e19) e20) (ne_of_old r16_19 l29)) e22) e23) (ne_of_old r16_22 l31)) e25) e26) (ne_of_old r16_25 l33)) e28) e29) (ne_of_old r16_28 l35)) e31) e32) (ne_of_old r16_31 l37)) e34) e35) (ne_of_old r16_34 l39)) e37) e38) (ne_of_old r16_37 l41)) e40) e41) (ne_of_old r16_40 l43)) e43) e44) (ne_of_old r16_43 l45)) e46) e47) (ne_of_old r16_46 l47)) e49) e50) (ne_of_old r16_49 l49)) e52) n_10_8) e54) n_10_9) e56) n_10_6)
      refine any_read (.agg (ints .i64 (lims (121665)))) (by kernel_rfl) (by kernel_rfl) (fun W hR => (run_load_row 32 _ g16 32 _ _ (row_ext (row_ext r16_57 (ext_drew _)) hR) rfl (by kernel_rfl) (by kernel_rfl) (isz (n := 16) (by kernel_rfl) (by kernel_rfl)))) ?_
      refine any_read (.agg (ints .i64 (lims (s6)))) (by kernel_rfl) (by kernel_rfl) (fun W hR => (run_load_row 32 _ g41 32 _ _ (row_ext (row_ext r41_57 (ext_drew _)) hR) rfl (by kernel_rfl) (by kernel_rfl) (isz (n := 16) (by kernel_rfl) (by kernel_rfl)))) ?_
      refine any_call (.agg (ints .i64 (lims (s15)))) 31 #[.agg (ints .i64 (lims (121665))), .agg (ints .i64 (lims (s6)))] (by kernel_rfl) (by kernel_rfl) (fun W => by kernel_rfl) (fun W hR => c_s15 W) ?_
      refine any_call (.agg (ints .i64 (lims (s16)))) 26 #[.agg (ints .i64 (lims (s4))), .agg (ints .i64 (lims (s15)))] (by kernel_rfl) (by kernel_rfl) (fun W => by kernel_rfl) (fun W hR => c_s16 W) ?_
      refine any_call (.agg (ints .i64 (lims (s17)))) 31 #[.agg (ints .i64 (lims (s6))), .agg (ints .i64 (lims (s16)))] (by kernel_rfl) (by kernel_rfl) (fun W => by kernel_rfl) (fun W hR => c_s17 W) ?_
      refine steps_nil (hF _ (by kernel_rfl) fun W58 e58 => ?_)
      simp only [ups, up, Kn.val, List.take_succ_cons, List.take_zero, List.drop_succ_cons, List.drop_zero, List.nil_append, List.cons_append]
      clear hF
      have x58 : Ext w W58 := Ext.tr x57 e58
      have r10_22 := (row_ext r10_21 e22)
      have r10_25 := (row_ext (Puts.row p24 (row_ext r10_22 e23) (ne_of_old r10_22 l31)) e25)
      have r10_28 := (row_ext (Puts.row p27 (row_ext r10_25 e26) (ne_of_old r10_25 l33)) e28)
      have r10_31 := (row_ext (Puts.row p30 (row_ext r10_28 e29) (ne_of_old r10_28 l35)) e31)
      have r10_34 := (row_ext (Puts.row p33 (row_ext r10_31 e32) (ne_of_old r10_31 l37)) e34)
      have r10_37 := (row_ext (Puts.row p36 (row_ext r10_34 e35) (ne_of_old r10_34 l39)) e37)
      have r10_40 := (row_ext (Puts.row p39 (row_ext r10_37 e38) (ne_of_old r10_37 l41)) e40)
      have r10_43 := (row_ext (Puts.row p42 (row_ext r10_40 e41) (ne_of_old r10_40 l43)) e43)
      have r10_46 := (row_ext (Puts.row p45 (row_ext r10_43 e44) (ne_of_old r10_43 l45)) e46)
      have r10_49 := (row_ext (Puts.row p48 (row_ext r10_46 e47) (ne_of_old r10_46 l47)) e49)
      have r10_58 := (row_ext (Puts.row p57 (row_ext (Puts.row p55 (row_ext (Puts.row p53 (row_ext (Puts.row p51 (row_ext (row_ext (Puts.row p48 (row_ext (row_ext (Puts.row p45 (row_ext (row_ext (Puts.row p42 (row_ext (row_ext (Puts.row p39 (row_ext (row_ext (Puts.row p36 (row_ext (row_ext (Puts.row p33 (row_ext (row_ext (Puts.row p30 (row_ext (row_ext (Puts.row p27 (row_ext (row_ext (Puts.row p24 (row_ext (row_ext r10_21 e22) e23) (ne_of_old r10_22 l31)) e25) e26) (ne_of_old r10_25 l33)) e28) e29) (ne_of_old r10_28 l35)) e31) e32) (ne_of_old r10_31 l37)) e34) e35) (ne_of_old r10_34 l39)) e37) e38) (ne_of_old r10_37 l41)) e40) e41) (ne_of_old r10_40 l43)) e43) e44) (ne_of_old r10_43 l45)) e46) e47) (ne_of_old r10_46 l47)) e49) e50) (ne_of_old r10_49 l49)) e52) n_7_8) e54) n_7_9) e56) n_7_6) e58)
      refine seq_store g10 _ (ints .i64 (lims (s17))) 32 r10_58 rfl (by kernel_rfl) (run_store_row 32 _ _ g10 32 _ _ r10_58 rfl (by kernel_rfl) (by kernel_rfl) (isz (n := 16) (by kernel_rfl) (by kernel_rfl)) (eqsz (n := 16) (by kernel_rfl) (by kernel_rfl)) (by kernel_rfl)) fun W59 p59 r10_59 => ?_
      have x59 : Ext w W59 := Puts.ext p59 x58 b10
      refine seq_nil ?_
      refine hK53 _ _ ?_
      try clear hK53 K53
      refine wp_seq_k fun K54 hK54 => ?_
      refine region_lit ?_
      refine seq_val (.int .u8 (0)) 101 rfl (by kernel_rfl) (by kernel_rfl) ?_
      refine seq_val (.bool false) 102 rfl (by kernel_rfl) (by kernel_rfl) ?_
      refine seq_nil ?_
      refine hK54 _ _ ?_
      try clear hK54 K54
      refine cond_false (by kernel_rfl) ?_
      refine wp_skip ?_
      refine hK24 _ _ ?_
      try clear hK24 K24
      refine region_lit ?_
      refine seq_val (.int .i64 ((j : Int))) 33 rfl (by kernel_rfl) (by kernel_rfl) ?_
      refine seq_val (.int .i64 ((j : Int) - 1)) 34 rfl (by kernel_rfl) (run_eq (u := .int .i64 (IntKind.i64.wrap (((j : Int)) - 1))) (by kernel_rfl) (congrArg (Value.int .i64) (i64_sub1 j (by omega)))) ?_
      refine seq_val (.int .i64 ((j : Int) - 1)) 11 rfl (by kernel_rfl) (by kernel_rfl) ?_
      refine seq_nil ?_
      have r2_19 := (row_ext q2 e19)
      have r2_22 := (row_ext (Puts.row p21 (row_ext r2_19 e20) (ne_of_old r2_19 l29)) e22)
      have r2_25 := (row_ext (Puts.row p24 (row_ext r2_22 e23) (ne_of_old r2_22 l31)) e25)
      have r2_28 := (row_ext (Puts.row p27 (row_ext r2_25 e26) (ne_of_old r2_25 l33)) e28)
      have r2_31 := (row_ext (Puts.row p30 (row_ext r2_28 e29) (ne_of_old r2_28 l35)) e31)
      have r2_34 := (row_ext (Puts.row p33 (row_ext r2_31 e32) (ne_of_old r2_31 l37)) e34)
      have r2_37 := (row_ext (Puts.row p36 (row_ext r2_34 e35) (ne_of_old r2_34 l39)) e37)
      have r2_40 := (row_ext (Puts.row p39 (row_ext r2_37 e38) (ne_of_old r2_37 l41)) e40)
      have r2_43 := (row_ext (Puts.row p42 (row_ext r2_40 e41) (ne_of_old r2_40 l43)) e43)
      have r2_46 := (row_ext (Puts.row p45 (row_ext r2_43 e44) (ne_of_old r2_43 l45)) e46)
      have r2_49 := (row_ext (Puts.row p48 (row_ext r2_46 e47) (ne_of_old r2_46 l47)) e49)
      have r2_59 := (Puts.row p59 (row_ext (Puts.row p57 (row_ext (Puts.row p55 (row_ext (Puts.row p53 (row_ext (Puts.row p51 (row_ext (row_ext (Puts.row p48 (row_ext (row_ext (Puts.row p45 (row_ext (row_ext (Puts.row p42 (row_ext (row_ext (Puts.row p39 (row_ext (row_ext (Puts.row p36 (row_ext (row_ext (Puts.row p33 (row_ext (row_ext (Puts.row p30 (row_ext (row_ext (Puts.row p27 (row_ext (row_ext (Puts.row p24 (row_ext (row_ext (Puts.row p21 (row_ext (row_ext q2 e19) e20) (ne_of_old r2_19 l29)) e22) e23) (ne_of_old r2_22 l31)) e25) e26) (ne_of_old r2_25 l33)) e28) e29) (ne_of_old r2_28 l35)) e31) e32) (ne_of_old r2_31 l37)) e34) e35) (ne_of_old r2_34 l39)) e37) e38) (ne_of_old r2_37 l41)) e40) e41) (ne_of_old r2_40 l43)) e43) e44) (ne_of_old r2_43 l45)) e46) e47) (ne_of_old r2_46 l47)) e49) e50) (ne_of_old r2_49 l49)) e52) n_2_8) e54) n_2_9) e56) n_2_6) e58) n_2_7)
      have r3_59 := (Puts.row p59 (row_ext (Puts.row p57 (row_ext (Puts.row p55 (row_ext r3_53 e54) n_3_9) e56) n_3_6) e58) n_3_7)
      have r4_19 := (row_ext q4 e19)
      have r4_22 := (row_ext (Puts.row p21 (row_ext r4_19 e20) (ne_of_old r4_19 l29)) e22)
      have r4_25 := (row_ext (Puts.row p24 (row_ext r4_22 e23) (ne_of_old r4_22 l31)) e25)
      have r4_28 := (row_ext (Puts.row p27 (row_ext r4_25 e26) (ne_of_old r4_25 l33)) e28)
      have r4_31 := (row_ext (Puts.row p30 (row_ext r4_28 e29) (ne_of_old r4_28 l35)) e31)
      have r4_34 := (row_ext (Puts.row p33 (row_ext r4_31 e32) (ne_of_old r4_31 l37)) e34)
      have r4_37 := (row_ext (Puts.row p36 (row_ext r4_34 e35) (ne_of_old r4_34 l39)) e37)
      have r4_40 := (row_ext (Puts.row p39 (row_ext r4_37 e38) (ne_of_old r4_37 l41)) e40)
      have r4_43 := (row_ext (Puts.row p42 (row_ext r4_40 e41) (ne_of_old r4_40 l43)) e43)
      have r4_46 := (row_ext (Puts.row p45 (row_ext r4_43 e44) (ne_of_old r4_43 l45)) e46)
      have r4_49 := (row_ext (Puts.row p48 (row_ext r4_46 e47) (ne_of_old r4_46 l47)) e49)
      have r4_59 := (Puts.row p59 (row_ext (Puts.row p57 (row_ext (Puts.row p55 (row_ext (Puts.row p53 (row_ext (Puts.row p51 (row_ext (row_ext (Puts.row p48 (row_ext (row_ext (Puts.row p45 (row_ext (row_ext (Puts.row p42 (row_ext (row_ext (Puts.row p39 (row_ext (row_ext (Puts.row p36 (row_ext (row_ext (Puts.row p33 (row_ext (row_ext (Puts.row p30 (row_ext (row_ext (Puts.row p27 (row_ext (row_ext (Puts.row p24 (row_ext (row_ext (Puts.row p21 (row_ext (row_ext q4 e19) e20) (ne_of_old r4_19 l29)) e22) e23) (ne_of_old r4_22 l31)) e25) e26) (ne_of_old r4_25 l33)) e28) e29) (ne_of_old r4_28 l35)) e31) e32) (ne_of_old r4_31 l37)) e34) e35) (ne_of_old r4_34 l39)) e37) e38) (ne_of_old r4_37 l41)) e40) e41) (ne_of_old r4_40 l43)) e43) e44) (ne_of_old r4_43 l45)) e46) e47) (ne_of_old r4_46 l47)) e49) e50) (ne_of_old r4_49 l49)) e52) n_4_8) e54) n_4_9) e56) n_4_6) e58) n_4_7)
      have r6_19 := (row_ext q5 e19)
      have r6_22 := (row_ext (Puts.row p21 (row_ext r6_19 e20) (ne_of_old r6_19 l29)) e22)
      have r6_25 := (row_ext (Puts.row p24 (row_ext r6_22 e23) (ne_of_old r6_22 l31)) e25)
      have r6_28 := (row_ext (Puts.row p27 (row_ext r6_25 e26) (ne_of_old r6_25 l33)) e28)
      have r6_31 := (row_ext (Puts.row p30 (row_ext r6_28 e29) (ne_of_old r6_28 l35)) e31)
      have r6_34 := (row_ext (Puts.row p33 (row_ext r6_31 e32) (ne_of_old r6_31 l37)) e34)
      have r6_37 := (row_ext (Puts.row p36 (row_ext r6_34 e35) (ne_of_old r6_34 l39)) e37)
      have r6_40 := (row_ext (Puts.row p39 (row_ext r6_37 e38) (ne_of_old r6_37 l41)) e40)
      have r6_43 := (row_ext (Puts.row p42 (row_ext r6_40 e41) (ne_of_old r6_40 l43)) e43)
      have r6_46 := (row_ext (Puts.row p45 (row_ext r6_43 e44) (ne_of_old r6_43 l45)) e46)
      have r6_49 := (row_ext (Puts.row p48 (row_ext r6_46 e47) (ne_of_old r6_46 l47)) e49)
      have r6_59 := (Puts.row p59 (row_ext (Puts.row p57 (row_ext (Puts.row p55 (row_ext (Puts.row p53 (row_ext (Puts.row p51 (row_ext (row_ext (Puts.row p48 (row_ext (row_ext (Puts.row p45 (row_ext (row_ext (Puts.row p42 (row_ext (row_ext (Puts.row p39 (row_ext (row_ext (Puts.row p36 (row_ext (row_ext (Puts.row p33 (row_ext (row_ext (Puts.row p30 (row_ext (row_ext (Puts.row p27 (row_ext (row_ext (Puts.row p24 (row_ext (row_ext (Puts.row p21 (row_ext (row_ext q5 e19) e20) (ne_of_old r6_19 l29)) e22) e23) (ne_of_old r6_22 l31)) e25) e26) (ne_of_old r6_25 l33)) e28) e29) (ne_of_old r6_28 l35)) e31) e32) (ne_of_old r6_31 l37)) e34) e35) (ne_of_old r6_34 l39)) e37) e38) (ne_of_old r6_37 l41)) e40) e41) (ne_of_old r6_40 l43)) e43) e44) (ne_of_old r6_43 l45)) e46) e47) (ne_of_old r6_46 l47)) e49) e50) (ne_of_old r6_49 l49)) e52) n_5_8) e54) n_5_9) e56) n_5_6) e58) n_5_7)
      have r8_59 := (Puts.row p59 (row_ext r8_57 e58) n_6_7)
      have r12_59 := (Puts.row p59 (row_ext (Puts.row p57 (row_ext (Puts.row p55 (row_ext r12_53 e54) n_8_9) e56) n_8_6) e58) n_8_7)
      have r14_59 := (Puts.row p59 (row_ext (Puts.row p57 (row_ext r14_55 e56) n_9_6) e58) n_9_7)
      have r16_59 := (Puts.row p59 (row_ext r16_57 e58) n_10_7)
      have hl : lstep u a b c d = (s14, s17, s11, s13) := by subst_vars; rfl
      have hS : crungs u es j = (s14, s17, s11, s13) := by
        rw [hS0]
        simp only [rung, hl, Bool.false_eq_true, if_false]
      exact goes_then j ⟨rfl, rfl, rfl, rfl, rfl, rfl, rfl, rfl, rfl, rfl, trivial⟩ ⟨by omega, r2_59, r3_59, r4_59, r6_59, by rw [hS]; exact r8_59, by rw [hS]; exact r10_59, by rw [hS]; exact r12_59, by rw [hS]; exact r14_59, r16_59, x59⟩ (Nat.lt_succ_self j)
end Go.Proofs.Ytaojnmjmmfdfjaa.Field
