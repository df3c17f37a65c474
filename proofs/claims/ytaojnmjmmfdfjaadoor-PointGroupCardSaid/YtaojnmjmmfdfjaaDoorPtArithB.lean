/- Points: the reference's sum, the base. -/
import Derived.Test.YtaojnmjmmfdfjaaDoorPtArith
namespace Go.Proofs.YtaojnmjmmfdfjaaDoor.Field
open Go Go.RowKit
open Go.Proofs.YtaojnmjmmfdfjaaDoor.Rely Go.Proofs.YtaojnmjmmfdfjaaDoor.Auto
set_option linter.unusedVariables false

set_option maxHeartbeats 4000000 in
theorem factor  (w : World) : Calls Tryd.prog 44 #[] w (Ret w (.agg (ints .i64 (lims (dN))))) := by
  refine enter 3 [] Tryd.func44 rfl rfl (by kernel_rfl) rfl ?_
  refine wp_seq_k fun K1 hK1 => ?_
  refine region_lit ?_
  refine seq_alloc (ints .i64 (lims (0))) 34 0 rfl (by kernel_rfl) (by kernel_rfl) fun g2 W1 l2 e1 r2_1 => ?_
  have x1 : Ext w W1 := Ext.tr (Rely.Ext.refl w) e1
  have b2 : w.heap.size ≤ g2 := Nat.le_trans (Rely.Ext.refl w).size l2
  refine seq_nil ?_
  refine hK1 _ _ ?_
  try clear hK1 K1
  refine wp_seq_k fun K3 hK3 => ?_
  refine region_lit ?_
  refine seq_val (.agg (ints .u8 (bendL))) 1 rfl (by kernel_rfl) (by kernel_rfl) ?_
  refine seq_call (.agg (ints .i64 (lims (dN)))) 39 #[.agg (ints .u8 (bendL))] 2 rfl (by kernel_rfl) (by kernel_rfl) (lFrom_d _) fun W2 e2 => ?_
  have x2 : Ext w W2 := Ext.tr x1 e2
  have r2_2 := (row_ext r2_1 e2)
  refine seq_store g2 _ (ints .i64 (lims (dN))) 34 r2_2 rfl (by kernel_rfl) (run_store_row 34 _ _ g2 34 _ _ r2_2 rfl (by kernel_rfl) (by kernel_rfl) (isz (n := 16) (by kernel_rfl) (by kernel_rfl)) (eqsz (n := 16) (by kernel_rfl) (by kernel_rfl)) (by kernel_rfl)) fun W3 p3 r2_3 => ?_
  have x3 : Ext w W3 := Puts.ext p3 x2 b2
  refine seq_nil ?_
  refine hK3 _ _ ?_
  try clear hK3 K3
  refine wp_ret ?_
  exact (show bodyPost _ _ _ .ret _ _ from ret1 (.agg (ints .i64 (lims (dN)))) rfl (res_cell g2 34 _ r2_3 (by kernel_rfl) (by kernel_rfl) (isz (n := 16) (by kernel_rfl) (by kernel_rfl))) ⟨rfl, x3⟩)
set_option maxHeartbeats 4000000 in
theorem nothing  (w : World) : Calls Tryd.prog 41 #[] w (Ret w (.agg (cat [ints .i64 (lims (0)), ints .i64 (lims (1)), ints .i64 (lims (1))]))) := by
  refine enter 4 [] Tryd.func41 rfl rfl (by kernel_rfl) rfl ?_
  refine wp_seq_k fun K1 hK1 => ?_
  refine region_lit ?_
  refine seq_alloc (cat [ints .i64 (lims (0)), ints .i64 (lims (0)), ints .i64 (lims (0))]) 36 0 rfl (by kernel_rfl) (by kernel_rfl) fun g2 W1 l2 e1 r2_1 => ?_
  have x1 : Ext w W1 := Ext.tr (Rely.Ext.refl w) e1
  have b2 : w.heap.size ≤ g2 := Nat.le_trans (Rely.Ext.refl w).size l2
  refine seq_nil ?_
  refine hK1 _ _ ?_
  try clear hK1 K1
  refine wp_seq_k fun K3 hK3 => ?_
  refine region_lit ?_
  refine seq_val (.agg (ints .i64 (lims (1)))) 1 rfl (by kernel_rfl) (by kernel_rfl) ?_
  refine seq_val (.agg (ints .i64 (lims (1)))) 2 rfl (by kernel_rfl) (by kernel_rfl) ?_
  refine seq_val (.agg (cat [ints .i64 (lims (0)), ints .i64 (lims (1)), ints .i64 (lims (1))])) 3 rfl (by kernel_rfl) (by kernel_rfl) ?_
  refine seq_store g2 _ (cat [ints .i64 (lims (0)), ints .i64 (lims (1)), ints .i64 (lims (1))]) 36 r2_1 rfl (by kernel_rfl) (run_store_row 36 _ _ g2 36 _ _ r2_1 rfl (by kernel_rfl) (by kernel_rfl) (isz (n := 48) (by kernel_rfl) (by kernel_rfl)) (eqsz (n := 48) (by kernel_rfl) (by kernel_rfl)) (by kernel_rfl)) fun W2 p2 r2_2 => ?_
  have x2 : Ext w W2 := Puts.ext p2 x1 b2
  refine seq_nil ?_
  refine hK3 _ _ ?_
  try clear hK3 K3
  refine wp_ret ?_
  exact (show bodyPost _ _ _ .ret _ _ from ret1 (.agg (cat [ints .i64 (lims (0)), ints .i64 (lims (1)), ints .i64 (lims (1))])) rfl (res_cell g2 36 _ r2_2 (by kernel_rfl) (by kernel_rfl) (isz (n := 48) (by kernel_rfl) (by kernel_rfl))) ⟨rfl, x2⟩)
def raddF (x y z u v t : Int) : Int × Int × Int :=
  let s0 := z * t % p
  let s1 := s0 * s0 % p
  let s2 := x * u % p
  let s3 := y * v % p
  let s4 := s2 * s3 % p
  let s5 := dN * s4 % p
  let s6 := (s1 - s5) % p
  let s7 := (s1 + s5) % p
  let s8 := (x + y) % p
  let s9 := (u + v) % p
  let s10 := s8 * s9 % p
  let s11 := (s10 - s2) % p
  let s12 := (s11 - s3) % p
  let s13 := s6 * s12 % p
  let s14 := s0 * s13 % p
  let s15 := (s3 + s2) % p
  let s16 := s7 * s15 % p
  let s17 := s0 * s16 % p
  let s18 := s6 * s7 % p
  (s14, s17, s18)
set_option maxHeartbeats 4000000 in
theorem radd_core (x y z u v t : Int) (h_x : isN x) (h_y : isN y) (h_z : isN z) (h_u : isN u) (h_v : isN v) (h_t : isN t) (s0 s1 s2 s3 s4 s5 s6 s7 s8 s9 s10 s11 s12 s13 s14 s15 s16 s17 s18 : Int)
    (c0 : ∀ W, Calls Tryd.prog 42 #[.agg (ints .i64 (lims (z))), .agg (ints .i64 (lims (t)))] W (Ret W (.agg (ints .i64 (lims (s0))))))
    (c1 : ∀ W, Calls Tryd.prog 42 #[.agg (ints .i64 (lims (s0))), .agg (ints .i64 (lims (s0)))] W (Ret W (.agg (ints .i64 (lims (s1))))))
    (c2 : ∀ W, Calls Tryd.prog 42 #[.agg (ints .i64 (lims (x))), .agg (ints .i64 (lims (u)))] W (Ret W (.agg (ints .i64 (lims (s2))))))
    (c3 : ∀ W, Calls Tryd.prog 42 #[.agg (ints .i64 (lims (y))), .agg (ints .i64 (lims (v)))] W (Ret W (.agg (ints .i64 (lims (s3))))))
    (c4 : ∀ W, Calls Tryd.prog 42 #[.agg (ints .i64 (lims (s2))), .agg (ints .i64 (lims (s3)))] W (Ret W (.agg (ints .i64 (lims (s4))))))
    (c5 : ∀ W, Calls Tryd.prog 42 #[.agg (ints .i64 (lims (dN))), .agg (ints .i64 (lims (s4)))] W (Ret W (.agg (ints .i64 (lims (s5))))))
    (c6 : ∀ W, Calls Tryd.prog 46 #[.agg (ints .i64 (lims (s1))), .agg (ints .i64 (lims (s5)))] W (Ret W (.agg (ints .i64 (lims (s6))))))
    (c7 : ∀ W, Calls Tryd.prog 43 #[.agg (ints .i64 (lims (s1))), .agg (ints .i64 (lims (s5)))] W (Ret W (.agg (ints .i64 (lims (s7))))))
    (c8 : ∀ W, Calls Tryd.prog 43 #[.agg (ints .i64 (lims (x))), .agg (ints .i64 (lims (y)))] W (Ret W (.agg (ints .i64 (lims (s8))))))
    (c9 : ∀ W, Calls Tryd.prog 43 #[.agg (ints .i64 (lims (u))), .agg (ints .i64 (lims (v)))] W (Ret W (.agg (ints .i64 (lims (s9))))))
    (c10 : ∀ W, Calls Tryd.prog 42 #[.agg (ints .i64 (lims (s8))), .agg (ints .i64 (lims (s9)))] W (Ret W (.agg (ints .i64 (lims (s10))))))
    (c11 : ∀ W, Calls Tryd.prog 46 #[.agg (ints .i64 (lims (s10))), .agg (ints .i64 (lims (s2)))] W (Ret W (.agg (ints .i64 (lims (s11))))))
    (c12 : ∀ W, Calls Tryd.prog 46 #[.agg (ints .i64 (lims (s11))), .agg (ints .i64 (lims (s3)))] W (Ret W (.agg (ints .i64 (lims (s12))))))
    (c13 : ∀ W, Calls Tryd.prog 42 #[.agg (ints .i64 (lims (s6))), .agg (ints .i64 (lims (s12)))] W (Ret W (.agg (ints .i64 (lims (s13))))))
    (c14 : ∀ W, Calls Tryd.prog 42 #[.agg (ints .i64 (lims (s0))), .agg (ints .i64 (lims (s13)))] W (Ret W (.agg (ints .i64 (lims (s14))))))
    (c15 : ∀ W, Calls Tryd.prog 43 #[.agg (ints .i64 (lims (s3))), .agg (ints .i64 (lims (s2)))] W (Ret W (.agg (ints .i64 (lims (s15))))))
    (c16 : ∀ W, Calls Tryd.prog 42 #[.agg (ints .i64 (lims (s7))), .agg (ints .i64 (lims (s15)))] W (Ret W (.agg (ints .i64 (lims (s16))))))
    (c17 : ∀ W, Calls Tryd.prog 42 #[.agg (ints .i64 (lims (s0))), .agg (ints .i64 (lims (s16)))] W (Ret W (.agg (ints .i64 (lims (s17))))))
    (c18 : ∀ W, Calls Tryd.prog 42 #[.agg (ints .i64 (lims (s6))), .agg (ints .i64 (lims (s7)))] W (Ret W (.agg (ints .i64 (lims (s18)))))) (w : World) :
    Calls Tryd.prog 16 #[.agg (cat [ints .i64 (lims (x)), ints .i64 (lims (y)), ints .i64 (lims (z))]), .agg (cat [ints .i64 (lims (u)), ints .i64 (lims (v)), ints .i64 (lims (t))])] w (Ret w (.agg (cat [ints .i64 (lims (s14)), ints .i64 (lims (s17)), ints .i64 (lims (s18))]))) := by
  refine enter 73 [(0, .agg (cat [ints .i64 (lims (x)), ints .i64 (lims (y)), ints .i64 (lims (z))])), (1, .agg (cat [ints .i64 (lims (u)), ints .i64 (lims (v)), ints .i64 (lims (t))]))] Tryd.func16 rfl rfl (by kernel_rfl) rfl ?_
  refine wp_seq_k fun K1 hK1 => ?_
  refine region_lit ?_
  refine seq_alloc (cat [ints .i64 (lims (x)), ints .i64 (lims (y)), ints .i64 (lims (z))]) 36 2 rfl (by kernel_rfl) (by kernel_rfl) fun g2 W1 l2 e1 r2_1 => ?_
  have x1 : Ext w W1 := Ext.tr (Rely.Ext.refl w) e1
  have b2 : w.heap.size ≤ g2 := Nat.le_trans (Rely.Ext.refl w).size l2
  refine seq_alloc (cat [ints .i64 (lims (u)), ints .i64 (lims (v)), ints .i64 (lims (t))]) 36 3 rfl (by kernel_rfl) (by kernel_rfl) fun g3 W2 l3 e2 r3_2 => ?_
  have x2 : Ext w W2 := Ext.tr x1 e2
  have b3 : w.heap.size ≤ g3 := Nat.le_trans x1.size l3
  refine seq_alloc (cat [ints .i64 (lims (0)), ints .i64 (lims (0)), ints .i64 (lims (0))]) 36 4 rfl (by kernel_rfl) (by kernel_rfl) fun g4 W3 l4 e3 r4_3 => ?_
  have x3 : Ext w W3 := Ext.tr x2 e3
  have b4 : w.heap.size ≤ g4 := Nat.le_trans x2.size l4
  refine seq_nil ?_
  refine hK1 _ _ ?_
  try clear hK1 K1
  refine wp_seq_k fun K5 hK5 => ?_
  refine region_lit ?_
  refine seq_val (.pointer (some ⟨g2, 32, none⟩)) 13 rfl (by kernel_rfl) (by kernel_rfl) ?_
  have r2_3 := (row_ext (row_ext r2_1 e2) e3)
  refine seq_val (.agg (ints .i64 (lims (z)))) 14 rfl (by kernel_rfl) (run_load_part 34 _ g2 32 36 _ _ _ r2_3 rfl (by kernel_rfl) (cat_part [ints .i64 (lims (x)), ints .i64 (lims (y))] [ints .i64 (lims (z))] [] 32 (by kernel_rfl)) (by kernel_rfl) (isz (n := 16) (by kernel_rfl) (by kernel_rfl))) ?_
  refine seq_val (.pointer (some ⟨g3, 32, none⟩)) 15 rfl (by kernel_rfl) (by kernel_rfl) ?_
  have r3_3 := (row_ext r3_2 e3)
  refine seq_val (.agg (ints .i64 (lims (t)))) 16 rfl (by kernel_rfl) (run_load_part 34 _ g3 32 36 _ _ _ r3_3 rfl (by kernel_rfl) (cat_part [ints .i64 (lims (u)), ints .i64 (lims (v))] [ints .i64 (lims (t))] [] 32 (by kernel_rfl)) (by kernel_rfl) (isz (n := 16) (by kernel_rfl) (by kernel_rfl))) ?_
  refine seq_call (.agg (ints .i64 (lims (s0)))) 42 #[.agg (ints .i64 (lims (z))), .agg (ints .i64 (lims (t)))] 17 rfl (by kernel_rfl) (by kernel_rfl) (c0 _) fun W4 e4 => ?_
  have x4 : Ext w W4 := Ext.tr x3 e4
  refine seq_alloc (ints .i64 (lims (0))) 34 5 rfl (by kernel_rfl) (by kernel_rfl) fun g6 W5 l6 e5 r6_5 => ?_
  have x5 : Ext w W5 := Ext.tr x4 e5
  have b6 : w.heap.size ≤ g6 := Nat.le_trans x4.size l6
  refine seq_store g6 _ (ints .i64 (lims (s0))) 34 r6_5 rfl (by kernel_rfl) (run_store_row 34 _ _ g6 34 _ _ r6_5 rfl (by kernel_rfl) (by kernel_rfl) (isz (n := 16) (by kernel_rfl) (by kernel_rfl)) (eqsz (n := 16) (by kernel_rfl) (by kernel_rfl)) (by kernel_rfl)) fun W6 p6 r6_6 => ?_
  have x6 : Ext w W6 := Puts.ext p6 x5 b6
  refine seq_nil ?_
  refine hK5 _ _ ?_
  try clear hK5 K5
  refine wp_seq_k fun K7 hK7 => ?_
  refine region_lit ?_
  refine seq_val (.agg (ints .i64 (lims (s0)))) 18 rfl (by kernel_rfl) (run_load_row 34 _ g6 34 _ _ r6_6 rfl (by kernel_rfl) (by kernel_rfl) (isz (n := 16) (by kernel_rfl) (by kernel_rfl))) ?_
  refine seq_val (.agg (ints .i64 (lims (s0)))) 19 rfl (by kernel_rfl) (run_load_row 34 _ g6 34 _ _ r6_6 rfl (by kernel_rfl) (by kernel_rfl) (isz (n := 16) (by kernel_rfl) (by kernel_rfl))) ?_
  refine seq_call (.agg (ints .i64 (lims (s1)))) 42 #[.agg (ints .i64 (lims (s0))), .agg (ints .i64 (lims (s0)))] 20 rfl (by kernel_rfl) (by kernel_rfl) (c1 _) fun W7 e7 => ?_
  have x7 : Ext w W7 := Ext.tr x6 e7
  refine seq_alloc (ints .i64 (lims (0))) 34 6 rfl (by kernel_rfl) (by kernel_rfl) fun g8 W8 l8 e8 r8_8 => ?_
  have x8 : Ext w W8 := Ext.tr x7 e8
  have b8 : w.heap.size ≤ g8 := Nat.le_trans x7.size l8
  refine seq_store g8 _ (ints .i64 (lims (s1))) 34 r8_8 rfl (by kernel_rfl) (run_store_row 34 _ _ g8 34 _ _ r8_8 rfl (by kernel_rfl) (by kernel_rfl) (isz (n := 16) (by kernel_rfl) (by kernel_rfl)) (eqsz (n := 16) (by kernel_rfl) (by kernel_rfl)) (by kernel_rfl)) fun W9 p9 r8_9 => ?_
  have x9 : Ext w W9 := Puts.ext p9 x8 b8
  refine seq_nil ?_
  refine hK7 _ _ ?_
  try clear hK7 K7
  refine wp_seq_k fun K9 hK9 => ?_
  refine region_lit ?_
  refine seq_val (.pointer (some ⟨g2, 0, none⟩)) 21 rfl (by kernel_rfl) (by kernel_rfl) ?_
  have r2_4 := (row_ext r2_3 e4)
  have r2_7 := (row_ext (Puts.row p6 (row_ext r2_4 e5) (ne_of_old r2_4 l6)) e7)
  have r2_9 := (Puts.row p9 (row_ext (row_ext (Puts.row p6 (row_ext (row_ext r2_3 e4) e5) (ne_of_old r2_4 l6)) e7) e8) (ne_of_old r2_7 l8))
  refine seq_val (.agg (ints .i64 (lims (x)))) 22 rfl (by kernel_rfl) (run_load_part 34 _ g2 0 36 _ _ _ r2_9 rfl (by kernel_rfl) (cat_part [] [ints .i64 (lims (x))] [ints .i64 (lims (y)), ints .i64 (lims (z))] 0 (by kernel_rfl)) (by kernel_rfl) (isz (n := 16) (by kernel_rfl) (by kernel_rfl))) ?_
  refine seq_val (.pointer (some ⟨g3, 0, none⟩)) 23 rfl (by kernel_rfl) (by kernel_rfl) ?_
  have r3_4 := (row_ext r3_3 e4)
  have r3_7 := (row_ext (Puts.row p6 (row_ext r3_4 e5) (ne_of_old r3_4 l6)) e7)
  have r3_9 := (Puts.row p9 (row_ext (row_ext (Puts.row p6 (row_ext (row_ext r3_3 e4) e5) (ne_of_old r3_4 l6)) e7) e8) (ne_of_old r3_7 l8))
  refine seq_val (.agg (ints .i64 (lims (u)))) 24 rfl (by kernel_rfl) (run_load_part 34 _ g3 0 36 _ _ _ r3_9 rfl (by kernel_rfl) (cat_part [] [ints .i64 (lims (u))] [ints .i64 (lims (v)), ints .i64 (lims (t))] 0 (by kernel_rfl)) (by kernel_rfl) (isz (n := 16) (by kernel_rfl) (by kernel_rfl))) ?_
  refine seq_call (.agg (ints .i64 (lims (s2)))) 42 #[.agg (ints .i64 (lims (x))), .agg (ints .i64 (lims (u)))] 25 rfl (by kernel_rfl) (by kernel_rfl) (c2 _) fun W10 e10 => ?_
  have x10 : Ext w W10 := Ext.tr x9 e10
  refine seq_alloc (ints .i64 (lims (0))) 34 7 rfl (by kernel_rfl) (by kernel_rfl) fun g10 W11 l10 e11 r10_11 => ?_
  have x11 : Ext w W11 := Ext.tr x10 e11
  have b10 : w.heap.size ≤ g10 := Nat.le_trans x10.size l10
  refine seq_store g10 _ (ints .i64 (lims (s2))) 34 r10_11 rfl (by kernel_rfl) (run_store_row 34 _ _ g10 34 _ _ r10_11 rfl (by kernel_rfl) (by kernel_rfl) (isz (n := 16) (by kernel_rfl) (by kernel_rfl)) (eqsz (n := 16) (by kernel_rfl) (by kernel_rfl)) (by kernel_rfl)) fun W12 p12 r10_12 => ?_
  have x12 : Ext w W12 := Puts.ext p12 x11 b10
  refine seq_nil ?_
  refine hK9 _ _ ?_
  try clear hK9 K9
  refine wp_seq_k fun K11 hK11 => ?_
  refine region_lit ?_
  refine seq_val (.pointer (some ⟨g2, 16, none⟩)) 26 rfl (by kernel_rfl) (by kernel_rfl) ?_
  have r2_10 := (row_ext r2_9 e10)
  have r2_12 := (Puts.row p12 (row_ext (row_ext r2_9 e10) e11) (ne_of_old r2_10 l10))
  refine seq_val (.agg (ints .i64 (lims (y)))) 27 rfl (by kernel_rfl) (run_load_part 34 _ g2 16 36 _ _ _ r2_12 rfl (by kernel_rfl) (cat_part [ints .i64 (lims (x))] [ints .i64 (lims (y))] [ints .i64 (lims (z))] 16 (by kernel_rfl)) (by kernel_rfl) (isz (n := 16) (by kernel_rfl) (by kernel_rfl))) ?_
  refine seq_val (.pointer (some ⟨g3, 16, none⟩)) 28 rfl (by kernel_rfl) (by kernel_rfl) ?_
  have r3_10 := (row_ext r3_9 e10)
  have r3_12 := (Puts.row p12 (row_ext (row_ext r3_9 e10) e11) (ne_of_old r3_10 l10))
  refine seq_val (.agg (ints .i64 (lims (v)))) 29 rfl (by kernel_rfl) (run_load_part 34 _ g3 16 36 _ _ _ r3_12 rfl (by kernel_rfl) (cat_part [ints .i64 (lims (u))] [ints .i64 (lims (v))] [ints .i64 (lims (t))] 16 (by kernel_rfl)) (by kernel_rfl) (isz (n := 16) (by kernel_rfl) (by kernel_rfl))) ?_
  refine seq_call (.agg (ints .i64 (lims (s3)))) 42 #[.agg (ints .i64 (lims (y))), .agg (ints .i64 (lims (v)))] 30 rfl (by kernel_rfl) (by kernel_rfl) (c3 _) fun W13 e13 => ?_
  have x13 : Ext w W13 := Ext.tr x12 e13
  refine seq_alloc (ints .i64 (lims (0))) 34 8 rfl (by kernel_rfl) (by kernel_rfl) fun g12 W14 l12 e14 r12_14 => ?_
  have x14 : Ext w W14 := Ext.tr x13 e14
  have b12 : w.heap.size ≤ g12 := Nat.le_trans x13.size l12
  refine seq_store g12 _ (ints .i64 (lims (s3))) 34 r12_14 rfl (by kernel_rfl) (run_store_row 34 _ _ g12 34 _ _ r12_14 rfl (by kernel_rfl) (by kernel_rfl) (isz (n := 16) (by kernel_rfl) (by kernel_rfl)) (eqsz (n := 16) (by kernel_rfl) (by kernel_rfl)) (by kernel_rfl)) fun W15 p15 r12_15 => ?_
  have x15 : Ext w W15 := Puts.ext p15 x14 b12
  refine seq_nil ?_
  refine hK11 _ _ ?_
  try clear hK11 K11
  refine wp_seq_k fun K13 hK13 => ?_
  refine any_regionD 6 [⟨none, []⟩, ⟨none, [(7, none)]⟩, ⟨none, [(8, none)]⟩, ⟨none, [(32, some 1), (33, some 2)]⟩, ⟨none, [(31, some 0), (34, some 3)]⟩, ⟨none, []⟩] [5] (by kernel_rfl) (by kernel_rfl) (by kernel_rfl) fun F hF => ?_
  refine any_call (.agg (ints .i64 (lims (dN)))) 44 #[] (by kernel_rfl) (by kernel_rfl) (fun W => by kernel_rfl) (fun W hR => factor W) ?_
  have r10_13 := (row_ext r10_12 e13)
  have r10_15 := (Puts.row p15 (row_ext (row_ext r10_12 e13) e14) (ne_of_old r10_13 l12))
  refine any_read (.agg (ints .i64 (lims (s2)))) (by kernel_rfl) (by kernel_rfl) (fun W hR => (run_load_row 34 _ g10 34 _ _ (row_ext (row_ext r10_15 (ext_drew _)) hR) rfl (by kernel_rfl) (by kernel_rfl) (isz (n := 16) (by kernel_rfl) (by kernel_rfl)))) ?_
  refine any_read (.agg (ints .i64 (lims (s3)))) (by kernel_rfl) (by kernel_rfl) (fun W hR => (run_load_row 34 _ g12 34 _ _ (row_ext (row_ext r12_15 (ext_drew _)) hR) rfl (by kernel_rfl) (by kernel_rfl) (isz (n := 16) (by kernel_rfl) (by kernel_rfl)))) ?_
  refine any_call (.agg (ints .i64 (lims (s4)))) 42 #[.agg (ints .i64 (lims (s2))), .agg (ints .i64 (lims (s3)))] (by kernel_rfl) (by kernel_rfl) (fun W => by kernel_rfl) (fun W hR => c4 W) ?_
  refine any_call (.agg (ints .i64 (lims (s5)))) 42 #[.agg (ints .i64 (lims (dN))), .agg (ints .i64 (lims (s4)))] (by kernel_rfl) (by kernel_rfl) (fun W => by kernel_rfl) (fun W hR => c5 W) ?_
  refine any_new (ints .i64 (lims (0))) 34 (by kernel_rfl) (Nat.le_refl _) (by kernel_rfl) (fun W => by kernel_rfl) ?_
  refine steps_nil (hF _ (by kernel_rfl) fun W16 e16 => ?_)
  simp only [fins, up, List.take_succ_cons, List.take_zero, List.drop_succ_cons, List.drop_zero, List.nil_append, List.cons_append]
  intro g14 l14 r14_16 n14
  have b14 : w.heap.size ≤ g14 := Nat.le_trans x15.size l14
  clear hF
  have x16 : Ext w W16 := Ext.tr x15 e16
  refine seq_store g14 _ (ints .i64 (lims (s5))) 34 r14_16 rfl (by kernel_rfl) (run_store_row 34 _ _ g14 34 _ _ r14_16 rfl (by kernel_rfl) (by kernel_rfl) (isz (n := 16) (by kernel_rfl) (by kernel_rfl)) (eqsz (n := 16) (by kernel_rfl) (by kernel_rfl)) (by kernel_rfl)) fun W17 p17 r14_17 => ?_
  have x17 : Ext w W17 := Puts.ext p17 x16 b14
  refine seq_nil ?_
  refine hK13 _ _ ?_
  try clear hK13 K13
  refine wp_seq_k fun K15 hK15 => ?_
  refine region_lit ?_
  have r8_10 := (row_ext r8_9 e10)
  have r8_13 := (row_ext (Puts.row p12 (row_ext r8_10 e11) (ne_of_old r8_10 l10)) e13)
  have r8_15 := (Puts.row p15 (row_ext r8_13 e14) (ne_of_old r8_13 l12))
  have r8_17 := (Puts.row p17 (row_ext (Puts.row p15 (row_ext (row_ext (Puts.row p12 (row_ext (row_ext r8_9 e10) e11) (ne_of_old r8_10 l10)) e13) e14) (ne_of_old r8_13 l12)) e16) (ne_of_old r8_15 l14))
  refine seq_val (.agg (ints .i64 (lims (s1)))) 36 rfl (by kernel_rfl) (run_load_row 34 _ g8 34 _ _ r8_17 rfl (by kernel_rfl) (by kernel_rfl) (isz (n := 16) (by kernel_rfl) (by kernel_rfl))) ?_
  refine seq_val (.agg (ints .i64 (lims (s5)))) 37 rfl (by kernel_rfl) (run_load_row 34 _ g14 34 _ _ r14_17 rfl (by kernel_rfl) (by kernel_rfl) (isz (n := 16) (by kernel_rfl) (by kernel_rfl))) ?_
  refine seq_call (.agg (ints .i64 (lims (s6)))) 46 #[.agg (ints .i64 (lims (s1))), .agg (ints .i64 (lims (s5)))] 38 rfl (by kernel_rfl) (by kernel_rfl) (c6 _) fun W18 e18 => ?_
  have x18 : Ext w W18 := Ext.tr x17 e18
  refine seq_alloc (ints .i64 (lims (0))) 34 10 rfl (by kernel_rfl) (by kernel_rfl) fun g16 W19 l16 e19 r16_19 => ?_
  have x19 : Ext w W19 := Ext.tr x18 e19
  have b16 : w.heap.size ≤ g16 := Nat.le_trans x18.size l16
  refine seq_store g16 _ (ints .i64 (lims (s6))) 34 r16_19 rfl (by kernel_rfl) (run_store_row 34 _ _ g16 34 _ _ r16_19 rfl (by kernel_rfl) (by kernel_rfl) (isz (n := 16) (by kernel_rfl) (by kernel_rfl)) (eqsz (n := 16) (by kernel_rfl) (by kernel_rfl)) (by kernel_rfl)) fun W20 p20 r16_20 => ?_
  have x20 : Ext w W20 := Puts.ext p20 x19 b16
  refine seq_nil ?_
  refine hK15 _ _ ?_
  try clear hK15 K15
  refine wp_seq_k fun K17 hK17 => ?_
  refine region_lit ?_
  have r8_18 := (row_ext r8_17 e18)
  have r8_20 := (Puts.row p20 (row_ext (row_ext r8_17 e18) e19) (ne_of_old r8_18 l16))
  refine seq_val (.agg (ints .i64 (lims (s1)))) 39 rfl (by kernel_rfl) (run_load_row 34 _ g8 34 _ _ r8_20 rfl (by kernel_rfl) (by kernel_rfl) (isz (n := 16) (by kernel_rfl) (by kernel_rfl))) ?_
  have r14_18 := (row_ext r14_17 e18)
  have r14_20 := (Puts.row p20 (row_ext (row_ext r14_17 e18) e19) (ne_of_old r14_18 l16))
  refine seq_val (.agg (ints .i64 (lims (s5)))) 40 rfl (by kernel_rfl) (run_load_row 34 _ g14 34 _ _ r14_20 rfl (by kernel_rfl) (by kernel_rfl) (isz (n := 16) (by kernel_rfl) (by kernel_rfl))) ?_
  refine seq_call (.agg (ints .i64 (lims (s7)))) 43 #[.agg (ints .i64 (lims (s1))), .agg (ints .i64 (lims (s5)))] 41 rfl (by kernel_rfl) (by kernel_rfl) (c7 _) fun W21 e21 => ?_
  have x21 : Ext w W21 := Ext.tr x20 e21
  refine seq_alloc (ints .i64 (lims (0))) 34 11 rfl (by kernel_rfl) (by kernel_rfl) fun g18 W22 l18 e22 r18_22 => ?_
  have x22 : Ext w W22 := Ext.tr x21 e22
  have b18 : w.heap.size ≤ g18 := Nat.le_trans x21.size l18
  refine seq_store g18 _ (ints .i64 (lims (s7))) 34 r18_22 rfl (by kernel_rfl) (run_store_row 34 _ _ g18 34 _ _ r18_22 rfl (by kernel_rfl) (by kernel_rfl) (isz (n := 16) (by kernel_rfl) (by kernel_rfl)) (eqsz (n := 16) (by kernel_rfl) (by kernel_rfl)) (by kernel_rfl)) fun W23 p23 r18_23 => ?_
  have x23 : Ext w W23 := Puts.ext p23 x22 b18
  refine seq_nil ?_
  refine hK17 _ _ ?_
  try clear hK17 K17
  refine wp_seq_k fun K19 hK19 => ?_
  refine any_regionD 16 [⟨none, [(2, none)]⟩, ⟨none, [(42, some 0)]⟩, ⟨none, [(2, none)]⟩, ⟨none, [(44, some 2)]⟩, ⟨none, [(43, some 1), (45, some 3)]⟩, ⟨none, [(3, none)]⟩, ⟨none, [(47, some 5)]⟩, ⟨none, [(3, none)]⟩, ⟨none, [(49, some 7)]⟩, ⟨none, [(48, some 6), (50, some 8)]⟩, ⟨none, [(46, some 4), (51, some 9)]⟩, ⟨none, [(7, none)]⟩, ⟨none, [(52, some 10), (53, some 11)]⟩, ⟨none, [(8, none)]⟩, ⟨none, [(54, some 12), (55, some 13)]⟩, ⟨none, []⟩] [15] (by kernel_rfl) (by kernel_rfl) (by kernel_rfl) fun F hF => ?_
  refine any_val (.pointer (some ⟨g2, 0, none⟩)) (by kernel_rfl) (by kernel_rfl) (fun W => by kernel_rfl) ?_
  have r2_13 := (row_ext r2_12 e13)
  have r2_15 := (Puts.row p15 (row_ext r2_13 e14) (ne_of_old r2_13 l12))
  have r2_18 := (row_ext (Puts.row p17 (row_ext r2_15 e16) (ne_of_old r2_15 l14)) e18)
  have r2_21 := (row_ext (Puts.row p20 (row_ext r2_18 e19) (ne_of_old r2_18 l16)) e21)
  have r2_23 := (Puts.row p23 (row_ext (row_ext (Puts.row p20 (row_ext (row_ext (Puts.row p17 (row_ext (Puts.row p15 (row_ext (row_ext r2_12 e13) e14) (ne_of_old r2_13 l12)) e16) (ne_of_old r2_15 l14)) e18) e19) (ne_of_old r2_18 l16)) e21) e22) (ne_of_old r2_21 l18))
  refine any_read (.agg (ints .i64 (lims (x)))) (by kernel_rfl) (by kernel_rfl) (fun W hR => (run_load_part 34 _ g2 0 36 _ _ _ (row_ext (row_ext r2_23 (ext_drew _)) hR) rfl (by kernel_rfl) (cat_part [] [ints .i64 (lims (x))] [ints .i64 (lims (y)), ints .i64 (lims (z))] 0 (by kernel_rfl)) (by kernel_rfl) (isz (n := 16) (by kernel_rfl) (by kernel_rfl)))) ?_
  refine any_val (.pointer (some ⟨g2, 16, none⟩)) (by kernel_rfl) (by kernel_rfl) (fun W => by kernel_rfl) ?_
  refine any_read (.agg (ints .i64 (lims (y)))) (by kernel_rfl) (by kernel_rfl) (fun W hR => (run_load_part 34 _ g2 16 36 _ _ _ (row_ext (row_ext r2_23 (ext_drew _)) hR) rfl (by kernel_rfl) (cat_part [ints .i64 (lims (x))] [ints .i64 (lims (y))] [ints .i64 (lims (z))] 16 (by kernel_rfl)) (by kernel_rfl) (isz (n := 16) (by kernel_rfl) (by kernel_rfl)))) ?_
  refine any_call (.agg (ints .i64 (lims (s8)))) 43 #[.agg (ints .i64 (lims (x))), .agg (ints .i64 (lims (y)))] (by kernel_rfl) (by kernel_rfl) (fun W => by kernel_rfl) (fun W hR => c8 W) ?_
  refine any_val (.pointer (some ⟨g3, 0, none⟩)) (by kernel_rfl) (by kernel_rfl) (fun W => by kernel_rfl) ?_
  have r3_13 := (row_ext r3_12 e13)
  have r3_15 := (Puts.row p15 (row_ext r3_13 e14) (ne_of_old r3_13 l12))
  have r3_18 := (row_ext (Puts.row p17 (row_ext r3_15 e16) (ne_of_old r3_15 l14)) e18)
  have r3_21 := (row_ext (Puts.row p20 (row_ext r3_18 e19) (ne_of_old r3_18 l16)) e21)
  have r3_23 := (Puts.row p23 (row_ext (row_ext (Puts.row p20 (row_ext (row_ext (Puts.row p17 (row_ext (Puts.row p15 (row_ext (row_ext r3_12 e13) e14) (ne_of_old r3_13 l12)) e16) (ne_of_old r3_15 l14)) e18) e19) (ne_of_old r3_18 l16)) e21) e22) (ne_of_old r3_21 l18))
  refine any_read (.agg (ints .i64 (lims (u)))) (by kernel_rfl) (by kernel_rfl) (fun W hR => (run_load_part 34 _ g3 0 36 _ _ _ (row_ext (row_ext r3_23 (ext_drew _)) hR) rfl (by kernel_rfl) (cat_part [] [ints .i64 (lims (u))] [ints .i64 (lims (v)), ints .i64 (lims (t))] 0 (by kernel_rfl)) (by kernel_rfl) (isz (n := 16) (by kernel_rfl) (by kernel_rfl)))) ?_
  refine any_val (.pointer (some ⟨g3, 16, none⟩)) (by kernel_rfl) (by kernel_rfl) (fun W => by kernel_rfl) ?_
  refine any_read (.agg (ints .i64 (lims (v)))) (by kernel_rfl) (by kernel_rfl) (fun W hR => (run_load_part 34 _ g3 16 36 _ _ _ (row_ext (row_ext r3_23 (ext_drew _)) hR) rfl (by kernel_rfl) (cat_part [ints .i64 (lims (u))] [ints .i64 (lims (v))] [ints .i64 (lims (t))] 16 (by kernel_rfl)) (by kernel_rfl) (isz (n := 16) (by kernel_rfl) (by kernel_rfl)))) ?_
  refine any_call (.agg (ints .i64 (lims (s9)))) 43 #[.agg (ints .i64 (lims (u))), .agg (ints .i64 (lims (v)))] (by kernel_rfl) (by kernel_rfl) (fun W => by kernel_rfl) (fun W hR => c9 W) ?_
  refine any_call (.agg (ints .i64 (lims (s10)))) 42 #[.agg (ints .i64 (lims (s8))), .agg (ints .i64 (lims (s9)))] (by kernel_rfl) (by kernel_rfl) (fun W => by kernel_rfl) (fun W hR => c10 W) ?_
  have r10_18 := (row_ext (Puts.row p17 (row_ext r10_15 e16) (ne_of_old r10_15 l14)) e18)
  have r10_21 := (row_ext (Puts.row p20 (row_ext r10_18 e19) (ne_of_old r10_18 l16)) e21)
  have r10_23 := (Puts.row p23 (row_ext (row_ext (Puts.row p20 (row_ext (row_ext (Puts.row p17 (row_ext r10_15 e16) (ne_of_old r10_15 l14)) e18) e19) (ne_of_old r10_18 l16)) e21) e22) (ne_of_old r10_21 l18))
  refine any_read (.agg (ints .i64 (lims (s2)))) (by kernel_rfl) (by kernel_rfl) (fun W hR => (run_load_row 34 _ g10 34 _ _ (row_ext (row_ext r10_23 (ext_drew _)) hR) rfl (by kernel_rfl) (by kernel_rfl) (isz (n := 16) (by kernel_rfl) (by kernel_rfl)))) ?_
  refine any_call (.agg (ints .i64 (lims (s11)))) 46 #[.agg (ints .i64 (lims (s10))), .agg (ints .i64 (lims (s2)))] (by kernel_rfl) (by kernel_rfl) (fun W => by kernel_rfl) (fun W hR => c11 W) ?_
  have r12_18 := (row_ext (Puts.row p17 (row_ext r12_15 e16) (ne_of_old r12_15 l14)) e18)
  have r12_21 := (row_ext (Puts.row p20 (row_ext r12_18 e19) (ne_of_old r12_18 l16)) e21)
  have r12_23 := (Puts.row p23 (row_ext (row_ext (Puts.row p20 (row_ext (row_ext (Puts.row p17 (row_ext r12_15 e16) (ne_of_old r12_15 l14)) e18) e19) (ne_of_old r12_18 l16)) e21) e22) (ne_of_old r12_21 l18))
  refine any_read (.agg (ints .i64 (lims (s3)))) (by kernel_rfl) (by kernel_rfl) (fun W hR => (run_load_row 34 _ g12 34 _ _ (row_ext (row_ext r12_23 (ext_drew _)) hR) rfl (by kernel_rfl) (by kernel_rfl) (isz (n := 16) (by kernel_rfl) (by kernel_rfl)))) ?_
  refine any_call (.agg (ints .i64 (lims (s12)))) 46 #[.agg (ints .i64 (lims (s11))), .agg (ints .i64 (lims (s3)))] (by kernel_rfl) (by kernel_rfl) (fun W => by kernel_rfl) (fun W hR => c12 W) ?_
  refine any_new (ints .i64 (lims (0))) 34 (by kernel_rfl) (Nat.le_refl _) (by kernel_rfl) (fun W => by kernel_rfl) ?_
  refine steps_nil (hF _ (by kernel_rfl) fun W24 e24 => ?_)
  simp only [fins, up, List.take_succ_cons, List.take_zero, List.drop_succ_cons, List.drop_zero, List.nil_append, List.cons_append]
  intro g20 l20 r20_24 n20
  have b20 : w.heap.size ≤ g20 := Nat.le_trans x23.size l20
  clear hF
  have x24 : Ext w W24 := Ext.tr x23 e24
  refine seq_store g20 _ (ints .i64 (lims (s12))) 34 r20_24 rfl (by kernel_rfl) (run_store_row 34 _ _ g20 34 _ _ r20_24 rfl (by kernel_rfl) (by kernel_rfl) (isz (n := 16) (by kernel_rfl) (by kernel_rfl)) (eqsz (n := 16) (by kernel_rfl) (by kernel_rfl)) (by kernel_rfl)) fun W25 p25 r20_25 => ?_
  have x25 : Ext w W25 := Puts.ext p25 x24 b20
  refine seq_nil ?_
  refine hK19 _ _ ?_
  try clear hK19 K19
  refine wp_seq_k fun K21 hK21 => ?_
  refine any_region 16 [⟨none, [(5, none)]⟩, ⟨none, [(10, none)]⟩, ⟨none, [(12, none)]⟩, ⟨none, [(58, some 1), (59, some 2)]⟩, ⟨none, [(57, some 0), (60, some 3)]⟩, ⟨none, [(5, none)]⟩, ⟨none, [(11, none)]⟩, ⟨none, [(8, none)]⟩, ⟨none, [(7, none)]⟩, ⟨none, [(64, some 7), (65, some 8)]⟩, ⟨none, [(63, some 6), (66, some 9)]⟩, ⟨none, [(62, some 5), (67, some 10)]⟩, ⟨none, [(10, none)]⟩, ⟨none, [(11, none)]⟩, ⟨none, [(69, some 12), (70, some 13)]⟩, ⟨none, [(61, some 4), (68, some 11), (71, some 14)]⟩] (by kernel_rfl) (by kernel_rfl) fun F hF => ?_
  have r6_7 := (row_ext r6_6 e7)
  have r6_10 := (row_ext (Puts.row p9 (row_ext r6_7 e8) (ne_of_old r6_7 l8)) e10)
  have r6_13 := (row_ext (Puts.row p12 (row_ext r6_10 e11) (ne_of_old r6_10 l10)) e13)
  have r6_15 := (Puts.row p15 (row_ext r6_13 e14) (ne_of_old r6_13 l12))
  have r6_18 := (row_ext (Puts.row p17 (row_ext r6_15 e16) (ne_of_old r6_15 l14)) e18)
  have r6_21 := (row_ext (Puts.row p20 (row_ext r6_18 e19) (ne_of_old r6_18 l16)) e21)
  have r6_23 := (Puts.row p23 (row_ext r6_21 e22) (ne_of_old r6_21 l18))
  have r6_25 := (Puts.row p25 (row_ext (Puts.row p23 (row_ext (row_ext (Puts.row p20 (row_ext (row_ext (Puts.row p17 (row_ext (Puts.row p15 (row_ext (row_ext (Puts.row p12 (row_ext (row_ext (Puts.row p9 (row_ext (row_ext r6_6 e7) e8) (ne_of_old r6_7 l8)) e10) e11) (ne_of_old r6_10 l10)) e13) e14) (ne_of_old r6_13 l12)) e16) (ne_of_old r6_15 l14)) e18) e19) (ne_of_old r6_18 l16)) e21) e22) (ne_of_old r6_21 l18)) e24) (ne_of_old r6_23 l20))
  refine any_read (.agg (ints .i64 (lims (s0)))) (by kernel_rfl) (by kernel_rfl) (fun W hR => (run_load_row 34 _ g6 34 _ _ (row_ext (row_ext r6_25 (ext_drew _)) hR) rfl (by kernel_rfl) (by kernel_rfl) (isz (n := 16) (by kernel_rfl) (by kernel_rfl)))) ?_
  have r16_21 := (row_ext r16_20 e21)
  have r16_23 := (Puts.row p23 (row_ext r16_21 e22) (ne_of_old r16_21 l18))
  have r16_25 := (Puts.row p25 (row_ext (Puts.row p23 (row_ext (row_ext r16_20 e21) e22) (ne_of_old r16_21 l18)) e24) (ne_of_old r16_23 l20))
  refine any_read (.agg (ints .i64 (lims (s6)))) (by kernel_rfl) (by kernel_rfl) (fun W hR => (run_load_row 34 _ g16 34 _ _ (row_ext (row_ext r16_25 (ext_drew _)) hR) rfl (by kernel_rfl) (by kernel_rfl) (isz (n := 16) (by kernel_rfl) (by kernel_rfl)))) ?_
  refine any_read (.agg (ints .i64 (lims (s12)))) (by kernel_rfl) (by kernel_rfl) (fun W hR => (run_load_row 34 _ g20 34 _ _ (row_ext (row_ext r20_25 (ext_drew _)) hR) rfl (by kernel_rfl) (by kernel_rfl) (isz (n := 16) (by kernel_rfl) (by kernel_rfl)))) ?_
  refine any_call (.agg (ints .i64 (lims (s13)))) 42 #[.agg (ints .i64 (lims (s6))), .agg (ints .i64 (lims (s12)))] (by kernel_rfl) (by kernel_rfl) (fun W => by kernel_rfl) (fun W hR => c13 W) ?_
  refine any_call (.agg (ints .i64 (lims (s14)))) 42 #[.agg (ints .i64 (lims (s0))), .agg (ints .i64 (lims (s13)))] (by kernel_rfl) (by kernel_rfl) (fun W => by kernel_rfl) (fun W hR => c14 W) ?_
  refine any_read (.agg (ints .i64 (lims (s0)))) (by kernel_rfl) (by kernel_rfl) (fun W hR => (run_load_row 34 _ g6 34 _ _ (row_ext (row_ext r6_25 (ext_drew _)) hR) rfl (by kernel_rfl) (by kernel_rfl) (isz (n := 16) (by kernel_rfl) (by kernel_rfl)))) ?_
  have r18_25 := (Puts.row p25 (row_ext r18_23 e24) (ne_of_old r18_23 l20))
  refine any_read (.agg (ints .i64 (lims (s7)))) (by kernel_rfl) (by kernel_rfl) (fun W hR => (run_load_row 34 _ g18 34 _ _ (row_ext (row_ext r18_25 (ext_drew _)) hR) rfl (by kernel_rfl) (by kernel_rfl) (isz (n := 16) (by kernel_rfl) (by kernel_rfl)))) ?_
  have r12_25 := (Puts.row p25 (row_ext r12_23 e24) (ne_of_old r12_23 l20))
  refine any_read (.agg (ints .i64 (lims (s3)))) (by kernel_rfl) (by kernel_rfl) (fun W hR => (run_load_row 34 _ g12 34 _ _ (row_ext (row_ext r12_25 (ext_drew _)) hR) rfl (by kernel_rfl) (by kernel_rfl) (isz (n := 16) (by kernel_rfl) (by kernel_rfl)))) ?_
  have r10_25 := (Puts.row p25 (row_ext r10_23 e24) (ne_of_old r10_23 l20))
  refine any_read (.agg (ints .i64 (lims (s2)))) (by kernel_rfl) (by kernel_rfl) (fun W hR => (run_load_row 34 _ g10 34 _ _ (row_ext (row_ext r10_25 (ext_drew _)) hR) rfl (by kernel_rfl) (by kernel_rfl) (isz (n := 16) (by kernel_rfl) (by kernel_rfl)))) ?_
  refine any_call (.agg (ints .i64 (lims (s15)))) 43 #[.agg (ints .i64 (lims (s3))), .agg (ints .i64 (lims (s2)))] (by kernel_rfl) (by kernel_rfl) (fun W => by kernel_rfl) (fun W hR => c15 W) ?_
  refine any_call (.agg (ints .i64 (lims (s16)))) 42 #[.agg (ints .i64 (lims (s7))), .agg (ints .i64 (lims (s15)))] (by kernel_rfl) (by kernel_rfl) (fun W => by kernel_rfl) (fun W hR => c16 W) ?_
  refine any_call (.agg (ints .i64 (lims (s17)))) 42 #[.agg (ints .i64 (lims (s0))), .agg (ints .i64 (lims (s16)))] (by kernel_rfl) (by kernel_rfl) (fun W => by kernel_rfl) (fun W hR => c17 W) ?_
  refine any_read (.agg (ints .i64 (lims (s6)))) (by kernel_rfl) (by kernel_rfl) (fun W hR => (run_load_row 34 _ g16 34 _ _ (row_ext (row_ext r16_25 (ext_drew _)) hR) rfl (by kernel_rfl) (by kernel_rfl) (isz (n := 16) (by kernel_rfl) (by kernel_rfl)))) ?_
  refine any_read (.agg (ints .i64 (lims (s7)))) (by kernel_rfl) (by kernel_rfl) (fun W hR => (run_load_row 34 _ g18 34 _ _ (row_ext (row_ext r18_25 (ext_drew _)) hR) rfl (by kernel_rfl) (by kernel_rfl) (isz (n := 16) (by kernel_rfl) (by kernel_rfl)))) ?_
  refine any_call (.agg (ints .i64 (lims (s18)))) 42 #[.agg (ints .i64 (lims (s6))), .agg (ints .i64 (lims (s7)))] (by kernel_rfl) (by kernel_rfl) (fun W => by kernel_rfl) (fun W hR => c18 W) ?_
  refine any_val (.agg (cat [ints .i64 (lims (s14)), ints .i64 (lims (s17)), ints .i64 (lims (s18))])) (by kernel_rfl) (by kernel_rfl) (fun W => by kernel_rfl) ?_
  refine steps_nil (hF _ (by kernel_rfl) fun W26 e26 => ?_)
  simp only [ups, up, Kn.val, List.take_succ_cons, List.take_zero, List.drop_succ_cons, List.drop_zero, List.nil_append, List.cons_append]
  clear hF
  have x26 : Ext w W26 := Ext.tr x25 e26
  have r4_4 := (row_ext r4_3 e4)
  have r4_7 := (row_ext (Puts.row p6 (row_ext r4_4 e5) (ne_of_old r4_4 l6)) e7)
  have r4_10 := (row_ext (Puts.row p9 (row_ext r4_7 e8) (ne_of_old r4_7 l8)) e10)
  have r4_13 := (row_ext (Puts.row p12 (row_ext r4_10 e11) (ne_of_old r4_10 l10)) e13)
  have r4_15 := (Puts.row p15 (row_ext r4_13 e14) (ne_of_old r4_13 l12))
  have r4_18 := (row_ext (Puts.row p17 (row_ext r4_15 e16) (ne_of_old r4_15 l14)) e18)
  have r4_21 := (row_ext (Puts.row p20 (row_ext r4_18 e19) (ne_of_old r4_18 l16)) e21)
  have r4_23 := (Puts.row p23 (row_ext r4_21 e22) (ne_of_old r4_21 l18))
  have r4_26 := (row_ext (Puts.row p25 (row_ext (Puts.row p23 (row_ext (row_ext (Puts.row p20 (row_ext (row_ext (Puts.row p17 (row_ext (Puts.row p15 (row_ext (row_ext (Puts.row p12 (row_ext (row_ext (Puts.row p9 (row_ext (row_ext (Puts.row p6 (row_ext (row_ext r4_3 e4) e5) (ne_of_old r4_4 l6)) e7) e8) (ne_of_old r4_7 l8)) e10) e11) (ne_of_old r4_10 l10)) e13) e14) (ne_of_old r4_13 l12)) e16) (ne_of_old r4_15 l14)) e18) e19) (ne_of_old r4_18 l16)) e21) e22) (ne_of_old r4_21 l18)) e24) (ne_of_old r4_23 l20)) e26)
  refine seq_store g4 _ (cat [ints .i64 (lims (s14)), ints .i64 (lims (s17)), ints .i64 (lims (s18))]) 36 r4_26 rfl (by kernel_rfl) (run_store_row 36 _ _ g4 36 _ _ r4_26 rfl (by kernel_rfl) (by kernel_rfl) (isz (n := 48) (by kernel_rfl) (by kernel_rfl)) (eqsz (n := 48) (by kernel_rfl) (by kernel_rfl)) (by kernel_rfl)) fun W27 p27 r4_27 => ?_
  have x27 : Ext w W27 := Puts.ext p27 x26 b4
  refine seq_nil ?_
  refine hK21 _ _ ?_
  try clear hK21 K21
  refine wp_ret ?_
  exact (show bodyPost _ _ _ .ret _ _ from ret1 (.agg (cat [ints .i64 (lims (s14)), ints .i64 (lims (s17)), ints .i64 (lims (s18))])) rfl (res_cell g4 36 _ r4_27 (by kernel_rfl) (by kernel_rfl) (isz (n := 48) (by kernel_rfl) (by kernel_rfl))) ⟨rfl, x27⟩)
theorem raddC (x y z u v t : Int) (h_x : isN x) (h_y : isN y) (h_z : isN z) (h_u : isN u) (h_v : isN v) (h_t : isN t) (w : World) : Calls Tryd.prog 16 #[.agg (cat [ints .i64 (lims (x)), ints .i64 (lims (y)), ints .i64 (lims (z))]), .agg (cat [ints .i64 (lims (u)), ints .i64 (lims (v)), ints .i64 (lims (t))])] w (Ret w (.agg (cat [ints .i64 (lims ((raddF x y z u v t).1)), ints .i64 (lims ((raddF x y z u v t).2.1)), ints .i64 (lims ((raddF x y z u v t).2.2))]))) :=
  radd_core x y z u v t h_x h_y h_z h_u h_v h_t _ _ _ _ _ _ _ _ _ _ _ _ _ _ _ _ _ _ _ (lMulN _ _ h_z h_t) (lMulN _ _ (isN_mod _) (isN_mod _)) (lMulN _ _ h_x h_u) (lMulN _ _ h_y h_v) (lMulN _ _ (isN_mod _) (isN_mod _)) (lMulN _ _ dN_isN (isN_mod _)) (lSubN _ _ (isN_mod _) (isN_mod _)) (lAddN _ _ (isN_mod _) (isN_mod _)) (lAddN _ _ h_x h_y) (lAddN _ _ h_u h_v) (lMulN _ _ (isN_mod _) (isN_mod _)) (lSubN _ _ (isN_mod _) (isN_mod _)) (lSubN _ _ (isN_mod _) (isN_mod _)) (lMulN _ _ (isN_mod _) (isN_mod _)) (lMulN _ _ (isN_mod _) (isN_mod _)) (lAddN _ _ (isN_mod _) (isN_mod _)) (lMulN _ _ (isN_mod _) (isN_mod _)) (lMulN _ _ (isN_mod _) (isN_mod _)) (lMulN _ _ (isN_mod _) (isN_mod _)) w
theorem radd_isN (x y z u v t : Int) (h_x : isN x) (h_y : isN y) (h_z : isN z) (h_u : isN u) (h_v : isN v) (h_t : isN t) : isN (raddF x y z u v t).1 ∧ isN (raddF x y z u v t).2.1 ∧ isN (raddF x y z u v t).2.2 := ⟨(isN_mod _), (isN_mod _), (isN_mod _)⟩
def pbaseF  : Int × Int :=
  let s0 := (patF bxN byN).1
  let s1 := (patF bxN byN).2
  (s0, s1)
set_option maxHeartbeats 4000000 in
theorem pbase_core   (s0 s1 : Int)
    (c0 : ∀ W, Calls Tryd.prog 38 #[.agg (numA (bxN)), .agg (numA (byN))] W (Ret W (.agg (cat [numA (s0), numA (s1)])))) (w : World) (tX : TypeId) (hX : w.heap[1]? = some (.cells (ints .u8 baseXL) tX)) (tY : TypeId) (hY : w.heap[2]? = some (.cells (ints .u8 baseYL) tY)) :
    Calls Tryd.prog 22 #[] w (Ret w (.agg (cat [numA (s0), numA (s1)]))) := by
  refine enter 6 [] Tryd.func22 rfl rfl (by kernel_rfl) rfl ?_
  refine wp_seq_k fun K3 hK3 => ?_
  refine region_lit ?_
  refine seq_alloc (cat [numA (0), numA (0)]) 30 0 rfl (by kernel_rfl) (by kernel_rfl) fun g4 W1 l4 e1 r4_1 => ?_
  have x1 : Ext w W1 := Ext.tr (Rely.Ext.refl w) e1
  have b4 : w.heap.size ≤ g4 := Nat.le_trans (Rely.Ext.refl w).size l4
  refine seq_nil ?_
  refine hK3 _ _ ?_
  try clear hK3 K3
  refine wp_seq_k fun K5 hK5 => ?_
  refine any_region 5 [⟨none, []⟩, ⟨none, [(1, some 0)]⟩, ⟨none, []⟩, ⟨none, [(3, some 2)]⟩, ⟨none, [(2, some 1), (4, some 3)]⟩] (by kernel_rfl) (by kernel_rfl) fun F hF => ?_
  have r1_1 := (row_ext hX e1)
  refine any_read (.agg (ints .u8 (baseXL))) (by kernel_rfl) (by kernel_rfl) (fun W hR => (run_load_row 23 _ 1 tX _ _ (row_ext (row_ext r1_1 (ext_drew _)) hR) rfl (by kernel_rfl) (by kernel_rfl) (isz (n := 32) (by kernel_rfl) ((ints_size _ _).trans (by decide))))) ?_
  refine any_call (.agg (numA (bxN))) 29 #[.agg (ints .u8 (baseXL))] (by kernel_rfl) (by kernel_rfl) (fun W => by kernel_rfl) (fun W hR => from_bx W) ?_
  have r2_1 := (row_ext hY e1)
  refine any_read (.agg (ints .u8 (baseYL))) (by kernel_rfl) (by kernel_rfl) (fun W hR => (run_load_row 23 _ 2 tY _ _ (row_ext (row_ext r2_1 (ext_drew _)) hR) rfl (by kernel_rfl) (by kernel_rfl) (isz (n := 32) (by kernel_rfl) ((ints_size _ _).trans (by decide))))) ?_
  refine any_call (.agg (numA (byN))) 29 #[.agg (ints .u8 (baseYL))] (by kernel_rfl) (by kernel_rfl) (fun W => by kernel_rfl) (fun W hR => from_by W) ?_
  refine any_call (.agg (cat [numA (s0), numA (s1)])) 38 #[.agg (numA (bxN)), .agg (numA (byN))] (by kernel_rfl) (by kernel_rfl) (fun W => by kernel_rfl) (fun W hR => c0 W) ?_
  refine steps_nil (hF _ (by kernel_rfl) fun W2 e2 => ?_)
  simp only [ups, up, Kn.val, List.take_succ_cons, List.take_zero, List.drop_succ_cons, List.drop_zero, List.nil_append, List.cons_append]
  clear hF
  have x2 : Ext w W2 := Ext.tr x1 e2
  have r4_2 := (row_ext r4_1 e2)
  refine seq_store g4 _ (cat [numA (s0), numA (s1)]) 30 r4_2 rfl (by kernel_rfl) (run_store_row 30 _ _ g4 30 _ _ r4_2 rfl (by kernel_rfl) (by kernel_rfl) (isz (n := 8) (by kernel_rfl) (by kernel_rfl)) (eqsz (n := 8) (by kernel_rfl) (by kernel_rfl)) (by kernel_rfl)) fun W3 p3 r4_3 => ?_
  have x3 : Ext w W3 := Puts.ext p3 x2 b4
  refine seq_nil ?_
  refine hK5 _ _ ?_
  try clear hK5 K5
  refine wp_ret ?_
  exact (show bodyPost _ _ _ .ret _ _ from ret1 (.agg (cat [numA (s0), numA (s1)])) rfl (res_cell g4 30 _ r4_3 (by kernel_rfl) (by kernel_rfl) (isz (n := 8) (by kernel_rfl) (by kernel_rfl))) ⟨rfl, x3⟩)
theorem pbaseC   (w : World) (tX : TypeId) (hX : w.heap[1]? = some (.cells (ints .u8 baseXL) tX)) (tY : TypeId) (hY : w.heap[2]? = some (.cells (ints .u8 baseYL) tY)) : Calls Tryd.prog 22 #[] w (Ret w (.agg (cat [numA ((pbaseF ).1), numA ((pbaseF ).2)]))) :=
  pbase_core   _ _ (patC _ _ bxN_isN byN_isN) w tX hX tY hY
theorem pbase_isN   : isN (pbaseF ).1 ∧ isN (pbaseF ).2 := ⟨(pat_isN _ _ bxN_isN byN_isN).1, (pat_isN _ _ bxN_isN byN_isN).2⟩

end Go.Proofs.YtaojnmjmmfdfjaaDoor.Field
