/- Points: what is reckoned with numbers. -/
import Derived.Test.YtaojnmjmmfdfjaaDoorPtOps
namespace Go.Proofs.YtaojnmjmmfdfjaaDoor.Field
open Go Go.RowKit
open Go.Proofs.YtaojnmjmmfdfjaaDoor.Rely Go.Proofs.YtaojnmjmmfdfjaaDoor.Auto
set_option linter.unusedVariables false

def patF (x y : Int) : Int × Int :=
  let s0 := (y - 1) % p
  (x, s0)
set_option maxHeartbeats 4000000 in
theorem pat_core (x y : Int) (h_x : isN x) (h_y : isN y) (s0 : Int)
    (c0 : ∀ W, Calls Tryd.prog 34 #[.agg (numA (y)), .agg (numA (1))] W (Ret W (.agg (numA (s0))))) (w : World) :
    Calls Tryd.prog 38 #[.agg (numA (x)), .agg (numA (y))] w (Ret w (.agg (cat [numA (x), numA (s0)]))) := by
  refine enter 10 [(0, .agg (numA (x))), (1, .agg (numA (y)))] Tryd.func38 rfl rfl (by kernel_rfl) rfl ?_
  refine wp_seq_k fun K1 hK1 => ?_
  refine region_lit ?_
  refine seq_alloc (numA (x)) 28 2 rfl (by kernel_rfl) (by kernel_rfl) fun g2 W1 l2 e1 r2_1 => ?_
  have x1 : Ext w W1 := Ext.tr (Rely.Ext.refl w) e1
  have b2 : w.heap.size ≤ g2 := Nat.le_trans (Rely.Ext.refl w).size l2
  refine seq_alloc (numA (y)) 28 3 rfl (by kernel_rfl) (by kernel_rfl) fun g3 W2 l3 e2 r3_2 => ?_
  have x2 : Ext w W2 := Ext.tr x1 e2
  have b3 : w.heap.size ≤ g3 := Nat.le_trans x1.size l3
  refine seq_alloc (cat [numA (0), numA (0)]) 30 4 rfl (by kernel_rfl) (by kernel_rfl) fun g4 W3 l4 e3 r4_3 => ?_
  have x3 : Ext w W3 := Ext.tr x2 e3
  have b4 : w.heap.size ≤ g4 := Nat.le_trans x2.size l4
  refine seq_nil ?_
  refine hK1 _ _ ?_
  try clear hK1 K1
  refine wp_seq_k fun K5 hK5 => ?_
  refine any_region 5 [⟨none, [(2, none)]⟩, ⟨none, [(3, none)]⟩, ⟨none, []⟩, ⟨none, [(6, some 1), (7, some 2)]⟩, ⟨none, [(5, some 0), (8, some 3)]⟩] (by kernel_rfl) (by kernel_rfl) fun F hF => ?_
  have r2_3 := (row_ext (row_ext r2_1 e2) e3)
  refine any_read (.agg (numA (x))) (by kernel_rfl) (by kernel_rfl) (fun W hR => (run_load_row 28 _ g2 28 _ _ (row_ext (row_ext r2_3 (ext_drew _)) hR) rfl (by kernel_rfl) (by kernel_rfl) (isz (n := 4) (by kernel_rfl) (by kernel_rfl)))) ?_
  have r3_3 := (row_ext r3_2 e3)
  refine any_read (.agg (numA (y))) (by kernel_rfl) (by kernel_rfl) (fun W hR => (run_load_row 28 _ g3 28 _ _ (row_ext (row_ext r3_3 (ext_drew _)) hR) rfl (by kernel_rfl) (by kernel_rfl) (isz (n := 4) (by kernel_rfl) (by kernel_rfl)))) ?_
  refine any_call (.agg (numA (1))) 32 #[.int .i64 1] (by kernel_rfl) (by kernel_rfl) (fun W => by kernel_rfl) (fun W hR => (small_k 1 (by decide)) W) ?_
  refine any_call (.agg (numA (s0))) 34 #[.agg (numA (y)), .agg (numA (1))] (by kernel_rfl) (by kernel_rfl) (fun W => by kernel_rfl) (fun W hR => c0 W) ?_
  refine any_val (.agg (cat [numA (x), numA (s0)])) (by kernel_rfl) (by kernel_rfl) (fun W => by kernel_rfl) ?_
  refine steps_nil (hF _ (by kernel_rfl) fun W4 e4 => ?_)
  simp only [ups, up, Kn.val, List.take_succ_cons, List.take_zero, List.drop_succ_cons, List.drop_zero, List.nil_append, List.cons_append]
  clear hF
  have x4 : Ext w W4 := Ext.tr x3 e4
  have r4_4 := (row_ext r4_3 e4)
  refine seq_store g4 _ (cat [numA (x), numA (s0)]) 30 r4_4 rfl (by kernel_rfl) (run_store_row 30 _ _ g4 30 _ _ r4_4 rfl (by kernel_rfl) (by kernel_rfl) (isz (n := 8) (by kernel_rfl) (by kernel_rfl)) (eqsz (n := 8) (by kernel_rfl) (by kernel_rfl)) (by kernel_rfl)) fun W5 p5 r4_5 => ?_
  have x5 : Ext w W5 := Puts.ext p5 x4 b4
  refine seq_nil ?_
  refine hK5 _ _ ?_
  try clear hK5 K5
  refine wp_ret ?_
  exact (show bodyPost _ _ _ .ret _ _ from ret1 (.agg (cat [numA (x), numA (s0)])) rfl (res_cell g4 30 _ r4_5 (by kernel_rfl) (by kernel_rfl) (isz (n := 8) (by kernel_rfl) (by kernel_rfl))) ⟨rfl, x5⟩)
theorem patC (x y : Int) (h_x : isN x) (h_y : isN y) (w : World) : Calls Tryd.prog 38 #[.agg (numA (x)), .agg (numA (y))] w (Ret w (.agg (cat [numA ((patF x y).1), numA ((patF x y).2)]))) :=
  pat_core x y h_x h_y _ (sub _ _ h_y (num_isN 1)) w
theorem pat_isN (x y : Int) (h_x : isN x) (h_y : isN y) : isN (patF x y).1 ∧ isN (patF x y).2 := ⟨h_x, (isN_mod _)⟩

def pnegF (x : Int) : Int :=
  let s0 := (0 - x) % p
  (s0)
set_option maxHeartbeats 4000000 in
theorem pneg_core (x : Int) (h_x : isN x) (s0 : Int)
    (c0 : ∀ W, Calls Tryd.prog 34 #[.agg (numA (0)), .agg (numA (x))] W (Ret W (.agg (numA (s0))))) (w : World) :
    Calls Tryd.prog 37 #[.agg (numA (x))] w (Ret w (.agg (numA (s0)))) := by
  refine enter 6 [(0, .agg (numA (x)))] Tryd.func37 rfl rfl (by kernel_rfl) rfl ?_
  refine wp_seq_k fun K1 hK1 => ?_
  refine region_lit ?_
  refine seq_alloc (numA (x)) 28 1 rfl (by kernel_rfl) (by kernel_rfl) fun g2 W1 l2 e1 r2_1 => ?_
  have x1 : Ext w W1 := Ext.tr (Rely.Ext.refl w) e1
  have b2 : w.heap.size ≤ g2 := Nat.le_trans (Rely.Ext.refl w).size l2
  refine seq_alloc (numA (0)) 28 2 rfl (by kernel_rfl) (by kernel_rfl) fun g3 W2 l3 e2 r3_2 => ?_
  have x2 : Ext w W2 := Ext.tr x1 e2
  have b3 : w.heap.size ≤ g3 := Nat.le_trans x1.size l3
  refine seq_nil ?_
  refine hK1 _ _ ?_
  try clear hK1 K1
  refine wp_seq_k fun K4 hK4 => ?_
  refine region_lit ?_
  refine seq_val (.agg (numA (0))) 3 rfl (by kernel_rfl) (by kernel_rfl) ?_
  have r2_2 := (row_ext r2_1 e2)
  refine seq_val (.agg (numA (x))) 4 rfl (by kernel_rfl) (run_load_row 28 _ g2 28 _ _ r2_2 rfl (by kernel_rfl) (by kernel_rfl) (isz (n := 4) (by kernel_rfl) (by kernel_rfl))) ?_
  refine seq_call (.agg (numA (s0))) 34 #[.agg (numA (0)), .agg (numA (x))] 5 rfl (by kernel_rfl) (by kernel_rfl) (c0 _) fun W3 e3 => ?_
  have x3 : Ext w W3 := Ext.tr x2 e3
  have r3_3 := (row_ext r3_2 e3)
  refine seq_store g3 _ (numA (s0)) 28 r3_3 rfl (by kernel_rfl) (run_store_row 28 _ _ g3 28 _ _ r3_3 rfl (by kernel_rfl) (by kernel_rfl) (isz (n := 4) (by kernel_rfl) (by kernel_rfl)) (eqsz (n := 4) (by kernel_rfl) (by kernel_rfl)) (by kernel_rfl)) fun W4 p4 r3_4 => ?_
  have x4 : Ext w W4 := Puts.ext p4 x3 b3
  refine seq_nil ?_
  refine hK4 _ _ ?_
  try clear hK4 K4
  refine wp_ret ?_
  exact (show bodyPost _ _ _ .ret _ _ from ret1 (.agg (numA (s0))) rfl (res_cell g3 28 _ r3_4 (by kernel_rfl) (by kernel_rfl) (isz (n := 4) (by kernel_rfl) (by kernel_rfl))) ⟨rfl, x4⟩)
theorem pnegC (x : Int) (h_x : isN x) (w : World) : Calls Tryd.prog 37 #[.agg (numA (x))] w (Ret w (.agg (numA ((pnegF x))))) :=
  pneg_core x h_x _ (sub _ _ (num_isN 0) h_x) w
theorem pneg_isN (x : Int) (h_x : isN x) : isN (pnegF x) := (isN_mod _)

def pyF (x l : Int) : Int :=
  let s0 := (l + 1) % p
  (s0)
set_option maxHeartbeats 4000000 in
theorem py_core (x l : Int) (h_x : isN x) (h_l : isN l) (s0 : Int)
    (c0 : ∀ W, Calls Tryd.prog 33 #[.agg (numA (l)), .agg (numA (1))] W (Ret W (.agg (numA (s0))))) (w : World) :
    Calls Tryd.prog 48 #[.agg (cat [numA (x), numA (l)])] w (Ret w (.agg (numA (s0)))) := by
  refine enter 7 [(0, .agg (cat [numA (x), numA (l)]))] Tryd.func48 rfl rfl (by kernel_rfl) rfl ?_
  refine wp_seq_k fun K1 hK1 => ?_
  refine region_lit ?_
  refine seq_alloc (cat [numA (x), numA (l)]) 30 1 rfl (by kernel_rfl) (by kernel_rfl) fun g2 W1 l2 e1 r2_1 => ?_
  have x1 : Ext w W1 := Ext.tr (Rely.Ext.refl w) e1
  have b2 : w.heap.size ≤ g2 := Nat.le_trans (Rely.Ext.refl w).size l2
  refine seq_alloc (numA (0)) 28 2 rfl (by kernel_rfl) (by kernel_rfl) fun g3 W2 l3 e2 r3_2 => ?_
  have x2 : Ext w W2 := Ext.tr x1 e2
  have b3 : w.heap.size ≤ g3 := Nat.le_trans x1.size l3
  refine seq_nil ?_
  refine hK1 _ _ ?_
  try clear hK1 K1
  refine wp_seq_k fun K4 hK4 => ?_
  refine any_region 4 [⟨none, [(1, none)]⟩, ⟨none, [(3, some 0)]⟩, ⟨none, []⟩, ⟨none, [(4, some 1), (5, some 2)]⟩] (by kernel_rfl) (by kernel_rfl) fun F hF => ?_
  refine any_val (.pointer (some ⟨g2, 4, none⟩)) (by kernel_rfl) (by kernel_rfl) (fun W => by kernel_rfl) ?_
  have r2_2 := (row_ext r2_1 e2)
  refine any_read (.agg (numA (l))) (by kernel_rfl) (by kernel_rfl) (fun W hR => (run_load_part 28 _ g2 4 30 _ _ _ (row_ext (row_ext r2_2 (ext_drew _)) hR) rfl (by kernel_rfl) (cat_part [numA (x)] [numA (l)] [] 4 (by kernel_rfl)) (by kernel_rfl) (isz (n := 4) (by kernel_rfl) (by kernel_rfl)))) ?_
  refine any_call (.agg (numA (1))) 32 #[.int .i64 1] (by kernel_rfl) (by kernel_rfl) (fun W => by kernel_rfl) (fun W hR => (small_k 1 (by decide)) W) ?_
  refine any_call (.agg (numA (s0))) 33 #[.agg (numA (l)), .agg (numA (1))] (by kernel_rfl) (by kernel_rfl) (fun W => by kernel_rfl) (fun W hR => c0 W) ?_
  refine steps_nil (hF _ (by kernel_rfl) fun W3 e3 => ?_)
  simp only [ups, up, Kn.val, List.take_succ_cons, List.take_zero, List.drop_succ_cons, List.drop_zero, List.nil_append, List.cons_append]
  clear hF
  have x3 : Ext w W3 := Ext.tr x2 e3
  have r3_3 := (row_ext r3_2 e3)
  refine seq_store g3 _ (numA (s0)) 28 r3_3 rfl (by kernel_rfl) (run_store_row 28 _ _ g3 28 _ _ r3_3 rfl (by kernel_rfl) (by kernel_rfl) (isz (n := 4) (by kernel_rfl) (by kernel_rfl)) (eqsz (n := 4) (by kernel_rfl) (by kernel_rfl)) (by kernel_rfl)) fun W4 p4 r3_4 => ?_
  have x4 : Ext w W4 := Puts.ext p4 x3 b3
  refine seq_nil ?_
  refine hK4 _ _ ?_
  try clear hK4 K4
  refine wp_ret ?_
  exact (show bodyPost _ _ _ .ret _ _ from ret1 (.agg (numA (s0))) rfl (res_cell g3 28 _ r3_4 (by kernel_rfl) (by kernel_rfl) (isz (n := 4) (by kernel_rfl) (by kernel_rfl))) ⟨rfl, x4⟩)
theorem pyC (x l : Int) (h_x : isN x) (h_l : isN l) (w : World) : Calls Tryd.prog 48 #[.agg (cat [numA (x), numA (l)])] w (Ret w (.agg (numA ((pyF x l))))) :=
  py_core x l h_x h_l _ (add _ _ h_l (num_isN 1)) w
theorem py_isN (x l : Int) (h_x : isN x) (h_l : isN l) : isN (pyF x l) := (isN_mod _)

def pwideF (x l : Int) : Int × Int × Int × Int :=
  let s0 := (pyF x l)
  let s1 := x * s0 % p
  (x, s0, 1, s1)
set_option maxHeartbeats 4000000 in
theorem pwide_core (x l : Int) (h_x : isN x) (h_l : isN l) (s0 s1 : Int)
    (c0 : ∀ W, Calls Tryd.prog 48 #[.agg (cat [numA (x), numA (l)])] W (Ret W (.agg (numA (s0)))))
    (c1 : ∀ W, Calls Tryd.prog 31 #[.agg (numA (x)), .agg (numA (s0))] W (Ret W (.agg (numA (s1))))) (w : World) :
    Calls Tryd.prog 50 #[.agg (cat [numA (x), numA (l)])] w (Ret w (.agg (cat [numA (x), numA (s0), numA (1), numA (s1)]))) := by
  refine enter 14 [(0, .agg (cat [numA (x), numA (l)]))] Tryd.func50 rfl rfl (by kernel_rfl) rfl ?_
  refine wp_seq_k fun K1 hK1 => ?_
  refine region_lit ?_
  refine seq_alloc (cat [numA (x), numA (l)]) 30 1 rfl (by kernel_rfl) (by kernel_rfl) fun g2 W1 l2 e1 r2_1 => ?_
  have x1 : Ext w W1 := Ext.tr (Rely.Ext.refl w) e1
  have b2 : w.heap.size ≤ g2 := Nat.le_trans (Rely.Ext.refl w).size l2
  refine seq_alloc (cat [numA (0), numA (0), numA (0), numA (0)]) 75 2 rfl (by kernel_rfl) (by kernel_rfl) fun g3 W2 l3 e2 r3_2 => ?_
  have x2 : Ext w W2 := Ext.tr x1 e2
  have b3 : w.heap.size ≤ g3 := Nat.le_trans x1.size l3
  refine seq_nil ?_
  refine hK1 _ _ ?_
  try clear hK1 K1
  refine wp_seq_k fun K4 hK4 => ?_
  refine any_region 11 [⟨none, [(1, none)]⟩, ⟨none, [(3, some 0)]⟩, ⟨none, [(1, none)]⟩, ⟨none, [(5, some 2)]⟩, ⟨none, []⟩, ⟨none, [(1, none)]⟩, ⟨none, [(8, some 5)]⟩, ⟨none, [(1, none)]⟩, ⟨none, [(10, some 7)]⟩, ⟨none, [(9, some 6), (11, some 8)]⟩, ⟨none, [(4, some 1), (6, some 3), (7, some 4), (12, some 9)]⟩] (by kernel_rfl) (by kernel_rfl) fun F hF => ?_
  refine any_val (.pointer (some ⟨g2, 0, none⟩)) (by kernel_rfl) (by kernel_rfl) (fun W => by kernel_rfl) ?_
  have r2_2 := (row_ext r2_1 e2)
  refine any_read (.agg (numA (x))) (by kernel_rfl) (by kernel_rfl) (fun W hR => (run_load_part 28 _ g2 0 30 _ _ _ (row_ext (row_ext r2_2 (ext_drew _)) hR) rfl (by kernel_rfl) (cat_part [] [numA (x)] [numA (l)] 0 (by kernel_rfl)) (by kernel_rfl) (isz (n := 4) (by kernel_rfl) (by kernel_rfl)))) ?_
  refine any_read (.agg (cat [numA (x), numA (l)])) (by kernel_rfl) (by kernel_rfl) (fun W hR => (run_load_row 30 _ g2 30 _ _ (row_ext (row_ext r2_2 (ext_drew _)) hR) rfl (by kernel_rfl) (by kernel_rfl) (isz (n := 8) (by kernel_rfl) (by kernel_rfl)))) ?_
  refine any_call (.agg (numA (s0))) 48 #[.agg (cat [numA (x), numA (l)])] (by kernel_rfl) (by kernel_rfl) (fun W => by kernel_rfl) (fun W hR => c0 W) ?_
  refine any_call (.agg (numA (1))) 32 #[.int .i64 1] (by kernel_rfl) (by kernel_rfl) (fun W => by kernel_rfl) (fun W hR => (small_k 1 (by decide)) W) ?_
  refine any_val (.pointer (some ⟨g2, 0, none⟩)) (by kernel_rfl) (by kernel_rfl) (fun W => by kernel_rfl) ?_
  refine any_read (.agg (numA (x))) (by kernel_rfl) (by kernel_rfl) (fun W hR => (run_load_part 28 _ g2 0 30 _ _ _ (row_ext (row_ext r2_2 (ext_drew _)) hR) rfl (by kernel_rfl) (cat_part [] [numA (x)] [numA (l)] 0 (by kernel_rfl)) (by kernel_rfl) (isz (n := 4) (by kernel_rfl) (by kernel_rfl)))) ?_
  refine any_read (.agg (cat [numA (x), numA (l)])) (by kernel_rfl) (by kernel_rfl) (fun W hR => (run_load_row 30 _ g2 30 _ _ (row_ext (row_ext r2_2 (ext_drew _)) hR) rfl (by kernel_rfl) (by kernel_rfl) (isz (n := 8) (by kernel_rfl) (by kernel_rfl)))) ?_
  refine any_call (.agg (numA (s0))) 48 #[.agg (cat [numA (x), numA (l)])] (by kernel_rfl) (by kernel_rfl) (fun W => by kernel_rfl) (fun W hR => c0 W) ?_
  refine any_call (.agg (numA (s1))) 31 #[.agg (numA (x)), .agg (numA (s0))] (by kernel_rfl) (by kernel_rfl) (fun W => by kernel_rfl) (fun W hR => c1 W) ?_
  refine any_val (.agg (cat [numA (x), numA (s0), numA (1), numA (s1)])) (by kernel_rfl) (by kernel_rfl) (fun W => by kernel_rfl) ?_
  refine steps_nil (hF _ (by kernel_rfl) fun W3 e3 => ?_)
  simp only [ups, up, Kn.val, List.take_succ_cons, List.take_zero, List.drop_succ_cons, List.drop_zero, List.nil_append, List.cons_append]
  clear hF
  have x3 : Ext w W3 := Ext.tr x2 e3
  have r3_3 := (row_ext r3_2 e3)
  refine seq_store g3 _ (cat [numA (x), numA (s0), numA (1), numA (s1)]) 75 r3_3 rfl (by kernel_rfl) (run_store_row 75 _ _ g3 75 _ _ r3_3 rfl (by kernel_rfl) (by kernel_rfl) (isz (n := 16) (by kernel_rfl) (by kernel_rfl)) (eqsz (n := 16) (by kernel_rfl) (by kernel_rfl)) (by kernel_rfl)) fun W4 p4 r3_4 => ?_
  have x4 : Ext w W4 := Puts.ext p4 x3 b3
  refine seq_nil ?_
  refine hK4 _ _ ?_
  try clear hK4 K4
  refine wp_ret ?_
  exact (show bodyPost _ _ _ .ret _ _ from ret1 (.agg (cat [numA (x), numA (s0), numA (1), numA (s1)])) rfl (res_cell g3 75 _ r3_4 (by kernel_rfl) (by kernel_rfl) (isz (n := 16) (by kernel_rfl) (by kernel_rfl))) ⟨rfl, x4⟩)
theorem pwideC (x l : Int) (h_x : isN x) (h_l : isN l) (w : World) : Calls Tryd.prog 50 #[.agg (cat [numA (x), numA (l)])] w (Ret w (.agg (cat [numA ((pwideF x l).1), numA ((pwideF x l).2.1), numA ((pwideF x l).2.2.1), numA ((pwideF x l).2.2.2)]))) :=
  pwide_core x l h_x h_l _ _ (pyC _ _ h_x h_l) (mul _ _ h_x (py_isN _ _ h_x h_l)) w
theorem pwide_isN (x l : Int) (h_x : isN x) (h_l : isN l) : isN (pwideF x l).1 ∧ isN (pwideF x l).2.1 ∧ isN (pwideF x l).2.2.1 ∧ isN (pwideF x l).2.2.2 := ⟨h_x, (py_isN _ _ h_x h_l), (num_isN 1), (isN_mod _)⟩

def waddF (a b c d e f g h k : Int) : Int × Int × Int × Int :=
  let s0 := (b - a) % p
  let s1 := (f - e) % p
  let s2 := s0 * s1 % p
  let s3 := (b + a) % p
  let s4 := (f + e) % p
  let s5 := s3 * s4 % p
  let s6 := d * h % p
  let s7 := s6 * k % p
  let s8 := (s7 + s7) % p
  let s9 := c * g % p
  let s10 := (s9 + s9) % p
  let s11 := (s5 - s2) % p
  let s12 := (s10 - s8) % p
  let s13 := (s10 + s8) % p
  let s14 := (s5 + s2) % p
  let s15 := s11 * s12 % p
  let s16 := s13 * s14 % p
  let s17 := s12 * s13 % p
  let s18 := s11 * s14 % p
  (s15, s16, s17, s18)
set_option maxHeartbeats 4000000 in
theorem wadd_core (a b c d e f g h k : Int) (h_a : isN a) (h_b : isN b) (h_c : isN c) (h_d : isN d) (h_e : isN e) (h_f : isN f) (h_g : isN g) (h_h : isN h) (h_k : isN k) (s0 s1 s2 s3 s4 s5 s6 s7 s8 s9 s10 s11 s12 s13 s14 s15 s16 s17 s18 : Int)
    (c0 : ∀ W, Calls Tryd.prog 34 #[.agg (numA (b)), .agg (numA (a))] W (Ret W (.agg (numA (s0)))))
    (c1 : ∀ W, Calls Tryd.prog 34 #[.agg (numA (f)), .agg (numA (e))] W (Ret W (.agg (numA (s1)))))
    (c2 : ∀ W, Calls Tryd.prog 31 #[.agg (numA (s0)), .agg (numA (s1))] W (Ret W (.agg (numA (s2)))))
    (c3 : ∀ W, Calls Tryd.prog 33 #[.agg (numA (b)), .agg (numA (a))] W (Ret W (.agg (numA (s3)))))
    (c4 : ∀ W, Calls Tryd.prog 33 #[.agg (numA (f)), .agg (numA (e))] W (Ret W (.agg (numA (s4)))))
    (c5 : ∀ W, Calls Tryd.prog 31 #[.agg (numA (s3)), .agg (numA (s4))] W (Ret W (.agg (numA (s5)))))
    (c6 : ∀ W, Calls Tryd.prog 31 #[.agg (numA (d)), .agg (numA (h))] W (Ret W (.agg (numA (s6)))))
    (c7 : ∀ W, Calls Tryd.prog 31 #[.agg (numA (s6)), .agg (numA (k))] W (Ret W (.agg (numA (s7)))))
    (c8 : ∀ W, Calls Tryd.prog 33 #[.agg (numA (s7)), .agg (numA (s7))] W (Ret W (.agg (numA (s8)))))
    (c9 : ∀ W, Calls Tryd.prog 31 #[.agg (numA (c)), .agg (numA (g))] W (Ret W (.agg (numA (s9)))))
    (c10 : ∀ W, Calls Tryd.prog 33 #[.agg (numA (s9)), .agg (numA (s9))] W (Ret W (.agg (numA (s10)))))
    (c11 : ∀ W, Calls Tryd.prog 34 #[.agg (numA (s5)), .agg (numA (s2))] W (Ret W (.agg (numA (s11)))))
    (c12 : ∀ W, Calls Tryd.prog 34 #[.agg (numA (s10)), .agg (numA (s8))] W (Ret W (.agg (numA (s12)))))
    (c13 : ∀ W, Calls Tryd.prog 33 #[.agg (numA (s10)), .agg (numA (s8))] W (Ret W (.agg (numA (s13)))))
    (c14 : ∀ W, Calls Tryd.prog 33 #[.agg (numA (s5)), .agg (numA (s2))] W (Ret W (.agg (numA (s14)))))
    (c15 : ∀ W, Calls Tryd.prog 31 #[.agg (numA (s11)), .agg (numA (s12))] W (Ret W (.agg (numA (s15)))))
    (c16 : ∀ W, Calls Tryd.prog 31 #[.agg (numA (s13)), .agg (numA (s14))] W (Ret W (.agg (numA (s16)))))
    (c17 : ∀ W, Calls Tryd.prog 31 #[.agg (numA (s12)), .agg (numA (s13))] W (Ret W (.agg (numA (s17)))))
    (c18 : ∀ W, Calls Tryd.prog 31 #[.agg (numA (s11)), .agg (numA (s14))] W (Ret W (.agg (numA (s18))))) (w : World) :
    Calls Tryd.prog 51 #[.agg (cat [numA (a), numA (b), numA (c), numA (d)]), .agg (cat [numA (e), numA (f), numA (g), numA (h)]), .agg (numA (k))] w (Ret w (.agg (cat [numA (s15), numA (s16), numA (s17), numA (s18)]))) := by
  refine enter 80 [(0, .agg (cat [numA (a), numA (b), numA (c), numA (d)])), (1, .agg (cat [numA (e), numA (f), numA (g), numA (h)])), (2, .agg (numA (k)))] Tryd.func51 rfl rfl (by kernel_rfl) rfl ?_
  refine wp_seq_k fun K1 hK1 => ?_
  refine region_lit ?_
  refine seq_alloc (cat [numA (a), numA (b), numA (c), numA (d)]) 75 3 rfl (by kernel_rfl) (by kernel_rfl) fun g2 W1 l2 e1 r2_1 => ?_
  have x1 : Ext w W1 := Ext.tr (Rely.Ext.refl w) e1
  have b2 : w.heap.size ≤ g2 := Nat.le_trans (Rely.Ext.refl w).size l2
  refine seq_alloc (cat [numA (e), numA (f), numA (g), numA (h)]) 75 4 rfl (by kernel_rfl) (by kernel_rfl) fun g3 W2 l3 e2 r3_2 => ?_
  have x2 : Ext w W2 := Ext.tr x1 e2
  have b3 : w.heap.size ≤ g3 := Nat.le_trans x1.size l3
  refine seq_alloc (numA (k)) 28 5 rfl (by kernel_rfl) (by kernel_rfl) fun g4 W3 l4 e3 r4_3 => ?_
  have x3 : Ext w W3 := Ext.tr x2 e3
  have b4 : w.heap.size ≤ g4 := Nat.le_trans x2.size l4
  refine seq_alloc (cat [numA (0), numA (0), numA (0), numA (0)]) 75 6 rfl (by kernel_rfl) (by kernel_rfl) fun g5 W4 l5 e4 r5_4 => ?_
  have x4 : Ext w W4 := Ext.tr x3 e4
  have b5 : w.heap.size ≤ g5 := Nat.le_trans x3.size l5
  refine seq_nil ?_
  refine hK1 _ _ ?_
  try clear hK1 K1
  refine wp_seq_k fun K6 hK6 => ?_
  refine any_regionD 12 [⟨none, [(3, none)]⟩, ⟨none, [(15, some 0)]⟩, ⟨none, [(3, none)]⟩, ⟨none, [(17, some 2)]⟩, ⟨none, [(16, some 1), (18, some 3)]⟩, ⟨none, [(4, none)]⟩, ⟨none, [(20, some 5)]⟩, ⟨none, [(4, none)]⟩, ⟨none, [(22, some 7)]⟩, ⟨none, [(21, some 6), (23, some 8)]⟩, ⟨none, [(19, some 4), (24, some 9)]⟩, ⟨none, []⟩] [11] (by kernel_rfl) (by kernel_rfl) (by kernel_rfl) fun F hF => ?_
  refine any_val (.pointer (some ⟨g2, 4, none⟩)) (by kernel_rfl) (by kernel_rfl) (fun W => by kernel_rfl) ?_
  have r2_4 := (row_ext (row_ext (row_ext r2_1 e2) e3) e4)
  refine any_read (.agg (numA (b))) (by kernel_rfl) (by kernel_rfl) (fun W hR => (run_load_part 28 _ g2 4 75 _ _ _ (row_ext (row_ext r2_4 (ext_drew _)) hR) rfl (by kernel_rfl) (cat_part [numA (a)] [numA (b)] [numA (c), numA (d)] 4 (by kernel_rfl)) (by kernel_rfl) (isz (n := 4) (by kernel_rfl) (by kernel_rfl)))) ?_
  refine any_val (.pointer (some ⟨g2, 0, none⟩)) (by kernel_rfl) (by kernel_rfl) (fun W => by kernel_rfl) ?_
  refine any_read (.agg (numA (a))) (by kernel_rfl) (by kernel_rfl) (fun W hR => (run_load_part 28 _ g2 0 75 _ _ _ (row_ext (row_ext r2_4 (ext_drew _)) hR) rfl (by kernel_rfl) (cat_part [] [numA (a)] [numA (b), numA (c), numA (d)] 0 (by kernel_rfl)) (by kernel_rfl) (isz (n := 4) (by kernel_rfl) (by kernel_rfl)))) ?_
  refine any_call (.agg (numA (s0))) 34 #[.agg (numA (b)), .agg (numA (a))] (by kernel_rfl) (by kernel_rfl) (fun W => by kernel_rfl) (fun W hR => c0 W) ?_
  refine any_val (.pointer (some ⟨g3, 4, none⟩)) (by kernel_rfl) (by kernel_rfl) (fun W => by kernel_rfl) ?_
  have r3_4 := (row_ext (row_ext r3_2 e3) e4)
  refine any_read (.agg (numA (f))) (by kernel_rfl) (by kernel_rfl) (fun W hR => (run_load_part 28 _ g3 4 75 _ _ _ (row_ext (row_ext r3_4 (ext_drew _)) hR) rfl (by kernel_rfl) (cat_part [numA (e)] [numA (f)] [numA (g), numA (h)] 4 (by kernel_rfl)) (by kernel_rfl) (isz (n := 4) (by kernel_rfl) (by kernel_rfl)))) ?_
  refine any_val (.pointer (some ⟨g3, 0, none⟩)) (by kernel_rfl) (by kernel_rfl) (fun W => by kernel_rfl) ?_
  refine any_read (.agg (numA (e))) (by kernel_rfl) (by kernel_rfl) (fun W hR => (run_load_part 28 _ g3 0 75 _ _ _ (row_ext (row_ext r3_4 (ext_drew _)) hR) rfl (by kernel_rfl) (cat_part [] [numA (e)] [numA (f), numA (g), numA (h)] 0 (by kernel_rfl)) (by kernel_rfl) (isz (n := 4) (by kernel_rfl) (by kernel_rfl)))) ?_
  refine any_call (.agg (numA (s1))) 34 #[.agg (numA (f)), .agg (numA (e))] (by kernel_rfl) (by kernel_rfl) (fun W => by kernel_rfl) (fun W hR => c1 W) ?_
  refine any_call (.agg (numA (s2))) 31 #[.agg (numA (s0)), .agg (numA (s1))] (by kernel_rfl) (by kernel_rfl) (fun W => by kernel_rfl) (fun W hR => c2 W) ?_
  refine any_new (numA (0)) 28 (by kernel_rfl) (Nat.le_refl _) (by kernel_rfl) (fun W => by kernel_rfl) ?_
  refine steps_nil (hF _ (by kernel_rfl) fun W5 e5 => ?_)
  simp only [fins, up, List.take_succ_cons, List.take_zero, List.drop_succ_cons, List.drop_zero, List.nil_append, List.cons_append]
  intro g7 l7 r7_5 n7
  have b7 : w.heap.size ≤ g7 := Nat.le_trans x4.size l7
  clear hF
  have x5 : Ext w W5 := Ext.tr x4 e5
  refine seq_store g7 _ (numA (s2)) 28 r7_5 rfl (by kernel_rfl) (run_store_row 28 _ _ g7 28 _ _ r7_5 rfl (by kernel_rfl) (by kernel_rfl) (isz (n := 4) (by kernel_rfl) (by kernel_rfl)) (eqsz (n := 4) (by kernel_rfl) (by kernel_rfl)) (by kernel_rfl)) fun W6 p6 r7_6 => ?_
  have x6 : Ext w W6 := Puts.ext p6 x5 b7
  refine seq_nil ?_
  refine hK6 _ _ ?_
  try clear hK6 K6
  refine wp_seq_k fun K8 hK8 => ?_
  refine any_regionD 12 [⟨none, [(3, none)]⟩, ⟨none, [(26, some 0)]⟩, ⟨none, [(3, none)]⟩, ⟨none, [(28, some 2)]⟩, ⟨none, [(27, some 1), (29, some 3)]⟩, ⟨none, [(4, none)]⟩, ⟨none, [(31, some 5)]⟩, ⟨none, [(4, none)]⟩, ⟨none, [(33, some 7)]⟩, ⟨none, [(32, some 6), (34, some 8)]⟩, ⟨none, [(30, some 4), (35, some 9)]⟩, ⟨none, []⟩] [11] (by kernel_rfl) (by kernel_rfl) (by kernel_rfl) fun F hF => ?_
  refine any_val (.pointer (some ⟨g2, 4, none⟩)) (by kernel_rfl) (by kernel_rfl) (fun W => by kernel_rfl) ?_
  have r2_6 := (Puts.row p6 (row_ext r2_4 e5) (ne_of_old r2_4 l7))
  refine any_read (.agg (numA (b))) (by kernel_rfl) (by kernel_rfl) (fun W hR => (run_load_part 28 _ g2 4 75 _ _ _ (row_ext (row_ext r2_6 (ext_drew _)) hR) rfl (by kernel_rfl) (cat_part [numA (a)] [numA (b)] [numA (c), numA (d)] 4 (by kernel_rfl)) (by kernel_rfl) (isz (n := 4) (by kernel_rfl) (by kernel_rfl)))) ?_
  refine any_val (.pointer (some ⟨g2, 0, none⟩)) (by kernel_rfl) (by kernel_rfl) (fun W => by kernel_rfl) ?_
  refine any_read (.agg (numA (a))) (by kernel_rfl) (by kernel_rfl) (fun W hR => (run_load_part 28 _ g2 0 75 _ _ _ (row_ext (row_ext r2_6 (ext_drew _)) hR) rfl (by kernel_rfl) (cat_part [] [numA (a)] [numA (b), numA (c), numA (d)] 0 (by kernel_rfl)) (by kernel_rfl) (isz (n := 4) (by kernel_rfl) (by kernel_rfl)))) ?_
  refine any_call (.agg (numA (s3))) 33 #[.agg (numA (b)), .agg (numA (a))] (by kernel_rfl) (by kernel_rfl) (fun W => by kernel_rfl) (fun W hR => c3 W) ?_
  refine any_val (.pointer (some ⟨g3, 4, none⟩)) (by kernel_rfl) (by kernel_rfl) (fun W => by kernel_rfl) ?_
  have r3_6 := (Puts.row p6 (row_ext r3_4 e5) (ne_of_old r3_4 l7))
  refine any_read (.agg (numA (f))) (by kernel_rfl) (by kernel_rfl) (fun W hR => (run_load_part 28 _ g3 4 75 _ _ _ (row_ext (row_ext r3_6 (ext_drew _)) hR) rfl (by kernel_rfl) (cat_part [numA (e)] [numA (f)] [numA (g), numA (h)] 4 (by kernel_rfl)) (by kernel_rfl) (isz (n := 4) (by kernel_rfl) (by kernel_rfl)))) ?_
  refine any_val (.pointer (some ⟨g3, 0, none⟩)) (by kernel_rfl) (by kernel_rfl) (fun W => by kernel_rfl) ?_
  refine any_read (.agg (numA (e))) (by kernel_rfl) (by kernel_rfl) (fun W hR => (run_load_part 28 _ g3 0 75 _ _ _ (row_ext (row_ext r3_6 (ext_drew _)) hR) rfl (by kernel_rfl) (cat_part [] [numA (e)] [numA (f), numA (g), numA (h)] 0 (by kernel_rfl)) (by kernel_rfl) (isz (n := 4) (by kernel_rfl) (by kernel_rfl)))) ?_
  refine any_call (.agg (numA (s4))) 33 #[.agg (numA (f)), .agg (numA (e))] (by kernel_rfl) (by kernel_rfl) (fun W => by kernel_rfl) (fun W hR => c4 W) ?_
  refine any_call (.agg (numA (s5))) 31 #[.agg (numA (s3)), .agg (numA (s4))] (by kernel_rfl) (by kernel_rfl) (fun W => by kernel_rfl) (fun W hR => c5 W) ?_
  refine any_new (numA (0)) 28 (by kernel_rfl) (Nat.le_refl _) (by kernel_rfl) (fun W => by kernel_rfl) ?_
  refine steps_nil (hF _ (by kernel_rfl) fun W7 e7 => ?_)
  simp only [fins, up, List.take_succ_cons, List.take_zero, List.drop_succ_cons, List.drop_zero, List.nil_append, List.cons_append]
  intro g9 l9 r9_7 n9
  have b9 : w.heap.size ≤ g9 := Nat.le_trans x6.size l9
  clear hF
  have x7 : Ext w W7 := Ext.tr x6 e7
  refine seq_store g9 _ (numA (s5)) 28 r9_7 rfl (by kernel_rfl) (run_store_row 28 _ _ g9 28 _ _ r9_7 rfl (by kernel_rfl) (by kernel_rfl) (isz (n := 4) (by kernel_rfl) (by kernel_rfl)) (eqsz (n := 4) (by kernel_rfl) (by kernel_rfl)) (by kernel_rfl)) fun W8 p8 r9_8 => ?_
  have x8 : Ext w W8 := Puts.ext p8 x7 b9
  refine seq_nil ?_
  refine hK8 _ _ ?_
  try clear hK8 K8
  refine wp_seq_k fun K10 hK10 => ?_
  refine any_regionD 8 [⟨none, [(3, none)]⟩, ⟨none, [(37, some 0)]⟩, ⟨none, [(4, none)]⟩, ⟨none, [(39, some 2)]⟩, ⟨none, [(38, some 1), (40, some 3)]⟩, ⟨none, [(5, none)]⟩, ⟨none, [(41, some 4), (42, some 5)]⟩, ⟨none, []⟩] [7] (by kernel_rfl) (by kernel_rfl) (by kernel_rfl) fun F hF => ?_
  refine any_val (.pointer (some ⟨g2, 12, none⟩)) (by kernel_rfl) (by kernel_rfl) (fun W => by kernel_rfl) ?_
  have r2_8 := (Puts.row p8 (row_ext r2_6 e7) (ne_of_old r2_6 l9))
  refine any_read (.agg (numA (d))) (by kernel_rfl) (by kernel_rfl) (fun W hR => (run_load_part 28 _ g2 12 75 _ _ _ (row_ext (row_ext r2_8 (ext_drew _)) hR) rfl (by kernel_rfl) (cat_part [numA (a), numA (b), numA (c)] [numA (d)] [] 12 (by kernel_rfl)) (by kernel_rfl) (isz (n := 4) (by kernel_rfl) (by kernel_rfl)))) ?_
  refine any_val (.pointer (some ⟨g3, 12, none⟩)) (by kernel_rfl) (by kernel_rfl) (fun W => by kernel_rfl) ?_
  have r3_8 := (Puts.row p8 (row_ext r3_6 e7) (ne_of_old r3_6 l9))
  refine any_read (.agg (numA (h))) (by kernel_rfl) (by kernel_rfl) (fun W hR => (run_load_part 28 _ g3 12 75 _ _ _ (row_ext (row_ext r3_8 (ext_drew _)) hR) rfl (by kernel_rfl) (cat_part [numA (e), numA (f), numA (g)] [numA (h)] [] 12 (by kernel_rfl)) (by kernel_rfl) (isz (n := 4) (by kernel_rfl) (by kernel_rfl)))) ?_
  refine any_call (.agg (numA (s6))) 31 #[.agg (numA (d)), .agg (numA (h))] (by kernel_rfl) (by kernel_rfl) (fun W => by kernel_rfl) (fun W hR => c6 W) ?_
  have r4_4 := (row_ext r4_3 e4)
  have r4_6 := (Puts.row p6 (row_ext r4_4 e5) (ne_of_old r4_4 l7))
  have r4_8 := (Puts.row p8 (row_ext (Puts.row p6 (row_ext (row_ext r4_3 e4) e5) (ne_of_old r4_4 l7)) e7) (ne_of_old r4_6 l9))
  refine any_read (.agg (numA (k))) (by kernel_rfl) (by kernel_rfl) (fun W hR => (run_load_row 28 _ g4 28 _ _ (row_ext (row_ext r4_8 (ext_drew _)) hR) rfl (by kernel_rfl) (by kernel_rfl) (isz (n := 4) (by kernel_rfl) (by kernel_rfl)))) ?_
  refine any_call (.agg (numA (s7))) 31 #[.agg (numA (s6)), .agg (numA (k))] (by kernel_rfl) (by kernel_rfl) (fun W => by kernel_rfl) (fun W hR => c7 W) ?_
  refine any_new (numA (0)) 28 (by kernel_rfl) (Nat.le_refl _) (by kernel_rfl) (fun W => by kernel_rfl) ?_
  refine steps_nil (hF _ (by kernel_rfl) fun W9 e9 => ?_)
  simp only [fins, up, List.take_succ_cons, List.take_zero, List.drop_succ_cons, List.drop_zero, List.nil_append, List.cons_append]
  intro g11 l11 r11_9 n11
  have b11 : w.heap.size ≤ g11 := Nat.le_trans x8.size l11
  clear hF
  have x9 : Ext w W9 := Ext.tr x8 e9
  refine seq_store g11 _ (numA (s7)) 28 r11_9 rfl (by kernel_rfl) (run_store_row 28 _ _ g11 28 _ _ r11_9 rfl (by kernel_rfl) (by kernel_rfl) (isz (n := 4) (by kernel_rfl) (by kernel_rfl)) (eqsz (n := 4) (by kernel_rfl) (by kernel_rfl)) (by kernel_rfl)) fun W10 p10 r11_10 => ?_
  have x10 : Ext w W10 := Puts.ext p10 x9 b11
  refine seq_nil ?_
  refine hK10 _ _ ?_
  try clear hK10 K10
  refine wp_seq_k fun K12 hK12 => ?_
  refine region_lit ?_
  refine seq_val (.agg (numA (s7))) 44 rfl (by kernel_rfl) (run_load_row 28 _ g11 28 _ _ r11_10 rfl (by kernel_rfl) (by kernel_rfl) (isz (n := 4) (by kernel_rfl) (by kernel_rfl))) ?_
  refine seq_val (.agg (numA (s7))) 45 rfl (by kernel_rfl) (run_load_row 28 _ g11 28 _ _ r11_10 rfl (by kernel_rfl) (by kernel_rfl) (isz (n := 4) (by kernel_rfl) (by kernel_rfl))) ?_
  refine seq_call (.agg (numA (s8))) 33 #[.agg (numA (s7)), .agg (numA (s7))] 46 rfl (by kernel_rfl) (by kernel_rfl) (c8 _) fun W11 e11 => ?_
  have x11 : Ext w W11 := Ext.tr x10 e11
  have r11_11 := (row_ext r11_10 e11)
  refine seq_store g11 _ (numA (s8)) 28 r11_11 rfl (by kernel_rfl) (run_store_row 28 _ _ g11 28 _ _ r11_11 rfl (by kernel_rfl) (by kernel_rfl) (isz (n := 4) (by kernel_rfl) (by kernel_rfl)) (eqsz (n := 4) (by kernel_rfl) (by kernel_rfl)) (by kernel_rfl)) fun W12 p12 r11_12 => ?_
  have x12 : Ext w W12 := Puts.ext p12 x11 b11
  refine seq_nil ?_
  refine hK12 _ _ ?_
  try clear hK12 K12
  refine wp_seq_k fun K13 hK13 => ?_
  refine region_lit ?_
  refine seq_val (.pointer (some ⟨g2, 8, none⟩)) 47 rfl (by kernel_rfl) (by kernel_rfl) ?_
  have r2_12 := (Puts.row p12 (row_ext (Puts.row p10 (row_ext r2_8 e9) (ne_of_old r2_8 l11)) e11) (ne_of_old r2_8 l11))
  refine seq_val (.agg (numA (c))) 48 rfl (by kernel_rfl) (run_load_part 28 _ g2 8 75 _ _ _ r2_12 rfl (by kernel_rfl) (cat_part [numA (a), numA (b)] [numA (c)] [numA (d)] 8 (by kernel_rfl)) (by kernel_rfl) (isz (n := 4) (by kernel_rfl) (by kernel_rfl))) ?_
  refine seq_val (.pointer (some ⟨g3, 8, none⟩)) 49 rfl (by kernel_rfl) (by kernel_rfl) ?_
  have r3_12 := (Puts.row p12 (row_ext (Puts.row p10 (row_ext r3_8 e9) (ne_of_old r3_8 l11)) e11) (ne_of_old r3_8 l11))
  refine seq_val (.agg (numA (g))) 50 rfl (by kernel_rfl) (run_load_part 28 _ g3 8 75 _ _ _ r3_12 rfl (by kernel_rfl) (cat_part [numA (e), numA (f)] [numA (g)] [numA (h)] 8 (by kernel_rfl)) (by kernel_rfl) (isz (n := 4) (by kernel_rfl) (by kernel_rfl))) ?_
  refine seq_call (.agg (numA (s9))) 31 #[.agg (numA (c)), .agg (numA (g))] 51 rfl (by kernel_rfl) (by kernel_rfl) (c9 _) fun W13 e13 => ?_
  have x13 : Ext w W13 := Ext.tr x12 e13
  refine seq_alloc (numA (0)) 28 10 rfl (by kernel_rfl) (by kernel_rfl) fun g14 W14 l14 e14 r14_14 => ?_
  have x14 : Ext w W14 := Ext.tr x13 e14
  have b14 : w.heap.size ≤ g14 := Nat.le_trans x13.size l14
  refine seq_store g14 _ (numA (s9)) 28 r14_14 rfl (by kernel_rfl) (run_store_row 28 _ _ g14 28 _ _ r14_14 rfl (by kernel_rfl) (by kernel_rfl) (isz (n := 4) (by kernel_rfl) (by kernel_rfl)) (eqsz (n := 4) (by kernel_rfl) (by kernel_rfl)) (by kernel_rfl)) fun W15 p15 r14_15 => ?_
  have x15 : Ext w W15 := Puts.ext p15 x14 b14
  refine seq_nil ?_
  refine hK13 _ _ ?_
  try clear hK13 K13
  refine wp_seq_k fun K15 hK15 => ?_
  refine region_lit ?_
  refine seq_val (.agg (numA (s9))) 52 rfl (by kernel_rfl) (run_load_row 28 _ g14 28 _ _ r14_15 rfl (by kernel_rfl) (by kernel_rfl) (isz (n := 4) (by kernel_rfl) (by kernel_rfl))) ?_
  refine seq_val (.agg (numA (s9))) 53 rfl (by kernel_rfl) (run_load_row 28 _ g14 28 _ _ r14_15 rfl (by kernel_rfl) (by kernel_rfl) (isz (n := 4) (by kernel_rfl) (by kernel_rfl))) ?_
  refine seq_call (.agg (numA (s10))) 33 #[.agg (numA (s9)), .agg (numA (s9))] 54 rfl (by kernel_rfl) (by kernel_rfl) (c10 _) fun W16 e16 => ?_
  have x16 : Ext w W16 := Ext.tr x15 e16
  have r14_16 := (row_ext r14_15 e16)
  refine seq_store g14 _ (numA (s10)) 28 r14_16 rfl (by kernel_rfl) (run_store_row 28 _ _ g14 28 _ _ r14_16 rfl (by kernel_rfl) (by kernel_rfl) (isz (n := 4) (by kernel_rfl) (by kernel_rfl)) (eqsz (n := 4) (by kernel_rfl) (by kernel_rfl)) (by kernel_rfl)) fun W17 p17 r14_17 => ?_
  have x17 : Ext w W17 := Puts.ext p17 x16 b14
  refine seq_nil ?_
  refine hK15 _ _ ?_
  try clear hK15 K15
  refine wp_seq_k fun K16 hK16 => ?_
  refine any_regionD 16 [⟨none, [(8, none)]⟩, ⟨none, [(7, none)]⟩, ⟨none, [(55, some 0), (56, some 1)]⟩, ⟨none, [(10, none)]⟩, ⟨none, [(9, none)]⟩, ⟨none, [(58, some 3), (59, some 4)]⟩, ⟨none, [(10, none)]⟩, ⟨none, [(9, none)]⟩, ⟨none, [(61, some 6), (62, some 7)]⟩, ⟨none, [(8, none)]⟩, ⟨none, [(7, none)]⟩, ⟨none, [(64, some 9), (65, some 10)]⟩, ⟨none, []⟩, ⟨none, []⟩, ⟨none, []⟩, ⟨none, []⟩] [12, 13, 14, 15] (by kernel_rfl) (by kernel_rfl) (by kernel_rfl) fun F hF => ?_
  have r9_13 := (row_ext (Puts.row p12 (row_ext (Puts.row p10 (row_ext r9_8 e9) (ne_of_old r9_8 l11)) e11) (ne_of_old r9_8 l11)) e13)
  have r9_17 := (Puts.row p17 (row_ext (Puts.row p15 (row_ext (row_ext (Puts.row p12 (row_ext (Puts.row p10 (row_ext r9_8 e9) (ne_of_old r9_8 l11)) e11) (ne_of_old r9_8 l11)) e13) e14) (ne_of_old r9_13 l14)) e16) (ne_of_old r9_13 l14))
  refine any_read (.agg (numA (s5))) (by kernel_rfl) (by kernel_rfl) (fun W hR => (run_load_row 28 _ g9 28 _ _ (row_ext (row_ext r9_17 (ext_drew _)) hR) rfl (by kernel_rfl) (by kernel_rfl) (isz (n := 4) (by kernel_rfl) (by kernel_rfl)))) ?_
  have r7_8 := (Puts.row p8 (row_ext r7_6 e7) (ne_of_old r7_6 l9))
  have r7_13 := (row_ext (Puts.row p12 (row_ext (Puts.row p10 (row_ext r7_8 e9) (ne_of_old r7_8 l11)) e11) (ne_of_old r7_8 l11)) e13)
  have r7_17 := (Puts.row p17 (row_ext (Puts.row p15 (row_ext (row_ext (Puts.row p12 (row_ext (Puts.row p10 (row_ext (Puts.row p8 (row_ext r7_6 e7) (ne_of_old r7_6 l9)) e9) (ne_of_old r7_8 l11)) e11) (ne_of_old r7_8 l11)) e13) e14) (ne_of_old r7_13 l14)) e16) (ne_of_old r7_13 l14))
  refine any_read (.agg (numA (s2))) (by kernel_rfl) (by kernel_rfl) (fun W hR => (run_load_row 28 _ g7 28 _ _ (row_ext (row_ext r7_17 (ext_drew _)) hR) rfl (by kernel_rfl) (by kernel_rfl) (isz (n := 4) (by kernel_rfl) (by kernel_rfl)))) ?_
  refine any_call (.agg (numA (s11))) 34 #[.agg (numA (s5)), .agg (numA (s2))] (by kernel_rfl) (by kernel_rfl) (fun W => by kernel_rfl) (fun W hR => c11 W) ?_
  refine any_read (.agg (numA (s10))) (by kernel_rfl) (by kernel_rfl) (fun W hR => (run_load_row 28 _ g14 28 _ _ (row_ext (row_ext r14_17 (ext_drew _)) hR) rfl (by kernel_rfl) (by kernel_rfl) (isz (n := 4) (by kernel_rfl) (by kernel_rfl)))) ?_
  have r11_13 := (row_ext r11_12 e13)
  have r11_17 := (Puts.row p17 (row_ext (Puts.row p15 (row_ext (row_ext r11_12 e13) e14) (ne_of_old r11_13 l14)) e16) (ne_of_old r11_13 l14))
  refine any_read (.agg (numA (s8))) (by kernel_rfl) (by kernel_rfl) (fun W hR => (run_load_row 28 _ g11 28 _ _ (row_ext (row_ext r11_17 (ext_drew _)) hR) rfl (by kernel_rfl) (by kernel_rfl) (isz (n := 4) (by kernel_rfl) (by kernel_rfl)))) ?_
  refine any_call (.agg (numA (s12))) 34 #[.agg (numA (s10)), .agg (numA (s8))] (by kernel_rfl) (by kernel_rfl) (fun W => by kernel_rfl) (fun W hR => c12 W) ?_
  refine any_read (.agg (numA (s10))) (by kernel_rfl) (by kernel_rfl) (fun W hR => (run_load_row 28 _ g14 28 _ _ (row_ext (row_ext r14_17 (ext_drew _)) hR) rfl (by kernel_rfl) (by kernel_rfl) (isz (n := 4) (by kernel_rfl) (by kernel_rfl)))) ?_
  refine any_read (.agg (numA (s8))) (by kernel_rfl) (by kernel_rfl) (fun W hR => (run_load_row 28 _ g11 28 _ _ (row_ext (row_ext r11_17 (ext_drew _)) hR) rfl (by kernel_rfl) (by kernel_rfl) (isz (n := 4) (by kernel_rfl) (by kernel_rfl)))) ?_
  refine any_call (.agg (numA (s13))) 33 #[.agg (numA (s10)), .agg (numA (s8))] (by kernel_rfl) (by kernel_rfl) (fun W => by kernel_rfl) (fun W hR => c13 W) ?_
  refine any_read (.agg (numA (s5))) (by kernel_rfl) (by kernel_rfl) (fun W hR => (run_load_row 28 _ g9 28 _ _ (row_ext (row_ext r9_17 (ext_drew _)) hR) rfl (by kernel_rfl) (by kernel_rfl) (isz (n := 4) (by kernel_rfl) (by kernel_rfl)))) ?_
  refine any_read (.agg (numA (s2))) (by kernel_rfl) (by kernel_rfl) (fun W hR => (run_load_row 28 _ g7 28 _ _ (row_ext (row_ext r7_17 (ext_drew _)) hR) rfl (by kernel_rfl) (by kernel_rfl) (isz (n := 4) (by kernel_rfl) (by kernel_rfl)))) ?_
  refine any_call (.agg (numA (s14))) 33 #[.agg (numA (s5)), .agg (numA (s2))] (by kernel_rfl) (by kernel_rfl) (fun W => by kernel_rfl) (fun W hR => c14 W) ?_
  refine any_new (numA (0)) 28 (by kernel_rfl) (Nat.le_refl _) (by kernel_rfl) (fun W => by kernel_rfl) ?_
  refine any_new (numA (0)) 28 (by kernel_rfl) (Nat.le_refl _) (by kernel_rfl) (fun W => by kernel_rfl) ?_
  refine any_new (numA (0)) 28 (by kernel_rfl) (Nat.le_refl _) (by kernel_rfl) (fun W => by kernel_rfl) ?_
  refine any_new (numA (0)) 28 (by kernel_rfl) (Nat.le_refl _) (by kernel_rfl) (fun W => by kernel_rfl) ?_
  refine steps_nil (hF _ (by kernel_rfl) fun W18 e18 => ?_)
  simp only [fins, up, List.take_succ_cons, List.take_zero, List.drop_succ_cons, List.drop_zero, List.nil_append, List.cons_append]
  intro g17 l17 r17_18 n17 g18 l18 r18_18 n18 g19 l19 r19_18 n19 g20 l20 r20_18 n20
  have b17 : w.heap.size ≤ g17 := Nat.le_trans x17.size l17
  have b18 : w.heap.size ≤ g18 := Nat.le_trans x17.size l18
  have n18_17 : g18 ≠ g17 := n18 _ (by simp)
  have b19 : w.heap.size ≤ g19 := Nat.le_trans x17.size l19
  have n19_17 : g19 ≠ g17 := n19 _ (by simp)
  have n19_18 : g19 ≠ g18 := n19 _ (by simp)
  have b20 : w.heap.size ≤ g20 := Nat.le_trans x17.size l20
  have n20_17 : g20 ≠ g17 := n20 _ (by simp)
  have n20_18 : g20 ≠ g18 := n20 _ (by simp)
  have n20_19 : g20 ≠ g19 := n20 _ (by simp)
  clear hF
  have x18 : Ext w W18 := Ext.tr x17 e18
  refine seq_store g17 _ (numA (s11)) 28 r17_18 rfl (by kernel_rfl) (run_store_row 28 _ _ g17 28 _ _ r17_18 rfl (by kernel_rfl) (by kernel_rfl) (isz (n := 4) (by kernel_rfl) (by kernel_rfl)) (eqsz (n := 4) (by kernel_rfl) (by kernel_rfl)) (by kernel_rfl)) fun W19 p19 r17_19 => ?_
  have x19 : Ext w W19 := Puts.ext p19 x18 b17
  have r18_19 := (Puts.row p19 r18_18 n18_17)
  refine seq_store g18 _ (numA (s12)) 28 r18_19 rfl (by kernel_rfl) (run_store_row 28 _ _ g18 28 _ _ r18_19 rfl (by kernel_rfl) (by kernel_rfl) (isz (n := 4) (by kernel_rfl) (by kernel_rfl)) (eqsz (n := 4) (by kernel_rfl) (by kernel_rfl)) (by kernel_rfl)) fun W20 p20 r18_20 => ?_
  have x20 : Ext w W20 := Puts.ext p20 x19 b18
  have r19_20 := (Puts.row p20 (Puts.row p19 r19_18 n19_17) n19_18)
  refine seq_store g19 _ (numA (s13)) 28 r19_20 rfl (by kernel_rfl) (run_store_row 28 _ _ g19 28 _ _ r19_20 rfl (by kernel_rfl) (by kernel_rfl) (isz (n := 4) (by kernel_rfl) (by kernel_rfl)) (eqsz (n := 4) (by kernel_rfl) (by kernel_rfl)) (by kernel_rfl)) fun W21 p21 r19_21 => ?_
  have x21 : Ext w W21 := Puts.ext p21 x20 b19
  have r20_21 := (Puts.row p21 (Puts.row p20 (Puts.row p19 r20_18 n20_17) n20_18) n20_19)
  refine seq_store g20 _ (numA (s14)) 28 r20_21 rfl (by kernel_rfl) (run_store_row 28 _ _ g20 28 _ _ r20_21 rfl (by kernel_rfl) (by kernel_rfl) (isz (n := 4) (by kernel_rfl) (by kernel_rfl)) (eqsz (n := 4) (by kernel_rfl) (by kernel_rfl)) (by kernel_rfl)) fun W22 p22 r20_22 => ?_
  have x22 : Ext w W22 := Puts.ext p22 x21 b20
  refine seq_nil ?_
  refine hK16 _ _ ?_
  try clear hK16 K16
  refine wp_seq_k fun K21 hK21 => ?_
  refine any_region 13 [⟨none, [(11, none)]⟩, ⟨none, [(12, none)]⟩, ⟨none, [(67, some 0), (68, some 1)]⟩, ⟨none, [(13, none)]⟩, ⟨none, [(14, none)]⟩, ⟨none, [(70, some 3), (71, some 4)]⟩, ⟨none, [(12, none)]⟩, ⟨none, [(13, none)]⟩, ⟨none, [(73, some 6), (74, some 7)]⟩, ⟨none, [(11, none)]⟩, ⟨none, [(14, none)]⟩, ⟨none, [(76, some 9), (77, some 10)]⟩, ⟨none, [(69, some 2), (72, some 5), (75, some 8), (78, some 11)]⟩] (by kernel_rfl) (by kernel_rfl) fun F hF => ?_
  have r17_22 := (Puts.row p22 (Puts.row p21 (Puts.row p20 r17_19 (Ne.symm n18_17)) (Ne.symm n19_17)) (Ne.symm n20_17))
  refine any_read (.agg (numA (s11))) (by kernel_rfl) (by kernel_rfl) (fun W hR => (run_load_row 28 _ g17 28 _ _ (row_ext (row_ext r17_22 (ext_drew _)) hR) rfl (by kernel_rfl) (by kernel_rfl) (isz (n := 4) (by kernel_rfl) (by kernel_rfl)))) ?_
  have r18_22 := (Puts.row p22 (Puts.row p21 r18_20 (Ne.symm n19_18)) (Ne.symm n20_18))
  refine any_read (.agg (numA (s12))) (by kernel_rfl) (by kernel_rfl) (fun W hR => (run_load_row 28 _ g18 28 _ _ (row_ext (row_ext r18_22 (ext_drew _)) hR) rfl (by kernel_rfl) (by kernel_rfl) (isz (n := 4) (by kernel_rfl) (by kernel_rfl)))) ?_
  refine any_call (.agg (numA (s15))) 31 #[.agg (numA (s11)), .agg (numA (s12))] (by kernel_rfl) (by kernel_rfl) (fun W => by kernel_rfl) (fun W hR => c15 W) ?_
  have r19_22 := (Puts.row p22 r19_21 (Ne.symm n20_19))
  refine any_read (.agg (numA (s13))) (by kernel_rfl) (by kernel_rfl) (fun W hR => (run_load_row 28 _ g19 28 _ _ (row_ext (row_ext r19_22 (ext_drew _)) hR) rfl (by kernel_rfl) (by kernel_rfl) (isz (n := 4) (by kernel_rfl) (by kernel_rfl)))) ?_
  refine any_read (.agg (numA (s14))) (by kernel_rfl) (by kernel_rfl) (fun W hR => (run_load_row 28 _ g20 28 _ _ (row_ext (row_ext r20_22 (ext_drew _)) hR) rfl (by kernel_rfl) (by kernel_rfl) (isz (n := 4) (by kernel_rfl) (by kernel_rfl)))) ?_
  refine any_call (.agg (numA (s16))) 31 #[.agg (numA (s13)), .agg (numA (s14))] (by kernel_rfl) (by kernel_rfl) (fun W => by kernel_rfl) (fun W hR => c16 W) ?_
  refine any_read (.agg (numA (s12))) (by kernel_rfl) (by kernel_rfl) (fun W hR => (run_load_row 28 _ g18 28 _ _ (row_ext (row_ext r18_22 (ext_drew _)) hR) rfl (by kernel_rfl) (by kernel_rfl) (isz (n := 4) (by kernel_rfl) (by kernel_rfl)))) ?_
  refine any_read (.agg (numA (s13))) (by kernel_rfl) (by kernel_rfl) (fun W hR => (run_load_row 28 _ g19 28 _ _ (row_ext (row_ext r19_22 (ext_drew _)) hR) rfl (by kernel_rfl) (by kernel_rfl) (isz (n := 4) (by kernel_rfl) (by kernel_rfl)))) ?_
  refine any_call (.agg (numA (s17))) 31 #[.agg (numA (s12)), .agg (numA (s13))] (by kernel_rfl) (by kernel_rfl) (fun W => by kernel_rfl) (fun W hR => c17 W) ?_
  refine any_read (.agg (numA (s11))) (by kernel_rfl) (by kernel_rfl) (fun W hR => (run_load_row 28 _ g17 28 _ _ (row_ext (row_ext r17_22 (ext_drew _)) hR) rfl (by kernel_rfl) (by kernel_rfl) (isz (n := 4) (by kernel_rfl) (by kernel_rfl)))) ?_
  refine any_read (.agg (numA (s14))) (by kernel_rfl) (by kernel_rfl) (fun W hR => (run_load_row 28 _ g20 28 _ _ (row_ext (row_ext r20_22 (ext_drew _)) hR) rfl (by kernel_rfl) (by kernel_rfl) (isz (n := 4) (by kernel_rfl) (by kernel_rfl)))) ?_
  refine any_call (.agg (numA (s18))) 31 #[.agg (numA (s11)), .agg (numA (s14))] (by kernel_rfl) (by kernel_rfl) (fun W => by kernel_rfl) (fun W hR => c18 W) ?_
  refine any_val (.agg (cat [numA (s15), numA (s16), numA (s17), numA (s18)])) (by kernel_rfl) (by kernel_rfl) (fun W => by kernel_rfl) ?_
  refine steps_nil (hF _ (by kernel_rfl) fun W23 e23 => ?_)
  simp only [ups, up, Kn.val, List.take_succ_cons, List.take_zero, List.drop_succ_cons, List.drop_zero, List.nil_append, List.cons_append]
  clear hF
  have x23 : Ext w W23 := Ext.tr x22 e23
  have r5_6 := (Puts.row p6 (row_ext r5_4 e5) (ne_of_old r5_4 l7))
  have r5_8 := (Puts.row p8 (row_ext r5_6 e7) (ne_of_old r5_6 l9))
  have r5_13 := (row_ext (Puts.row p12 (row_ext (Puts.row p10 (row_ext r5_8 e9) (ne_of_old r5_8 l11)) e11) (ne_of_old r5_8 l11)) e13)
  have r5_17 := (Puts.row p17 (row_ext (Puts.row p15 (row_ext r5_13 e14) (ne_of_old r5_13 l14)) e16) (ne_of_old r5_13 l14))
  have r5_23 := (row_ext (Puts.row p22 (Puts.row p21 (Puts.row p20 (Puts.row p19 (row_ext (Puts.row p17 (row_ext (Puts.row p15 (row_ext (row_ext (Puts.row p12 (row_ext (Puts.row p10 (row_ext (Puts.row p8 (row_ext (Puts.row p6 (row_ext r5_4 e5) (ne_of_old r5_4 l7)) e7) (ne_of_old r5_6 l9)) e9) (ne_of_old r5_8 l11)) e11) (ne_of_old r5_8 l11)) e13) e14) (ne_of_old r5_13 l14)) e16) (ne_of_old r5_13 l14)) e18) (ne_of_old r5_17 l17)) (ne_of_old r5_17 l18)) (ne_of_old r5_17 l19)) (ne_of_old r5_17 l20)) e23)
  refine seq_store g5 _ (cat [numA (s15), numA (s16), numA (s17), numA (s18)]) 75 r5_23 rfl (by kernel_rfl) (run_store_row 75 _ _ g5 75 _ _ r5_23 rfl (by kernel_rfl) (by kernel_rfl) (isz (n := 16) (by kernel_rfl) (by kernel_rfl)) (eqsz (n := 16) (by kernel_rfl) (by kernel_rfl)) (by kernel_rfl)) fun W24 p24 r5_24 => ?_
  have x24 : Ext w W24 := Puts.ext p24 x23 b5
  refine seq_nil ?_
  refine hK21 _ _ ?_
  try clear hK21 K21
  refine wp_ret ?_
  exact (show bodyPost _ _ _ .ret _ _ from ret1 (.agg (cat [numA (s15), numA (s16), numA (s17), numA (s18)])) rfl (res_cell g5 75 _ r5_24 (by kernel_rfl) (by kernel_rfl) (isz (n := 16) (by kernel_rfl) (by kernel_rfl))) ⟨rfl, x24⟩)
theorem waddC (a b c d e f g h k : Int) (h_a : isN a) (h_b : isN b) (h_c : isN c) (h_d : isN d) (h_e : isN e) (h_f : isN f) (h_g : isN g) (h_h : isN h) (h_k : isN k) (w : World) : Calls Tryd.prog 51 #[.agg (cat [numA (a), numA (b), numA (c), numA (d)]), .agg (cat [numA (e), numA (f), numA (g), numA (h)]), .agg (numA (k))] w (Ret w (.agg (cat [numA ((waddF a b c d e f g h k).1), numA ((waddF a b c d e f g h k).2.1), numA ((waddF a b c d e f g h k).2.2.1), numA ((waddF a b c d e f g h k).2.2.2)]))) :=
  wadd_core a b c d e f g h k h_a h_b h_c h_d h_e h_f h_g h_h h_k _ _ _ _ _ _ _ _ _ _ _ _ _ _ _ _ _ _ _ (sub _ _ h_b h_a) (sub _ _ h_f h_e) (mul _ _ (isN_mod _) (isN_mod _)) (add _ _ h_b h_a) (add _ _ h_f h_e) (mul _ _ (isN_mod _) (isN_mod _)) (mul _ _ h_d h_h) (mul _ _ (isN_mod _) h_k) (add _ _ (isN_mod _) (isN_mod _)) (mul _ _ h_c h_g) (add _ _ (isN_mod _) (isN_mod _)) (sub _ _ (isN_mod _) (isN_mod _)) (sub _ _ (isN_mod _) (isN_mod _)) (add _ _ (isN_mod _) (isN_mod _)) (add _ _ (isN_mod _) (isN_mod _)) (mul _ _ (isN_mod _) (isN_mod _)) (mul _ _ (isN_mod _) (isN_mod _)) (mul _ _ (isN_mod _) (isN_mod _)) (mul _ _ (isN_mod _) (isN_mod _)) w
theorem wadd_isN (a b c d e f g h k : Int) (h_a : isN a) (h_b : isN b) (h_c : isN c) (h_d : isN d) (h_e : isN e) (h_f : isN f) (h_g : isN g) (h_h : isN h) (h_k : isN k) : isN (waddF a b c d e f g h k).1 ∧ isN (waddF a b c d e f g h k).2.1 ∧ isN (waddF a b c d e f g h k).2.2.1 ∧ isN (waddF a b c d e f g h k).2.2.2 := ⟨(isN_mod _), (isN_mod _), (isN_mod _), (isN_mod _)⟩

def pnarF (a b c d : Int) : Int × Int :=
  let s0 := invN c
  let s1 := a * s0 % p
  let s2 := b * s0 % p
  let s3 := (patF s1 s2).1
  let s4 := (patF s1 s2).2
  (s3, s4)
set_option maxHeartbeats 4000000 in
theorem pnar_core (a b c d : Int) (h_a : isN a) (h_b : isN b) (h_c : isN c) (h_d : isN d) (s0 s1 s2 s3 s4 : Int)
    (c0 : ∀ W, Calls Tryd.prog 35 #[.agg (numA (c))] W (Ret W (.agg (numA (s0)))))
    (c1 : ∀ W, Calls Tryd.prog 31 #[.agg (numA (a)), .agg (numA (s0))] W (Ret W (.agg (numA (s1)))))
    (c2 : ∀ W, Calls Tryd.prog 31 #[.agg (numA (b)), .agg (numA (s0))] W (Ret W (.agg (numA (s2)))))
    (c3 : ∀ W, Calls Tryd.prog 38 #[.agg (numA (s1)), .agg (numA (s2))] W (Ret W (.agg (cat [numA (s3), numA (s4)])))) (w : World) :
    Calls Tryd.prog 52 #[.agg (cat [numA (a), numA (b), numA (c), numA (d)])] w (Ret w (.agg (cat [numA (s3), numA (s4)]))) := by
  refine enter 16 [(0, .agg (cat [numA (a), numA (b), numA (c), numA (d)]))] Tryd.func52 rfl rfl (by kernel_rfl) rfl ?_
  refine wp_seq_k fun K1 hK1 => ?_
  refine region_lit ?_
  refine seq_alloc (cat [numA (a), numA (b), numA (c), numA (d)]) 75 1 rfl (by kernel_rfl) (by kernel_rfl) fun g2 W1 l2 e1 r2_1 => ?_
  have x1 : Ext w W1 := Ext.tr (Rely.Ext.refl w) e1
  have b2 : w.heap.size ≤ g2 := Nat.le_trans (Rely.Ext.refl w).size l2
  refine seq_alloc (cat [numA (0), numA (0)]) 30 2 rfl (by kernel_rfl) (by kernel_rfl) fun g3 W2 l3 e2 r3_2 => ?_
  have x2 : Ext w W2 := Ext.tr x1 e2
  have b3 : w.heap.size ≤ g3 := Nat.le_trans x1.size l3
  refine seq_nil ?_
  refine hK1 _ _ ?_
  try clear hK1 K1
  refine wp_seq_k fun K4 hK4 => ?_
  refine region_lit ?_
  refine seq_val (.pointer (some ⟨g2, 8, none⟩)) 4 rfl (by kernel_rfl) (by kernel_rfl) ?_
  have r2_2 := (row_ext r2_1 e2)
  refine seq_val (.agg (numA (c))) 5 rfl (by kernel_rfl) (run_load_part 28 _ g2 8 75 _ _ _ r2_2 rfl (by kernel_rfl) (cat_part [numA (a), numA (b)] [numA (c)] [numA (d)] 8 (by kernel_rfl)) (by kernel_rfl) (isz (n := 4) (by kernel_rfl) (by kernel_rfl))) ?_
  refine seq_call (.agg (numA (s0))) 35 #[.agg (numA (c))] 6 rfl (by kernel_rfl) (by kernel_rfl) (c0 _) fun W3 e3 => ?_
  have x3 : Ext w W3 := Ext.tr x2 e3
  refine seq_alloc (numA (0)) 28 3 rfl (by kernel_rfl) (by kernel_rfl) fun g5 W4 l5 e4 r5_4 => ?_
  have x4 : Ext w W4 := Ext.tr x3 e4
  have b5 : w.heap.size ≤ g5 := Nat.le_trans x3.size l5
  refine seq_store g5 _ (numA (s0)) 28 r5_4 rfl (by kernel_rfl) (run_store_row 28 _ _ g5 28 _ _ r5_4 rfl (by kernel_rfl) (by kernel_rfl) (isz (n := 4) (by kernel_rfl) (by kernel_rfl)) (eqsz (n := 4) (by kernel_rfl) (by kernel_rfl)) (by kernel_rfl)) fun W5 p5 r5_5 => ?_
  have x5 : Ext w W5 := Puts.ext p5 x4 b5
  refine seq_nil ?_
  refine hK4 _ _ ?_
  try clear hK4 K4
  refine wp_seq_k fun K6 hK6 => ?_
  refine any_region 9 [⟨none, [(1, none)]⟩, ⟨none, [(7, some 0)]⟩, ⟨none, [(3, none)]⟩, ⟨none, [(8, some 1), (9, some 2)]⟩, ⟨none, [(1, none)]⟩, ⟨none, [(11, some 4)]⟩, ⟨none, [(3, none)]⟩, ⟨none, [(12, some 5), (13, some 6)]⟩, ⟨none, [(10, some 3), (14, some 7)]⟩] (by kernel_rfl) (by kernel_rfl) fun F hF => ?_
  refine any_val (.pointer (some ⟨g2, 0, none⟩)) (by kernel_rfl) (by kernel_rfl) (fun W => by kernel_rfl) ?_
  have r2_3 := (row_ext r2_2 e3)
  have r2_5 := (Puts.row p5 (row_ext (row_ext r2_2 e3) e4) (ne_of_old r2_3 l5))
  refine any_read (.agg (numA (a))) (by kernel_rfl) (by kernel_rfl) (fun W hR => (run_load_part 28 _ g2 0 75 _ _ _ (row_ext (row_ext r2_5 (ext_drew _)) hR) rfl (by kernel_rfl) (cat_part [] [numA (a)] [numA (b), numA (c), numA (d)] 0 (by kernel_rfl)) (by kernel_rfl) (isz (n := 4) (by kernel_rfl) (by kernel_rfl)))) ?_
  refine any_read (.agg (numA (s0))) (by kernel_rfl) (by kernel_rfl) (fun W hR => (run_load_row 28 _ g5 28 _ _ (row_ext (row_ext r5_5 (ext_drew _)) hR) rfl (by kernel_rfl) (by kernel_rfl) (isz (n := 4) (by kernel_rfl) (by kernel_rfl)))) ?_
  refine any_call (.agg (numA (s1))) 31 #[.agg (numA (a)), .agg (numA (s0))] (by kernel_rfl) (by kernel_rfl) (fun W => by kernel_rfl) (fun W hR => c1 W) ?_
  refine any_val (.pointer (some ⟨g2, 4, none⟩)) (by kernel_rfl) (by kernel_rfl) (fun W => by kernel_rfl) ?_
  refine any_read (.agg (numA (b))) (by kernel_rfl) (by kernel_rfl) (fun W hR => (run_load_part 28 _ g2 4 75 _ _ _ (row_ext (row_ext r2_5 (ext_drew _)) hR) rfl (by kernel_rfl) (cat_part [numA (a)] [numA (b)] [numA (c), numA (d)] 4 (by kernel_rfl)) (by kernel_rfl) (isz (n := 4) (by kernel_rfl) (by kernel_rfl)))) ?_
  refine any_read (.agg (numA (s0))) (by kernel_rfl) (by kernel_rfl) (fun W hR => (run_load_row 28 _ g5 28 _ _ (row_ext (row_ext r5_5 (ext_drew _)) hR) rfl (by kernel_rfl) (by kernel_rfl) (isz (n := 4) (by kernel_rfl) (by kernel_rfl)))) ?_
  refine any_call (.agg (numA (s2))) 31 #[.agg (numA (b)), .agg (numA (s0))] (by kernel_rfl) (by kernel_rfl) (fun W => by kernel_rfl) (fun W hR => c2 W) ?_
  refine any_call (.agg (cat [numA (s3), numA (s4)])) 38 #[.agg (numA (s1)), .agg (numA (s2))] (by kernel_rfl) (by kernel_rfl) (fun W => by kernel_rfl) (fun W hR => c3 W) ?_
  refine steps_nil (hF _ (by kernel_rfl) fun W6 e6 => ?_)
  simp only [ups, up, Kn.val, List.take_succ_cons, List.take_zero, List.drop_succ_cons, List.drop_zero, List.nil_append, List.cons_append]
  clear hF
  have x6 : Ext w W6 := Ext.tr x5 e6
  have r3_3 := (row_ext r3_2 e3)
  have r3_6 := (row_ext (Puts.row p5 (row_ext (row_ext r3_2 e3) e4) (ne_of_old r3_3 l5)) e6)
  refine seq_store g3 _ (cat [numA (s3), numA (s4)]) 30 r3_6 rfl (by kernel_rfl) (run_store_row 30 _ _ g3 30 _ _ r3_6 rfl (by kernel_rfl) (by kernel_rfl) (isz (n := 8) (by kernel_rfl) (by kernel_rfl)) (eqsz (n := 8) (by kernel_rfl) (by kernel_rfl)) (by kernel_rfl)) fun W7 p7 r3_7 => ?_
  have x7 : Ext w W7 := Puts.ext p7 x6 b3
  refine seq_nil ?_
  refine hK6 _ _ ?_
  try clear hK6 K6
  refine wp_ret ?_
  exact (show bodyPost _ _ _ .ret _ _ from ret1 (.agg (cat [numA (s3), numA (s4)])) rfl (res_cell g3 30 _ r3_7 (by kernel_rfl) (by kernel_rfl) (isz (n := 8) (by kernel_rfl) (by kernel_rfl))) ⟨rfl, x7⟩)
theorem pnarC (a b c d : Int) (h_a : isN a) (h_b : isN b) (h_c : isN c) (h_d : isN d) (w : World) : Calls Tryd.prog 52 #[.agg (cat [numA (a), numA (b), numA (c), numA (d)])] w (Ret w (.agg (cat [numA ((pnarF a b c d).1), numA ((pnarF a b c d).2)]))) :=
  pnar_core a b c d h_a h_b h_c h_d _ _ _ _ _ (inv _ h_c) (mul _ _ h_a (invN_isN _)) (mul _ _ h_b (invN_isN _)) (patC _ _ (isN_mod _) (isN_mod _)) w
theorem pnar_isN (a b c d : Int) (h_a : isN a) (h_b : isN b) (h_c : isN c) (h_d : isN d) : isN (pnarF a b c d).1 ∧ isN (pnarF a b c d).2 := ⟨(pat_isN _ _ (isN_mod _) (isN_mod _)).1, (pat_isN _ _ (isN_mod _) (isN_mod _)).2⟩

def paddF (x l y m : Int) : Int × Int :=
  let s0 := (pwideF x l).1
  let s1 := (pwideF x l).2.1
  let s2 := (pwideF x l).2.2.1
  let s3 := (pwideF x l).2.2.2
  let s4 := (pwideF y m).1
  let s5 := (pwideF y m).2.1
  let s6 := (pwideF y m).2.2.1
  let s7 := (pwideF y m).2.2.2
  let s8 := (waddF s0 s1 s2 s3 s4 s5 s6 s7 dN).1
  let s9 := (waddF s0 s1 s2 s3 s4 s5 s6 s7 dN).2.1
  let s10 := (waddF s0 s1 s2 s3 s4 s5 s6 s7 dN).2.2.1
  let s11 := (waddF s0 s1 s2 s3 s4 s5 s6 s7 dN).2.2.2
  let s12 := (pnarF s8 s9 s10 s11).1
  let s13 := (pnarF s8 s9 s10 s11).2
  (s12, s13)
set_option maxHeartbeats 4000000 in
theorem padd_core (x l y m : Int) (h_x : isN x) (h_l : isN l) (h_y : isN y) (h_m : isN m) (s0 s1 s2 s3 s4 s5 s6 s7 s8 s9 s10 s11 s12 s13 : Int)
    (c0 : ∀ W, Calls Tryd.prog 50 #[.agg (cat [numA (x), numA (l)])] W (Ret W (.agg (cat [numA (s0), numA (s1), numA (s2), numA (s3)]))))
    (c1 : ∀ W, Calls Tryd.prog 50 #[.agg (cat [numA (y), numA (m)])] W (Ret W (.agg (cat [numA (s4), numA (s5), numA (s6), numA (s7)]))))
    (c2 : ∀ W, Calls Tryd.prog 51 #[.agg (cat [numA (s0), numA (s1), numA (s2), numA (s3)]), .agg (cat [numA (s4), numA (s5), numA (s6), numA (s7)]), .agg (numA (dN))] W (Ret W (.agg (cat [numA (s8), numA (s9), numA (s10), numA (s11)]))))
    (c3 : ∀ W, Calls Tryd.prog 52 #[.agg (cat [numA (s8), numA (s9), numA (s10), numA (s11)])] W (Ret W (.agg (cat [numA (s12), numA (s13)])))) (w : World) (tB : TypeId) (hB : w.heap[0]? = some (.cells (ints .u8 bendL) tB)) :
    Calls Tryd.prog 15 #[.agg (cat [numA (x), numA (l)]), .agg (cat [numA (y), numA (m)])] w (Ret w (.agg (cat [numA (s12), numA (s13)]))) := by
  refine enter 13 [(0, .agg (cat [numA (x), numA (l)])), (1, .agg (cat [numA (y), numA (m)]))] Tryd.func15 rfl rfl (by kernel_rfl) rfl ?_
  refine wp_seq_k fun K2 hK2 => ?_
  refine region_lit ?_
  refine seq_alloc (cat [numA (x), numA (l)]) 30 2 rfl (by kernel_rfl) (by kernel_rfl) fun g3 W1 l3 e1 r3_1 => ?_
  have x1 : Ext w W1 := Ext.tr (Rely.Ext.refl w) e1
  have b3 : w.heap.size ≤ g3 := Nat.le_trans (Rely.Ext.refl w).size l3
  refine seq_alloc (cat [numA (y), numA (m)]) 30 3 rfl (by kernel_rfl) (by kernel_rfl) fun g4 W2 l4 e2 r4_2 => ?_
  have x2 : Ext w W2 := Ext.tr x1 e2
  have b4 : w.heap.size ≤ g4 := Nat.le_trans x1.size l4
  refine seq_alloc (cat [numA (0), numA (0)]) 30 4 rfl (by kernel_rfl) (by kernel_rfl) fun g5 W3 l5 e3 r5_3 => ?_
  have x3 : Ext w W3 := Ext.tr x2 e3
  have b5 : w.heap.size ≤ g5 := Nat.le_trans x2.size l5
  refine seq_nil ?_
  refine hK2 _ _ ?_
  try clear hK2 K2
  refine wp_seq_k fun K6 hK6 => ?_
  refine any_region 8 [⟨none, [(2, none)]⟩, ⟨none, [(5, some 0)]⟩, ⟨none, [(3, none)]⟩, ⟨none, [(7, some 2)]⟩, ⟨none, []⟩, ⟨none, [(9, some 4)]⟩, ⟨none, [(6, some 1), (8, some 3), (10, some 5)]⟩, ⟨none, [(11, some 6)]⟩] (by kernel_rfl) (by kernel_rfl) fun F hF => ?_
  have r3_3 := (row_ext (row_ext r3_1 e2) e3)
  refine any_read (.agg (cat [numA (x), numA (l)])) (by kernel_rfl) (by kernel_rfl) (fun W hR => (run_load_row 30 _ g3 30 _ _ (row_ext (row_ext r3_3 (ext_drew _)) hR) rfl (by kernel_rfl) (by kernel_rfl) (isz (n := 8) (by kernel_rfl) (by kernel_rfl)))) ?_
  refine any_call (.agg (cat [numA (s0), numA (s1), numA (s2), numA (s3)])) 50 #[.agg (cat [numA (x), numA (l)])] (by kernel_rfl) (by kernel_rfl) (fun W => by kernel_rfl) (fun W hR => c0 W) ?_
  have r4_3 := (row_ext r4_2 e3)
  refine any_read (.agg (cat [numA (y), numA (m)])) (by kernel_rfl) (by kernel_rfl) (fun W hR => (run_load_row 30 _ g4 30 _ _ (row_ext (row_ext r4_3 (ext_drew _)) hR) rfl (by kernel_rfl) (by kernel_rfl) (isz (n := 8) (by kernel_rfl) (by kernel_rfl)))) ?_
  refine any_call (.agg (cat [numA (s4), numA (s5), numA (s6), numA (s7)])) 50 #[.agg (cat [numA (y), numA (m)])] (by kernel_rfl) (by kernel_rfl) (fun W => by kernel_rfl) (fun W hR => c1 W) ?_
  have r1_3 := (row_ext (row_ext (row_ext hB e1) e2) e3)
  refine any_read (.agg (ints .u8 (bendL))) (by kernel_rfl) (by kernel_rfl) (fun W hR => (run_load_row 23 _ 0 tB _ _ (row_ext (row_ext r1_3 (ext_drew _)) hR) rfl (by kernel_rfl) (by kernel_rfl) (isz (n := 32) (by kernel_rfl) ((ints_size _ _).trans (by decide))))) ?_
  refine any_call (.agg (numA (dN))) 29 #[.agg (ints .u8 (bendL))] (by kernel_rfl) (by kernel_rfl) (fun W => by kernel_rfl) (fun W hR => from_d W) ?_
  refine any_call (.agg (cat [numA (s8), numA (s9), numA (s10), numA (s11)])) 51 #[.agg (cat [numA (s0), numA (s1), numA (s2), numA (s3)]), .agg (cat [numA (s4), numA (s5), numA (s6), numA (s7)]), .agg (numA (dN))] (by kernel_rfl) (by kernel_rfl) (fun W => by kernel_rfl) (fun W hR => c2 W) ?_
  refine any_call (.agg (cat [numA (s12), numA (s13)])) 52 #[.agg (cat [numA (s8), numA (s9), numA (s10), numA (s11)])] (by kernel_rfl) (by kernel_rfl) (fun W => by kernel_rfl) (fun W hR => c3 W) ?_
  refine steps_nil (hF _ (by kernel_rfl) fun W4 e4 => ?_)
  simp only [ups, up, Kn.val, List.take_succ_cons, List.take_zero, List.drop_succ_cons, List.drop_zero, List.nil_append, List.cons_append]
  clear hF
  have x4 : Ext w W4 := Ext.tr x3 e4
  have r5_4 := (row_ext r5_3 e4)
  refine seq_store g5 _ (cat [numA (s12), numA (s13)]) 30 r5_4 rfl (by kernel_rfl) (run_store_row 30 _ _ g5 30 _ _ r5_4 rfl (by kernel_rfl) (by kernel_rfl) (isz (n := 8) (by kernel_rfl) (by kernel_rfl)) (eqsz (n := 8) (by kernel_rfl) (by kernel_rfl)) (by kernel_rfl)) fun W5 p5 r5_5 => ?_
  have x5 : Ext w W5 := Puts.ext p5 x4 b5
  refine seq_nil ?_
  refine hK6 _ _ ?_
  try clear hK6 K6
  refine wp_ret ?_
  exact (show bodyPost _ _ _ .ret _ _ from ret1 (.agg (cat [numA (s12), numA (s13)])) rfl (res_cell g5 30 _ r5_5 (by kernel_rfl) (by kernel_rfl) (isz (n := 8) (by kernel_rfl) (by kernel_rfl))) ⟨rfl, x5⟩)
theorem paddC (x l y m : Int) (h_x : isN x) (h_l : isN l) (h_y : isN y) (h_m : isN m) (w : World) (tB : TypeId) (hB : w.heap[0]? = some (.cells (ints .u8 bendL) tB)) : Calls Tryd.prog 15 #[.agg (cat [numA (x), numA (l)]), .agg (cat [numA (y), numA (m)])] w (Ret w (.agg (cat [numA ((paddF x l y m).1), numA ((paddF x l y m).2)]))) :=
  padd_core x l y m h_x h_l h_y h_m _ _ _ _ _ _ _ _ _ _ _ _ _ _ (pwideC _ _ h_x h_l) (pwideC _ _ h_y h_m) (waddC _ _ _ _ _ _ _ _ _ (pwide_isN _ _ h_x h_l).1 (pwide_isN _ _ h_x h_l).2.1 (pwide_isN _ _ h_x h_l).2.2.1 (pwide_isN _ _ h_x h_l).2.2.2 (pwide_isN _ _ h_y h_m).1 (pwide_isN _ _ h_y h_m).2.1 (pwide_isN _ _ h_y h_m).2.2.1 (pwide_isN _ _ h_y h_m).2.2.2 dN_isN) (pnarC _ _ _ _ (wadd_isN _ _ _ _ _ _ _ _ _ (pwide_isN _ _ h_x h_l).1 (pwide_isN _ _ h_x h_l).2.1 (pwide_isN _ _ h_x h_l).2.2.1 (pwide_isN _ _ h_x h_l).2.2.2 (pwide_isN _ _ h_y h_m).1 (pwide_isN _ _ h_y h_m).2.1 (pwide_isN _ _ h_y h_m).2.2.1 (pwide_isN _ _ h_y h_m).2.2.2 dN_isN).1 (wadd_isN _ _ _ _ _ _ _ _ _ (pwide_isN _ _ h_x h_l).1 (pwide_isN _ _ h_x h_l).2.1 (pwide_isN _ _ h_x h_l).2.2.1 (pwide_isN _ _ h_x h_l).2.2.2 (pwide_isN _ _ h_y h_m).1 (pwide_isN _ _ h_y h_m).2.1 (pwide_isN _ _ h_y h_m).2.2.1 (pwide_isN _ _ h_y h_m).2.2.2 dN_isN).2.1 (wadd_isN _ _ _ _ _ _ _ _ _ (pwide_isN _ _ h_x h_l).1 (pwide_isN _ _ h_x h_l).2.1 (pwide_isN _ _ h_x h_l).2.2.1 (pwide_isN _ _ h_x h_l).2.2.2 (pwide_isN _ _ h_y h_m).1 (pwide_isN _ _ h_y h_m).2.1 (pwide_isN _ _ h_y h_m).2.2.1 (pwide_isN _ _ h_y h_m).2.2.2 dN_isN).2.2.1 (wadd_isN _ _ _ _ _ _ _ _ _ (pwide_isN _ _ h_x h_l).1 (pwide_isN _ _ h_x h_l).2.1 (pwide_isN _ _ h_x h_l).2.2.1 (pwide_isN _ _ h_x h_l).2.2.2 (pwide_isN _ _ h_y h_m).1 (pwide_isN _ _ h_y h_m).2.1 (pwide_isN _ _ h_y h_m).2.2.1 (pwide_isN _ _ h_y h_m).2.2.2 dN_isN).2.2.2) w tB hB
theorem padd_isN (x l y m : Int) (h_x : isN x) (h_l : isN l) (h_y : isN y) (h_m : isN m) : isN (paddF x l y m).1 ∧ isN (paddF x l y m).2 := ⟨(pnar_isN _ _ _ _ (wadd_isN _ _ _ _ _ _ _ _ _ (pwide_isN _ _ h_x h_l).1 (pwide_isN _ _ h_x h_l).2.1 (pwide_isN _ _ h_x h_l).2.2.1 (pwide_isN _ _ h_x h_l).2.2.2 (pwide_isN _ _ h_y h_m).1 (pwide_isN _ _ h_y h_m).2.1 (pwide_isN _ _ h_y h_m).2.2.1 (pwide_isN _ _ h_y h_m).2.2.2 dN_isN).1 (wadd_isN _ _ _ _ _ _ _ _ _ (pwide_isN _ _ h_x h_l).1 (pwide_isN _ _ h_x h_l).2.1 (pwide_isN _ _ h_x h_l).2.2.1 (pwide_isN _ _ h_x h_l).2.2.2 (pwide_isN _ _ h_y h_m).1 (pwide_isN _ _ h_y h_m).2.1 (pwide_isN _ _ h_y h_m).2.2.1 (pwide_isN _ _ h_y h_m).2.2.2 dN_isN).2.1 (wadd_isN _ _ _ _ _ _ _ _ _ (pwide_isN _ _ h_x h_l).1 (pwide_isN _ _ h_x h_l).2.1 (pwide_isN _ _ h_x h_l).2.2.1 (pwide_isN _ _ h_x h_l).2.2.2 (pwide_isN _ _ h_y h_m).1 (pwide_isN _ _ h_y h_m).2.1 (pwide_isN _ _ h_y h_m).2.2.1 (pwide_isN _ _ h_y h_m).2.2.2 dN_isN).2.2.1 (wadd_isN _ _ _ _ _ _ _ _ _ (pwide_isN _ _ h_x h_l).1 (pwide_isN _ _ h_x h_l).2.1 (pwide_isN _ _ h_x h_l).2.2.1 (pwide_isN _ _ h_x h_l).2.2.2 (pwide_isN _ _ h_y h_m).1 (pwide_isN _ _ h_y h_m).2.1 (pwide_isN _ _ h_y h_m).2.2.1 (pwide_isN _ _ h_y h_m).2.2.2 dN_isN).2.2.2).1, (pnar_isN _ _ _ _ (wadd_isN _ _ _ _ _ _ _ _ _ (pwide_isN _ _ h_x h_l).1 (pwide_isN _ _ h_x h_l).2.1 (pwide_isN _ _ h_x h_l).2.2.1 (pwide_isN _ _ h_x h_l).2.2.2 (pwide_isN _ _ h_y h_m).1 (pwide_isN _ _ h_y h_m).2.1 (pwide_isN _ _ h_y h_m).2.2.1 (pwide_isN _ _ h_y h_m).2.2.2 dN_isN).1 (wadd_isN _ _ _ _ _ _ _ _ _ (pwide_isN _ _ h_x h_l).1 (pwide_isN _ _ h_x h_l).2.1 (pwide_isN _ _ h_x h_l).2.2.1 (pwide_isN _ _ h_x h_l).2.2.2 (pwide_isN _ _ h_y h_m).1 (pwide_isN _ _ h_y h_m).2.1 (pwide_isN _ _ h_y h_m).2.2.1 (pwide_isN _ _ h_y h_m).2.2.2 dN_isN).2.1 (wadd_isN _ _ _ _ _ _ _ _ _ (pwide_isN _ _ h_x h_l).1 (pwide_isN _ _ h_x h_l).2.1 (pwide_isN _ _ h_x h_l).2.2.1 (pwide_isN _ _ h_x h_l).2.2.2 (pwide_isN _ _ h_y h_m).1 (pwide_isN _ _ h_y h_m).2.1 (pwide_isN _ _ h_y h_m).2.2.1 (pwide_isN _ _ h_y h_m).2.2.2 dN_isN).2.2.1 (wadd_isN _ _ _ _ _ _ _ _ _ (pwide_isN _ _ h_x h_l).1 (pwide_isN _ _ h_x h_l).2.1 (pwide_isN _ _ h_x h_l).2.2.1 (pwide_isN _ _ h_x h_l).2.2.2 (pwide_isN _ _ h_y h_m).1 (pwide_isN _ _ h_y h_m).2.1 (pwide_isN _ _ h_y h_m).2.2.1 (pwide_isN _ _ h_y h_m).2.2.2 dN_isN).2.2.2).2⟩

def pngPF (x l : Int) : Int × Int :=
  let s0 := (pnegF x)
  (s0, l)
set_option maxHeartbeats 4000000 in
theorem pngP_core (x l : Int) (h_x : isN x) (h_l : isN l) (s0 : Int)
    (c0 : ∀ W, Calls Tryd.prog 37 #[.agg (numA (x))] W (Ret W (.agg (numA (s0))))) (w : World) :
    Calls Tryd.prog 17 #[.agg (cat [numA (x), numA (l)])] w (Ret w (.agg (cat [numA (s0), numA (l)]))) := by
  refine enter 9 [(0, .agg (cat [numA (x), numA (l)]))] Tryd.func17 rfl rfl (by kernel_rfl) rfl ?_
  refine wp_seq_k fun K1 hK1 => ?_
  refine region_lit ?_
  refine seq_alloc (cat [numA (x), numA (l)]) 30 1 rfl (by kernel_rfl) (by kernel_rfl) fun g2 W1 l2 e1 r2_1 => ?_
  have x1 : Ext w W1 := Ext.tr (Rely.Ext.refl w) e1
  have b2 : w.heap.size ≤ g2 := Nat.le_trans (Rely.Ext.refl w).size l2
  refine seq_alloc (cat [numA (0), numA (0)]) 30 2 rfl (by kernel_rfl) (by kernel_rfl) fun g3 W2 l3 e2 r3_2 => ?_
  have x2 : Ext w W2 := Ext.tr x1 e2
  have b3 : w.heap.size ≤ g3 := Nat.le_trans x1.size l3
  refine seq_nil ?_
  refine hK1 _ _ ?_
  try clear hK1 K1
  refine wp_seq_k fun K4 hK4 => ?_
  refine any_region 6 [⟨none, [(1, none)]⟩, ⟨none, [(3, some 0)]⟩, ⟨none, [(4, some 1)]⟩, ⟨none, [(1, none)]⟩, ⟨none, [(6, some 3)]⟩, ⟨none, [(5, some 2), (7, some 4)]⟩] (by kernel_rfl) (by kernel_rfl) fun F hF => ?_
  refine any_val (.pointer (some ⟨g2, 0, none⟩)) (by kernel_rfl) (by kernel_rfl) (fun W => by kernel_rfl) ?_
  have r2_2 := (row_ext r2_1 e2)
  refine any_read (.agg (numA (x))) (by kernel_rfl) (by kernel_rfl) (fun W hR => (run_load_part 28 _ g2 0 30 _ _ _ (row_ext (row_ext r2_2 (ext_drew _)) hR) rfl (by kernel_rfl) (cat_part [] [numA (x)] [numA (l)] 0 (by kernel_rfl)) (by kernel_rfl) (isz (n := 4) (by kernel_rfl) (by kernel_rfl)))) ?_
  refine any_call (.agg (numA (s0))) 37 #[.agg (numA (x))] (by kernel_rfl) (by kernel_rfl) (fun W => by kernel_rfl) (fun W hR => c0 W) ?_
  refine any_val (.pointer (some ⟨g2, 4, none⟩)) (by kernel_rfl) (by kernel_rfl) (fun W => by kernel_rfl) ?_
  refine any_read (.agg (numA (l))) (by kernel_rfl) (by kernel_rfl) (fun W hR => (run_load_part 28 _ g2 4 30 _ _ _ (row_ext (row_ext r2_2 (ext_drew _)) hR) rfl (by kernel_rfl) (cat_part [numA (x)] [numA (l)] [] 4 (by kernel_rfl)) (by kernel_rfl) (isz (n := 4) (by kernel_rfl) (by kernel_rfl)))) ?_
  refine any_val (.agg (cat [numA (s0), numA (l)])) (by kernel_rfl) (by kernel_rfl) (fun W => by kernel_rfl) ?_
  refine steps_nil (hF _ (by kernel_rfl) fun W3 e3 => ?_)
  simp only [ups, up, Kn.val, List.take_succ_cons, List.take_zero, List.drop_succ_cons, List.drop_zero, List.nil_append, List.cons_append]
  clear hF
  have x3 : Ext w W3 := Ext.tr x2 e3
  have r3_3 := (row_ext r3_2 e3)
  refine seq_store g3 _ (cat [numA (s0), numA (l)]) 30 r3_3 rfl (by kernel_rfl) (run_store_row 30 _ _ g3 30 _ _ r3_3 rfl (by kernel_rfl) (by kernel_rfl) (isz (n := 8) (by kernel_rfl) (by kernel_rfl)) (eqsz (n := 8) (by kernel_rfl) (by kernel_rfl)) (by kernel_rfl)) fun W4 p4 r3_4 => ?_
  have x4 : Ext w W4 := Puts.ext p4 x3 b3
  refine seq_nil ?_
  refine hK4 _ _ ?_
  try clear hK4 K4
  refine wp_ret ?_
  exact (show bodyPost _ _ _ .ret _ _ from ret1 (.agg (cat [numA (s0), numA (l)])) rfl (res_cell g3 30 _ r3_4 (by kernel_rfl) (by kernel_rfl) (isz (n := 8) (by kernel_rfl) (by kernel_rfl))) ⟨rfl, x4⟩)
theorem pngPC (x l : Int) (h_x : isN x) (h_l : isN l) (w : World) : Calls Tryd.prog 17 #[.agg (cat [numA (x), numA (l)])] w (Ret w (.agg (cat [numA ((pngPF x l).1), numA ((pngPF x l).2)]))) :=
  pngP_core x l h_x h_l _ (pnegC _ h_x) w
theorem pngP_isN (x l : Int) (h_x : isN x) (h_l : isN l) : isN (pngPF x l).1 ∧ isN (pngPF x l).2 := ⟨(pneg_isN _ h_x), h_l⟩

def rnegF (x y z : Int) : Int × Int × Int :=
  let s0 := (0 - x) % p
  (s0, y, z)
set_option maxHeartbeats 4000000 in
theorem rneg_core (x y z : Int) (h_x : isN x) (h_y : isN y) (h_z : isN z) (s0 : Int)
    (c0 : ∀ W, Calls Tryd.prog 46 #[.agg (ints .i64 (lims (0))), .agg (ints .i64 (lims (x)))] W (Ret W (.agg (ints .i64 (lims (s0)))))) (w : World) :
    Calls Tryd.prog 18 #[.agg (cat [ints .i64 (lims (x)), ints .i64 (lims (y)), ints .i64 (lims (z))])] w (Ret w (.agg (cat [ints .i64 (lims (s0)), ints .i64 (lims (y)), ints .i64 (lims (z))]))) := by
  refine enter 9 [(0, .agg (cat [ints .i64 (lims (x)), ints .i64 (lims (y)), ints .i64 (lims (z))]))] Tryd.func18 rfl rfl (by kernel_rfl) rfl ?_
  refine wp_seq_k fun K1 hK1 => ?_
  refine region_lit ?_
  refine seq_alloc (cat [ints .i64 (lims (x)), ints .i64 (lims (y)), ints .i64 (lims (z))]) 36 1 rfl (by kernel_rfl) (by kernel_rfl) fun g2 W1 l2 e1 r2_1 => ?_
  have x1 : Ext w W1 := Ext.tr (Rely.Ext.refl w) e1
  have b2 : w.heap.size ≤ g2 := Nat.le_trans (Rely.Ext.refl w).size l2
  refine seq_alloc (cat [ints .i64 (lims (0)), ints .i64 (lims (0)), ints .i64 (lims (0))]) 36 2 rfl (by kernel_rfl) (by kernel_rfl) fun g3 W2 l3 e2 r3_2 => ?_
  have x2 : Ext w W2 := Ext.tr x1 e2
  have b3 : w.heap.size ≤ g3 := Nat.le_trans x1.size l3
  refine seq_nil ?_
  refine hK1 _ _ ?_
  try clear hK1 K1
  refine wp_seq_k fun K4 hK4 => ?_
  refine region_lit ?_
  refine seq_val (.agg (ints .i64 (lims (0)))) 3 rfl (by kernel_rfl) (by kernel_rfl) ?_
  refine seq_val (.pointer (some ⟨g2, 0, none⟩)) 4 rfl (by kernel_rfl) (by kernel_rfl) ?_
  have r2_2 := (row_ext r2_1 e2)
  refine seq_val (.agg (ints .i64 (lims (x)))) 5 rfl (by kernel_rfl) (run_load_part 34 _ g2 0 36 _ _ _ r2_2 rfl (by kernel_rfl) (cat_part [] [ints .i64 (lims (x))] [ints .i64 (lims (y)), ints .i64 (lims (z))] 0 (by kernel_rfl)) (by kernel_rfl) (isz (n := 16) (by kernel_rfl) (by kernel_rfl))) ?_
  refine seq_call (.agg (ints .i64 (lims (s0)))) 46 #[.agg (ints .i64 (lims (0))), .agg (ints .i64 (lims (x)))] 6 rfl (by kernel_rfl) (by kernel_rfl) (c0 _) fun W3 e3 => ?_
  have x3 : Ext w W3 := Ext.tr x2 e3
  refine seq_val (.pointer (some ⟨g2, 0, none⟩)) 7 rfl (by kernel_rfl) (by kernel_rfl) ?_
  have r2_3 := (row_ext r2_2 e3)
  refine seq_store g2 _ (cat [ints .i64 (lims (s0)), ints .i64 (lims (y)), ints .i64 (lims (z))]) 36 r2_3 rfl (by kernel_rfl) (run_store_cat 34 _ _ g2 0 36 [] [ints .i64 (lims (x))] [ints .i64 (lims (s0))] [ints .i64 (lims (y)), ints .i64 (lims (z))] r2_3 rfl (by kernel_rfl) (by kernel_rfl) (isz (n := 16) (by kernel_rfl) (by kernel_rfl)) (by kernel_rfl) (eqsz (n := 16) (by kernel_rfl) (by kernel_rfl)) (by kernel_rfl)) fun W4 p4 r2_4 => ?_
  have x4 : Ext w W4 := Puts.ext p4 x3 b2
  refine seq_nil ?_
  refine hK4 _ _ ?_
  try clear hK4 K4
  refine wp_seq_k fun K5 hK5 => ?_
  refine region_lit ?_
  refine seq_val (.agg (cat [ints .i64 (lims (s0)), ints .i64 (lims (y)), ints .i64 (lims (z))])) 8 rfl (by kernel_rfl) (run_load_row 36 _ g2 36 _ _ r2_4 rfl (by kernel_rfl) (by kernel_rfl) (isz (n := 48) (by kernel_rfl) (by kernel_rfl))) ?_
  have r3_4 := (Puts.row p4 (row_ext r3_2 e3) (ne_of_new r2_1 l3))
  refine seq_store g3 _ (cat [ints .i64 (lims (s0)), ints .i64 (lims (y)), ints .i64 (lims (z))]) 36 r3_4 rfl (by kernel_rfl) (run_store_row 36 _ _ g3 36 _ _ r3_4 rfl (by kernel_rfl) (by kernel_rfl) (isz (n := 48) (by kernel_rfl) (by kernel_rfl)) (eqsz (n := 48) (by kernel_rfl) (by kernel_rfl)) (by kernel_rfl)) fun W5 p5 r3_5 => ?_
  have x5 : Ext w W5 := Puts.ext p5 x4 b3
  refine seq_nil ?_
  refine hK5 _ _ ?_
  try clear hK5 K5
  refine wp_ret ?_
  exact (show bodyPost _ _ _ .ret _ _ from ret1 (.agg (cat [ints .i64 (lims (s0)), ints .i64 (lims (y)), ints .i64 (lims (z))])) rfl (res_cell g3 36 _ r3_5 (by kernel_rfl) (by kernel_rfl) (isz (n := 48) (by kernel_rfl) (by kernel_rfl))) ⟨rfl, x5⟩)
theorem rnegC (x y z : Int) (h_x : isN x) (h_y : isN y) (h_z : isN z) (w : World) : Calls Tryd.prog 18 #[.agg (cat [ints .i64 (lims (x)), ints .i64 (lims (y)), ints .i64 (lims (z))])] w (Ret w (.agg (cat [ints .i64 (lims ((rnegF x y z).1)), ints .i64 (lims ((rnegF x y z).2.1)), ints .i64 (lims ((rnegF x y z).2.2))]))) :=
  rneg_core x y z h_x h_y h_z _ (lSubN _ _ (num_isN 0) h_x) w
theorem rneg_isN (x y z : Int) (h_x : isN x) (h_y : isN y) (h_z : isN z) : isN (rnegF x y z).1 ∧ isN (rnegF x y z).2.1 ∧ isN (rnegF x y z).2.2 := ⟨(isN_mod _), h_y, h_z⟩


end Go.Proofs.YtaojnmjmmfdfjaaDoor.Field
