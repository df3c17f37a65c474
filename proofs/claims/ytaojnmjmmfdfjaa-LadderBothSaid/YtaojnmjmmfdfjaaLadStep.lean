/- The ladder's step. -/
import Derived.Test.YtaojnmjmmfdfjaaAutoT
import Derived.Test.YtaojnmjmmfdfjaaClamp
import Derived.Test.YtaojnmjmmfdfjaaFieldH
import Derived.Test.YtaojnmjmmfdfjaaLawKit
namespace Go.Proofs.Ytaojnmjmmfdfjaa.Field
open Go Go.RowKit
open Go.Proofs.Ytaojnmjmmfdfjaa.Rely Go.Proofs.Ytaojnmjmmfdfjaa.Auto Go.Proofs.Ytaojnmjmmfdfjaa.Ladder
set_option linter.unusedVariables false

set_option maxHeartbeats 4000000 in
theorem step_core (u x z y v s0 s1 s2 s3 s4 s5 s6 s7 s8 s9 s10 s11 s12 s13 s14 s15 s16 s17 : Int) (ck : ∀ W, Calls Try.prog 22 #[.int .i64 121665] W (Ret W (num 121665)))
    (c0 : ∀ W, Calls Try.prog 25 #[.agg (numA (x)), .agg (numA (z))] W (Ret W (.agg (numA (s0)))))
    (c1 : ∀ W, Calls Try.prog 27 #[.agg (numA (x)), .agg (numA (z))] W (Ret W (.agg (numA (s1)))))
    (c2 : ∀ W, Calls Try.prog 25 #[.agg (numA (y)), .agg (numA (v))] W (Ret W (.agg (numA (s2)))))
    (c3 : ∀ W, Calls Try.prog 27 #[.agg (numA (y)), .agg (numA (v))] W (Ret W (.agg (numA (s3)))))
    (c4 : ∀ W, Calls Try.prog 30 #[.agg (numA (s0)), .agg (numA (s0))] W (Ret W (.agg (numA (s4)))))
    (c5 : ∀ W, Calls Try.prog 30 #[.agg (numA (s1)), .agg (numA (s1))] W (Ret W (.agg (numA (s5)))))
    (c6 : ∀ W, Calls Try.prog 27 #[.agg (numA (s4)), .agg (numA (s5))] W (Ret W (.agg (numA (s6)))))
    (c7 : ∀ W, Calls Try.prog 30 #[.agg (numA (s3)), .agg (numA (s0))] W (Ret W (.agg (numA (s7)))))
    (c8 : ∀ W, Calls Try.prog 30 #[.agg (numA (s2)), .agg (numA (s1))] W (Ret W (.agg (numA (s8)))))
    (c9 : ∀ W, Calls Try.prog 25 #[.agg (numA (s7)), .agg (numA (s8))] W (Ret W (.agg (numA (s9)))))
    (c10 : ∀ W, Calls Try.prog 27 #[.agg (numA (s7)), .agg (numA (s8))] W (Ret W (.agg (numA (s10)))))
    (c11 : ∀ W, Calls Try.prog 30 #[.agg (numA (s4)), .agg (numA (s5))] W (Ret W (.agg (numA (s11)))))
    (c12 : ∀ W, Calls Try.prog 30 #[.agg (numA (s6)), .agg (numA (121665))] W (Ret W (.agg (numA (s12)))))
    (c13 : ∀ W, Calls Try.prog 25 #[.agg (numA (s4)), .agg (numA (s12))] W (Ret W (.agg (numA (s13)))))
    (c14 : ∀ W, Calls Try.prog 30 #[.agg (numA (s6)), .agg (numA (s13))] W (Ret W (.agg (numA (s14)))))
    (c15 : ∀ W, Calls Try.prog 30 #[.agg (numA (s9)), .agg (numA (s9))] W (Ret W (.agg (numA (s15)))))
    (c16 : ∀ W, Calls Try.prog 30 #[.agg (numA (s10)), .agg (numA (s10))] W (Ret W (.agg (numA (s16)))))
    (c17 : ∀ W, Calls Try.prog 30 #[.agg (numA (u)), .agg (numA (s16))] W (Ret W (.agg (numA (s17))))) (w : World) :
    Calls Try.prog 64 #[num u, .agg (cat [numA x, numA z]), .agg (cat [numA y, numA v])] w (Ret w (.tuple #[.agg (cat [numA (s11), numA (s14)]), .agg (cat [numA (s15), numA (s17)])])) := by
  refine enter 80 [(0, .agg (numA (u))), (1, .agg (cat [numA (x), numA (z)])), (2, .agg (cat [numA (y), numA (v)]))] Try.func64 rfl rfl (by kernel_rfl) rfl ?_
  refine wp_seq_k fun K1 hK1 => ?_
  refine region_lit ?_
  refine seq_alloc (numA (u)) 29 3 rfl (by kernel_rfl) (by kernel_rfl) fun g2 W1 l2 e1 r2_1 => ?_
  have x1 : Ext w W1 := Ext.tr (Rely.Ext.refl w) e1
  have b2 : w.heap.size ≤ g2 := Nat.le_trans (Rely.Ext.refl w).size l2
  refine seq_alloc (cat [numA (x), numA (z)]) 85 4 rfl (by kernel_rfl) (by kernel_rfl) fun g3 W2 l3 e2 r3_2 => ?_
  have x2 : Ext w W2 := Ext.tr x1 e2
  have b3 : w.heap.size ≤ g3 := Nat.le_trans x1.size l3
  refine seq_alloc (cat [numA (y), numA (v)]) 85 5 rfl (by kernel_rfl) (by kernel_rfl) fun g4 W3 l4 e3 r4_3 => ?_
  have x3 : Ext w W3 := Ext.tr x2 e3
  have b4 : w.heap.size ≤ g4 := Nat.le_trans x2.size l4
  refine seq_alloc (cat [numA (0), numA (0)]) 85 6 rfl (by kernel_rfl) (by kernel_rfl) fun g5 W4 l5 e4 r5_4 => ?_
  have x4 : Ext w W4 := Ext.tr x3 e4
  have b5 : w.heap.size ≤ g5 := Nat.le_trans x3.size l5
  refine seq_alloc (cat [numA (0), numA (0)]) 85 7 rfl (by kernel_rfl) (by kernel_rfl) fun g6 W5 l6 e5 r6_5 => ?_
  have x5 : Ext w W5 := Ext.tr x4 e5
  have b6 : w.heap.size ≤ g6 := Nat.le_trans x4.size l6
  refine seq_nil ?_
  refine hK1 _ _ ?_
  try clear hK1 K1
  refine wp_seq_k fun K7 hK7 => ?_
  refine any_regionD 12 [⟨none, [(4, none)]⟩, ⟨none, [(19, some 0)]⟩, ⟨none, [(4, none)]⟩, ⟨none, [(21, some 2)]⟩, ⟨none, [(20, some 1), (22, some 3)]⟩, ⟨none, [(4, none)]⟩, ⟨none, [(24, some 5)]⟩, ⟨none, [(4, none)]⟩, ⟨none, [(26, some 7)]⟩, ⟨none, [(25, some 6), (27, some 8)]⟩, ⟨none, []⟩, ⟨none, []⟩] [10, 11] (by kernel_rfl) (by kernel_rfl) (by kernel_rfl) fun F hF => ?_
  refine any_val (.pointer (some ⟨g3, 0, none⟩)) (by kernel_rfl) (by kernel_rfl) (fun W => by kernel_rfl) ?_
  have r3_5 := (row_ext (row_ext (row_ext r3_2 e3) e4) e5)
  refine any_read (.agg (numA (x))) (by kernel_rfl) (by kernel_rfl) (fun W hR => (run_load_part 29 _ g3 0 85 _ _ _ (row_ext (row_ext r3_5 (ext_drew _)) hR) rfl (by kernel_rfl) (cat_part [] [numA (x)] [numA (z)] 0 (by kernel_rfl)) (by kernel_rfl) (isz (n := 4) (by kernel_rfl) (by kernel_rfl)))) ?_
  refine any_val (.pointer (some ⟨g3, 4, none⟩)) (by kernel_rfl) (by kernel_rfl) (fun W => by kernel_rfl) ?_
  refine any_read (.agg (numA (z))) (by kernel_rfl) (by kernel_rfl) (fun W hR => (run_load_part 29 _ g3 4 85 _ _ _ (row_ext (row_ext r3_5 (ext_drew _)) hR) rfl (by kernel_rfl) (cat_part [numA (x)] [numA (z)] [] 4 (by kernel_rfl)) (by kernel_rfl) (isz (n := 4) (by kernel_rfl) (by kernel_rfl)))) ?_
  refine any_call (.agg (numA (s0))) 25 #[.agg (numA (x)), .agg (numA (z))] (by kernel_rfl) (by kernel_rfl) (fun W => by kernel_rfl) (fun W hR => c0 W) ?_
  refine any_val (.pointer (some ⟨g3, 0, none⟩)) (by kernel_rfl) (by kernel_rfl) (fun W => by kernel_rfl) ?_
  refine any_read (.agg (numA (x))) (by kernel_rfl) (by kernel_rfl) (fun W hR => (run_load_part 29 _ g3 0 85 _ _ _ (row_ext (row_ext r3_5 (ext_drew _)) hR) rfl (by kernel_rfl) (cat_part [] [numA (x)] [numA (z)] 0 (by kernel_rfl)) (by kernel_rfl) (isz (n := 4) (by kernel_rfl) (by kernel_rfl)))) ?_
  refine any_val (.pointer (some ⟨g3, 4, none⟩)) (by kernel_rfl) (by kernel_rfl) (fun W => by kernel_rfl) ?_
  refine any_read (.agg (numA (z))) (by kernel_rfl) (by kernel_rfl) (fun W hR => (run_load_part 29 _ g3 4 85 _ _ _ (row_ext (row_ext r3_5 (ext_drew _)) hR) rfl (by kernel_rfl) (cat_part [numA (x)] [numA (z)] [] 4 (by kernel_rfl)) (by kernel_rfl) (isz (n := 4) (by kernel_rfl) (by kernel_rfl)))) ?_
  refine any_call (.agg (numA (s1))) 27 #[.agg (numA (x)), .agg (numA (z))] (by kernel_rfl) (by kernel_rfl) (fun W => by kernel_rfl) (fun W hR => c1 W) ?_
  refine any_new (numA (0)) 29 (by kernel_rfl) (Nat.le_refl _) (by kernel_rfl) (fun W => by kernel_rfl) ?_
  refine any_new (numA (0)) 29 (by kernel_rfl) (Nat.le_refl _) (by kernel_rfl) (fun W => by kernel_rfl) ?_
  refine steps_nil (hF _ (by kernel_rfl) fun W6 e6 => ?_)
  simp only [fins, up, List.take_succ_cons, List.take_zero, List.drop_succ_cons, List.drop_zero, List.nil_append, List.cons_append]
  intro g8 l8 r8_6 n8 g9 l9 r9_6 n9
  have b8 : w.heap.size ≤ g8 := Nat.le_trans x5.size l8
  have b9 : w.heap.size ≤ g9 := Nat.le_trans x5.size l9
  have n9_8 : g9 ≠ g8 := n9 _ (by simp)
  clear hF
  have x6 : Ext w W6 := Ext.tr x5 e6
  refine seq_store g8 _ (numA (s0)) 29 r8_6 rfl (by kernel_rfl) (run_store_row 29 _ _ g8 29 _ _ r8_6 rfl (by kernel_rfl) (by kernel_rfl) (isz (n := 4) (by kernel_rfl) (by kernel_rfl)) (eqsz (n := 4) (by kernel_rfl) (by kernel_rfl)) (by kernel_rfl)) fun W7 p7 r8_7 => ?_
  have x7 : Ext w W7 := Puts.ext p7 x6 b8
  have r9_7 := (Puts.row p7 r9_6 n9_8)
  refine seq_store g9 _ (numA (s1)) 29 r9_7 rfl (by kernel_rfl) (run_store_row 29 _ _ g9 29 _ _ r9_7 rfl (by kernel_rfl) (by kernel_rfl) (isz (n := 4) (by kernel_rfl) (by kernel_rfl)) (eqsz (n := 4) (by kernel_rfl) (by kernel_rfl)) (by kernel_rfl)) fun W8 p8 r9_8 => ?_
  have x8 : Ext w W8 := Puts.ext p8 x7 b9
  refine seq_nil ?_
  refine hK7 _ _ ?_
  try clear hK7 K7
  refine wp_seq_k fun K10 hK10 => ?_
  refine any_regionD 12 [⟨none, [(5, none)]⟩, ⟨none, [(29, some 0)]⟩, ⟨none, [(5, none)]⟩, ⟨none, [(31, some 2)]⟩, ⟨none, [(30, some 1), (32, some 3)]⟩, ⟨none, [(5, none)]⟩, ⟨none, [(34, some 5)]⟩, ⟨none, [(5, none)]⟩, ⟨none, [(36, some 7)]⟩, ⟨none, [(35, some 6), (37, some 8)]⟩, ⟨none, []⟩, ⟨none, []⟩] [10, 11] (by kernel_rfl) (by kernel_rfl) (by kernel_rfl) fun F hF => ?_
  refine any_val (.pointer (some ⟨g4, 0, none⟩)) (by kernel_rfl) (by kernel_rfl) (fun W => by kernel_rfl) ?_
  have r4_5 := (row_ext (row_ext r4_3 e4) e5)
  have r4_8 := (Puts.row p8 (Puts.row p7 (row_ext (row_ext (row_ext r4_3 e4) e5) e6) (ne_of_old r4_5 l8)) (ne_of_old r4_5 l9))
  refine any_read (.agg (numA (y))) (by kernel_rfl) (by kernel_rfl) (fun W hR => (run_load_part 29 _ g4 0 85 _ _ _ (row_ext (row_ext r4_8 (ext_drew _)) hR) rfl (by kernel_rfl) (cat_part [] [numA (y)] [numA (v)] 0 (by kernel_rfl)) (by kernel_rfl) (isz (n := 4) (by kernel_rfl) (by kernel_rfl)))) ?_
  refine any_val (.pointer (some ⟨g4, 4, none⟩)) (by kernel_rfl) (by kernel_rfl) (fun W => by kernel_rfl) ?_
  refine any_read (.agg (numA (v))) (by kernel_rfl) (by kernel_rfl) (fun W hR => (run_load_part 29 _ g4 4 85 _ _ _ (row_ext (row_ext r4_8 (ext_drew _)) hR) rfl (by kernel_rfl) (cat_part [numA (y)] [numA (v)] [] 4 (by kernel_rfl)) (by kernel_rfl) (isz (n := 4) (by kernel_rfl) (by kernel_rfl)))) ?_
  refine any_call (.agg (numA (s2))) 25 #[.agg (numA (y)), .agg (numA (v))] (by kernel_rfl) (by kernel_rfl) (fun W => by kernel_rfl) (fun W hR => c2 W) ?_
  refine any_val (.pointer (some ⟨g4, 0, none⟩)) (by kernel_rfl) (by kernel_rfl) (fun W => by kernel_rfl) ?_
  refine any_read (.agg (numA (y))) (by kernel_rfl) (by kernel_rfl) (fun W hR => (run_load_part 29 _ g4 0 85 _ _ _ (row_ext (row_ext r4_8 (ext_drew _)) hR) rfl (by kernel_rfl) (cat_part [] [numA (y)] [numA (v)] 0 (by kernel_rfl)) (by kernel_rfl) (isz (n := 4) (by kernel_rfl) (by kernel_rfl)))) ?_
  refine any_val (.pointer (some ⟨g4, 4, none⟩)) (by kernel_rfl) (by kernel_rfl) (fun W => by kernel_rfl) ?_
  refine any_read (.agg (numA (v))) (by kernel_rfl) (by kernel_rfl) (fun W hR => (run_load_part 29 _ g4 4 85 _ _ _ (row_ext (row_ext r4_8 (ext_drew _)) hR) rfl (by kernel_rfl) (cat_part [numA (y)] [numA (v)] [] 4 (by kernel_rfl)) (by kernel_rfl) (isz (n := 4) (by kernel_rfl) (by kernel_rfl)))) ?_
  refine any_call (.agg (numA (s3))) 27 #[.agg (numA (y)), .agg (numA (v))] (by kernel_rfl) (by kernel_rfl) (fun W => by kernel_rfl) (fun W hR => c3 W) ?_
  refine any_new (numA (0)) 29 (by kernel_rfl) (Nat.le_refl _) (by kernel_rfl) (fun W => by kernel_rfl) ?_
  refine any_new (numA (0)) 29 (by kernel_rfl) (Nat.le_refl _) (by kernel_rfl) (fun W => by kernel_rfl) ?_
  refine steps_nil (hF _ (by kernel_rfl) fun W9 e9 => ?_)
  simp only [fins, up, List.take_succ_cons, List.take_zero, List.drop_succ_cons, List.drop_zero, List.nil_append, List.cons_append]
  intro g11 l11 r11_9 n11 g12 l12 r12_9 n12
  have b11 : w.heap.size ≤ g11 := Nat.le_trans x8.size l11
  have b12 : w.heap.size ≤ g12 := Nat.le_trans x8.size l12
  have n12_11 : g12 ≠ g11 := n12 _ (by simp)
  clear hF
  have x9 : Ext w W9 := Ext.tr x8 e9
  refine seq_store g11 _ (numA (s2)) 29 r11_9 rfl (by kernel_rfl) (run_store_row 29 _ _ g11 29 _ _ r11_9 rfl (by kernel_rfl) (by kernel_rfl) (isz (n := 4) (by kernel_rfl) (by kernel_rfl)) (eqsz (n := 4) (by kernel_rfl) (by kernel_rfl)) (by kernel_rfl)) fun W10 p10 r11_10 => ?_
  have x10 : Ext w W10 := Puts.ext p10 x9 b11
  have r12_10 := (Puts.row p10 r12_9 n12_11)
  refine seq_store g12 _ (numA (s3)) 29 r12_10 rfl (by kernel_rfl) (run_store_row 29 _ _ g12 29 _ _ r12_10 rfl (by kernel_rfl) (by kernel_rfl) (isz (n := 4) (by kernel_rfl) (by kernel_rfl)) (eqsz (n := 4) (by kernel_rfl) (by kernel_rfl)) (by kernel_rfl)) fun W11 p11 r12_11 => ?_
  have x11 : Ext w W11 := Puts.ext p11 x10 b12
  refine seq_nil ?_
  refine hK10 _ _ ?_
  try clear hK10 K10
  refine wp_seq_k fun K13 hK13 => ?_
  refine any_regionD 8 [⟨none, [(8, none)]⟩, ⟨none, [(8, none)]⟩, ⟨none, [(39, some 0), (40, some 1)]⟩, ⟨none, [(9, none)]⟩, ⟨none, [(9, none)]⟩, ⟨none, [(42, some 3), (43, some 4)]⟩, ⟨none, []⟩, ⟨none, []⟩] [6, 7] (by kernel_rfl) (by kernel_rfl) (by kernel_rfl) fun F hF => ?_
  have r8_8 := (Puts.row p8 r8_7 (Ne.symm n9_8))
  have r8_11 := (Puts.row p11 (Puts.row p10 (row_ext (Puts.row p8 r8_7 (Ne.symm n9_8)) e9) (ne_of_old r8_8 l11)) (ne_of_old r8_8 l12))
  refine any_read (.agg (numA (s0))) (by kernel_rfl) (by kernel_rfl) (fun W hR => (run_load_row 29 _ g8 29 _ _ (row_ext (row_ext r8_11 (ext_drew _)) hR) rfl (by kernel_rfl) (by kernel_rfl) (isz (n := 4) (by kernel_rfl) (by kernel_rfl)))) ?_
  refine any_read (.agg (numA (s0))) (by kernel_rfl) (by kernel_rfl) (fun W hR => (run_load_row 29 _ g8 29 _ _ (row_ext (row_ext r8_11 (ext_drew _)) hR) rfl (by kernel_rfl) (by kernel_rfl) (isz (n := 4) (by kernel_rfl) (by kernel_rfl)))) ?_
  refine any_call (.agg (numA (s4))) 30 #[.agg (numA (s0)), .agg (numA (s0))] (by kernel_rfl) (by kernel_rfl) (fun W => by kernel_rfl) (fun W hR => c4 W) ?_
  have r9_11 := (Puts.row p11 (Puts.row p10 (row_ext r9_8 e9) (ne_of_old r9_8 l11)) (ne_of_old r9_8 l12))
  refine any_read (.agg (numA (s1))) (by kernel_rfl) (by kernel_rfl) (fun W hR => (run_load_row 29 _ g9 29 _ _ (row_ext (row_ext r9_11 (ext_drew _)) hR) rfl (by kernel_rfl) (by kernel_rfl) (isz (n := 4) (by kernel_rfl) (by kernel_rfl)))) ?_
  refine any_read (.agg (numA (s1))) (by kernel_rfl) (by kernel_rfl) (fun W hR => (run_load_row 29 _ g9 29 _ _ (row_ext (row_ext r9_11 (ext_drew _)) hR) rfl (by kernel_rfl) (by kernel_rfl) (isz (n := 4) (by kernel_rfl) (by kernel_rfl)))) ?_
  refine any_call (.agg (numA (s5))) 30 #[.agg (numA (s1)), .agg (numA (s1))] (by kernel_rfl) (by kernel_rfl) (fun W => by kernel_rfl) (fun W hR => c5 W) ?_
  refine any_new (numA (0)) 29 (by kernel_rfl) (Nat.le_refl _) (by kernel_rfl) (fun W => by kernel_rfl) ?_
  refine any_new (numA (0)) 29 (by kernel_rfl) (Nat.le_refl _) (by kernel_rfl) (fun W => by kernel_rfl) ?_
  refine steps_nil (hF _ (by kernel_rfl) fun W12 e12 => ?_)
  simp only [fins, up, List.take_succ_cons, List.take_zero, List.drop_succ_cons, List.drop_zero, List.nil_append, List.cons_append]
  intro g14 l14 r14_12 n14 g15 l15 r15_12 n15
  have b14 : w.heap.size ≤ g14 := Nat.le_trans x11.size l14
  have b15 : w.heap.size ≤ g15 := Nat.le_trans x11.size l15
  have n15_14 : g15 ≠ g14 := n15 _ (by simp)
  clear hF
  have x12 : Ext w W12 := Ext.tr x11 e12
  refine seq_store g14 _ (numA (s4)) 29 r14_12 rfl (by kernel_rfl) (run_store_row 29 _ _ g14 29 _ _ r14_12 rfl (by kernel_rfl) (by kernel_rfl) (isz (n := 4) (by kernel_rfl) (by kernel_rfl)) (eqsz (n := 4) (by kernel_rfl) (by kernel_rfl)) (by kernel_rfl)) fun W13 p13 r14_13 => ?_
  have x13 : Ext w W13 := Puts.ext p13 x12 b14
  have r15_13 := (Puts.row p13 r15_12 n15_14)
  refine seq_store g15 _ (numA (s5)) 29 r15_13 rfl (by kernel_rfl) (run_store_row 29 _ _ g15 29 _ _ r15_13 rfl (by kernel_rfl) (by kernel_rfl) (isz (n := 4) (by kernel_rfl) (by kernel_rfl)) (eqsz (n := 4) (by kernel_rfl) (by kernel_rfl)) (by kernel_rfl)) fun W14 p14 r15_14 => ?_
  have x14 : Ext w W14 := Puts.ext p14 x13 b15
  refine seq_nil ?_
  refine hK13 _ _ ?_
  try clear hK13 K13
  refine wp_seq_k fun K16 hK16 => ?_
  refine region_lit ?_
  have r14_14 := (Puts.row p14 r14_13 (Ne.symm n15_14))
  refine seq_val (.agg (numA (s4))) 45 rfl (by kernel_rfl) (run_load_row 29 _ g14 29 _ _ r14_14 rfl (by kernel_rfl) (by kernel_rfl) (isz (n := 4) (by kernel_rfl) (by kernel_rfl))) ?_
  refine seq_val (.agg (numA (s5))) 46 rfl (by kernel_rfl) (run_load_row 29 _ g15 29 _ _ r15_14 rfl (by kernel_rfl) (by kernel_rfl) (isz (n := 4) (by kernel_rfl) (by kernel_rfl))) ?_
  refine seq_call (.agg (numA (s6))) 27 #[.agg (numA (s4)), .agg (numA (s5))] 47 rfl (by kernel_rfl) (by kernel_rfl) (c6 _) fun W15 e15 => ?_
  have x15 : Ext w W15 := Ext.tr x14 e15
  refine seq_alloc (numA (0)) 29 14 rfl (by kernel_rfl) (by kernel_rfl) fun g17 W16 l17 e16 r17_16 => ?_
  have x16 : Ext w W16 := Ext.tr x15 e16
  have b17 : w.heap.size ≤ g17 := Nat.le_trans x15.size l17
  refine seq_store g17 _ (numA (s6)) 29 r17_16 rfl (by kernel_rfl) (run_store_row 29 _ _ g17 29 _ _ r17_16 rfl (by kernel_rfl) (by kernel_rfl) (isz (n := 4) (by kernel_rfl) (by kernel_rfl)) (eqsz (n := 4) (by kernel_rfl) (by kernel_rfl)) (by kernel_rfl)) fun W17 p17 r17_17 => ?_
  have x17 : Ext w W17 := Puts.ext p17 x16 b17
  refine seq_nil ?_
  refine hK16 _ _ ?_
  try clear hK16 K16
  refine wp_seq_k fun K18 hK18 => ?_
  refine any_regionD 8 [⟨none, [(11, none)]⟩, ⟨none, [(8, none)]⟩, ⟨none, [(48, some 0), (49, some 1)]⟩, ⟨none, [(10, none)]⟩, ⟨none, [(9, none)]⟩, ⟨none, [(51, some 3), (52, some 4)]⟩, ⟨none, []⟩, ⟨none, []⟩] [6, 7] (by kernel_rfl) (by kernel_rfl) (by kernel_rfl) fun F hF => ?_
  have r12_15 := (row_ext (Puts.row p14 (Puts.row p13 (row_ext r12_11 e12) (ne_of_old r12_11 l14)) (ne_of_old r12_11 l15)) e15)
  have r12_17 := (Puts.row p17 (row_ext (row_ext (Puts.row p14 (Puts.row p13 (row_ext r12_11 e12) (ne_of_old r12_11 l14)) (ne_of_old r12_11 l15)) e15) e16) (ne_of_old r12_15 l17))
  refine any_read (.agg (numA (s3))) (by kernel_rfl) (by kernel_rfl) (fun W hR => (run_load_row 29 _ g12 29 _ _ (row_ext (row_ext r12_17 (ext_drew _)) hR) rfl (by kernel_rfl) (by kernel_rfl) (isz (n := 4) (by kernel_rfl) (by kernel_rfl)))) ?_
  have r8_15 := (row_ext (Puts.row p14 (Puts.row p13 (row_ext r8_11 e12) (ne_of_old r8_11 l14)) (ne_of_old r8_11 l15)) e15)
  have r8_17 := (Puts.row p17 (row_ext (row_ext (Puts.row p14 (Puts.row p13 (row_ext r8_11 e12) (ne_of_old r8_11 l14)) (ne_of_old r8_11 l15)) e15) e16) (ne_of_old r8_15 l17))
  refine any_read (.agg (numA (s0))) (by kernel_rfl) (by kernel_rfl) (fun W hR => (run_load_row 29 _ g8 29 _ _ (row_ext (row_ext r8_17 (ext_drew _)) hR) rfl (by kernel_rfl) (by kernel_rfl) (isz (n := 4) (by kernel_rfl) (by kernel_rfl)))) ?_
  refine any_call (.agg (numA (s7))) 30 #[.agg (numA (s3)), .agg (numA (s0))] (by kernel_rfl) (by kernel_rfl) (fun W => by kernel_rfl) (fun W hR => c7 W) ?_
  have r11_11 := (Puts.row p11 r11_10 (Ne.symm n12_11))
  have r11_15 := (row_ext (Puts.row p14 (Puts.row p13 (row_ext r11_11 e12) (ne_of_old r11_11 l14)) (ne_of_old r11_11 l15)) e15)
  have r11_17 := (Puts.row p17 (row_ext (row_ext (Puts.row p14 (Puts.row p13 (row_ext (Puts.row p11 r11_10 (Ne.symm n12_11)) e12) (ne_of_old r11_11 l14)) (ne_of_old r11_11 l15)) e15) e16) (ne_of_old r11_15 l17))
  refine any_read (.agg (numA (s2))) (by kernel_rfl) (by kernel_rfl) (fun W hR => (run_load_row 29 _ g11 29 _ _ (row_ext (row_ext r11_17 (ext_drew _)) hR) rfl (by kernel_rfl) (by kernel_rfl) (isz (n := 4) (by kernel_rfl) (by kernel_rfl)))) ?_
  have r9_15 := (row_ext (Puts.row p14 (Puts.row p13 (row_ext r9_11 e12) (ne_of_old r9_11 l14)) (ne_of_old r9_11 l15)) e15)
  have r9_17 := (Puts.row p17 (row_ext (row_ext (Puts.row p14 (Puts.row p13 (row_ext r9_11 e12) (ne_of_old r9_11 l14)) (ne_of_old r9_11 l15)) e15) e16) (ne_of_old r9_15 l17))
  refine any_read (.agg (numA (s1))) (by kernel_rfl) (by kernel_rfl) (fun W hR => (run_load_row 29 _ g9 29 _ _ (row_ext (row_ext r9_17 (ext_drew _)) hR) rfl (by kernel_rfl) (by kernel_rfl) (isz (n := 4) (by kernel_rfl) (by kernel_rfl)))) ?_
  refine any_call (.agg (numA (s8))) 30 #[.agg (numA (s2)), .agg (numA (s1))] (by kernel_rfl) (by kernel_rfl) (fun W => by kernel_rfl) (fun W hR => c8 W) ?_
  refine any_new (numA (0)) 29 (by kernel_rfl) (Nat.le_refl _) (by kernel_rfl) (fun W => by kernel_rfl) ?_
  refine any_new (numA (0)) 29 (by kernel_rfl) (Nat.le_refl _) (by kernel_rfl) (fun W => by kernel_rfl) ?_
  refine steps_nil (hF _ (by kernel_rfl) fun W18 e18 => ?_)
  simp only [fins, up, List.take_succ_cons, List.take_zero, List.drop_succ_cons, List.drop_zero, List.nil_append, List.cons_append]
  intro g19 l19 r19_18 n19 g20 l20 r20_18 n20
  have b19 : w.heap.size ≤ g19 := Nat.le_trans x17.size l19
  have b20 : w.heap.size ≤ g20 := Nat.le_trans x17.size l20
  have n20_19 : g20 ≠ g19 := n20 _ (by simp)
  clear hF
  have x18 : Ext w W18 := Ext.tr x17 e18
  refine seq_store g19 _ (numA (s7)) 29 r19_18 rfl (by kernel_rfl) (run_store_row 29 _ _ g19 29 _ _ r19_18 rfl (by kernel_rfl) (by kernel_rfl) (isz (n := 4) (by kernel_rfl) (by kernel_rfl)) (eqsz (n := 4) (by kernel_rfl) (by kernel_rfl)) (by kernel_rfl)) fun W19 p19 r19_19 => ?_
  have x19 : Ext w W19 := Puts.ext p19 x18 b19
  have r20_19 := (Puts.row p19 r20_18 n20_19)
  refine seq_store g20 _ (numA (s8)) 29 r20_19 rfl (by kernel_rfl) (run_store_row 29 _ _ g20 29 _ _ r20_19 rfl (by kernel_rfl) (by kernel_rfl) (isz (n := 4) (by kernel_rfl) (by kernel_rfl)) (eqsz (n := 4) (by kernel_rfl) (by kernel_rfl)) (by kernel_rfl)) fun W20 p20 r20_20 => ?_
  have x20 : Ext w W20 := Puts.ext p20 x19 b20
  refine seq_nil ?_
  refine hK18 _ _ ?_
  try clear hK18 K18
  refine wp_seq_k fun K21 hK21 => ?_
  refine any_regionD 8 [⟨none, [(15, none)]⟩, ⟨none, [(16, none)]⟩, ⟨none, [(54, some 0), (55, some 1)]⟩, ⟨none, [(15, none)]⟩, ⟨none, [(16, none)]⟩, ⟨none, [(57, some 3), (58, some 4)]⟩, ⟨none, []⟩, ⟨none, []⟩] [6, 7] (by kernel_rfl) (by kernel_rfl) (by kernel_rfl) fun F hF => ?_
  have r19_20 := (Puts.row p20 r19_19 (Ne.symm n20_19))
  refine any_read (.agg (numA (s7))) (by kernel_rfl) (by kernel_rfl) (fun W hR => (run_load_row 29 _ g19 29 _ _ (row_ext (row_ext r19_20 (ext_drew _)) hR) rfl (by kernel_rfl) (by kernel_rfl) (isz (n := 4) (by kernel_rfl) (by kernel_rfl)))) ?_
  refine any_read (.agg (numA (s8))) (by kernel_rfl) (by kernel_rfl) (fun W hR => (run_load_row 29 _ g20 29 _ _ (row_ext (row_ext r20_20 (ext_drew _)) hR) rfl (by kernel_rfl) (by kernel_rfl) (isz (n := 4) (by kernel_rfl) (by kernel_rfl)))) ?_
  refine any_call (.agg (numA (s9))) 25 #[.agg (numA (s7)), .agg (numA (s8))] (by kernel_rfl) (by kernel_rfl) (fun W => by kernel_rfl) (fun W hR => c9 W) ?_
  refine any_read (.agg (numA (s7))) (by kernel_rfl) (by kernel_rfl) (fun W hR => (run_load_row 29 _ g19 29 _ _ (row_ext (row_ext r19_20 (ext_drew _)) hR) rfl (by kernel_rfl) (by kernel_rfl) (isz (n := 4) (by kernel_rfl) (by kernel_rfl)))) ?_
  refine any_read (.agg (numA (s8))) (by kernel_rfl) (by kernel_rfl) (fun W hR => (run_load_row 29 _ g20 29 _ _ (row_ext (row_ext r20_20 (ext_drew _)) hR) rfl (by kernel_rfl) (by kernel_rfl) (isz (n := 4) (by kernel_rfl) (by kernel_rfl)))) ?_
  refine any_call (.agg (numA (s10))) 27 #[.agg (numA (s7)), .agg (numA (s8))] (by kernel_rfl) (by kernel_rfl) (fun W => by kernel_rfl) (fun W hR => c10 W) ?_
  refine any_new (numA (0)) 29 (by kernel_rfl) (Nat.le_refl _) (by kernel_rfl) (fun W => by kernel_rfl) ?_
  refine any_new (numA (0)) 29 (by kernel_rfl) (Nat.le_refl _) (by kernel_rfl) (fun W => by kernel_rfl) ?_
  refine steps_nil (hF _ (by kernel_rfl) fun W21 e21 => ?_)
  simp only [fins, up, List.take_succ_cons, List.take_zero, List.drop_succ_cons, List.drop_zero, List.nil_append, List.cons_append]
  intro g22 l22 r22_21 n22 g23 l23 r23_21 n23
  have b22 : w.heap.size ≤ g22 := Nat.le_trans x20.size l22
  have b23 : w.heap.size ≤ g23 := Nat.le_trans x20.size l23
  have n23_22 : g23 ≠ g22 := n23 _ (by simp)
  clear hF
  have x21 : Ext w W21 := Ext.tr x20 e21
  refine seq_store g22 _ (numA (s9)) 29 r22_21 rfl (by kernel_rfl) (run_store_row 29 _ _ g22 29 _ _ r22_21 rfl (by kernel_rfl) (by kernel_rfl) (isz (n := 4) (by kernel_rfl) (by kernel_rfl)) (eqsz (n := 4) (by kernel_rfl) (by kernel_rfl)) (by kernel_rfl)) fun W22 p22 r22_22 => ?_
  have x22 : Ext w W22 := Puts.ext p22 x21 b22
  have r23_22 := (Puts.row p22 r23_21 n23_22)
  refine seq_store g23 _ (numA (s10)) 29 r23_22 rfl (by kernel_rfl) (run_store_row 29 _ _ g23 29 _ _ r23_22 rfl (by kernel_rfl) (by kernel_rfl) (isz (n := 4) (by kernel_rfl) (by kernel_rfl)) (eqsz (n := 4) (by kernel_rfl) (by kernel_rfl)) (by kernel_rfl)) fun W23 p23 r23_23 => ?_
  have x23 : Ext w W23 := Puts.ext p23 x22 b23
  refine seq_nil ?_
  refine hK21 _ _ ?_
  try clear hK21 K21
  refine wp_seq_k fun K24 hK24 => ?_
  refine any_regionT (fun W => True) [⟨none, [(12, none)]⟩, ⟨none, [(13, none)]⟩, ⟨none, [(60, some 0), (61, some 1)]⟩, ⟨none, [(14, none)]⟩, ⟨none, [(12, none)]⟩, ⟨none, [(14, none)]⟩, ⟨none, []⟩, ⟨none, [(65, some 5), (66, some 6)]⟩, ⟨none, [(64, some 4), (67, some 7)]⟩, ⟨none, [(63, some 3), (68, some 8)]⟩, ⟨none, [(62, some 2), (69, some 9)]⟩, ⟨none, [(17, none)]⟩, ⟨none, [(17, none)]⟩, ⟨none, [(71, some 11), (72, some 12)]⟩, ⟨none, [(3, none)]⟩, ⟨none, [(18, none)]⟩, ⟨none, [(18, none)]⟩, ⟨none, [(75, some 15), (76, some 16)]⟩, ⟨none, [(74, some 14), (77, some 17)]⟩, ⟨none, [(73, some 13), (78, some 18)]⟩, ⟨none, [(6, none), (70, some 10)]⟩, ⟨none, [(7, none), (79, some 19)]⟩] [] [19] (by kernel_rfl) (by kernel_rfl) (by kernel_rfl) (fun W hR => trivial) fun F hF => ?_
  have r14_15 := (row_ext r14_14 e15)
  have r14_17 := (Puts.row p17 (row_ext r14_15 e16) (ne_of_old r14_15 l17))
  have r14_20 := (Puts.row p20 (Puts.row p19 (row_ext r14_17 e18) (ne_of_old r14_17 l19)) (ne_of_old r14_17 l20))
  have r14_23 := (Puts.row p23 (Puts.row p22 (row_ext (Puts.row p20 (Puts.row p19 (row_ext (Puts.row p17 (row_ext (row_ext r14_14 e15) e16) (ne_of_old r14_15 l17)) e18) (ne_of_old r14_17 l19)) (ne_of_old r14_17 l20)) e21) (ne_of_old r14_20 l22)) (ne_of_old r14_20 l23))
  refine t_read (.agg (numA (s4))) (by kernel_rfl) (by kernel_rfl) (by kernel_rfl) rfl (fun W hR => (run_load_row 29 _ g14 29 _ _ (row_ext (row_ext r14_23 (ext_drew _)) hR) rfl (by kernel_rfl) (by kernel_rfl) (isz (n := 4) (by kernel_rfl) (by kernel_rfl)))) ?_
  have r15_15 := (row_ext r15_14 e15)
  have r15_17 := (Puts.row p17 (row_ext r15_15 e16) (ne_of_old r15_15 l17))
  have r15_20 := (Puts.row p20 (Puts.row p19 (row_ext r15_17 e18) (ne_of_old r15_17 l19)) (ne_of_old r15_17 l20))
  have r15_23 := (Puts.row p23 (Puts.row p22 (row_ext (Puts.row p20 (Puts.row p19 (row_ext (Puts.row p17 (row_ext (row_ext r15_14 e15) e16) (ne_of_old r15_15 l17)) e18) (ne_of_old r15_17 l19)) (ne_of_old r15_17 l20)) e21) (ne_of_old r15_20 l22)) (ne_of_old r15_20 l23))
  refine t_read (.agg (numA (s5))) (by kernel_rfl) (by kernel_rfl) (by kernel_rfl) rfl (fun W hR => (run_load_row 29 _ g15 29 _ _ (row_ext (row_ext r15_23 (ext_drew _)) hR) rfl (by kernel_rfl) (by kernel_rfl) (isz (n := 4) (by kernel_rfl) (by kernel_rfl)))) ?_
  refine t_call (.agg (numA (s11))) 30 #[.agg (numA (s4)), .agg (numA (s5))] (by kernel_rfl) (by kernel_rfl) (by kernel_rfl) rfl (fun W => by kernel_rfl) (fun W hR => c11 W) ?_
  have r17_20 := (Puts.row p20 (Puts.row p19 (row_ext r17_17 e18) (ne_of_old r17_17 l19)) (ne_of_old r17_17 l20))
  have r17_23 := (Puts.row p23 (Puts.row p22 (row_ext (Puts.row p20 (Puts.row p19 (row_ext r17_17 e18) (ne_of_old r17_17 l19)) (ne_of_old r17_17 l20)) e21) (ne_of_old r17_20 l22)) (ne_of_old r17_20 l23))
  refine t_read (.agg (numA (s6))) (by kernel_rfl) (by kernel_rfl) (by kernel_rfl) rfl (fun W hR => (run_load_row 29 _ g17 29 _ _ (row_ext (row_ext r17_23 (ext_drew _)) hR) rfl (by kernel_rfl) (by kernel_rfl) (isz (n := 4) (by kernel_rfl) (by kernel_rfl)))) ?_
  refine t_read (.agg (numA (s4))) (by kernel_rfl) (by kernel_rfl) (by kernel_rfl) rfl (fun W hR => (run_load_row 29 _ g14 29 _ _ (row_ext (row_ext r14_23 (ext_drew _)) hR) rfl (by kernel_rfl) (by kernel_rfl) (isz (n := 4) (by kernel_rfl) (by kernel_rfl)))) ?_
  refine t_read (.agg (numA (s6))) (by kernel_rfl) (by kernel_rfl) (by kernel_rfl) rfl (fun W hR => (run_load_row 29 _ g17 29 _ _ (row_ext (row_ext r17_23 (ext_drew _)) hR) rfl (by kernel_rfl) (by kernel_rfl) (isz (n := 4) (by kernel_rfl) (by kernel_rfl)))) ?_
  refine t_call (.agg (numA (121665))) 22 #[.int .i64 121665] (by kernel_rfl) (by kernel_rfl) (by kernel_rfl) rfl (fun W => by kernel_rfl) (fun W hR => ck W) ?_
  refine t_call (.agg (numA (s12))) 30 #[.agg (numA (s6)), .agg (numA (121665))] (by kernel_rfl) (by kernel_rfl) (by kernel_rfl) rfl (fun W => by kernel_rfl) (fun W hR => c12 W) ?_
  refine t_call (.agg (numA (s13))) 25 #[.agg (numA (s4)), .agg (numA (s12))] (by kernel_rfl) (by kernel_rfl) (by kernel_rfl) rfl (fun W => by kernel_rfl) (fun W hR => c13 W) ?_
  refine t_call (.agg (numA (s14))) 30 #[.agg (numA (s6)), .agg (numA (s13))] (by kernel_rfl) (by kernel_rfl) (by kernel_rfl) rfl (fun W => by kernel_rfl) (fun W hR => c14 W) ?_
  refine t_val (.agg (cat [numA (s11), numA (s14)])) (by kernel_rfl) (by kernel_rfl) rfl (fun W => by kernel_rfl) ?_
  have r22_23 := (Puts.row p23 r22_22 (Ne.symm n23_22))
  refine t_read (.agg (numA (s9))) (by kernel_rfl) (by kernel_rfl) (by kernel_rfl) rfl (fun W hR => (run_load_row 29 _ g22 29 _ _ (row_ext (row_ext r22_23 (ext_drew _)) hR) rfl (by kernel_rfl) (by kernel_rfl) (isz (n := 4) (by kernel_rfl) (by kernel_rfl)))) ?_
  refine t_read (.agg (numA (s9))) (by kernel_rfl) (by kernel_rfl) (by kernel_rfl) rfl (fun W hR => (run_load_row 29 _ g22 29 _ _ (row_ext (row_ext r22_23 (ext_drew _)) hR) rfl (by kernel_rfl) (by kernel_rfl) (isz (n := 4) (by kernel_rfl) (by kernel_rfl)))) ?_
  refine t_call (.agg (numA (s15))) 30 #[.agg (numA (s9)), .agg (numA (s9))] (by kernel_rfl) (by kernel_rfl) (by kernel_rfl) rfl (fun W => by kernel_rfl) (fun W hR => c15 W) ?_
  have r2_5 := (row_ext (row_ext (row_ext (row_ext r2_1 e2) e3) e4) e5)
  have r2_8 := (Puts.row p8 (Puts.row p7 (row_ext r2_5 e6) (ne_of_old r2_5 l8)) (ne_of_old r2_5 l9))
  have r2_11 := (Puts.row p11 (Puts.row p10 (row_ext r2_8 e9) (ne_of_old r2_8 l11)) (ne_of_old r2_8 l12))
  have r2_15 := (row_ext (Puts.row p14 (Puts.row p13 (row_ext r2_11 e12) (ne_of_old r2_11 l14)) (ne_of_old r2_11 l15)) e15)
  have r2_17 := (Puts.row p17 (row_ext r2_15 e16) (ne_of_old r2_15 l17))
  have r2_20 := (Puts.row p20 (Puts.row p19 (row_ext r2_17 e18) (ne_of_old r2_17 l19)) (ne_of_old r2_17 l20))
  have r2_23 := (Puts.row p23 (Puts.row p22 (row_ext (Puts.row p20 (Puts.row p19 (row_ext (Puts.row p17 (row_ext (row_ext (Puts.row p14 (Puts.row p13 (row_ext (Puts.row p11 (Puts.row p10 (row_ext (Puts.row p8 (Puts.row p7 (row_ext (row_ext (row_ext (row_ext (row_ext r2_1 e2) e3) e4) e5) e6) (ne_of_old r2_5 l8)) (ne_of_old r2_5 l9)) e9) (ne_of_old r2_8 l11)) (ne_of_old r2_8 l12)) e12) (ne_of_old r2_11 l14)) (ne_of_old r2_11 l15)) e15) e16) (ne_of_old r2_15 l17)) e18) (ne_of_old r2_17 l19)) (ne_of_old r2_17 l20)) e21) (ne_of_old r2_20 l22)) (ne_of_old r2_20 l23))
  refine t_read (.agg (numA (u))) (by kernel_rfl) (by kernel_rfl) (by kernel_rfl) rfl (fun W hR => (run_load_row 29 _ g2 29 _ _ (row_ext (row_ext r2_23 (ext_drew _)) hR) rfl (by kernel_rfl) (by kernel_rfl) (isz (n := 4) (by kernel_rfl) (by kernel_rfl)))) ?_
  refine t_read (.agg (numA (s10))) (by kernel_rfl) (by kernel_rfl) (by kernel_rfl) rfl (fun W hR => (run_load_row 29 _ g23 29 _ _ (row_ext (row_ext r23_23 (ext_drew _)) hR) rfl (by kernel_rfl) (by kernel_rfl) (isz (n := 4) (by kernel_rfl) (by kernel_rfl)))) ?_
  refine t_read (.agg (numA (s10))) (by kernel_rfl) (by kernel_rfl) (by kernel_rfl) rfl (fun W hR => (run_load_row 29 _ g23 29 _ _ (row_ext (row_ext r23_23 (ext_drew _)) hR) rfl (by kernel_rfl) (by kernel_rfl) (isz (n := 4) (by kernel_rfl) (by kernel_rfl)))) ?_
  refine t_call (.agg (numA (s16))) 30 #[.agg (numA (s10)), .agg (numA (s10))] (by kernel_rfl) (by kernel_rfl) (by kernel_rfl) rfl (fun W => by kernel_rfl) (fun W hR => c16 W) ?_
  refine t_call (.agg (numA (s17))) 30 #[.agg (numA (u)), .agg (numA (s16))] (by kernel_rfl) (by kernel_rfl) (by kernel_rfl) rfl (fun W => by kernel_rfl) (fun W hR => c17 W) ?_
  refine t_val (.agg (cat [numA (s15), numA (s17)])) (by kernel_rfl) (by kernel_rfl) rfl (fun W => by kernel_rfl) ?_
  refine t_store rfl ?_
  refine t_store rfl ?_
  refine t_nil (hF _ (by kernel_rfl) fun W24 e24 => ?_)
  simp only [List.nil_append, List.cons_append, fins, up]
  clear hF
  have x24 : Ext w W24 := Ext.tr x23 e24
  have r5_5 := (row_ext r5_4 e5)
  have r5_8 := (Puts.row p8 (Puts.row p7 (row_ext r5_5 e6) (ne_of_old r5_5 l8)) (ne_of_old r5_5 l9))
  have r5_11 := (Puts.row p11 (Puts.row p10 (row_ext r5_8 e9) (ne_of_old r5_8 l11)) (ne_of_old r5_8 l12))
  have r5_15 := (row_ext (Puts.row p14 (Puts.row p13 (row_ext r5_11 e12) (ne_of_old r5_11 l14)) (ne_of_old r5_11 l15)) e15)
  have r5_17 := (Puts.row p17 (row_ext r5_15 e16) (ne_of_old r5_15 l17))
  have r5_20 := (Puts.row p20 (Puts.row p19 (row_ext r5_17 e18) (ne_of_old r5_17 l19)) (ne_of_old r5_17 l20))
  have r5_24 := (row_ext (Puts.row p23 (Puts.row p22 (row_ext (Puts.row p20 (Puts.row p19 (row_ext (Puts.row p17 (row_ext (row_ext (Puts.row p14 (Puts.row p13 (row_ext (Puts.row p11 (Puts.row p10 (row_ext (Puts.row p8 (Puts.row p7 (row_ext (row_ext r5_4 e5) e6) (ne_of_old r5_5 l8)) (ne_of_old r5_5 l9)) e9) (ne_of_old r5_8 l11)) (ne_of_old r5_8 l12)) e12) (ne_of_old r5_11 l14)) (ne_of_old r5_11 l15)) e15) e16) (ne_of_old r5_15 l17)) e18) (ne_of_old r5_17 l19)) (ne_of_old r5_17 l20)) e21) (ne_of_old r5_20 l22)) (ne_of_old r5_20 l23)) e24)
  refine te_store _ g5 _ (cat [numA (s11), numA (s14)]) 85 r5_24 rfl (run_store_row 85 _ _ g5 85 _ _ r5_24 rfl (by kernel_rfl) (by kernel_rfl) (isz (n := 8) (by kernel_rfl) (by kernel_rfl)) (eqsz (n := 8) (by kernel_rfl) (by kernel_rfl)) (by kernel_rfl)) (fun W hp => trivial) fun W25 p25 r5_25 => ?_
  have x25 : Ext w W25 := Puts.ext p25 x24 b5
  have r6_8 := (Puts.row p8 (Puts.row p7 (row_ext r6_5 e6) (ne_of_old r6_5 l8)) (ne_of_old r6_5 l9))
  have r6_11 := (Puts.row p11 (Puts.row p10 (row_ext r6_8 e9) (ne_of_old r6_8 l11)) (ne_of_old r6_8 l12))
  have r6_15 := (row_ext (Puts.row p14 (Puts.row p13 (row_ext r6_11 e12) (ne_of_old r6_11 l14)) (ne_of_old r6_11 l15)) e15)
  have r6_17 := (Puts.row p17 (row_ext r6_15 e16) (ne_of_old r6_15 l17))
  have r6_20 := (Puts.row p20 (Puts.row p19 (row_ext r6_17 e18) (ne_of_old r6_17 l19)) (ne_of_old r6_17 l20))
  have r6_25 := (Puts.row p25 (row_ext (Puts.row p23 (Puts.row p22 (row_ext (Puts.row p20 (Puts.row p19 (row_ext (Puts.row p17 (row_ext (row_ext (Puts.row p14 (Puts.row p13 (row_ext (Puts.row p11 (Puts.row p10 (row_ext (Puts.row p8 (Puts.row p7 (row_ext r6_5 e6) (ne_of_old r6_5 l8)) (ne_of_old r6_5 l9)) e9) (ne_of_old r6_8 l11)) (ne_of_old r6_8 l12)) e12) (ne_of_old r6_11 l14)) (ne_of_old r6_11 l15)) e15) e16) (ne_of_old r6_15 l17)) e18) (ne_of_old r6_17 l19)) (ne_of_old r6_17 l20)) e21) (ne_of_old r6_20 l22)) (ne_of_old r6_20 l23)) e24) (ne_of_new r5_4 l6))
  refine te_store _ g6 _ (cat [numA (s15), numA (s17)]) 85 r6_25 rfl (run_store_row 85 _ _ g6 85 _ _ r6_25 rfl (by kernel_rfl) (by kernel_rfl) (isz (n := 8) (by kernel_rfl) (by kernel_rfl)) (eqsz (n := 8) (by kernel_rfl) (by kernel_rfl)) (by kernel_rfl)) (fun W hp => trivial) fun W26 p26 r6_26 => ?_
  have x26 : Ext w W26 := Puts.ext p26 x25 b6
  refine te_nil ?_
  refine hK24 _ _ ?_
  try clear hK24 K24
  refine wp_ret ?_
  have r5_26 := (Puts.row p26 r5_25 (ne_of_old r5_4 l6))
  exact (show bodyPost _ _ _ .ret _ _ from ret2 (.agg (cat [numA (s11), numA (s14)])) (.agg (cat [numA (s15), numA (s17)])) rfl (res_cell g5 85 _ r5_26 (by kernel_rfl) (by kernel_rfl) (isz (n := 8) (by kernel_rfl) (by kernel_rfl))) (res_cell g6 85 _ r6_26 (by kernel_rfl) (by kernel_rfl) (isz (n := 8) (by kernel_rfl) (by kernel_rfl))) ⟨rfl, x26⟩)
end Go.Proofs.Ytaojnmjmmfdfjaa.Field
