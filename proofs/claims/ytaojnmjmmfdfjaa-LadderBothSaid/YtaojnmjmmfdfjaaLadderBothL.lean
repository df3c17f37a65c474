/- The walk of the law LadderBoth. -/
import Derived.Test.YtaojnmjmmfdfjaaAutoT
import Derived.Test.YtaojnmjmmfdfjaaClamp
import Derived.Test.YtaojnmjmmfdfjaaLadFn
import Derived.Test.YtaojnmjmmfdfjaaLadAll
namespace Go.Proofs.Ytaojnmjmmfdfjaa.Field
open Go Go.RowKit
open Go.Proofs.Ytaojnmjmmfdfjaa.Rely Go.Proofs.Ytaojnmjmmfdfjaa.Auto Go.Proofs.Ytaojnmjmmfdfjaa.Ladder
set_option linter.unusedVariables false

set_option maxHeartbeats 2000000 in
theorem bothLaw (xs ys : List Int) (hx : xs.length = 32) (hy : ys.length = 32) (hb : AreBytes xs) (hc : AreBytes ys) (w : World) : Calls Try.prog 15 #[.agg (ints .u8 xs), .agg (ints .u8 ys)] w fun e w' => e = .returned (.bool true) ∧ Below w.heap.size w w' := by
  have h1 := both_eq hx hb hy hc
  have h2 := both_eq hy hc hx hb
  refine enter 36 [(0, .agg (ints .u8 (xs))), (1, .agg (ints .u8 (ys)))] Try.func15 rfl rfl (by kernel_rfl) rfl ?_
  refine wp_seq_k fun K1 hK1 => ?_
  refine region_lit ?_
  refine seq_alloc (ints .u8 (xs)) 23 2 rfl (by kernel_rfl) (by kernel_rfl) fun g2 W1 l2 e1 r2_1 => ?_
  have x1 : Ext w W1 := Ext.tr (Rely.Ext.refl w) e1
  have b2 : w.heap.size ≤ g2 := Nat.le_trans (Rely.Ext.refl w).size l2
  refine seq_alloc (ints .u8 (ys)) 23 3 rfl (by kernel_rfl) (by kernel_rfl) fun g3 W2 l3 e2 r3_2 => ?_
  have x2 : Ext w W2 := Ext.tr x1 e2
  have b3 : w.heap.size ≤ g3 := Nat.le_trans x1.size l3
  refine seq_val (.bool false) 4 rfl (by kernel_rfl) (by kernel_rfl) ?_
  refine seq_nil ?_
  refine hK1 _ _ ?_
  try clear hK1 K1
  refine wp_seq_k fun K4 hK4 => ?_
  refine wp_seq_k fun K5 hK5 => ?_
  refine region_lit ?_
  refine seq_call (.bool true) 42 #[] 9 rfl (by kernel_rfl) (by kernel_rfl) (alive6 _) fun W3 e3 => ?_
  have x3 : Ext w W3 := Ext.tr x2 e3
  refine seq_val (.bool false) 10 rfl (by kernel_rfl) (by kernel_rfl) ?_
  refine seq_nil ?_
  refine hK5 _ _ ?_
  try clear hK5 K5
  refine cond_false (by kernel_rfl) ?_
  refine wp_skip ?_
  refine hK4 _ _ ?_
  try clear hK4 K4
  refine wp_seq_k fun K6 hK6 => ?_
  refine any_regionT (fun W => True) [⟨none, [(2, none)]⟩, ⟨none, [(3, none)]⟩, ⟨none, [(13, some 1)]⟩, ⟨none, [(12, some 0), (14, some 2)]⟩, ⟨none, [(15, some 3)]⟩, ⟨none, [(11, some 4)]⟩, ⟨none, [(11, some 4)]⟩, ⟨none, []⟩, ⟨none, [(5, some 7), (16, some 5)]⟩, ⟨none, [(17, some 6)]⟩] [7] [6, 9] (by kernel_rfl) (by kernel_rfl) (by kernel_rfl) (fun W hR => trivial) fun F hF => ?_
  have r2_3 := (row_ext (row_ext r2_1 e2) e3)
  refine t_read (.agg (ints .u8 (xs))) (by kernel_rfl) (by kernel_rfl) (by kernel_rfl) rfl (fun W hR => (run_load_row 23 _ g2 23 _ _ (row_ext (row_ext r2_3 (ext_drew _)) hR) rfl (by kernel_rfl) (by kernel_rfl) (isz (n := 32) (by kernel_rfl) ((ints_size _ _).trans hx)))) ?_
  have r3_3 := (row_ext r3_2 e3)
  refine t_read (.agg (ints .u8 (ys))) (by kernel_rfl) (by kernel_rfl) (by kernel_rfl) rfl (fun W hR => (run_load_row 23 _ g3 23 _ _ (row_ext (row_ext r3_3 (ext_drew _)) hR) rfl (by kernel_rfl) (by kernel_rfl) (isz (n := 32) (by kernel_rfl) ((ints_size _ _).trans hy)))) ?_
  refine t_call (.agg (ints .u8 (pubL ys))) 43 #[.agg (ints .u8 (ys))] (by kernel_rfl) (by kernel_rfl) (by kernel_rfl) rfl (fun W => by kernel_rfl) (fun W hR => (public_ ys hy hc) W) ?_
  refine t_call (.tuple #[.agg (ints .u8 (bytesOf (agN xs (pubL ys)))), .nilIface]) 45 #[.agg (ints .u8 (xs)), .agg (ints .u8 (pubL ys))] (by kernel_rfl) (by kernel_rfl) (by kernel_rfl) rfl (fun W => by kernel_rfl) (fun W hR => (agree_0 xs (pubL ys) hx hb (pubL_len ys) (bytesOf_areBytes _) h1.2) W) ?_
  refine t_val (.tuple #[.agg (ints .u8 (bytesOf (agN xs (pubL ys)))), .nilIface]) (by kernel_rfl) (by kernel_rfl) rfl (fun W => by kernel_rfl) ?_
  refine t_val (.agg (ints .u8 (bytesOf (agN xs (pubL ys))))) (by kernel_rfl) (by kernel_rfl) rfl (fun W => by kernel_rfl) ?_
  refine t_val (.nilIface) (by kernel_rfl) (by kernel_rfl) rfl (fun W => by kernel_rfl) ?_
  refine t_new (ints .u8 (List.replicate 32 0)) 23 (by kernel_rfl) (by kernel_rfl) (Nat.le_refl _) (by kernel_rfl) rfl (fun W => by kernel_rfl) ?_
  refine t_store rfl ?_
  refine t_val (.nilIface) (by kernel_rfl) (by kernel_rfl) rfl (fun W => by kernel_rfl) ?_
  refine t_nil (hF _ (by kernel_rfl) fun W4 e4 => ?_)
  simp only [List.nil_append, List.cons_append, fins, up]
  intro g7 l7 r7_4 n7
  have b7 : w.heap.size ≤ g7 := Nat.le_trans x3.size l7
  clear hF
  have x4 : Ext w W4 := Ext.tr x3 e4
  refine te_store _ g7 _ (ints .u8 (bytesOf (agN xs (pubL ys)))) 23 r7_4 rfl (run_store_row 23 _ _ g7 23 _ _ r7_4 rfl (by kernel_rfl) (by kernel_rfl) (isz (n := 32) (by kernel_rfl) ((ints_size _ _).trans (bytesOf_len (agN xs (pubL ys))))) (eqsz (n := 32) ((ints_size _ _).trans zlen) ((ints_size _ _).trans (bytesOf_len (agN xs (pubL ys))))) (ints_one _ _)) (fun W hp => trivial) fun W5 p5 r7_5 => ?_
  have x5 : Ext w W5 := Puts.ext p5 x4 b7
  refine te_nil ?_
  refine hK6 _ _ ?_
  try clear hK6 K6
  refine wp_seq_k fun K8 hK8 => ?_
  refine any_regionT (fun W => True) [⟨none, [(3, none)]⟩, ⟨none, [(2, none)]⟩, ⟨none, [(20, some 1)]⟩, ⟨none, [(19, some 0), (21, some 2)]⟩, ⟨none, [(22, some 3)]⟩, ⟨none, [(18, some 4)]⟩, ⟨none, [(18, some 4)]⟩, ⟨none, []⟩, ⟨none, [(7, some 7), (23, some 5)]⟩, ⟨none, [(24, some 6)]⟩] [7] [6, 9] (by kernel_rfl) (by kernel_rfl) (by kernel_rfl) (fun W hR => trivial) fun F hF => ?_
  have r3_5 := (Puts.row p5 (row_ext r3_3 e4) (ne_of_old r3_3 l7))
  refine t_read (.agg (ints .u8 (ys))) (by kernel_rfl) (by kernel_rfl) (by kernel_rfl) rfl (fun W hR => (run_load_row 23 _ g3 23 _ _ (row_ext (row_ext r3_5 (ext_drew _)) hR) rfl (by kernel_rfl) (by kernel_rfl) (isz (n := 32) (by kernel_rfl) ((ints_size _ _).trans hy)))) ?_
  have r2_5 := (Puts.row p5 (row_ext r2_3 e4) (ne_of_old r2_3 l7))
  refine t_read (.agg (ints .u8 (xs))) (by kernel_rfl) (by kernel_rfl) (by kernel_rfl) rfl (fun W hR => (run_load_row 23 _ g2 23 _ _ (row_ext (row_ext r2_5 (ext_drew _)) hR) rfl (by kernel_rfl) (by kernel_rfl) (isz (n := 32) (by kernel_rfl) ((ints_size _ _).trans hx)))) ?_
  refine t_call (.agg (ints .u8 (pubL xs))) 43 #[.agg (ints .u8 (xs))] (by kernel_rfl) (by kernel_rfl) (by kernel_rfl) rfl (fun W => by kernel_rfl) (fun W hR => (public_ xs hx hb) W) ?_
  refine t_call (.tuple #[.agg (ints .u8 (bytesOf (agN ys (pubL xs)))), .nilIface]) 45 #[.agg (ints .u8 (ys)), .agg (ints .u8 (pubL xs))] (by kernel_rfl) (by kernel_rfl) (by kernel_rfl) rfl (fun W => by kernel_rfl) (fun W hR => (agree_0 ys (pubL xs) hy hc (pubL_len xs) (bytesOf_areBytes _) h2.2) W) ?_
  refine t_val (.tuple #[.agg (ints .u8 (bytesOf (agN ys (pubL xs)))), .nilIface]) (by kernel_rfl) (by kernel_rfl) rfl (fun W => by kernel_rfl) ?_
  refine t_val (.agg (ints .u8 (bytesOf (agN ys (pubL xs))))) (by kernel_rfl) (by kernel_rfl) rfl (fun W => by kernel_rfl) ?_
  refine t_val (.nilIface) (by kernel_rfl) (by kernel_rfl) rfl (fun W => by kernel_rfl) ?_
  refine t_new (ints .u8 (List.replicate 32 0)) 23 (by kernel_rfl) (by kernel_rfl) (Nat.le_refl _) (by kernel_rfl) rfl (fun W => by kernel_rfl) ?_
  refine t_store rfl ?_
  refine t_val (.nilIface) (by kernel_rfl) (by kernel_rfl) rfl (fun W => by kernel_rfl) ?_
  refine t_nil (hF _ (by kernel_rfl) fun W6 e6 => ?_)
  simp only [List.nil_append, List.cons_append, fins, up]
  intro g9 l9 r9_6 n9
  have b9 : w.heap.size ≤ g9 := Nat.le_trans x5.size l9
  clear hF
  have x6 : Ext w W6 := Ext.tr x5 e6
  refine te_store _ g9 _ (ints .u8 (bytesOf (agN ys (pubL xs)))) 23 r9_6 rfl (run_store_row 23 _ _ g9 23 _ _ r9_6 rfl (by kernel_rfl) (by kernel_rfl) (isz (n := 32) (by kernel_rfl) ((ints_size _ _).trans (bytesOf_len (agN ys (pubL xs))))) (eqsz (n := 32) ((ints_size _ _).trans zlen) ((ints_size _ _).trans (bytesOf_len (agN ys (pubL xs))))) (ints_one _ _)) (fun W hp => trivial) fun W7 p7 r9_7 => ?_
  have x7 : Ext w W7 := Puts.ext p7 x6 b9
  refine te_nil ?_
  refine hK8 _ _ ?_
  try clear hK8 K8
  refine wp_seq_k fun K10 hK10 => ?_
  refine region_lit ?_
  refine seq_val (.nilIface) 25 rfl (by kernel_rfl) (by kernel_rfl) ?_
  refine seq_val (.bool true) 26 rfl (by kernel_rfl) (by kernel_rfl) ?_
  refine seq_val (.bool true) 27 rfl (by kernel_rfl) (by kernel_rfl) ?_
  refine seq_val (.nilIface) 28 rfl (by kernel_rfl) (by kernel_rfl) ?_
  refine seq_val (.bool true) 29 rfl (by kernel_rfl) (by kernel_rfl) ?_
  refine seq_val (.bool true) 30 rfl (by kernel_rfl) (by kernel_rfl) ?_
  refine seq_val (.bool true) 31 rfl (by kernel_rfl) (by kernel_rfl) ?_
  have r7_7 := (Puts.row p7 (row_ext r7_5 e6) (ne_of_old r7_5 l9))
  refine seq_val (.agg (ints .u8 (bytesOf (agN xs (pubL ys))))) 32 rfl (by kernel_rfl) (run_load_row 23 _ g7 23 _ _ r7_7 rfl (by kernel_rfl) (by kernel_rfl) (isz (n := 32) (by kernel_rfl) ((ints_size _ _).trans (bytesOf_len (agN xs (pubL ys)))))) ?_
  refine seq_val (.agg (ints .u8 (bytesOf (agN ys (pubL xs))))) 33 rfl (by kernel_rfl) (run_load_row 23 _ g9 23 _ _ r9_7 rfl (by kernel_rfl) (by kernel_rfl) (isz (n := 32) (by kernel_rfl) ((ints_size _ _).trans (bytesOf_len (agN ys (pubL xs)))))) ?_
  refine seq_val (.bool true) 34 rfl (by kernel_rfl) (run_eql_agg 23 _ _ _ _ _ (.bool true) rfl (by kernel_rfl) (by kernel_rfl) (by kernel_rfl) (eql_is 23 (e := 5) (k := .u8) _ _ true (bytesOf_len _) (bytesOf_len _) (by kernel_rfl) (by kernel_rfl) (by kernel_rfl) (decide_eq_true (congrArg bytesOf h1.1)) _)) ?_
  refine seq_val (.bool true) 35 rfl (by kernel_rfl) (by kernel_rfl) ?_
  refine seq_val (.bool true) 4 rfl (by kernel_rfl) (by kernel_rfl) ?_
  refine seq_nil ?_
  refine hK10 _ _ ?_
  try clear hK10 K10
  refine wp_ret ?_
  exact (show bodyPost _ _ _ .ret _ _ from ret1 (.bool true) rfl (res_tmp (by kernel_rfl)) ⟨rfl, x7⟩)
end Go.Proofs.Ytaojnmjmmfdfjaa.Field
