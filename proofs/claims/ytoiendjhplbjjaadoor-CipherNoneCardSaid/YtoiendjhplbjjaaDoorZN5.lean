/- Texts of this claim, joined (N5). -/
import Derived.Test.YtoiendjhplbjjaaDoorZN4
import Derived.Laws.BitsAll
import Derived.Lib.LaidTab

section
namespace Go.Proofs.YtoiendjhplbjjaaDoor.Ci
open Go Go.RowKit
open Rely Auto Own Sha Sha
set_option linter.unusedVariables false
set_option linter.unusedSimpArgs false
open Cha
open Ae hiding run_storeQ
open Ll hiding newC run_storeQ
set_option maxHeartbeats 4000000 in
theorem nMT (v : Value) (w : World) : Calls Tryd.prog 31 #[.pointer none, v] w (Ret w (.tuple #[])) := by
  refine enter 31 [(0, .pointer none), (1, v)] Tryd.func31 rfl rfl kj rfl ?_
  refine wp_seq_k fun K1 hK1 => ?_
  refine wp_seq_k fun K2 hK2 => ?_
  refine Qab ?_
  refine Qaa (.pointer none) 7 rfl kj kj ?_
  refine Qaa (.bool true) 8 rfl kj kj ?_
  refine Qac ?_
  refine hK2 _ _ ?_
  refine cond_true kj ?_
  refine wp_ret ?_
  repeat (first | with_reducible refine goR1 ?_ | with_reducible refine goR2 ?_)
  exact (show bodyPost _ _ _ .ret _ _ from ret0 rfl ⟨rfl, (Rely.Ext.refl w)⟩)
set_option maxHeartbeats 4000000 in
theorem nMS (v : Value) (w : World) : Calls Tryd.prog 32 #[.pointer none, v] w (Ret w (.tuple #[])) := by
  refine enter 29 [(0, .pointer none), (1, v)] Tryd.func32 rfl rfl kj rfl ?_
  refine wp_seq_k fun K1 hK1 => ?_
  refine wp_seq_k fun K2 hK2 => ?_
  refine Qab ?_
  refine Qaa (.pointer none) 7 rfl kj kj ?_
  refine Qaa (.bool true) 8 rfl kj kj ?_
  refine Qac ?_
  refine hK2 _ _ ?_
  refine cond_true kj ?_
  refine wp_ret ?_
  repeat (first | with_reducible refine goR1 ?_ | with_reducible refine goR2 ?_)
  exact (show bodyPost _ _ _ .ret _ _ from ret0 rfl ⟨rfl, (Rely.Ext.refl w)⟩)
set_option maxHeartbeats 4000000 in
theorem nCH (v : Value) (w : World) : Calls Tryd.prog 21 #[.pointer none, v, v] w (Ret w (.tuple #[.slice none 0 0, .iface 60 (.int .i64 8)])) := by
  refine enter 19 [(0, .pointer none), (1, v), (2, v)] Tryd.func21 rfl rfl kj rfl ?_
  refine wp_seq_k fun K1 hK1 => ?_
  refine Qab ?_
  refine Qaa (.slice none 0 0) 6 rfl kj kj ?_
  refine Qaa (.nilIface) 7 rfl kj kj ?_
  refine Qac ?_
  refine hK1 _ _ ?_
  refine wp_seq_k fun K2 hK2 => ?_
  refine wp_seq_k fun K3 hK3 => ?_
  refine Qab ?_
  refine Qaa (.pointer none) 8 rfl kj kj ?_
  refine Qaa (.bool true) 9 rfl kj kj ?_
  refine Qac ?_
  refine hK3 _ _ ?_
  refine cond_true kj ?_
  refine wp_seq_k fun K4 hK4 => ?_
  refine Qab ?_
  refine Qaa (.iface 60 (.int .i64 8)) 10 rfl kj kj ?_
  refine Qaa (.slice none 0 0) 6 rfl kj kj ?_
  refine Qaa (.iface 60 (.int .i64 8)) 7 rfl kj kj ?_
  refine Qac ?_
  refine hK4 _ _ ?_
  refine wp_ret ?_
  repeat (first | with_reducible refine goR1 ?_ | with_reducible refine goR2 ?_)
  exact (show bodyPost _ _ _ .ret _ _ from ret2 (.slice none 0 0) (.iface 60 (.int .i64 8)) rfl (Qa5 kj) (Qa5 kj) ⟨rfl, (Rely.Ext.refl w)⟩)
set_option maxHeartbeats 4000000 in
theorem nCS (v : Value) (w : World) : Calls Tryd.prog 23 #[.pointer none, v, v] w (Ret w (.tuple #[.slice none 0 0, .iface 60 (.int .i64 8)])) := by
  refine enter 19 [(0, .pointer none), (1, v), (2, v)] Tryd.func23 rfl rfl kj rfl ?_
  refine wp_seq_k fun K1 hK1 => ?_
  refine Qab ?_
  refine Qaa (.slice none 0 0) 6 rfl kj kj ?_
  refine Qaa (.nilIface) 7 rfl kj kj ?_
  refine Qac ?_
  refine hK1 _ _ ?_
  refine wp_seq_k fun K2 hK2 => ?_
  refine wp_seq_k fun K3 hK3 => ?_
  refine Qab ?_
  refine Qaa (.pointer none) 8 rfl kj kj ?_
  refine Qaa (.bool true) 9 rfl kj kj ?_
  refine Qac ?_
  refine hK3 _ _ ?_
  refine cond_true kj ?_
  refine wp_seq_k fun K4 hK4 => ?_
  refine Qab ?_
  refine Qaa (.iface 60 (.int .i64 8)) 10 rfl kj kj ?_
  refine Qaa (.slice none 0 0) 6 rfl kj kj ?_
  refine Qaa (.iface 60 (.int .i64 8)) 7 rfl kj kj ?_
  refine Qac ?_
  refine hK4 _ _ ?_
  refine wp_ret ?_
  repeat (first | with_reducible refine goR1 ?_ | with_reducible refine goR2 ?_)
  exact (show bodyPost _ _ _ .ret _ _ from ret2 (.slice none 0 0) (.iface 60 (.int .i64 8)) rfl (Qa5 kj) (Qa5 kj) ⟨rfl, (Rely.Ext.refl w)⟩)
set_option maxHeartbeats 4000000 in
theorem nSH (v : Value) (w : World) : Calls Tryd.prog 33 #[.pointer none, v] w (Ret w (.tuple #[.slice none 0 0, .iface 60 (.int .i64 8)])) := by
  refine enter 31 [(0, .pointer none), (1, v)] Tryd.func33 rfl rfl kj rfl ?_
  refine wp_seq_k fun K1 hK1 => ?_
  refine Qab ?_
  refine Qaa (.slice none 0 0) 4 rfl kj kj ?_
  refine Qaa (.nilIface) 5 rfl kj kj ?_
  refine Qac ?_
  refine hK1 _ _ ?_
  refine wp_seq_k fun K2 hK2 => ?_
  refine wp_seq_k fun K3 hK3 => ?_
  refine Qab ?_
  refine Qaa (.pointer none) 8 rfl kj kj ?_
  refine Qaa (.bool true) 9 rfl kj kj ?_
  refine Qac ?_
  refine hK3 _ _ ?_
  refine cond_true kj ?_
  refine wp_seq_k fun K4 hK4 => ?_
  refine Qab ?_
  refine Qaa (.iface 60 (.int .i64 8)) 10 rfl kj kj ?_
  refine Qaa (.slice none 0 0) 4 rfl kj kj ?_
  refine Qaa (.iface 60 (.int .i64 8)) 5 rfl kj kj ?_
  refine Qac ?_
  refine hK4 _ _ ?_
  refine wp_ret ?_
  repeat (first | with_reducible refine goR1 ?_ | with_reducible refine goR2 ?_)
  exact (show bodyPost _ _ _ .ret _ _ from ret2 (.slice none 0 0) (.iface 60 (.int .i64 8)) rfl (Qa5 kj) (Qa5 kj) ⟨rfl, (Rely.Ext.refl w)⟩)
set_option maxHeartbeats 4000000 in
theorem nSS (v : Value) (w : World) : Calls Tryd.prog 34 #[.pointer none, v] w (Ret w (.tuple #[.slice none 0 0, .iface 60 (.int .i64 8)])) := by
  refine enter 31 [(0, .pointer none), (1, v)] Tryd.func34 rfl rfl kj rfl ?_
  refine wp_seq_k fun K1 hK1 => ?_
  refine Qab ?_
  refine Qaa (.slice none 0 0) 4 rfl kj kj ?_
  refine Qaa (.nilIface) 5 rfl kj kj ?_
  refine Qac ?_
  refine hK1 _ _ ?_
  refine wp_seq_k fun K2 hK2 => ?_
  refine wp_seq_k fun K3 hK3 => ?_
  refine Qab ?_
  refine Qaa (.pointer none) 8 rfl kj kj ?_
  refine Qaa (.bool true) 9 rfl kj kj ?_
  refine Qac ?_
  refine hK3 _ _ ?_
  refine cond_true kj ?_
  refine wp_seq_k fun K4 hK4 => ?_
  refine Qab ?_
  refine Qaa (.iface 60 (.int .i64 8)) 10 rfl kj kj ?_
  refine Qaa (.slice none 0 0) 4 rfl kj kj ?_
  refine Qaa (.iface 60 (.int .i64 8)) 5 rfl kj kj ?_
  refine Qac ?_
  refine hK4 _ _ ?_
  refine wp_ret ?_
  repeat (first | with_reducible refine goR1 ?_ | with_reducible refine goR2 ?_)
  exact (show bodyPost _ _ _ .ret _ _ from ret2 (.slice none 0 0) (.iface 60 (.int .i64 8)) rfl (Qa5 kj) (Qa5 kj) ⟨rfl, (Rely.Ext.refl w)⟩)
set_option maxHeartbeats 4000000 in
theorem nSp (w : World) : Calls Tryd.prog 37 #[.pointer none] w (Ret w (.tuple #[.agg (ints .u8 (List.replicate 32 0)), .agg (ints .u8 (List.replicate 32 0))])) := by
  refine enter 15 [(0, .pointer none)] Tryd.func37 rfl rfl kj rfl ?_
  refine wp_seq_k fun K1 hK1 => ?_
  refine Qab ?_
  refine Qap (ints .u8 (List.replicate 32 0)) 23 2 rfl kj kj fun g2 W1 l2 e1 r2_1 => ?_
  have x1 : Ext w W1 := Ext.tr (Rely.Ext.refl w) e1
  have b2 : w.heap.size ≤ g2 := Nat.le_trans (Rely.Ext.refl w).size l2
  refine Qap (ints .u8 (List.replicate 32 0)) 23 3 rfl kj kj fun g3 W2 l3 e2 r3_2 => ?_
  have x2 : Ext w W2 := Ext.tr x1 e2
  have b3 : w.heap.size ≤ g3 := Nat.le_trans x1.size l3
  refine Qac ?_
  refine hK1 _ _ ?_
  refine wp_seq_k fun K4 hK4 => ?_
  refine wp_seq_k fun K5 hK5 => ?_
  refine Qab ?_
  refine Qaa (.pointer none) 4 rfl kj kj ?_
  refine Qaa (.bool true) 5 rfl kj kj ?_
  refine Qac ?_
  refine hK5 _ _ ?_
  refine cond_true kj ?_
  refine wp_seq_k fun K6 hK6 => ?_
  refine Qab ?_
  refine Qaa (.agg (ints .u8 (List.replicate 32 0))) 6 rfl kj kj ?_
  refine Qaa (.agg (ints .u8 (List.replicate 32 0))) 7 rfl kj kj ?_
  have r2_2 := (Qad r2_1 e2)
  refine Qah g2 _ (ints .u8 (List.replicate 32 0)) 23 r2_2 rfl kj (Qam 23 _ _ g2 23 _ _ r2_2 rfl kj kj (isz (n := 32) kj ((Qae _ _).trans (List.length_replicate (n := 32)))) (eqsz (n := 32) ((Qae _ _).trans (List.length_replicate (n := 32))) ((Qae _ _).trans (List.length_replicate (n := 32)))) (Qay _ _)) fun W3 p3 r2_3 => ?_
  have x3 : Ext w W3 := Puts.ext p3 x2 b2
  have r3_3 := (Puts.row p3 r3_2 (Qaq r2_1 l3))
  refine Qah g3 _ (ints .u8 (List.replicate 32 0)) 23 r3_3 rfl kj (Qam 23 _ _ g3 23 _ _ r3_3 rfl kj kj (isz (n := 32) kj ((Qae _ _).trans (List.length_replicate (n := 32)))) (eqsz (n := 32) ((Qae _ _).trans (List.length_replicate (n := 32))) ((Qae _ _).trans (List.length_replicate (n := 32)))) (Qay _ _)) fun W4 p4 r3_4 => ?_
  have x4 : Ext w W4 := Puts.ext p4 x3 b3
  refine Qac ?_
  refine hK6 _ _ ?_
  refine wp_ret ?_
  repeat (first | with_reducible refine goR1 ?_ | with_reducible refine goR2 ?_)
  have r2_4 := (Puts.row p4 r2_3 (Qaf r2_1 l3))
  exact (show bodyPost _ _ _ .ret _ _ from ret2 (.agg (ints .u8 (List.replicate 32 0))) (.agg (ints .u8 (List.replicate 32 0))) rfl (QaS g2 23 _ r2_4 kj kj (isz (n := 32) kj ((Qae _ _).trans (List.length_replicate (n := 32))))) (QaS g3 23 _ r3_4 kj kj (isz (n := 32) kj ((Qae _ _).trans (List.length_replicate (n := 32))))) ⟨rfl, x4⟩)
set_option maxHeartbeats 4000000 in
theorem nCB (w : World) : Calls Tryd.prog 18 #[.pointer none] w (Ret w (.bool false)) := by
  refine enter 12 [(0, .pointer none)] Tryd.func18 rfl rfl kj rfl ?_
  refine wp_seq_k fun K1 hK1 => ?_
  refine Qab ?_
  refine Qaa (.bool false) 2 rfl kj kj ?_
  refine Qac ?_
  refine hK1 _ _ ?_
  refine wp_seq_k fun K2 hK2 => ?_
  refine Qab ?_
  refine Qaa (.pointer none) 3 rfl kj kj ?_
  refine Qaa (.bool false) 4 rfl kj kj ?_
  refine Qaa (.bool false) 5 rfl kj kj ?_
  refine Qa7 6 rfl kj ?_
  refine Qa7 7 rfl kj ?_
  refine Qa7 8 rfl kj ?_
  refine Qa7 9 rfl kj ?_
  refine Qa7 10 rfl kj ?_
  refine Qaa (.bool false) 11 rfl kj kj ?_
  refine Qaa (.bool false) 2 rfl kj kj ?_
  refine Qac ?_
  refine hK2 _ _ ?_
  refine wp_ret ?_
  repeat (first | with_reducible refine goR1 ?_ | with_reducible refine goR2 ?_)
  exact (show bodyPost _ _ _ .ret _ _ from ret1 (.bool false) rfl (Qa5 kj) ⟨rfl, (Rely.Ext.refl w)⟩)
set_option maxHeartbeats 4000000 in
theorem nCN (w : World) : Calls Tryd.prog 27 #[.pointer none] w (Ret w (.int .i64 0)) := by
  refine enter 10 [(0, .pointer none)] Tryd.func27 rfl rfl kj rfl ?_
  refine wp_seq_k fun K1 hK1 => ?_
  refine Qab ?_
  refine Qaa (.int .i64 0) 2 rfl kj kj ?_
  refine Qac ?_
  refine hK1 _ _ ?_
  refine wp_seq_k fun K2 hK2 => ?_
  refine wp_seq_k fun K3 hK3 => ?_
  refine Qab ?_
  refine Qaa (.pointer none) 3 rfl kj kj ?_
  refine Qaa (.bool true) 4 rfl kj kj ?_
  refine Qac ?_
  refine hK3 _ _ ?_
  refine cond_true kj ?_
  refine wp_seq_k fun K4 hK4 => ?_
  refine Qab ?_
  refine Qaa (.int .i64 0) 2 rfl kj kj ?_
  refine Qac ?_
  refine hK4 _ _ ?_
  refine wp_ret ?_
  repeat (first | with_reducible refine goR1 ?_ | with_reducible refine goR2 ?_)
  exact (show bodyPost _ _ _ .ret _ _ from ret1 (.int .i64 0) rfl (Qa5 kj) ⟨rfl, (Rely.Ext.refl w)⟩)
set_option maxHeartbeats 4000000 in
theorem nCJ (n : Int) (w : World) : Calls Tryd.prog 19 #[.pointer none, .int .i64 n] w (Ret w (.bool false)) := by
  refine enter 14 [(0, .pointer none), (1, .int .i64 n)] Tryd.func19 rfl rfl kj rfl ?_
  refine wp_seq_k fun K1 hK1 => ?_
  refine Qab ?_
  refine Qaa (.bool false) 4 rfl kj kj ?_
  refine Qac ?_
  refine hK1 _ _ ?_
  refine wp_seq_k fun K2 hK2 => ?_
  refine Qab ?_
  refine Qaa (.pointer none) 5 rfl kj kj ?_
  refine Qaa (.bool false) 6 rfl kj kj ?_
  refine Qaa (.bool false) 7 rfl kj kj ?_
  refine Qa7 8 rfl kj ?_
  refine Qa7 9 rfl kj ?_
  refine Qa7 10 rfl kj ?_
  refine Qa7 11 rfl kj ?_
  refine Qa7 12 rfl kj ?_
  refine Qaa (.bool false) 13 rfl kj kj ?_
  refine Qaa (.bool false) 4 rfl kj kj ?_
  refine Qac ?_
  refine hK2 _ _ ?_
  refine wp_ret ?_
  repeat (first | with_reducible refine goR1 ?_ | with_reducible refine goR2 ?_)
  exact (show bodyPost _ _ _ .ret _ _ from ret1 (.bool false) rfl (Qa5 kj) ⟨rfl, (Rely.Ext.refl w)⟩)
set_option maxHeartbeats 4000000 in
theorem nSB (w : World) : Calls Tryd.prog 39 #[.pointer none] w (Ret w (.bool false)) := by
  refine enter 12 [(0, .pointer none)] Tryd.func39 rfl rfl kj rfl ?_
  refine wp_seq_k fun K1 hK1 => ?_
  refine Qab ?_
  refine Qaa (.bool false) 2 rfl kj kj ?_
  refine Qac ?_
  refine hK1 _ _ ?_
  refine wp_seq_k fun K2 hK2 => ?_
  refine Qab ?_
  refine Qaa (.pointer none) 3 rfl kj kj ?_
  refine Qaa (.bool false) 4 rfl kj kj ?_
  refine Qaa (.bool false) 5 rfl kj kj ?_
  refine Qa7 6 rfl kj ?_
  refine Qa7 7 rfl kj ?_
  refine Qa7 8 rfl kj ?_
  refine Qa7 9 rfl kj ?_
  refine Qa7 10 rfl kj ?_
  refine Qaa (.bool false) 11 rfl kj kj ?_
  refine Qaa (.bool false) 2 rfl kj kj ?_
  refine Qac ?_
  refine hK2 _ _ ?_
  refine wp_ret ?_
  repeat (first | with_reducible refine goR1 ?_ | with_reducible refine goR2 ?_)
  exact (show bodyPost _ _ _ .ret _ _ from ret1 (.bool false) rfl (Qa5 kj) ⟨rfl, (Rely.Ext.refl w)⟩)
set_option maxHeartbeats 4000000 in
theorem nSN (w : World) : Calls Tryd.prog 36 #[.pointer none] w (Ret w (.int .i64 0)) := by
  refine enter 10 [(0, .pointer none)] Tryd.func36 rfl rfl kj rfl ?_
  refine wp_seq_k fun K1 hK1 => ?_
  refine Qab ?_
  refine Qaa (.int .i64 0) 2 rfl kj kj ?_
  refine Qac ?_
  refine hK1 _ _ ?_
  refine wp_seq_k fun K2 hK2 => ?_
  refine wp_seq_k fun K3 hK3 => ?_
  refine Qab ?_
  refine Qaa (.pointer none) 3 rfl kj kj ?_
  refine Qaa (.bool true) 4 rfl kj kj ?_
  refine Qac ?_
  refine hK3 _ _ ?_
  refine cond_true kj ?_
  refine wp_seq_k fun K4 hK4 => ?_
  refine Qab ?_
  refine Qaa (.int .i64 0) 2 rfl kj kj ?_
  refine Qac ?_
  refine hK4 _ _ ?_
  refine wp_ret ?_
  repeat (first | with_reducible refine goR1 ?_ | with_reducible refine goR2 ?_)
  exact (show bodyPost _ _ _ .ret _ _ from ret1 (.int .i64 0) rfl (Qa5 kj) ⟨rfl, (Rely.Ext.refl w)⟩)
set_option maxHeartbeats 4000000 in
theorem nSJ (n : Int) (w : World) : Calls Tryd.prog 40 #[.pointer none, .int .i64 n] w (Ret w (.bool false)) := by
  refine enter 14 [(0, .pointer none), (1, .int .i64 n)] Tryd.func40 rfl rfl kj rfl ?_
  refine wp_seq_k fun K1 hK1 => ?_
  refine Qab ?_
  refine Qaa (.bool false) 4 rfl kj kj ?_
  refine Qac ?_
  refine hK1 _ _ ?_
  refine wp_seq_k fun K2 hK2 => ?_
  refine Qab ?_
  refine Qaa (.pointer none) 5 rfl kj kj ?_
  refine Qaa (.bool false) 6 rfl kj kj ?_
  refine Qaa (.bool false) 7 rfl kj kj ?_
  refine Qa7 8 rfl kj ?_
  refine Qa7 9 rfl kj ?_
  refine Qa7 10 rfl kj ?_
  refine Qa7 11 rfl kj ?_
  refine Qa7 12 rfl kj ?_
  refine Qaa (.bool false) 13 rfl kj kj ?_
  refine Qaa (.bool false) 4 rfl kj kj ?_
  refine Qac ?_
  refine hK2 _ _ ?_
  refine wp_ret ?_
  repeat (first | with_reducible refine goR1 ?_ | with_reducible refine goR2 ?_)
  exact (show bodyPost _ _ _ .ret _ _ from ret1 (.bool false) rfl (Qa5 kj) ⟨rfl, (Rely.Ext.refl w)⟩)
set_option maxHeartbeats 4000000 in
theorem nHa (w : World) : Calls Tryd.prog 35 #[.pointer none] w (Ret w (.agg (ints .u8 (List.replicate 32 0)))) := by
  refine enter 10 [(0, .pointer none)] Tryd.func35 rfl rfl kj rfl ?_
  refine wp_seq_k fun K1 hK1 => ?_
  refine Qab ?_
  refine Qap (ints .u8 (List.replicate 32 0)) 29 2 rfl kj kj fun g2 W1 l2 e1 r2_1 => ?_
  have x1 : Ext w W1 := Ext.tr (Rely.Ext.refl w) e1
  have b2 : w.heap.size ≤ g2 := Nat.le_trans (Rely.Ext.refl w).size l2
  refine Qac ?_
  refine hK1 _ _ ?_
  refine wp_seq_k fun K3 hK3 => ?_
  refine wp_seq_k fun K4 hK4 => ?_
  refine Qab ?_
  refine Qaa (.pointer none) 3 rfl kj kj ?_
  refine Qaa (.bool true) 4 rfl kj kj ?_
  refine Qac ?_
  refine hK4 _ _ ?_
  refine cond_true kj ?_
  refine wp_seq_k fun K5 hK5 => ?_
  refine Qab ?_
  refine Qaa (.agg (ints .u8 (List.replicate 32 0))) 5 rfl kj kj ?_
  refine Qah g2 _ (ints .u8 (List.replicate 32 0)) 29 r2_1 rfl kj (Qam 29 _ _ g2 29 _ _ r2_1 rfl kj kj (isz (n := 32) kj ((Qae _ _).trans (List.length_replicate (n := 32)))) (eqsz (n := 32) ((Qae _ _).trans (List.length_replicate (n := 32))) ((Qae _ _).trans (List.length_replicate (n := 32)))) (Qay _ _)) fun W2 p2 r2_2 => ?_
  have x2 : Ext w W2 := Puts.ext p2 x1 b2
  refine Qac ?_
  refine hK5 _ _ ?_
  refine wp_ret ?_
  repeat (first | with_reducible refine goR1 ?_ | with_reducible refine goR2 ?_)
  exact (show bodyPost _ _ _ .ret _ _ from ret1 (.agg (ints .u8 (List.replicate 32 0))) rfl (QaS g2 29 _ r2_2 kj kj (isz (n := 32) kj ((Qae _ _).trans (List.length_replicate (n := 32))))) ⟨rfl, x2⟩)
set_option maxHeartbeats 4000000 in
theorem lawNone (a_v : Option Addr) (l_v c_v : Nat) (n : Int) (th tq tsc tsq : TypeId) (w : World) (hh : w.heap[2]? = some (.cells (ints .u32 [1634760805, 857760878, 2036477234, 1797285236]) th)) (hq : w.heap[3]? = some (.cells (ints .i64 [0, 4, 8, 12, 1, 5, 9, 13, 2, 6, 10, 14, 3, 7, 11, 15, 0, 5, 10, 15, 1, 6, 11, 12, 2, 7, 8, 13, 3, 4, 9, 14]) tq)) (hsc : w.heap[1]? = some (.cells (ints .u64 Qbv) tsc)) (hsq : w.heap[0]? = some (.cells (ints .u64 Qat) tsq)) : Calls Tryd.prog 5 #[.slice a_v l_v c_v, .int .i64 n] w (Ret w (.bool true)) := by
  refine enter 119 [(0, .slice a_v l_v c_v), (1, .int .i64 n)] Tryd.func5 rfl rfl kj rfl ?_
  refine wp_seq_k fun K5 hK5 => ?_
  refine Qab ?_
  refine Qaa (.bool false) 4 rfl kj kj ?_
  refine Qac ?_
  refine hK5 _ _ ?_
  refine wp_seq_k fun K6 hK6 => ?_
  refine wp_seq_k fun K7 hK7 => ?_
  refine Qab ?_
  refine Qax (.bool true) 15 #[] 17 rfl kj kj (Qjm th tq tsc tsq _ hh hq hsc hsq) fun W1 e1 => ?_
  have x1 : Ext w W1 := Ext.tr (Rely.Ext.refl w) e1
  refine Qaa (.bool false) 18 rfl kj kj ?_
  refine Qac ?_
  refine hK7 _ _ ?_
  refine cond_false kj ?_
  refine wp_skip ?_
  refine hK6 _ _ ?_
  refine wp_seq_k fun K8 hK8 => ?_
  refine Qab ?_
  refine Qaa (.pointer none) 5 rfl kj kj ?_
  refine Qac ?_
  refine hK8 _ _ ?_
  refine wp_seq_k fun K9 hK9 => ?_
  refine Qab ?_
  refine Qaa (.pointer none) 6 rfl kj kj ?_
  refine Qac ?_
  refine hK9 _ _ ?_
  refine wp_seq_k fun K10 hK10 => ?_
  refine Qab ?_
  refine Qaa (.pointer none) 19 rfl kj kj ?_
  refine Qaa (.slice a_v l_v c_v) 20 rfl kj kj ?_
  refine Qbk (#[.slice a_v l_v c_v]) 33 1 21 rfl kj kj fun g11 W2 l11 e2 r11_2 => ?_
  have x2 : Ext w W2 := Ext.tr x1 e2
  have b11 : w.heap.size ≤ g11 := Nat.le_trans x1.size l11
  refine Qax (.tuple #[]) 31 #[.pointer none, .slice (some ⟨g11, 0, none⟩) 1 1] 22 rfl kj kj ((nMT (.slice (some ⟨g11, 0, none⟩) 1 1)) _) fun W3 e3 => ?_
  have x3 : Ext w W3 := Ext.tr x2 e3
  refine Qac ?_
  refine hK10 _ _ ?_
  refine wp_seq_k fun K12 hK12 => ?_
  refine Qab ?_
  refine Qaa (.pointer none) 23 rfl kj kj ?_
  refine Qaa (.slice a_v l_v c_v) 24 rfl kj kj ?_
  refine Qax (.tuple #[]) 32 #[.pointer none, .slice a_v l_v c_v] 25 rfl kj kj ((nMS (.slice a_v l_v c_v)) _) fun W4 e4 => ?_
  have x4 : Ext w W4 := Ext.tr x3 e4
  refine Qac ?_
  refine hK12 _ _ ?_
  refine wp_seq_k fun K13 hK13 => ?_
  refine Qab ?_
  refine Qaa (.pointer none) 27 rfl kj kj ?_
  refine Qaa (.slice a_v l_v c_v) 28 rfl kj kj ?_
  refine Qaa (.slice a_v l_v c_v) 29 rfl kj kj ?_
  refine Qax (.tuple #[.slice none 0 0, .iface 60 (.int .i64 8)]) 21 #[.pointer none, .slice a_v l_v c_v, .slice a_v l_v c_v] 30 rfl kj kj ((nCH (.slice a_v l_v c_v)) _) fun W5 e5 => ?_
  have x5 : Ext w W5 := Ext.tr x4 e5
  refine Qaa (.tuple #[.slice none 0 0, .iface 60 (.int .i64 8)]) 26 rfl kj kj ?_
  refine Qaa (.slice none 0 0) 31 rfl kj kj ?_
  refine Qaa (.iface 60 (.int .i64 8)) 32 rfl kj kj ?_
  refine Qaa (.slice none 0 0) 7 rfl kj kj ?_
  refine Qaa (.iface 60 (.int .i64 8)) 8 rfl kj kj ?_
  refine Qac ?_
  refine hK13 _ _ ?_
  refine wp_seq_k fun K14 hK14 => ?_
  refine Qab ?_
  refine Qaa (.pointer none) 34 rfl kj kj ?_
  refine Qaa (.slice a_v l_v c_v) 35 rfl kj kj ?_
  refine Qaa (.slice a_v l_v c_v) 36 rfl kj kj ?_
  refine Qax (.tuple #[.slice none 0 0, .iface 60 (.int .i64 8)]) 23 #[.pointer none, .slice a_v l_v c_v, .slice a_v l_v c_v] 37 rfl kj kj ((nCS (.slice a_v l_v c_v)) _) fun W6 e6 => ?_
  have x6 : Ext w W6 := Ext.tr x5 e6
  refine Qaa (.tuple #[.slice none 0 0, .iface 60 (.int .i64 8)]) 33 rfl kj kj ?_
  refine Qaa (.slice none 0 0) 38 rfl kj kj ?_
  refine Qaa (.iface 60 (.int .i64 8)) 39 rfl kj kj ?_
  refine Qaa (.slice none 0 0) 9 rfl kj kj ?_
  refine Qaa (.iface 60 (.int .i64 8)) 10 rfl kj kj ?_
  refine Qac ?_
  refine hK14 _ _ ?_
  refine wp_seq_k fun K15 hK15 => ?_
  refine Qab ?_
  refine Qaa (.pointer none) 41 rfl kj kj ?_
  refine Qaa (.slice a_v l_v c_v) 42 rfl kj kj ?_
  refine Qax (.tuple #[.slice none 0 0, .iface 60 (.int .i64 8)]) 33 #[.pointer none, .slice a_v l_v c_v] 43 rfl kj kj ((nSH (.slice a_v l_v c_v)) _) fun W7 e7 => ?_
  have x7 : Ext w W7 := Ext.tr x6 e7
  refine Qaa (.tuple #[.slice none 0 0, .iface 60 (.int .i64 8)]) 40 rfl kj kj ?_
  refine Qaa (.slice none 0 0) 44 rfl kj kj ?_
  refine Qaa (.iface 60 (.int .i64 8)) 45 rfl kj kj ?_
  refine Qaa (.slice none 0 0) 11 rfl kj kj ?_
  refine Qaa (.iface 60 (.int .i64 8)) 12 rfl kj kj ?_
  refine Qac ?_
  refine hK15 _ _ ?_
  refine wp_seq_k fun K16 hK16 => ?_
  refine Qab ?_
  refine Qaa (.pointer none) 47 rfl kj kj ?_
  refine Qaa (.slice a_v l_v c_v) 48 rfl kj kj ?_
  refine Qax (.tuple #[.slice none 0 0, .iface 60 (.int .i64 8)]) 34 #[.pointer none, .slice a_v l_v c_v] 49 rfl kj kj ((nSS (.slice a_v l_v c_v)) _) fun W8 e8 => ?_
  have x8 : Ext w W8 := Ext.tr x7 e8
  refine Qaa (.tuple #[.slice none 0 0, .iface 60 (.int .i64 8)]) 46 rfl kj kj ?_
  refine Qaa (.slice none 0 0) 50 rfl kj kj ?_
  refine Qaa (.iface 60 (.int .i64 8)) 51 rfl kj kj ?_
  refine Qaa (.slice none 0 0) 13 rfl kj kj ?_
  refine Qaa (.iface 60 (.int .i64 8)) 14 rfl kj kj ?_
  refine Qac ?_
  refine hK16 _ _ ?_
  refine wp_seq_k fun K17 hK17 => ?_
  refine Qab ?_
  refine Qaa (.pointer none) 53 rfl kj kj ?_
  refine Qax (.tuple #[.agg (ints .u8 (List.replicate 32 0)), .agg (ints .u8 (List.replicate 32 0))]) 37 #[.pointer none] 54 rfl kj kj ((nSp) _) fun W9 e9 => ?_
  have x9 : Ext w W9 := Ext.tr x8 e9
  refine Qaa (.tuple #[.agg (ints .u8 (List.replicate 32 0)), .agg (ints .u8 (List.replicate 32 0))]) 52 rfl kj kj ?_
  refine Qaa (.agg (ints .u8 (List.replicate 32 0))) 55 rfl kj kj ?_
  refine Qaa (.agg (ints .u8 (List.replicate 32 0))) 56 rfl kj kj ?_
  refine Qap (ints .u8 (List.replicate 32 0)) 23 15 rfl kj kj fun g18 W10 l18 e10 r18_10 => ?_
  have x10 : Ext w W10 := Ext.tr x9 e10
  have b18 : w.heap.size ≤ g18 := Nat.le_trans x9.size l18
  refine Qap (ints .u8 (List.replicate 32 0)) 23 16 rfl kj kj fun g19 W11 l19 e11 r19_11 => ?_
  have x11 : Ext w W11 := Ext.tr x10 e11
  have b19 : w.heap.size ≤ g19 := Nat.le_trans x10.size l19
  have r18_11 := (Qad r18_10 e11)
  refine Qah g18 _ (ints .u8 (List.replicate 32 0)) 23 r18_11 rfl kj (Qam 23 _ _ g18 23 _ _ r18_11 rfl kj kj (isz (n := 32) kj ((Qae _ _).trans (List.length_replicate (n := 32)))) (eqsz (n := 32) ((Qae _ _).trans (List.length_replicate (n := 32))) ((Qae _ _).trans (List.length_replicate (n := 32)))) (Qay _ _)) fun W12 p12 r18_12 => ?_
  have x12 : Ext w W12 := Puts.ext p12 x11 b18
  have r19_12 := (Puts.row p12 r19_11 (Qaq r18_10 l19))
  refine Qah g19 _ (ints .u8 (List.replicate 32 0)) 23 r19_12 rfl kj (Qam 23 _ _ g19 23 _ _ r19_12 rfl kj kj (isz (n := 32) kj ((Qae _ _).trans (List.length_replicate (n := 32)))) (eqsz (n := 32) ((Qae _ _).trans (List.length_replicate (n := 32))) ((Qae _ _).trans (List.length_replicate (n := 32)))) (Qay _ _)) fun W13 p13 r19_13 => ?_
  have x13 : Ext w W13 := Puts.ext p13 x12 b19
  refine Qac ?_
  refine hK17 _ _ ?_
  refine wp_seq_k fun K20 hK20 => ?_
  refine Qab ?_
  refine Qaa (.iface 60 (.int .i64 8)) 57 rfl kj kj ?_
  refine Qax (.bool true) 38 #[.iface 60 (.int .i64 8), .int .i64 8] 58 rfl kj kj ((Go.Proofs.YtoiendjhplbjjaaDoor.Lk.IsT 8 _ (Go.Proofs.YtoiendjhplbjjaaDoor.Lk.errV_ne (by decide))) _) fun W14 e14 => ?_
  have x14 : Ext w W14 := Ext.tr x13 e14
  refine Qaa (.bool true) 59 rfl kj kj ?_
  refine Qaa (.iface 60 (.int .i64 8)) 60 rfl kj kj ?_
  refine Qax (.bool true) 38 #[.iface 60 (.int .i64 8), .int .i64 8] 61 rfl kj kj ((Go.Proofs.YtoiendjhplbjjaaDoor.Lk.IsT 8 _ (Go.Proofs.YtoiendjhplbjjaaDoor.Lk.errV_ne (by decide))) _) fun W15 e15 => ?_
  have x15 : Ext w W15 := Ext.tr x14 e15
  refine Qaa (.bool true) 62 rfl kj kj ?_
  refine Qaa (.bool true) 63 rfl kj kj ?_
  refine Qaa (.iface 60 (.int .i64 8)) 64 rfl kj kj ?_
  refine Qax (.bool true) 38 #[.iface 60 (.int .i64 8), .int .i64 8] 65 rfl kj kj ((Go.Proofs.YtoiendjhplbjjaaDoor.Lk.IsT 8 _ (Go.Proofs.YtoiendjhplbjjaaDoor.Lk.errV_ne (by decide))) _) fun W16 e16 => ?_
  have x16 : Ext w W16 := Ext.tr x15 e16
  refine Qaa (.bool true) 66 rfl kj kj ?_
  refine Qaa (.bool true) 67 rfl kj kj ?_
  refine Qaa (.iface 60 (.int .i64 8)) 68 rfl kj kj ?_
  refine Qax (.bool true) 38 #[.iface 60 (.int .i64 8), .int .i64 8] 69 rfl kj kj ((Go.Proofs.YtoiendjhplbjjaaDoor.Lk.IsT 8 _ (Go.Proofs.YtoiendjhplbjjaaDoor.Lk.errV_ne (by decide))) _) fun W17 e17 => ?_
  have x17 : Ext w W17 := Ext.tr x16 e17
  refine Qaa (.bool true) 70 rfl kj kj ?_
  refine Qaa (.bool true) 71 rfl kj kj ?_
  refine Qaa (.pointer none) 72 rfl kj kj ?_
  refine Qax (.bool false) 18 #[.pointer none] 73 rfl kj kj ((nCB) _) fun W18 e18 => ?_
  have x18 : Ext w W18 := Ext.tr x17 e18
  refine Qaa (.bool true) 74 rfl kj kj ?_
  refine Qaa (.bool true) 75 rfl kj kj ?_
  refine Qaa (.bool true) 76 rfl kj kj ?_
  refine Qaa (.pointer none) 77 rfl kj kj ?_
  refine Qax (.int .i64 0) 27 #[.pointer none] 78 rfl kj kj ((nCN) _) fun W19 e19 => ?_
  have x19 : Ext w W19 := Ext.tr x18 e19
  refine Qaa (.bool true) 79 rfl kj kj ?_
  refine Qaa (.bool true) 80 rfl kj kj ?_
  refine Qaa (.bool true) 81 rfl kj kj ?_
  refine Qaa (.pointer none) 82 rfl kj kj ?_
  refine Qaa (.int .i64 n) 83 rfl kj kj ?_
  refine Qax (.bool false) 19 #[.pointer none, .int .i64 n] 84 rfl kj kj ((nCJ n) _) fun W20 e20 => ?_
  have x20 : Ext w W20 := Ext.tr x19 e20
  refine Qaa (.bool true) 85 rfl kj kj ?_
  refine Qaa (.bool true) 86 rfl kj kj ?_
  refine Qaa (.bool true) 87 rfl kj kj ?_
  refine Qaa (.pointer none) 88 rfl kj kj ?_
  refine Qax (.bool false) 39 #[.pointer none] 89 rfl kj kj ((nSB) _) fun W21 e21 => ?_
  have x21 : Ext w W21 := Ext.tr x20 e21
  refine Qaa (.bool true) 90 rfl kj kj ?_
  refine Qaa (.bool true) 91 rfl kj kj ?_
  refine Qaa (.bool true) 92 rfl kj kj ?_
  refine Qaa (.pointer none) 93 rfl kj kj ?_
  refine Qax (.int .i64 0) 36 #[.pointer none] 94 rfl kj kj ((nSN) _) fun W22 e22 => ?_
  have x22 : Ext w W22 := Ext.tr x21 e22
  refine Qaa (.bool true) 95 rfl kj kj ?_
  refine Qaa (.bool true) 96 rfl kj kj ?_
  refine Qaa (.bool true) 97 rfl kj kj ?_
  refine Qaa (.pointer none) 98 rfl kj kj ?_
  refine Qaa (.int .i64 n) 99 rfl kj kj ?_
  refine Qax (.bool false) 40 #[.pointer none, .int .i64 n] 100 rfl kj kj ((nSJ n) _) fun W23 e23 => ?_
  have x23 : Ext w W23 := Ext.tr x22 e23
  refine Qaa (.bool true) 101 rfl kj kj ?_
  refine Qaa (.bool true) 102 rfl kj kj ?_
  refine Qaa (.bool true) 103 rfl kj kj ?_
  refine Qaa (.pointer none) 104 rfl kj kj ?_
  refine Qax (.agg (ints .u8 (List.replicate 32 0))) 35 #[.pointer none] 105 rfl kj kj ((nHa) _) fun W24 e24 => ?_
  have x24 : Ext w W24 := Ext.tr x23 e24
  refine Qaa (.agg (ints .u8 (List.replicate 32 0))) 106 rfl kj kj ?_
  refine Qaa (.bool true) 107 rfl kj (Qc5 29 _ _ _ _ _ (.bool true) rfl kj kj kj (Qdt 29 (e := 5) (k := .u8) (List.replicate 32 0) (List.replicate 32 0) (decide_eq_true rfl) (List.length_replicate (n := 32)) (List.length_replicate (n := 32)) kj kj kj _)) ?_
  refine Qaa (.bool true) 108 rfl kj kj ?_
  refine Qaa (.bool true) 109 rfl kj kj ?_
  have r18_13 := (Puts.row p13 r18_12 (Qaf r18_10 l19))
  have r18_14 := (Qad r18_13 e14)
  have r18_15 := (Qad r18_14 e15)
  have r18_16 := (Qad r18_15 e16)
  have r18_17 := (Qad r18_16 e17)
  have r18_18 := (Qad r18_17 e18)
  have r18_19 := (Qad r18_18 e19)
  have r18_20 := (Qad r18_19 e20)
  have r18_21 := (Qad r18_20 e21)
  have r18_22 := (Qad r18_21 e22)
  have r18_23 := (Qad r18_22 e23)
  have r18_24 := (Qad r18_23 e24)
  refine Qaa (.agg (ints .u8 (List.replicate 32 0))) 110 rfl kj (Qar 23 _ g18 23 _ _ r18_24 rfl kj kj (isz (n := 32) kj ((Qae _ _).trans (List.length_replicate (n := 32))))) ?_
  refine Qaa (.agg (ints .u8 (List.replicate 32 0))) 111 rfl kj kj ?_
  refine Qaa (.bool true) 112 rfl kj (Qc5 23 _ _ _ _ _ (.bool true) rfl kj kj kj (Qdt 23 (e := 5) (k := .u8) (List.replicate 32 0) (List.replicate 32 0) (decide_eq_true rfl) (List.length_replicate (n := 32)) (List.length_replicate (n := 32)) kj kj kj _)) ?_
  refine Qaa (.bool true) 113 rfl kj kj ?_
  refine Qaa (.bool true) 114 rfl kj kj ?_
  have r19_14 := (Qad r19_13 e14)
  have r19_15 := (Qad r19_14 e15)
  have r19_16 := (Qad r19_15 e16)
  have r19_17 := (Qad r19_16 e17)
  have r19_18 := (Qad r19_17 e18)
  have r19_19 := (Qad r19_18 e19)
  have r19_20 := (Qad r19_19 e20)
  have r19_21 := (Qad r19_20 e21)
  have r19_22 := (Qad r19_21 e22)
  have r19_23 := (Qad r19_22 e23)
  have r19_24 := (Qad r19_23 e24)
  refine Qaa (.agg (ints .u8 (List.replicate 32 0))) 115 rfl kj (Qar 23 _ g19 23 _ _ r19_24 rfl kj kj (isz (n := 32) kj ((Qae _ _).trans (List.length_replicate (n := 32))))) ?_
  refine Qaa (.agg (ints .u8 (List.replicate 32 0))) 116 rfl kj kj ?_
  refine Qaa (.bool true) 117 rfl kj (Qc5 23 _ _ _ _ _ (.bool true) rfl kj kj kj (Qdt 23 (e := 5) (k := .u8) (List.replicate 32 0) (List.replicate 32 0) (decide_eq_true rfl) (List.length_replicate (n := 32)) (List.length_replicate (n := 32)) kj kj kj _)) ?_
  refine Qaa (.bool true) 118 rfl kj kj ?_
  refine Qaa (.bool true) 4 rfl kj kj ?_
  refine Qac ?_
  refine hK20 _ _ ?_
  refine wp_ret ?_
  repeat (first | with_reducible refine goR1 ?_ | with_reducible refine goR2 ?_)
  exact (show bodyPost _ _ _ .ret _ _ from ret1 (.bool true) rfl (Qa5 kj) ⟨rfl, x24⟩)
end Go.Proofs.YtoiendjhplbjjaaDoor.Ci
end
section
namespace Go.Proofs.YtoiendjhplbjjaaDoor.Auto
open Go Go.RowKit
open Rely
set_option linter.unusedVariables false
theorem Qdf {P : Program} {w : World} : ∀ (laid : List (String × DataW Unit)) (ps : List MemPlace) (n : String) (d : DataW Unit), DataW.LaidVars P w laid ps → (n, d) ∈ laid →
    ∃ g t cs fuel p, P.globalNamed n = some g ∧ (P.globals[g]?).map (·.type) = some t ∧ w.var? P n = some cs ∧ DataW.trod (fun _ => ()) P w 0 (fun _ => true) false fuel t cs.toList = some (d, p) ∧ ∀ x ∈ MemPlace.row ⟨g, 0, none⟩ cs.size, x ∈ ps
  | [], _, _, _, _, h => by cases h
  | (n0, d0) :: r, ps, n, d, ⟨g, t, cs, fuel, p, q, h1, h2, h3, h4, h5, h6⟩, h => by
    subst h6
    rcases List.mem_cons.1 h with h | h
    · cases h
      exact ⟨g, t, cs, fuel, p, h1, h2, h3, h4, fun x hx => List.mem_append_left _ (List.mem_append_left _ hx)⟩
    · obtain ⟨g', t', cs', fuel', p', a, b, c, e, f⟩ := Qdf r q n d h5 h
      exact ⟨g', t', cs', fuel', p', a, b, c, e, fun x hx => List.mem_append_right _ (f x hx)⟩
theorem QeT {P : Program} {w : World} {laid : List (String × DataW Unit)} {n : String} {k : IntKind} {zs : List Int} {g : Nat} {t e : TypeId} {m : Nat} (h : laidMet P laid w) (hm : (n, Lib.tabData k zs) ∈ laid)
    (hg : P.globalNamed n = some g) (hty : (P.globals[g]?).map (·.type) = some t) (ht : P.underlying t = some (.array m e)) (he : P.underlying e = some (.int k)) (hce : P.cellsOf e = 1) (hct : P.cellsOf t = m) (h0 : 0 < zs.length) :
    ∃ t, w.heap[g]? = some (.cells (ints k zs) t) := by
  obtain ⟨ps, hL, -, hC⟩ := h
  obtain ⟨g', t', cs, fuel, p, hg', ht', hvar, hd, hin⟩ := Qdf _ _ _ _ hL hm
  obtain rfl := Option.some.inj (hg.symm.trans hg')
  obtain rfl := Option.some.inj (hty.symm.trans ht')
  have hcs := Lib.cells_of_tab ht he hce hct hd
  have hsz : 0 < cs.size := by rw [← Array.length_toList, hcs, List.length_map]; exact h0
  obtain ⟨⟨c, t2, hc⟩, -⟩ := hC g 0 (hin _ (List.mem_map.2 ⟨0, List.mem_range.2 hsz, rfl⟩))
  unfold World.var? at hvar
  rw [hg] at hvar
  simp only [Option.bind_some, hc, Option.some.injEq] at hvar
  subst hvar
  refine ⟨t2, hc.trans ?_⟩
  rw [show c = ints k zs from by rw [ints, ← hcs]]
end Go.Proofs.YtoiendjhplbjjaaDoor.Auto
end
section
namespace Go.Proofs.YtoiendjhplbjjaaDoor.Auto
open Go Go.RowKit
open Rely
set_option linter.unusedVariables false
theorem chunks {α : Type} (m : Nat) : ∀ (n : Nat) (cs : List α), cs.length = n * m → ((List.range n).map fun i => (cs.drop (i * m)).take m).flatten = cs
  | 0, cs, h => by
    have : cs = [] := List.length_eq_zero_iff.1 (by simpa using h)
    subst this; rfl
  | n + 1, cs, h => by
    have hm : (n + 1) * m = n * m + m := Nat.succ_mul n m
    rw [List.range_succ, List.map_append, List.flatten_append]
    have ih := chunks m n (cs.take (n * m)) (by rw [List.length_take]; omega)
    have e1 : ((List.range n).map fun i => (cs.drop (i * m)).take m) = ((List.range n).map fun i => ((cs.take (n * m)).drop (i * m)).take m) := by
      refine List.map_congr_left fun i hi => ?_
      rw [List.mem_range] at hi
      have h1 : (i + 1) * m ≤ n * m := Nat.mul_le_mul_right m hi
      rw [Nat.succ_mul] at h1
      rw [List.drop_take, List.take_take, Nat.min_eq_left (by omega)]
    rw [e1, ih]
    simp only [List.map_cons, List.map_nil, List.flatten_cons, List.flatten_nil, List.append_nil]
    have e2 : (cs.drop (n * m)).take m = cs.drop (n * m) := List.take_of_length_le (by rw [List.length_drop]; omega)
    rw [e2, List.take_append_drop]
theorem QeU {H : Type} {enc : TypeId × Value → H} {P : Program} {w : World} {base : Nat} {sp : Nat → Bool} {held : Bool} {fuel : Nat} {t e i : TypeId} {n m : Nat} {k : IntKind} {cs : List Value} {zss : List (List Int)} {p : List MemPlace}
    (ht : P.underlying t = some (.array n e)) (he : P.underlying e = some (.array m i)) (hi : P.underlying i = some (.int k)) (hci : P.cellsOf i = 1) (hce : P.cellsOf e = m) (hct : P.cellsOf t = n * m)
    (h : DataW.trod enc P w base sp held fuel t cs = some (.agg (zss.map (Lib.tabData k)), p)) : cs = zss.flatten.map fun z => Value.int k z := by
  cases fuel with
  | zero => simp [DataW.trod] at h
  | succ fuel =>
    simp only [DataW.trod, ht, hce, hct] at h
    split at h
    · rename_i hl
      obtain ⟨xs, hm, hx⟩ := Option.map_eq_some_iff.1 h
      have hxs : xs.map (·.1) = zss.map fun z => (Lib.tabData k z : DataW H) := by
        have := congrArg Prod.fst hx
        simpa using this
      have hxl : xs.length = n := by simpa using Lib.mapM_length hm
      have hzl : zss.length = n := by
        have := congrArg List.length hxs
        simp at this
        omega
      rw [← chunks m n cs (by simpa using hl), List.map_flatten]
      congr 1
      apply List.ext_getElem?
      intro j
      by_cases hj : j < n
      · obtain ⟨b, hb, hf⟩ := Lib.mapM_at hm j j (by simp [hj])
        have h2 : (xs.map (·.1))[j]? = some b.1 := by simp [hb]
        rw [hxs, List.getElem?_map, List.getElem?_eq_getElem (by omega), Option.map_some, Option.some.injEq] at h2
        have h3 := Lib.cells_of_tab he hi hci hce (zs := zss[j]'(by omega)) (p := b.2) (by rw [h2]; exact hf)
        rw [List.getElem?_map, List.getElem?_map, List.getElem?_range hj, List.getElem?_eq_getElem (by omega), Option.map_some, Option.map_some, h3]
      · rw [List.getElem?_eq_none (by simp; omega), List.getElem?_eq_none (by simp; omega)]
    · cases h
theorem Qhz {P : Program} {w : World} {laid : List (String × DataW Unit)} {n : String} {k : IntKind} {zss : List (List Int)} {g : Nat} {t e i : TypeId} {m1 m : Nat} (h : laidMet P laid w) (hm : (n, DataW.agg (zss.map (Lib.tabData k))) ∈ laid)
    (hg : P.globalNamed n = some g) (hty : (P.globals[g]?).map (·.type) = some t) (ht : P.underlying t = some (.array m1 e)) (he : P.underlying e = some (.array m i)) (hi : P.underlying i = some (.int k)) (hci : P.cellsOf i = 1) (hce : P.cellsOf e = m) (hct : P.cellsOf t = m1 * m) (h0 : 0 < zss.flatten.length) :
    ∃ t, w.heap[g]? = some (.cells (ints k zss.flatten) t) := by
  obtain ⟨ps, hL, -, hC⟩ := h
  obtain ⟨g', t', cs, fuel, p, hg', ht', hvar, hd, hin⟩ := Qdf _ _ _ _ hL hm
  obtain rfl := Option.some.inj (hg.symm.trans hg')
  obtain rfl := Option.some.inj (hty.symm.trans ht')
  have hcs := QeU ht he hi hci hce hct hd
  have hsz : 0 < cs.size := by rw [← Array.length_toList, hcs, List.length_map]; exact h0
  obtain ⟨⟨c, t2, hc⟩, -⟩ := hC g 0 (hin _ (List.mem_map.2 ⟨0, List.mem_range.2 hsz, rfl⟩))
  unfold World.var? at hvar
  rw [hg] at hvar
  simp only [Option.bind_some, hc, Option.some.injEq] at hvar
  subst hvar
  refine ⟨t2, hc.trans ?_⟩
  rw [show c = ints k zss.flatten from by rw [ints, ← hcs]]
end Go.Proofs.YtoiendjhplbjjaaDoor.Auto
end
