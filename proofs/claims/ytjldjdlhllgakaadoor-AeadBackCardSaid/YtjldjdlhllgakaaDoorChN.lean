/- ChaCha20: too large; the numbers of errors. -/
import Derived.Test.YtjldjdlhllgakaaDoorChS
namespace Go.Proofs.YtjldjdlhllgakaaDoor.Cha
open Go Go.RowKit
open Go.Proofs.YtjldjdlhllgakaaDoor.Rely Go.Proofs.YtjldjdlhllgakaaDoor.Auto Go.Proofs.YtjldjdlhllgakaaDoor.Own Go.Proofs.YtjldjdlhllgakaaDoor.Sha
set_option linter.unusedVariables false
set_option linter.unusedSimpArgs false

open Go.Proofs.YtjldjdlhllgakaaDoor.Sha
set_option maxHeartbeats 4000000 in
theorem num0 (w : World) : Calls Tryd.prog 18 #[.nilIface] w (Ret w (.int .i64 0)) := by
  refine enter 19 [(0, .nilIface)] Tryd.func18 rfl rfl kj rfl ?_
  refine wp_seq_k fun K1 hK1 => ?_
  refine region_lit ?_
  refine seq_val (.int .i64 0) 2 rfl kj kj ?_
  refine seq_nil ?_
  refine hK1 _ _ ?_
  try clear hK1 K1
  refine wp_seq_k fun K2 hK2 => ?_
  refine wp_seq_k fun K3 hK3 => ?_
  refine region_lit ?_
  refine seq_val (.nilIface) 5 rfl kj kj ?_
  refine seq_val (.bool true) 6 rfl kj kj ?_
  refine seq_nil ?_
  refine hK3 _ _ ?_
  try clear hK3 K3
  refine cond_true kj ?_
  refine wp_seq_k fun K4 hK4 => ?_
  refine region_lit ?_
  refine seq_val (.int .i64 0) 2 rfl kj kj ?_
  refine seq_nil ?_
  refine hK4 _ _ ?_
  try clear hK4 K4
  refine wp_ret ?_
  repeat (first | with_reducible refine goR1 ?_ | with_reducible refine goR2 ?_)
  exact (show bodyPost _ _ _ .ret _ _ from ret1 (.int .i64 0) rfl (res_tmp kj) ⟨rfl, (Rely.Ext.refl w)⟩)
set_option maxHeartbeats 4000000 in
theorem num1 (w : World) : Calls Tryd.prog 18 #[.iface 45 (.int .i64 1)] w (Ret w (.int .i64 1)) := by
  refine enter 19 [(0, .iface 45 (.int .i64 1))] Tryd.func18 rfl rfl kj rfl ?_
  refine wp_seq_k fun K1 hK1 => ?_
  refine region_lit ?_
  refine seq_val (.int .i64 0) 2 rfl kj kj ?_
  refine seq_nil ?_
  refine hK1 _ _ ?_
  try clear hK1 K1
  refine wp_seq_k fun K2 hK2 => ?_
  refine wp_seq_k fun K3 hK3 => ?_
  refine region_lit ?_
  refine seq_val (.iface 45 (.int .i64 1)) 5 rfl kj kj ?_
  refine seq_val (.bool false) 6 rfl kj kj ?_
  refine seq_nil ?_
  refine hK3 _ _ ?_
  try clear hK3 K3
  refine cond_false kj ?_
  refine wp_skip ?_
  refine hK2 _ _ ?_
  try clear hK2 K2
  refine wp_seq_k fun K4 hK4 => ?_
  refine region_lit ?_
  refine seq_val (.iface 45 (.int .i64 1)) 8 rfl kj kj ?_
  refine seq_val (.tuple #[.int .i64 1, .bool true]) 9 rfl kj kj ?_
  refine seq_val (.tuple #[.int .i64 1, .bool true]) 7 rfl kj kj ?_
  refine seq_val (.int .i64 1) 10 rfl kj kj ?_
  refine seq_val (.bool true) 11 rfl kj kj ?_
  refine seq_val (.int .i64 1) 3 rfl kj kj ?_
  refine seq_val (.bool true) 4 rfl kj kj ?_
  refine seq_nil ?_
  refine hK4 _ _ ?_
  try clear hK4 K4
  refine wp_seq_k fun K5 hK5 => ?_
  refine wp_seq_k fun K6 hK6 => ?_
  refine region_lit ?_
  refine seq_val (.bool true) 12 rfl kj kj ?_
  refine seq_val (.bool false) 13 rfl kj kj ?_
  refine seq_val (.bool false) 14 rfl kj kj ?_
  refine seq_val (.int .i64 1) 15 rfl kj kj ?_
  refine seq_val (.bool false) 16 rfl kj kj ?_
  refine seq_val (.bool false) 17 rfl kj kj ?_
  refine seq_nil ?_
  refine hK6 _ _ ?_
  try clear hK6 K6
  refine cond_false kj ?_
  refine wp_skip ?_
  refine hK5 _ _ ?_
  try clear hK5 K5
  refine wp_seq_k fun K7 hK7 => ?_
  refine region_lit ?_
  refine seq_val (.int .i64 1) 18 rfl kj kj ?_
  refine seq_val (.int .i64 1) 2 rfl kj kj ?_
  refine seq_nil ?_
  refine hK7 _ _ ?_
  try clear hK7 K7
  refine wp_ret ?_
  repeat (first | with_reducible refine goR1 ?_ | with_reducible refine goR2 ?_)
  exact (show bodyPost _ _ _ .ret _ _ from ret1 (.int .i64 1) rfl (res_tmp kj) ⟨rfl, (Rely.Ext.refl w)⟩)
set_option maxHeartbeats 4000000 in
theorem num8 (w : World) : Calls Tryd.prog 18 #[.iface 45 (.int .i64 8)] w (Ret w (.int .i64 8)) := by
  refine enter 19 [(0, .iface 45 (.int .i64 8))] Tryd.func18 rfl rfl kj rfl ?_
  refine wp_seq_k fun K1 hK1 => ?_
  refine region_lit ?_
  refine seq_val (.int .i64 0) 2 rfl kj kj ?_
  refine seq_nil ?_
  refine hK1 _ _ ?_
  try clear hK1 K1
  refine wp_seq_k fun K2 hK2 => ?_
  refine wp_seq_k fun K3 hK3 => ?_
  refine region_lit ?_
  refine seq_val (.iface 45 (.int .i64 8)) 5 rfl kj kj ?_
  refine seq_val (.bool false) 6 rfl kj kj ?_
  refine seq_nil ?_
  refine hK3 _ _ ?_
  try clear hK3 K3
  refine cond_false kj ?_
  refine wp_skip ?_
  refine hK2 _ _ ?_
  try clear hK2 K2
  refine wp_seq_k fun K4 hK4 => ?_
  refine region_lit ?_
  refine seq_val (.iface 45 (.int .i64 8)) 8 rfl kj kj ?_
  refine seq_val (.tuple #[.int .i64 8, .bool true]) 9 rfl kj kj ?_
  refine seq_val (.tuple #[.int .i64 8, .bool true]) 7 rfl kj kj ?_
  refine seq_val (.int .i64 8) 10 rfl kj kj ?_
  refine seq_val (.bool true) 11 rfl kj kj ?_
  refine seq_val (.int .i64 8) 3 rfl kj kj ?_
  refine seq_val (.bool true) 4 rfl kj kj ?_
  refine seq_nil ?_
  refine hK4 _ _ ?_
  try clear hK4 K4
  refine wp_seq_k fun K5 hK5 => ?_
  refine wp_seq_k fun K6 hK6 => ?_
  refine region_lit ?_
  refine seq_val (.bool true) 12 rfl kj kj ?_
  refine seq_val (.bool false) 13 rfl kj kj ?_
  refine seq_val (.bool false) 14 rfl kj kj ?_
  refine seq_val (.int .i64 8) 15 rfl kj kj ?_
  refine seq_val (.bool false) 16 rfl kj kj ?_
  refine seq_val (.bool false) 17 rfl kj kj ?_
  refine seq_nil ?_
  refine hK6 _ _ ?_
  try clear hK6 K6
  refine cond_false kj ?_
  refine wp_skip ?_
  refine hK5 _ _ ?_
  try clear hK5 K5
  refine wp_seq_k fun K7 hK7 => ?_
  refine region_lit ?_
  refine seq_val (.int .i64 8) 18 rfl kj kj ?_
  refine seq_val (.int .i64 8) 2 rfl kj kj ?_
  refine seq_nil ?_
  refine hK7 _ _ ?_
  try clear hK7 K7
  refine wp_ret ?_
  repeat (first | with_reducible refine goR1 ?_ | with_reducible refine goR2 ?_)
  exact (show bodyPost _ _ _ .ret _ _ from ret1 (.int .i64 8) rfl (res_tmp kj) ⟨rfl, (Rely.Ext.refl w)⟩)

end Go.Proofs.YtjldjdlhllgakaaDoor.Cha
