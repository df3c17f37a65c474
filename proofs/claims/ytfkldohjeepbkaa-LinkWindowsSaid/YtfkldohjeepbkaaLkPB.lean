/- Windows: a number is accepted. -/
import Derived.Test.YtfkldohjeepbkaaLkPA
namespace Go.Proofs.Ytfkldohjeepbkaa.Lk
open Go Go.RowKit
open Go.Proofs.Ytfkldohjeepbkaa.Rely Go.Proofs.Ytfkldohjeepbkaa.Auto
set_option linter.unusedVariables false

theorem errV_ne {e : Int} (h : e ≠ 0) : errV e = .iface 44 (.int .i64 e) := by unfold errV; rw [if_neg h]
theorem errV_nil {e : Int} (h : e = 0) : errV e = .nilIface := by unfold errV; rw [if_pos h]
set_option maxHeartbeats 4000000 in
theorem mark_no (g : Nat) (nx : Int) (B : Nat) (n : Int) (hnx : 0 ≤ nx ∧ nx ≤ 4294967295) (hB : B < 18446744073709551616) (w : World) (hg : w.heap[g]? = some (.cells (cat [#[.int .i64 nx], #[.int .u64 ((B : Nat) : Int)]]) 35)) (hc : chkW nx B n ≠ 0) : Calls Try.prog 19 #[.pointer (some ⟨g, 0, none⟩), .int .i64 n] w (Ret w (.iface 44 (.int .i64 (chkW nx B n)))) := by
  refine enter 48 [(0, .pointer (some ⟨g, 0, none⟩)), (1, .int .i64 n)] Try.func19 rfl rfl (by kernel_rfl) rfl ?_
  refine wp_seq_k fun K2 hK2 => ?_
  refine region_lit ?_
  refine seq_val (.nilIface) 4 rfl (by kernel_rfl) (by kernel_rfl) ?_
  refine seq_nil ?_
  refine hK2 _ _ ?_
  try clear hK2 K2
  refine wp_seq_k fun K3 hK3 => ?_
  refine wp_seq_k fun K4 hK4 => ?_
  refine region_lit ?_
  refine seq_val (.pointer (some ⟨g, 0, none⟩)) 7 rfl (by kernel_rfl) (by kernel_rfl) ?_
  refine seq_val (.int .i64 n) 8 rfl (by kernel_rfl) (by kernel_rfl) ?_
  refine seq_call (.iface 44 (.int .i64 (chkW nx B n))) 18 #[.pointer (some ⟨g, 0, none⟩), .int .i64 n] 9 rfl (by kernel_rfl) (by kernel_rfl) (errV_ne hc ▸ checkC g nx B n hnx hB _ hg) fun W1 e1 => ?_
  have x1 : Ext w W1 := Ext.tr (Rely.Ext.refl w) e1
  refine seq_val (.iface 44 (.int .i64 (chkW nx B n))) 5 rfl (by kernel_rfl) (by kernel_rfl) ?_
  refine seq_nil ?_
  refine hK4 _ _ ?_
  try clear hK4 K4
  refine wp_seq_k fun K5 hK5 => ?_
  refine region_lit ?_
  refine seq_val (.iface 44 (.int .i64 (chkW nx B n))) 10 rfl (by kernel_rfl) (by kernel_rfl) ?_
  refine seq_val (.bool true) 11 rfl (by kernel_rfl) (by kernel_rfl) ?_
  refine seq_nil ?_
  refine hK5 _ _ ?_
  try clear hK5 K5
  refine cond_true (by kernel_rfl) ?_
  refine wp_seq_k fun K6 hK6 => ?_
  refine region_lit ?_
  refine seq_val (.iface 44 (.int .i64 (chkW nx B n))) 12 rfl (by kernel_rfl) (by kernel_rfl) ?_
  refine seq_val (.iface 44 (.int .i64 (chkW nx B n))) 4 rfl (by kernel_rfl) (by kernel_rfl) ?_
  refine seq_nil ?_
  refine hK6 _ _ ?_
  try clear hK6 K6
  refine wp_ret ?_
  repeat (first | with_reducible refine goR1 ?_ | with_reducible refine goR2 ?_)
  exact (show bodyPost _ _ _ .ret _ _ from ret1 (.iface 44 (.int .i64 (chkW nx B n))) rfl (res_tmp (by kernel_rfl)) ⟨rfl, x1⟩)
theorem i64_neg (a b : Int) (h : -5000000000 ≤ a ∧ a ≤ 5000000000) (e : 0 - a = b) : IntKind.i64.wrap (0 - a) = b := by rw [e]; exact i64_w _ (by omega)
theorem pow_lt (j : Nat) (h : j < 64) : 2 ^ j < 18446744073709551616 := Nat.pow_lt_pow_right (by decide) h
theorem shl1 (j : Nat) (h : j < 64) : IntKind.u64.wrap (1 * 2 ^ min ((j : Nat) : Int).toNat IntKind.u64.bits) = ((2 ^ j : Nat) : Int) := by
  have := shlB 1 j
  rw [Nat.one_mul, Nat.mod_eq_of_lt (pow_lt j h)] at this
  exact this
set_option maxHeartbeats 4000000 in
theorem mark_F (g : Nat) (nx : Int) (B : Nat) (n : Int) (hnx : 0 ≤ nx ∧ nx ≤ 4294967295) (hB : B < 18446744073709551616) (w : World) (hg : w.heap[g]? = some (.cells (cat [#[.int .i64 nx], #[.int .u64 ((B : Nat) : Int)]]) 35)) (hc : chkW nx B n = 0) (j : Nat) (hj : nx - 1 - n - 1 = (j : Int)) (hj2 : j < 64) : Calls Try.prog 19 #[.pointer (some ⟨g, 0, none⟩), .int .i64 n] w (fun e w' => e = .returned .nilIface ∧ ExtB g w w' ∧ w'.heap[g]? = some (.cells (cat [#[.int .i64 nx], #[.int .u64 (((B ||| 2 ^ j : Nat) : Int))]]) 35)) := by
  refine enter 48 [(0, .pointer (some ⟨g, 0, none⟩)), (1, .int .i64 n)] Try.func19 rfl rfl (by kernel_rfl) rfl ?_
  refine wp_seq_k fun K2 hK2 => ?_
  refine region_lit ?_
  refine seq_val (.nilIface) 4 rfl (by kernel_rfl) (by kernel_rfl) ?_
  refine seq_nil ?_
  refine hK2 _ _ ?_
  try clear hK2 K2
  refine wp_seq_k fun K3 hK3 => ?_
  refine wp_seq_k fun K4 hK4 => ?_
  refine region_lit ?_
  refine seq_val (.pointer (some ⟨g, 0, none⟩)) 7 rfl (by kernel_rfl) (by kernel_rfl) ?_
  refine seq_val (.int .i64 n) 8 rfl (by kernel_rfl) (by kernel_rfl) ?_
  refine seq_call (.nilIface) 18 #[.pointer (some ⟨g, 0, none⟩), .int .i64 n] 9 rfl (by kernel_rfl) (by kernel_rfl) (errV_nil hc ▸ checkC g nx B n hnx hB _ hg) fun W1 e1 => ?_
  have x1 : ExtB g w W1 := ExtB.ext (ExtB.refl g w) e1
  refine seq_val (.nilIface) 5 rfl (by kernel_rfl) (by kernel_rfl) ?_
  refine seq_nil ?_
  refine hK4 _ _ ?_
  try clear hK4 K4
  refine wp_seq_k fun K5 hK5 => ?_
  refine region_lit ?_
  refine seq_val (.nilIface) 10 rfl (by kernel_rfl) (by kernel_rfl) ?_
  refine seq_val (.bool false) 11 rfl (by kernel_rfl) (by kernel_rfl) ?_
  refine seq_nil ?_
  refine hK5 _ _ ?_
  try clear hK5 K5
  refine cond_false (by kernel_rfl) ?_
  refine wp_skip ?_
  refine hK3 _ _ ?_
  try clear hK3 K3
  refine wp_seq_k fun K6 hK6 => ?_
  refine region_lit ?_
  refine seq_val (.int .i64 n) 13 rfl (by kernel_rfl) (by kernel_rfl) ?_
  refine seq_val (.pointer (some ⟨g, 0, none⟩)) 14 rfl (by kernel_rfl) (by kernel_rfl) ?_
  have r1_1 := (row_ext hg e1)
  refine seq_call (.int .i64 (nx - 1)) 20 #[.pointer (some ⟨g, 0, none⟩)] 15 rfl (by kernel_rfl) (by kernel_rfl) (highestC g nx B hnx hB _ r1_1) fun W2 e2 => ?_
  have x2 : ExtB g w W2 := ExtB.ext x1 e2
  refine seq_val (.int .i64 (n - (nx - 1))) 16 rfl (by kernel_rfl) (run_eq (u := .int .i64 (IntKind.i64.wrap (n - (nx - 1)))) (by kernel_rfl) (congrArg (Value.int .i64) (i64_w _ (by omega)))) ?_
  refine seq_val (.int .i64 (n - (nx - 1))) 6 rfl (by kernel_rfl) (by kernel_rfl) ?_
  refine seq_nil ?_
  refine hK6 _ _ ?_
  try clear hK6 K6
  refine wp_seq_k fun K7 hK7 => ?_
  refine wp_seq_k fun K8 hK8 => ?_
  refine region_lit ?_
  refine seq_val (.int .i64 (n - (nx - 1))) 17 rfl (by kernel_rfl) (by kernel_rfl) ?_
  refine seq_val (.bool true) 18 rfl (by kernel_rfl) (run_eq (u := .bool (decide ((n - (nx - 1)) < 0))) (by kernel_rfl) (congrArg Value.bool (decide_eq_true (by omega)))) ?_
  refine seq_nil ?_
  refine hK8 _ _ ?_
  try clear hK8 K8
  refine cond_true (by kernel_rfl) ?_
  refine wp_seq_k fun K9 hK9 => ?_
  refine any_region 11 [⟨none, [(0, none)]⟩, ⟨none, [(19, some 0)]⟩, ⟨none, [(20, some 1)]⟩, ⟨none, [(21, some 2)]⟩, ⟨none, [(6, none)]⟩, ⟨none, [(23, some 4)]⟩, ⟨none, [(24, some 5)]⟩, ⟨none, [(25, some 6)]⟩, ⟨none, [(22, some 3), (26, some 7)]⟩, ⟨none, [(19, some 0)]⟩, ⟨none, [(28, some 9)]⟩] (by kernel_rfl) (by kernel_rfl) fun F hF => ?_
  refine any_val (.pointer (some ⟨g, 0, none⟩)) (by kernel_rfl) (by kernel_rfl) (fun W => by kernel_rfl) ?_
  refine any_val (.pointer (some ⟨g, 0, none⟩)) (by kernel_rfl) (by kernel_rfl) (fun W => by kernel_rfl) ?_
  refine any_val (.pointer (some ⟨g, 1, none⟩)) (by kernel_rfl) (by kernel_rfl) (fun W => by kernel_rfl) ?_
  have r1_2 := (row_ext r1_1 e2)
  refine any_read (.int .u64 (((B : Nat) : Int))) (by kernel_rfl) (by kernel_rfl) (fun W hR => (run_loadC1 31 _ g 1 35 _ (.int .u64 (((B : Nat) : Int))) _ (row_ext (row_ext r1_2 (ext_drew _)) hR) rfl (by kernel_rfl) (by kernel_rfl) (by kernel_rfl))) ?_
  refine any_val (.int .i64 (n - (nx - 1))) (by kernel_rfl) (by kernel_rfl) (fun W => by kernel_rfl) ?_
  refine any_val (.int .i64 (nx - 1 - n)) (by kernel_rfl) (by kernel_rfl) (fun W => (run_eq (u := .int .i64 (IntKind.i64.wrap (0 - (n - (nx - 1))))) (by kernel_rfl) (congrArg (Value.int .i64) (i64_neg _ _ (by omega) (by omega))))) ?_
  refine any_val (.int .i64 (((j : Nat) : Int))) (by kernel_rfl) (by kernel_rfl) (fun W => (run_eq (u := .int .i64 (IntKind.i64.wrap ((nx - 1 - n) - 1))) (by kernel_rfl) (congrArg (Value.int .i64) (by rw [hj]; exact i64_w _ (by omega))))) ?_
  refine any_val (.int .u64 (((2 ^ j : Nat) : Int))) (by kernel_rfl) (by kernel_rfl) (fun W => (run_bin .shl _ _ _ _ .u64 .i64 _ _ _ rfl (by kernel_rfl) (by kernel_rfl) (b_shl _ _ _ _ _ _ (by omega) (shl1 j hj2)))) ?_
  refine any_val (.int .u64 (((B ||| 2 ^ j : Nat) : Int))) (by kernel_rfl) (by kernel_rfl) (fun W => (run_eq (u := .int .u64 (bits .or .u64 ((((B : Nat) : Int))) ((((2 ^ j : Nat) : Int))))) (by kernel_rfl) (congrArg (Value.int .u64) (orB _ _ hB (pow_lt j hj2))))) ?_
  refine any_val (.pointer (some ⟨g, 0, none⟩)) (by kernel_rfl) (by kernel_rfl) (fun W => by kernel_rfl) ?_
  refine any_val (.pointer (some ⟨g, 1, none⟩)) (by kernel_rfl) (by kernel_rfl) (fun W => by kernel_rfl) ?_
  refine steps_nil (hF _ (by kernel_rfl) fun W3 e3 => ?_)
  simp only [ups, up, Kn.val, List.take_succ_cons, List.take_zero, List.drop_succ_cons, List.drop_zero, List.nil_append, List.cons_append]
  clear hF
  have x3 : ExtB g w W3 := ExtB.ext x2 e3
  have r1_3 := (row_ext r1_2 e3)
  refine seq_store g _ (cat [#[.int .i64 nx], #[.int .u64 (((B ||| 2 ^ j : Nat) : Int))]]) 35 r1_3 rfl (by kernel_rfl) (run_storeC1 31 _ _ g 1 35 _ (.int .u64 (((B ||| 2 ^ j : Nat) : Int))) r1_3 rfl (by kernel_rfl) (by kernel_rfl) (by kernel_rfl) (by kernel_rfl) (by kernel_rfl) rfl) fun W4 p4 r1_4 => ?_
  have x4 : ExtB g w W4 := ExtB.puts x3 p4
  refine seq_nil ?_
  refine hK9 _ _ ?_
  try clear hK9 K9
  refine wp_seq_k fun K10 hK10 => ?_
  refine region_lit ?_
  refine seq_val (.nilIface) 4 rfl (by kernel_rfl) (by kernel_rfl) ?_
  refine seq_nil ?_
  refine hK10 _ _ ?_
  try clear hK10 K10
  refine wp_ret ?_
  repeat (first | with_reducible refine goR1 ?_ | with_reducible refine goR2 ?_)
  exact (show bodyPost _ _ _ .ret _ _ from ret1 (.nilIface) rfl (res_tmp (by kernel_rfl)) ⟨rfl, x4, r1_4⟩)
set_option maxHeartbeats 4000000 in
theorem mark_G (g : Nat) (nx : Int) (B : Nat) (n : Int) (hnx : 0 ≤ nx ∧ nx ≤ 4294967295) (hB : B < 18446744073709551616) (w : World) (hg : w.heap[g]? = some (.cells (cat [#[.int .i64 nx], #[.int .u64 ((B : Nat) : Int)]]) 35)) (hc : chkW nx B n = 0) (hn : 0 ≤ n ∧ n < 4294967295) (a : Nat) (ha : n - (nx - 1) = (a : Int)) (ha1 : 1 ≤ a) : Calls Try.prog 19 #[.pointer (some ⟨g, 0, none⟩), .int .i64 n] w (fun e w' => e = .returned .nilIface ∧ ExtB g w w' ∧ w'.heap[g]? = some (.cells (cat [#[.int .i64 (n + 1)], #[.int .u64 (((B * 2 ^ a % 18446744073709551616 ||| 1 * 2 ^ (a - 1) % 18446744073709551616 : Nat) : Int))]]) 35)) := by
  refine enter 48 [(0, .pointer (some ⟨g, 0, none⟩)), (1, .int .i64 n)] Try.func19 rfl rfl (by kernel_rfl) rfl ?_
  refine wp_seq_k fun K2 hK2 => ?_
  refine region_lit ?_
  refine seq_val (.nilIface) 4 rfl (by kernel_rfl) (by kernel_rfl) ?_
  refine seq_nil ?_
  refine hK2 _ _ ?_
  try clear hK2 K2
  refine wp_seq_k fun K3 hK3 => ?_
  refine wp_seq_k fun K4 hK4 => ?_
  refine region_lit ?_
  refine seq_val (.pointer (some ⟨g, 0, none⟩)) 7 rfl (by kernel_rfl) (by kernel_rfl) ?_
  refine seq_val (.int .i64 n) 8 rfl (by kernel_rfl) (by kernel_rfl) ?_
  refine seq_call (.nilIface) 18 #[.pointer (some ⟨g, 0, none⟩), .int .i64 n] 9 rfl (by kernel_rfl) (by kernel_rfl) (errV_nil hc ▸ checkC g nx B n hnx hB _ hg) fun W1 e1 => ?_
  have x1 : ExtB g w W1 := ExtB.ext (ExtB.refl g w) e1
  refine seq_val (.nilIface) 5 rfl (by kernel_rfl) (by kernel_rfl) ?_
  refine seq_nil ?_
  refine hK4 _ _ ?_
  try clear hK4 K4
  refine wp_seq_k fun K5 hK5 => ?_
  refine region_lit ?_
  refine seq_val (.nilIface) 10 rfl (by kernel_rfl) (by kernel_rfl) ?_
  refine seq_val (.bool false) 11 rfl (by kernel_rfl) (by kernel_rfl) ?_
  refine seq_nil ?_
  refine hK5 _ _ ?_
  try clear hK5 K5
  refine cond_false (by kernel_rfl) ?_
  refine wp_skip ?_
  refine hK3 _ _ ?_
  try clear hK3 K3
  refine wp_seq_k fun K6 hK6 => ?_
  refine region_lit ?_
  refine seq_val (.int .i64 n) 13 rfl (by kernel_rfl) (by kernel_rfl) ?_
  refine seq_val (.pointer (some ⟨g, 0, none⟩)) 14 rfl (by kernel_rfl) (by kernel_rfl) ?_
  have r1_1 := (row_ext hg e1)
  refine seq_call (.int .i64 (nx - 1)) 20 #[.pointer (some ⟨g, 0, none⟩)] 15 rfl (by kernel_rfl) (by kernel_rfl) (highestC g nx B hnx hB _ r1_1) fun W2 e2 => ?_
  have x2 : ExtB g w W2 := ExtB.ext x1 e2
  refine seq_val (.int .i64 (((a : Nat) : Int))) 16 rfl (by kernel_rfl) (run_eq (u := .int .i64 (IntKind.i64.wrap (n - (nx - 1)))) (by kernel_rfl) (congrArg (Value.int .i64) (by rw [ha]; exact i64_w _ (by omega)))) ?_
  refine seq_val (.int .i64 (((a : Nat) : Int))) 6 rfl (by kernel_rfl) (by kernel_rfl) ?_
  refine seq_nil ?_
  refine hK6 _ _ ?_
  try clear hK6 K6
  refine wp_seq_k fun K7 hK7 => ?_
  refine wp_seq_k fun K8 hK8 => ?_
  refine region_lit ?_
  refine seq_val (.int .i64 (((a : Nat) : Int))) 17 rfl (by kernel_rfl) (by kernel_rfl) ?_
  refine seq_val (.bool false) 18 rfl (by kernel_rfl) (run_eq (u := .bool (decide ((((a : Nat) : Int)) < 0))) (by kernel_rfl) (congrArg Value.bool (decide_eq_false (by omega)))) ?_
  refine seq_nil ?_
  refine hK8 _ _ ?_
  try clear hK8 K8
  refine cond_false (by kernel_rfl) ?_
  refine wp_skip ?_
  refine hK7 _ _ ?_
  try clear hK7 K7
  refine wp_seq_k fun K9 hK9 => ?_
  refine any_region 13 [⟨none, [(0, none)]⟩, ⟨none, [(0, none)]⟩, ⟨none, [(31, some 1)]⟩, ⟨none, [(32, some 2)]⟩, ⟨none, [(33, some 3)]⟩, ⟨none, [(6, none)]⟩, ⟨none, [(34, some 4), (35, some 5)]⟩, ⟨none, [(6, none)]⟩, ⟨none, [(37, some 7)]⟩, ⟨none, [(38, some 8)]⟩, ⟨none, [(36, some 6), (39, some 9)]⟩, ⟨none, [(30, some 0)]⟩, ⟨none, [(41, some 11)]⟩] (by kernel_rfl) (by kernel_rfl) fun F hF => ?_
  refine any_val (.pointer (some ⟨g, 0, none⟩)) (by kernel_rfl) (by kernel_rfl) (fun W => by kernel_rfl) ?_
  refine any_val (.pointer (some ⟨g, 0, none⟩)) (by kernel_rfl) (by kernel_rfl) (fun W => by kernel_rfl) ?_
  refine any_val (.pointer (some ⟨g, 0, none⟩)) (by kernel_rfl) (by kernel_rfl) (fun W => by kernel_rfl) ?_
  refine any_val (.pointer (some ⟨g, 1, none⟩)) (by kernel_rfl) (by kernel_rfl) (fun W => by kernel_rfl) ?_
  have r1_2 := (row_ext r1_1 e2)
  refine any_read (.int .u64 (((B : Nat) : Int))) (by kernel_rfl) (by kernel_rfl) (fun W hR => (run_loadC1 31 _ g 1 35 _ (.int .u64 (((B : Nat) : Int))) _ (row_ext (row_ext r1_2 (ext_drew _)) hR) rfl (by kernel_rfl) (by kernel_rfl) (by kernel_rfl))) ?_
  refine any_val (.int .i64 (((a : Nat) : Int))) (by kernel_rfl) (by kernel_rfl) (fun W => by kernel_rfl) ?_
  refine any_val (.int .u64 (((B * 2 ^ a % 18446744073709551616 : Nat) : Int))) (by kernel_rfl) (by kernel_rfl) (fun W => (run_bin .shl _ _ _ _ .u64 .i64 _ _ _ rfl (by kernel_rfl) (by kernel_rfl) (b_shl _ _ _ _ _ _ (by omega) (shlB B a)))) ?_
  refine any_val (.int .i64 (((a : Nat) : Int))) (by kernel_rfl) (by kernel_rfl) (fun W => by kernel_rfl) ?_
  refine any_val (.int .i64 (((a - 1 : Nat) : Int))) (by kernel_rfl) (by kernel_rfl) (fun W => (run_eq (u := .int .i64 (IntKind.i64.wrap ((((a : Nat) : Int)) - 1))) (by kernel_rfl) (congrArg (Value.int .i64) (by rw [show ((a - 1 : Nat) : Int) = (a : Int) - 1 by omega]; exact i64_w _ (by omega))))) ?_
  refine any_val (.int .u64 (((1 * 2 ^ (a - 1) % 18446744073709551616 : Nat) : Int))) (by kernel_rfl) (by kernel_rfl) (fun W => (run_bin .shl _ _ _ _ .u64 .i64 _ _ _ rfl (by kernel_rfl) (by kernel_rfl) (b_shl _ _ _ _ _ _ (by omega) (shlB 1 (a - 1))))) ?_
  refine any_val (.int .u64 (((B * 2 ^ a % 18446744073709551616 ||| 1 * 2 ^ (a - 1) % 18446744073709551616 : Nat) : Int))) (by kernel_rfl) (by kernel_rfl) (fun W => (run_eq (u := .int .u64 (bits .or .u64 ((((B * 2 ^ a % 18446744073709551616 : Nat) : Int))) ((((1 * 2 ^ (a - 1) % 18446744073709551616 : Nat) : Int))))) (by kernel_rfl) (congrArg (Value.int .u64) (orB _ _ (Nat.mod_lt _ (by decide)) (Nat.mod_lt _ (by decide)))))) ?_
  refine any_val (.pointer (some ⟨g, 0, none⟩)) (by kernel_rfl) (by kernel_rfl) (fun W => by kernel_rfl) ?_
  refine any_val (.pointer (some ⟨g, 1, none⟩)) (by kernel_rfl) (by kernel_rfl) (fun W => by kernel_rfl) ?_
  refine steps_nil (hF _ (by kernel_rfl) fun W3 e3 => ?_)
  simp only [ups, up, Kn.val, List.take_succ_cons, List.take_zero, List.drop_succ_cons, List.drop_zero, List.nil_append, List.cons_append]
  clear hF
  have x3 : ExtB g w W3 := ExtB.ext x2 e3
  have r1_3 := (row_ext r1_2 e3)
  refine seq_store g _ (cat [#[.int .i64 nx], #[.int .u64 (((B * 2 ^ a % 18446744073709551616 ||| 1 * 2 ^ (a - 1) % 18446744073709551616 : Nat) : Int))]]) 35 r1_3 rfl (by kernel_rfl) (run_storeC1 31 _ _ g 1 35 _ (.int .u64 (((B * 2 ^ a % 18446744073709551616 ||| 1 * 2 ^ (a - 1) % 18446744073709551616 : Nat) : Int))) r1_3 rfl (by kernel_rfl) (by kernel_rfl) (by kernel_rfl) (by kernel_rfl) (by kernel_rfl) rfl) fun W4 p4 r1_4 => ?_
  have x4 : ExtB g w W4 := ExtB.puts x3 p4
  refine seq_nil ?_
  refine hK9 _ _ ?_
  try clear hK9 K9
  refine wp_seq_k fun K10 hK10 => ?_
  refine region_lit ?_
  refine seq_val (.pointer (some ⟨g, 0, none⟩)) 43 rfl (by kernel_rfl) (by kernel_rfl) ?_
  refine seq_val (.int .i64 n) 44 rfl (by kernel_rfl) (by kernel_rfl) ?_
  refine seq_val (.int .i64 (n + 1)) 45 rfl (by kernel_rfl) (run_eq (u := .int .i64 (IntKind.i64.wrap (n + 1))) (by kernel_rfl) (congrArg (Value.int .i64) (i64_w _ (by omega)))) ?_
  refine seq_val (.pointer (some ⟨g, 0, none⟩)) 46 rfl (by kernel_rfl) (by kernel_rfl) ?_
  refine seq_val (.pointer (some ⟨g, 0, none⟩)) 47 rfl (by kernel_rfl) (by kernel_rfl) ?_
  refine seq_store g _ (cat [#[.int .i64 (n + 1)], #[.int .u64 (((B * 2 ^ a % 18446744073709551616 ||| 1 * 2 ^ (a - 1) % 18446744073709551616 : Nat) : Int))]]) 35 r1_4 rfl (by kernel_rfl) (run_storeC1 3 _ _ g 0 35 _ (.int .i64 (n + 1)) r1_4 rfl (by kernel_rfl) (by kernel_rfl) (by kernel_rfl) (by kernel_rfl) (by kernel_rfl) rfl) fun W5 p5 r1_5 => ?_
  have x5 : ExtB g w W5 := ExtB.puts x4 p5
  refine seq_nil ?_
  refine hK10 _ _ ?_
  try clear hK10 K10
  refine wp_seq_k fun K11 hK11 => ?_
  refine region_lit ?_
  refine seq_val (.nilIface) 4 rfl (by kernel_rfl) (by kernel_rfl) ?_
  refine seq_nil ?_
  refine hK11 _ _ ?_
  try clear hK11 K11
  refine wp_ret ?_
  repeat (first | with_reducible refine goR1 ?_ | with_reducible refine goR2 ?_)
  exact (show bodyPost _ _ _ .ret _ _ from ret1 (.nilIface) rfl (res_tmp (by kernel_rfl)) ⟨rfl, x5, r1_5⟩)
set_option maxHeartbeats 4000000 in
theorem NumZ (w : World) : Calls Try.prog 11 #[.nilIface] w (Ret w (.int .i64 0)) := by
  refine enter 19 [(0, .nilIface)] Try.func11 rfl rfl (by kernel_rfl) rfl ?_
  refine wp_seq_k fun K1 hK1 => ?_
  refine region_lit ?_
  refine seq_val (.int .i64 0) 2 rfl (by kernel_rfl) (by kernel_rfl) ?_
  refine seq_nil ?_
  refine hK1 _ _ ?_
  try clear hK1 K1
  refine wp_seq_k fun K2 hK2 => ?_
  refine wp_seq_k fun K3 hK3 => ?_
  refine region_lit ?_
  refine seq_val (.nilIface) 5 rfl (by kernel_rfl) (by kernel_rfl) ?_
  refine seq_val (.bool true) 6 rfl (by kernel_rfl) (by kernel_rfl) ?_
  refine seq_nil ?_
  refine hK3 _ _ ?_
  try clear hK3 K3
  refine cond_true (by kernel_rfl) ?_
  refine wp_seq_k fun K4 hK4 => ?_
  refine region_lit ?_
  refine seq_val (.int .i64 0) 2 rfl (by kernel_rfl) (by kernel_rfl) ?_
  refine seq_nil ?_
  refine hK4 _ _ ?_
  try clear hK4 K4
  refine wp_ret ?_
  repeat (first | with_reducible refine goR1 ?_ | with_reducible refine goR2 ?_)
  exact (show bodyPost _ _ _ .ret _ _ from ret1 (.int .i64 0) rfl (res_tmp (by kernel_rfl)) ⟨rfl, (Rely.Ext.refl w)⟩)
set_option maxHeartbeats 4000000 in
theorem NumE (e : Int) (h0 : e ≠ 0) (w : World) : Calls Try.prog 11 #[.iface 44 (.int .i64 e)] w (Ret w (.int .i64 e)) := by
  refine enter 19 [(0, .iface 44 (.int .i64 e))] Try.func11 rfl rfl (by kernel_rfl) rfl ?_
  refine wp_seq_k fun K1 hK1 => ?_
  refine region_lit ?_
  refine seq_val (.int .i64 0) 2 rfl (by kernel_rfl) (by kernel_rfl) ?_
  refine seq_nil ?_
  refine hK1 _ _ ?_
  try clear hK1 K1
  refine wp_seq_k fun K2 hK2 => ?_
  refine wp_seq_k fun K3 hK3 => ?_
  refine region_lit ?_
  refine seq_val (.iface 44 (.int .i64 e)) 5 rfl (by kernel_rfl) (by kernel_rfl) ?_
  refine seq_val (.bool false) 6 rfl (by kernel_rfl) (by kernel_rfl) ?_
  refine seq_nil ?_
  refine hK3 _ _ ?_
  try clear hK3 K3
  refine cond_false (by kernel_rfl) ?_
  refine wp_skip ?_
  refine hK2 _ _ ?_
  try clear hK2 K2
  refine wp_seq_k fun K4 hK4 => ?_
  refine region_lit ?_
  refine seq_val (.iface 44 (.int .i64 e)) 8 rfl (by kernel_rfl) (by kernel_rfl) ?_
  refine seq_val (.tuple #[.int .i64 e, .bool true]) 9 rfl (by kernel_rfl) (by kernel_rfl) ?_
  refine seq_val (.tuple #[.int .i64 e, .bool true]) 7 rfl (by kernel_rfl) (by kernel_rfl) ?_
  refine seq_val (.int .i64 e) 10 rfl (by kernel_rfl) (by kernel_rfl) ?_
  refine seq_val (.bool true) 11 rfl (by kernel_rfl) (by kernel_rfl) ?_
  refine seq_val (.int .i64 e) 3 rfl (by kernel_rfl) (by kernel_rfl) ?_
  refine seq_val (.bool true) 4 rfl (by kernel_rfl) (by kernel_rfl) ?_
  refine seq_nil ?_
  refine hK4 _ _ ?_
  try clear hK4 K4
  refine wp_seq_k fun K5 hK5 => ?_
  refine wp_seq_k fun K6 hK6 => ?_
  refine region_lit ?_
  refine seq_val (.bool true) 12 rfl (by kernel_rfl) (by kernel_rfl) ?_
  refine seq_val (.bool false) 13 rfl (by kernel_rfl) (by kernel_rfl) ?_
  refine seq_val (.bool false) 14 rfl (by kernel_rfl) (by kernel_rfl) ?_
  refine seq_val (.int .i64 e) 15 rfl (by kernel_rfl) (by kernel_rfl) ?_
  refine seq_val (.bool false) 16 rfl (by kernel_rfl) (run_eq (u := .bool ((e == 0))) (by kernel_rfl) (congrArg Value.bool (by simpa using h0))) ?_
  refine seq_val (.bool false) 17 rfl (by kernel_rfl) (by kernel_rfl) ?_
  refine seq_nil ?_
  refine hK6 _ _ ?_
  try clear hK6 K6
  refine cond_false (by kernel_rfl) ?_
  refine wp_skip ?_
  refine hK5 _ _ ?_
  try clear hK5 K5
  refine wp_seq_k fun K7 hK7 => ?_
  refine region_lit ?_
  refine seq_val (.int .i64 e) 18 rfl (by kernel_rfl) (by kernel_rfl) ?_
  refine seq_val (.int .i64 e) 2 rfl (by kernel_rfl) (by kernel_rfl) ?_
  refine seq_nil ?_
  refine hK7 _ _ ?_
  try clear hK7 K7
  refine wp_ret ?_
  repeat (first | with_reducible refine goR1 ?_ | with_reducible refine goR2 ?_)
  exact (show bodyPost _ _ _ .ret _ _ from ret1 (.int .i64 e) rfl (res_tmp (by kernel_rfl)) ⟨rfl, (Rely.Ext.refl w)⟩)
theorem NumV (e : Int) (w : World) : Calls Try.prog 11 #[errV e] w (Ret w (.int .i64 e)) := by
  by_cases h : e = 0
  · rw [errV_nil h, h]; exact NumZ w
  · rw [errV_ne h]; exact NumE e h w
set_option maxHeartbeats 4000000 in
theorem IsV (e k : Int) (w : World) : Calls Try.prog 16 #[errV e, .int .i64 k] w (Ret w (.bool (e == k))) := by
  refine enter 9 [(0, errV e), (1, .int .i64 k)] Try.func16 rfl rfl (by kernel_rfl) rfl ?_
  refine wp_seq_k fun K1 hK1 => ?_
  refine region_lit ?_
  refine seq_val (.bool false) 4 rfl (by kernel_rfl) (by kernel_rfl) ?_
  refine seq_nil ?_
  refine hK1 _ _ ?_
  try clear hK1 K1
  refine wp_seq_k fun K2 hK2 => ?_
  refine region_lit ?_
  refine seq_val (errV e) 5 rfl (by kernel_rfl) (by kernel_rfl) ?_
  refine seq_call (.int .i64 e) 11 #[errV e] 6 rfl (by kernel_rfl) (by kernel_rfl) ((NumV e) _) fun W1 e1 => ?_
  have x1 : Ext w W1 := Ext.tr (Rely.Ext.refl w) e1
  refine seq_val (.int .i64 k) 7 rfl (by kernel_rfl) (by kernel_rfl) ?_
  refine seq_val (.bool (e == k)) 8 rfl (by kernel_rfl) (run_eq (u := .bool ((e == k))) (by kernel_rfl) (congrArg Value.bool rfl)) ?_
  refine seq_val (.bool (e == k)) 4 rfl (by kernel_rfl) (by kernel_rfl) ?_
  refine seq_nil ?_
  refine hK2 _ _ ?_
  try clear hK2 K2
  refine wp_ret ?_
  repeat (first | with_reducible refine goR1 ?_ | with_reducible refine goR2 ?_)
  exact (show bodyPost _ _ _ .ret _ _ from ret1 (.bool (e == k)) rfl (res_tmp (by kernel_rfl)) ⟨rfl, x1⟩)
theorem IsT (e : Int) (v : Value) (hv : errV e = v) (w : World) : Calls Try.prog 16 #[v, .int .i64 e] w (Ret w (.bool true)) := by
  have h := IsV e e w
  rw [hv, beq_self_eq_true] at h
  exact h
theorem ExtB.trans {g : Nat} {a b c : World} (h : ExtB g a b) (k : ExtB g b c) : ExtB g a c := ⟨k.1.trans h.1, k.2.1.trans h.2.1, k.2.2.1.trans h.2.2.1, Nat.le_trans h.2.2.2.1 k.2.2.2.1, fun i hi hn => (k.2.2.2.2 i (Nat.lt_of_lt_of_le hi h.2.2.2.1) hn).trans (h.2.2.2.2 i hi hn)⟩
set_option maxHeartbeats 4000000 in
theorem MarkNo (g : Nat) (nx : Int) (B : Nat) (n : Int) (hnx : 0 ≤ nx ∧ nx ≤ 4294967295) (hB : B < 18446744073709551616) (w : World) (hg : w.heap[g]? = some (.cells (cat [#[.int .i64 nx], #[.int .u64 ((B : Nat) : Int)]]) 35)) (hc : chkW nx B n ≠ 0) : Calls Try.prog 13 #[.pointer (some ⟨g, 0, none⟩), .int .i64 n] w (Ret w (.iface 44 (.int .i64 (chkW nx B n)))) := by
  refine enter 13 [(0, .pointer (some ⟨g, 0, none⟩)), (1, .int .i64 n)] Try.func13 rfl rfl (by kernel_rfl) rfl ?_
  refine wp_seq_k fun K2 hK2 => ?_
  refine region_lit ?_
  refine seq_val (.nilIface) 4 rfl (by kernel_rfl) (by kernel_rfl) ?_
  refine seq_nil ?_
  refine hK2 _ _ ?_
  try clear hK2 K2
  refine wp_seq_k fun K3 hK3 => ?_
  refine wp_seq_k fun K4 hK4 => ?_
  refine region_lit ?_
  refine seq_val (.pointer (some ⟨g, 0, none⟩)) 5 rfl (by kernel_rfl) (by kernel_rfl) ?_
  refine seq_val (.bool false) 6 rfl (by kernel_rfl) (by kernel_rfl) ?_
  refine seq_nil ?_
  refine hK4 _ _ ?_
  try clear hK4 K4
  refine cond_false (by kernel_rfl) ?_
  refine wp_skip ?_
  refine hK3 _ _ ?_
  try clear hK3 K3
  refine wp_seq_k fun K5 hK5 => ?_
  refine region_lit ?_
  refine seq_val (.pointer (some ⟨g, 0, none⟩)) 8 rfl (by kernel_rfl) (by kernel_rfl) ?_
  refine seq_val (.pointer (some ⟨g, 0, none⟩)) 9 rfl (by kernel_rfl) (by kernel_rfl) ?_
  refine seq_val (.pointer (some ⟨g, 0, none⟩)) 10 rfl (by kernel_rfl) (by kernel_rfl) ?_
  refine seq_val (.int .i64 n) 11 rfl (by kernel_rfl) (by kernel_rfl) ?_
  refine seq_call (.iface 44 (.int .i64 (chkW nx B n))) 19 #[.pointer (some ⟨g, 0, none⟩), .int .i64 n] 12 rfl (by kernel_rfl) (by kernel_rfl) (mark_no g nx B n hnx hB _ hg hc) fun W1 e1 => ?_
  have x1 : Ext w W1 := Ext.tr (Rely.Ext.refl w) e1
  refine seq_val (.iface 44 (.int .i64 (chkW nx B n))) 4 rfl (by kernel_rfl) (by kernel_rfl) ?_
  refine seq_nil ?_
  refine hK5 _ _ ?_
  try clear hK5 K5
  refine wp_ret ?_
  repeat (first | with_reducible refine goR1 ?_ | with_reducible refine goR2 ?_)
  exact (show bodyPost _ _ _ .ret _ _ from ret1 (.iface 44 (.int .i64 (chkW nx B n))) rfl (res_tmp (by kernel_rfl)) ⟨rfl, x1⟩)
set_option maxHeartbeats 4000000 in
theorem MarkN (n : Int) (w : World) : Calls Try.prog 13 #[.pointer none, .int .i64 n] w (Ret w (.iface 44 (.int .i64 8))) := by
  refine enter 13 [(0, .pointer none), (1, .int .i64 n)] Try.func13 rfl rfl (by kernel_rfl) rfl ?_
  refine wp_seq_k fun K1 hK1 => ?_
  refine region_lit ?_
  refine seq_val (.nilIface) 4 rfl (by kernel_rfl) (by kernel_rfl) ?_
  refine seq_nil ?_
  refine hK1 _ _ ?_
  try clear hK1 K1
  refine wp_seq_k fun K2 hK2 => ?_
  refine wp_seq_k fun K3 hK3 => ?_
  refine region_lit ?_
  refine seq_val (.pointer none) 5 rfl (by kernel_rfl) (by kernel_rfl) ?_
  refine seq_val (.bool true) 6 rfl (by kernel_rfl) (by kernel_rfl) ?_
  refine seq_nil ?_
  refine hK3 _ _ ?_
  try clear hK3 K3
  refine cond_true (by kernel_rfl) ?_
  refine wp_seq_k fun K4 hK4 => ?_
  refine region_lit ?_
  refine seq_val (.iface 44 (.int .i64 8)) 7 rfl (by kernel_rfl) (by kernel_rfl) ?_
  refine seq_val (.iface 44 (.int .i64 8)) 4 rfl (by kernel_rfl) (by kernel_rfl) ?_
  refine seq_nil ?_
  refine hK4 _ _ ?_
  try clear hK4 K4
  refine wp_ret ?_
  repeat (first | with_reducible refine goR1 ?_ | with_reducible refine goR2 ?_)
  exact (show bodyPost _ _ _ .ret _ _ from ret1 (.iface 44 (.int .i64 8)) rfl (res_tmp (by kernel_rfl)) ⟨rfl, (Rely.Ext.refl w)⟩)
set_option maxHeartbeats 4000000 in
theorem MarkF (g : Nat) (nx : Int) (B : Nat) (n : Int) (hnx : 0 ≤ nx ∧ nx ≤ 4294967295) (hB : B < 18446744073709551616) (w : World) (hg : w.heap[g]? = some (.cells (cat [#[.int .i64 nx], #[.int .u64 ((B : Nat) : Int)]]) 35)) (hc : chkW nx B n = 0) (j : Nat) (hj : nx - 1 - n - 1 = (j : Int)) (hj2 : j < 64) : Calls Try.prog 13 #[.pointer (some ⟨g, 0, none⟩), .int .i64 n] w (fun e w' => e = .returned .nilIface ∧ ExtB g w w' ∧ w'.heap[g]? = some (.cells (cat [#[.int .i64 nx], #[.int .u64 (((B ||| 2 ^ j : Nat) : Int))]]) 35)) := by
  refine enter 13 [(0, .pointer (some ⟨g, 0, none⟩)), (1, .int .i64 n)] Try.func13 rfl rfl (by kernel_rfl) rfl ?_
  refine wp_seq_k fun K2 hK2 => ?_
  refine region_lit ?_
  refine seq_val (.nilIface) 4 rfl (by kernel_rfl) (by kernel_rfl) ?_
  refine seq_nil ?_
  refine hK2 _ _ ?_
  try clear hK2 K2
  refine wp_seq_k fun K3 hK3 => ?_
  refine wp_seq_k fun K4 hK4 => ?_
  refine region_lit ?_
  refine seq_val (.pointer (some ⟨g, 0, none⟩)) 5 rfl (by kernel_rfl) (by kernel_rfl) ?_
  refine seq_val (.bool false) 6 rfl (by kernel_rfl) (by kernel_rfl) ?_
  refine seq_nil ?_
  refine hK4 _ _ ?_
  try clear hK4 K4
  refine cond_false (by kernel_rfl) ?_
  refine wp_skip ?_
  refine hK3 _ _ ?_
  try clear hK3 K3
  refine wp_seq_k fun K5 hK5 => ?_
  refine region_lit ?_
  refine seq_val (.pointer (some ⟨g, 0, none⟩)) 8 rfl (by kernel_rfl) (by kernel_rfl) ?_
  refine seq_val (.pointer (some ⟨g, 0, none⟩)) 9 rfl (by kernel_rfl) (by kernel_rfl) ?_
  refine seq_val (.pointer (some ⟨g, 0, none⟩)) 10 rfl (by kernel_rfl) (by kernel_rfl) ?_
  refine seq_val (.int .i64 n) 11 rfl (by kernel_rfl) (by kernel_rfl) ?_
  refine seq_callR (fun v W' => v = .nilIface ∧ ExtB g w W' ∧ W'.heap[g]? = some (.cells (cat [#[.int .i64 nx], #[.int .u64 (((B ||| 2 ^ j : Nat) : Int))]]) 35)) 19 #[.pointer (some ⟨g, 0, none⟩), .int .i64 n] 12 rfl (by kernel_rfl) (by kernel_rfl) ((mark_F g nx B n hnx hB _ hg hc j hj hj2).mono fun e w' ⟨h1, h2, h3⟩ => ⟨_, h1, rfl, h2, h3⟩) fun v W1 h => ?_
  obtain ⟨rfl, q1, r1_1⟩ := h
  have x1 : ExtB g w W1 := ExtB.trans (ExtB.refl g w) q1
  refine seq_val (.nilIface) 4 rfl (by kernel_rfl) (by kernel_rfl) ?_
  refine seq_nil ?_
  refine hK5 _ _ ?_
  try clear hK5 K5
  refine wp_ret ?_
  repeat (first | with_reducible refine goR1 ?_ | with_reducible refine goR2 ?_)
  exact (show bodyPost _ _ _ .ret _ _ from ret1 (.nilIface) rfl (res_tmp (by kernel_rfl)) ⟨rfl, x1, r1_1⟩)
set_option maxHeartbeats 4000000 in
theorem MarkG (g : Nat) (nx : Int) (B : Nat) (n : Int) (hnx : 0 ≤ nx ∧ nx ≤ 4294967295) (hB : B < 18446744073709551616) (w : World) (hg : w.heap[g]? = some (.cells (cat [#[.int .i64 nx], #[.int .u64 ((B : Nat) : Int)]]) 35)) (hc : chkW nx B n = 0) (hn : 0 ≤ n ∧ n < 4294967295) (a : Nat) (ha : n - (nx - 1) = (a : Int)) (ha1 : 1 ≤ a) : Calls Try.prog 13 #[.pointer (some ⟨g, 0, none⟩), .int .i64 n] w (fun e w' => e = .returned .nilIface ∧ ExtB g w w' ∧ w'.heap[g]? = some (.cells (cat [#[.int .i64 (n + 1)], #[.int .u64 (((B * 2 ^ a % 18446744073709551616 ||| 1 * 2 ^ (a - 1) % 18446744073709551616 : Nat) : Int))]]) 35)) := by
  refine enter 13 [(0, .pointer (some ⟨g, 0, none⟩)), (1, .int .i64 n)] Try.func13 rfl rfl (by kernel_rfl) rfl ?_
  refine wp_seq_k fun K2 hK2 => ?_
  refine region_lit ?_
  refine seq_val (.nilIface) 4 rfl (by kernel_rfl) (by kernel_rfl) ?_
  refine seq_nil ?_
  refine hK2 _ _ ?_
  try clear hK2 K2
  refine wp_seq_k fun K3 hK3 => ?_
  refine wp_seq_k fun K4 hK4 => ?_
  refine region_lit ?_
  refine seq_val (.pointer (some ⟨g, 0, none⟩)) 5 rfl (by kernel_rfl) (by kernel_rfl) ?_
  refine seq_val (.bool false) 6 rfl (by kernel_rfl) (by kernel_rfl) ?_
  refine seq_nil ?_
  refine hK4 _ _ ?_
  try clear hK4 K4
  refine cond_false (by kernel_rfl) ?_
  refine wp_skip ?_
  refine hK3 _ _ ?_
  try clear hK3 K3
  refine wp_seq_k fun K5 hK5 => ?_
  refine region_lit ?_
  refine seq_val (.pointer (some ⟨g, 0, none⟩)) 8 rfl (by kernel_rfl) (by kernel_rfl) ?_
  refine seq_val (.pointer (some ⟨g, 0, none⟩)) 9 rfl (by kernel_rfl) (by kernel_rfl) ?_
  refine seq_val (.pointer (some ⟨g, 0, none⟩)) 10 rfl (by kernel_rfl) (by kernel_rfl) ?_
  refine seq_val (.int .i64 n) 11 rfl (by kernel_rfl) (by kernel_rfl) ?_
  refine seq_callR (fun v W' => v = .nilIface ∧ ExtB g w W' ∧ W'.heap[g]? = some (.cells (cat [#[.int .i64 (n + 1)], #[.int .u64 (((B * 2 ^ a % 18446744073709551616 ||| 1 * 2 ^ (a - 1) % 18446744073709551616 : Nat) : Int))]]) 35)) 19 #[.pointer (some ⟨g, 0, none⟩), .int .i64 n] 12 rfl (by kernel_rfl) (by kernel_rfl) ((mark_G g nx B n hnx hB _ hg hc hn a ha ha1).mono fun e w' ⟨h1, h2, h3⟩ => ⟨_, h1, rfl, h2, h3⟩) fun v W1 h => ?_
  obtain ⟨rfl, q1, r1_1⟩ := h
  have x1 : ExtB g w W1 := ExtB.trans (ExtB.refl g w) q1
  refine seq_val (.nilIface) 4 rfl (by kernel_rfl) (by kernel_rfl) ?_
  refine seq_nil ?_
  refine hK5 _ _ ?_
  try clear hK5 K5
  refine wp_ret ?_
  repeat (first | with_reducible refine goR1 ?_ | with_reducible refine goR2 ?_)
  exact (show bodyPost _ _ _ .ret _ _ from ret1 (.nilIface) rfl (res_tmp (by kernel_rfl)) ⟨rfl, x1, r1_1⟩)
theorem MarkGL (g : Nat) (nx : Int) (B : Nat) (n : Int) (hnx : 0 ≤ nx ∧ nx ≤ 4294967295) (hB : B < 18446744073709551616) (w : World) (hg : w.heap[g]? = some (.cells (cat [#[.int .i64 nx], #[.int .u64 ((B : Nat) : Int)]]) 35)) (hc : chkW nx B n = 0) (hn : 0 ≤ n ∧ n < 4294967295) (a : Nat) (ha : n - (nx - 1) = (a : Int)) (ha1 : 1 ≤ a) (nx2 : Int) (B2 : Nat) (e1 : n + 1 = nx2) (e2 : B * 2 ^ a % 18446744073709551616 ||| 1 * 2 ^ (a - 1) % 18446744073709551616 = B2) :
    Calls Try.prog 13 #[.pointer (some ⟨g, 0, none⟩), .int .i64 n] w (fun e w' => e = .returned .nilIface ∧ ExtB g w w' ∧ w'.heap[g]? = some (.cells (cat [#[.int .i64 nx2], #[.int .u64 (((B2 : Nat) : Int))]]) 35)) := by
  have h := MarkG g nx B n hnx hB w hg hc hn a ha ha1
  rw [e1, e2] at h
  exact h
theorem CheckE (g : Nat) (nx : Int) (B : Nat) (n : Int) (hnx : 0 ≤ nx ∧ nx ≤ 4294967295) (hB : B < 18446744073709551616) (w : World) (hg : w.heap[g]? = some (.cells (cat [#[.int .i64 nx], #[.int .u64 ((B : Nat) : Int)]]) 35)) (e : Int) (he : chkW nx B n = e) (h0 : e ≠ 0) : Calls Try.prog 12 #[.pointer (some ⟨g, 0, none⟩), .int .i64 n] w (Ret w (.iface 44 (.int .i64 e))) := by
  have h := CheckC g nx B n hnx hB w hg
  rw [he, errV_ne h0] at h
  exact h
theorem CheckZ (g : Nat) (nx : Int) (B : Nat) (n : Int) (hnx : 0 ≤ nx ∧ nx ≤ 4294967295) (hB : B < 18446744073709551616) (w : World) (hg : w.heap[g]? = some (.cells (cat [#[.int .i64 nx], #[.int .u64 ((B : Nat) : Int)]]) 35)) (he : chkW nx B n = 0) : Calls Try.prog 12 #[.pointer (some ⟨g, 0, none⟩), .int .i64 n] w (Ret w .nilIface) := by
  have h := CheckC g nx B n hnx hB w hg
  rw [errV_nil he] at h
  exact h

end Go.Proofs.Ytfkldohjeepbkaa.Lk
