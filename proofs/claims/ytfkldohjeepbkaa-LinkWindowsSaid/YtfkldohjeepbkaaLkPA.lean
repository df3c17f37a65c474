/- Windows: what they say of a number. -/
import Derived.Test.YtfkldohjeepbkaaAutoSN
import Derived.Laws.BitsAll
import Derived.Test.YtfkldohjeepbkaaProg
namespace Go.Proofs.Ytfkldohjeepbkaa.Lk
open Go Go.RowKit
open Go.Proofs.Ytfkldohjeepbkaa.Rely Go.Proofs.Ytfkldohjeepbkaa.Auto
set_option linter.unusedVariables false

def ExtB (g : Nat) (w W : World) : Prop := W.os = w.os ∧ W.tape = w.tape ∧ W.output = w.output ∧ w.heap.size ≤ W.heap.size ∧ ∀ k, k < w.heap.size → k ≠ g → W.heap[k]? = w.heap[k]?
theorem ExtB.refl (g : Nat) (w : World) : ExtB g w w := ⟨rfl, rfl, rfl, Nat.le_refl _, fun _ _ _ => rfl⟩
theorem ExtB.ext {g : Nat} {w W W' : World} (h : ExtB g w W) (e : Ext W W') : ExtB g w W' :=
  ⟨e.os.trans h.1, e.tape.trans h.2.1, e.output.trans h.2.2.1, Nat.le_trans h.2.2.2.1 e.size, fun k hk hn => (e.block k (Nat.lt_of_lt_of_le hk h.2.2.2.1)).trans (h.2.2.2.2 k hk hn)⟩
theorem ExtB.puts {g : Nat} {w W W' : World} (h : ExtB g w W) (p : Puts W g W') : ExtB g w W' :=
  ⟨p.1.trans h.1, p.2.1.trans h.2.1, p.2.2.1.trans h.2.2.1, by have := h.2.2.2.1; have := p.2.2.2.1; omega, fun k hk hn => (p.2.2.2.2 k hn).trans (h.2.2.2.2 k hk hn)⟩
theorem ExtB.row {g : Nat} {w W : World} {k : Nat} {ob : Obj} (h : ExtB g w W) (r : w.heap[k]? = some ob) (hn : k ≠ g) : W.heap[k]? = some ob := (h.2.2.2.2 k (by
  rcases Nat.lt_or_ge k w.heap.size with hl | hl
  · exact hl
  · rw [Array.getElem?_eq_none hl] at r; cases r) hn).trans r
theorem ExtB.up {g : Nat} {w0 w W : World} (h : Ext w0 w) (k : ExtB g w W) (lo : w0.heap.size ≤ g) : Ext w0 W :=
  ⟨k.1.trans h.os, k.2.1.trans h.tape, k.2.2.1.trans h.output, Nat.le_trans h.size k.2.2.2.1, fun i hi => (k.2.2.2.2 i (Nat.lt_of_lt_of_le hi h.size) (by omega)).trans (h.block i hi)⟩
theorem i64_w (v : Int) (h : -5000000000 ≤ v ∧ v ≤ 5000000000) : IntKind.i64.wrap v = v := IntWalk.i64_in _ (by omega)
theorem shrB (B j : Nat) (hj : j < 64) : ((B : Nat) : Int).fdiv (2 ^ min ((j : Nat) : Int).toNat IntKind.u64.bits) = ((B / 2 ^ j : Nat) : Int) := by
  rw [show min (((j : Nat) : Int).toNat) IntKind.u64.bits = j by show min (((j : Nat) : Int).toNat) 64 = j; omega]
  rw [Int.fdiv_eq_ediv_of_nonneg _ (Int.le_of_lt (Int.pow_pos (by decide))), Int.natCast_ediv, Int.natCast_pow]
  rfl
theorem andB (m : Nat) (h : m < 18446744073709551616) : bits .and .u64 ((m : Nat) : Int) 1 = ((m % 2 : Nat) : Int) := by
  rw [show (1 : Int) = ((1 : Nat) : Int) from rfl, bits_and_u64_nat m 1 h (by omega), Nat.and_one_is_mod]
theorem orB (a b : Nat) (ha : a < 18446744073709551616) (hb : b < 18446744073709551616) : bits .or .u64 ((a : Nat) : Int) ((b : Nat) : Int) = ((a ||| b : Nat) : Int) := by
  have h := u64_or (a : Int) b (by omega) (by omega) (by omega) (by omega)
  simpa using h
theorem wrapN (m : Nat) : IntKind.u64.wrap ((m : Nat) : Int) = ((m % 18446744073709551616 : Nat) : Int) := by rw [IntKind.wrap_u64]; omega
theorem pow_big (B a : Nat) (h : 64 ≤ a) : B * 2 ^ a % 18446744073709551616 = 0 := by
  obtain ⟨c, rfl⟩ : ∃ c, a = 64 + c := ⟨a - 64, by omega⟩
  rw [Nat.pow_add, ← Nat.mul_assoc, Nat.mul_comm B, Nat.mul_assoc]
  exact Nat.mul_mod_right _ _
theorem shlB (B a : Nat) : IntKind.u64.wrap (((B : Nat) : Int) * 2 ^ min ((a : Nat) : Int).toNat IntKind.u64.bits) = ((B * 2 ^ a % 18446744073709551616 : Nat) : Int) := by
  have e : ∀ c : Nat, ((B : Nat) : Int) * 2 ^ c = ((B * 2 ^ c : Nat) : Int) := fun c => by rw [Int.natCast_mul, Int.natCast_pow]; rfl
  rw [e, wrapN]
  have hm : min (((a : Nat) : Int).toNat) IntKind.u64.bits = min a 64 := by show min (((a : Nat) : Int).toNat) 64 = min a 64; rw [Int.toNat_natCast]
  rw [hm]
  rcases Nat.lt_or_ge a 64 with h | h
  · rw [show min a 64 = a by omega]
  · rw [show min a 64 = 64 by omega, pow_big B 64 (by omega), pow_big B a h]
/-- what a window says of a number -/
def chkW (nx : Int) (B : Nat) (n : Int) : Int := if n < 0 ∨ 4294967295 ≤ n then 8 else if 64 < nx - 1 - n then 11 else if nx - 1 - n = 0 ∨ (0 < nx - 1 - n ∧ B / 2 ^ (nx - 1 - n - 1).toNat % 2 = 1) then 7 else 0
def errV (e : Int) : Value := if e = 0 then .nilIface else .iface 44 (.int .i64 e)
set_option maxHeartbeats 4000000 in
theorem highestC (g : Nat) (nx : Int) (B : Nat) (hnx : 0 ≤ nx ∧ nx ≤ 4294967295) (hB : B < 18446744073709551616) (w : World) (hg : w.heap[g]? = some (.cells (cat [#[.int .i64 nx], #[.int .u64 ((B : Nat) : Int)]]) 35)) : Calls Try.prog 20 #[.pointer (some ⟨g, 0, none⟩)] w (Ret w (.int .i64 (nx - 1))) := by
  refine enter 8 [(0, .pointer (some ⟨g, 0, none⟩))] Try.func20 rfl rfl (by kernel_rfl) rfl ?_
  refine wp_seq_k fun K2 hK2 => ?_
  refine region_lit ?_
  refine seq_val (.int .i64 0) 2 rfl (by kernel_rfl) (by kernel_rfl) ?_
  refine seq_nil ?_
  refine hK2 _ _ ?_
  try clear hK2 K2
  refine wp_seq_k fun K3 hK3 => ?_
  refine region_lit ?_
  refine seq_val (.pointer (some ⟨g, 0, none⟩)) 3 rfl (by kernel_rfl) (by kernel_rfl) ?_
  refine seq_val (.pointer (some ⟨g, 0, none⟩)) 4 rfl (by kernel_rfl) (by kernel_rfl) ?_
  refine seq_val (.pointer (some ⟨g, 0, none⟩)) 5 rfl (by kernel_rfl) (by kernel_rfl) ?_
  refine seq_val (.int .i64 nx) 6 rfl (by kernel_rfl) (run_loadC1 3 _ g 0 35 _ (.int .i64 nx) _ hg rfl (by kernel_rfl) (by kernel_rfl) (by kernel_rfl)) ?_
  refine seq_val (.int .i64 (nx - 1)) 7 rfl (by kernel_rfl) (run_eq (u := .int .i64 (IntKind.i64.wrap (nx - 1))) (by kernel_rfl) (congrArg (Value.int .i64) (i64_w _ (by omega)))) ?_
  refine seq_val (.int .i64 (nx - 1)) 2 rfl (by kernel_rfl) (by kernel_rfl) ?_
  refine seq_nil ?_
  refine hK3 _ _ ?_
  try clear hK3 K3
  refine wp_ret ?_
  repeat (first | with_reducible refine goR1 ?_ | with_reducible refine goR2 ?_)
  exact (show bodyPost _ _ _ .ret _ _ from ret1 (.int .i64 (nx - 1)) rfl (res_tmp (by kernel_rfl)) ⟨rfl, (Rely.Ext.refl w)⟩)
set_option maxHeartbeats 4000000 in
theorem HighestC (g : Nat) (nx : Int) (B : Nat) (hnx : 0 ≤ nx ∧ nx ≤ 4294967295) (hB : B < 18446744073709551616) (w : World) (hg : w.heap[g]? = some (.cells (cat [#[.int .i64 nx], #[.int .u64 ((B : Nat) : Int)]]) 35)) : Calls Try.prog 14 #[.pointer (some ⟨g, 0, none⟩)] w (Ret w (.int .i64 (nx - 1))) := by
  refine enter 9 [(0, .pointer (some ⟨g, 0, none⟩))] Try.func14 rfl rfl (by kernel_rfl) rfl ?_
  refine wp_seq_k fun K2 hK2 => ?_
  refine region_lit ?_
  refine seq_val (.int .i64 0) 2 rfl (by kernel_rfl) (by kernel_rfl) ?_
  refine seq_nil ?_
  refine hK2 _ _ ?_
  try clear hK2 K2
  refine wp_seq_k fun K3 hK3 => ?_
  refine wp_seq_k fun K4 hK4 => ?_
  refine region_lit ?_
  refine seq_val (.pointer (some ⟨g, 0, none⟩)) 3 rfl (by kernel_rfl) (by kernel_rfl) ?_
  refine seq_val (.bool false) 4 rfl (by kernel_rfl) (by kernel_rfl) ?_
  refine seq_nil ?_
  refine hK4 _ _ ?_
  try clear hK4 K4
  refine cond_false (by kernel_rfl) ?_
  refine wp_skip ?_
  refine hK3 _ _ ?_
  try clear hK3 K3
  refine wp_seq_k fun K5 hK5 => ?_
  refine region_lit ?_
  refine seq_val (.pointer (some ⟨g, 0, none⟩)) 5 rfl (by kernel_rfl) (by kernel_rfl) ?_
  refine seq_val (.pointer (some ⟨g, 0, none⟩)) 6 rfl (by kernel_rfl) (by kernel_rfl) ?_
  refine seq_val (.pointer (some ⟨g, 0, none⟩)) 7 rfl (by kernel_rfl) (by kernel_rfl) ?_
  refine seq_call (.int .i64 (nx - 1)) 20 #[.pointer (some ⟨g, 0, none⟩)] 8 rfl (by kernel_rfl) (by kernel_rfl) (highestC g nx B hnx hB _ hg) fun W1 e1 => ?_
  have x1 : Ext w W1 := Ext.tr (Rely.Ext.refl w) e1
  refine seq_val (.int .i64 (nx - 1)) 2 rfl (by kernel_rfl) (by kernel_rfl) ?_
  refine seq_nil ?_
  refine hK5 _ _ ?_
  try clear hK5 K5
  refine wp_ret ?_
  repeat (first | with_reducible refine goR1 ?_ | with_reducible refine goR2 ?_)
  exact (show bodyPost _ _ _ .ret _ _ from ret1 (.int .i64 (nx - 1)) rfl (res_tmp (by kernel_rfl)) ⟨rfl, x1⟩)
set_option maxHeartbeats 4000000 in
theorem HighestN (w : World) : Calls Try.prog 14 #[.pointer none] w (Ret w (.int .i64 (-1))) := by
  refine enter 9 [(0, .pointer none)] Try.func14 rfl rfl (by kernel_rfl) rfl ?_
  refine wp_seq_k fun K1 hK1 => ?_
  refine region_lit ?_
  refine seq_val (.int .i64 0) 2 rfl (by kernel_rfl) (by kernel_rfl) ?_
  refine seq_nil ?_
  refine hK1 _ _ ?_
  try clear hK1 K1
  refine wp_seq_k fun K2 hK2 => ?_
  refine wp_seq_k fun K3 hK3 => ?_
  refine region_lit ?_
  refine seq_val (.pointer none) 3 rfl (by kernel_rfl) (by kernel_rfl) ?_
  refine seq_val (.bool true) 4 rfl (by kernel_rfl) (by kernel_rfl) ?_
  refine seq_nil ?_
  refine hK3 _ _ ?_
  try clear hK3 K3
  refine cond_true (by kernel_rfl) ?_
  refine wp_seq_k fun K4 hK4 => ?_
  refine region_lit ?_
  refine seq_val (.int .i64 (-1)) 2 rfl (by kernel_rfl) (by kernel_rfl) ?_
  refine seq_nil ?_
  refine hK4 _ _ ?_
  try clear hK4 K4
  refine wp_ret ?_
  repeat (first | with_reducible refine goR1 ?_ | with_reducible refine goR2 ?_)
  exact (show bodyPost _ _ _ .ret _ _ from ret1 (.int .i64 (-1)) rfl (res_tmp (by kernel_rfl)) ⟨rfl, (Rely.Ext.refl w)⟩)
set_option maxHeartbeats 4000000 in
theorem check_A (g : Nat) (nx : Int) (B : Nat) (n : Int) (hnx : 0 ≤ nx ∧ nx ≤ 4294967295) (hB : B < 18446744073709551616) (w : World) (hg : w.heap[g]? = some (.cells (cat [#[.int .i64 nx], #[.int .u64 ((B : Nat) : Int)]]) 35)) (hc : n < 0) : Calls Try.prog 18 #[.pointer (some ⟨g, 0, none⟩), .int .i64 n] w (Ret w (.iface 44 (.int .i64 8))) := by
  refine enter 38 [(0, .pointer (some ⟨g, 0, none⟩)), (1, .int .i64 n)] Try.func18 rfl rfl (by kernel_rfl) rfl ?_
  refine wp_seq_k fun K2 hK2 => ?_
  refine region_lit ?_
  refine seq_val (.nilIface) 4 rfl (by kernel_rfl) (by kernel_rfl) ?_
  refine seq_nil ?_
  refine hK2 _ _ ?_
  try clear hK2 K2
  refine wp_seq_k fun K3 hK3 => ?_
  refine wp_seq_k fun K4 hK4 => ?_
  refine region_lit ?_
  refine seq_val (.int .i64 n) 6 rfl (by kernel_rfl) (by kernel_rfl) ?_
  refine seq_val (.bool true) 7 rfl (by kernel_rfl) (run_eq (u := .bool (decide (n < 0))) (by kernel_rfl) (congrArg Value.bool (decide_eq_true (by omega)))) ?_
  refine seq_val (.bool true) 8 rfl (by kernel_rfl) (by kernel_rfl) ?_
  refine seq_skip 9 rfl (by kernel_rfl) ?_
  refine seq_skip 10 rfl (by kernel_rfl) ?_
  refine seq_val (.bool true) 11 rfl (by kernel_rfl) (by kernel_rfl) ?_
  refine seq_nil ?_
  refine hK4 _ _ ?_
  try clear hK4 K4
  refine cond_true (by kernel_rfl) ?_
  refine wp_seq_k fun K5 hK5 => ?_
  refine region_lit ?_
  refine seq_val (.iface 44 (.int .i64 8)) 12 rfl (by kernel_rfl) (by kernel_rfl) ?_
  refine seq_val (.iface 44 (.int .i64 8)) 4 rfl (by kernel_rfl) (by kernel_rfl) ?_
  refine seq_nil ?_
  refine hK5 _ _ ?_
  try clear hK5 K5
  refine wp_ret ?_
  repeat (first | with_reducible refine goR1 ?_ | with_reducible refine goR2 ?_)
  exact (show bodyPost _ _ _ .ret _ _ from ret1 (.iface 44 (.int .i64 8)) rfl (res_tmp (by kernel_rfl)) ⟨rfl, (Rely.Ext.refl w)⟩)
set_option maxHeartbeats 4000000 in
theorem check_B (g : Nat) (nx : Int) (B : Nat) (n : Int) (hnx : 0 ≤ nx ∧ nx ≤ 4294967295) (hB : B < 18446744073709551616) (w : World) (hg : w.heap[g]? = some (.cells (cat [#[.int .i64 nx], #[.int .u64 ((B : Nat) : Int)]]) 35)) (hc : 4294967295 ≤ n) : Calls Try.prog 18 #[.pointer (some ⟨g, 0, none⟩), .int .i64 n] w (Ret w (.iface 44 (.int .i64 8))) := by
  refine enter 38 [(0, .pointer (some ⟨g, 0, none⟩)), (1, .int .i64 n)] Try.func18 rfl rfl (by kernel_rfl) rfl ?_
  refine wp_seq_k fun K2 hK2 => ?_
  refine region_lit ?_
  refine seq_val (.nilIface) 4 rfl (by kernel_rfl) (by kernel_rfl) ?_
  refine seq_nil ?_
  refine hK2 _ _ ?_
  try clear hK2 K2
  refine wp_seq_k fun K3 hK3 => ?_
  refine wp_seq_k fun K4 hK4 => ?_
  refine region_lit ?_
  refine seq_val (.int .i64 n) 6 rfl (by kernel_rfl) (by kernel_rfl) ?_
  refine seq_val (.bool false) 7 rfl (by kernel_rfl) (run_eq (u := .bool (decide (n < 0))) (by kernel_rfl) (congrArg Value.bool (decide_eq_false (by omega)))) ?_
  refine seq_val (.bool false) 8 rfl (by kernel_rfl) (by kernel_rfl) ?_
  refine seq_val (.int .i64 n) 9 rfl (by kernel_rfl) (by kernel_rfl) ?_
  refine seq_val (.bool true) 10 rfl (by kernel_rfl) (run_eq (u := .bool (decide (n ≥ 4294967295))) (by kernel_rfl) (congrArg Value.bool (decide_eq_true (by omega)))) ?_
  refine seq_val (.bool true) 11 rfl (by kernel_rfl) (by kernel_rfl) ?_
  refine seq_nil ?_
  refine hK4 _ _ ?_
  try clear hK4 K4
  refine cond_true (by kernel_rfl) ?_
  refine wp_seq_k fun K5 hK5 => ?_
  refine region_lit ?_
  refine seq_val (.iface 44 (.int .i64 8)) 12 rfl (by kernel_rfl) (by kernel_rfl) ?_
  refine seq_val (.iface 44 (.int .i64 8)) 4 rfl (by kernel_rfl) (by kernel_rfl) ?_
  refine seq_nil ?_
  refine hK5 _ _ ?_
  try clear hK5 K5
  refine wp_ret ?_
  repeat (first | with_reducible refine goR1 ?_ | with_reducible refine goR2 ?_)
  exact (show bodyPost _ _ _ .ret _ _ from ret1 (.iface 44 (.int .i64 8)) rfl (res_tmp (by kernel_rfl)) ⟨rfl, (Rely.Ext.refl w)⟩)
set_option maxHeartbeats 4000000 in
theorem check_C (g : Nat) (nx : Int) (B : Nat) (n : Int) (hnx : 0 ≤ nx ∧ nx ≤ 4294967295) (hB : B < 18446744073709551616) (w : World) (hg : w.heap[g]? = some (.cells (cat [#[.int .i64 nx], #[.int .u64 ((B : Nat) : Int)]]) 35)) (hn : 0 ≤ n ∧ n < 4294967295) (hc : 64 < nx - 1 - n) : Calls Try.prog 18 #[.pointer (some ⟨g, 0, none⟩), .int .i64 n] w (Ret w (.iface 44 (.int .i64 11))) := by
  refine enter 38 [(0, .pointer (some ⟨g, 0, none⟩)), (1, .int .i64 n)] Try.func18 rfl rfl (by kernel_rfl) rfl ?_
  refine wp_seq_k fun K2 hK2 => ?_
  refine region_lit ?_
  refine seq_val (.nilIface) 4 rfl (by kernel_rfl) (by kernel_rfl) ?_
  refine seq_nil ?_
  refine hK2 _ _ ?_
  try clear hK2 K2
  refine wp_seq_k fun K3 hK3 => ?_
  refine wp_seq_k fun K4 hK4 => ?_
  refine region_lit ?_
  refine seq_val (.int .i64 n) 6 rfl (by kernel_rfl) (by kernel_rfl) ?_
  refine seq_val (.bool false) 7 rfl (by kernel_rfl) (run_eq (u := .bool (decide (n < 0))) (by kernel_rfl) (congrArg Value.bool (decide_eq_false (by omega)))) ?_
  refine seq_val (.bool false) 8 rfl (by kernel_rfl) (by kernel_rfl) ?_
  refine seq_val (.int .i64 n) 9 rfl (by kernel_rfl) (by kernel_rfl) ?_
  refine seq_val (.bool false) 10 rfl (by kernel_rfl) (run_eq (u := .bool (decide (n ≥ 4294967295))) (by kernel_rfl) (congrArg Value.bool (decide_eq_false (by omega)))) ?_
  refine seq_val (.bool false) 11 rfl (by kernel_rfl) (by kernel_rfl) ?_
  refine seq_nil ?_
  refine hK4 _ _ ?_
  try clear hK4 K4
  refine cond_false (by kernel_rfl) ?_
  refine wp_skip ?_
  refine hK3 _ _ ?_
  try clear hK3 K3
  refine wp_seq_k fun K5 hK5 => ?_
  refine region_lit ?_
  refine seq_val (.pointer (some ⟨g, 0, none⟩)) 13 rfl (by kernel_rfl) (by kernel_rfl) ?_
  refine seq_call (.int .i64 (nx - 1)) 20 #[.pointer (some ⟨g, 0, none⟩)] 14 rfl (by kernel_rfl) (by kernel_rfl) (highestC g nx B hnx hB _ hg) fun W1 e1 => ?_
  have x1 : Ext w W1 := Ext.tr (Rely.Ext.refl w) e1
  refine seq_val (.int .i64 n) 15 rfl (by kernel_rfl) (by kernel_rfl) ?_
  refine seq_val (.int .i64 (nx - 1 - n)) 16 rfl (by kernel_rfl) (run_eq (u := .int .i64 (IntKind.i64.wrap ((nx - 1) - n))) (by kernel_rfl) (congrArg (Value.int .i64) (i64_w _ (by omega)))) ?_
  refine seq_val (.int .i64 (nx - 1 - n)) 5 rfl (by kernel_rfl) (by kernel_rfl) ?_
  refine seq_nil ?_
  refine hK5 _ _ ?_
  try clear hK5 K5
  refine wp_seq_k fun K6 hK6 => ?_
  refine wp_seq_k fun K7 hK7 => ?_
  refine region_lit ?_
  refine seq_val (.int .i64 (nx - 1 - n)) 17 rfl (by kernel_rfl) (by kernel_rfl) ?_
  refine seq_val (.bool true) 18 rfl (by kernel_rfl) (run_eq (u := .bool (decide ((nx - 1 - n) > 64))) (by kernel_rfl) (congrArg Value.bool (decide_eq_true (by omega)))) ?_
  refine seq_nil ?_
  refine hK7 _ _ ?_
  try clear hK7 K7
  refine cond_true (by kernel_rfl) ?_
  refine wp_seq_k fun K8 hK8 => ?_
  refine region_lit ?_
  refine seq_val (.iface 44 (.int .i64 11)) 19 rfl (by kernel_rfl) (by kernel_rfl) ?_
  refine seq_val (.iface 44 (.int .i64 11)) 4 rfl (by kernel_rfl) (by kernel_rfl) ?_
  refine seq_nil ?_
  refine hK8 _ _ ?_
  try clear hK8 K8
  refine wp_ret ?_
  repeat (first | with_reducible refine goR1 ?_ | with_reducible refine goR2 ?_)
  exact (show bodyPost _ _ _ .ret _ _ from ret1 (.iface 44 (.int .i64 11)) rfl (res_tmp (by kernel_rfl)) ⟨rfl, x1⟩)
set_option maxHeartbeats 4000000 in
theorem check_D (g : Nat) (nx : Int) (B : Nat) (n : Int) (hnx : 0 ≤ nx ∧ nx ≤ 4294967295) (hB : B < 18446744073709551616) (w : World) (hg : w.heap[g]? = some (.cells (cat [#[.int .i64 nx], #[.int .u64 ((B : Nat) : Int)]]) 35)) (hn : 0 ≤ n ∧ n < 4294967295) (hc : nx - 1 - n = 0) : Calls Try.prog 18 #[.pointer (some ⟨g, 0, none⟩), .int .i64 n] w (Ret w (.iface 44 (.int .i64 7))) := by
  refine enter 38 [(0, .pointer (some ⟨g, 0, none⟩)), (1, .int .i64 n)] Try.func18 rfl rfl (by kernel_rfl) rfl ?_
  refine wp_seq_k fun K2 hK2 => ?_
  refine region_lit ?_
  refine seq_val (.nilIface) 4 rfl (by kernel_rfl) (by kernel_rfl) ?_
  refine seq_nil ?_
  refine hK2 _ _ ?_
  try clear hK2 K2
  refine wp_seq_k fun K3 hK3 => ?_
  refine wp_seq_k fun K4 hK4 => ?_
  refine region_lit ?_
  refine seq_val (.int .i64 n) 6 rfl (by kernel_rfl) (by kernel_rfl) ?_
  refine seq_val (.bool false) 7 rfl (by kernel_rfl) (run_eq (u := .bool (decide (n < 0))) (by kernel_rfl) (congrArg Value.bool (decide_eq_false (by omega)))) ?_
  refine seq_val (.bool false) 8 rfl (by kernel_rfl) (by kernel_rfl) ?_
  refine seq_val (.int .i64 n) 9 rfl (by kernel_rfl) (by kernel_rfl) ?_
  refine seq_val (.bool false) 10 rfl (by kernel_rfl) (run_eq (u := .bool (decide (n ≥ 4294967295))) (by kernel_rfl) (congrArg Value.bool (decide_eq_false (by omega)))) ?_
  refine seq_val (.bool false) 11 rfl (by kernel_rfl) (by kernel_rfl) ?_
  refine seq_nil ?_
  refine hK4 _ _ ?_
  try clear hK4 K4
  refine cond_false (by kernel_rfl) ?_
  refine wp_skip ?_
  refine hK3 _ _ ?_
  try clear hK3 K3
  refine wp_seq_k fun K5 hK5 => ?_
  refine region_lit ?_
  refine seq_val (.pointer (some ⟨g, 0, none⟩)) 13 rfl (by kernel_rfl) (by kernel_rfl) ?_
  refine seq_call (.int .i64 (nx - 1)) 20 #[.pointer (some ⟨g, 0, none⟩)] 14 rfl (by kernel_rfl) (by kernel_rfl) (highestC g nx B hnx hB _ hg) fun W1 e1 => ?_
  have x1 : Ext w W1 := Ext.tr (Rely.Ext.refl w) e1
  refine seq_val (.int .i64 n) 15 rfl (by kernel_rfl) (by kernel_rfl) ?_
  refine seq_val (.int .i64 (nx - 1 - n)) 16 rfl (by kernel_rfl) (run_eq (u := .int .i64 (IntKind.i64.wrap ((nx - 1) - n))) (by kernel_rfl) (congrArg (Value.int .i64) (i64_w _ (by omega)))) ?_
  refine seq_val (.int .i64 (nx - 1 - n)) 5 rfl (by kernel_rfl) (by kernel_rfl) ?_
  refine seq_nil ?_
  refine hK5 _ _ ?_
  try clear hK5 K5
  refine wp_seq_k fun K6 hK6 => ?_
  refine wp_seq_k fun K7 hK7 => ?_
  refine region_lit ?_
  refine seq_val (.int .i64 (nx - 1 - n)) 17 rfl (by kernel_rfl) (by kernel_rfl) ?_
  refine seq_val (.bool false) 18 rfl (by kernel_rfl) (run_eq (u := .bool (decide ((nx - 1 - n) > 64))) (by kernel_rfl) (congrArg Value.bool (decide_eq_false (by omega)))) ?_
  refine seq_nil ?_
  refine hK7 _ _ ?_
  try clear hK7 K7
  refine cond_false (by kernel_rfl) ?_
  refine wp_skip ?_
  refine hK6 _ _ ?_
  try clear hK6 K6
  refine wp_seq_k fun K8 hK8 => ?_
  refine wp_seq_k fun K9 hK9 => ?_
  refine region_lit ?_
  refine seq_val (.int .i64 (nx - 1 - n)) 20 rfl (by kernel_rfl) (by kernel_rfl) ?_
  refine seq_val (.bool true) 21 rfl (by kernel_rfl) (run_eq (u := .bool (((nx - 1 - n) == 0))) (by kernel_rfl) (congrArg Value.bool (by simp; omega))) ?_
  refine seq_val (.bool true) 22 rfl (by kernel_rfl) (by kernel_rfl) ?_
  refine seq_skip 23 rfl (by kernel_rfl) ?_
  refine seq_skip 24 rfl (by kernel_rfl) ?_
  refine seq_skip 25 rfl (by kernel_rfl) ?_
  refine seq_skip 26 rfl (by kernel_rfl) ?_
  refine seq_skip 27 rfl (by kernel_rfl) ?_
  refine seq_skip 28 rfl (by kernel_rfl) ?_
  refine seq_skip 29 rfl (by kernel_rfl) ?_
  refine seq_skip 30 rfl (by kernel_rfl) ?_
  refine seq_skip 31 rfl (by kernel_rfl) ?_
  refine seq_skip 32 rfl (by kernel_rfl) ?_
  refine seq_skip 33 rfl (by kernel_rfl) ?_
  refine seq_skip 34 rfl (by kernel_rfl) ?_
  refine seq_skip 35 rfl (by kernel_rfl) ?_
  refine seq_val (.bool true) 36 rfl (by kernel_rfl) (by kernel_rfl) ?_
  refine seq_nil ?_
  refine hK9 _ _ ?_
  try clear hK9 K9
  refine cond_true (by kernel_rfl) ?_
  refine wp_seq_k fun K10 hK10 => ?_
  refine region_lit ?_
  refine seq_val (.iface 44 (.int .i64 7)) 37 rfl (by kernel_rfl) (by kernel_rfl) ?_
  refine seq_val (.iface 44 (.int .i64 7)) 4 rfl (by kernel_rfl) (by kernel_rfl) ?_
  refine seq_nil ?_
  refine hK10 _ _ ?_
  try clear hK10 K10
  refine wp_ret ?_
  repeat (first | with_reducible refine goR1 ?_ | with_reducible refine goR2 ?_)
  exact (show bodyPost _ _ _ .ret _ _ from ret1 (.iface 44 (.int .i64 7)) rfl (res_tmp (by kernel_rfl)) ⟨rfl, x1⟩)
set_option maxHeartbeats 4000000 in
theorem check_E (g : Nat) (nx : Int) (B : Nat) (n : Int) (hnx : 0 ≤ nx ∧ nx ≤ 4294967295) (hB : B < 18446744073709551616) (w : World) (hg : w.heap[g]? = some (.cells (cat [#[.int .i64 nx], #[.int .u64 ((B : Nat) : Int)]]) 35)) (hn : 0 ≤ n ∧ n < 4294967295) (j : Nat) (hj : nx - 1 - n - 1 = (j : Int)) (hj2 : j < 64) (hc : B / 2 ^ j % 2 = 1) : Calls Try.prog 18 #[.pointer (some ⟨g, 0, none⟩), .int .i64 n] w (Ret w (.iface 44 (.int .i64 7))) := by
  refine enter 38 [(0, .pointer (some ⟨g, 0, none⟩)), (1, .int .i64 n)] Try.func18 rfl rfl (by kernel_rfl) rfl ?_
  refine wp_seq_k fun K2 hK2 => ?_
  refine region_lit ?_
  refine seq_val (.nilIface) 4 rfl (by kernel_rfl) (by kernel_rfl) ?_
  refine seq_nil ?_
  refine hK2 _ _ ?_
  try clear hK2 K2
  refine wp_seq_k fun K3 hK3 => ?_
  refine wp_seq_k fun K4 hK4 => ?_
  refine region_lit ?_
  refine seq_val (.int .i64 n) 6 rfl (by kernel_rfl) (by kernel_rfl) ?_
  refine seq_val (.bool false) 7 rfl (by kernel_rfl) (run_eq (u := .bool (decide (n < 0))) (by kernel_rfl) (congrArg Value.bool (decide_eq_false (by omega)))) ?_
  refine seq_val (.bool false) 8 rfl (by kernel_rfl) (by kernel_rfl) ?_
  refine seq_val (.int .i64 n) 9 rfl (by kernel_rfl) (by kernel_rfl) ?_
  refine seq_val (.bool false) 10 rfl (by kernel_rfl) (run_eq (u := .bool (decide (n ≥ 4294967295))) (by kernel_rfl) (congrArg Value.bool (decide_eq_false (by omega)))) ?_
  refine seq_val (.bool false) 11 rfl (by kernel_rfl) (by kernel_rfl) ?_
  refine seq_nil ?_
  refine hK4 _ _ ?_
  try clear hK4 K4
  refine cond_false (by kernel_rfl) ?_
  refine wp_skip ?_
  refine hK3 _ _ ?_
  try clear hK3 K3
  refine wp_seq_k fun K5 hK5 => ?_
  refine region_lit ?_
  refine seq_val (.pointer (some ⟨g, 0, none⟩)) 13 rfl (by kernel_rfl) (by kernel_rfl) ?_
  refine seq_call (.int .i64 (nx - 1)) 20 #[.pointer (some ⟨g, 0, none⟩)] 14 rfl (by kernel_rfl) (by kernel_rfl) (highestC g nx B hnx hB _ hg) fun W1 e1 => ?_
  have x1 : Ext w W1 := Ext.tr (Rely.Ext.refl w) e1
  refine seq_val (.int .i64 n) 15 rfl (by kernel_rfl) (by kernel_rfl) ?_
  refine seq_val (.int .i64 (nx - 1 - n)) 16 rfl (by kernel_rfl) (run_eq (u := .int .i64 (IntKind.i64.wrap ((nx - 1) - n))) (by kernel_rfl) (congrArg (Value.int .i64) (i64_w _ (by omega)))) ?_
  refine seq_val (.int .i64 (nx - 1 - n)) 5 rfl (by kernel_rfl) (by kernel_rfl) ?_
  refine seq_nil ?_
  refine hK5 _ _ ?_
  try clear hK5 K5
  refine wp_seq_k fun K6 hK6 => ?_
  refine wp_seq_k fun K7 hK7 => ?_
  refine region_lit ?_
  refine seq_val (.int .i64 (nx - 1 - n)) 17 rfl (by kernel_rfl) (by kernel_rfl) ?_
  refine seq_val (.bool false) 18 rfl (by kernel_rfl) (run_eq (u := .bool (decide ((nx - 1 - n) > 64))) (by kernel_rfl) (congrArg Value.bool (decide_eq_false (by omega)))) ?_
  refine seq_nil ?_
  refine hK7 _ _ ?_
  try clear hK7 K7
  refine cond_false (by kernel_rfl) ?_
  refine wp_skip ?_
  refine hK6 _ _ ?_
  try clear hK6 K6
  refine wp_seq_k fun K8 hK8 => ?_
  refine wp_seq_k fun K9 hK9 => ?_
  refine region_lit ?_
  refine seq_val (.int .i64 (nx - 1 - n)) 20 rfl (by kernel_rfl) (by kernel_rfl) ?_
  refine seq_val (.bool false) 21 rfl (by kernel_rfl) (run_eq (u := .bool (((nx - 1 - n) == 0))) (by kernel_rfl) (congrArg Value.bool (by simp; omega))) ?_
  refine seq_val (.bool false) 22 rfl (by kernel_rfl) (by kernel_rfl) ?_
  refine seq_val (.int .i64 (nx - 1 - n)) 23 rfl (by kernel_rfl) (by kernel_rfl) ?_
  refine seq_val (.bool true) 24 rfl (by kernel_rfl) (run_eq (u := .bool (decide ((nx - 1 - n) > 0))) (by kernel_rfl) (congrArg Value.bool (decide_eq_true (by omega)))) ?_
  refine seq_val (.bool true) 25 rfl (by kernel_rfl) (by kernel_rfl) ?_
  refine seq_val (.pointer (some ⟨g, 0, none⟩)) 26 rfl (by kernel_rfl) (by kernel_rfl) ?_
  refine seq_val (.pointer (some ⟨g, 0, none⟩)) 27 rfl (by kernel_rfl) (by kernel_rfl) ?_
  refine seq_val (.pointer (some ⟨g, 1, none⟩)) 28 rfl (by kernel_rfl) (by kernel_rfl) ?_
  have r1_1 := (row_ext hg e1)
  refine seq_val (.int .u64 (((B : Nat) : Int))) 29 rfl (by kernel_rfl) (run_loadC1 31 _ g 1 35 _ (.int .u64 (((B : Nat) : Int))) _ r1_1 rfl (by kernel_rfl) (by kernel_rfl) (by kernel_rfl)) ?_
  refine seq_val (.int .i64 (nx - 1 - n)) 30 rfl (by kernel_rfl) (by kernel_rfl) ?_
  refine seq_val (.int .i64 (((j : Nat) : Int))) 31 rfl (by kernel_rfl) (run_eq (u := .int .i64 (IntKind.i64.wrap ((nx - 1 - n) - 1))) (by kernel_rfl) (congrArg (Value.int .i64) (by rw [hj]; exact i64_w _ (by omega)))) ?_
  refine seq_val (.int .u64 (((B / 2 ^ j : Nat) : Int))) 32 rfl (by kernel_rfl) (run_bin .shr _ _ _ _ .u64 .i64 _ _ _ rfl (by kernel_rfl) (by kernel_rfl) (b_shr _ _ _ _ _ _ (by omega) (shrB B j hj2))) ?_
  refine seq_val (.int .u64 (((B / 2 ^ j % 2 : Nat) : Int))) 33 rfl (by kernel_rfl) (run_eq (u := .int .u64 (bits .and .u64 ((((B / 2 ^ j : Nat) : Int))) (1))) (by kernel_rfl) (congrArg (Value.int .u64) (andB _ (Nat.lt_of_le_of_lt (Nat.div_le_self _ _) hB)))) ?_
  refine seq_val (.bool true) 34 rfl (by kernel_rfl) (run_eq (u := .bool (((((B / 2 ^ j % 2 : Nat) : Int)) == 1))) (by kernel_rfl) (congrArg Value.bool (by rw [hc]; rfl))) ?_
  refine seq_val (.bool true) 35 rfl (by kernel_rfl) (by kernel_rfl) ?_
  refine seq_val (.bool true) 36 rfl (by kernel_rfl) (by kernel_rfl) ?_
  refine seq_nil ?_
  refine hK9 _ _ ?_
  try clear hK9 K9
  refine cond_true (by kernel_rfl) ?_
  refine wp_seq_k fun K10 hK10 => ?_
  refine region_lit ?_
  refine seq_val (.iface 44 (.int .i64 7)) 37 rfl (by kernel_rfl) (by kernel_rfl) ?_
  refine seq_val (.iface 44 (.int .i64 7)) 4 rfl (by kernel_rfl) (by kernel_rfl) ?_
  refine seq_nil ?_
  refine hK10 _ _ ?_
  try clear hK10 K10
  refine wp_ret ?_
  repeat (first | with_reducible refine goR1 ?_ | with_reducible refine goR2 ?_)
  exact (show bodyPost _ _ _ .ret _ _ from ret1 (.iface 44 (.int .i64 7)) rfl (res_tmp (by kernel_rfl)) ⟨rfl, x1⟩)
set_option maxHeartbeats 4000000 in
theorem check_F (g : Nat) (nx : Int) (B : Nat) (n : Int) (hnx : 0 ≤ nx ∧ nx ≤ 4294967295) (hB : B < 18446744073709551616) (w : World) (hg : w.heap[g]? = some (.cells (cat [#[.int .i64 nx], #[.int .u64 ((B : Nat) : Int)]]) 35)) (hn : 0 ≤ n ∧ n < 4294967295) (j : Nat) (hj : nx - 1 - n - 1 = (j : Int)) (hj2 : j < 64) (hc : B / 2 ^ j % 2 = 0) : Calls Try.prog 18 #[.pointer (some ⟨g, 0, none⟩), .int .i64 n] w (Ret w (.nilIface)) := by
  refine enter 38 [(0, .pointer (some ⟨g, 0, none⟩)), (1, .int .i64 n)] Try.func18 rfl rfl (by kernel_rfl) rfl ?_
  refine wp_seq_k fun K2 hK2 => ?_
  refine region_lit ?_
  refine seq_val (.nilIface) 4 rfl (by kernel_rfl) (by kernel_rfl) ?_
  refine seq_nil ?_
  refine hK2 _ _ ?_
  try clear hK2 K2
  refine wp_seq_k fun K3 hK3 => ?_
  refine wp_seq_k fun K4 hK4 => ?_
  refine region_lit ?_
  refine seq_val (.int .i64 n) 6 rfl (by kernel_rfl) (by kernel_rfl) ?_
  refine seq_val (.bool false) 7 rfl (by kernel_rfl) (run_eq (u := .bool (decide (n < 0))) (by kernel_rfl) (congrArg Value.bool (decide_eq_false (by omega)))) ?_
  refine seq_val (.bool false) 8 rfl (by kernel_rfl) (by kernel_rfl) ?_
  refine seq_val (.int .i64 n) 9 rfl (by kernel_rfl) (by kernel_rfl) ?_
  refine seq_val (.bool false) 10 rfl (by kernel_rfl) (run_eq (u := .bool (decide (n ≥ 4294967295))) (by kernel_rfl) (congrArg Value.bool (decide_eq_false (by omega)))) ?_
  refine seq_val (.bool false) 11 rfl (by kernel_rfl) (by kernel_rfl) ?_
  refine seq_nil ?_
  refine hK4 _ _ ?_
  try clear hK4 K4
  refine cond_false (by kernel_rfl) ?_
  refine wp_skip ?_
  refine hK3 _ _ ?_
  try clear hK3 K3
  refine wp_seq_k fun K5 hK5 => ?_
  refine region_lit ?_
  refine seq_val (.pointer (some ⟨g, 0, none⟩)) 13 rfl (by kernel_rfl) (by kernel_rfl) ?_
  refine seq_call (.int .i64 (nx - 1)) 20 #[.pointer (some ⟨g, 0, none⟩)] 14 rfl (by kernel_rfl) (by kernel_rfl) (highestC g nx B hnx hB _ hg) fun W1 e1 => ?_
  have x1 : Ext w W1 := Ext.tr (Rely.Ext.refl w) e1
  refine seq_val (.int .i64 n) 15 rfl (by kernel_rfl) (by kernel_rfl) ?_
  refine seq_val (.int .i64 (nx - 1 - n)) 16 rfl (by kernel_rfl) (run_eq (u := .int .i64 (IntKind.i64.wrap ((nx - 1) - n))) (by kernel_rfl) (congrArg (Value.int .i64) (i64_w _ (by omega)))) ?_
  refine seq_val (.int .i64 (nx - 1 - n)) 5 rfl (by kernel_rfl) (by kernel_rfl) ?_
  refine seq_nil ?_
  refine hK5 _ _ ?_
  try clear hK5 K5
  refine wp_seq_k fun K6 hK6 => ?_
  refine wp_seq_k fun K7 hK7 => ?_
  refine region_lit ?_
  refine seq_val (.int .i64 (nx - 1 - n)) 17 rfl (by kernel_rfl) (by kernel_rfl) ?_
  refine seq_val (.bool false) 18 rfl (by kernel_rfl) (run_eq (u := .bool (decide ((nx - 1 - n) > 64))) (by kernel_rfl) (congrArg Value.bool (decide_eq_false (by omega)))) ?_
  refine seq_nil ?_
  refine hK7 _ _ ?_
  try clear hK7 K7
  refine cond_false (by kernel_rfl) ?_
  refine wp_skip ?_
  refine hK6 _ _ ?_
  try clear hK6 K6
  refine wp_seq_k fun K8 hK8 => ?_
  refine wp_seq_k fun K9 hK9 => ?_
  refine region_lit ?_
  refine seq_val (.int .i64 (nx - 1 - n)) 20 rfl (by kernel_rfl) (by kernel_rfl) ?_
  refine seq_val (.bool false) 21 rfl (by kernel_rfl) (run_eq (u := .bool (((nx - 1 - n) == 0))) (by kernel_rfl) (congrArg Value.bool (by simp; omega))) ?_
  refine seq_val (.bool false) 22 rfl (by kernel_rfl) (by kernel_rfl) ?_
  refine seq_val (.int .i64 (nx - 1 - n)) 23 rfl (by kernel_rfl) (by kernel_rfl) ?_
  refine seq_val (.bool true) 24 rfl (by kernel_rfl) (run_eq (u := .bool (decide ((nx - 1 - n) > 0))) (by kernel_rfl) (congrArg Value.bool (decide_eq_true (by omega)))) ?_
  refine seq_val (.bool true) 25 rfl (by kernel_rfl) (by kernel_rfl) ?_
  refine seq_val (.pointer (some ⟨g, 0, none⟩)) 26 rfl (by kernel_rfl) (by kernel_rfl) ?_
  refine seq_val (.pointer (some ⟨g, 0, none⟩)) 27 rfl (by kernel_rfl) (by kernel_rfl) ?_
  refine seq_val (.pointer (some ⟨g, 1, none⟩)) 28 rfl (by kernel_rfl) (by kernel_rfl) ?_
  have r1_1 := (row_ext hg e1)
  refine seq_val (.int .u64 (((B : Nat) : Int))) 29 rfl (by kernel_rfl) (run_loadC1 31 _ g 1 35 _ (.int .u64 (((B : Nat) : Int))) _ r1_1 rfl (by kernel_rfl) (by kernel_rfl) (by kernel_rfl)) ?_
  refine seq_val (.int .i64 (nx - 1 - n)) 30 rfl (by kernel_rfl) (by kernel_rfl) ?_
  refine seq_val (.int .i64 (((j : Nat) : Int))) 31 rfl (by kernel_rfl) (run_eq (u := .int .i64 (IntKind.i64.wrap ((nx - 1 - n) - 1))) (by kernel_rfl) (congrArg (Value.int .i64) (by rw [hj]; exact i64_w _ (by omega)))) ?_
  refine seq_val (.int .u64 (((B / 2 ^ j : Nat) : Int))) 32 rfl (by kernel_rfl) (run_bin .shr _ _ _ _ .u64 .i64 _ _ _ rfl (by kernel_rfl) (by kernel_rfl) (b_shr _ _ _ _ _ _ (by omega) (shrB B j hj2))) ?_
  refine seq_val (.int .u64 (((B / 2 ^ j % 2 : Nat) : Int))) 33 rfl (by kernel_rfl) (run_eq (u := .int .u64 (bits .and .u64 ((((B / 2 ^ j : Nat) : Int))) (1))) (by kernel_rfl) (congrArg (Value.int .u64) (andB _ (Nat.lt_of_le_of_lt (Nat.div_le_self _ _) hB)))) ?_
  refine seq_val (.bool false) 34 rfl (by kernel_rfl) (run_eq (u := .bool (((((B / 2 ^ j % 2 : Nat) : Int)) == 1))) (by kernel_rfl) (congrArg Value.bool (by rw [hc]; rfl))) ?_
  refine seq_val (.bool false) 35 rfl (by kernel_rfl) (by kernel_rfl) ?_
  refine seq_val (.bool false) 36 rfl (by kernel_rfl) (by kernel_rfl) ?_
  refine seq_nil ?_
  refine hK9 _ _ ?_
  try clear hK9 K9
  refine cond_false (by kernel_rfl) ?_
  refine wp_skip ?_
  refine hK8 _ _ ?_
  try clear hK8 K8
  refine wp_seq_k fun K10 hK10 => ?_
  refine region_lit ?_
  refine seq_val (.nilIface) 4 rfl (by kernel_rfl) (by kernel_rfl) ?_
  refine seq_nil ?_
  refine hK10 _ _ ?_
  try clear hK10 K10
  refine wp_ret ?_
  repeat (first | with_reducible refine goR1 ?_ | with_reducible refine goR2 ?_)
  exact (show bodyPost _ _ _ .ret _ _ from ret1 (.nilIface) rfl (res_tmp (by kernel_rfl)) ⟨rfl, x1⟩)
set_option maxHeartbeats 4000000 in
theorem check_G (g : Nat) (nx : Int) (B : Nat) (n : Int) (hnx : 0 ≤ nx ∧ nx ≤ 4294967295) (hB : B < 18446744073709551616) (w : World) (hg : w.heap[g]? = some (.cells (cat [#[.int .i64 nx], #[.int .u64 ((B : Nat) : Int)]]) 35)) (hn : 0 ≤ n ∧ n < 4294967295) (hc : nx - 1 - n < 0) : Calls Try.prog 18 #[.pointer (some ⟨g, 0, none⟩), .int .i64 n] w (Ret w (.nilIface)) := by
  refine enter 38 [(0, .pointer (some ⟨g, 0, none⟩)), (1, .int .i64 n)] Try.func18 rfl rfl (by kernel_rfl) rfl ?_
  refine wp_seq_k fun K2 hK2 => ?_
  refine region_lit ?_
  refine seq_val (.nilIface) 4 rfl (by kernel_rfl) (by kernel_rfl) ?_
  refine seq_nil ?_
  refine hK2 _ _ ?_
  try clear hK2 K2
  refine wp_seq_k fun K3 hK3 => ?_
  refine wp_seq_k fun K4 hK4 => ?_
  refine region_lit ?_
  refine seq_val (.int .i64 n) 6 rfl (by kernel_rfl) (by kernel_rfl) ?_
  refine seq_val (.bool false) 7 rfl (by kernel_rfl) (run_eq (u := .bool (decide (n < 0))) (by kernel_rfl) (congrArg Value.bool (decide_eq_false (by omega)))) ?_
  refine seq_val (.bool false) 8 rfl (by kernel_rfl) (by kernel_rfl) ?_
  refine seq_val (.int .i64 n) 9 rfl (by kernel_rfl) (by kernel_rfl) ?_
  refine seq_val (.bool false) 10 rfl (by kernel_rfl) (run_eq (u := .bool (decide (n ≥ 4294967295))) (by kernel_rfl) (congrArg Value.bool (decide_eq_false (by omega)))) ?_
  refine seq_val (.bool false) 11 rfl (by kernel_rfl) (by kernel_rfl) ?_
  refine seq_nil ?_
  refine hK4 _ _ ?_
  try clear hK4 K4
  refine cond_false (by kernel_rfl) ?_
  refine wp_skip ?_
  refine hK3 _ _ ?_
  try clear hK3 K3
  refine wp_seq_k fun K5 hK5 => ?_
  refine region_lit ?_
  refine seq_val (.pointer (some ⟨g, 0, none⟩)) 13 rfl (by kernel_rfl) (by kernel_rfl) ?_
  refine seq_call (.int .i64 (nx - 1)) 20 #[.pointer (some ⟨g, 0, none⟩)] 14 rfl (by kernel_rfl) (by kernel_rfl) (highestC g nx B hnx hB _ hg) fun W1 e1 => ?_
  have x1 : Ext w W1 := Ext.tr (Rely.Ext.refl w) e1
  refine seq_val (.int .i64 n) 15 rfl (by kernel_rfl) (by kernel_rfl) ?_
  refine seq_val (.int .i64 (nx - 1 - n)) 16 rfl (by kernel_rfl) (run_eq (u := .int .i64 (IntKind.i64.wrap ((nx - 1) - n))) (by kernel_rfl) (congrArg (Value.int .i64) (i64_w _ (by omega)))) ?_
  refine seq_val (.int .i64 (nx - 1 - n)) 5 rfl (by kernel_rfl) (by kernel_rfl) ?_
  refine seq_nil ?_
  refine hK5 _ _ ?_
  try clear hK5 K5
  refine wp_seq_k fun K6 hK6 => ?_
  refine wp_seq_k fun K7 hK7 => ?_
  refine region_lit ?_
  refine seq_val (.int .i64 (nx - 1 - n)) 17 rfl (by kernel_rfl) (by kernel_rfl) ?_
  refine seq_val (.bool false) 18 rfl (by kernel_rfl) (run_eq (u := .bool (decide ((nx - 1 - n) > 64))) (by kernel_rfl) (congrArg Value.bool (decide_eq_false (by omega)))) ?_
  refine seq_nil ?_
  refine hK7 _ _ ?_
  try clear hK7 K7
  refine cond_false (by kernel_rfl) ?_
  refine wp_skip ?_
  refine hK6 _ _ ?_
  try clear hK6 K6
  refine wp_seq_k fun K8 hK8 => ?_
  refine wp_seq_k fun K9 hK9 => ?_
  refine region_lit ?_
  refine seq_val (.int .i64 (nx - 1 - n)) 20 rfl (by kernel_rfl) (by kernel_rfl) ?_
  refine seq_val (.bool false) 21 rfl (by kernel_rfl) (run_eq (u := .bool (((nx - 1 - n) == 0))) (by kernel_rfl) (congrArg Value.bool (by simp; omega))) ?_
  refine seq_val (.bool false) 22 rfl (by kernel_rfl) (by kernel_rfl) ?_
  refine seq_val (.int .i64 (nx - 1 - n)) 23 rfl (by kernel_rfl) (by kernel_rfl) ?_
  refine seq_val (.bool false) 24 rfl (by kernel_rfl) (run_eq (u := .bool (decide ((nx - 1 - n) > 0))) (by kernel_rfl) (congrArg Value.bool (decide_eq_false (by omega)))) ?_
  refine seq_val (.bool false) 25 rfl (by kernel_rfl) (by kernel_rfl) ?_
  refine seq_skip 26 rfl (by kernel_rfl) ?_
  refine seq_skip 27 rfl (by kernel_rfl) ?_
  refine seq_skip 28 rfl (by kernel_rfl) ?_
  refine seq_skip 29 rfl (by kernel_rfl) ?_
  refine seq_skip 30 rfl (by kernel_rfl) ?_
  refine seq_skip 31 rfl (by kernel_rfl) ?_
  refine seq_skip 32 rfl (by kernel_rfl) ?_
  refine seq_skip 33 rfl (by kernel_rfl) ?_
  refine seq_skip 34 rfl (by kernel_rfl) ?_
  refine seq_val (.bool false) 35 rfl (by kernel_rfl) (by kernel_rfl) ?_
  refine seq_val (.bool false) 36 rfl (by kernel_rfl) (by kernel_rfl) ?_
  refine seq_nil ?_
  refine hK9 _ _ ?_
  try clear hK9 K9
  refine cond_false (by kernel_rfl) ?_
  refine wp_skip ?_
  refine hK8 _ _ ?_
  try clear hK8 K8
  refine wp_seq_k fun K10 hK10 => ?_
  refine region_lit ?_
  refine seq_val (.nilIface) 4 rfl (by kernel_rfl) (by kernel_rfl) ?_
  refine seq_nil ?_
  refine hK10 _ _ ?_
  try clear hK10 K10
  refine wp_ret ?_
  repeat (first | with_reducible refine goR1 ?_ | with_reducible refine goR2 ?_)
  exact (show bodyPost _ _ _ .ret _ _ from ret1 (.nilIface) rfl (res_tmp (by kernel_rfl)) ⟨rfl, x1⟩)
theorem checkC (g : Nat) (nx : Int) (B : Nat) (n : Int) (hnx : 0 ≤ nx ∧ nx ≤ 4294967295) (hB : B < 18446744073709551616) (w : World) (hg : w.heap[g]? = some (.cells (cat [#[.int .i64 nx], #[.int .u64 ((B : Nat) : Int)]]) 35)) : Calls Try.prog 18 #[.pointer (some ⟨g, 0, none⟩), .int .i64 n] w (Ret w (errV (chkW nx B n))) := by
  unfold chkW
  by_cases h1 : n < 0
  · rw [if_pos (.inl h1)]; exact check_A g nx B n hnx hB w hg h1
  by_cases h2 : 4294967295 ≤ n
  · rw [if_pos (.inr h2)]; exact check_B g nx B n hnx hB w hg h2
  rw [if_neg (by omega)]
  have hn : 0 ≤ n ∧ n < 4294967295 := by omega
  by_cases h3 : 64 < nx - 1 - n
  · rw [if_pos h3]; exact check_C g nx B n hnx hB w hg hn h3
  rw [if_neg h3]
  by_cases h4 : nx - 1 - n = 0
  · rw [if_pos (.inl h4)]; exact check_D g nx B n hnx hB w hg hn h4
  by_cases h5 : 0 < nx - 1 - n
  · obtain ⟨j, hj⟩ := Int.eq_ofNat_of_zero_le (show 0 ≤ nx - 1 - n - 1 by omega)
    have hj2 : j < 64 := by omega
    rw [hj, Int.toNat_natCast]
    have hm : B / 2 ^ j % 2 < 2 := Nat.mod_lt _ (by decide)
    by_cases h6 : B / 2 ^ j % 2 = 1
    · rw [if_pos (.inr ⟨h5, h6⟩)]; exact check_E g nx B n hnx hB w hg hn j hj hj2 h6
    · rw [if_neg (by rintro (h | h); exact h4 h; exact h6 h.2)]; exact check_F g nx B n hnx hB w hg hn j hj hj2 (by omega)
  · rw [if_neg (by rintro (h | h); exact h4 h; exact h5 h.1)]; exact check_G g nx B n hnx hB w hg hn (by omega)
set_option maxHeartbeats 4000000 in
theorem CheckC (g : Nat) (nx : Int) (B : Nat) (n : Int) (hnx : 0 ≤ nx ∧ nx ≤ 4294967295) (hB : B < 18446744073709551616) (w : World) (hg : w.heap[g]? = some (.cells (cat [#[.int .i64 nx], #[.int .u64 ((B : Nat) : Int)]]) 35)) : Calls Try.prog 12 #[.pointer (some ⟨g, 0, none⟩), .int .i64 n] w (Ret w (errV (chkW nx B n))) := by
  refine enter 13 [(0, .pointer (some ⟨g, 0, none⟩)), (1, .int .i64 n)] Try.func12 rfl rfl (by kernel_rfl) rfl ?_
  refine wp_seq_k fun K2 hK2 => ?_
  refine region_lit ?_
  refine seq_val (.nilIface) 4 rfl (by kernel_rfl) (by kernel_rfl) ?_
  refine seq_nil ?_
  refine hK2 _ _ ?_
  try clear hK2 K2
  refine wp_seq_k fun K3 hK3 => ?_
  refine wp_seq_k fun K4 hK4 => ?_
  refine region_lit ?_
  refine seq_val (.pointer (some ⟨g, 0, none⟩)) 5 rfl (by kernel_rfl) (by kernel_rfl) ?_
  refine seq_val (.bool false) 6 rfl (by kernel_rfl) (by kernel_rfl) ?_
  refine seq_nil ?_
  refine hK4 _ _ ?_
  try clear hK4 K4
  refine cond_false (by kernel_rfl) ?_
  refine wp_skip ?_
  refine hK3 _ _ ?_
  try clear hK3 K3
  refine wp_seq_k fun K5 hK5 => ?_
  refine region_lit ?_
  refine seq_val (.pointer (some ⟨g, 0, none⟩)) 8 rfl (by kernel_rfl) (by kernel_rfl) ?_
  refine seq_val (.pointer (some ⟨g, 0, none⟩)) 9 rfl (by kernel_rfl) (by kernel_rfl) ?_
  refine seq_val (.pointer (some ⟨g, 0, none⟩)) 10 rfl (by kernel_rfl) (by kernel_rfl) ?_
  refine seq_val (.int .i64 n) 11 rfl (by kernel_rfl) (by kernel_rfl) ?_
  refine seq_call (errV (chkW nx B n)) 18 #[.pointer (some ⟨g, 0, none⟩), .int .i64 n] 12 rfl (by kernel_rfl) (by kernel_rfl) (checkC g nx B n hnx hB _ hg) fun W1 e1 => ?_
  have x1 : Ext w W1 := Ext.tr (Rely.Ext.refl w) e1
  refine seq_val (errV (chkW nx B n)) 4 rfl (by kernel_rfl) (by kernel_rfl) ?_
  refine seq_nil ?_
  refine hK5 _ _ ?_
  try clear hK5 K5
  refine wp_ret ?_
  repeat (first | with_reducible refine goR1 ?_ | with_reducible refine goR2 ?_)
  exact (show bodyPost _ _ _ .ret _ _ from ret1 (errV (chkW nx B n)) rfl (res_tmp (by kernel_rfl)) ⟨rfl, x1⟩)
set_option maxHeartbeats 4000000 in
theorem CheckN (n : Int) (w : World) : Calls Try.prog 12 #[.pointer none, .int .i64 n] w (Ret w (.iface 44 (.int .i64 8))) := by
  refine enter 13 [(0, .pointer none), (1, .int .i64 n)] Try.func12 rfl rfl (by kernel_rfl) rfl ?_
  refine wp_seq_k fun K1 hK1 => ?_
  refine region_lit ?_
  refine seq_val (.nilIface) 4 rfl (by kernel_rfl) (by kernel_rfl) ?_
  refine seq_nil ?_
  refine hK1 _ _ ?_
  try clear hK1 K1
  refine wp_seq_k fun K2 hK2 => ?_
  refine wp_seq_k fun K3 hK3 => ?_
  refine region_lit ?_
  refine seq_val (.pointer none) 5 rfl (by kernel_rfl) (by kernel_rfl) ?_
  refine seq_val (.bool true) 6 rfl (by kernel_rfl) (by kernel_rfl) ?_
  refine seq_nil ?_
  refine hK3 _ _ ?_
  try clear hK3 K3
  refine cond_true (by kernel_rfl) ?_
  refine wp_seq_k fun K4 hK4 => ?_
  refine region_lit ?_
  refine seq_val (.iface 44 (.int .i64 8)) 7 rfl (by kernel_rfl) (by kernel_rfl) ?_
  refine seq_val (.iface 44 (.int .i64 8)) 4 rfl (by kernel_rfl) (by kernel_rfl) ?_
  refine seq_nil ?_
  refine hK4 _ _ ?_
  try clear hK4 K4
  refine wp_ret ?_
  repeat (first | with_reducible refine goR1 ?_ | with_reducible refine goR2 ?_)
  exact (show bodyPost _ _ _ .ret _ _ from ret1 (.iface 44 (.int .i64 8)) rfl (res_tmp (by kernel_rfl)) ⟨rfl, (Rely.Ext.refl w)⟩)

end Go.Proofs.Ytfkldohjeepbkaa.Lk
