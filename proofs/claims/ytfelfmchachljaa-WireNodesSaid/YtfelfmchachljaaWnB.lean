/- Do numbers rise? -/
import Derived.Test.YtfelfmchachljaaWnA
namespace Go.Proofs.Ytfelfmchachljaa.Wr
open Go Go.RowKit
open Go.Proofs.Ytfelfmchachljaa.Rely Go.Proofs.Ytfelfmchachljaa.Auto Go.Proofs.Ytfelfmchachljaa.Own Go.Proofs.Ytfelfmchachljaa.Sha
set_option linter.unusedVariables false
set_option linter.unusedSimpArgs false

open Go.Proofs.Ytfelfmchachljaa.Wk
/-- do the first n numbers rise? -/
def risN (ms : List Int) : Nat → Bool
  | 0 => true
  | n + 1 => risN ms n && ((n == 0) || decide (nth ms (n - 1) < nth ms n))
def risV (ms : List Int) : Bool := risN ms ms.length
theorem risN_false (ms : List Int) (k : Nat) (h : risN ms k = false) : ∀ n, k ≤ n → risN ms n = false
  | 0, hk => by obtain rfl : k = 0 := by omega
                exact h
  | n + 1, hk => by
    by_cases e : k = n + 1
    · rw [← e]; exact h
    · unfold risN
      rw [risN_false ms k h n (by omega)]
      rfl
theorem risN_step (ms : List Int) (i : Nat) (hr : risN ms (i + 1) = true) : risN ms (i + 1 + 1) = decide (nth ms i < nth ms (i + 1)) := by
  show (risN ms (i + 1) && ((i + 1 == 0) || decide (nth ms (i + 1 - 1) < nth ms (i + 1)))) = _
  rw [hr, beq_eq_false_iff_ne.2 (show i + 1 ≠ 0 by omega)]
  rfl
set_option maxHeartbeats 4000000 in
theorem risingC (ms : List Int) (a_m : Option Addr) (c_m B : Nat) (w : World) (hml : ms.length ≤ 1000000) (hm : RdK .i64 B ms (.slice a_m ms.length c_m) w) : Calls Try.prog 121 #[.slice a_m ms.length c_m] w (Ret w (.bool (risV ms))) := by
  refine enter 20 [(0, .slice a_m ms.length c_m)] Try.func121 rfl rfl kj rfl ?_
  refine wp_seq_k fun K1 hK1 => ?_
  refine region_lit ?_
  refine seq_val (.bool false) 2 rfl kj kj ?_
  refine seq_nil ?_
  refine hK1 _ _ ?_
  try clear hK1 K1
  refine wp_seq_k fun K2 hK2 => ?_
  refine wp_seq_k fun K3 hK3 => ?_
  refine region_lit ?_
  refine seq_val (.int .i64 1) 3 rfl kj kj ?_
  refine seq_nil ?_
  refine hK3 _ _ ?_
  try clear hK3 K3
  refine wp_block ?_
  refine loop_auto (fun (s1 : Nat) => [(0, .slice a_m ms.length c_m), (3, .int .i64 (((s1 + 1) : Nat) : Int))]) (fun (s1 : Nat) W => (s1 + 1 ≤ ms.length ∨ s1 = 0) ∧ (risN ms (s1 + 1) = true) ∧ (Ext w W) ∧ (Ext w W)) (fun (s1 : Nat) => ms.length - s1) 0 ⟨rfl, rfl, trivial⟩ ⟨(.inr rfl), rfl, (Rely.Ext.refl w), (Rely.Ext.refl w)⟩ fun s1 X1 V1 hI1 => ?_
  obtain ⟨ip, hs1⟩ : ∃ z, z = s1 := ⟨_, rfl⟩
  subst hs1
  obtain ⟨hi, hr, kk1, xx1⟩ := hI1
  replace hi : ip + 1 ≤ ms.length ∨ ip = 0 := hi
  replace hr : risN ms (ip + 1) = true := hr
  replace kk1 : Ext w V1 := kk1
  replace xx1 : Ext w V1 := xx1
  have e1 := kk1
  refine wp_seq_k fun K4 hK4 => ?_
  refine wp_seq_k fun K5 hK5 => ?_
  refine region_lit ?_
  refine seq_val (.int .i64 (((ip + 1) : Nat) : Int)) 4 rfl kj kj ?_
  refine seq_val (.slice a_m ms.length c_m) 5 rfl kj kj ?_
  refine seq_val (.int .i64 ((ms.length : Nat) : Int)) 6 rfl kj kj ?_
  refine seq_val (.bool (decide ((((ip + 1) : Nat) : Int) < ((ms.length : Nat) : Int)))) 7 rfl kj kj ?_
  refine seq_nil ?_
  refine hK5 _ _ ?_
  try clear hK5 K5
  refine cond_split (t := decide ((((ip + 1) : Nat) : Int) < ((ms.length : Nat) : Int))) kj (fun c6 => ?_) (fun c6 => ?_)
  · skip
    have hlt7 : ip + 1 < ms.length := by have := of_decide_eq_true c6; omega
    have hnm_7 : (ms).length = ms.length := rfl
    obtain ⟨gcm_7, ocm_7, ham_7, hlm_7, hcm_7⟩ := rdK_open (RdK.here (RdK.ext hm xx1)) (by rw [hnm_7]; omega)
    refine wp_skip ?_
    refine hK4 _ _ ?_
    try clear hK4 K4
    refine wp_seq_k fun K8 hK8 => ?_
    refine wp_block ?_
    refine wp_seq_k fun K9 hK9 => ?_
    refine region_walkB kj fun W2 e2 => ?_
    have x2 : Ext w W2 := Ext.tr xx1 e2
    refine wb_val 0 (.slice a_m ms.length c_m) 10 rfl rfl kj kj (fun _ _ _ h => h) (fun W hR => by kernel_rfl) ?_
    refine wb_val 1 (.int .i64 (((ip + 1) : Nat) : Int)) 11 rfl rfl kj kj (fun _ _ _ h => h) (fun W hR => by kernel_rfl) ?_
    refine wb_val 2 (.int .i64 (((ip : Nat) : Int))) 12 rfl rfl kj kj (fun _ _ _ h => h) (fun W hR => (run_eq (u := .int .i64 (IntKind.i64.wrap ((((ip + 1) : Nat) : Int) - 1))) kj (congrArg (Value.int .i64) (by rw [show (((ip + 1 : Nat) : Int)) - 1 = ((ip : Nat) : Int) by omega]; exact IntWalk.i64_in _ (by omega))))) ?_
    refine wb_val 3 (.pointer (some ⟨gcm_7, ocm_7 + ip, none⟩)) 13 rfl rfl kj kj (fun _ _ _ h => h) (fun W hR => (run_indexA 41 _ _ .i64 ip gcm_7 ocm_7 ms.length c_m 3 a_m _ ham_7 rfl rfl kj kj kj kj (Nat.lt_of_lt_of_eq (show ip < ms.length by omega) hnm_7.symm))) ?_
    have y1_2 : Ext V1 W2 := (Rely.Ext.trans (Rely.Ext.refl V1) e2)
    refine wb_val 4 (.int .i64 (nth (ms) (ip))) 14 rfl rfl kj kj (fun _ _ _ h => h) (fun W hR => (run_loadCell 3 _ _ (.int .i64 (nth (ms) (ip))) ((Below.cell (Rely.Ext.trans y1_2 hR) hlm_7).trans (hcm_7 ip (Nat.lt_of_lt_of_eq (show ip < ms.length by omega) hnm_7.symm))) rfl kj kj)) ?_
    refine wb_val 5 (.slice a_m ms.length c_m) 15 rfl rfl kj kj (fun _ _ _ h => h) (fun W hR => by kernel_rfl) ?_
    refine wb_val 6 (.int .i64 (((ip + 1) : Nat) : Int)) 16 rfl rfl kj kj (fun _ _ _ h => h) (fun W hR => by kernel_rfl) ?_
    refine wb_val 7 (.pointer (some ⟨gcm_7, ocm_7 + (ip + 1), none⟩)) 17 rfl rfl kj kj (fun _ _ _ h => h) (fun W hR => (run_indexA 41 _ _ .i64 (ip + 1) gcm_7 ocm_7 ms.length c_m 3 a_m _ ham_7 rfl rfl kj kj kj kj (Nat.lt_of_lt_of_eq (show (ip + 1) < ms.length by omega) hnm_7.symm))) ?_
    refine wb_val 8 (.int .i64 (nth (ms) ((ip + 1)))) 18 rfl rfl kj kj (fun _ _ _ h => h) (fun W hR => (run_loadCell 3 _ _ (.int .i64 (nth (ms) ((ip + 1)))) ((Below.cell (Rely.Ext.trans y1_2 hR) hlm_7).trans (hcm_7 (ip + 1) (Nat.lt_of_lt_of_eq (show (ip + 1) < ms.length by omega) hnm_7.symm))) rfl kj kj)) ?_
    refine wb_val 9 (.bool (decide ((nth (ms) (ip)) ≥ (nth (ms) ((ip + 1)))))) 19 rfl rfl kj kj (fun _ _ _ h => h) (fun W hR => by kernel_rfl) ?_
    refine wb_nil kj ?_
    refine hK9 _ _ ?_
    try clear hK9 K9
    refine cond_split (t := decide ((nth (ms) (ip)) ≥ (nth (ms) ((ip + 1))))) kj (fun c10 => ?_) (fun c10 => ?_)
    · skip
      have hV : risV ms = false := by
        have hge := of_decide_eq_true c10
        exact risN_false ms (ip + 1 + 1) (by rw [risN_step ms ip hr]; exact decide_eq_false (by omega)) _ (by omega)
      refine wp_seq_k fun K11 hK11 => ?_
      refine region_lit ?_
      refine seq_val (.bool false) 2 rfl kj kj ?_
      refine seq_nil ?_
      refine hK11 _ _ ?_
      try clear hK11 K11
      refine wp_ret ?_
      repeat (first | with_reducible refine goR1 ?_ | with_reducible refine goR2 ?_)
      exact (show bodyPost _ _ _ .ret _ _ from ret1 (.bool false) rfl (res_tmp kj) ⟨by rw [hV], x2⟩)
    · skip
      have hr2 : risN ms (ip + 1 + 1) = true := by
        have hge := of_decide_eq_false c10
        rw [risN_step ms ip hr]; exact decide_eq_true (by omega)
      refine wp_skip ?_
      refine hK8 _ _ ?_
      try clear hK8 K8
      refine region_lit ?_
      refine seq_val (.int .i64 (((ip + 1) : Nat) : Int)) 8 rfl kj kj ?_
      refine seq_val (.int .i64 (((ip + 1) + 1 : Nat) : Int)) 9 rfl kj (run_eq (u := .int .i64 (IntKind.i64.wrap ((((ip + 1) : Nat) : Int) + 1))) kj (congrArg (Value.int .i64) (i64n _ _ (by omega) (by omega)))) ?_
      refine seq_val (.int .i64 (((ip + 1) + 1 : Nat) : Int)) 3 rfl kj kj ?_
      refine seq_nil ?_
      have y0_2 : Ext w W2 := (Rely.Ext.trans e1 e2)
      repeat (first | with_reducible refine goX1 ?_ | with_reducible refine goX2 ?_ | with_reducible refine goX3 ?_)
      exact goes_then (ip + 1) ⟨rfl, rfl, trivial⟩ ⟨(by omega), hr2, y0_2, x2⟩ (by omega)
  · skip
    have hV : risV ms = true := by
      have hge := of_decide_eq_false c6
      unfold risV
      rcases hi with h | h
      · rw [show ms.length = ip + 1 by omega]; exact hr
      · rcases Nat.eq_zero_or_pos ms.length with h0 | h0
        · rw [h0]; rfl
        · rw [show ms.length = ip + 1 by omega]; exact hr
    refine wp_exit ?_
    refine hK2 _ _ ?_
    try clear hK2 K2
    refine wp_seq_k fun K12 hK12 => ?_
    refine region_lit ?_
    refine seq_val (.bool true) 2 rfl kj kj ?_
    refine seq_nil ?_
    refine hK12 _ _ ?_
    try clear hK12 K12
    refine wp_ret ?_
    repeat (first | with_reducible refine goR1 ?_ | with_reducible refine goR2 ?_)
    exact (show bodyPost _ _ _ .ret _ _ from ret1 (.bool true) rfl (res_tmp kj) ⟨by rw [hV], xx1⟩)

end Go.Proofs.Ytfelfmchachljaa.Wr
