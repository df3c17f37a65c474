/- The reference: is a node in form? -/
import Derived.Test.YtfelfmchachljaaWnE
import Derived.Test.YtfelfmchachljaaWrR
import Derived.Test.YtfelfmchachljaaWkR
namespace Go.Proofs.Ytfelfmchachljaa.Wr
open Go Go.RowKit
open Go.Proofs.Ytfelfmchachljaa.Rely Go.Proofs.Ytfelfmchachljaa.Auto Go.Proofs.Ytfelfmchachljaa.Own Go.Proofs.Ytfelfmchachljaa.Sha
set_option linter.unusedVariables false
set_option linter.unusedSimpArgs false

open Go.Proofs.Ytfelfmchachljaa.Wk
/-- are the first n leaves in form? -/
def goodN (ms : List Int) : Nat → Bool
  | 0 => true
  | n + 1 => goodN ms n && (inB (nth ms n) 31 && ((n == 0) || decide (nth ms (n - 1) < nth ms n)))
theorem goodN_false (ms : List Int) (k : Nat) (h : goodN ms k = false) : ∀ n, k ≤ n → goodN ms n = false
  | 0, hk => by obtain rfl : k = 0 := by omega
                exact h
  | n + 1, hk => by
    by_cases e : k = n + 1
    · rw [← e]; exact h
    · unfold goodN
      rw [goodN_false ms k h n (by omega)]
      rfl
def goodV (us : Bool) (nm : Int) (key sg pa ms : List Int) : Bool := inB nm 255 && decide (ms.length ≤ 32) && (goodN ms ms.length && (us || blankV us nm key sg pa ms))
set_option maxHeartbeats 4000000 in
theorem good_X (us : Bool) (nm : Int) (key sg pa ms : List Int) (a_m : Option Addr) (c_m : Nat) (w : World) (hkl : key.length = 32) (hgl : sg.length = 32) (hpl : pa.length = 32) (hm : RdK .i64 w.heap.size ms (.slice a_m ms.length c_m) w) (h1 : inB nm 255 = false) : Calls Try.prog 96 #[.agg (cat [#[.bool us], #[.int .i64 nm], ints .u8 (key), ints .u8 (sg), ints .u8 (pa), #[.slice a_m ms.length c_m]])] w (Ret w (.bool false)) := by
  refine enter 52 [(0, .agg (cat [#[.bool us], #[.int .i64 nm], ints .u8 (key), ints .u8 (sg), ints .u8 (pa), #[.slice a_m ms.length c_m]]))] Try.func96 rfl rfl kj rfl ?_
  refine wp_seq_k fun K1 hK1 => ?_
  refine region_lit ?_
  refine seq_alloc (cat [#[.bool us], #[.int .i64 nm], ints .u8 (key), ints .u8 (sg), ints .u8 (pa), #[.slice a_m ms.length c_m]]) 43 1 rfl kj kj fun g2 W1 l2 e1 r2_1 => ?_
  have x1 : Ext w W1 := Ext.tr (Rely.Ext.refl w) e1
  have b2 : w.heap.size ≤ g2 := Nat.le_trans (Rely.Ext.refl w).size l2
  refine seq_val (.bool false) 2 rfl kj kj ?_
  refine seq_nil ?_
  refine hK1 _ _ ?_
  try clear hK1 K1
  refine wp_seq_k fun K3 hK3 => ?_
  refine wp_seq_k fun K4 hK4 => ?_
  refine region_lit ?_
  refine seq_val (.pointer (some ⟨g2, 1, none⟩)) 4 rfl kj kj ?_
  refine seq_val (.int .i64 nm) 5 rfl kj (run_loadC1 3 _ g2 1 43 _ (.int .i64 nm) _ r2_1 rfl kj (cat_part [#[.bool us]] [#[.int .i64 nm]] [ints .u8 (key), ints .u8 (sg), ints .u8 (pa), #[.slice a_m ms.length c_m]] 1 kj 0 _ rfl) kj) ?_
  refine seq_call (.bool false) 77 #[.int .i64 nm, .int .i64 255] 6 rfl kj kj ((inE nm 255 _ h1) _) fun W2 e2 => ?_
  have x2 : Ext w W2 := Ext.tr x1 e2
  refine seq_val (.bool true) 7 rfl kj kj ?_
  refine seq_val (.bool true) 8 rfl kj kj ?_
  refine seq_skip 9 rfl kj ?_
  refine seq_skip 10 rfl kj ?_
  refine seq_skip 11 rfl kj ?_
  refine seq_skip 12 rfl kj ?_
  refine seq_val (.bool true) 13 rfl kj kj ?_
  refine seq_nil ?_
  refine hK4 _ _ ?_
  try clear hK4 K4
  refine cond_true kj ?_
  refine wp_seq_k fun K5 hK5 => ?_
  refine region_lit ?_
  refine seq_val (.bool false) 2 rfl kj kj ?_
  refine seq_nil ?_
  refine hK5 _ _ ?_
  try clear hK5 K5
  refine wp_ret ?_
  repeat (first | with_reducible refine goR1 ?_ | with_reducible refine goR2 ?_)
  exact (show bodyPost _ _ _ .ret _ _ from ret1 (.bool false) rfl (res_tmp kj) ⟨rfl, x2⟩)
set_option maxHeartbeats 4000000 in
theorem good_Y (us : Bool) (nm : Int) (key sg pa ms : List Int) (a_m : Option Addr) (c_m : Nat) (w : World) (hkl : key.length = 32) (hgl : sg.length = 32) (hpl : pa.length = 32) (hm : RdK .i64 w.heap.size ms (.slice a_m ms.length c_m) w) (h1 : inB nm 255 = true) (h2 : 32 < ms.length) : Calls Try.prog 96 #[.agg (cat [#[.bool us], #[.int .i64 nm], ints .u8 (key), ints .u8 (sg), ints .u8 (pa), #[.slice a_m ms.length c_m]])] w (Ret w (.bool false)) := by
  refine enter 52 [(0, .agg (cat [#[.bool us], #[.int .i64 nm], ints .u8 (key), ints .u8 (sg), ints .u8 (pa), #[.slice a_m ms.length c_m]]))] Try.func96 rfl rfl kj rfl ?_
  refine wp_seq_k fun K1 hK1 => ?_
  refine region_lit ?_
  refine seq_alloc (cat [#[.bool us], #[.int .i64 nm], ints .u8 (key), ints .u8 (sg), ints .u8 (pa), #[.slice a_m ms.length c_m]]) 43 1 rfl kj kj fun g2 W1 l2 e1 r2_1 => ?_
  have x1 : Ext w W1 := Ext.tr (Rely.Ext.refl w) e1
  have b2 : w.heap.size ≤ g2 := Nat.le_trans (Rely.Ext.refl w).size l2
  refine seq_val (.bool false) 2 rfl kj kj ?_
  refine seq_nil ?_
  refine hK1 _ _ ?_
  try clear hK1 K1
  refine wp_seq_k fun K3 hK3 => ?_
  refine wp_seq_k fun K4 hK4 => ?_
  refine region_lit ?_
  refine seq_val (.pointer (some ⟨g2, 1, none⟩)) 4 rfl kj kj ?_
  refine seq_val (.int .i64 nm) 5 rfl kj (run_loadC1 3 _ g2 1 43 _ (.int .i64 nm) _ r2_1 rfl kj (cat_part [#[.bool us]] [#[.int .i64 nm]] [ints .u8 (key), ints .u8 (sg), ints .u8 (pa), #[.slice a_m ms.length c_m]] 1 kj 0 _ rfl) kj) ?_
  refine seq_call (.bool true) 77 #[.int .i64 nm, .int .i64 255] 6 rfl kj kj ((inE nm 255 _ h1) _) fun W2 e2 => ?_
  have x2 : Ext w W2 := Ext.tr x1 e2
  refine seq_val (.bool false) 7 rfl kj kj ?_
  refine seq_val (.bool false) 8 rfl kj kj ?_
  refine seq_val (.pointer (some ⟨g2, 98, none⟩)) 9 rfl kj kj ?_
  have r2_2 := (row_ext r2_1 e2)
  refine seq_val (.slice a_m ms.length c_m) 10 rfl kj (run_loadC1 41 _ g2 98 43 _ (.slice a_m ms.length c_m) _ r2_2 rfl kj (cat_part [#[.bool us], #[.int .i64 nm], ints .u8 (key), ints .u8 (sg), ints .u8 (pa)] [#[.slice a_m ms.length c_m]] [] 98 (by rw [cat_cons, cat_cons, cat_cons, cat_cons, cat_cons]; simp only [Array.size_append, cat, ((ints_size _ _).trans hgl), ((ints_size _ _).trans hkl), ((ints_size _ _).trans hpl)]; rfl) 0 _ rfl) kj) ?_
  refine seq_val (.int .i64 ((ms.length : Nat) : Int)) 11 rfl kj kj ?_
  refine seq_val (.bool true) 12 rfl kj (run_eq (u := .bool (decide (((ms.length : Nat) : Int) > 32))) kj (congrArg Value.bool (decide_eq_true (by omega)))) ?_
  refine seq_val (.bool true) 13 rfl kj kj ?_
  refine seq_nil ?_
  refine hK4 _ _ ?_
  try clear hK4 K4
  refine cond_true kj ?_
  refine wp_seq_k fun K5 hK5 => ?_
  refine region_lit ?_
  refine seq_val (.bool false) 2 rfl kj kj ?_
  refine seq_nil ?_
  refine hK5 _ _ ?_
  try clear hK5 K5
  refine wp_ret ?_
  repeat (first | with_reducible refine goR1 ?_ | with_reducible refine goR2 ?_)
  exact (show bodyPost _ _ _ .ret _ _ from ret1 (.bool false) rfl (res_tmp kj) ⟨rfl, x2⟩)
set_option maxHeartbeats 4000000 in
theorem good_Ztrue (nm : Int) (key sg pa ms : List Int) (a_m : Option Addr) (c_m : Nat) (w : World) (hkl : key.length = 32) (hgl : sg.length = 32) (hpl : pa.length = 32) (hm : RdK .i64 w.heap.size ms (.slice a_m ms.length c_m) w) (h1 : inB nm 255 = true) (h2 : ms.length ≤ 32) : Calls Try.prog 96 #[.agg (cat [#[.bool true], #[.int .i64 nm], ints .u8 (key), ints .u8 (sg), ints .u8 (pa), #[.slice a_m ms.length c_m]])] w (Ret w (.bool (goodN ms ms.length && (true || blankV true nm key sg pa ms)))) := by
  refine enter 52 [(0, .agg (cat [#[.bool true], #[.int .i64 nm], ints .u8 (key), ints .u8 (sg), ints .u8 (pa), #[.slice a_m ms.length c_m]]))] Try.func96 rfl rfl kj rfl ?_
  refine wp_seq_k fun K1 hK1 => ?_
  refine region_lit ?_
  refine seq_alloc (cat [#[.bool true], #[.int .i64 nm], ints .u8 (key), ints .u8 (sg), ints .u8 (pa), #[.slice a_m ms.length c_m]]) 43 1 rfl kj kj fun g2 W1 l2 e1 r2_1 => ?_
  have x1 : Ext w W1 := Ext.tr (Rely.Ext.refl w) e1
  have b2 : w.heap.size ≤ g2 := Nat.le_trans (Rely.Ext.refl w).size l2
  refine seq_val (.bool false) 2 rfl kj kj ?_
  refine seq_nil ?_
  refine hK1 _ _ ?_
  try clear hK1 K1
  refine wp_seq_k fun K3 hK3 => ?_
  refine wp_seq_k fun K4 hK4 => ?_
  refine region_lit ?_
  refine seq_val (.pointer (some ⟨g2, 1, none⟩)) 4 rfl kj kj ?_
  refine seq_val (.int .i64 nm) 5 rfl kj (run_loadC1 3 _ g2 1 43 _ (.int .i64 nm) _ r2_1 rfl kj (cat_part [#[.bool true]] [#[.int .i64 nm]] [ints .u8 (key), ints .u8 (sg), ints .u8 (pa), #[.slice a_m ms.length c_m]] 1 kj 0 _ rfl) kj) ?_
  refine seq_call (.bool true) 77 #[.int .i64 nm, .int .i64 255] 6 rfl kj kj ((inE nm 255 _ h1) _) fun W2 e2 => ?_
  have x2 : Ext w W2 := Ext.tr x1 e2
  refine seq_val (.bool false) 7 rfl kj kj ?_
  refine seq_val (.bool false) 8 rfl kj kj ?_
  refine seq_val (.pointer (some ⟨g2, 98, none⟩)) 9 rfl kj kj ?_
  have r2_2 := (row_ext r2_1 e2)
  refine seq_val (.slice a_m ms.length c_m) 10 rfl kj (run_loadC1 41 _ g2 98 43 _ (.slice a_m ms.length c_m) _ r2_2 rfl kj (cat_part [#[.bool true], #[.int .i64 nm], ints .u8 (key), ints .u8 (sg), ints .u8 (pa)] [#[.slice a_m ms.length c_m]] [] 98 (by rw [cat_cons, cat_cons, cat_cons, cat_cons, cat_cons]; simp only [Array.size_append, cat, ((ints_size _ _).trans hgl), ((ints_size _ _).trans hkl), ((ints_size _ _).trans hpl)]; rfl) 0 _ rfl) kj) ?_
  refine seq_val (.int .i64 ((ms.length : Nat) : Int)) 11 rfl kj kj ?_
  refine seq_val (.bool false) 12 rfl kj (run_eq (u := .bool (decide (((ms.length : Nat) : Int) > 32))) kj (congrArg Value.bool (decide_eq_false (by omega)))) ?_
  refine seq_val (.bool false) 13 rfl kj kj ?_
  refine seq_nil ?_
  refine hK4 _ _ ?_
  try clear hK4 K4
  refine cond_false kj ?_
  refine wp_skip ?_
  refine hK3 _ _ ?_
  try clear hK3 K3
  refine wp_seq_k fun K5 hK5 => ?_
  refine wp_seq_k fun K6 hK6 => ?_
  refine region_lit ?_
  refine seq_val (.int .i64 0) 3 rfl kj kj ?_
  refine seq_nil ?_
  refine hK6 _ _ ?_
  try clear hK6 K6
  refine wp_block ?_
  refine loop_auto (fun (s1 : Nat) => [(1, .pointer (some ⟨g2, 0, none⟩)), (3, .int .i64 ((s1 : Nat) : Int))]) (fun (s1 : Nat) W => (s1 ≤ ms.length) ∧ (goodN ms s1 = true) ∧ (Ext W2 W) ∧ (Ext w W)) (fun (s1 : Nat) => ms.length - s1) 0 ⟨rfl, rfl, trivial⟩ ⟨(Nat.zero_le _), rfl, (Rely.Ext.refl W2), x2⟩ fun s1 X1 V1 hI1 => ?_
  obtain ⟨i, hs1⟩ : ∃ z, z = s1 := ⟨_, rfl⟩
  subst hs1
  obtain ⟨hi, hr, kk1, xx1⟩ := hI1
  replace hi : i ≤ ms.length := hi
  replace hr : goodN ms i = true := hr
  replace kk1 : Ext W2 V1 := kk1
  replace xx1 : Ext w V1 := xx1
  have e3 := kk1
  refine wp_seq_k fun K7 hK7 => ?_
  refine wp_seq_k fun K8 hK8 => ?_
  refine region_lit ?_
  refine seq_val (.int .i64 ((i : Nat) : Int)) 14 rfl kj kj ?_
  refine seq_val (.pointer (some ⟨g2, 98, none⟩)) 15 rfl kj kj ?_
  have r2_3 := (row_ext r2_2 e3)
  refine seq_val (.slice a_m ms.length c_m) 16 rfl kj (run_loadC1 41 _ g2 98 43 _ (.slice a_m ms.length c_m) _ r2_3 rfl kj (cat_part [#[.bool true], #[.int .i64 nm], ints .u8 (key), ints .u8 (sg), ints .u8 (pa)] [#[.slice a_m ms.length c_m]] [] 98 (by rw [cat_cons, cat_cons, cat_cons, cat_cons, cat_cons]; simp only [Array.size_append, cat, ((ints_size _ _).trans hgl), ((ints_size _ _).trans hkl), ((ints_size _ _).trans hpl)]; rfl) 0 _ rfl) kj) ?_
  refine seq_val (.int .i64 ((ms.length : Nat) : Int)) 17 rfl kj kj ?_
  refine seq_val (.bool (decide (((i : Nat) : Int) < ((ms.length : Nat) : Int)))) 18 rfl kj kj ?_
  refine seq_nil ?_
  refine hK8 _ _ ?_
  try clear hK8 K8
  refine cond_split (t := decide (((i : Nat) : Int) < ((ms.length : Nat) : Int))) kj (fun c9 => ?_) (fun c9 => ?_)
  · skip
    have hlt18 : i < ms.length := by have := of_decide_eq_true c9; omega
    have hnm_10 : (ms).length = ms.length := rfl
    obtain ⟨gcm_10, ocm_10, ham_10, hlm_10, hcm_10⟩ := rdK_open (RdK.here (RdK.ext hm xx1)) (by rw [hnm_10]; omega)
    refine wp_skip ?_
    refine hK7 _ _ ?_
    try clear hK7 K7
    refine wp_seq_k fun K11 hK11 => ?_
    refine wp_block ?_
    refine wp_seq_k fun K12 hK12 => ?_
    rcases (show inB (nth ms i) 31 = false ∨ (inB (nth ms i) 31 = true ∧ i = 0) ∨ (inB (nth ms i) 31 = true ∧ 0 < i ∧ nth ms i ≤ nth ms (i - 1)) ∨ (inB (nth ms i) 31 = true ∧ 0 < i ∧ nth ms (i - 1) < nth ms i) by cases inB (nth ms i) 31 <;> simp <;> omega) with hin | ⟨hin, h0⟩ | ⟨hin, h0, hq⟩ | ⟨hin, h0, hq⟩
    · skip
      have hs : goodN ms (i + 1) = false := by show (goodN ms i && (inB (nth ms i) 31 && _)) = false; rw [hin, Bool.false_and, Bool.and_false]
      have hV : goodN ms ms.length = false := goodN_false ms (i + 1) hs _ (by omega)
      refine region_walkB kj fun W4 e4 => ?_
      have x4 : Ext w W4 := Ext.tr xx1 e4
      refine wb_val 0 (.pointer (some ⟨g2, 98, none⟩)) 21 rfl rfl kj kj (fun _ _ _ h => h) (fun W hR => by kernel_rfl) ?_
      have r2_4 := (row_ext r2_3 e4)
      refine wb_val 1 (.slice a_m ms.length c_m) 22 rfl rfl kj kj (fun _ _ _ h => h) (fun W hR => (run_loadC1 41 _ g2 98 43 _ (.slice a_m ms.length c_m) _ (row_ext r2_4 hR) rfl kj (cat_part [#[.bool true], #[.int .i64 nm], ints .u8 (key), ints .u8 (sg), ints .u8 (pa)] [#[.slice a_m ms.length c_m]] [] 98 (by rw [cat_cons, cat_cons, cat_cons, cat_cons, cat_cons]; simp only [Array.size_append, cat, ((ints_size _ _).trans hgl), ((ints_size _ _).trans hkl), ((ints_size _ _).trans hpl)]; rfl) 0 _ rfl) kj)) ?_
      refine wb_val 2 (.int .i64 ((i : Nat) : Int)) 23 rfl rfl kj kj (fun _ _ _ h => h) (fun W hR => by kernel_rfl) ?_
      refine wb_val 3 (.pointer (some ⟨gcm_10, ocm_10 + i, none⟩)) 24 rfl rfl kj kj (fun _ _ _ h => h) (fun W hR => (run_indexA 41 _ _ .i64 i gcm_10 ocm_10 ms.length c_m 3 a_m _ ham_10 rfl rfl kj kj kj kj (Nat.lt_of_lt_of_eq (show i < ms.length by omega) hnm_10.symm))) ?_
      have y3_4 : Ext V1 W4 := (Rely.Ext.trans (Rely.Ext.refl V1) e4)
      refine wb_val 4 (.int .i64 (nth (ms) (i))) 25 rfl rfl kj kj (fun _ _ _ h => h) (fun W hR => (run_loadCell 3 _ _ (.int .i64 (nth (ms) (i))) ((Below.cell (Rely.Ext.trans y3_4 hR) hlm_10).trans (hcm_10 i (Nat.lt_of_lt_of_eq (show i < ms.length by omega) hnm_10.symm))) rfl kj kj)) ?_
      refine wb_one 5 kj ?_
      refine wo_callR rfl (fun v W' => v = (.bool false) ∧ Ext W4 W') 77 #[.int .i64 (nth (ms) (i)), .int .i64 31] 26 rfl kj kj (((inE (nth ms i) 31 _ hin) _).mono fun e w' h => ⟨_, h.1, rfl, h.2⟩) (fun _ _ h => Rely.Ext.trans (Rely.Ext.refl W4) h.2) fun vv13 W5 hh13 => ?_
      obtain ⟨rfl, e5⟩ := hh13
      have x5 : Ext w W5 := Ext.tr x4 e5
      refine wb_val 6 (.bool true) 27 rfl rfl kj kj (fun _ _ _ h => h) (fun W hR => by kernel_rfl) ?_
      refine wb_val 7 (.bool true) 28 rfl rfl kj kj (fun _ _ _ h => h) (fun W hR => by kernel_rfl) ?_
      refine wb_skip 8 29 rfl rfl kj kj (fun _ _ _ h => h) ?_
      refine wb_skip 9 30 rfl rfl kj kj (fun _ _ _ h => h) ?_
      refine wb_skip 10 31 rfl rfl kj kj (fun _ _ _ h => h) ?_
      refine wb_skip 11 32 rfl rfl kj kj (fun _ _ _ h => h) ?_
      refine wb_skip 12 33 rfl rfl kj kj (fun _ _ _ h => h) ?_
      refine wb_skip 13 34 rfl rfl kj kj (fun _ _ _ h => h) ?_
      refine wb_skip 14 35 rfl rfl kj kj (fun _ _ _ h => h) ?_
      refine wb_skip 15 36 rfl rfl kj kj (fun _ _ _ h => h) ?_
      refine wb_skip 16 37 rfl rfl kj kj (fun _ _ _ h => h) ?_
      refine wb_skip 17 38 rfl rfl kj kj (fun _ _ _ h => h) ?_
      refine wb_skip 18 39 rfl rfl kj kj (fun _ _ _ h => h) ?_
      refine wb_skip 19 40 rfl rfl kj kj (fun _ _ _ h => h) ?_
      refine wb_skip 20 41 rfl rfl kj kj (fun _ _ _ h => h) ?_
      refine wb_skip 21 42 rfl rfl kj kj (fun _ _ _ h => h) ?_
      refine wb_skip 22 43 rfl rfl kj kj (fun _ _ _ h => h) ?_
      refine wb_skip 23 44 rfl rfl kj kj (fun _ _ _ h => h) ?_
      refine wb_val 24 (.bool true) 45 rfl rfl kj kj (fun _ _ _ h => h) (fun W hR => by kernel_rfl) ?_
      refine wb_nil kj ?_
      refine hK12 _ _ ?_
      try clear hK12 K12
      refine cond_true kj ?_
      refine wp_seq_k fun K14 hK14 => ?_
      refine region_lit ?_
      refine seq_val (.bool false) 2 rfl kj kj ?_
      refine seq_nil ?_
      refine hK14 _ _ ?_
      try clear hK14 K14
      refine wp_ret ?_
      repeat (first | with_reducible refine goR1 ?_ | with_reducible refine goR2 ?_)
      exact (show bodyPost _ _ _ .ret _ _ from ret1 (.bool false) rfl (res_tmp kj) ⟨by rw [hV]; rfl, x5⟩)
    · skip
      have hs : goodN ms (i + 1) = true := by show (goodN ms i && (inB (nth ms i) 31 && ((i == 0) || _))) = true; rw [hr, hin, beq_iff_eq.2 h0]; rfl
      refine region_walkB kj fun W4 e4 => ?_
      have x4 : Ext w W4 := Ext.tr xx1 e4
      refine wb_val 0 (.pointer (some ⟨g2, 98, none⟩)) 21 rfl rfl kj kj (fun _ _ _ h => h) (fun W hR => by kernel_rfl) ?_
      have r2_4 := (row_ext r2_3 e4)
      refine wb_val 1 (.slice a_m ms.length c_m) 22 rfl rfl kj kj (fun _ _ _ h => h) (fun W hR => (run_loadC1 41 _ g2 98 43 _ (.slice a_m ms.length c_m) _ (row_ext r2_4 hR) rfl kj (cat_part [#[.bool true], #[.int .i64 nm], ints .u8 (key), ints .u8 (sg), ints .u8 (pa)] [#[.slice a_m ms.length c_m]] [] 98 (by rw [cat_cons, cat_cons, cat_cons, cat_cons, cat_cons]; simp only [Array.size_append, cat, ((ints_size _ _).trans hgl), ((ints_size _ _).trans hkl), ((ints_size _ _).trans hpl)]; rfl) 0 _ rfl) kj)) ?_
      refine wb_val 2 (.int .i64 ((i : Nat) : Int)) 23 rfl rfl kj kj (fun _ _ _ h => h) (fun W hR => by kernel_rfl) ?_
      refine wb_val 3 (.pointer (some ⟨gcm_10, ocm_10 + i, none⟩)) 24 rfl rfl kj kj (fun _ _ _ h => h) (fun W hR => (run_indexA 41 _ _ .i64 i gcm_10 ocm_10 ms.length c_m 3 a_m _ ham_10 rfl rfl kj kj kj kj (Nat.lt_of_lt_of_eq (show i < ms.length by omega) hnm_10.symm))) ?_
      have y3_4 : Ext V1 W4 := (Rely.Ext.trans (Rely.Ext.refl V1) e4)
      refine wb_val 4 (.int .i64 (nth (ms) (i))) 25 rfl rfl kj kj (fun _ _ _ h => h) (fun W hR => (run_loadCell 3 _ _ (.int .i64 (nth (ms) (i))) ((Below.cell (Rely.Ext.trans y3_4 hR) hlm_10).trans (hcm_10 i (Nat.lt_of_lt_of_eq (show i < ms.length by omega) hnm_10.symm))) rfl kj kj)) ?_
      refine wb_one 5 kj ?_
      refine wo_callR rfl (fun v W' => v = (.bool true) ∧ Ext W4 W') 77 #[.int .i64 (nth (ms) (i)), .int .i64 31] 26 rfl kj kj (((inE (nth ms i) 31 _ hin) _).mono fun e w' h => ⟨_, h.1, rfl, h.2⟩) (fun _ _ h => Rely.Ext.trans (Rely.Ext.refl W4) h.2) fun vv15 W5 hh15 => ?_
      obtain ⟨rfl, e5⟩ := hh15
      have x5 : Ext w W5 := Ext.tr x4 e5
      refine wb_val 6 (.bool false) 27 rfl rfl kj kj (fun _ _ _ h => h) (fun W hR => by kernel_rfl) ?_
      refine wb_val 7 (.bool false) 28 rfl rfl kj kj (fun _ _ _ h => h) (fun W hR => by kernel_rfl) ?_
      refine wb_val 8 (.int .i64 ((i : Nat) : Int)) 29 rfl rfl kj kj (fun _ _ _ h => h) (fun W hR => by kernel_rfl) ?_
      refine wb_val 9 (.bool false) 30 rfl rfl kj kj (fun _ _ _ h => h) (fun W hR => (run_eq (u := .bool (decide (((i : Nat) : Int) > 0))) kj (congrArg Value.bool (decide_eq_false (by omega))))) ?_
      refine wb_val 10 (.bool false) 31 rfl rfl kj kj (fun _ _ _ h => h) (fun W hR => by kernel_rfl) ?_
      refine wb_skip 11 32 rfl rfl kj kj (fun _ _ _ h => h) ?_
      refine wb_skip 12 33 rfl rfl kj kj (fun _ _ _ h => h) ?_
      refine wb_skip 13 34 rfl rfl kj kj (fun _ _ _ h => h) ?_
      refine wb_skip 14 35 rfl rfl kj kj (fun _ _ _ h => h) ?_
      refine wb_skip 15 36 rfl rfl kj kj (fun _ _ _ h => h) ?_
      refine wb_skip 16 37 rfl rfl kj kj (fun _ _ _ h => h) ?_
      refine wb_skip 17 38 rfl rfl kj kj (fun _ _ _ h => h) ?_
      refine wb_skip 18 39 rfl rfl kj kj (fun _ _ _ h => h) ?_
      refine wb_skip 19 40 rfl rfl kj kj (fun _ _ _ h => h) ?_
      refine wb_skip 20 41 rfl rfl kj kj (fun _ _ _ h => h) ?_
      refine wb_skip 21 42 rfl rfl kj kj (fun _ _ _ h => h) ?_
      refine wb_skip 22 43 rfl rfl kj kj (fun _ _ _ h => h) ?_
      refine wb_val 23 (.bool false) 44 rfl rfl kj kj (fun _ _ _ h => h) (fun W hR => by kernel_rfl) ?_
      refine wb_val 24 (.bool false) 45 rfl rfl kj kj (fun _ _ _ h => h) (fun W hR => by kernel_rfl) ?_
      refine wb_nil kj ?_
      refine hK12 _ _ ?_
      try clear hK12 K12
      refine cond_false kj ?_
      refine wp_skip ?_
      refine hK11 _ _ ?_
      try clear hK11 K11
      refine region_lit ?_
      refine seq_val (.int .i64 ((i : Nat) : Int)) 19 rfl kj kj ?_
      refine seq_val (.int .i64 ((i + 1 : Nat) : Int)) 20 rfl kj (run_eq (u := .int .i64 (IntKind.i64.wrap (((i : Nat) : Int) + 1))) kj (congrArg (Value.int .i64) (i64n _ _ (by omega) (by omega)))) ?_
      refine seq_val (.int .i64 ((i + 1 : Nat) : Int)) 3 rfl kj kj ?_
      refine seq_nil ?_
      have y2_4 : Ext W2 W4 := (Rely.Ext.trans e3 e4)
      have y2_5 : Ext W2 W5 := (Rely.Ext.trans y2_4 e5)
      repeat (first | with_reducible refine goX1 ?_ | with_reducible refine goX2 ?_ | with_reducible refine goX3 ?_)
      exact goes_then (i + 1) ⟨rfl, rfl, trivial⟩ ⟨(by omega), hs, y2_5, x5⟩ (by omega)
    · skip
      obtain ⟨ip, hip⟩ : ∃ ip, i = ip + 1 := ⟨i - 1, by omega⟩
      have hi1 : i - 1 = ip := by omega
      rw [hi1] at hq
      have hs : goodN ms (i + 1) = false := by show (goodN ms i && (inB (nth ms i) 31 && ((i == 0) || decide (nth ms (i - 1) < nth ms i)))) = false; rw [hi1, hr, hin, beq_eq_false_iff_ne.2 (show i ≠ 0 by omega), decide_eq_false (by omega)]; rfl
      have hV : goodN ms ms.length = false := goodN_false ms (i + 1) hs _ (by omega)
      refine region_walkB kj fun W4 e4 => ?_
      have x4 : Ext w W4 := Ext.tr xx1 e4
      refine wb_val 0 (.pointer (some ⟨g2, 98, none⟩)) 21 rfl rfl kj kj (fun _ _ _ h => h) (fun W hR => by kernel_rfl) ?_
      have r2_4 := (row_ext r2_3 e4)
      refine wb_val 1 (.slice a_m ms.length c_m) 22 rfl rfl kj kj (fun _ _ _ h => h) (fun W hR => (run_loadC1 41 _ g2 98 43 _ (.slice a_m ms.length c_m) _ (row_ext r2_4 hR) rfl kj (cat_part [#[.bool true], #[.int .i64 nm], ints .u8 (key), ints .u8 (sg), ints .u8 (pa)] [#[.slice a_m ms.length c_m]] [] 98 (by rw [cat_cons, cat_cons, cat_cons, cat_cons, cat_cons]; simp only [Array.size_append, cat, ((ints_size _ _).trans hgl), ((ints_size _ _).trans hkl), ((ints_size _ _).trans hpl)]; rfl) 0 _ rfl) kj)) ?_
      refine wb_val 2 (.int .i64 ((i : Nat) : Int)) 23 rfl rfl kj kj (fun _ _ _ h => h) (fun W hR => by kernel_rfl) ?_
      refine wb_val 3 (.pointer (some ⟨gcm_10, ocm_10 + i, none⟩)) 24 rfl rfl kj kj (fun _ _ _ h => h) (fun W hR => (run_indexA 41 _ _ .i64 i gcm_10 ocm_10 ms.length c_m 3 a_m _ ham_10 rfl rfl kj kj kj kj (Nat.lt_of_lt_of_eq (show i < ms.length by omega) hnm_10.symm))) ?_
      have y3_4 : Ext V1 W4 := (Rely.Ext.trans (Rely.Ext.refl V1) e4)
      refine wb_val 4 (.int .i64 (nth (ms) (i))) 25 rfl rfl kj kj (fun _ _ _ h => h) (fun W hR => (run_loadCell 3 _ _ (.int .i64 (nth (ms) (i))) ((Below.cell (Rely.Ext.trans y3_4 hR) hlm_10).trans (hcm_10 i (Nat.lt_of_lt_of_eq (show i < ms.length by omega) hnm_10.symm))) rfl kj kj)) ?_
      refine wb_one 5 kj ?_
      refine wo_callR rfl (fun v W' => v = (.bool true) ∧ Ext W4 W') 77 #[.int .i64 (nth (ms) (i)), .int .i64 31] 26 rfl kj kj (((inE (nth ms i) 31 _ hin) _).mono fun e w' h => ⟨_, h.1, rfl, h.2⟩) (fun _ _ h => Rely.Ext.trans (Rely.Ext.refl W4) h.2) fun vv16 W5 hh16 => ?_
      obtain ⟨rfl, e5⟩ := hh16
      have x5 : Ext w W5 := Ext.tr x4 e5
      refine wb_val 6 (.bool false) 27 rfl rfl kj kj (fun _ _ _ h => h) (fun W hR => by kernel_rfl) ?_
      refine wb_val 7 (.bool false) 28 rfl rfl kj kj (fun _ _ _ h => h) (fun W hR => by kernel_rfl) ?_
      refine wb_val 8 (.int .i64 ((i : Nat) : Int)) 29 rfl rfl kj kj (fun _ _ _ h => h) (fun W hR => by kernel_rfl) ?_
      refine wb_val 9 (.bool true) 30 rfl rfl kj kj (fun _ _ _ h => h) (fun W hR => (run_eq (u := .bool (decide (((i : Nat) : Int) > 0))) kj (congrArg Value.bool (decide_eq_true (by omega))))) ?_
      refine wb_val 10 (.bool true) 31 rfl rfl kj kj (fun _ _ _ h => h) (fun W hR => by kernel_rfl) ?_
      refine wb_val 11 (.pointer (some ⟨g2, 98, none⟩)) 32 rfl rfl kj kj (fun _ _ _ h => h) (fun W hR => by kernel_rfl) ?_
      refine wb_val 12 (.slice a_m ms.length c_m) 33 rfl rfl kj kj (fun _ _ _ h => h) (fun W hR => (run_loadC1 41 _ g2 98 43 _ (.slice a_m ms.length c_m) _ (row_ext r2_4 hR) rfl kj (cat_part [#[.bool true], #[.int .i64 nm], ints .u8 (key), ints .u8 (sg), ints .u8 (pa)] [#[.slice a_m ms.length c_m]] [] 98 (by rw [cat_cons, cat_cons, cat_cons, cat_cons, cat_cons]; simp only [Array.size_append, cat, ((ints_size _ _).trans hgl), ((ints_size _ _).trans hkl), ((ints_size _ _).trans hpl)]; rfl) 0 _ rfl) kj)) ?_
      refine wb_val 13 (.int .i64 ((i : Nat) : Int)) 34 rfl rfl kj kj (fun _ _ _ h => h) (fun W hR => by kernel_rfl) ?_
      refine wb_val 14 (.int .i64 (((ip : Nat) : Int))) 35 rfl rfl kj kj (fun _ _ _ h => h) (fun W hR => (run_eq (u := .int .i64 (IntKind.i64.wrap (((i : Nat) : Int) - 1))) kj (congrArg (Value.int .i64) (by rw [show ((i : Nat) : Int) - 1 = ((ip : Nat) : Int) by omega]; exact IntWalk.i64_in _ (by omega))))) ?_
      refine wb_val 15 (.pointer (some ⟨gcm_10, ocm_10 + ip, none⟩)) 36 rfl rfl kj kj (fun _ _ _ h => h) (fun W hR => (run_indexA 41 _ _ .i64 ip gcm_10 ocm_10 ms.length c_m 3 a_m _ ham_10 rfl rfl kj kj kj kj (Nat.lt_of_lt_of_eq (show ip < ms.length by omega) hnm_10.symm))) ?_
      refine wb_val 16 (.int .i64 (nth (ms) (ip))) 37 rfl rfl kj kj (fun _ _ _ h => h) (fun W hR => (run_loadCell 3 _ _ (.int .i64 (nth (ms) (ip))) ((Below.cell (Rely.Ext.trans y3_4 hR) hlm_10).trans (hcm_10 ip (Nat.lt_of_lt_of_eq (show ip < ms.length by omega) hnm_10.symm))) rfl kj kj)) ?_
      refine wb_val 17 (.pointer (some ⟨g2, 98, none⟩)) 38 rfl rfl kj kj (fun _ _ _ h => h) (fun W hR => by kernel_rfl) ?_
      refine wb_val 18 (.slice a_m ms.length c_m) 39 rfl rfl kj kj (fun _ _ _ h => h) (fun W hR => (run_loadC1 41 _ g2 98 43 _ (.slice a_m ms.length c_m) _ (row_ext r2_4 hR) rfl kj (cat_part [#[.bool true], #[.int .i64 nm], ints .u8 (key), ints .u8 (sg), ints .u8 (pa)] [#[.slice a_m ms.length c_m]] [] 98 (by rw [cat_cons, cat_cons, cat_cons, cat_cons, cat_cons]; simp only [Array.size_append, cat, ((ints_size _ _).trans hgl), ((ints_size _ _).trans hkl), ((ints_size _ _).trans hpl)]; rfl) 0 _ rfl) kj)) ?_
      refine wb_val 19 (.int .i64 ((i : Nat) : Int)) 40 rfl rfl kj kj (fun _ _ _ h => h) (fun W hR => by kernel_rfl) ?_
      refine wb_val 20 (.pointer (some ⟨gcm_10, ocm_10 + i, none⟩)) 41 rfl rfl kj kj (fun _ _ _ h => h) (fun W hR => (run_indexA 41 _ _ .i64 i gcm_10 ocm_10 ms.length c_m 3 a_m _ ham_10 rfl rfl kj kj kj kj (Nat.lt_of_lt_of_eq (show i < ms.length by omega) hnm_10.symm))) ?_
      refine wb_val 21 (.int .i64 (nth (ms) (i))) 42 rfl rfl kj kj (fun _ _ _ h => h) (fun W hR => (run_loadCell 3 _ _ (.int .i64 (nth (ms) (i))) ((Below.cell (Rely.Ext.trans y3_4 hR) hlm_10).trans (hcm_10 i (Nat.lt_of_lt_of_eq (show i < ms.length by omega) hnm_10.symm))) rfl kj kj)) ?_
      refine wb_val 22 (.bool true) 43 rfl rfl kj kj (fun _ _ _ h => h) (fun W hR => (run_eq (u := .bool (decide ((nth (ms) (ip)) ≥ (nth (ms) (i))))) kj (congrArg Value.bool (decide_eq_true (by omega))))) ?_
      refine wb_val 23 (.bool true) 44 rfl rfl kj kj (fun _ _ _ h => h) (fun W hR => by kernel_rfl) ?_
      refine wb_val 24 (.bool true) 45 rfl rfl kj kj (fun _ _ _ h => h) (fun W hR => by kernel_rfl) ?_
      refine wb_nil kj ?_
      refine hK12 _ _ ?_
      try clear hK12 K12
      refine cond_true kj ?_
      refine wp_seq_k fun K17 hK17 => ?_
      refine region_lit ?_
      refine seq_val (.bool false) 2 rfl kj kj ?_
      refine seq_nil ?_
      refine hK17 _ _ ?_
      try clear hK17 K17
      refine wp_ret ?_
      repeat (first | with_reducible refine goR1 ?_ | with_reducible refine goR2 ?_)
      exact (show bodyPost _ _ _ .ret _ _ from ret1 (.bool false) rfl (res_tmp kj) ⟨by rw [hV]; rfl, x5⟩)
    · skip
      obtain ⟨ip, hip⟩ : ∃ ip, i = ip + 1 := ⟨i - 1, by omega⟩
      have hi1 : i - 1 = ip := by omega
      rw [hi1] at hq
      have hs : goodN ms (i + 1) = true := by show (goodN ms i && (inB (nth ms i) 31 && ((i == 0) || decide (nth ms (i - 1) < nth ms i)))) = true; rw [hi1, hr, hin, beq_eq_false_iff_ne.2 (show i ≠ 0 by omega), decide_eq_true (by omega)]; rfl
      refine region_walkB kj fun W4 e4 => ?_
      have x4 : Ext w W4 := Ext.tr xx1 e4
      refine wb_val 0 (.pointer (some ⟨g2, 98, none⟩)) 21 rfl rfl kj kj (fun _ _ _ h => h) (fun W hR => by kernel_rfl) ?_
      have r2_4 := (row_ext r2_3 e4)
      refine wb_val 1 (.slice a_m ms.length c_m) 22 rfl rfl kj kj (fun _ _ _ h => h) (fun W hR => (run_loadC1 41 _ g2 98 43 _ (.slice a_m ms.length c_m) _ (row_ext r2_4 hR) rfl kj (cat_part [#[.bool true], #[.int .i64 nm], ints .u8 (key), ints .u8 (sg), ints .u8 (pa)] [#[.slice a_m ms.length c_m]] [] 98 (by rw [cat_cons, cat_cons, cat_cons, cat_cons, cat_cons]; simp only [Array.size_append, cat, ((ints_size _ _).trans hgl), ((ints_size _ _).trans hkl), ((ints_size _ _).trans hpl)]; rfl) 0 _ rfl) kj)) ?_
      refine wb_val 2 (.int .i64 ((i : Nat) : Int)) 23 rfl rfl kj kj (fun _ _ _ h => h) (fun W hR => by kernel_rfl) ?_
      refine wb_val 3 (.pointer (some ⟨gcm_10, ocm_10 + i, none⟩)) 24 rfl rfl kj kj (fun _ _ _ h => h) (fun W hR => (run_indexA 41 _ _ .i64 i gcm_10 ocm_10 ms.length c_m 3 a_m _ ham_10 rfl rfl kj kj kj kj (Nat.lt_of_lt_of_eq (show i < ms.length by omega) hnm_10.symm))) ?_
      have y3_4 : Ext V1 W4 := (Rely.Ext.trans (Rely.Ext.refl V1) e4)
      refine wb_val 4 (.int .i64 (nth (ms) (i))) 25 rfl rfl kj kj (fun _ _ _ h => h) (fun W hR => (run_loadCell 3 _ _ (.int .i64 (nth (ms) (i))) ((Below.cell (Rely.Ext.trans y3_4 hR) hlm_10).trans (hcm_10 i (Nat.lt_of_lt_of_eq (show i < ms.length by omega) hnm_10.symm))) rfl kj kj)) ?_
      refine wb_one 5 kj ?_
      refine wo_callR rfl (fun v W' => v = (.bool true) ∧ Ext W4 W') 77 #[.int .i64 (nth (ms) (i)), .int .i64 31] 26 rfl kj kj (((inE (nth ms i) 31 _ hin) _).mono fun e w' h => ⟨_, h.1, rfl, h.2⟩) (fun _ _ h => Rely.Ext.trans (Rely.Ext.refl W4) h.2) fun vv18 W5 hh18 => ?_
      obtain ⟨rfl, e5⟩ := hh18
      have x5 : Ext w W5 := Ext.tr x4 e5
      refine wb_val 6 (.bool false) 27 rfl rfl kj kj (fun _ _ _ h => h) (fun W hR => by kernel_rfl) ?_
      refine wb_val 7 (.bool false) 28 rfl rfl kj kj (fun _ _ _ h => h) (fun W hR => by kernel_rfl) ?_
      refine wb_val 8 (.int .i64 ((i : Nat) : Int)) 29 rfl rfl kj kj (fun _ _ _ h => h) (fun W hR => by kernel_rfl) ?_
      refine wb_val 9 (.bool true) 30 rfl rfl kj kj (fun _ _ _ h => h) (fun W hR => (run_eq (u := .bool (decide (((i : Nat) : Int) > 0))) kj (congrArg Value.bool (decide_eq_true (by omega))))) ?_
      refine wb_val 10 (.bool true) 31 rfl rfl kj kj (fun _ _ _ h => h) (fun W hR => by kernel_rfl) ?_
      refine wb_val 11 (.pointer (some ⟨g2, 98, none⟩)) 32 rfl rfl kj kj (fun _ _ _ h => h) (fun W hR => by kernel_rfl) ?_
      refine wb_val 12 (.slice a_m ms.length c_m) 33 rfl rfl kj kj (fun _ _ _ h => h) (fun W hR => (run_loadC1 41 _ g2 98 43 _ (.slice a_m ms.length c_m) _ (row_ext r2_4 hR) rfl kj (cat_part [#[.bool true], #[.int .i64 nm], ints .u8 (key), ints .u8 (sg), ints .u8 (pa)] [#[.slice a_m ms.length c_m]] [] 98 (by rw [cat_cons, cat_cons, cat_cons, cat_cons, cat_cons]; simp only [Array.size_append, cat, ((ints_size _ _).trans hgl), ((ints_size _ _).trans hkl), ((ints_size _ _).trans hpl)]; rfl) 0 _ rfl) kj)) ?_
      refine wb_val 13 (.int .i64 ((i : Nat) : Int)) 34 rfl rfl kj kj (fun _ _ _ h => h) (fun W hR => by kernel_rfl) ?_
      refine wb_val 14 (.int .i64 (((ip : Nat) : Int))) 35 rfl rfl kj kj (fun _ _ _ h => h) (fun W hR => (run_eq (u := .int .i64 (IntKind.i64.wrap (((i : Nat) : Int) - 1))) kj (congrArg (Value.int .i64) (by rw [show ((i : Nat) : Int) - 1 = ((ip : Nat) : Int) by omega]; exact IntWalk.i64_in _ (by omega))))) ?_
      refine wb_val 15 (.pointer (some ⟨gcm_10, ocm_10 + ip, none⟩)) 36 rfl rfl kj kj (fun _ _ _ h => h) (fun W hR => (run_indexA 41 _ _ .i64 ip gcm_10 ocm_10 ms.length c_m 3 a_m _ ham_10 rfl rfl kj kj kj kj (Nat.lt_of_lt_of_eq (show ip < ms.length by omega) hnm_10.symm))) ?_
      refine wb_val 16 (.int .i64 (nth (ms) (ip))) 37 rfl rfl kj kj (fun _ _ _ h => h) (fun W hR => (run_loadCell 3 _ _ (.int .i64 (nth (ms) (ip))) ((Below.cell (Rely.Ext.trans y3_4 hR) hlm_10).trans (hcm_10 ip (Nat.lt_of_lt_of_eq (show ip < ms.length by omega) hnm_10.symm))) rfl kj kj)) ?_
      refine wb_val 17 (.pointer (some ⟨g2, 98, none⟩)) 38 rfl rfl kj kj (fun _ _ _ h => h) (fun W hR => by kernel_rfl) ?_
      refine wb_val 18 (.slice a_m ms.length c_m) 39 rfl rfl kj kj (fun _ _ _ h => h) (fun W hR => (run_loadC1 41 _ g2 98 43 _ (.slice a_m ms.length c_m) _ (row_ext r2_4 hR) rfl kj (cat_part [#[.bool true], #[.int .i64 nm], ints .u8 (key), ints .u8 (sg), ints .u8 (pa)] [#[.slice a_m ms.length c_m]] [] 98 (by rw [cat_cons, cat_cons, cat_cons, cat_cons, cat_cons]; simp only [Array.size_append, cat, ((ints_size _ _).trans hgl), ((ints_size _ _).trans hkl), ((ints_size _ _).trans hpl)]; rfl) 0 _ rfl) kj)) ?_
      refine wb_val 19 (.int .i64 ((i : Nat) : Int)) 40 rfl rfl kj kj (fun _ _ _ h => h) (fun W hR => by kernel_rfl) ?_
      refine wb_val 20 (.pointer (some ⟨gcm_10, ocm_10 + i, none⟩)) 41 rfl rfl kj kj (fun _ _ _ h => h) (fun W hR => (run_indexA 41 _ _ .i64 i gcm_10 ocm_10 ms.length c_m 3 a_m _ ham_10 rfl rfl kj kj kj kj (Nat.lt_of_lt_of_eq (show i < ms.length by omega) hnm_10.symm))) ?_
      refine wb_val 21 (.int .i64 (nth (ms) (i))) 42 rfl rfl kj kj (fun _ _ _ h => h) (fun W hR => (run_loadCell 3 _ _ (.int .i64 (nth (ms) (i))) ((Below.cell (Rely.Ext.trans y3_4 hR) hlm_10).trans (hcm_10 i (Nat.lt_of_lt_of_eq (show i < ms.length by omega) hnm_10.symm))) rfl kj kj)) ?_
      refine wb_val 22 (.bool false) 43 rfl rfl kj kj (fun _ _ _ h => h) (fun W hR => (run_eq (u := .bool (decide ((nth (ms) (ip)) ≥ (nth (ms) (i))))) kj (congrArg Value.bool (decide_eq_false (by omega))))) ?_
      refine wb_val 23 (.bool false) 44 rfl rfl kj kj (fun _ _ _ h => h) (fun W hR => by kernel_rfl) ?_
      refine wb_val 24 (.bool false) 45 rfl rfl kj kj (fun _ _ _ h => h) (fun W hR => by kernel_rfl) ?_
      refine wb_nil kj ?_
      refine hK12 _ _ ?_
      try clear hK12 K12
      refine cond_false kj ?_
      refine wp_skip ?_
      refine hK11 _ _ ?_
      try clear hK11 K11
      refine region_lit ?_
      refine seq_val (.int .i64 ((i : Nat) : Int)) 19 rfl kj kj ?_
      refine seq_val (.int .i64 ((i + 1 : Nat) : Int)) 20 rfl kj (run_eq (u := .int .i64 (IntKind.i64.wrap (((i : Nat) : Int) + 1))) kj (congrArg (Value.int .i64) (i64n _ _ (by omega) (by omega)))) ?_
      refine seq_val (.int .i64 ((i + 1 : Nat) : Int)) 3 rfl kj kj ?_
      refine seq_nil ?_
      have y2_4 : Ext W2 W4 := (Rely.Ext.trans e3 e4)
      have y2_5 : Ext W2 W5 := (Rely.Ext.trans y2_4 e5)
      repeat (first | with_reducible refine goX1 ?_ | with_reducible refine goX2 ?_ | with_reducible refine goX3 ?_)
      exact goes_then (i + 1) ⟨rfl, rfl, trivial⟩ ⟨(by omega), hs, y2_5, x5⟩ (by omega)
  · skip
    have heq18 : i = ms.length := by have := of_decide_eq_false c9; omega
    have hV : goodN ms ms.length = true := by rw [← heq18]; exact hr
    refine wp_exit ?_
    refine hK5 _ _ ?_
    try clear hK5 K5
    refine wp_seq_k fun K19 hK19 => ?_
    refine region_lit ?_
    refine seq_val (.pointer (some ⟨g2, 0, none⟩)) 46 rfl kj kj ?_
    refine seq_val (.bool true) 47 rfl kj (run_loadC1 4 _ g2 0 43 _ (.bool true) _ r2_3 rfl kj (cat_part [] [#[.bool true]] [#[.int .i64 nm], ints .u8 (key), ints .u8 (sg), ints .u8 (pa), #[.slice a_m ms.length c_m]] 0 kj 0 _ rfl) kj) ?_
    refine seq_val (.bool true) 48 rfl kj kj ?_
    refine seq_skip 49 rfl kj ?_
    refine seq_skip 50 rfl kj ?_
    refine seq_val (.bool true) 51 rfl kj kj ?_
    refine seq_val (.bool true) 2 rfl kj kj ?_
    refine seq_nil ?_
    refine hK19 _ _ ?_
    try clear hK19 K19
    refine wp_ret ?_
    repeat (first | with_reducible refine goR1 ?_ | with_reducible refine goR2 ?_)
    exact (show bodyPost _ _ _ .ret _ _ from ret1 (.bool true) rfl (res_tmp kj) ⟨by rw [hV]; rfl, xx1⟩)
set_option maxHeartbeats 4000000 in
theorem good_Zfalse (nm : Int) (key sg pa ms : List Int) (a_m : Option Addr) (c_m : Nat) (w : World) (hkl : key.length = 32) (hgl : sg.length = 32) (hpl : pa.length = 32) (hm : RdK .i64 w.heap.size ms (.slice a_m ms.length c_m) w) (h1 : inB nm 255 = true) (h2 : ms.length ≤ 32) : Calls Try.prog 96 #[.agg (cat [#[.bool false], #[.int .i64 nm], ints .u8 (key), ints .u8 (sg), ints .u8 (pa), #[.slice a_m ms.length c_m]])] w (Ret w (.bool (goodN ms ms.length && (false || blankV false nm key sg pa ms)))) := by
  refine enter 52 [(0, .agg (cat [#[.bool false], #[.int .i64 nm], ints .u8 (key), ints .u8 (sg), ints .u8 (pa), #[.slice a_m ms.length c_m]]))] Try.func96 rfl rfl kj rfl ?_
  refine wp_seq_k fun K1 hK1 => ?_
  refine region_lit ?_
  refine seq_alloc (cat [#[.bool false], #[.int .i64 nm], ints .u8 (key), ints .u8 (sg), ints .u8 (pa), #[.slice a_m ms.length c_m]]) 43 1 rfl kj kj fun g2 W1 l2 e1 r2_1 => ?_
  have x1 : Ext w W1 := Ext.tr (Rely.Ext.refl w) e1
  have b2 : w.heap.size ≤ g2 := Nat.le_trans (Rely.Ext.refl w).size l2
  refine seq_val (.bool false) 2 rfl kj kj ?_
  refine seq_nil ?_
  refine hK1 _ _ ?_
  try clear hK1 K1
  refine wp_seq_k fun K3 hK3 => ?_
  refine wp_seq_k fun K4 hK4 => ?_
  refine region_lit ?_
  refine seq_val (.pointer (some ⟨g2, 1, none⟩)) 4 rfl kj kj ?_
  refine seq_val (.int .i64 nm) 5 rfl kj (run_loadC1 3 _ g2 1 43 _ (.int .i64 nm) _ r2_1 rfl kj (cat_part [#[.bool false]] [#[.int .i64 nm]] [ints .u8 (key), ints .u8 (sg), ints .u8 (pa), #[.slice a_m ms.length c_m]] 1 kj 0 _ rfl) kj) ?_
  refine seq_call (.bool true) 77 #[.int .i64 nm, .int .i64 255] 6 rfl kj kj ((inE nm 255 _ h1) _) fun W2 e2 => ?_
  have x2 : Ext w W2 := Ext.tr x1 e2
  refine seq_val (.bool false) 7 rfl kj kj ?_
  refine seq_val (.bool false) 8 rfl kj kj ?_
  refine seq_val (.pointer (some ⟨g2, 98, none⟩)) 9 rfl kj kj ?_
  have r2_2 := (row_ext r2_1 e2)
  refine seq_val (.slice a_m ms.length c_m) 10 rfl kj (run_loadC1 41 _ g2 98 43 _ (.slice a_m ms.length c_m) _ r2_2 rfl kj (cat_part [#[.bool false], #[.int .i64 nm], ints .u8 (key), ints .u8 (sg), ints .u8 (pa)] [#[.slice a_m ms.length c_m]] [] 98 (by rw [cat_cons, cat_cons, cat_cons, cat_cons, cat_cons]; simp only [Array.size_append, cat, ((ints_size _ _).trans hgl), ((ints_size _ _).trans hkl), ((ints_size _ _).trans hpl)]; rfl) 0 _ rfl) kj) ?_
  refine seq_val (.int .i64 ((ms.length : Nat) : Int)) 11 rfl kj kj ?_
  refine seq_val (.bool false) 12 rfl kj (run_eq (u := .bool (decide (((ms.length : Nat) : Int) > 32))) kj (congrArg Value.bool (decide_eq_false (by omega)))) ?_
  refine seq_val (.bool false) 13 rfl kj kj ?_
  refine seq_nil ?_
  refine hK4 _ _ ?_
  try clear hK4 K4
  refine cond_false kj ?_
  refine wp_skip ?_
  refine hK3 _ _ ?_
  try clear hK3 K3
  refine wp_seq_k fun K5 hK5 => ?_
  refine wp_seq_k fun K6 hK6 => ?_
  refine region_lit ?_
  refine seq_val (.int .i64 0) 3 rfl kj kj ?_
  refine seq_nil ?_
  refine hK6 _ _ ?_
  try clear hK6 K6
  refine wp_block ?_
  refine loop_auto (fun (s1 : Nat) => [(1, .pointer (some ⟨g2, 0, none⟩)), (3, .int .i64 ((s1 : Nat) : Int))]) (fun (s1 : Nat) W => (s1 ≤ ms.length) ∧ (goodN ms s1 = true) ∧ (Ext W2 W) ∧ (Ext w W)) (fun (s1 : Nat) => ms.length - s1) 0 ⟨rfl, rfl, trivial⟩ ⟨(Nat.zero_le _), rfl, (Rely.Ext.refl W2), x2⟩ fun s1 X1 V1 hI1 => ?_
  obtain ⟨i, hs1⟩ : ∃ z, z = s1 := ⟨_, rfl⟩
  subst hs1
  obtain ⟨hi, hr, kk1, xx1⟩ := hI1
  replace hi : i ≤ ms.length := hi
  replace hr : goodN ms i = true := hr
  replace kk1 : Ext W2 V1 := kk1
  replace xx1 : Ext w V1 := xx1
  have e3 := kk1
  refine wp_seq_k fun K7 hK7 => ?_
  refine wp_seq_k fun K8 hK8 => ?_
  refine region_lit ?_
  refine seq_val (.int .i64 ((i : Nat) : Int)) 14 rfl kj kj ?_
  refine seq_val (.pointer (some ⟨g2, 98, none⟩)) 15 rfl kj kj ?_
  have r2_3 := (row_ext r2_2 e3)
  refine seq_val (.slice a_m ms.length c_m) 16 rfl kj (run_loadC1 41 _ g2 98 43 _ (.slice a_m ms.length c_m) _ r2_3 rfl kj (cat_part [#[.bool false], #[.int .i64 nm], ints .u8 (key), ints .u8 (sg), ints .u8 (pa)] [#[.slice a_m ms.length c_m]] [] 98 (by rw [cat_cons, cat_cons, cat_cons, cat_cons, cat_cons]; simp only [Array.size_append, cat, ((ints_size _ _).trans hgl), ((ints_size _ _).trans hkl), ((ints_size _ _).trans hpl)]; rfl) 0 _ rfl) kj) ?_
  refine seq_val (.int .i64 ((ms.length : Nat) : Int)) 17 rfl kj kj ?_
  refine seq_val (.bool (decide (((i : Nat) : Int) < ((ms.length : Nat) : Int)))) 18 rfl kj kj ?_
  refine seq_nil ?_
  refine hK8 _ _ ?_
  try clear hK8 K8
  refine cond_split (t := decide (((i : Nat) : Int) < ((ms.length : Nat) : Int))) kj (fun c9 => ?_) (fun c9 => ?_)
  · skip
    have hlt18 : i < ms.length := by have := of_decide_eq_true c9; omega
    have hnm_10 : (ms).length = ms.length := rfl
    obtain ⟨gcm_10, ocm_10, ham_10, hlm_10, hcm_10⟩ := rdK_open (RdK.here (RdK.ext hm xx1)) (by rw [hnm_10]; omega)
    refine wp_skip ?_
    refine hK7 _ _ ?_
    try clear hK7 K7
    refine wp_seq_k fun K11 hK11 => ?_
    refine wp_block ?_
    refine wp_seq_k fun K12 hK12 => ?_
    rcases (show inB (nth ms i) 31 = false ∨ (inB (nth ms i) 31 = true ∧ i = 0) ∨ (inB (nth ms i) 31 = true ∧ 0 < i ∧ nth ms i ≤ nth ms (i - 1)) ∨ (inB (nth ms i) 31 = true ∧ 0 < i ∧ nth ms (i - 1) < nth ms i) by cases inB (nth ms i) 31 <;> simp <;> omega) with hin | ⟨hin, h0⟩ | ⟨hin, h0, hq⟩ | ⟨hin, h0, hq⟩
    · skip
      have hs : goodN ms (i + 1) = false := by show (goodN ms i && (inB (nth ms i) 31 && _)) = false; rw [hin, Bool.false_and, Bool.and_false]
      have hV : goodN ms ms.length = false := goodN_false ms (i + 1) hs _ (by omega)
      refine region_walkB kj fun W4 e4 => ?_
      have x4 : Ext w W4 := Ext.tr xx1 e4
      refine wb_val 0 (.pointer (some ⟨g2, 98, none⟩)) 21 rfl rfl kj kj (fun _ _ _ h => h) (fun W hR => by kernel_rfl) ?_
      have r2_4 := (row_ext r2_3 e4)
      refine wb_val 1 (.slice a_m ms.length c_m) 22 rfl rfl kj kj (fun _ _ _ h => h) (fun W hR => (run_loadC1 41 _ g2 98 43 _ (.slice a_m ms.length c_m) _ (row_ext r2_4 hR) rfl kj (cat_part [#[.bool false], #[.int .i64 nm], ints .u8 (key), ints .u8 (sg), ints .u8 (pa)] [#[.slice a_m ms.length c_m]] [] 98 (by rw [cat_cons, cat_cons, cat_cons, cat_cons, cat_cons]; simp only [Array.size_append, cat, ((ints_size _ _).trans hgl), ((ints_size _ _).trans hkl), ((ints_size _ _).trans hpl)]; rfl) 0 _ rfl) kj)) ?_
      refine wb_val 2 (.int .i64 ((i : Nat) : Int)) 23 rfl rfl kj kj (fun _ _ _ h => h) (fun W hR => by kernel_rfl) ?_
      refine wb_val 3 (.pointer (some ⟨gcm_10, ocm_10 + i, none⟩)) 24 rfl rfl kj kj (fun _ _ _ h => h) (fun W hR => (run_indexA 41 _ _ .i64 i gcm_10 ocm_10 ms.length c_m 3 a_m _ ham_10 rfl rfl kj kj kj kj (Nat.lt_of_lt_of_eq (show i < ms.length by omega) hnm_10.symm))) ?_
      have y3_4 : Ext V1 W4 := (Rely.Ext.trans (Rely.Ext.refl V1) e4)
      refine wb_val 4 (.int .i64 (nth (ms) (i))) 25 rfl rfl kj kj (fun _ _ _ h => h) (fun W hR => (run_loadCell 3 _ _ (.int .i64 (nth (ms) (i))) ((Below.cell (Rely.Ext.trans y3_4 hR) hlm_10).trans (hcm_10 i (Nat.lt_of_lt_of_eq (show i < ms.length by omega) hnm_10.symm))) rfl kj kj)) ?_
      refine wb_one 5 kj ?_
      refine wo_callR rfl (fun v W' => v = (.bool false) ∧ Ext W4 W') 77 #[.int .i64 (nth (ms) (i)), .int .i64 31] 26 rfl kj kj (((inE (nth ms i) 31 _ hin) _).mono fun e w' h => ⟨_, h.1, rfl, h.2⟩) (fun _ _ h => Rely.Ext.trans (Rely.Ext.refl W4) h.2) fun vv13 W5 hh13 => ?_
      obtain ⟨rfl, e5⟩ := hh13
      have x5 : Ext w W5 := Ext.tr x4 e5
      refine wb_val 6 (.bool true) 27 rfl rfl kj kj (fun _ _ _ h => h) (fun W hR => by kernel_rfl) ?_
      refine wb_val 7 (.bool true) 28 rfl rfl kj kj (fun _ _ _ h => h) (fun W hR => by kernel_rfl) ?_
      refine wb_skip 8 29 rfl rfl kj kj (fun _ _ _ h => h) ?_
      refine wb_skip 9 30 rfl rfl kj kj (fun _ _ _ h => h) ?_
      refine wb_skip 10 31 rfl rfl kj kj (fun _ _ _ h => h) ?_
      refine wb_skip 11 32 rfl rfl kj kj (fun _ _ _ h => h) ?_
      refine wb_skip 12 33 rfl rfl kj kj (fun _ _ _ h => h) ?_
      refine wb_skip 13 34 rfl rfl kj kj (fun _ _ _ h => h) ?_
      refine wb_skip 14 35 rfl rfl kj kj (fun _ _ _ h => h) ?_
      refine wb_skip 15 36 rfl rfl kj kj (fun _ _ _ h => h) ?_
      refine wb_skip 16 37 rfl rfl kj kj (fun _ _ _ h => h) ?_
      refine wb_skip 17 38 rfl rfl kj kj (fun _ _ _ h => h) ?_
      refine wb_skip 18 39 rfl rfl kj kj (fun _ _ _ h => h) ?_
      refine wb_skip 19 40 rfl rfl kj kj (fun _ _ _ h => h) ?_
      refine wb_skip 20 41 rfl rfl kj kj (fun _ _ _ h => h) ?_
      refine wb_skip 21 42 rfl rfl kj kj (fun _ _ _ h => h) ?_
      refine wb_skip 22 43 rfl rfl kj kj (fun _ _ _ h => h) ?_
      refine wb_skip 23 44 rfl rfl kj kj (fun _ _ _ h => h) ?_
      refine wb_val 24 (.bool true) 45 rfl rfl kj kj (fun _ _ _ h => h) (fun W hR => by kernel_rfl) ?_
      refine wb_nil kj ?_
      refine hK12 _ _ ?_
      try clear hK12 K12
      refine cond_true kj ?_
      refine wp_seq_k fun K14 hK14 => ?_
      refine region_lit ?_
      refine seq_val (.bool false) 2 rfl kj kj ?_
      refine seq_nil ?_
      refine hK14 _ _ ?_
      try clear hK14 K14
      refine wp_ret ?_
      repeat (first | with_reducible refine goR1 ?_ | with_reducible refine goR2 ?_)
      exact (show bodyPost _ _ _ .ret _ _ from ret1 (.bool false) rfl (res_tmp kj) ⟨by rw [hV]; rfl, x5⟩)
    · skip
      have hs : goodN ms (i + 1) = true := by show (goodN ms i && (inB (nth ms i) 31 && ((i == 0) || _))) = true; rw [hr, hin, beq_iff_eq.2 h0]; rfl
      refine region_walkB kj fun W4 e4 => ?_
      have x4 : Ext w W4 := Ext.tr xx1 e4
      refine wb_val 0 (.pointer (some ⟨g2, 98, none⟩)) 21 rfl rfl kj kj (fun _ _ _ h => h) (fun W hR => by kernel_rfl) ?_
      have r2_4 := (row_ext r2_3 e4)
      refine wb_val 1 (.slice a_m ms.length c_m) 22 rfl rfl kj kj (fun _ _ _ h => h) (fun W hR => (run_loadC1 41 _ g2 98 43 _ (.slice a_m ms.length c_m) _ (row_ext r2_4 hR) rfl kj (cat_part [#[.bool false], #[.int .i64 nm], ints .u8 (key), ints .u8 (sg), ints .u8 (pa)] [#[.slice a_m ms.length c_m]] [] 98 (by rw [cat_cons, cat_cons, cat_cons, cat_cons, cat_cons]; simp only [Array.size_append, cat, ((ints_size _ _).trans hgl), ((ints_size _ _).trans hkl), ((ints_size _ _).trans hpl)]; rfl) 0 _ rfl) kj)) ?_
      refine wb_val 2 (.int .i64 ((i : Nat) : Int)) 23 rfl rfl kj kj (fun _ _ _ h => h) (fun W hR => by kernel_rfl) ?_
      refine wb_val 3 (.pointer (some ⟨gcm_10, ocm_10 + i, none⟩)) 24 rfl rfl kj kj (fun _ _ _ h => h) (fun W hR => (run_indexA 41 _ _ .i64 i gcm_10 ocm_10 ms.length c_m 3 a_m _ ham_10 rfl rfl kj kj kj kj (Nat.lt_of_lt_of_eq (show i < ms.length by omega) hnm_10.symm))) ?_
      have y3_4 : Ext V1 W4 := (Rely.Ext.trans (Rely.Ext.refl V1) e4)
      refine wb_val 4 (.int .i64 (nth (ms) (i))) 25 rfl rfl kj kj (fun _ _ _ h => h) (fun W hR => (run_loadCell 3 _ _ (.int .i64 (nth (ms) (i))) ((Below.cell (Rely.Ext.trans y3_4 hR) hlm_10).trans (hcm_10 i (Nat.lt_of_lt_of_eq (show i < ms.length by omega) hnm_10.symm))) rfl kj kj)) ?_
      refine wb_one 5 kj ?_
      refine wo_callR rfl (fun v W' => v = (.bool true) ∧ Ext W4 W') 77 #[.int .i64 (nth (ms) (i)), .int .i64 31] 26 rfl kj kj (((inE (nth ms i) 31 _ hin) _).mono fun e w' h => ⟨_, h.1, rfl, h.2⟩) (fun _ _ h => Rely.Ext.trans (Rely.Ext.refl W4) h.2) fun vv15 W5 hh15 => ?_
      obtain ⟨rfl, e5⟩ := hh15
      have x5 : Ext w W5 := Ext.tr x4 e5
      refine wb_val 6 (.bool false) 27 rfl rfl kj kj (fun _ _ _ h => h) (fun W hR => by kernel_rfl) ?_
      refine wb_val 7 (.bool false) 28 rfl rfl kj kj (fun _ _ _ h => h) (fun W hR => by kernel_rfl) ?_
      refine wb_val 8 (.int .i64 ((i : Nat) : Int)) 29 rfl rfl kj kj (fun _ _ _ h => h) (fun W hR => by kernel_rfl) ?_
      refine wb_val 9 (.bool false) 30 rfl rfl kj kj (fun _ _ _ h => h) (fun W hR => (run_eq (u := .bool (decide (((i : Nat) : Int) > 0))) kj (congrArg Value.bool (decide_eq_false (by omega))))) ?_
      refine wb_val 10 (.bool false) 31 rfl rfl kj kj (fun _ _ _ h => h) (fun W hR => by kernel_rfl) ?_
      refine wb_skip 11 32 rfl rfl kj kj (fun _ _ _ h => h) ?_
      refine wb_skip 12 33 rfl rfl kj kj (fun _ _ _ h => h) ?_
      refine wb_skip 13 34 rfl rfl kj kj (fun _ _ _ h => h) ?_
      refine wb_skip 14 35 rfl rfl kj kj (fun _ _ _ h => h) ?_
      refine wb_skip 15 36 rfl rfl kj kj (fun _ _ _ h => h) ?_
      refine wb_skip 16 37 rfl rfl kj kj (fun _ _ _ h => h) ?_
      refine wb_skip 17 38 rfl rfl kj kj (fun _ _ _ h => h) ?_
      refine wb_skip 18 39 rfl rfl kj kj (fun _ _ _ h => h) ?_
      refine wb_skip 19 40 rfl rfl kj kj (fun _ _ _ h => h) ?_
      refine wb_skip 20 41 rfl rfl kj kj (fun _ _ _ h => h) ?_
      refine wb_skip 21 42 rfl rfl kj kj (fun _ _ _ h => h) ?_
      refine wb_skip 22 43 rfl rfl kj kj (fun _ _ _ h => h) ?_
      refine wb_val 23 (.bool false) 44 rfl rfl kj kj (fun _ _ _ h => h) (fun W hR => by kernel_rfl) ?_
      refine wb_val 24 (.bool false) 45 rfl rfl kj kj (fun _ _ _ h => h) (fun W hR => by kernel_rfl) ?_
      refine wb_nil kj ?_
      refine hK12 _ _ ?_
      try clear hK12 K12
      refine cond_false kj ?_
      refine wp_skip ?_
      refine hK11 _ _ ?_
      try clear hK11 K11
      refine region_lit ?_
      refine seq_val (.int .i64 ((i : Nat) : Int)) 19 rfl kj kj ?_
      refine seq_val (.int .i64 ((i + 1 : Nat) : Int)) 20 rfl kj (run_eq (u := .int .i64 (IntKind.i64.wrap (((i : Nat) : Int) + 1))) kj (congrArg (Value.int .i64) (i64n _ _ (by omega) (by omega)))) ?_
      refine seq_val (.int .i64 ((i + 1 : Nat) : Int)) 3 rfl kj kj ?_
      refine seq_nil ?_
      have y2_4 : Ext W2 W4 := (Rely.Ext.trans e3 e4)
      have y2_5 : Ext W2 W5 := (Rely.Ext.trans y2_4 e5)
      repeat (first | with_reducible refine goX1 ?_ | with_reducible refine goX2 ?_ | with_reducible refine goX3 ?_)
      exact goes_then (i + 1) ⟨rfl, rfl, trivial⟩ ⟨(by omega), hs, y2_5, x5⟩ (by omega)
    · skip
      obtain ⟨ip, hip⟩ : ∃ ip, i = ip + 1 := ⟨i - 1, by omega⟩
      have hi1 : i - 1 = ip := by omega
      rw [hi1] at hq
      have hs : goodN ms (i + 1) = false := by show (goodN ms i && (inB (nth ms i) 31 && ((i == 0) || decide (nth ms (i - 1) < nth ms i)))) = false; rw [hi1, hr, hin, beq_eq_false_iff_ne.2 (show i ≠ 0 by omega), decide_eq_false (by omega)]; rfl
      have hV : goodN ms ms.length = false := goodN_false ms (i + 1) hs _ (by omega)
      refine region_walkB kj fun W4 e4 => ?_
      have x4 : Ext w W4 := Ext.tr xx1 e4
      refine wb_val 0 (.pointer (some ⟨g2, 98, none⟩)) 21 rfl rfl kj kj (fun _ _ _ h => h) (fun W hR => by kernel_rfl) ?_
      have r2_4 := (row_ext r2_3 e4)
      refine wb_val 1 (.slice a_m ms.length c_m) 22 rfl rfl kj kj (fun _ _ _ h => h) (fun W hR => (run_loadC1 41 _ g2 98 43 _ (.slice a_m ms.length c_m) _ (row_ext r2_4 hR) rfl kj (cat_part [#[.bool false], #[.int .i64 nm], ints .u8 (key), ints .u8 (sg), ints .u8 (pa)] [#[.slice a_m ms.length c_m]] [] 98 (by rw [cat_cons, cat_cons, cat_cons, cat_cons, cat_cons]; simp only [Array.size_append, cat, ((ints_size _ _).trans hgl), ((ints_size _ _).trans hkl), ((ints_size _ _).trans hpl)]; rfl) 0 _ rfl) kj)) ?_
      refine wb_val 2 (.int .i64 ((i : Nat) : Int)) 23 rfl rfl kj kj (fun _ _ _ h => h) (fun W hR => by kernel_rfl) ?_
      refine wb_val 3 (.pointer (some ⟨gcm_10, ocm_10 + i, none⟩)) 24 rfl rfl kj kj (fun _ _ _ h => h) (fun W hR => (run_indexA 41 _ _ .i64 i gcm_10 ocm_10 ms.length c_m 3 a_m _ ham_10 rfl rfl kj kj kj kj (Nat.lt_of_lt_of_eq (show i < ms.length by omega) hnm_10.symm))) ?_
      have y3_4 : Ext V1 W4 := (Rely.Ext.trans (Rely.Ext.refl V1) e4)
      refine wb_val 4 (.int .i64 (nth (ms) (i))) 25 rfl rfl kj kj (fun _ _ _ h => h) (fun W hR => (run_loadCell 3 _ _ (.int .i64 (nth (ms) (i))) ((Below.cell (Rely.Ext.trans y3_4 hR) hlm_10).trans (hcm_10 i (Nat.lt_of_lt_of_eq (show i < ms.length by omega) hnm_10.symm))) rfl kj kj)) ?_
      refine wb_one 5 kj ?_
      refine wo_callR rfl (fun v W' => v = (.bool true) ∧ Ext W4 W') 77 #[.int .i64 (nth (ms) (i)), .int .i64 31] 26 rfl kj kj (((inE (nth ms i) 31 _ hin) _).mono fun e w' h => ⟨_, h.1, rfl, h.2⟩) (fun _ _ h => Rely.Ext.trans (Rely.Ext.refl W4) h.2) fun vv16 W5 hh16 => ?_
      obtain ⟨rfl, e5⟩ := hh16
      have x5 : Ext w W5 := Ext.tr x4 e5
      refine wb_val 6 (.bool false) 27 rfl rfl kj kj (fun _ _ _ h => h) (fun W hR => by kernel_rfl) ?_
      refine wb_val 7 (.bool false) 28 rfl rfl kj kj (fun _ _ _ h => h) (fun W hR => by kernel_rfl) ?_
      refine wb_val 8 (.int .i64 ((i : Nat) : Int)) 29 rfl rfl kj kj (fun _ _ _ h => h) (fun W hR => by kernel_rfl) ?_
      refine wb_val 9 (.bool true) 30 rfl rfl kj kj (fun _ _ _ h => h) (fun W hR => (run_eq (u := .bool (decide (((i : Nat) : Int) > 0))) kj (congrArg Value.bool (decide_eq_true (by omega))))) ?_
      refine wb_val 10 (.bool true) 31 rfl rfl kj kj (fun _ _ _ h => h) (fun W hR => by kernel_rfl) ?_
      refine wb_val 11 (.pointer (some ⟨g2, 98, none⟩)) 32 rfl rfl kj kj (fun _ _ _ h => h) (fun W hR => by kernel_rfl) ?_
      refine wb_val 12 (.slice a_m ms.length c_m) 33 rfl rfl kj kj (fun _ _ _ h => h) (fun W hR => (run_loadC1 41 _ g2 98 43 _ (.slice a_m ms.length c_m) _ (row_ext r2_4 hR) rfl kj (cat_part [#[.bool false], #[.int .i64 nm], ints .u8 (key), ints .u8 (sg), ints .u8 (pa)] [#[.slice a_m ms.length c_m]] [] 98 (by rw [cat_cons, cat_cons, cat_cons, cat_cons, cat_cons]; simp only [Array.size_append, cat, ((ints_size _ _).trans hgl), ((ints_size _ _).trans hkl), ((ints_size _ _).trans hpl)]; rfl) 0 _ rfl) kj)) ?_
      refine wb_val 13 (.int .i64 ((i : Nat) : Int)) 34 rfl rfl kj kj (fun _ _ _ h => h) (fun W hR => by kernel_rfl) ?_
      refine wb_val 14 (.int .i64 (((ip : Nat) : Int))) 35 rfl rfl kj kj (fun _ _ _ h => h) (fun W hR => (run_eq (u := .int .i64 (IntKind.i64.wrap (((i : Nat) : Int) - 1))) kj (congrArg (Value.int .i64) (by rw [show ((i : Nat) : Int) - 1 = ((ip : Nat) : Int) by omega]; exact IntWalk.i64_in _ (by omega))))) ?_
      refine wb_val 15 (.pointer (some ⟨gcm_10, ocm_10 + ip, none⟩)) 36 rfl rfl kj kj (fun _ _ _ h => h) (fun W hR => (run_indexA 41 _ _ .i64 ip gcm_10 ocm_10 ms.length c_m 3 a_m _ ham_10 rfl rfl kj kj kj kj (Nat.lt_of_lt_of_eq (show ip < ms.length by omega) hnm_10.symm))) ?_
      refine wb_val 16 (.int .i64 (nth (ms) (ip))) 37 rfl rfl kj kj (fun _ _ _ h => h) (fun W hR => (run_loadCell 3 _ _ (.int .i64 (nth (ms) (ip))) ((Below.cell (Rely.Ext.trans y3_4 hR) hlm_10).trans (hcm_10 ip (Nat.lt_of_lt_of_eq (show ip < ms.length by omega) hnm_10.symm))) rfl kj kj)) ?_
      refine wb_val 17 (.pointer (some ⟨g2, 98, none⟩)) 38 rfl rfl kj kj (fun _ _ _ h => h) (fun W hR => by kernel_rfl) ?_
      refine wb_val 18 (.slice a_m ms.length c_m) 39 rfl rfl kj kj (fun _ _ _ h => h) (fun W hR => (run_loadC1 41 _ g2 98 43 _ (.slice a_m ms.length c_m) _ (row_ext r2_4 hR) rfl kj (cat_part [#[.bool false], #[.int .i64 nm], ints .u8 (key), ints .u8 (sg), ints .u8 (pa)] [#[.slice a_m ms.length c_m]] [] 98 (by rw [cat_cons, cat_cons, cat_cons, cat_cons, cat_cons]; simp only [Array.size_append, cat, ((ints_size _ _).trans hgl), ((ints_size _ _).trans hkl), ((ints_size _ _).trans hpl)]; rfl) 0 _ rfl) kj)) ?_
      refine wb_val 19 (.int .i64 ((i : Nat) : Int)) 40 rfl rfl kj kj (fun _ _ _ h => h) (fun W hR => by kernel_rfl) ?_
      refine wb_val 20 (.pointer (some ⟨gcm_10, ocm_10 + i, none⟩)) 41 rfl rfl kj kj (fun _ _ _ h => h) (fun W hR => (run_indexA 41 _ _ .i64 i gcm_10 ocm_10 ms.length c_m 3 a_m _ ham_10 rfl rfl kj kj kj kj (Nat.lt_of_lt_of_eq (show i < ms.length by omega) hnm_10.symm))) ?_
      refine wb_val 21 (.int .i64 (nth (ms) (i))) 42 rfl rfl kj kj (fun _ _ _ h => h) (fun W hR => (run_loadCell 3 _ _ (.int .i64 (nth (ms) (i))) ((Below.cell (Rely.Ext.trans y3_4 hR) hlm_10).trans (hcm_10 i (Nat.lt_of_lt_of_eq (show i < ms.length by omega) hnm_10.symm))) rfl kj kj)) ?_
      refine wb_val 22 (.bool true) 43 rfl rfl kj kj (fun _ _ _ h => h) (fun W hR => (run_eq (u := .bool (decide ((nth (ms) (ip)) ≥ (nth (ms) (i))))) kj (congrArg Value.bool (decide_eq_true (by omega))))) ?_
      refine wb_val 23 (.bool true) 44 rfl rfl kj kj (fun _ _ _ h => h) (fun W hR => by kernel_rfl) ?_
      refine wb_val 24 (.bool true) 45 rfl rfl kj kj (fun _ _ _ h => h) (fun W hR => by kernel_rfl) ?_
      refine wb_nil kj ?_
      refine hK12 _ _ ?_
      try clear hK12 K12
      refine cond_true kj ?_
      refine wp_seq_k fun K17 hK17 => ?_
      refine region_lit ?_
      refine seq_val (.bool false) 2 rfl kj kj ?_
      refine seq_nil ?_
      refine hK17 _ _ ?_
      try clear hK17 K17
      refine wp_ret ?_
      repeat (first | with_reducible refine goR1 ?_ | with_reducible refine goR2 ?_)
      exact (show bodyPost _ _ _ .ret _ _ from ret1 (.bool false) rfl (res_tmp kj) ⟨by rw [hV]; rfl, x5⟩)
    · skip
      obtain ⟨ip, hip⟩ : ∃ ip, i = ip + 1 := ⟨i - 1, by omega⟩
      have hi1 : i - 1 = ip := by omega
      rw [hi1] at hq
      have hs : goodN ms (i + 1) = true := by show (goodN ms i && (inB (nth ms i) 31 && ((i == 0) || decide (nth ms (i - 1) < nth ms i)))) = true; rw [hi1, hr, hin, beq_eq_false_iff_ne.2 (show i ≠ 0 by omega), decide_eq_true (by omega)]; rfl
      refine region_walkB kj fun W4 e4 => ?_
      have x4 : Ext w W4 := Ext.tr xx1 e4
      refine wb_val 0 (.pointer (some ⟨g2, 98, none⟩)) 21 rfl rfl kj kj (fun _ _ _ h => h) (fun W hR => by kernel_rfl) ?_
      have r2_4 := (row_ext r2_3 e4)
      refine wb_val 1 (.slice a_m ms.length c_m) 22 rfl rfl kj kj (fun _ _ _ h => h) (fun W hR => (run_loadC1 41 _ g2 98 43 _ (.slice a_m ms.length c_m) _ (row_ext r2_4 hR) rfl kj (cat_part [#[.bool false], #[.int .i64 nm], ints .u8 (key), ints .u8 (sg), ints .u8 (pa)] [#[.slice a_m ms.length c_m]] [] 98 (by rw [cat_cons, cat_cons, cat_cons, cat_cons, cat_cons]; simp only [Array.size_append, cat, ((ints_size _ _).trans hgl), ((ints_size _ _).trans hkl), ((ints_size _ _).trans hpl)]; rfl) 0 _ rfl) kj)) ?_
      refine wb_val 2 (.int .i64 ((i : Nat) : Int)) 23 rfl rfl kj kj (fun _ _ _ h => h) (fun W hR => by kernel_rfl) ?_
      refine wb_val 3 (.pointer (some ⟨gcm_10, ocm_10 + i, none⟩)) 24 rfl rfl kj kj (fun _ _ _ h => h) (fun W hR => (run_indexA 41 _ _ .i64 i gcm_10 ocm_10 ms.length c_m 3 a_m _ ham_10 rfl rfl kj kj kj kj (Nat.lt_of_lt_of_eq (show i < ms.length by omega) hnm_10.symm))) ?_
      have y3_4 : Ext V1 W4 := (Rely.Ext.trans (Rely.Ext.refl V1) e4)
      refine wb_val 4 (.int .i64 (nth (ms) (i))) 25 rfl rfl kj kj (fun _ _ _ h => h) (fun W hR => (run_loadCell 3 _ _ (.int .i64 (nth (ms) (i))) ((Below.cell (Rely.Ext.trans y3_4 hR) hlm_10).trans (hcm_10 i (Nat.lt_of_lt_of_eq (show i < ms.length by omega) hnm_10.symm))) rfl kj kj)) ?_
      refine wb_one 5 kj ?_
      refine wo_callR rfl (fun v W' => v = (.bool true) ∧ Ext W4 W') 77 #[.int .i64 (nth (ms) (i)), .int .i64 31] 26 rfl kj kj (((inE (nth ms i) 31 _ hin) _).mono fun e w' h => ⟨_, h.1, rfl, h.2⟩) (fun _ _ h => Rely.Ext.trans (Rely.Ext.refl W4) h.2) fun vv18 W5 hh18 => ?_
      obtain ⟨rfl, e5⟩ := hh18
      have x5 : Ext w W5 := Ext.tr x4 e5
      refine wb_val 6 (.bool false) 27 rfl rfl kj kj (fun _ _ _ h => h) (fun W hR => by kernel_rfl) ?_
      refine wb_val 7 (.bool false) 28 rfl rfl kj kj (fun _ _ _ h => h) (fun W hR => by kernel_rfl) ?_
      refine wb_val 8 (.int .i64 ((i : Nat) : Int)) 29 rfl rfl kj kj (fun _ _ _ h => h) (fun W hR => by kernel_rfl) ?_
      refine wb_val 9 (.bool true) 30 rfl rfl kj kj (fun _ _ _ h => h) (fun W hR => (run_eq (u := .bool (decide (((i : Nat) : Int) > 0))) kj (congrArg Value.bool (decide_eq_true (by omega))))) ?_
      refine wb_val 10 (.bool true) 31 rfl rfl kj kj (fun _ _ _ h => h) (fun W hR => by kernel_rfl) ?_
      refine wb_val 11 (.pointer (some ⟨g2, 98, none⟩)) 32 rfl rfl kj kj (fun _ _ _ h => h) (fun W hR => by kernel_rfl) ?_
      refine wb_val 12 (.slice a_m ms.length c_m) 33 rfl rfl kj kj (fun _ _ _ h => h) (fun W hR => (run_loadC1 41 _ g2 98 43 _ (.slice a_m ms.length c_m) _ (row_ext r2_4 hR) rfl kj (cat_part [#[.bool false], #[.int .i64 nm], ints .u8 (key), ints .u8 (sg), ints .u8 (pa)] [#[.slice a_m ms.length c_m]] [] 98 (by rw [cat_cons, cat_cons, cat_cons, cat_cons, cat_cons]; simp only [Array.size_append, cat, ((ints_size _ _).trans hgl), ((ints_size _ _).trans hkl), ((ints_size _ _).trans hpl)]; rfl) 0 _ rfl) kj)) ?_
      refine wb_val 13 (.int .i64 ((i : Nat) : Int)) 34 rfl rfl kj kj (fun _ _ _ h => h) (fun W hR => by kernel_rfl) ?_
      refine wb_val 14 (.int .i64 (((ip : Nat) : Int))) 35 rfl rfl kj kj (fun _ _ _ h => h) (fun W hR => (run_eq (u := .int .i64 (IntKind.i64.wrap (((i : Nat) : Int) - 1))) kj (congrArg (Value.int .i64) (by rw [show ((i : Nat) : Int) - 1 = ((ip : Nat) : Int) by omega]; exact IntWalk.i64_in _ (by omega))))) ?_
      refine wb_val 15 (.pointer (some ⟨gcm_10, ocm_10 + ip, none⟩)) 36 rfl rfl kj kj (fun _ _ _ h => h) (fun W hR => (run_indexA 41 _ _ .i64 ip gcm_10 ocm_10 ms.length c_m 3 a_m _ ham_10 rfl rfl kj kj kj kj (Nat.lt_of_lt_of_eq (show ip < ms.length by omega) hnm_10.symm))) ?_
      refine wb_val 16 (.int .i64 (nth (ms) (ip))) 37 rfl rfl kj kj (fun _ _ _ h => h) (fun W hR => (run_loadCell 3 _ _ (.int .i64 (nth (ms) (ip))) ((Below.cell (Rely.Ext.trans y3_4 hR) hlm_10).trans (hcm_10 ip (Nat.lt_of_lt_of_eq (show ip < ms.length by omega) hnm_10.symm))) rfl kj kj)) ?_
      refine wb_val 17 (.pointer (some ⟨g2, 98, none⟩)) 38 rfl rfl kj kj (fun _ _ _ h => h) (fun W hR => by kernel_rfl) ?_
      refine wb_val 18 (.slice a_m ms.length c_m) 39 rfl rfl kj kj (fun _ _ _ h => h) (fun W hR => (run_loadC1 41 _ g2 98 43 _ (.slice a_m ms.length c_m) _ (row_ext r2_4 hR) rfl kj (cat_part [#[.bool false], #[.int .i64 nm], ints .u8 (key), ints .u8 (sg), ints .u8 (pa)] [#[.slice a_m ms.length c_m]] [] 98 (by rw [cat_cons, cat_cons, cat_cons, cat_cons, cat_cons]; simp only [Array.size_append, cat, ((ints_size _ _).trans hgl), ((ints_size _ _).trans hkl), ((ints_size _ _).trans hpl)]; rfl) 0 _ rfl) kj)) ?_
      refine wb_val 19 (.int .i64 ((i : Nat) : Int)) 40 rfl rfl kj kj (fun _ _ _ h => h) (fun W hR => by kernel_rfl) ?_
      refine wb_val 20 (.pointer (some ⟨gcm_10, ocm_10 + i, none⟩)) 41 rfl rfl kj kj (fun _ _ _ h => h) (fun W hR => (run_indexA 41 _ _ .i64 i gcm_10 ocm_10 ms.length c_m 3 a_m _ ham_10 rfl rfl kj kj kj kj (Nat.lt_of_lt_of_eq (show i < ms.length by omega) hnm_10.symm))) ?_
      refine wb_val 21 (.int .i64 (nth (ms) (i))) 42 rfl rfl kj kj (fun _ _ _ h => h) (fun W hR => (run_loadCell 3 _ _ (.int .i64 (nth (ms) (i))) ((Below.cell (Rely.Ext.trans y3_4 hR) hlm_10).trans (hcm_10 i (Nat.lt_of_lt_of_eq (show i < ms.length by omega) hnm_10.symm))) rfl kj kj)) ?_
      refine wb_val 22 (.bool false) 43 rfl rfl kj kj (fun _ _ _ h => h) (fun W hR => (run_eq (u := .bool (decide ((nth (ms) (ip)) ≥ (nth (ms) (i))))) kj (congrArg Value.bool (decide_eq_false (by omega))))) ?_
      refine wb_val 23 (.bool false) 44 rfl rfl kj kj (fun _ _ _ h => h) (fun W hR => by kernel_rfl) ?_
      refine wb_val 24 (.bool false) 45 rfl rfl kj kj (fun _ _ _ h => h) (fun W hR => by kernel_rfl) ?_
      refine wb_nil kj ?_
      refine hK12 _ _ ?_
      try clear hK12 K12
      refine cond_false kj ?_
      refine wp_skip ?_
      refine hK11 _ _ ?_
      try clear hK11 K11
      refine region_lit ?_
      refine seq_val (.int .i64 ((i : Nat) : Int)) 19 rfl kj kj ?_
      refine seq_val (.int .i64 ((i + 1 : Nat) : Int)) 20 rfl kj (run_eq (u := .int .i64 (IntKind.i64.wrap (((i : Nat) : Int) + 1))) kj (congrArg (Value.int .i64) (i64n _ _ (by omega) (by omega)))) ?_
      refine seq_val (.int .i64 ((i + 1 : Nat) : Int)) 3 rfl kj kj ?_
      refine seq_nil ?_
      have y2_4 : Ext W2 W4 := (Rely.Ext.trans e3 e4)
      have y2_5 : Ext W2 W5 := (Rely.Ext.trans y2_4 e5)
      repeat (first | with_reducible refine goX1 ?_ | with_reducible refine goX2 ?_ | with_reducible refine goX3 ?_)
      exact goes_then (i + 1) ⟨rfl, rfl, trivial⟩ ⟨(by omega), hs, y2_5, x5⟩ (by omega)
  · skip
    have heq18 : i = ms.length := by have := of_decide_eq_false c9; omega
    have hV : goodN ms ms.length = true := by rw [← heq18]; exact hr
    refine wp_exit ?_
    refine hK5 _ _ ?_
    try clear hK5 K5
    refine wp_seq_k fun K19 hK19 => ?_
    refine region_lit ?_
    refine seq_val (.pointer (some ⟨g2, 0, none⟩)) 46 rfl kj kj ?_
    refine seq_val (.bool false) 47 rfl kj (run_loadC1 4 _ g2 0 43 _ (.bool false) _ r2_3 rfl kj (cat_part [] [#[.bool false]] [#[.int .i64 nm], ints .u8 (key), ints .u8 (sg), ints .u8 (pa), #[.slice a_m ms.length c_m]] 0 kj 0 _ rfl) kj) ?_
    refine seq_val (.bool false) 48 rfl kj kj ?_
    refine seq_val (.agg (cat [#[.bool false], #[.int .i64 nm], ints .u8 (key), ints .u8 (sg), ints .u8 (pa), #[.slice a_m ms.length c_m]])) 49 rfl kj (run_load_row 43 _ g2 43 _ _ r2_3 rfl kj kj (isz (n := 99) kj (by rw [cat_cons, cat_cons, cat_cons, cat_cons, cat_cons, cat_cons]; simp only [Array.size_append, cat, ((ints_size _ _).trans hgl), ((ints_size _ _).trans hkl), ((ints_size _ _).trans hpl)]; rfl))) ?_
    refine seq_call (.bool (blankV false nm key sg pa ms)) 108 #[.agg (cat [#[.bool false], #[.int .i64 nm], ints .u8 (key), ints .u8 (sg), ints .u8 (pa), #[.slice a_m ms.length c_m]])] 50 rfl kj kj (zeroC false nm key sg pa ms _ _ _ hkl hgl hpl) fun W4 e4 => ?_
    have x4 : Ext w W4 := Ext.tr xx1 e4
    refine seq_val (.bool (blankV false nm key sg pa ms)) 51 rfl kj kj ?_
    refine seq_val (.bool (blankV false nm key sg pa ms)) 2 rfl kj kj ?_
    refine seq_nil ?_
    refine hK19 _ _ ?_
    try clear hK19 K19
    refine wp_ret ?_
    repeat (first | with_reducible refine goR1 ?_ | with_reducible refine goR2 ?_)
    exact (show bodyPost _ _ _ .ret _ _ from ret1 (.bool (blankV false nm key sg pa ms)) rfl (res_tmp kj) ⟨by rw [hV]; rfl, x4⟩)
theorem goodC (us : Bool) (nm : Int) (key sg pa ms : List Int) (a_m : Option Addr) (c_m : Nat) (w : World) (hkl : key.length = 32) (hgl : sg.length = 32) (hpl : pa.length = 32) (hm : RdK .i64 w.heap.size ms (.slice a_m ms.length c_m) w) : Calls Try.prog 96 #[.agg (cat [#[.bool us], #[.int .i64 nm], ints .u8 (key), ints .u8 (sg), ints .u8 (pa), #[.slice a_m ms.length c_m]])] w (Ret w (.bool (goodV us nm key sg pa ms))) := by
  unfold goodV
  cases h1 : inB nm 255 with
  | false => exact good_X us nm key sg pa ms a_m c_m w hkl hgl hpl hm h1
  | true =>
    by_cases h2 : ms.length ≤ 32
    · rw [decide_eq_true h2]
      cases us with
      | true => exact good_Ztrue nm key sg pa ms a_m c_m w hkl hgl hpl hm h1 h2
      | false => exact good_Zfalse nm key sg pa ms a_m c_m w hkl hgl hpl hm h1 h2
    · rw [decide_eq_false h2]; exact good_Y us nm key sg pa ms a_m c_m w hkl hgl hpl hm h1 (by omega)

end Go.Proofs.Ytfelfmchachljaa.Wr
