/- Windows: the law LinkWindows. -/
import Derived.Test.YtfkldohjeepbkaaLkPW
namespace Go.Proofs.Ytfkldohjeepbkaa.Lk
open Go Go.RowKit
open Go.Proofs.Ytfkldohjeepbkaa.Rely Go.Proofs.Ytfkldohjeepbkaa.Auto
set_option linter.unusedVariables false

set_option maxHeartbeats 4000000 in
theorem lawW_big (A : Option Addr) (N c : Nat) (hN : 300 < N) (w : World) : Calls Try.prog 4 #[.slice A N c] w (Ret w (.bool true)) := by
  refine enter 65 [(0, .slice A N c)] Try.func4 rfl rfl (by kernel_rfl) rfl ?_
  refine wp_seq_k fun K1 hK1 => ?_
  refine region_lit ?_
  refine seq_val (.bool false) 2 rfl (by kernel_rfl) (by kernel_rfl) ?_
  refine seq_nil ?_
  refine hK1 _ _ ?_
  try clear hK1 K1
  refine wp_seq_k fun K2 hK2 => ?_
  refine wp_seq_k fun K3 hK3 => ?_
  refine region_lit ?_
  refine seq_call (.bool true) 9 #[] 9 rfl (by kernel_rfl) (by kernel_rfl) (alive12 _) fun W1 e1 => ?_
  have x1 : Ext w W1 := Ext.tr (Rely.Ext.refl w) e1
  refine seq_val (.bool false) 10 rfl (by kernel_rfl) (by kernel_rfl) ?_
  refine seq_nil ?_
  refine hK3 _ _ ?_
  try clear hK3 K3
  refine cond_false (by kernel_rfl) ?_
  refine wp_skip ?_
  refine hK2 _ _ ?_
  try clear hK2 K2
  refine wp_seq_k fun K4 hK4 => ?_
  refine wp_seq_k fun K5 hK5 => ?_
  refine region_lit ?_
  refine seq_val (.slice A N c) 11 rfl (by kernel_rfl) (by kernel_rfl) ?_
  refine seq_val (.int .i64 ((N : Nat) : Int)) 12 rfl (by kernel_rfl) (by kernel_rfl) ?_
  refine seq_val (.bool true) 13 rfl (by kernel_rfl) (run_eq (u := .bool (decide (((N : Nat) : Int) > 300))) (by kernel_rfl) (congrArg Value.bool (decide_eq_true (by omega)))) ?_
  refine seq_nil ?_
  refine hK5 _ _ ?_
  try clear hK5 K5
  refine cond_true (by kernel_rfl) ?_
  refine wp_seq_k fun K6 hK6 => ?_
  refine region_lit ?_
  refine seq_val (.bool true) 2 rfl (by kernel_rfl) (by kernel_rfl) ?_
  refine seq_nil ?_
  refine hK6 _ _ ?_
  try clear hK6 K6
  refine wp_ret ?_
  repeat (first | with_reducible refine goR1 ?_ | with_reducible refine goR2 ?_)
  exact (show bodyPost _ _ _ .ret _ _ from ret1 (.bool true) rfl (res_tmp (by kernel_rfl)) ⟨rfl, x1⟩)
set_option maxHeartbeats 8000000 in
theorem lawW_ok (A : Option Addr) (N c : Nat) (ns : List Int) (hN : N ≤ 300) (w : World) (hc : N = 0 ∨ ∃ sb so, A = some ⟨sb, so, none⟩ ∧ sb < w.heap.size ∧ ∀ i, i < N → w.cell? ⟨sb, so + i, none⟩ = some (.int .i64 (nth ns i))) : Calls Try.prog 4 #[.slice A N c] w (Ret w (.bool true)) := by
  refine enter 65 [(0, .slice A N c)] Try.func4 rfl rfl (by kernel_rfl) rfl ?_
  refine wp_seq_k fun K1 hK1 => ?_
  refine region_lit ?_
  refine seq_val (.bool false) 2 rfl (by kernel_rfl) (by kernel_rfl) ?_
  refine seq_nil ?_
  refine hK1 _ _ ?_
  try clear hK1 K1
  refine wp_seq_k fun K2 hK2 => ?_
  refine wp_seq_k fun K3 hK3 => ?_
  refine region_lit ?_
  refine seq_call (.bool true) 9 #[] 9 rfl (by kernel_rfl) (by kernel_rfl) (alive12 _) fun W1 e1 => ?_
  have x1 : Ext w W1 := Ext.tr (Rely.Ext.refl w) e1
  refine seq_val (.bool false) 10 rfl (by kernel_rfl) (by kernel_rfl) ?_
  refine seq_nil ?_
  refine hK3 _ _ ?_
  try clear hK3 K3
  refine cond_false (by kernel_rfl) ?_
  refine wp_skip ?_
  refine hK2 _ _ ?_
  try clear hK2 K2
  refine wp_seq_k fun K4 hK4 => ?_
  refine wp_seq_k fun K5 hK5 => ?_
  refine region_lit ?_
  refine seq_val (.slice A N c) 11 rfl (by kernel_rfl) (by kernel_rfl) ?_
  refine seq_val (.int .i64 ((N : Nat) : Int)) 12 rfl (by kernel_rfl) (by kernel_rfl) ?_
  refine seq_val (.bool false) 13 rfl (by kernel_rfl) (run_eq (u := .bool (decide (((N : Nat) : Int) > 300))) (by kernel_rfl) (congrArg Value.bool (decide_eq_false (by omega)))) ?_
  refine seq_nil ?_
  refine hK5 _ _ ?_
  try clear hK5 K5
  refine cond_false (by kernel_rfl) ?_
  refine wp_skip ?_
  refine hK4 _ _ ?_
  try clear hK4 K4
  refine wp_seq_k fun K6 hK6 => ?_
  refine region_lit ?_
  refine seq_val (.agg (cat [#[.int .i64 0], #[.int .u64 0]])) 14 rfl (by kernel_rfl) (by kernel_rfl) ?_
  refine seq_alloc (cat [#[.int .i64 0], #[.int .u64 0]]) 35 15 rfl (by kernel_rfl) (by kernel_rfl) fun g7 W2 l7 e2 r7_2 => ?_
  have x2 : Ext w W2 := Ext.tr x1 e2
  have b7 : w.heap.size ≤ g7 := Nat.le_trans x1.size l7
  refine seq_val (.pointer (some ⟨g7, 0, none⟩)) 3 rfl (by kernel_rfl) (by kernel_rfl) ?_
  refine seq_nil ?_
  refine hK6 _ _ ?_
  try clear hK6 K6
  refine wp_seq_k fun K8 hK8 => ?_
  refine region_lit ?_
  refine seq_makeS (ints .i64 ([])) 3 0 16 rfl (by kernel_rfl) (by kernel_rfl) fun g9 W3 l9 e3 r9_3 => ?_
  have x3 : Ext w W3 := Ext.tr x2 e3
  have b9 : w.heap.size ≤ g9 := Nat.le_trans x2.size l9
  refine seq_val (.slice (some ⟨g9, 0, none⟩) 0 0) 4 rfl (by kernel_rfl) (by kernel_rfl) ?_
  refine seq_nil ?_
  refine hK8 _ _ ?_
  try clear hK8 K8
  refine wp_seq_k fun K10 hK10 => ?_
  refine wp_seq_k fun K11 hK11 => ?_
  refine region_lit ?_
  refine seq_val (.slice A N c) 17 rfl (by kernel_rfl) (by kernel_rfl) ?_
  refine seq_val (.int .i64 ((N : Nat) : Int)) 18 rfl (by kernel_rfl) (by kernel_rfl) ?_
  refine seq_val (.int .i64 0) 19 rfl (by kernel_rfl) (by kernel_rfl) ?_
  refine seq_nil ?_
  refine hK11 _ _ ?_
  try clear hK11 K11
  refine wp_block ?_
  have r7_3 := (row_ext r7_2 e3)
  refine loop_auto (fun (s : Nat × Int × Nat × List Int × Nat × Array Value) => [(19, .int .i64 ((s.1 : Nat) : Int)), (3, .pointer (some ⟨g7, 0, none⟩)), (4, .slice (some ⟨s.2.2.2.2.1, 0, none⟩) (s.2.2.2.1).length (s.2.2.2.2.2).size), (17, .slice A N c), (18, .int .i64 ((N : Nat) : Int))]) (fun (s : Nat × Int × Nat × List Int × Nat × Array Value) W => s.1 ≤ N ∧ WInv s.2.1 s.2.2.1 s.2.2.2.1 ∧ s.2.2.2.1.length ≤ s.1 ∧ w.heap.size ≤ s.2.2.2.2.1 ∧ W.heap[s.2.2.2.2.1]? = some (.cells s.2.2.2.2.2 3) ∧ s.2.2.2.1.length ≤ s.2.2.2.2.2.size ∧ s.2.2.2.2.2.size ≤ maxLen ∧ s.2.2.2.2.2.toList.take s.2.2.2.1.length = s.2.2.2.1.map (Value.int .i64) ∧ W.heap[g7]? = some (.cells (cat [#[.int .i64 s.2.1], #[.int .u64 ((s.2.2.1 : Nat) : Int)]]) 35) ∧ Ext w W) (fun (s : Nat × Int × Nat × List Int × Nat × Array Value) => N - s.1) (0, 0, 0, [], g9, ints .i64 []) ⟨rfl, rfl, rfl, rfl, rfl, trivial⟩ ⟨Nat.zero_le _, inv_start, Nat.le_refl _, b9, r9_3, Nat.zero_le _, Nat.zero_le _, rfl, r7_3, x3⟩ fun s X1 V1 hI0 => ?_
  obtain ⟨k, nx, B, ts, gt, cur⟩ := s
  obtain ⟨hk, hI, hlen, lot, rt, hcap, hmax, htake, rg, xx⟩ := hI0
  replace hk : k ≤ N := hk
  replace hI : WInv nx B ts := hI
  replace hlen : ts.length ≤ k := hlen
  replace lot : w.heap.size ≤ gt := lot
  replace rt : V1.heap[gt]? = some (.cells cur 3) := rt
  replace hcap : ts.length ≤ cur.size := hcap
  replace hmax : cur.size ≤ maxLen := hmax
  replace htake : cur.toList.take ts.length = ts.map (Value.int .i64) := htake
  replace rg : V1.heap[g7]? = some (.cells (cat [#[.int .i64 nx], #[.int .u64 ((B : Nat) : Int)]]) 35) := rg
  replace xx : Ext w V1 := xx
  have n_tg : gt ≠ g7 := ne_types rt rg (by decide)
  refine wp_seq_k fun K13 hK13 => ?_
  refine region_lit ?_
  refine seq_val (.bool (decide (((k : Nat) : Int) < ((N : Nat) : Int)))) 20 rfl (by kernel_rfl) (by kernel_rfl) ?_
  refine seq_nil ?_
  refine hK13 _ _ ?_
  try clear hK13 K13
  refine wp_seq_k fun K14 hK14 => ?_
  refine cond_split (t := decide (((k : Nat) : Int) < ((N : Nat) : Int))) (by kernel_rfl) (fun c15 => ?_) (fun c15 => ?_)
  · skip
    have hk2 : k < N := by have := of_decide_eq_true c15; omega
    obtain ⟨sb, so, hA, hsb, hcell⟩ := hc.resolve_left (by omega)
    subst hA
    obtain ⟨m, hm⟩ : ∃ m, nth ns k = m := ⟨_, rfl⟩
    obtain ⟨e, he⟩ : ∃ e, chkT ts m = e := ⟨_, rfl⟩
    obtain ⟨nx2, B2, hI3, hM⟩ := MarkAny (g := g7) hI m e he
    refine wp_skip ?_
    refine hK14 _ _ ?_
    try clear hK14 K14
    refine wp_seq_k fun K16 hK16 => ?_
    refine wp_block ?_
    refine wp_seq_k fun K17 hK17 => ?_
    refine region_lit ?_
    refine seq_val (.pointer (some ⟨sb, so + k, none⟩)) 21 rfl (by kernel_rfl) (run_indexS 28 _ _ .i64 (k) sb so N c 3 rfl (by kernel_rfl) (by kernel_rfl) (by kernel_rfl) (by kernel_rfl) hk2) ?_
    refine seq_val (.int .i64 (m)) 22 rfl (by kernel_rfl) (run_loadCell 3 _ _ (.int .i64 (m)) (((Below.cell xx hsb).trans (hcell k hk2)).trans (congrArg (fun z => some (Value.int .i64 z)) hm)) rfl (by kernel_rfl) (by kernel_rfl)) ?_
    refine seq_val (.int .i64 (m)) 6 rfl (by kernel_rfl) (by kernel_rfl) ?_
    refine seq_nil ?_
    refine hK17 _ _ ?_
    try clear hK17 K17
    refine wp_seq_k fun K18 hK18 => ?_
    refine region_lit ?_
    refine seq_val (.slice (some ⟨gt, 0, none⟩) (ts).length (cur).size) 23 rfl (by kernel_rfl) (by kernel_rfl) ?_
    refine seq_val (.int .i64 (m)) 24 rfl (by kernel_rfl) (by kernel_rfl) ?_
    refine seq_call (.int .i64 (e)) 10 #[.slice (some ⟨gt, 0, none⟩) (ts).length (cur).size, .int .i64 (m)] 25 rfl (by kernel_rfl) (by kernel_rfl) (rchkE gt (cur).size (cur) (ts) htake (by omega) m e hI.hrng he _ rt) fun W5 e5 => ?_
    have x5 : Ext w W5 := Ext.tr xx e5
    refine seq_val (.int .i64 (e)) 7 rfl (by kernel_rfl) (by kernel_rfl) ?_
    refine seq_nil ?_
    refine hK18 _ _ ?_
    try clear hK18 K18
    refine wp_seq_k fun K19 hK19 => ?_
    refine wp_seq_k fun K20 hK20 => ?_
    refine region_lit ?_
    refine seq_val (.pointer (some ⟨g7, 0, none⟩)) 26 rfl (by kernel_rfl) (by kernel_rfl) ?_
    refine seq_val (.int .i64 (m)) 27 rfl (by kernel_rfl) (by kernel_rfl) ?_
    have r7_5 := (row_ext rg e5)
    refine seq_call (errV e) 12 #[.pointer (some ⟨g7, 0, none⟩), .int .i64 (m)] 28 rfl (by kernel_rfl) (by kernel_rfl) (CheckS hI m e he _ r7_5) fun W6 e6 => ?_
    have x6 : Ext w W6 := Ext.tr x5 e6
    refine seq_call (.int .i64 (e)) 11 #[errV e] 29 rfl (by kernel_rfl) (by kernel_rfl) ((NumV e) _) fun W7 e7 => ?_
    have x7 : Ext w W7 := Ext.tr x6 e7
    refine seq_val (.int .i64 (e)) 30 rfl (by kernel_rfl) (by kernel_rfl) ?_
    refine seq_val (.bool false) 31 rfl (by kernel_rfl) (run_eq (u := .bool ((e != e))) (by kernel_rfl) (congrArg Value.bool (bne_self_eq_false _))) ?_
    refine seq_val (.bool false) 32 rfl (by kernel_rfl) (by kernel_rfl) ?_
    refine seq_val (.pointer (some ⟨g7, 0, none⟩)) 33 rfl (by kernel_rfl) (by kernel_rfl) ?_
    refine seq_val (.int .i64 (m)) 34 rfl (by kernel_rfl) (by kernel_rfl) ?_
    have r7_7 := (row_ext (row_ext r7_5 e6) e7)
    refine seq_callR (fun v W' => v = errV e ∧ ExtB g7 W7 W' ∧ W'.heap[g7]? = some (.cells (cat [#[.int .i64 nx2], #[.int .u64 (((B2 : Nat) : Int))]]) 35)) 13 #[.pointer (some ⟨g7, 0, none⟩), .int .i64 (m)] 35 rfl (by kernel_rfl) (by kernel_rfl) ((hM _ r7_7).mono fun e w' ⟨h1, h2, h3⟩ => ⟨_, h1, rfl, h2, h3⟩) fun v W8 h => ?_
    obtain ⟨rfl, q8, r7_8⟩ := h
    have x8 : Ext w W8 := ExtB.up x7 q8 b7
    refine seq_call (.int .i64 (e)) 11 #[errV e] 36 rfl (by kernel_rfl) (by kernel_rfl) ((NumV e) _) fun W9 e9 => ?_
    have x9 : Ext w W9 := Ext.tr x8 e9
    refine seq_val (.int .i64 (e)) 37 rfl (by kernel_rfl) (by kernel_rfl) ?_
    refine seq_val (.bool false) 38 rfl (by kernel_rfl) (run_eq (u := .bool ((e != e))) (by kernel_rfl) (congrArg Value.bool (bne_self_eq_false _))) ?_
    refine seq_val (.bool false) 39 rfl (by kernel_rfl) (by kernel_rfl) ?_
    refine seq_nil ?_
    refine hK20 _ _ ?_
    try clear hK20 K20
    refine cond_false (by kernel_rfl) ?_
    refine wp_skip ?_
    refine hK19 _ _ ?_
    try clear hK19 K19
    refine wp_seq_k fun K21 hK21 => ?_
    refine wp_seq_k fun K22 hK22 => ?_
    refine region_lit ?_
    refine seq_val (.int .i64 (e)) 40 rfl (by kernel_rfl) (by kernel_rfl) ?_
    refine seq_val (.bool ((e == 0))) 41 rfl (by kernel_rfl) (by kernel_rfl) ?_
    refine seq_nil ?_
    refine hK22 _ _ ?_
    try clear hK22 K22
    refine cond_split (t := (e == 0)) (by kernel_rfl) (fun c23 => ?_) (fun c23 => ?_)
    · skip
      have h0 : e = 0 := by simpa using c23
      rw [if_pos h0] at hI3
      refine region_lit ?_
      refine seq_val (.slice (some ⟨gt, 0, none⟩) (ts).length (cur).size) 42 rfl (by kernel_rfl) (by kernel_rfl) ?_
      refine seq_val (.int .i64 (m)) 43 rfl (by kernel_rfl) (by kernel_rfl) ?_
      refine seq_makeS (ints .i64 ([(m)])) 3 1 44 rfl (by kernel_rfl) (by kernel_rfl) fun g24 W10 l24 e10 r24_10 => ?_
      have x10 : Ext w W10 := Ext.tr x9 e10
      have b24 : w.heap.size ≤ g24 := Nat.le_trans x9.size l24
      have r12_10 := (row_ext (row_ext (ExtB.row q8 (row_ext (row_ext (row_ext rt e5) e6) e7) n_tg) e9) e10)
      refine seq_append (.tmp 42) (.tmp 44) 28 rfl (by kernel_rfl) w.heap.size gt g24 cur (ts) m 45 rfl (by kernel_rfl) (by kernel_rfl) (by kernel_rfl) lot r12_10 hcap hmax htake (by omega) r24_10 x10.size fun gt2 cur2 W11 lot2 r25_11 hcap2 hmax2 htake2 q11 => ?_
      have x11 : Ext w W11 := ExtB.up x10 q11 lot
      refine seq_val (.slice (some ⟨gt2, 0, none⟩) (ts ++ [m]).length (cur2).size) 4 rfl (by kernel_rfl) (by kernel_rfl) ?_
      refine seq_nil ?_
      refine hK21 _ _ ?_
      try clear hK21 K21
      refine wp_seq_k fun K26 hK26 => ?_
      refine region_lit ?_
      refine seq_val (.pointer (some ⟨g7, 0, none⟩)) 46 rfl (by kernel_rfl) (by kernel_rfl) ?_
      have r7_11 := (ExtB.row q11 (row_ext (row_ext r7_8 e9) e10) (Ne.symm n_tg))
      refine seq_call (.int .i64 (nx2 - 1)) 14 #[.pointer (some ⟨g7, 0, none⟩)] 47 rfl (by kernel_rfl) (by kernel_rfl) (HighestC g7 nx2 B2 hI3.hnx hI3.hB _ r7_11) fun W12 e12 => ?_
      have x12 : Ext w W12 := Ext.tr x11 e12
      refine seq_val (.slice (some ⟨gt2, 0, none⟩) (ts ++ [m]).length (cur2).size) 48 rfl (by kernel_rfl) (by kernel_rfl) ?_
      have r25_12 := (row_ext r25_11 e12)
      refine seq_call (.int .i64 (hiT (ts ++ [m]))) 15 #[.slice (some ⟨gt2, 0, none⟩) (ts ++ [m]).length (cur2).size] 49 rfl (by kernel_rfl) (by kernel_rfl) (rhighC gt2 (cur2).size (cur2) (ts ++ [m]) htake2 (by simp; omega) _ r25_12) fun W13 e13 => ?_
      have x13 : Ext w W13 := Ext.tr x12 e13
      refine seq_val (.bool false) 50 rfl (by kernel_rfl) (run_eq (u := .bool (((nx2 - 1) != (hiT (ts ++ [m]))))) (by kernel_rfl) (congrArg Value.bool (by rw [hI3.hhi]; exact bne_self_eq_false _))) ?_
      refine seq_nil ?_
      refine hK26 _ _ ?_
      try clear hK26 K26
      refine cond_false (by kernel_rfl) ?_
      refine wp_skip ?_
      refine hK16 _ _ ?_
      try clear hK16 K16
      refine region_lit ?_
      refine seq_val (.int .i64 (((k + 1 : Nat) : Int))) 51 rfl (by kernel_rfl) (run_eq (u := .int .i64 (IntKind.i64.wrap (((k : Nat) : Int) + 1))) (by kernel_rfl) (congrArg (Value.int .i64) (i64_add1 k (by omega)))) ?_
      refine seq_val (.int .i64 (((k + 1 : Nat) : Int))) 19 rfl (by kernel_rfl) (by kernel_rfl) ?_
      refine seq_nil ?_
      have r25_13 := (row_ext r25_12 e13)
      have r7_13 := (row_ext (row_ext r7_11 e12) e13)
      repeat (first | with_reducible refine goX1 ?_ | with_reducible refine goX2 ?_ | with_reducible refine goX3 ?_)
      exact goes_then (k + 1, nx2, B2, ts ++ [m], gt2, cur2) ⟨rfl, rfl, rfl, rfl, rfl, trivial⟩ ⟨(by show k + 1 ≤ N; omega), hI3, (by simp; omega), lot2, r25_13, hcap2, hmax2, htake2, r7_13, x13⟩ (by show N - (k + 1) < N - k; omega)
    · skip
      have h0 : e ≠ 0 := by simpa using c23
      rw [if_neg h0] at hI3
      refine wp_skip ?_
      refine hK21 _ _ ?_
      try clear hK21 K21
      refine wp_seq_k fun K27 hK27 => ?_
      refine region_lit ?_
      refine seq_val (.pointer (some ⟨g7, 0, none⟩)) 46 rfl (by kernel_rfl) (by kernel_rfl) ?_
      have r7_9 := (row_ext r7_8 e9)
      refine seq_call (.int .i64 (nx2 - 1)) 14 #[.pointer (some ⟨g7, 0, none⟩)] 47 rfl (by kernel_rfl) (by kernel_rfl) (HighestC g7 nx2 B2 hI3.hnx hI3.hB _ r7_9) fun W10 e10 => ?_
      have x10 : Ext w W10 := Ext.tr x9 e10
      refine seq_val (.slice (some ⟨gt, 0, none⟩) (ts).length (cur).size) 48 rfl (by kernel_rfl) (by kernel_rfl) ?_
      have r12_10 := (row_ext (row_ext (ExtB.row q8 (row_ext (row_ext (row_ext rt e5) e6) e7) n_tg) e9) e10)
      refine seq_call (.int .i64 (hiT (ts))) 15 #[.slice (some ⟨gt, 0, none⟩) (ts).length (cur).size] 49 rfl (by kernel_rfl) (by kernel_rfl) (rhighC gt (cur).size (cur) (ts) htake (by omega) _ r12_10) fun W11 e11 => ?_
      have x11 : Ext w W11 := Ext.tr x10 e11
      refine seq_val (.bool false) 50 rfl (by kernel_rfl) (run_eq (u := .bool (((nx2 - 1) != (hiT (ts))))) (by kernel_rfl) (congrArg Value.bool (by rw [hI3.hhi]; exact bne_self_eq_false _))) ?_
      refine seq_nil ?_
      refine hK27 _ _ ?_
      try clear hK27 K27
      refine cond_false (by kernel_rfl) ?_
      refine wp_skip ?_
      refine hK16 _ _ ?_
      try clear hK16 K16
      refine region_lit ?_
      refine seq_val (.int .i64 (((k + 1 : Nat) : Int))) 51 rfl (by kernel_rfl) (run_eq (u := .int .i64 (IntKind.i64.wrap (((k : Nat) : Int) + 1))) (by kernel_rfl) (congrArg (Value.int .i64) (i64_add1 k (by omega)))) ?_
      refine seq_val (.int .i64 (((k + 1 : Nat) : Int))) 19 rfl (by kernel_rfl) (by kernel_rfl) ?_
      refine seq_nil ?_
      have r12_11 := (row_ext r12_10 e11)
      have r7_11 := (row_ext (row_ext r7_9 e10) e11)
      repeat (first | with_reducible refine goX1 ?_ | with_reducible refine goX2 ?_ | with_reducible refine goX3 ?_)
      exact goes_then (k + 1, nx2, B2, ts, gt, cur) ⟨rfl, rfl, rfl, rfl, rfl, trivial⟩ ⟨(by show k + 1 ≤ N; omega), hI3, (by show ts.length ≤ k + 1; omega), lot, r12_11, hcap, hmax, htake, r7_11, x11⟩ (by show N - (k + 1) < N - k; omega)
  · skip
    refine wp_exit ?_
    refine hK10 _ _ ?_
    try clear hK10 K10
    refine wp_seq_k fun K28 hK28 => ?_
    refine region_lit ?_
    refine seq_val (.pointer none) 8 rfl (by kernel_rfl) (by kernel_rfl) ?_
    refine seq_nil ?_
    refine hK28 _ _ ?_
    try clear hK28 K28
    refine wp_seq_k fun K29 hK29 => ?_
    refine region_lit ?_
    refine seq_val (.pointer none) 52 rfl (by kernel_rfl) (by kernel_rfl) ?_
    refine seq_call (.iface 44 (.int .i64 8)) 12 #[.pointer none, .int .i64 0] 53 rfl (by kernel_rfl) (by kernel_rfl) ((CheckN 0) _) fun W5 e5 => ?_
    have x5 : Ext w W5 := Ext.tr xx e5
    refine seq_call (.bool true) 16 #[.iface 44 (.int .i64 8), .int .i64 8] 54 rfl (by kernel_rfl) (by kernel_rfl) ((IsT 8 (.iface 44 (.int .i64 8)) rfl) _) fun W6 e6 => ?_
    have x6 : Ext w W6 := Ext.tr x5 e6
    refine seq_val (.bool true) 55 rfl (by kernel_rfl) (by kernel_rfl) ?_
    refine seq_val (.pointer none) 56 rfl (by kernel_rfl) (by kernel_rfl) ?_
    refine seq_call (.iface 44 (.int .i64 8)) 13 #[.pointer none, .int .i64 0] 57 rfl (by kernel_rfl) (by kernel_rfl) ((MarkN 0) _) fun W7 e7 => ?_
    have x7 : Ext w W7 := Ext.tr x6 e7
    refine seq_call (.bool true) 16 #[.iface 44 (.int .i64 8), .int .i64 8] 58 rfl (by kernel_rfl) (by kernel_rfl) ((IsT 8 (.iface 44 (.int .i64 8)) rfl) _) fun W8 e8 => ?_
    have x8 : Ext w W8 := Ext.tr x7 e8
    refine seq_val (.bool true) 59 rfl (by kernel_rfl) (by kernel_rfl) ?_
    refine seq_val (.bool true) 60 rfl (by kernel_rfl) (by kernel_rfl) ?_
    refine seq_val (.pointer none) 61 rfl (by kernel_rfl) (by kernel_rfl) ?_
    refine seq_call (.int .i64 (-1)) 14 #[.pointer none] 62 rfl (by kernel_rfl) (by kernel_rfl) (HighestN _) fun W9 e9 => ?_
    have x9 : Ext w W9 := Ext.tr x8 e9
    refine seq_val (.bool true) 63 rfl (by kernel_rfl) (by kernel_rfl) ?_
    refine seq_val (.bool true) 64 rfl (by kernel_rfl) (by kernel_rfl) ?_
    refine seq_val (.bool true) 2 rfl (by kernel_rfl) (by kernel_rfl) ?_
    refine seq_nil ?_
    refine hK29 _ _ ?_
    try clear hK29 K29
    refine wp_ret ?_
    repeat (first | with_reducible refine goR1 ?_ | with_reducible refine goR2 ?_)
    exact (show bodyPost _ _ _ .ret _ _ from ret1 (.bool true) rfl (res_tmp (by kernel_rfl)) ⟨rfl, x9⟩)
theorem cells_of_row {k : IntKind} {w : World} {a : Option Addr} {len cap : Nat} {zs : List Int} (h : IsRow k w a len cap zs) : len = 0 ∨ ∃ sb so, a = some ⟨sb, so, none⟩ ∧ sb < w.heap.size ∧ ∀ i, i < len → w.cell? ⟨sb, so + i, none⟩ = some (.int k (nth zs i)) := by
  rcases h with ⟨rfl, rfl, rfl, rfl⟩ | ⟨x, rfl, hl, hm, hz, hc, hw⟩
  · exact .inl rfl
  · rcases Nat.eq_zero_or_pos len with h0 | h0
    · exact .inl h0
    · obtain ⟨b, off, spot⟩ := x
      have hc0 := hc 0 (by omega)
      have hspot : spot = none := by simpa [Addr.add] using World.cell?_spot hc0
      subst hspot
      have hc' : ∀ i, i < zs.length → w.cell? ⟨b, off + i, none⟩ = some (.int k (zs.getD i 0)) := fun i hi => by
        have := hc i hi; rwa [WideShapes.add_plain] at this
      refine .inr ⟨b, off, rfl, lt_of_cell (hc' 0 (by omega)), fun i hi => ?_⟩
      rw [hc' i (by omega)]
      rfl
theorem lawW {A : Option Addr} {N c : Nat} {ns : List Int} {w : World} (h : IsRow .i64 w A N c ns) : Calls Try.prog 4 #[.slice A N c] w (Ret w (.bool true)) := by
  by_cases hN : 300 < N
  · exact lawW_big A N c hN w
  · exact lawW_ok A N c ns (by omega) w (cells_of_row h)

end Go.Proofs.Ytfkldohjeepbkaa.Lk
