/- ChaCha20: Pieces and its iterators. -/
import Derived.Test.YtjldjdlhllgakaaDoorChQ
import Derived.Test.YtjldjdlhllgakaaDoorRestB
import Derived.Test.YtjldjdlhllgakaaDoorAutoJ
namespace Go.Proofs.YtjldjdlhllgakaaDoor.Cha
open Go Go.RowKit
open Go.Proofs.YtjldjdlhllgakaaDoor.Rely Go.Proofs.YtjldjdlhllgakaaDoor.Auto Go.Proofs.YtjldjdlhllgakaaDoor.Own Go.Proofs.YtjldjdlhllgakaaDoor.Sha
set_option linter.unusedVariables false
set_option linter.unusedSimpArgs false

open Go.Proofs.YtjldjdlhllgakaaDoor.Sha
set_option maxRecDepth 100000 in
set_option maxHeartbeats 4000000 in
theorem pieces_stops (m : Nat) (gs : List Nat) (g1 g2 : Nat) (ws : List Wd) (number : Int) (r : Nat) (tq : TypeId) (w : World) (hr : number + (r : Int) = 4294967296) (h1 : 0 ≤ number) (h2 : number ≤ 4294967295) (hw : ws.length = 16)
    (hqw : w.heap[1]? = some (.cells (ints .i64 [0, 4, 8, 12, 1, 5, 9, 13, 2, 6, 10, 14, 3, 7, 11, 15, 0, 5, 10, 15, 1, 6, 11, 12, 2, 7, 8, 13, 3, 4, 9, 14]) tq)) (r1w : w.heap[g1]? = some (.cells #[.int .i64 number] 3)) (r2w : w.heap[g2]? = some (.cells (ints .u32 (ws.map wv)) 88)) (n1 : g1 ∉ gs) (n2 : g2 ∉ gs) (nq : 1 ∉ gs) :
    SeqStopsK Fence.wide m Tryd.prog 51 #[.pointer (some ⟨g1, 0, none⟩), .pointer (some ⟨g2, 0, none⟩)] (fun i : Nat => #[Value.int .i64 (number + ((i : Nat) : Int)), Value.agg (ints .u8 (pieceV ws (number + ((i : Nat) : Int))))]) (KeepC gs) (fun ys => ys = List.range r) (fun ys => ∃ k, ys = List.range k ∧ k ≤ r) r w := fun l J Jx Wi hW hJ hJx hY h0 => by
  refine callsIn_wide.2 ?_
  have hqi := row_ext hqw hW
  have r1 := row_ext r1w hW
  have r2 := row_ext r2w hW
  refine enter 17 [(0, .func (.yield l) #[] #[]), (1, .pointer (some ⟨g1, 0, none⟩)), (2, .pointer (some ⟨g2, 0, none⟩))] Tryd.func51 rfl rfl kj rfl ?_
  refine wp_seq_k fun K4 hK4 => ?_
  refine region_lit ?_
  refine seq_val (.int .i64 number) 5 rfl kj (run_loadC1 3 _ g1 0 3 _ (.int .i64 number) _ r1 rfl kj kj kj) ?_
  refine seq_val (.int .i64 number) 4 rfl kj kj ?_
  refine seq_nil ?_
  refine hK4 _ _ ?_
  try clear hK4 K4
  refine wp_block ?_
  refine loop_auto (fun (s1 : Nat) => [(0, .func (.yield l) #[] #[]), (1, .pointer (some ⟨g1, 0, none⟩)), (2, .pointer (some ⟨g2, 0, none⟩)), (4, .int .i64 (number + ((s1 : Nat) : Int)))]) (fun (s1 : Nat) W => (s1 ≤ r) ∧ (J (List.range s1) W) ∧ (W.heap[g1]? = some (.cells #[.int .i64 number] 3)) ∧ (W.heap[g2]? = some (.cells (ints .u32 (ws.map wv)) 88)) ∧ (W.heap[1]? = some (.cells (ints .i64 [0, 4, 8, 12, 1, 5, 9, 13, 2, 6, 10, 14, 3, 7, 11, 15, 0, 5, 10, 15, 1, 6, 11, 12, 2, 7, 8, 13, 3, 4, 9, 14]) tq)) ∧ (Grew Wi W)) (fun (s1 : Nat) => r - s1) 0 ⟨rfl, rfl, rfl, (congrArg (Value.int .i64) (show number = number + ((0 : Nat) : Int) by omega)), trivial⟩ ⟨(Nat.zero_le _), (show J (List.range 0) _ from h0), r1, r2, hqi, (Grew.refl Wi)⟩ fun s1 X1 V1 hI1 => ?_
  obtain ⟨k, hs1⟩ : ∃ z, z = s1 := ⟨_, rfl⟩
  subst hs1
  obtain ⟨hkl_, hJ1, rr1, rr2, rrq, xx1⟩ := hI1
  replace hkl_ : k ≤ r := hkl_
  replace hJ1 : J (List.range k) V1 := hJ1
  replace rr1 : V1.heap[g1]? = some (.cells #[.int .i64 number] 3) := rr1
  replace rr2 : V1.heap[g2]? = some (.cells (ints .u32 (ws.map wv)) 88) := rr2
  replace rrq : V1.heap[1]? = some (.cells (ints .i64 [0, 4, 8, 12, 1, 5, 9, 13, 2, 6, 10, 14, 3, 7, 11, 15, 0, 5, 10, 15, 1, 6, 11, 12, 2, 7, 8, 13, 3, 4, 9, 14]) tq) := rrq
  replace xx1 : Grew Wi V1 := xx1
  refine wp_seq_k fun K5 hK5 => ?_
  refine wp_seq_k fun K6 hK6 => ?_
  refine region_lit ?_
  refine seq_val (.int .i64 (number + ((k : Nat) : Int))) 6 rfl kj kj ?_
  refine seq_val (.bool (decide ((number + ((k : Nat) : Int)) ≤ 4294967295))) 7 rfl kj kj ?_
  refine seq_nil ?_
  refine hK6 _ _ ?_
  try clear hK6 K6
  refine cond_split (t := decide ((number + ((k : Nat) : Int)) ≤ 4294967295)) kj (fun c7 => ?_) (fun c7 => ?_)
  · skip
    have hlt : k < r := by have := of_decide_eq_true c7; omega
    refine wp_skip ?_
    refine hK5 _ _ ?_
    try clear hK5 K5
    refine wp_seq_k fun K8 hK8 => ?_
    refine wp_block ?_
    refine wp_seq_k fun K9 hK9 => ?_
    refine (wpIn_wide (n := m)).1 ?_
    refine region_litIn ?_
    refine in_val (.func (.yield l) #[] #[]) 10 rfl (free_wide0 _ _) rfl kj kj ?_
    refine in_val (.int .i64 (number + ((k : Nat) : Int))) 11 rfl (free_wide0 _ _) rfl kj kj ?_
    refine in_val (.agg (ints .u32 (ws.map wv))) 12 rfl (free_wide0 _ _) rfl kj (run_load_row 88 _ g2 88 _ _ rr2 rfl kj kj (isz (n := 16) kj ((ints_size _ _).trans (wv_len hw)))) ?_
    refine in_val (.int .i64 (number + ((k : Nat) : Int))) 13 rfl (free_wide0 _ _) rfl kj kj ?_
    refine in_call (.agg (ints .u8 (pieceV ws (number + ((k : Nat) : Int))))) 52 #[.agg (ints .u32 (ws.map wv)), .int .i64 (number + ((k : Nat) : Int))] 14 rfl (free_wide0 _ _) rfl kj kj ((pieceC ws (number + ((k : Nat) : Int)) tq _ rrq hw)) fun W2 e2 => ?_
    have x2 : Grew Wi W2 := Grew.ext xx1 e2
    have y1_2 : Ext V1 W2 := (Rely.Ext.trans (Rely.Ext.refl V1) e2)
    have f11_2 := abides_ext hJ hJ1 y1_2
    refine in_yield (m := m) (l := l) (args := #[.int .i64 (number + ((k : Nat) : Int)), .agg (ints .u8 (pieceV ws (number + ((k : Nat) : Int))))]) 15 rfl rfl kj kj (hY (List.range k) k W2 f11_2 (by rw [List.length_range]; omega)) (fun W' hA => ?_) (fun W' hA => ?_)
    · skip
      obtain ⟨W3, hW3⟩ : ∃ z, z = W' := ⟨_, rfl⟩
      rw [← hW3] at hA ⊢
      obtain ⟨hj10, hk10⟩ := hA
      have x3 : Grew Wi W3 := Grew.keepC x2 hk10
      refine in_val (.bool false) 16 rfl (free_wide0 _ _) rfl kj kj ?_
      refine in_nil ?_
      refine hK9 _ _ ?_
      try clear hK9 K9
      refine cond_false kj ?_
      refine wp_skip ?_
      refine hK8 _ _ ?_
      try clear hK8 K8
      refine region_lit ?_
      refine seq_val (.int .i64 (number + ((k : Nat) : Int))) 8 rfl kj kj ?_
      refine seq_val (.int .i64 (number + ((k + 1 : Nat) : Int))) 9 rfl kj (run_eq (u := .int .i64 (IntKind.i64.wrap ((number + ((k : Nat) : Int)) + 1))) kj (congrArg (Value.int .i64) (by rw [show number + ((k : Nat) : Int) + 1 = number + ((k + 1 : Nat) : Int) by omega]; exact IntWalk.i64_in _ (by omega)))) ?_
      refine seq_val (.int .i64 (number + ((k + 1 : Nat) : Int))) 4 rfl kj kj ?_
      refine seq_nil ?_
      have r2_2 := (row_ext rr1 e2)
      have r2_3 := (KeepC.row hk10 r2_2 n1)
      have r3_2 := (row_ext rr2 e2)
      have r3_3 := (KeepC.row hk10 r3_2 n2)
      have r1_2 := (row_ext rrq e2)
      have r1_3 := (KeepC.row hk10 r1_2 nq)
      repeat (first | with_reducible refine goX1 ?_ | with_reducible refine goX2 ?_ | with_reducible refine goX3 ?_)
      exact goes_then (k + 1) ⟨rfl, rfl, rfl, rfl, trivial⟩ ⟨(by omega), (by rw [List.range_succ]; exact hj10), r2_3, r3_3, r1_3, x3⟩ (by show r - (k + 1) < r - k; omega)
    · skip
      obtain ⟨W3, hW3⟩ : ∃ z, z = W' := ⟨_, rfl⟩
      rw [← hW3] at hA ⊢
      refine in_val (.bool true) 16 rfl (free_wide0 _ _) rfl kj kj ?_
      refine in_nil ?_
      refine hK9 _ _ ?_
      try clear hK9 K9
      refine cond_true kj ?_
      refine wp_ret ?_
      repeat (first | with_reducible refine goR1 ?_ | with_reducible refine goR2 ?_)
      exact (show bodyPost _ _ _ .ret _ _ from ret0 rfl ⟨⟨_, rfl⟩, .inr ⟨_, ⟨k + 1, List.range_succ.symm, hlt⟩, hA⟩⟩)
  · skip
    have hke : k = r := by have := of_decide_eq_false c7; omega
    refine wp_exit ?_
    repeat (first | with_reducible refine goX1 ?_ | with_reducible refine goX2 ?_ | with_reducible refine goX3 ?_)
    exact (show bodyPost _ _ _ .normal _ _ from end0 rfl ⟨⟨_, rfl⟩, .inl ⟨_, congrArg List.range hke, hJ1⟩⟩)
set_option maxHeartbeats 4000000 in
theorem nopieces_stops (m : Nat) (gs : List Nat) (ws : List Wd) (number : Int) (w : World) :
    SeqStopsK Fence.wide m Tryd.prog 49 #[] (fun i : Nat => #[Value.int .i64 (number + ((i : Nat) : Int)), Value.agg (ints .u8 (pieceV ws (number + ((i : Nat) : Int))))]) (KeepC gs) (fun ys => ys = []) (fun ys => False) 0 w := fun l J Jx Wi hW hJ hJx hY h0 => by
  refine callsIn_wide.2 ?_
  refine enter 2 [(0, .func (.yield l) #[] #[])] Tryd.func49 rfl rfl kj rfl ?_
  refine wp_skip ?_
  repeat (first | with_reducible refine goX1 ?_ | with_reducible refine goX2 ?_ | with_reducible refine goX3 ?_)
  exact (show bodyPost _ _ _ .normal _ _ from end0 rfl ⟨⟨_, rfl⟩, .inl ⟨_, rfl, h0⟩⟩)
set_option maxRecDepth 100000 in
set_option maxHeartbeats 4000000 in
theorem pieces_A (key nonce : List Int) (v : Value) (B : Nat) (number : Int) (th tq : TypeId) (w : World) (hh : w.heap[0]? = some (.cells (ints .u32 [1634760805, 857760878, 2036477234, 1797285236]) th)) (hq : w.heap[1]? = some (.cells (ints .i64 [0, 4, 8, 12, 1, 5, 9, 13, 2, 6, 10, 14, 3, 7, 11, 15, 0, 5, 10, 15, 1, 6, 11, 12, 2, 7, 8, 13, 3, 4, 9, 14]) tq)) (hkl : key.length = 32) (hn : RdK .u8 B nonce v w) (h : nonce.length ≠ 12) : Calls Tryd.prog 42 #[.agg (ints .u8 key), v, .int .i64 number] w (Ret w (.func (.func 49) #[] #[])) := by
  obtain ⟨a_n, c_n, rfl, -⟩ := id hn
  refine enter 16 [(0, .agg (ints .u8 (key))), (1, .slice a_n nonce.length c_n), (2, .int .i64 number)] Tryd.func42 rfl rfl kj rfl ?_
  refine wp_seq_k fun K3 hK3 => ?_
  refine region_lit ?_
  refine seq_alloc (ints .u8 (key)) 23 3 rfl kj kj fun g4 W1 l4 e1 r4_1 => ?_
  have x1 : Ext w W1 := Ext.tr (Rely.Ext.refl w) e1
  have b4 : w.heap.size ≤ g4 := Nat.le_trans (Rely.Ext.refl w).size l4
  refine seq_alloc (#[.int .i64 number]) 3 5 rfl kj kj fun g5 W2 l5 e2 r5_2 => ?_
  have x2 : Ext w W2 := Ext.tr x1 e2
  have b5 : w.heap.size ≤ g5 := Nat.le_trans x1.size l5
  refine seq_val (.nilFunc) 6 rfl kj kj ?_
  refine seq_nil ?_
  refine hK3 _ _ ?_
  try clear hK3 K3
  refine wp_seq_k fun K6 hK6 => ?_
  refine wp_seq_k fun K7 hK7 => ?_
  refine region_lit ?_
  refine seq_val (.slice a_n nonce.length c_n) 8 rfl kj kj ?_
  refine seq_val (.int .i64 number) 9 rfl kj (run_loadC1 3 _ g5 0 3 _ (.int .i64 number) _ r5_2 rfl kj kj kj) ?_
  refine seq_call (.iface 45 (.int .i64 1)) 41 #[.slice a_n nonce.length c_n, .int .i64 number] 10 rfl kj kj ((check_A nonce _ _ number _ (RdK.ext hn x2) h)) fun W3 e3 => ?_
  have x3 : Ext w W3 := Ext.tr x2 e3
  refine seq_val (.bool true) 11 rfl kj kj ?_
  refine seq_nil ?_
  refine hK7 _ _ ?_
  try clear hK7 K7
  refine cond_true kj ?_
  refine wp_seq_k fun K8 hK8 => ?_
  refine region_lit ?_
  refine seq_val (.func (.func 49) #[] #[]) 6 rfl kj kj ?_
  refine seq_nil ?_
  refine hK8 _ _ ?_
  try clear hK8 K8
  refine wp_ret ?_
  repeat (first | with_reducible refine goR1 ?_ | with_reducible refine goR2 ?_)
  exact (show bodyPost _ _ _ .ret _ _ from ret1 (.func (.func 49) #[] #[]) rfl (res_tmp kj) ⟨rfl, x3⟩)
set_option maxRecDepth 100000 in
set_option maxHeartbeats 4000000 in
theorem pieces_B (key nonce : List Int) (v : Value) (B : Nat) (number : Int) (th tq : TypeId) (w : World) (hh : w.heap[0]? = some (.cells (ints .u32 [1634760805, 857760878, 2036477234, 1797285236]) th)) (hq : w.heap[1]? = some (.cells (ints .i64 [0, 4, 8, 12, 1, 5, 9, 13, 2, 6, 10, 14, 3, 7, 11, 15, 0, 5, 10, 15, 1, 6, 11, 12, 2, 7, 8, 13, 3, 4, 9, 14]) tq)) (hkl : key.length = 32) (hn : RdK .u8 B nonce v w) (h : nonce.length = 12) (h1 : number < 0) : Calls Tryd.prog 42 #[.agg (ints .u8 key), v, .int .i64 number] w (Ret w (.func (.func 49) #[] #[])) := by
  obtain ⟨a_n, c_n, rfl, -⟩ := id hn
  refine enter 16 [(0, .agg (ints .u8 (key))), (1, .slice a_n nonce.length c_n), (2, .int .i64 number)] Tryd.func42 rfl rfl kj rfl ?_
  refine wp_seq_k fun K3 hK3 => ?_
  refine region_lit ?_
  refine seq_alloc (ints .u8 (key)) 23 3 rfl kj kj fun g4 W1 l4 e1 r4_1 => ?_
  have x1 : Ext w W1 := Ext.tr (Rely.Ext.refl w) e1
  have b4 : w.heap.size ≤ g4 := Nat.le_trans (Rely.Ext.refl w).size l4
  refine seq_alloc (#[.int .i64 number]) 3 5 rfl kj kj fun g5 W2 l5 e2 r5_2 => ?_
  have x2 : Ext w W2 := Ext.tr x1 e2
  have b5 : w.heap.size ≤ g5 := Nat.le_trans x1.size l5
  refine seq_val (.nilFunc) 6 rfl kj kj ?_
  refine seq_nil ?_
  refine hK3 _ _ ?_
  try clear hK3 K3
  refine wp_seq_k fun K6 hK6 => ?_
  refine wp_seq_k fun K7 hK7 => ?_
  refine region_lit ?_
  refine seq_val (.slice a_n nonce.length c_n) 8 rfl kj kj ?_
  refine seq_val (.int .i64 number) 9 rfl kj (run_loadC1 3 _ g5 0 3 _ (.int .i64 number) _ r5_2 rfl kj kj kj) ?_
  refine seq_call (.iface 45 (.int .i64 8)) 41 #[.slice a_n nonce.length c_n, .int .i64 number] 10 rfl kj kj ((check_B nonce _ _ number _ (RdK.ext hn x2) h h1)) fun W3 e3 => ?_
  have x3 : Ext w W3 := Ext.tr x2 e3
  refine seq_val (.bool true) 11 rfl kj kj ?_
  refine seq_nil ?_
  refine hK7 _ _ ?_
  try clear hK7 K7
  refine cond_true kj ?_
  refine wp_seq_k fun K8 hK8 => ?_
  refine region_lit ?_
  refine seq_val (.func (.func 49) #[] #[]) 6 rfl kj kj ?_
  refine seq_nil ?_
  refine hK8 _ _ ?_
  try clear hK8 K8
  refine wp_ret ?_
  repeat (first | with_reducible refine goR1 ?_ | with_reducible refine goR2 ?_)
  exact (show bodyPost _ _ _ .ret _ _ from ret1 (.func (.func 49) #[] #[]) rfl (res_tmp kj) ⟨rfl, x3⟩)
set_option maxRecDepth 100000 in
set_option maxHeartbeats 4000000 in
theorem pieces_C (key nonce : List Int) (v : Value) (B : Nat) (number : Int) (th tq : TypeId) (w : World) (hh : w.heap[0]? = some (.cells (ints .u32 [1634760805, 857760878, 2036477234, 1797285236]) th)) (hq : w.heap[1]? = some (.cells (ints .i64 [0, 4, 8, 12, 1, 5, 9, 13, 2, 6, 10, 14, 3, 7, 11, 15, 0, 5, 10, 15, 1, 6, 11, 12, 2, 7, 8, 13, 3, 4, 9, 14]) tq)) (hkl : key.length = 32) (hn : RdK .u8 B nonce v w) (h : nonce.length = 12) (h1 : 0 ≤ number) (h2 : 4294967295 < number) : Calls Tryd.prog 42 #[.agg (ints .u8 key), v, .int .i64 number] w (Ret w (.func (.func 49) #[] #[])) := by
  obtain ⟨a_n, c_n, rfl, -⟩ := id hn
  refine enter 16 [(0, .agg (ints .u8 (key))), (1, .slice a_n nonce.length c_n), (2, .int .i64 number)] Tryd.func42 rfl rfl kj rfl ?_
  refine wp_seq_k fun K3 hK3 => ?_
  refine region_lit ?_
  refine seq_alloc (ints .u8 (key)) 23 3 rfl kj kj fun g4 W1 l4 e1 r4_1 => ?_
  have x1 : Ext w W1 := Ext.tr (Rely.Ext.refl w) e1
  have b4 : w.heap.size ≤ g4 := Nat.le_trans (Rely.Ext.refl w).size l4
  refine seq_alloc (#[.int .i64 number]) 3 5 rfl kj kj fun g5 W2 l5 e2 r5_2 => ?_
  have x2 : Ext w W2 := Ext.tr x1 e2
  have b5 : w.heap.size ≤ g5 := Nat.le_trans x1.size l5
  refine seq_val (.nilFunc) 6 rfl kj kj ?_
  refine seq_nil ?_
  refine hK3 _ _ ?_
  try clear hK3 K3
  refine wp_seq_k fun K6 hK6 => ?_
  refine wp_seq_k fun K7 hK7 => ?_
  refine region_lit ?_
  refine seq_val (.slice a_n nonce.length c_n) 8 rfl kj kj ?_
  refine seq_val (.int .i64 number) 9 rfl kj (run_loadC1 3 _ g5 0 3 _ (.int .i64 number) _ r5_2 rfl kj kj kj) ?_
  refine seq_call (.iface 45 (.int .i64 8)) 41 #[.slice a_n nonce.length c_n, .int .i64 number] 10 rfl kj kj ((check_C nonce _ _ number _ (RdK.ext hn x2) h h1 h2)) fun W3 e3 => ?_
  have x3 : Ext w W3 := Ext.tr x2 e3
  refine seq_val (.bool true) 11 rfl kj kj ?_
  refine seq_nil ?_
  refine hK7 _ _ ?_
  try clear hK7 K7
  refine cond_true kj ?_
  refine wp_seq_k fun K8 hK8 => ?_
  refine region_lit ?_
  refine seq_val (.func (.func 49) #[] #[]) 6 rfl kj kj ?_
  refine seq_nil ?_
  refine hK8 _ _ ?_
  try clear hK8 K8
  refine wp_ret ?_
  repeat (first | with_reducible refine goR1 ?_ | with_reducible refine goR2 ?_)
  exact (show bodyPost _ _ _ .ret _ _ from ret1 (.func (.func 49) #[] #[]) rfl (res_tmp kj) ⟨rfl, x3⟩)
set_option maxRecDepth 100000 in
set_option maxHeartbeats 4000000 in
theorem pieces_D (key nonce : List Int) (v : Value) (B : Nat) (number : Int) (th tq : TypeId) (w : World) (hh : w.heap[0]? = some (.cells (ints .u32 [1634760805, 857760878, 2036477234, 1797285236]) th)) (hq : w.heap[1]? = some (.cells (ints .i64 [0, 4, 8, 12, 1, 5, 9, 13, 2, 6, 10, 14, 3, 7, 11, 15, 0, 5, 10, 15, 1, 6, 11, 12, 2, 7, 8, 13, 3, 4, 9, 14]) tq)) (hkl : key.length = 32) (hn : RdK .u8 B nonce v w) (h : nonce.length = 12) (h1 : 0 ≤ number) (h2 : number ≤ 4294967295) : Calls Tryd.prog 42 #[.agg (ints .u8 key), v, .int .i64 number] w (Gives w (fun v W => ∃ g1 g2, v = .func (.func 51) #[] #[.pointer (some ⟨g1, 0, none⟩), .pointer (some ⟨g2, 0, none⟩)] ∧ w.heap.size ≤ g1 ∧ w.heap.size ≤ g2 ∧ W.heap[g1]? = some (.cells #[.int .i64 number] 3) ∧ W.heap[g2]? = some (.cells (ints .u32 ((startW key nonce).map wv)) 88))) := by
  obtain ⟨a_n, c_n, rfl, -⟩ := id hn
  refine enter 16 [(0, .agg (ints .u8 (key))), (1, .slice a_n nonce.length c_n), (2, .int .i64 number)] Tryd.func42 rfl rfl kj rfl ?_
  refine wp_seq_k fun K3 hK3 => ?_
  refine region_lit ?_
  refine seq_alloc (ints .u8 (key)) 23 3 rfl kj kj fun g4 W1 l4 e1 r4_1 => ?_
  have x1 : Ext w W1 := Ext.tr (Rely.Ext.refl w) e1
  have b4 : w.heap.size ≤ g4 := Nat.le_trans (Rely.Ext.refl w).size l4
  refine seq_alloc (#[.int .i64 number]) 3 5 rfl kj kj fun g5 W2 l5 e2 r5_2 => ?_
  have x2 : Ext w W2 := Ext.tr x1 e2
  have b5 : w.heap.size ≤ g5 := Nat.le_trans x1.size l5
  refine seq_val (.nilFunc) 6 rfl kj kj ?_
  refine seq_nil ?_
  refine hK3 _ _ ?_
  try clear hK3 K3
  refine wp_seq_k fun K6 hK6 => ?_
  refine wp_seq_k fun K7 hK7 => ?_
  refine region_lit ?_
  refine seq_val (.slice a_n nonce.length c_n) 8 rfl kj kj ?_
  refine seq_val (.int .i64 number) 9 rfl kj (run_loadC1 3 _ g5 0 3 _ (.int .i64 number) _ r5_2 rfl kj kj kj) ?_
  refine seq_call (.nilIface) 41 #[.slice a_n nonce.length c_n, .int .i64 number] 10 rfl kj kj ((check_D nonce _ _ number _ (RdK.ext hn x2) h h1 h2)) fun W3 e3 => ?_
  have x3 : Ext w W3 := Ext.tr x2 e3
  refine seq_val (.bool false) 11 rfl kj kj ?_
  refine seq_nil ?_
  refine hK7 _ _ ?_
  try clear hK7 K7
  refine cond_false kj ?_
  refine wp_skip ?_
  refine hK6 _ _ ?_
  try clear hK6 K6
  refine wp_seq_k fun K8 hK8 => ?_
  refine region_lit ?_
  have r4_2 := (row_ext r4_1 e2)
  have r4_3 := (row_ext r4_2 e3)
  refine seq_val (.agg (ints .u8 (key))) 12 rfl kj (run_load_row 23 _ g4 23 _ _ r4_3 rfl kj kj (isz (n := 32) kj ((ints_size _ _).trans hkl))) ?_
  refine seq_val (.slice a_n nonce.length c_n) 13 rfl kj kj ?_
  have r2_1 := (row_ext hh e1)
  have r2_2 := (row_ext r2_1 e2)
  have r2_3 := (row_ext r2_2 e3)
  refine seq_call (.agg (ints .u32 ((startW key nonce).map wv))) 50 #[.agg (ints .u8 (key)), .slice a_n nonce.length c_n] 14 rfl kj kj ((by rw [← startL]; exact startC key nonce _ _ th _ r2_3 hkl (RdK.ext hn x3) h)) fun W4 e4 => ?_
  have x4 : Ext w W4 := Ext.tr x3 e4
  refine seq_alloc (ints .u32 ([0, 0, 0, 0, 0, 0, 0, 0, 0, 0, 0, 0, 0, 0, 0, 0])) 88 7 rfl kj kj fun g9 W5 l9 e5 r9_5 => ?_
  have x5 : Ext w W5 := Ext.tr x4 e5
  have b9 : w.heap.size ≤ g9 := Nat.le_trans x4.size l9
  refine seq_store g9 _ (ints .u32 ((startW key nonce).map wv)) 88 r9_5 rfl kj (run_store_row 88 _ _ g9 88 _ _ r9_5 rfl kj kj (isz (n := 16) kj ((ints_size _ _).trans (wv_len (startW_len _ _)))) (eqsz (n := 16) kj ((ints_size _ _).trans (wv_len (startW_len _ _)))) (ints_one _ _)) fun W6 p6 r9_6 => ?_
  have x6 : Ext w W6 := Puts.ext p6 x5 b9
  refine seq_nil ?_
  refine hK8 _ _ ?_
  try clear hK8 K8
  refine wp_seq_k fun K10 hK10 => ?_
  refine region_lit ?_
  refine seq_val (.func (.func 51) #[] #[.pointer (some ⟨g5, 0, none⟩), .pointer (some ⟨g9, 0, none⟩)]) 15 rfl kj kj ?_
  refine seq_val (.func (.func 51) #[] #[.pointer (some ⟨g5, 0, none⟩), .pointer (some ⟨g9, 0, none⟩)]) 6 rfl kj kj ?_
  refine seq_nil ?_
  refine hK10 _ _ ?_
  try clear hK10 K10
  refine wp_ret ?_
  repeat (first | with_reducible refine goR1 ?_ | with_reducible refine goR2 ?_)
  have r5_3 := (row_ext r5_2 e3)
  have r5_4 := (row_ext r5_3 e4)
  have r5_5 := (row_ext r5_4 e5)
  have r5_6 := (Puts.row p6 r5_5 (ne_of_old r5_4 l9))
  exact (show bodyPost _ _ _ .ret _ _ from ret1 (.func (.func 51) #[] #[.pointer (some ⟨g5, 0, none⟩), .pointer (some ⟨g9, 0, none⟩)]) rfl (res_tmp kj) ⟨_, rfl, x6, _, _, rfl, b5, b9, r5_6, r9_6⟩)

end Go.Proofs.YtjldjdlhllgakaaDoor.Cha
