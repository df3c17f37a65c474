/- The law ChachaPieces. -/
import Derived.Test.YticjghmgbmjkiaaDoorChX
import Derived.Test.YticjghmgbmjkiaaDoorAutoM
namespace Go.Proofs.YticjghmgbmjkiaaDoor.Cha
open Go Go.RowKit
open Go.Proofs.YticjghmgbmjkiaaDoor.Rely Go.Proofs.YticjghmgbmjkiaaDoor.Auto Go.Proofs.YticjghmgbmjkiaaDoor.Own Go.Proofs.YticjghmgbmjkiaaDoor.Sha
set_option linter.unusedVariables false
set_option linter.unusedSimpArgs false

open Go.Proofs.YticjghmgbmjkiaaDoor.Sha
theorem run_minI {P : Program} {ρ : Operand → Value} {o : Oper} {w : World} (ts : Array TypeId) (x y : Operand) (k : IntKind) (a b c : Int) (ho : o.op = .call { callee := .builtin .min, args := #[x, y], argTypes := ts }) (hx : ρ x = .int k a) (hy : ρ y = .int k b) (h : (if b < a then b else a) = c) : (execOp ρ o).run P w = .ok (.value (.int k c)) w := by
  subst h
  unfold execOp
  simp only [ho, resolve, invoke, builtin, Sem.run_bind, Sem.run_pure, Result.andThen_ok, List.map_toArray, List.map_cons, List.map_nil, hx, hy, run_min_int2]
theorem snoc_rg {q : List Nat} {z k : Nat} (h : List.range k = q ++ [z]) : z = q.length := by
  have h1 : k = q.length + 1 := by have := congrArg List.length h; simpa using this
  subst h1
  rw [List.range_succ] at h
  have h2 := List.append_inj_right h (by simp)
  simpa using h2.symm
theorem u64r (a : Int) : IntKind.u64.wrap a = a % 18446744073709551616 := by
  have : IntKind.u64.wrap a = a % 2 ^ 64 := rfl
  rw [this]; rfl
set_option maxRecDepth 100000 in
set_option maxHeartbeats 4000000 in
theorem lawPieces_L (key nonce text : List Int) (a_n a_t : Option Addr) (c_n c_t : Nat) (number : Int) (th tq : TypeId) (w : World) (hh : w.heap[1]? = some (.cells (ints .u32 [1634760805, 857760878, 2036477234, 1797285236]) th)) (hq : w.heap[0]? = some (.cells (ints .i64 [0, 4, 8, 12, 1, 5, 9, 13, 2, 6, 10, 14, 3, 7, 11, 15, 0, 5, 10, 15, 1, 6, 11, 12, 2, 7, 8, 13, 3, 4, 9, 14]) tq)) (hkl : key.length = 32) (hkb : AreBytes key) (hnb : AreBytes nonce) (htb : AreBytes text) (hn : RdK .u8 w.heap.size nonce (.slice a_n nonce.length c_n) w) (ht : RdK .u8 w.heap.size text (.slice a_t text.length c_t) w) (cut : Int) (hlg : 1000 < nonce.length) : Calls Tryd.prog 3 #[.agg (cat [ints .u8 key, #[.slice a_n nonce.length c_n], #[.int .i64 number], #[.slice a_t text.length c_t]]), .int .i64 cut] w (Ret w (.bool true)) := by
  obtain ⟨mo, hmo⟩ : ∃ m : Nat, (m : Int) = 1 + (cut % 18446744073709551616) % 5 := ⟨(1 + (cut % 18446744073709551616) % 5).toNat, by omega⟩
  have hmo0 : 1 ≤ mo := by omega
  refine enterM 104 [(0, .agg (cat [ints .u8 (key), #[.slice a_n nonce.length c_n], #[.int .i64 number], #[.slice a_t text.length c_t]])), (1, .int .i64 cut)] Tryd.func3 rfl rfl kj rfl ?_
  refine wp_seq_k fun K3 hK3 => ?_
  refine region_lit ?_
  refine seq_alloc (cat [ints .u8 (key), #[.slice a_n nonce.length c_n], #[.int .i64 number], #[.slice a_t text.length c_t]]) 26 2 rfl kj kj fun g4 W1 l4 e1 r4_1 => ?_
  have x1 : Ext w W1 := Ext.tr (Rely.Ext.refl w) e1
  have b4 : w.heap.size ≤ g4 := Nat.le_trans (Rely.Ext.refl w).size l4
  refine seq_alloc (#[.int .i64 cut]) 3 3 rfl kj kj fun g5 W2 l5 e2 r5_2 => ?_
  have x2 : Ext w W2 := Ext.tr x1 e2
  have b5 : w.heap.size ≤ g5 := Nat.le_trans x1.size l5
  refine seq_alloc (#[.bool false]) 4 4 rfl kj kj fun g6 W3 l6 e3 r6_3 => ?_
  have x3 : Ext w W3 := Ext.tr x2 e3
  have b6 : w.heap.size ≤ g6 := Nat.le_trans x2.size l6
  refine seq_nil ?_
  refine hK3 _ _ ?_
  try clear hK3 K3
  refine wp_seq_k fun K7 hK7 => ?_
  refine wp_seq_k fun K8 hK8 => ?_
  refine region_lit ?_
  refine seq_call (.bool true) 12 #[] 14 rfl kj kj ((alive03) _) fun W4 e4 => ?_
  have x4 : Ext w W4 := Ext.tr x3 e4
  refine seq_val (.bool false) 15 rfl kj kj ?_
  refine seq_nil ?_
  refine hK8 _ _ ?_
  try clear hK8 K8
  refine cond_false kj ?_
  refine wp_skip ?_
  refine hK7 _ _ ?_
  try clear hK7 K7
  refine wp_seq_k fun K9 hK9 => ?_
  refine wp_seq_k fun K10 hK10 => ?_
  refine region_lit ?_
  have r4_2 := (row_ext r4_1 e2)
  have r4_3 := (row_ext r4_2 e3)
  have r4_4 := (row_ext r4_3 e4)
  refine seq_val (.agg (cat [ints .u8 (key), #[.slice a_n nonce.length c_n], #[.int .i64 number], #[.slice a_t text.length c_t]])) 16 rfl kj (run_load_row 26 _ g4 26 _ _ r4_4 rfl kj kj (isz (n := 35) kj (by rw [cat_cons, cat_cons, cat_cons, cat_cons]; simp only [Array.size_append, cat, ((ints_size _ _).trans hkl)]; rfl))) ?_
  refine seq_call (.bool true) 13 #[.agg (cat [ints .u8 (key), #[.slice a_n nonce.length c_n], #[.int .i64 number], #[.slice a_t text.length c_t]])] 17 rfl kj kj ((large_A key nonce text a_n a_t c_n c_t number _ hkl hlg)) fun W5 e5 => ?_
  have x5 : Ext w W5 := Ext.tr x4 e5
  refine seq_nil ?_
  refine hK10 _ _ ?_
  try clear hK10 K10
  refine cond_true kj ?_
  refine wp_seq_k fun K11 hK11 => ?_
  refine region_lit ?_
  have r6_4 := (row_ext r6_3 e4)
  have r6_5 := (row_ext r6_4 e5)
  refine seq_store g6 _ (#[.bool true]) 4 r6_5 rfl kj (run_storeC1 4 _ _ g6 0 4 _ (.bool true) r6_5 rfl kj kj kj kj kj rfl) fun W6 p6 r6_6 => ?_
  have x6 : Ext w W6 := Puts.ext p6 x5 b6
  refine seq_nil ?_
  refine hK11 _ _ ?_
  try clear hK11 K11
  refine wp_ret ?_
  repeat (first | with_reducible refine goR1 ?_ | with_reducible refine goR2 ?_)
  exact (show bodyPostM _ _ _ _ _ .ret _ _ from retM0 (.bool true) rfl (res_cell1 g6 4 _ (.bool true) r6_6 kj kj rfl) ⟨rfl, x6⟩)
set_option maxRecDepth 100000 in
set_option maxHeartbeats 4000000 in
theorem lawPieces_M (key nonce text : List Int) (a_n a_t : Option Addr) (c_n c_t : Nat) (number : Int) (th tq : TypeId) (w : World) (hh : w.heap[1]? = some (.cells (ints .u32 [1634760805, 857760878, 2036477234, 1797285236]) th)) (hq : w.heap[0]? = some (.cells (ints .i64 [0, 4, 8, 12, 1, 5, 9, 13, 2, 6, 10, 14, 3, 7, 11, 15, 0, 5, 10, 15, 1, 6, 11, 12, 2, 7, 8, 13, 3, 4, 9, 14]) tq)) (hkl : key.length = 32) (hkb : AreBytes key) (hnb : AreBytes nonce) (htb : AreBytes text) (hn : RdK .u8 w.heap.size nonce (.slice a_n nonce.length c_n) w) (ht : RdK .u8 w.heap.size text (.slice a_t text.length c_t) w) (cut : Int) (hlg1 : nonce.length ≤ 1000) (hlg : 1000 < text.length) : Calls Tryd.prog 3 #[.agg (cat [ints .u8 key, #[.slice a_n nonce.length c_n], #[.int .i64 number], #[.slice a_t text.length c_t]]), .int .i64 cut] w (Ret w (.bool true)) := by
  obtain ⟨mo, hmo⟩ : ∃ m : Nat, (m : Int) = 1 + (cut % 18446744073709551616) % 5 := ⟨(1 + (cut % 18446744073709551616) % 5).toNat, by omega⟩
  have hmo0 : 1 ≤ mo := by omega
  refine enterM 104 [(0, .agg (cat [ints .u8 (key), #[.slice a_n nonce.length c_n], #[.int .i64 number], #[.slice a_t text.length c_t]])), (1, .int .i64 cut)] Tryd.func3 rfl rfl kj rfl ?_
  refine wp_seq_k fun K3 hK3 => ?_
  refine region_lit ?_
  refine seq_alloc (cat [ints .u8 (key), #[.slice a_n nonce.length c_n], #[.int .i64 number], #[.slice a_t text.length c_t]]) 26 2 rfl kj kj fun g4 W1 l4 e1 r4_1 => ?_
  have x1 : Ext w W1 := Ext.tr (Rely.Ext.refl w) e1
  have b4 : w.heap.size ≤ g4 := Nat.le_trans (Rely.Ext.refl w).size l4
  refine seq_alloc (#[.int .i64 cut]) 3 3 rfl kj kj fun g5 W2 l5 e2 r5_2 => ?_
  have x2 : Ext w W2 := Ext.tr x1 e2
  have b5 : w.heap.size ≤ g5 := Nat.le_trans x1.size l5
  refine seq_alloc (#[.bool false]) 4 4 rfl kj kj fun g6 W3 l6 e3 r6_3 => ?_
  have x3 : Ext w W3 := Ext.tr x2 e3
  have b6 : w.heap.size ≤ g6 := Nat.le_trans x2.size l6
  refine seq_nil ?_
  refine hK3 _ _ ?_
  try clear hK3 K3
  refine wp_seq_k fun K7 hK7 => ?_
  refine wp_seq_k fun K8 hK8 => ?_
  refine region_lit ?_
  refine seq_call (.bool true) 12 #[] 14 rfl kj kj ((alive03) _) fun W4 e4 => ?_
  have x4 : Ext w W4 := Ext.tr x3 e4
  refine seq_val (.bool false) 15 rfl kj kj ?_
  refine seq_nil ?_
  refine hK8 _ _ ?_
  try clear hK8 K8
  refine cond_false kj ?_
  refine wp_skip ?_
  refine hK7 _ _ ?_
  try clear hK7 K7
  refine wp_seq_k fun K9 hK9 => ?_
  refine wp_seq_k fun K10 hK10 => ?_
  refine region_lit ?_
  have r4_2 := (row_ext r4_1 e2)
  have r4_3 := (row_ext r4_2 e3)
  have r4_4 := (row_ext r4_3 e4)
  refine seq_val (.agg (cat [ints .u8 (key), #[.slice a_n nonce.length c_n], #[.int .i64 number], #[.slice a_t text.length c_t]])) 16 rfl kj (run_load_row 26 _ g4 26 _ _ r4_4 rfl kj kj (isz (n := 35) kj (by rw [cat_cons, cat_cons, cat_cons, cat_cons]; simp only [Array.size_append, cat, ((ints_size _ _).trans hkl)]; rfl))) ?_
  refine seq_call (.bool true) 13 #[.agg (cat [ints .u8 (key), #[.slice a_n nonce.length c_n], #[.int .i64 number], #[.slice a_t text.length c_t]])] 17 rfl kj kj ((large_B key nonce text a_n a_t c_n c_t number _ hkl hlg1 hlg)) fun W5 e5 => ?_
  have x5 : Ext w W5 := Ext.tr x4 e5
  refine seq_nil ?_
  refine hK10 _ _ ?_
  try clear hK10 K10
  refine cond_true kj ?_
  refine wp_seq_k fun K11 hK11 => ?_
  refine region_lit ?_
  have r6_4 := (row_ext r6_3 e4)
  have r6_5 := (row_ext r6_4 e5)
  refine seq_store g6 _ (#[.bool true]) 4 r6_5 rfl kj (run_storeC1 4 _ _ g6 0 4 _ (.bool true) r6_5 rfl kj kj kj kj kj rfl) fun W6 p6 r6_6 => ?_
  have x6 : Ext w W6 := Puts.ext p6 x5 b6
  refine seq_nil ?_
  refine hK11 _ _ ?_
  try clear hK11 K11
  refine wp_ret ?_
  repeat (first | with_reducible refine goR1 ?_ | with_reducible refine goR2 ?_)
  exact (show bodyPostM _ _ _ _ _ .ret _ _ from retM0 (.bool true) rfl (res_cell1 g6 4 _ (.bool true) r6_6 kj kj rfl) ⟨rfl, x6⟩)
set_option maxRecDepth 100000 in
set_option maxHeartbeats 4000000 in
theorem lawPieces_A (key nonce text : List Int) (a_n a_t : Option Addr) (c_n c_t : Nat) (number : Int) (th tq : TypeId) (w : World) (hh : w.heap[1]? = some (.cells (ints .u32 [1634760805, 857760878, 2036477234, 1797285236]) th)) (hq : w.heap[0]? = some (.cells (ints .i64 [0, 4, 8, 12, 1, 5, 9, 13, 2, 6, 10, 14, 3, 7, 11, 15, 0, 5, 10, 15, 1, 6, 11, 12, 2, 7, 8, 13, 3, 4, 9, 14]) tq)) (hkl : key.length = 32) (hkb : AreBytes key) (hnb : AreBytes nonce) (htb : AreBytes text) (hn : RdK .u8 w.heap.size nonce (.slice a_n nonce.length c_n) w) (ht : RdK .u8 w.heap.size text (.slice a_t text.length c_t) w) (cut : Int) (hs1 : nonce.length ≤ 1000) (hs2 : text.length ≤ 1000) (h : nonce.length ≠ 12) : Calls Tryd.prog 3 #[.agg (cat [ints .u8 key, #[.slice a_n nonce.length c_n], #[.int .i64 number], #[.slice a_t text.length c_t]]), .int .i64 cut] w (Ret w (.bool true)) := by
  obtain ⟨mo, hmo⟩ : ∃ m : Nat, (m : Int) = 1 + (cut % 18446744073709551616) % 5 := ⟨(1 + (cut % 18446744073709551616) % 5).toNat, by omega⟩
  have hmo0 : 1 ≤ mo := by omega
  refine enterM 104 [(0, .agg (cat [ints .u8 (key), #[.slice a_n nonce.length c_n], #[.int .i64 number], #[.slice a_t text.length c_t]])), (1, .int .i64 cut)] Tryd.func3 rfl rfl kj rfl ?_
  refine wp_seq_k fun K3 hK3 => ?_
  refine region_lit ?_
  refine seq_alloc (cat [ints .u8 (key), #[.slice a_n nonce.length c_n], #[.int .i64 number], #[.slice a_t text.length c_t]]) 26 2 rfl kj kj fun g4 W1 l4 e1 r4_1 => ?_
  have x1 : Ext w W1 := Ext.tr (Rely.Ext.refl w) e1
  have b4 : w.heap.size ≤ g4 := Nat.le_trans (Rely.Ext.refl w).size l4
  refine seq_alloc (#[.int .i64 cut]) 3 3 rfl kj kj fun g5 W2 l5 e2 r5_2 => ?_
  have x2 : Ext w W2 := Ext.tr x1 e2
  have b5 : w.heap.size ≤ g5 := Nat.le_trans x1.size l5
  refine seq_alloc (#[.bool false]) 4 4 rfl kj kj fun g6 W3 l6 e3 r6_3 => ?_
  have x3 : Ext w W3 := Ext.tr x2 e3
  have b6 : w.heap.size ≤ g6 := Nat.le_trans x2.size l6
  refine seq_nil ?_
  refine hK3 _ _ ?_
  try clear hK3 K3
  refine wp_seq_k fun K7 hK7 => ?_
  refine wp_seq_k fun K8 hK8 => ?_
  refine region_lit ?_
  refine seq_call (.bool true) 12 #[] 14 rfl kj kj ((alive03) _) fun W4 e4 => ?_
  have x4 : Ext w W4 := Ext.tr x3 e4
  refine seq_val (.bool false) 15 rfl kj kj ?_
  refine seq_nil ?_
  refine hK8 _ _ ?_
  try clear hK8 K8
  refine cond_false kj ?_
  refine wp_skip ?_
  refine hK7 _ _ ?_
  try clear hK7 K7
  refine wp_seq_k fun K9 hK9 => ?_
  refine wp_seq_k fun K10 hK10 => ?_
  refine region_lit ?_
  have r4_2 := (row_ext r4_1 e2)
  have r4_3 := (row_ext r4_2 e3)
  have r4_4 := (row_ext r4_3 e4)
  refine seq_val (.agg (cat [ints .u8 (key), #[.slice a_n nonce.length c_n], #[.int .i64 number], #[.slice a_t text.length c_t]])) 16 rfl kj (run_load_row 26 _ g4 26 _ _ r4_4 rfl kj kj (isz (n := 35) kj (by rw [cat_cons, cat_cons, cat_cons, cat_cons]; simp only [Array.size_append, cat, ((ints_size _ _).trans hkl)]; rfl))) ?_
  refine seq_call (.bool false) 13 #[.agg (cat [ints .u8 (key), #[.slice a_n nonce.length c_n], #[.int .i64 number], #[.slice a_t text.length c_t]])] 17 rfl kj kj ((large_C key nonce text a_n a_t c_n c_t number _ hkl hs1 hs2)) fun W5 e5 => ?_
  have x5 : Ext w W5 := Ext.tr x4 e5
  refine seq_nil ?_
  refine hK10 _ _ ?_
  try clear hK10 K10
  refine cond_false kj ?_
  refine wp_skip ?_
  refine hK9 _ _ ?_
  try clear hK9 K9
  refine wp_seq_k fun K11 hK11 => ?_
  refine region_lit ?_
  refine seq_val (.pointer (some ⟨g4, 0, none⟩)) 19 rfl kj kj ?_
  have r4_5 := (row_ext r4_4 e5)
  refine seq_val (.agg (ints .u8 (key))) 20 rfl kj (run_load_part 23 _ g4 0 26 _ _ _ r4_5 rfl kj (cat_part [] [ints .u8 (key)] [#[.slice a_n nonce.length c_n], #[.int .i64 number], #[.slice a_t text.length c_t]] 0 kj) kj (isz (n := 32) kj ((ints_size _ _).trans hkl))) ?_
  refine seq_val (.pointer (some ⟨g4, 32, none⟩)) 21 rfl kj kj ?_
  refine seq_val (.slice a_n nonce.length c_n) 22 rfl kj (run_loadC1 24 _ g4 32 26 _ (.slice a_n nonce.length c_n) _ r4_5 rfl kj (cat_part [ints .u8 (key)] [#[.slice a_n nonce.length c_n]] [#[.int .i64 number], #[.slice a_t text.length c_t]] 32 ((ints_size _ _).trans hkl) 0 _ rfl) kj) ?_
  refine seq_val (.pointer (some ⟨g4, 33, none⟩)) 23 rfl kj kj ?_
  refine seq_val (.int .i64 number) 24 rfl kj (run_loadC1 3 _ g4 33 26 _ (.int .i64 number) _ r4_5 rfl kj (cat_part [ints .u8 (key), #[.slice a_n nonce.length c_n]] [#[.int .i64 number]] [#[.slice a_t text.length c_t]] 33 (by rw [cat_cons, cat_cons]; simp only [Array.size_append, cat, ((ints_size _ _).trans hkl)]; rfl) 0 _ rfl) kj) ?_
  have r2_1 := (row_ext hh e1)
  have r2_2 := (row_ext r2_1 e2)
  have r2_3 := (row_ext r2_2 e3)
  have r2_4 := (row_ext r2_3 e4)
  have r2_5 := (row_ext r2_4 e5)
  have r1_1 := (row_ext hq e1)
  have r1_2 := (row_ext r1_1 e2)
  have r1_3 := (row_ext r1_2 e3)
  have r1_4 := (row_ext r1_3 e4)
  have r1_5 := (row_ext r1_4 e5)
  refine seq_call (.tuple #[.agg (ints .u8 (List.replicate 64 0)), .iface 74 (.int .i64 1)]) 14 #[.agg (ints .u8 (key)), .slice a_n nonce.length c_n, .int .i64 number] 25 rfl kj kj ((Piece_A key nonce _ _ number th tq _ r2_5 r1_5 hkl (RdK.ext hn x5) h)) fun W6 e6 => ?_
  have x6 : Ext w W6 := Ext.tr x5 e6
  refine seq_val (.tuple #[.agg (ints .u8 (List.replicate 64 0)), .iface 74 (.int .i64 1)]) 18 rfl kj kj ?_
  refine seq_val (.agg (ints .u8 (List.replicate 64 0))) 26 rfl kj kj ?_
  refine seq_val (.iface 74 (.int .i64 1)) 27 rfl kj kj ?_
  refine seq_alloc (ints .u8 (List.replicate 64 0)) 28 5 rfl kj kj fun g12 W7 l12 e7 r12_7 => ?_
  have x7 : Ext w W7 := Ext.tr x6 e7
  have b12 : w.heap.size ≤ g12 := Nat.le_trans x6.size l12
  refine seq_store g12 _ (ints .u8 (List.replicate 64 0)) 28 r12_7 rfl kj (run_store_row 28 _ _ g12 28 _ _ r12_7 rfl kj kj (isz (n := 64) kj ((ints_size _ _).trans (List.length_replicate (n := 64)))) (eqsz (n := 64) ((ints_size _ _).trans (List.length_replicate (n := 64))) ((ints_size _ _).trans (List.length_replicate (n := 64)))) (ints_one _ _)) fun W8 p8 r12_8 => ?_
  have x8 : Ext w W8 := Puts.ext p8 x7 b12
  refine seq_val (.iface 74 (.int .i64 1)) 6 rfl kj kj ?_
  refine seq_nil ?_
  refine hK11 _ _ ?_
  try clear hK11 K11
  refine wp_seq_k fun K13 hK13 => ?_
  refine region_lit ?_
  refine seq_val (.pointer (some ⟨g4, 0, none⟩)) 29 rfl kj kj ?_
  have r4_6 := (row_ext r4_5 e6)
  have r4_7 := (row_ext r4_6 e7)
  have r4_8 := (Puts.row p8 r4_7 (ne_of_old r4_6 l12))
  refine seq_val (.agg (ints .u8 (key))) 30 rfl kj (run_load_part 23 _ g4 0 26 _ _ _ r4_8 rfl kj (cat_part [] [ints .u8 (key)] [#[.slice a_n nonce.length c_n], #[.int .i64 number], #[.slice a_t text.length c_t]] 0 kj) kj (isz (n := 32) kj ((ints_size _ _).trans hkl))) ?_
  refine seq_val (.pointer (some ⟨g4, 32, none⟩)) 31 rfl kj kj ?_
  refine seq_val (.slice a_n nonce.length c_n) 32 rfl kj (run_loadC1 24 _ g4 32 26 _ (.slice a_n nonce.length c_n) _ r4_8 rfl kj (cat_part [ints .u8 (key)] [#[.slice a_n nonce.length c_n]] [#[.int .i64 number], #[.slice a_t text.length c_t]] 32 ((ints_size _ _).trans hkl) 0 _ rfl) kj) ?_
  refine seq_val (.pointer (some ⟨g4, 33, none⟩)) 33 rfl kj kj ?_
  refine seq_val (.int .i64 number) 34 rfl kj (run_loadC1 3 _ g4 33 26 _ (.int .i64 number) _ r4_8 rfl kj (cat_part [ints .u8 (key), #[.slice a_n nonce.length c_n]] [#[.int .i64 number]] [#[.slice a_t text.length c_t]] 33 (by rw [cat_cons, cat_cons]; simp only [Array.size_append, cat, ((ints_size _ _).trans hkl)]; rfl) 0 _ rfl) kj) ?_
  refine seq_call (.tuple #[.agg (ints .u8 (List.replicate 64 0)), .int .i64 1]) 15 #[.agg (ints .u8 (key)), .slice a_n nonce.length c_n, .int .i64 number] 35 rfl kj kj ((rPiece_A key nonce _ _ number _ hkl (RdK.ext hn x8) h)) fun W9 e9 => ?_
  have x9 : Ext w W9 := Ext.tr x8 e9
  refine seq_val (.tuple #[.agg (ints .u8 (List.replicate 64 0)), .int .i64 1]) 28 rfl kj kj ?_
  refine seq_val (.agg (ints .u8 (List.replicate 64 0))) 36 rfl kj kj ?_
  refine seq_val (.int .i64 1) 37 rfl kj kj ?_
  refine seq_alloc (ints .u8 (List.replicate 64 0)) 28 7 rfl kj kj fun g14 W10 l14 e10 r14_10 => ?_
  have x10 : Ext w W10 := Ext.tr x9 e10
  have b14 : w.heap.size ≤ g14 := Nat.le_trans x9.size l14
  refine seq_store g14 _ (ints .u8 (List.replicate 64 0)) 28 r14_10 rfl kj (run_store_row 28 _ _ g14 28 _ _ r14_10 rfl kj kj (isz (n := 64) kj ((ints_size _ _).trans (List.length_replicate (n := 64)))) (eqsz (n := 64) ((ints_size _ _).trans (List.length_replicate (n := 64))) ((ints_size _ _).trans (List.length_replicate (n := 64)))) (ints_one _ _)) fun W11 p11 r14_11 => ?_
  have x11 : Ext w W11 := Puts.ext p11 x10 b14
  refine seq_val (.int .i64 1) 8 rfl kj kj ?_
  refine seq_nil ?_
  refine hK13 _ _ ?_
  try clear hK13 K13
  refine wp_seq_k fun K15 hK15 => ?_
  refine wp_seq_k fun K16 hK16 => ?_
  refine region_lit ?_
  have r12_9 := (row_ext r12_8 e9)
  have r12_10 := (row_ext r12_9 e10)
  have r12_11 := (Puts.row p11 r12_10 (ne_of_old r12_9 l14))
  refine seq_val (.agg (ints .u8 (List.replicate 64 0))) 38 rfl kj (run_load_row 28 _ g12 28 _ _ r12_11 rfl kj kj (isz (n := 64) kj ((ints_size _ _).trans (List.length_replicate (n := 64))))) ?_
  refine seq_val (.agg (ints .u8 (List.replicate 64 0))) 39 rfl kj (run_load_row 28 _ g14 28 _ _ r14_11 rfl kj kj (isz (n := 64) kj ((ints_size _ _).trans (List.length_replicate (n := 64))))) ?_
  refine seq_val (.bool false) 40 rfl kj (run_neq_agg 28 _ _ _ _ _ (.bool false) rfl kj kj kj (neq_lists 28 (e := 5) (k := .u8) (List.replicate 64 0) (List.replicate 64 0) (decide_eq_true rfl) (List.length_replicate (n := 64)) (List.length_replicate (n := 64)) kj kj kj _)) ?_
  refine seq_val (.bool false) 41 rfl kj kj ?_
  refine seq_val (.iface 74 (.int .i64 1)) 42 rfl kj kj ?_
  refine seq_call (.int .i64 1) 16 #[.iface 74 (.int .i64 1)] 43 rfl kj kj ((numE 1 (by decide)) _) fun W12 e12 => ?_
  have x12 : Ext w W12 := Ext.tr x11 e12
  refine seq_val (.int .i64 1) 44 rfl kj kj ?_
  refine seq_val (.bool false) 45 rfl kj kj ?_
  refine seq_val (.bool false) 46 rfl kj kj ?_
  refine seq_nil ?_
  refine hK16 _ _ ?_
  try clear hK16 K16
  refine cond_false kj ?_
  refine wp_skip ?_
  refine hK15 _ _ ?_
  try clear hK15 K15
  refine wp_seq_k fun K17 hK17 => ?_
  refine region_lit ?_
  have r5_3 := (row_ext r5_2 e3)
  have r5_4 := (row_ext r5_3 e4)
  have r5_5 := (row_ext r5_4 e5)
  have r5_6 := (row_ext r5_5 e6)
  have r5_7 := (row_ext r5_6 e7)
  have r5_8 := (Puts.row p8 r5_7 (ne_of_old r5_6 l12))
  have r5_9 := (row_ext r5_8 e9)
  have r5_10 := (row_ext r5_9 e10)
  have r5_11 := (Puts.row p11 r5_10 (ne_of_old r5_9 l14))
  have r5_12 := (row_ext r5_11 e12)
  refine seq_val (.int .i64 cut) 47 rfl kj (run_loadC1 3 _ g5 0 3 _ (.int .i64 cut) _ r5_12 rfl kj kj kj) ?_
  refine seq_val (.int .u64 (cut % 18446744073709551616)) 48 rfl kj (run_eq (u := .int .u64 (IntKind.u64.wrap (cut))) kj (congrArg (Value.int .u64) (u64r _))) ?_
  refine seq_val (.int .u64 (((cut % 18446744073709551616) % 5))) 49 rfl kj (run_eq (u := .int .u64 (Int.tmod ((cut % 18446744073709551616)) (5))) kj (congrArg (Value.int .u64) (Int.tmod_eq_emod_of_nonneg (by omega)))) ?_
  refine seq_val (.int .i64 (((cut % 18446744073709551616) % 5))) 50 rfl kj (run_eq (u := .int .i64 (IntKind.i64.wrap (((cut % 18446744073709551616) % 5)))) kj (congrArg (Value.int .i64) (IntWalk.i64_in _ (by omega)))) ?_
  refine seq_val (.int .i64 (((mo : Nat) : Int))) 51 rfl kj (run_eq (u := .int .i64 (IntKind.i64.wrap (1 + ((cut % 18446744073709551616) % 5)))) kj (congrArg (Value.int .i64) (by rw [hmo]; exact IntWalk.i64_in _ (by omega)))) ?_
  refine seq_store g5 _ (#[.int .i64 (((mo : Nat) : Int))]) 3 r5_12 rfl kj (run_storeC1 3 _ _ g5 0 3 _ (.int .i64 (((mo : Nat) : Int))) r5_12 rfl kj kj kj kj kj rfl) fun W13 p13 r5_13 => ?_
  have x13 : Ext w W13 := Puts.ext p13 x12 b5
  refine seq_nil ?_
  refine hK17 _ _ ?_
  try clear hK17 K17
  refine wp_seq_k fun K18 hK18 => ?_
  refine region_lit ?_
  refine seq_alloc (#[.int .i64 0]) 3 9 rfl kj kj fun g19 W14 l19 e14 r19_14 => ?_
  have x14 : Ext w W14 := Ext.tr x13 e14
  have b19 : w.heap.size ≤ g19 := Nat.le_trans x13.size l19
  refine seq_store g19 _ (#[.int .i64 0]) 3 r19_14 rfl kj (run_storeC1 3 _ _ g19 0 3 _ (.int .i64 0) r19_14 rfl kj kj kj kj kj rfl) fun W15 p15 r19_15 => ?_
  have x15 : Ext w W15 := Puts.ext p15 x14 b19
  refine seq_nil ?_
  refine hK18 _ _ ?_
  try clear hK18 K18
  refine wp_seq_k fun K20 hK20 => ?_
  refine wp_seq_k fun K21 hK21 => ?_
  refine region_lit ?_
  refine seq_val (.pointer (some ⟨g4, 0, none⟩)) 52 rfl kj kj ?_
  have r4_9 := (row_ext r4_8 e9)
  have r4_10 := (row_ext r4_9 e10)
  have r4_11 := (Puts.row p11 r4_10 (ne_of_old r4_9 l14))
  have r4_12 := (row_ext r4_11 e12)
  have r4_13 := (Puts.row p13 r4_12 (ne_of_old r4_1 l5))
  have r4_14 := (row_ext r4_13 e14)
  have r4_15 := (Puts.row p15 r4_14 (ne_of_old r4_13 l19))
  refine seq_val (.agg (ints .u8 (key))) 53 rfl kj (run_load_part 23 _ g4 0 26 _ _ _ r4_15 rfl kj (cat_part [] [ints .u8 (key)] [#[.slice a_n nonce.length c_n], #[.int .i64 number], #[.slice a_t text.length c_t]] 0 kj) kj (isz (n := 32) kj ((ints_size _ _).trans hkl))) ?_
  refine seq_val (.pointer (some ⟨g4, 32, none⟩)) 54 rfl kj kj ?_
  refine seq_val (.slice a_n nonce.length c_n) 55 rfl kj (run_loadC1 24 _ g4 32 26 _ (.slice a_n nonce.length c_n) _ r4_15 rfl kj (cat_part [ints .u8 (key)] [#[.slice a_n nonce.length c_n]] [#[.int .i64 number], #[.slice a_t text.length c_t]] 32 ((ints_size _ _).trans hkl) 0 _ rfl) kj) ?_
  refine seq_val (.pointer (some ⟨g4, 33, none⟩)) 56 rfl kj kj ?_
  refine seq_val (.int .i64 number) 57 rfl kj (run_loadC1 3 _ g4 33 26 _ (.int .i64 number) _ r4_15 rfl kj (cat_part [ints .u8 (key), #[.slice a_n nonce.length c_n]] [#[.int .i64 number]] [#[.slice a_t text.length c_t]] 33 (by rw [cat_cons, cat_cons]; simp only [Array.size_append, cat, ((ints_size _ _).trans hkl)]; rfl) 0 _ rfl) kj) ?_
  have r2_6 := (row_ext r2_5 e6)
  have r2_7 := (row_ext r2_6 e7)
  have r2_8 := (Puts.row p8 r2_7 (ne_of_old r2_6 l12))
  have r2_9 := (row_ext r2_8 e9)
  have r2_10 := (row_ext r2_9 e10)
  have r2_11 := (Puts.row p11 r2_10 (ne_of_old r2_9 l14))
  have r2_12 := (row_ext r2_11 e12)
  have r2_13 := (Puts.row p13 r2_12 (ne_of_old r2_1 l5))
  have r2_14 := (row_ext r2_13 e14)
  have r2_15 := (Puts.row p15 r2_14 (ne_of_old r2_13 l19))
  have r1_6 := (row_ext r1_5 e6)
  have r1_7 := (row_ext r1_6 e7)
  have r1_8 := (Puts.row p8 r1_7 (ne_of_old r1_6 l12))
  have r1_9 := (row_ext r1_8 e9)
  have r1_10 := (row_ext r1_9 e10)
  have r1_11 := (Puts.row p11 r1_10 (ne_of_old r1_9 l14))
  have r1_12 := (row_ext r1_11 e12)
  have r1_13 := (Puts.row p13 r1_12 (ne_of_old r1_1 l5))
  have r1_14 := (row_ext r1_13 e14)
  have r1_15 := (Puts.row p15 r1_14 (ne_of_old r1_13 l19))
  refine seq_call (.func (.func 49) #[] #[]) 17 #[.agg (ints .u8 (key)), .slice a_n nonce.length c_n, .int .i64 number] 58 rfl kj kj ((pieces_A key nonce _ _ number th tq _ r2_15 r1_15 hkl (RdK.ext hn x15) h)) fun W16 e16 => ?_
  have x16 : Ext w W16 := Ext.tr x15 e16
  refine seq_nil ?_
  refine hK21 _ _ ?_
  try clear hK21 K21
  refine wp_block ?_
  have r4_16 := (row_ext r4_15 e16)
  have r5_14 := (row_ext r5_13 e14)
  have r5_15 := (Puts.row p15 r5_14 (ne_of_old r5_13 l19))
  have r5_16 := (row_ext r5_15 e16)
  have r6_4 := (row_ext r6_3 e4)
  have r6_5 := (row_ext r6_4 e5)
  have r6_6 := (row_ext r6_5 e6)
  have r6_7 := (row_ext r6_6 e7)
  have r6_8 := (Puts.row p8 r6_7 (ne_of_old r6_6 l12))
  have r6_9 := (row_ext r6_8 e9)
  have r6_10 := (row_ext r6_9 e10)
  have r6_11 := (Puts.row p11 r6_10 (ne_of_old r6_9 l14))
  have r6_12 := (row_ext r6_11 e12)
  have r6_13 := (Puts.row p13 r6_12 (ne_of_new r5_2 l6))
  have r6_14 := (row_ext r6_13 e14)
  have r6_15 := (Puts.row p15 r6_14 (ne_of_old r6_13 l19))
  have r6_16 := (row_ext r6_15 e16)
  have r19_16 := (row_ext r19_15 e16)
  have r1_16 := (row_ext r1_15 e16)
  have nb23 : g4 ≠ g5 := (ne_of_old r4_1 l5)
  have nb24 : g4 ≠ g6 := (ne_of_old r4_2 l6)
  have nb29 : g4 ≠ g19 := (ne_of_old r4_13 l19)
  have nb32 : g5 ≠ g4 := (ne_of_new r4_1 l5)
  have nb34 : g5 ≠ g6 := (ne_of_old r5_2 l6)
  have nb39 : g5 ≠ g19 := (ne_of_old r5_13 l19)
  have nb42 : g6 ≠ g4 := (ne_of_new r4_2 l6)
  have nb43 : g6 ≠ g5 := (ne_of_new r5_2 l6)
  have nb49 : g6 ≠ g19 := (ne_of_old r6_13 l19)
  have nb92 : g19 ≠ g4 := (ne_of_new r4_13 l19)
  have nb93 : g19 ≠ g5 := (ne_of_new r5_13 l19)
  have nb94 : g19 ≠ g6 := (ne_of_new r6_13 l19)
  refine range_autoJ (gf := 49) (lb := #[]) (enc := fun x : Nat => .int .i64 (number + ((x : Nat) : Int))) (enc2 := fun x : Nat => .agg (ints .u8 (pieceV (startW key nonce) (number + ((x : Nat) : Int))))) kj (enters_of Tryd.func49 kj rfl) (nopieces_stops 2 [g19] (startW key nonce) number W16) (fun h k => KeepC.trans h k) KeepC.book (Below.refl _ _)
      (fun pre W => ((W.heap[g4]? = some (.cells (cat [ints .u8 (key), #[.slice a_n nonce.length c_n], #[.int .i64 number], #[.slice a_t text.length c_t]]) 26)) ∧ (W.heap[g5]? = some (.cells (#[.int .i64 ((mo : Nat) : Int)]) 3)) ∧ (W.heap[g6]? = some (.cells (#[.bool false]) 4)) ∧ (W.heap[g19]? = some (.cells (#[.int .i64 ((pre.length : Nat) : Int)]) 3)) ∧ pre.length < mo ∧ W16.heap.size ≤ W.heap.size) ∧ Ext w W)
      (fun c pre W => ((c = .ret ∧ ∃ q z, pre = q ++ [z] ∧ z ≠ q.length) ∨ (c = .exit 0 ∧ pre.length = mo ∧ (W.heap[g4]? = some (.cells (cat [ints .u8 (key), #[.slice a_n nonce.length c_n], #[.int .i64 number], #[.slice a_t text.length c_t]]) 26)) ∧ (W.heap[g5]? = some (.cells (#[.int .i64 ((mo : Nat) : Int)]) 3)) ∧ (W.heap[g6]? = some (.cells (#[.bool false]) 4)) ∧ (W.heap[g19]? = some (.cells (#[.int .i64 ((pre.length : Nat) : Int)]) 3)))) ∧ Ext w W) (OwnFrom.and (Own.from (fun s A B row hs hg hr => ⟨row_kept hs.1 hg hr, row_kept hs.2.1 hg hr, row_kept hs.2.2.1 hg hr, row_kept hs.2.2.2.1 hg hr, hs.2.2.2.2.1, Nat.le_trans hs.2.2.2.2.2 hg.size⟩) _) (ownFrom_below (Nat.le_refl _) x16.size)) (fun c => OwnFrom.and (Own.from (fun s A B row hs hg hr => by rcases hs with h | ⟨h1, h2, h5, h6, h7, h8⟩; exact .inl h; exact .inr ⟨h1, h2, row_kept h5 hg hr, row_kept h6 hg hr, row_kept h7 hg hr, row_kept h8 hg hr⟩) _) (ownFrom_below (Nat.le_refl _) x16.size)) ⟨⟨r4_16, r5_16, r6_16, r19_16, show 0 < mo by omega, Nat.le_refl _⟩, x16⟩ (fun e => KeepC.ext e) (fun pre A B h e => ⟨⟨row_ext h.1.1 e, row_ext h.1.2.1 e, row_ext h.1.2.2.1 e, row_ext h.1.2.2.2.1 e, h.1.2.2.2.2.1, Nat.le_trans h.1.2.2.2.2.2 e.size⟩, Rely.Ext.trans h.2 e⟩) (fun pre W h => h.1.2.2.2.2.2) (fun x g => [(11, .pointer (some ⟨g, 0, none⟩)), (10, .int .i64 (number + ((x : Nat) : Int))), (60, .agg (ints .u8 (pieceV (startW key nonce) (number + ((x : Nat) : Int))))), (59, .int .i64 (number + ((x : Nat) : Int)))]) (fun x => ints .u8 (pieceV (startW key nonce) (number + ((x : Nat) : Int)))) 28 (fun l x W K hK => ?_) (fun l pre x gP Wr hgP hI rP hp => ?_) (fun D ys W lD hS hI rD => ?_) (fun D c pre W lD hSp hIx rD => ?_)
  · skip
    refine wpIn_seq_k fun K301 hK301 => ?_
    refine region_litIn ?_
    refine in_val (.int .i64 (number + ((x : Nat) : Int))) 10 rfl (free_wide l 1 _) rfl kj kj ?_
    refine in_nil ?_
    refine hK301 _ _ ?_
    try clear hK301 K301
    refine region_litIn ?_
    refine in_alloc (ints .u8 (List.replicate 64 0)) 28 11 rfl (free_wide l 1 _) rfl kj kj fun g302 W1 l302 e1 r302_1 => ?_
    have x1 : Ext W W1 := Ext.tr (Rely.Ext.refl W) e1
    have b302 : W.heap.size ≤ g302 := Nat.le_trans (Rely.Ext.refl W).size l302
    refine in_store g302 _ (ints .u8 (pieceV (startW key nonce) (number + ((x : Nat) : Int)))) 28 r302_1 rfl (free_wide l 1 _) rfl kj (run_store_row 28 _ _ g302 28 _ _ r302_1 rfl kj kj (isz (n := 64) kj ((ints_size _ _).trans (pieceV_len _ _))) (eqsz (n := 64) ((ints_size _ _).trans (List.length_replicate (n := 64))) ((ints_size _ _).trans (pieceV_len _ _))) (ints_one _ _)) fun W2 p2 r302_2 => ?_
    have x2 : Ext W W2 := Puts.ext p2 x1 b302
    refine in_nil ?_
    have y0_1 : Ext W W1 := (Rely.Ext.trans (Rely.Ext.refl W) e1)
    have y0_2 : Ext W W2 := (Puts.ext p2 y0_1 l302)
    exact hK _ _ l302 y0_2 r302_2
  · exact absurd hp (Nat.not_lt_zero _)
  · obtain ⟨⟨q2, q3, q4, q9, hlm, -⟩, xx⟩ := hI
    subst hS
    have bD : w.heap.size ≤ D := Nat.le_trans x16.size lD
    refine hK20 _ _ ?_
    try clear hK20 K20
    refine wp_seq_k fun K23 hK23 => ?_
    refine wp_seq_k fun K24 hK24 => ?_
    refine region_lit ?_
    refine seq_val (.int .i64 1) 93 rfl kj kj ?_
    refine seq_val (.bool true) 94 rfl kj kj ?_
    refine seq_nil ?_
    refine hK24 _ _ ?_
    try clear hK24 K24
    refine cond_true kj ?_
    refine wp_seq_k fun K25 hK25 => ?_
    refine region_lit ?_
    refine seq_val (.int .i64 0) 95 rfl kj (run_loadC1 3 _ g19 0 3 _ (.int .i64 0) _ q9 rfl kj kj kj) ?_
    refine seq_val (.bool ((0 == 0))) 96 rfl kj kj ?_
    refine seq_store g6 _ (#[.bool ((0 == 0))]) 4 q4 rfl kj (run_storeC1 4 _ _ g6 0 4 _ (.bool ((0 == 0))) q4 rfl kj kj kj kj kj rfl) fun W18 p18 r6_18 => ?_
    have x18 : Ext w W18 := Puts.ext p18 xx b6
    refine seq_nil ?_
    refine hK25 _ _ ?_
    try clear hK25 K25
    refine wp_ret ?_
    repeat (first | with_reducible refine goR1 ?_ | with_reducible refine goR2 ?_)
    have r22_18 := (Puts.row p18 rD (ne_mark q4 rD))
    exact (show bodyPostM _ _ _ _ _ .ret _ _ from retM1 (.bool ((0 == 0))) rfl r22_18 (res_cell1 g6 4 _ (.bool ((0 == 0))) (putD_row r6_18 r22_18 _) kj kj rfl) ⟨rfl, putD_ext x18 bD r22_18 _⟩)
  · exact hSp.elim
set_option maxRecDepth 100000 in
set_option maxHeartbeats 4000000 in
theorem lawPieces_B (key nonce text : List Int) (a_n a_t : Option Addr) (c_n c_t : Nat) (number : Int) (th tq : TypeId) (w : World) (hh : w.heap[1]? = some (.cells (ints .u32 [1634760805, 857760878, 2036477234, 1797285236]) th)) (hq : w.heap[0]? = some (.cells (ints .i64 [0, 4, 8, 12, 1, 5, 9, 13, 2, 6, 10, 14, 3, 7, 11, 15, 0, 5, 10, 15, 1, 6, 11, 12, 2, 7, 8, 13, 3, 4, 9, 14]) tq)) (hkl : key.length = 32) (hkb : AreBytes key) (hnb : AreBytes nonce) (htb : AreBytes text) (hn : RdK .u8 w.heap.size nonce (.slice a_n nonce.length c_n) w) (ht : RdK .u8 w.heap.size text (.slice a_t text.length c_t) w) (cut : Int) (hs1 : nonce.length ≤ 1000) (hs2 : text.length ≤ 1000) (h : nonce.length = 12) (h1 : number < 0) : Calls Tryd.prog 3 #[.agg (cat [ints .u8 key, #[.slice a_n nonce.length c_n], #[.int .i64 number], #[.slice a_t text.length c_t]]), .int .i64 cut] w (Ret w (.bool true)) := by
  obtain ⟨mo, hmo⟩ : ∃ m : Nat, (m : Int) = 1 + (cut % 18446744073709551616) % 5 := ⟨(1 + (cut % 18446744073709551616) % 5).toNat, by omega⟩
  have hmo0 : 1 ≤ mo := by omega
  refine enterM 104 [(0, .agg (cat [ints .u8 (key), #[.slice a_n nonce.length c_n], #[.int .i64 number], #[.slice a_t text.length c_t]])), (1, .int .i64 cut)] Tryd.func3 rfl rfl kj rfl ?_
  refine wp_seq_k fun K3 hK3 => ?_
  refine region_lit ?_
  refine seq_alloc (cat [ints .u8 (key), #[.slice a_n nonce.length c_n], #[.int .i64 number], #[.slice a_t text.length c_t]]) 26 2 rfl kj kj fun g4 W1 l4 e1 r4_1 => ?_
  have x1 : Ext w W1 := Ext.tr (Rely.Ext.refl w) e1
  have b4 : w.heap.size ≤ g4 := Nat.le_trans (Rely.Ext.refl w).size l4
  refine seq_alloc (#[.int .i64 cut]) 3 3 rfl kj kj fun g5 W2 l5 e2 r5_2 => ?_
  have x2 : Ext w W2 := Ext.tr x1 e2
  have b5 : w.heap.size ≤ g5 := Nat.le_trans x1.size l5
  refine seq_alloc (#[.bool false]) 4 4 rfl kj kj fun g6 W3 l6 e3 r6_3 => ?_
  have x3 : Ext w W3 := Ext.tr x2 e3
  have b6 : w.heap.size ≤ g6 := Nat.le_trans x2.size l6
  refine seq_nil ?_
  refine hK3 _ _ ?_
  try clear hK3 K3
  refine wp_seq_k fun K7 hK7 => ?_
  refine wp_seq_k fun K8 hK8 => ?_
  refine region_lit ?_
  refine seq_call (.bool true) 12 #[] 14 rfl kj kj ((alive03) _) fun W4 e4 => ?_
  have x4 : Ext w W4 := Ext.tr x3 e4
  refine seq_val (.bool false) 15 rfl kj kj ?_
  refine seq_nil ?_
  refine hK8 _ _ ?_
  try clear hK8 K8
  refine cond_false kj ?_
  refine wp_skip ?_
  refine hK7 _ _ ?_
  try clear hK7 K7
  refine wp_seq_k fun K9 hK9 => ?_
  refine wp_seq_k fun K10 hK10 => ?_
  refine region_lit ?_
  have r4_2 := (row_ext r4_1 e2)
  have r4_3 := (row_ext r4_2 e3)
  have r4_4 := (row_ext r4_3 e4)
  refine seq_val (.agg (cat [ints .u8 (key), #[.slice a_n nonce.length c_n], #[.int .i64 number], #[.slice a_t text.length c_t]])) 16 rfl kj (run_load_row 26 _ g4 26 _ _ r4_4 rfl kj kj (isz (n := 35) kj (by rw [cat_cons, cat_cons, cat_cons, cat_cons]; simp only [Array.size_append, cat, ((ints_size _ _).trans hkl)]; rfl))) ?_
  refine seq_call (.bool false) 13 #[.agg (cat [ints .u8 (key), #[.slice a_n nonce.length c_n], #[.int .i64 number], #[.slice a_t text.length c_t]])] 17 rfl kj kj ((large_C key nonce text a_n a_t c_n c_t number _ hkl hs1 hs2)) fun W5 e5 => ?_
  have x5 : Ext w W5 := Ext.tr x4 e5
  refine seq_nil ?_
  refine hK10 _ _ ?_
  try clear hK10 K10
  refine cond_false kj ?_
  refine wp_skip ?_
  refine hK9 _ _ ?_
  try clear hK9 K9
  refine wp_seq_k fun K11 hK11 => ?_
  refine region_lit ?_
  refine seq_val (.pointer (some ⟨g4, 0, none⟩)) 19 rfl kj kj ?_
  have r4_5 := (row_ext r4_4 e5)
  refine seq_val (.agg (ints .u8 (key))) 20 rfl kj (run_load_part 23 _ g4 0 26 _ _ _ r4_5 rfl kj (cat_part [] [ints .u8 (key)] [#[.slice a_n nonce.length c_n], #[.int .i64 number], #[.slice a_t text.length c_t]] 0 kj) kj (isz (n := 32) kj ((ints_size _ _).trans hkl))) ?_
  refine seq_val (.pointer (some ⟨g4, 32, none⟩)) 21 rfl kj kj ?_
  refine seq_val (.slice a_n nonce.length c_n) 22 rfl kj (run_loadC1 24 _ g4 32 26 _ (.slice a_n nonce.length c_n) _ r4_5 rfl kj (cat_part [ints .u8 (key)] [#[.slice a_n nonce.length c_n]] [#[.int .i64 number], #[.slice a_t text.length c_t]] 32 ((ints_size _ _).trans hkl) 0 _ rfl) kj) ?_
  refine seq_val (.pointer (some ⟨g4, 33, none⟩)) 23 rfl kj kj ?_
  refine seq_val (.int .i64 number) 24 rfl kj (run_loadC1 3 _ g4 33 26 _ (.int .i64 number) _ r4_5 rfl kj (cat_part [ints .u8 (key), #[.slice a_n nonce.length c_n]] [#[.int .i64 number]] [#[.slice a_t text.length c_t]] 33 (by rw [cat_cons, cat_cons]; simp only [Array.size_append, cat, ((ints_size _ _).trans hkl)]; rfl) 0 _ rfl) kj) ?_
  have r2_1 := (row_ext hh e1)
  have r2_2 := (row_ext r2_1 e2)
  have r2_3 := (row_ext r2_2 e3)
  have r2_4 := (row_ext r2_3 e4)
  have r2_5 := (row_ext r2_4 e5)
  have r1_1 := (row_ext hq e1)
  have r1_2 := (row_ext r1_1 e2)
  have r1_3 := (row_ext r1_2 e3)
  have r1_4 := (row_ext r1_3 e4)
  have r1_5 := (row_ext r1_4 e5)
  refine seq_call (.tuple #[.agg (ints .u8 (List.replicate 64 0)), .iface 74 (.int .i64 8)]) 14 #[.agg (ints .u8 (key)), .slice a_n nonce.length c_n, .int .i64 number] 25 rfl kj kj ((Piece_B key nonce _ _ number th tq _ r2_5 r1_5 hkl (RdK.ext hn x5) h h1)) fun W6 e6 => ?_
  have x6 : Ext w W6 := Ext.tr x5 e6
  refine seq_val (.tuple #[.agg (ints .u8 (List.replicate 64 0)), .iface 74 (.int .i64 8)]) 18 rfl kj kj ?_
  refine seq_val (.agg (ints .u8 (List.replicate 64 0))) 26 rfl kj kj ?_
  refine seq_val (.iface 74 (.int .i64 8)) 27 rfl kj kj ?_
  refine seq_alloc (ints .u8 (List.replicate 64 0)) 28 5 rfl kj kj fun g12 W7 l12 e7 r12_7 => ?_
  have x7 : Ext w W7 := Ext.tr x6 e7
  have b12 : w.heap.size ≤ g12 := Nat.le_trans x6.size l12
  refine seq_store g12 _ (ints .u8 (List.replicate 64 0)) 28 r12_7 rfl kj (run_store_row 28 _ _ g12 28 _ _ r12_7 rfl kj kj (isz (n := 64) kj ((ints_size _ _).trans (List.length_replicate (n := 64)))) (eqsz (n := 64) ((ints_size _ _).trans (List.length_replicate (n := 64))) ((ints_size _ _).trans (List.length_replicate (n := 64)))) (ints_one _ _)) fun W8 p8 r12_8 => ?_
  have x8 : Ext w W8 := Puts.ext p8 x7 b12
  refine seq_val (.iface 74 (.int .i64 8)) 6 rfl kj kj ?_
  refine seq_nil ?_
  refine hK11 _ _ ?_
  try clear hK11 K11
  refine wp_seq_k fun K13 hK13 => ?_
  refine region_lit ?_
  refine seq_val (.pointer (some ⟨g4, 0, none⟩)) 29 rfl kj kj ?_
  have r4_6 := (row_ext r4_5 e6)
  have r4_7 := (row_ext r4_6 e7)
  have r4_8 := (Puts.row p8 r4_7 (ne_of_old r4_6 l12))
  refine seq_val (.agg (ints .u8 (key))) 30 rfl kj (run_load_part 23 _ g4 0 26 _ _ _ r4_8 rfl kj (cat_part [] [ints .u8 (key)] [#[.slice a_n nonce.length c_n], #[.int .i64 number], #[.slice a_t text.length c_t]] 0 kj) kj (isz (n := 32) kj ((ints_size _ _).trans hkl))) ?_
  refine seq_val (.pointer (some ⟨g4, 32, none⟩)) 31 rfl kj kj ?_
  refine seq_val (.slice a_n nonce.length c_n) 32 rfl kj (run_loadC1 24 _ g4 32 26 _ (.slice a_n nonce.length c_n) _ r4_8 rfl kj (cat_part [ints .u8 (key)] [#[.slice a_n nonce.length c_n]] [#[.int .i64 number], #[.slice a_t text.length c_t]] 32 ((ints_size _ _).trans hkl) 0 _ rfl) kj) ?_
  refine seq_val (.pointer (some ⟨g4, 33, none⟩)) 33 rfl kj kj ?_
  refine seq_val (.int .i64 number) 34 rfl kj (run_loadC1 3 _ g4 33 26 _ (.int .i64 number) _ r4_8 rfl kj (cat_part [ints .u8 (key), #[.slice a_n nonce.length c_n]] [#[.int .i64 number]] [#[.slice a_t text.length c_t]] 33 (by rw [cat_cons, cat_cons]; simp only [Array.size_append, cat, ((ints_size _ _).trans hkl)]; rfl) 0 _ rfl) kj) ?_
  refine seq_call (.tuple #[.agg (ints .u8 (List.replicate 64 0)), .int .i64 8]) 15 #[.agg (ints .u8 (key)), .slice a_n nonce.length c_n, .int .i64 number] 35 rfl kj kj ((rPiece_B key nonce _ _ number _ hkl (RdK.ext hn x8) h h1)) fun W9 e9 => ?_
  have x9 : Ext w W9 := Ext.tr x8 e9
  refine seq_val (.tuple #[.agg (ints .u8 (List.replicate 64 0)), .int .i64 8]) 28 rfl kj kj ?_
  refine seq_val (.agg (ints .u8 (List.replicate 64 0))) 36 rfl kj kj ?_
  refine seq_val (.int .i64 8) 37 rfl kj kj ?_
  refine seq_alloc (ints .u8 (List.replicate 64 0)) 28 7 rfl kj kj fun g14 W10 l14 e10 r14_10 => ?_
  have x10 : Ext w W10 := Ext.tr x9 e10
  have b14 : w.heap.size ≤ g14 := Nat.le_trans x9.size l14
  refine seq_store g14 _ (ints .u8 (List.replicate 64 0)) 28 r14_10 rfl kj (run_store_row 28 _ _ g14 28 _ _ r14_10 rfl kj kj (isz (n := 64) kj ((ints_size _ _).trans (List.length_replicate (n := 64)))) (eqsz (n := 64) ((ints_size _ _).trans (List.length_replicate (n := 64))) ((ints_size _ _).trans (List.length_replicate (n := 64)))) (ints_one _ _)) fun W11 p11 r14_11 => ?_
  have x11 : Ext w W11 := Puts.ext p11 x10 b14
  refine seq_val (.int .i64 8) 8 rfl kj kj ?_
  refine seq_nil ?_
  refine hK13 _ _ ?_
  try clear hK13 K13
  refine wp_seq_k fun K15 hK15 => ?_
  refine wp_seq_k fun K16 hK16 => ?_
  refine region_lit ?_
  have r12_9 := (row_ext r12_8 e9)
  have r12_10 := (row_ext r12_9 e10)
  have r12_11 := (Puts.row p11 r12_10 (ne_of_old r12_9 l14))
  refine seq_val (.agg (ints .u8 (List.replicate 64 0))) 38 rfl kj (run_load_row 28 _ g12 28 _ _ r12_11 rfl kj kj (isz (n := 64) kj ((ints_size _ _).trans (List.length_replicate (n := 64))))) ?_
  refine seq_val (.agg (ints .u8 (List.replicate 64 0))) 39 rfl kj (run_load_row 28 _ g14 28 _ _ r14_11 rfl kj kj (isz (n := 64) kj ((ints_size _ _).trans (List.length_replicate (n := 64))))) ?_
  refine seq_val (.bool false) 40 rfl kj (run_neq_agg 28 _ _ _ _ _ (.bool false) rfl kj kj kj (neq_lists 28 (e := 5) (k := .u8) (List.replicate 64 0) (List.replicate 64 0) (decide_eq_true rfl) (List.length_replicate (n := 64)) (List.length_replicate (n := 64)) kj kj kj _)) ?_
  refine seq_val (.bool false) 41 rfl kj kj ?_
  refine seq_val (.iface 74 (.int .i64 8)) 42 rfl kj kj ?_
  refine seq_call (.int .i64 8) 16 #[.iface 74 (.int .i64 8)] 43 rfl kj kj ((numE 8 (by decide)) _) fun W12 e12 => ?_
  have x12 : Ext w W12 := Ext.tr x11 e12
  refine seq_val (.int .i64 8) 44 rfl kj kj ?_
  refine seq_val (.bool false) 45 rfl kj kj ?_
  refine seq_val (.bool false) 46 rfl kj kj ?_
  refine seq_nil ?_
  refine hK16 _ _ ?_
  try clear hK16 K16
  refine cond_false kj ?_
  refine wp_skip ?_
  refine hK15 _ _ ?_
  try clear hK15 K15
  refine wp_seq_k fun K17 hK17 => ?_
  refine region_lit ?_
  have r5_3 := (row_ext r5_2 e3)
  have r5_4 := (row_ext r5_3 e4)
  have r5_5 := (row_ext r5_4 e5)
  have r5_6 := (row_ext r5_5 e6)
  have r5_7 := (row_ext r5_6 e7)
  have r5_8 := (Puts.row p8 r5_7 (ne_of_old r5_6 l12))
  have r5_9 := (row_ext r5_8 e9)
  have r5_10 := (row_ext r5_9 e10)
  have r5_11 := (Puts.row p11 r5_10 (ne_of_old r5_9 l14))
  have r5_12 := (row_ext r5_11 e12)
  refine seq_val (.int .i64 cut) 47 rfl kj (run_loadC1 3 _ g5 0 3 _ (.int .i64 cut) _ r5_12 rfl kj kj kj) ?_
  refine seq_val (.int .u64 (cut % 18446744073709551616)) 48 rfl kj (run_eq (u := .int .u64 (IntKind.u64.wrap (cut))) kj (congrArg (Value.int .u64) (u64r _))) ?_
  refine seq_val (.int .u64 (((cut % 18446744073709551616) % 5))) 49 rfl kj (run_eq (u := .int .u64 (Int.tmod ((cut % 18446744073709551616)) (5))) kj (congrArg (Value.int .u64) (Int.tmod_eq_emod_of_nonneg (by omega)))) ?_
  refine seq_val (.int .i64 (((cut % 18446744073709551616) % 5))) 50 rfl kj (run_eq (u := .int .i64 (IntKind.i64.wrap (((cut % 18446744073709551616) % 5)))) kj (congrArg (Value.int .i64) (IntWalk.i64_in _ (by omega)))) ?_
  refine seq_val (.int .i64 (((mo : Nat) : Int))) 51 rfl kj (run_eq (u := .int .i64 (IntKind.i64.wrap (1 + ((cut % 18446744073709551616) % 5)))) kj (congrArg (Value.int .i64) (by rw [hmo]; exact IntWalk.i64_in _ (by omega)))) ?_
  refine seq_store g5 _ (#[.int .i64 (((mo : Nat) : Int))]) 3 r5_12 rfl kj (run_storeC1 3 _ _ g5 0 3 _ (.int .i64 (((mo : Nat) : Int))) r5_12 rfl kj kj kj kj kj rfl) fun W13 p13 r5_13 => ?_
  have x13 : Ext w W13 := Puts.ext p13 x12 b5
  refine seq_nil ?_
  refine hK17 _ _ ?_
  try clear hK17 K17
  refine wp_seq_k fun K18 hK18 => ?_
  refine region_lit ?_
  refine seq_alloc (#[.int .i64 0]) 3 9 rfl kj kj fun g19 W14 l19 e14 r19_14 => ?_
  have x14 : Ext w W14 := Ext.tr x13 e14
  have b19 : w.heap.size ≤ g19 := Nat.le_trans x13.size l19
  refine seq_store g19 _ (#[.int .i64 0]) 3 r19_14 rfl kj (run_storeC1 3 _ _ g19 0 3 _ (.int .i64 0) r19_14 rfl kj kj kj kj kj rfl) fun W15 p15 r19_15 => ?_
  have x15 : Ext w W15 := Puts.ext p15 x14 b19
  refine seq_nil ?_
  refine hK18 _ _ ?_
  try clear hK18 K18
  refine wp_seq_k fun K20 hK20 => ?_
  refine wp_seq_k fun K21 hK21 => ?_
  refine region_lit ?_
  refine seq_val (.pointer (some ⟨g4, 0, none⟩)) 52 rfl kj kj ?_
  have r4_9 := (row_ext r4_8 e9)
  have r4_10 := (row_ext r4_9 e10)
  have r4_11 := (Puts.row p11 r4_10 (ne_of_old r4_9 l14))
  have r4_12 := (row_ext r4_11 e12)
  have r4_13 := (Puts.row p13 r4_12 (ne_of_old r4_1 l5))
  have r4_14 := (row_ext r4_13 e14)
  have r4_15 := (Puts.row p15 r4_14 (ne_of_old r4_13 l19))
  refine seq_val (.agg (ints .u8 (key))) 53 rfl kj (run_load_part 23 _ g4 0 26 _ _ _ r4_15 rfl kj (cat_part [] [ints .u8 (key)] [#[.slice a_n nonce.length c_n], #[.int .i64 number], #[.slice a_t text.length c_t]] 0 kj) kj (isz (n := 32) kj ((ints_size _ _).trans hkl))) ?_
  refine seq_val (.pointer (some ⟨g4, 32, none⟩)) 54 rfl kj kj ?_
  refine seq_val (.slice a_n nonce.length c_n) 55 rfl kj (run_loadC1 24 _ g4 32 26 _ (.slice a_n nonce.length c_n) _ r4_15 rfl kj (cat_part [ints .u8 (key)] [#[.slice a_n nonce.length c_n]] [#[.int .i64 number], #[.slice a_t text.length c_t]] 32 ((ints_size _ _).trans hkl) 0 _ rfl) kj) ?_
  refine seq_val (.pointer (some ⟨g4, 33, none⟩)) 56 rfl kj kj ?_
  refine seq_val (.int .i64 number) 57 rfl kj (run_loadC1 3 _ g4 33 26 _ (.int .i64 number) _ r4_15 rfl kj (cat_part [ints .u8 (key), #[.slice a_n nonce.length c_n]] [#[.int .i64 number]] [#[.slice a_t text.length c_t]] 33 (by rw [cat_cons, cat_cons]; simp only [Array.size_append, cat, ((ints_size _ _).trans hkl)]; rfl) 0 _ rfl) kj) ?_
  have r2_6 := (row_ext r2_5 e6)
  have r2_7 := (row_ext r2_6 e7)
  have r2_8 := (Puts.row p8 r2_7 (ne_of_old r2_6 l12))
  have r2_9 := (row_ext r2_8 e9)
  have r2_10 := (row_ext r2_9 e10)
  have r2_11 := (Puts.row p11 r2_10 (ne_of_old r2_9 l14))
  have r2_12 := (row_ext r2_11 e12)
  have r2_13 := (Puts.row p13 r2_12 (ne_of_old r2_1 l5))
  have r2_14 := (row_ext r2_13 e14)
  have r2_15 := (Puts.row p15 r2_14 (ne_of_old r2_13 l19))
  have r1_6 := (row_ext r1_5 e6)
  have r1_7 := (row_ext r1_6 e7)
  have r1_8 := (Puts.row p8 r1_7 (ne_of_old r1_6 l12))
  have r1_9 := (row_ext r1_8 e9)
  have r1_10 := (row_ext r1_9 e10)
  have r1_11 := (Puts.row p11 r1_10 (ne_of_old r1_9 l14))
  have r1_12 := (row_ext r1_11 e12)
  have r1_13 := (Puts.row p13 r1_12 (ne_of_old r1_1 l5))
  have r1_14 := (row_ext r1_13 e14)
  have r1_15 := (Puts.row p15 r1_14 (ne_of_old r1_13 l19))
  refine seq_call (.func (.func 49) #[] #[]) 17 #[.agg (ints .u8 (key)), .slice a_n nonce.length c_n, .int .i64 number] 58 rfl kj kj ((pieces_B key nonce _ _ number th tq _ r2_15 r1_15 hkl (RdK.ext hn x15) h h1)) fun W16 e16 => ?_
  have x16 : Ext w W16 := Ext.tr x15 e16
  refine seq_nil ?_
  refine hK21 _ _ ?_
  try clear hK21 K21
  refine wp_block ?_
  have r4_16 := (row_ext r4_15 e16)
  have r5_14 := (row_ext r5_13 e14)
  have r5_15 := (Puts.row p15 r5_14 (ne_of_old r5_13 l19))
  have r5_16 := (row_ext r5_15 e16)
  have r6_4 := (row_ext r6_3 e4)
  have r6_5 := (row_ext r6_4 e5)
  have r6_6 := (row_ext r6_5 e6)
  have r6_7 := (row_ext r6_6 e7)
  have r6_8 := (Puts.row p8 r6_7 (ne_of_old r6_6 l12))
  have r6_9 := (row_ext r6_8 e9)
  have r6_10 := (row_ext r6_9 e10)
  have r6_11 := (Puts.row p11 r6_10 (ne_of_old r6_9 l14))
  have r6_12 := (row_ext r6_11 e12)
  have r6_13 := (Puts.row p13 r6_12 (ne_of_new r5_2 l6))
  have r6_14 := (row_ext r6_13 e14)
  have r6_15 := (Puts.row p15 r6_14 (ne_of_old r6_13 l19))
  have r6_16 := (row_ext r6_15 e16)
  have r19_16 := (row_ext r19_15 e16)
  have r1_16 := (row_ext r1_15 e16)
  have nb23 : g4 ≠ g5 := (ne_of_old r4_1 l5)
  have nb24 : g4 ≠ g6 := (ne_of_old r4_2 l6)
  have nb29 : g4 ≠ g19 := (ne_of_old r4_13 l19)
  have nb32 : g5 ≠ g4 := (ne_of_new r4_1 l5)
  have nb34 : g5 ≠ g6 := (ne_of_old r5_2 l6)
  have nb39 : g5 ≠ g19 := (ne_of_old r5_13 l19)
  have nb42 : g6 ≠ g4 := (ne_of_new r4_2 l6)
  have nb43 : g6 ≠ g5 := (ne_of_new r5_2 l6)
  have nb49 : g6 ≠ g19 := (ne_of_old r6_13 l19)
  have nb92 : g19 ≠ g4 := (ne_of_new r4_13 l19)
  have nb93 : g19 ≠ g5 := (ne_of_new r5_13 l19)
  have nb94 : g19 ≠ g6 := (ne_of_new r6_13 l19)
  refine range_autoJ (gf := 49) (lb := #[]) (enc := fun x : Nat => .int .i64 (number + ((x : Nat) : Int))) (enc2 := fun x : Nat => .agg (ints .u8 (pieceV (startW key nonce) (number + ((x : Nat) : Int))))) kj (enters_of Tryd.func49 kj rfl) (nopieces_stops 2 [g19] (startW key nonce) number W16) (fun h k => KeepC.trans h k) KeepC.book (Below.refl _ _)
      (fun pre W => ((W.heap[g4]? = some (.cells (cat [ints .u8 (key), #[.slice a_n nonce.length c_n], #[.int .i64 number], #[.slice a_t text.length c_t]]) 26)) ∧ (W.heap[g5]? = some (.cells (#[.int .i64 ((mo : Nat) : Int)]) 3)) ∧ (W.heap[g6]? = some (.cells (#[.bool false]) 4)) ∧ (W.heap[g19]? = some (.cells (#[.int .i64 ((pre.length : Nat) : Int)]) 3)) ∧ pre.length < mo ∧ W16.heap.size ≤ W.heap.size) ∧ Ext w W)
      (fun c pre W => ((c = .ret ∧ ∃ q z, pre = q ++ [z] ∧ z ≠ q.length) ∨ (c = .exit 0 ∧ pre.length = mo ∧ (W.heap[g4]? = some (.cells (cat [ints .u8 (key), #[.slice a_n nonce.length c_n], #[.int .i64 number], #[.slice a_t text.length c_t]]) 26)) ∧ (W.heap[g5]? = some (.cells (#[.int .i64 ((mo : Nat) : Int)]) 3)) ∧ (W.heap[g6]? = some (.cells (#[.bool false]) 4)) ∧ (W.heap[g19]? = some (.cells (#[.int .i64 ((pre.length : Nat) : Int)]) 3)))) ∧ Ext w W) (OwnFrom.and (Own.from (fun s A B row hs hg hr => ⟨row_kept hs.1 hg hr, row_kept hs.2.1 hg hr, row_kept hs.2.2.1 hg hr, row_kept hs.2.2.2.1 hg hr, hs.2.2.2.2.1, Nat.le_trans hs.2.2.2.2.2 hg.size⟩) _) (ownFrom_below (Nat.le_refl _) x16.size)) (fun c => OwnFrom.and (Own.from (fun s A B row hs hg hr => by rcases hs with h | ⟨h1, h2, h5, h6, h7, h8⟩; exact .inl h; exact .inr ⟨h1, h2, row_kept h5 hg hr, row_kept h6 hg hr, row_kept h7 hg hr, row_kept h8 hg hr⟩) _) (ownFrom_below (Nat.le_refl _) x16.size)) ⟨⟨r4_16, r5_16, r6_16, r19_16, show 0 < mo by omega, Nat.le_refl _⟩, x16⟩ (fun e => KeepC.ext e) (fun pre A B h e => ⟨⟨row_ext h.1.1 e, row_ext h.1.2.1 e, row_ext h.1.2.2.1 e, row_ext h.1.2.2.2.1 e, h.1.2.2.2.2.1, Nat.le_trans h.1.2.2.2.2.2 e.size⟩, Rely.Ext.trans h.2 e⟩) (fun pre W h => h.1.2.2.2.2.2) (fun x g => [(11, .pointer (some ⟨g, 0, none⟩)), (10, .int .i64 (number + ((x : Nat) : Int))), (60, .agg (ints .u8 (pieceV (startW key nonce) (number + ((x : Nat) : Int))))), (59, .int .i64 (number + ((x : Nat) : Int)))]) (fun x => ints .u8 (pieceV (startW key nonce) (number + ((x : Nat) : Int)))) 28 (fun l x W K hK => ?_) (fun l pre x gP Wr hgP hI rP hp => ?_) (fun D ys W lD hS hI rD => ?_) (fun D c pre W lD hSp hIx rD => ?_)
  · skip
    refine wpIn_seq_k fun K301 hK301 => ?_
    refine region_litIn ?_
    refine in_val (.int .i64 (number + ((x : Nat) : Int))) 10 rfl (free_wide l 1 _) rfl kj kj ?_
    refine in_nil ?_
    refine hK301 _ _ ?_
    try clear hK301 K301
    refine region_litIn ?_
    refine in_alloc (ints .u8 (List.replicate 64 0)) 28 11 rfl (free_wide l 1 _) rfl kj kj fun g302 W1 l302 e1 r302_1 => ?_
    have x1 : Ext W W1 := Ext.tr (Rely.Ext.refl W) e1
    have b302 : W.heap.size ≤ g302 := Nat.le_trans (Rely.Ext.refl W).size l302
    refine in_store g302 _ (ints .u8 (pieceV (startW key nonce) (number + ((x : Nat) : Int)))) 28 r302_1 rfl (free_wide l 1 _) rfl kj (run_store_row 28 _ _ g302 28 _ _ r302_1 rfl kj kj (isz (n := 64) kj ((ints_size _ _).trans (pieceV_len _ _))) (eqsz (n := 64) ((ints_size _ _).trans (List.length_replicate (n := 64))) ((ints_size _ _).trans (pieceV_len _ _))) (ints_one _ _)) fun W2 p2 r302_2 => ?_
    have x2 : Ext W W2 := Puts.ext p2 x1 b302
    refine in_nil ?_
    have y0_1 : Ext W W1 := (Rely.Ext.trans (Rely.Ext.refl W) e1)
    have y0_2 : Ext W W2 := (Puts.ext p2 y0_1 l302)
    exact hK _ _ l302 y0_2 r302_2
  · exact absurd hp (Nat.not_lt_zero _)
  · obtain ⟨⟨q2, q3, q4, q9, hlm, -⟩, xx⟩ := hI
    subst hS
    have bD : w.heap.size ≤ D := Nat.le_trans x16.size lD
    refine hK20 _ _ ?_
    try clear hK20 K20
    refine wp_seq_k fun K23 hK23 => ?_
    refine wp_seq_k fun K24 hK24 => ?_
    refine region_lit ?_
    refine seq_val (.int .i64 8) 93 rfl kj kj ?_
    refine seq_val (.bool true) 94 rfl kj kj ?_
    refine seq_nil ?_
    refine hK24 _ _ ?_
    try clear hK24 K24
    refine cond_true kj ?_
    refine wp_seq_k fun K25 hK25 => ?_
    refine region_lit ?_
    refine seq_val (.int .i64 0) 95 rfl kj (run_loadC1 3 _ g19 0 3 _ (.int .i64 0) _ q9 rfl kj kj kj) ?_
    refine seq_val (.bool ((0 == 0))) 96 rfl kj kj ?_
    refine seq_store g6 _ (#[.bool ((0 == 0))]) 4 q4 rfl kj (run_storeC1 4 _ _ g6 0 4 _ (.bool ((0 == 0))) q4 rfl kj kj kj kj kj rfl) fun W18 p18 r6_18 => ?_
    have x18 : Ext w W18 := Puts.ext p18 xx b6
    refine seq_nil ?_
    refine hK25 _ _ ?_
    try clear hK25 K25
    refine wp_ret ?_
    repeat (first | with_reducible refine goR1 ?_ | with_reducible refine goR2 ?_)
    have r22_18 := (Puts.row p18 rD (ne_mark q4 rD))
    exact (show bodyPostM _ _ _ _ _ .ret _ _ from retM1 (.bool ((0 == 0))) rfl r22_18 (res_cell1 g6 4 _ (.bool ((0 == 0))) (putD_row r6_18 r22_18 _) kj kj rfl) ⟨rfl, putD_ext x18 bD r22_18 _⟩)
  · exact hSp.elim
set_option maxRecDepth 100000 in
set_option maxHeartbeats 4000000 in
theorem lawPieces_C (key nonce text : List Int) (a_n a_t : Option Addr) (c_n c_t : Nat) (number : Int) (th tq : TypeId) (w : World) (hh : w.heap[1]? = some (.cells (ints .u32 [1634760805, 857760878, 2036477234, 1797285236]) th)) (hq : w.heap[0]? = some (.cells (ints .i64 [0, 4, 8, 12, 1, 5, 9, 13, 2, 6, 10, 14, 3, 7, 11, 15, 0, 5, 10, 15, 1, 6, 11, 12, 2, 7, 8, 13, 3, 4, 9, 14]) tq)) (hkl : key.length = 32) (hkb : AreBytes key) (hnb : AreBytes nonce) (htb : AreBytes text) (hn : RdK .u8 w.heap.size nonce (.slice a_n nonce.length c_n) w) (ht : RdK .u8 w.heap.size text (.slice a_t text.length c_t) w) (cut : Int) (hs1 : nonce.length ≤ 1000) (hs2 : text.length ≤ 1000) (h : nonce.length = 12) (h1 : 0 ≤ number) (h2 : 4294967295 < number) : Calls Tryd.prog 3 #[.agg (cat [ints .u8 key, #[.slice a_n nonce.length c_n], #[.int .i64 number], #[.slice a_t text.length c_t]]), .int .i64 cut] w (Ret w (.bool true)) := by
  obtain ⟨mo, hmo⟩ : ∃ m : Nat, (m : Int) = 1 + (cut % 18446744073709551616) % 5 := ⟨(1 + (cut % 18446744073709551616) % 5).toNat, by omega⟩
  have hmo0 : 1 ≤ mo := by omega
  refine enterM 104 [(0, .agg (cat [ints .u8 (key), #[.slice a_n nonce.length c_n], #[.int .i64 number], #[.slice a_t text.length c_t]])), (1, .int .i64 cut)] Tryd.func3 rfl rfl kj rfl ?_
  refine wp_seq_k fun K3 hK3 => ?_
  refine region_lit ?_
  refine seq_alloc (cat [ints .u8 (key), #[.slice a_n nonce.length c_n], #[.int .i64 number], #[.slice a_t text.length c_t]]) 26 2 rfl kj kj fun g4 W1 l4 e1 r4_1 => ?_
  have x1 : Ext w W1 := Ext.tr (Rely.Ext.refl w) e1
  have b4 : w.heap.size ≤ g4 := Nat.le_trans (Rely.Ext.refl w).size l4
  refine seq_alloc (#[.int .i64 cut]) 3 3 rfl kj kj fun g5 W2 l5 e2 r5_2 => ?_
  have x2 : Ext w W2 := Ext.tr x1 e2
  have b5 : w.heap.size ≤ g5 := Nat.le_trans x1.size l5
  refine seq_alloc (#[.bool false]) 4 4 rfl kj kj fun g6 W3 l6 e3 r6_3 => ?_
  have x3 : Ext w W3 := Ext.tr x2 e3
  have b6 : w.heap.size ≤ g6 := Nat.le_trans x2.size l6
  refine seq_nil ?_
  refine hK3 _ _ ?_
  try clear hK3 K3
  refine wp_seq_k fun K7 hK7 => ?_
  refine wp_seq_k fun K8 hK8 => ?_
  refine region_lit ?_
  refine seq_call (.bool true) 12 #[] 14 rfl kj kj ((alive03) _) fun W4 e4 => ?_
  have x4 : Ext w W4 := Ext.tr x3 e4
  refine seq_val (.bool false) 15 rfl kj kj ?_
  refine seq_nil ?_
  refine hK8 _ _ ?_
  try clear hK8 K8
  refine cond_false kj ?_
  refine wp_skip ?_
  refine hK7 _ _ ?_
  try clear hK7 K7
  refine wp_seq_k fun K9 hK9 => ?_
  refine wp_seq_k fun K10 hK10 => ?_
  refine region_lit ?_
  have r4_2 := (row_ext r4_1 e2)
  have r4_3 := (row_ext r4_2 e3)
  have r4_4 := (row_ext r4_3 e4)
  refine seq_val (.agg (cat [ints .u8 (key), #[.slice a_n nonce.length c_n], #[.int .i64 number], #[.slice a_t text.length c_t]])) 16 rfl kj (run_load_row 26 _ g4 26 _ _ r4_4 rfl kj kj (isz (n := 35) kj (by rw [cat_cons, cat_cons, cat_cons, cat_cons]; simp only [Array.size_append, cat, ((ints_size _ _).trans hkl)]; rfl))) ?_
  refine seq_call (.bool false) 13 #[.agg (cat [ints .u8 (key), #[.slice a_n nonce.length c_n], #[.int .i64 number], #[.slice a_t text.length c_t]])] 17 rfl kj kj ((large_C key nonce text a_n a_t c_n c_t number _ hkl hs1 hs2)) fun W5 e5 => ?_
  have x5 : Ext w W5 := Ext.tr x4 e5
  refine seq_nil ?_
  refine hK10 _ _ ?_
  try clear hK10 K10
  refine cond_false kj ?_
  refine wp_skip ?_
  refine hK9 _ _ ?_
  try clear hK9 K9
  refine wp_seq_k fun K11 hK11 => ?_
  refine region_lit ?_
  refine seq_val (.pointer (some ⟨g4, 0, none⟩)) 19 rfl kj kj ?_
  have r4_5 := (row_ext r4_4 e5)
  refine seq_val (.agg (ints .u8 (key))) 20 rfl kj (run_load_part 23 _ g4 0 26 _ _ _ r4_5 rfl kj (cat_part [] [ints .u8 (key)] [#[.slice a_n nonce.length c_n], #[.int .i64 number], #[.slice a_t text.length c_t]] 0 kj) kj (isz (n := 32) kj ((ints_size _ _).trans hkl))) ?_
  refine seq_val (.pointer (some ⟨g4, 32, none⟩)) 21 rfl kj kj ?_
  refine seq_val (.slice a_n nonce.length c_n) 22 rfl kj (run_loadC1 24 _ g4 32 26 _ (.slice a_n nonce.length c_n) _ r4_5 rfl kj (cat_part [ints .u8 (key)] [#[.slice a_n nonce.length c_n]] [#[.int .i64 number], #[.slice a_t text.length c_t]] 32 ((ints_size _ _).trans hkl) 0 _ rfl) kj) ?_
  refine seq_val (.pointer (some ⟨g4, 33, none⟩)) 23 rfl kj kj ?_
  refine seq_val (.int .i64 number) 24 rfl kj (run_loadC1 3 _ g4 33 26 _ (.int .i64 number) _ r4_5 rfl kj (cat_part [ints .u8 (key), #[.slice a_n nonce.length c_n]] [#[.int .i64 number]] [#[.slice a_t text.length c_t]] 33 (by rw [cat_cons, cat_cons]; simp only [Array.size_append, cat, ((ints_size _ _).trans hkl)]; rfl) 0 _ rfl) kj) ?_
  have r2_1 := (row_ext hh e1)
  have r2_2 := (row_ext r2_1 e2)
  have r2_3 := (row_ext r2_2 e3)
  have r2_4 := (row_ext r2_3 e4)
  have r2_5 := (row_ext r2_4 e5)
  have r1_1 := (row_ext hq e1)
  have r1_2 := (row_ext r1_1 e2)
  have r1_3 := (row_ext r1_2 e3)
  have r1_4 := (row_ext r1_3 e4)
  have r1_5 := (row_ext r1_4 e5)
  refine seq_call (.tuple #[.agg (ints .u8 (List.replicate 64 0)), .iface 74 (.int .i64 8)]) 14 #[.agg (ints .u8 (key)), .slice a_n nonce.length c_n, .int .i64 number] 25 rfl kj kj ((Piece_C key nonce _ _ number th tq _ r2_5 r1_5 hkl (RdK.ext hn x5) h h1 h2)) fun W6 e6 => ?_
  have x6 : Ext w W6 := Ext.tr x5 e6
  refine seq_val (.tuple #[.agg (ints .u8 (List.replicate 64 0)), .iface 74 (.int .i64 8)]) 18 rfl kj kj ?_
  refine seq_val (.agg (ints .u8 (List.replicate 64 0))) 26 rfl kj kj ?_
  refine seq_val (.iface 74 (.int .i64 8)) 27 rfl kj kj ?_
  refine seq_alloc (ints .u8 (List.replicate 64 0)) 28 5 rfl kj kj fun g12 W7 l12 e7 r12_7 => ?_
  have x7 : Ext w W7 := Ext.tr x6 e7
  have b12 : w.heap.size ≤ g12 := Nat.le_trans x6.size l12
  refine seq_store g12 _ (ints .u8 (List.replicate 64 0)) 28 r12_7 rfl kj (run_store_row 28 _ _ g12 28 _ _ r12_7 rfl kj kj (isz (n := 64) kj ((ints_size _ _).trans (List.length_replicate (n := 64)))) (eqsz (n := 64) ((ints_size _ _).trans (List.length_replicate (n := 64))) ((ints_size _ _).trans (List.length_replicate (n := 64)))) (ints_one _ _)) fun W8 p8 r12_8 => ?_
  have x8 : Ext w W8 := Puts.ext p8 x7 b12
  refine seq_val (.iface 74 (.int .i64 8)) 6 rfl kj kj ?_
  refine seq_nil ?_
  refine hK11 _ _ ?_
  try clear hK11 K11
  refine wp_seq_k fun K13 hK13 => ?_
  refine region_lit ?_
  refine seq_val (.pointer (some ⟨g4, 0, none⟩)) 29 rfl kj kj ?_
  have r4_6 := (row_ext r4_5 e6)
  have r4_7 := (row_ext r4_6 e7)
  have r4_8 := (Puts.row p8 r4_7 (ne_of_old r4_6 l12))
  refine seq_val (.agg (ints .u8 (key))) 30 rfl kj (run_load_part 23 _ g4 0 26 _ _ _ r4_8 rfl kj (cat_part [] [ints .u8 (key)] [#[.slice a_n nonce.length c_n], #[.int .i64 number], #[.slice a_t text.length c_t]] 0 kj) kj (isz (n := 32) kj ((ints_size _ _).trans hkl))) ?_
  refine seq_val (.pointer (some ⟨g4, 32, none⟩)) 31 rfl kj kj ?_
  refine seq_val (.slice a_n nonce.length c_n) 32 rfl kj (run_loadC1 24 _ g4 32 26 _ (.slice a_n nonce.length c_n) _ r4_8 rfl kj (cat_part [ints .u8 (key)] [#[.slice a_n nonce.length c_n]] [#[.int .i64 number], #[.slice a_t text.length c_t]] 32 ((ints_size _ _).trans hkl) 0 _ rfl) kj) ?_
  refine seq_val (.pointer (some ⟨g4, 33, none⟩)) 33 rfl kj kj ?_
  refine seq_val (.int .i64 number) 34 rfl kj (run_loadC1 3 _ g4 33 26 _ (.int .i64 number) _ r4_8 rfl kj (cat_part [ints .u8 (key), #[.slice a_n nonce.length c_n]] [#[.int .i64 number]] [#[.slice a_t text.length c_t]] 33 (by rw [cat_cons, cat_cons]; simp only [Array.size_append, cat, ((ints_size _ _).trans hkl)]; rfl) 0 _ rfl) kj) ?_
  refine seq_call (.tuple #[.agg (ints .u8 (List.replicate 64 0)), .int .i64 8]) 15 #[.agg (ints .u8 (key)), .slice a_n nonce.length c_n, .int .i64 number] 35 rfl kj kj ((rPiece_C key nonce _ _ number _ hkl (RdK.ext hn x8) h h1 h2)) fun W9 e9 => ?_
  have x9 : Ext w W9 := Ext.tr x8 e9
  refine seq_val (.tuple #[.agg (ints .u8 (List.replicate 64 0)), .int .i64 8]) 28 rfl kj kj ?_
  refine seq_val (.agg (ints .u8 (List.replicate 64 0))) 36 rfl kj kj ?_
  refine seq_val (.int .i64 8) 37 rfl kj kj ?_
  refine seq_alloc (ints .u8 (List.replicate 64 0)) 28 7 rfl kj kj fun g14 W10 l14 e10 r14_10 => ?_
  have x10 : Ext w W10 := Ext.tr x9 e10
  have b14 : w.heap.size ≤ g14 := Nat.le_trans x9.size l14
  refine seq_store g14 _ (ints .u8 (List.replicate 64 0)) 28 r14_10 rfl kj (run_store_row 28 _ _ g14 28 _ _ r14_10 rfl kj kj (isz (n := 64) kj ((ints_size _ _).trans (List.length_replicate (n := 64)))) (eqsz (n := 64) ((ints_size _ _).trans (List.length_replicate (n := 64))) ((ints_size _ _).trans (List.length_replicate (n := 64)))) (ints_one _ _)) fun W11 p11 r14_11 => ?_
  have x11 : Ext w W11 := Puts.ext p11 x10 b14
  refine seq_val (.int .i64 8) 8 rfl kj kj ?_
  refine seq_nil ?_
  refine hK13 _ _ ?_
  try clear hK13 K13
  refine wp_seq_k fun K15 hK15 => ?_
  refine wp_seq_k fun K16 hK16 => ?_
  refine region_lit ?_
  have r12_9 := (row_ext r12_8 e9)
  have r12_10 := (row_ext r12_9 e10)
  have r12_11 := (Puts.row p11 r12_10 (ne_of_old r12_9 l14))
  refine seq_val (.agg (ints .u8 (List.replicate 64 0))) 38 rfl kj (run_load_row 28 _ g12 28 _ _ r12_11 rfl kj kj (isz (n := 64) kj ((ints_size _ _).trans (List.length_replicate (n := 64))))) ?_
  refine seq_val (.agg (ints .u8 (List.replicate 64 0))) 39 rfl kj (run_load_row 28 _ g14 28 _ _ r14_11 rfl kj kj (isz (n := 64) kj ((ints_size _ _).trans (List.length_replicate (n := 64))))) ?_
  refine seq_val (.bool false) 40 rfl kj (run_neq_agg 28 _ _ _ _ _ (.bool false) rfl kj kj kj (neq_lists 28 (e := 5) (k := .u8) (List.replicate 64 0) (List.replicate 64 0) (decide_eq_true rfl) (List.length_replicate (n := 64)) (List.length_replicate (n := 64)) kj kj kj _)) ?_
  refine seq_val (.bool false) 41 rfl kj kj ?_
  refine seq_val (.iface 74 (.int .i64 8)) 42 rfl kj kj ?_
  refine seq_call (.int .i64 8) 16 #[.iface 74 (.int .i64 8)] 43 rfl kj kj ((numE 8 (by decide)) _) fun W12 e12 => ?_
  have x12 : Ext w W12 := Ext.tr x11 e12
  refine seq_val (.int .i64 8) 44 rfl kj kj ?_
  refine seq_val (.bool false) 45 rfl kj kj ?_
  refine seq_val (.bool false) 46 rfl kj kj ?_
  refine seq_nil ?_
  refine hK16 _ _ ?_
  try clear hK16 K16
  refine cond_false kj ?_
  refine wp_skip ?_
  refine hK15 _ _ ?_
  try clear hK15 K15
  refine wp_seq_k fun K17 hK17 => ?_
  refine region_lit ?_
  have r5_3 := (row_ext r5_2 e3)
  have r5_4 := (row_ext r5_3 e4)
  have r5_5 := (row_ext r5_4 e5)
  have r5_6 := (row_ext r5_5 e6)
  have r5_7 := (row_ext r5_6 e7)
  have r5_8 := (Puts.row p8 r5_7 (ne_of_old r5_6 l12))
  have r5_9 := (row_ext r5_8 e9)
  have r5_10 := (row_ext r5_9 e10)
  have r5_11 := (Puts.row p11 r5_10 (ne_of_old r5_9 l14))
  have r5_12 := (row_ext r5_11 e12)
  refine seq_val (.int .i64 cut) 47 rfl kj (run_loadC1 3 _ g5 0 3 _ (.int .i64 cut) _ r5_12 rfl kj kj kj) ?_
  refine seq_val (.int .u64 (cut % 18446744073709551616)) 48 rfl kj (run_eq (u := .int .u64 (IntKind.u64.wrap (cut))) kj (congrArg (Value.int .u64) (u64r _))) ?_
  refine seq_val (.int .u64 (((cut % 18446744073709551616) % 5))) 49 rfl kj (run_eq (u := .int .u64 (Int.tmod ((cut % 18446744073709551616)) (5))) kj (congrArg (Value.int .u64) (Int.tmod_eq_emod_of_nonneg (by omega)))) ?_
  refine seq_val (.int .i64 (((cut % 18446744073709551616) % 5))) 50 rfl kj (run_eq (u := .int .i64 (IntKind.i64.wrap (((cut % 18446744073709551616) % 5)))) kj (congrArg (Value.int .i64) (IntWalk.i64_in _ (by omega)))) ?_
  refine seq_val (.int .i64 (((mo : Nat) : Int))) 51 rfl kj (run_eq (u := .int .i64 (IntKind.i64.wrap (1 + ((cut % 18446744073709551616) % 5)))) kj (congrArg (Value.int .i64) (by rw [hmo]; exact IntWalk.i64_in _ (by omega)))) ?_
  refine seq_store g5 _ (#[.int .i64 (((mo : Nat) : Int))]) 3 r5_12 rfl kj (run_storeC1 3 _ _ g5 0 3 _ (.int .i64 (((mo : Nat) : Int))) r5_12 rfl kj kj kj kj kj rfl) fun W13 p13 r5_13 => ?_
  have x13 : Ext w W13 := Puts.ext p13 x12 b5
  refine seq_nil ?_
  refine hK17 _ _ ?_
  try clear hK17 K17
  refine wp_seq_k fun K18 hK18 => ?_
  refine region_lit ?_
  refine seq_alloc (#[.int .i64 0]) 3 9 rfl kj kj fun g19 W14 l19 e14 r19_14 => ?_
  have x14 : Ext w W14 := Ext.tr x13 e14
  have b19 : w.heap.size ≤ g19 := Nat.le_trans x13.size l19
  refine seq_store g19 _ (#[.int .i64 0]) 3 r19_14 rfl kj (run_storeC1 3 _ _ g19 0 3 _ (.int .i64 0) r19_14 rfl kj kj kj kj kj rfl) fun W15 p15 r19_15 => ?_
  have x15 : Ext w W15 := Puts.ext p15 x14 b19
  refine seq_nil ?_
  refine hK18 _ _ ?_
  try clear hK18 K18
  refine wp_seq_k fun K20 hK20 => ?_
  refine wp_seq_k fun K21 hK21 => ?_
  refine region_lit ?_
  refine seq_val (.pointer (some ⟨g4, 0, none⟩)) 52 rfl kj kj ?_
  have r4_9 := (row_ext r4_8 e9)
  have r4_10 := (row_ext r4_9 e10)
  have r4_11 := (Puts.row p11 r4_10 (ne_of_old r4_9 l14))
  have r4_12 := (row_ext r4_11 e12)
  have r4_13 := (Puts.row p13 r4_12 (ne_of_old r4_1 l5))
  have r4_14 := (row_ext r4_13 e14)
  have r4_15 := (Puts.row p15 r4_14 (ne_of_old r4_13 l19))
  refine seq_val (.agg (ints .u8 (key))) 53 rfl kj (run_load_part 23 _ g4 0 26 _ _ _ r4_15 rfl kj (cat_part [] [ints .u8 (key)] [#[.slice a_n nonce.length c_n], #[.int .i64 number], #[.slice a_t text.length c_t]] 0 kj) kj (isz (n := 32) kj ((ints_size _ _).trans hkl))) ?_
  refine seq_val (.pointer (some ⟨g4, 32, none⟩)) 54 rfl kj kj ?_
  refine seq_val (.slice a_n nonce.length c_n) 55 rfl kj (run_loadC1 24 _ g4 32 26 _ (.slice a_n nonce.length c_n) _ r4_15 rfl kj (cat_part [ints .u8 (key)] [#[.slice a_n nonce.length c_n]] [#[.int .i64 number], #[.slice a_t text.length c_t]] 32 ((ints_size _ _).trans hkl) 0 _ rfl) kj) ?_
  refine seq_val (.pointer (some ⟨g4, 33, none⟩)) 56 rfl kj kj ?_
  refine seq_val (.int .i64 number) 57 rfl kj (run_loadC1 3 _ g4 33 26 _ (.int .i64 number) _ r4_15 rfl kj (cat_part [ints .u8 (key), #[.slice a_n nonce.length c_n]] [#[.int .i64 number]] [#[.slice a_t text.length c_t]] 33 (by rw [cat_cons, cat_cons]; simp only [Array.size_append, cat, ((ints_size _ _).trans hkl)]; rfl) 0 _ rfl) kj) ?_
  have r2_6 := (row_ext r2_5 e6)
  have r2_7 := (row_ext r2_6 e7)
  have r2_8 := (Puts.row p8 r2_7 (ne_of_old r2_6 l12))
  have r2_9 := (row_ext r2_8 e9)
  have r2_10 := (row_ext r2_9 e10)
  have r2_11 := (Puts.row p11 r2_10 (ne_of_old r2_9 l14))
  have r2_12 := (row_ext r2_11 e12)
  have r2_13 := (Puts.row p13 r2_12 (ne_of_old r2_1 l5))
  have r2_14 := (row_ext r2_13 e14)
  have r2_15 := (Puts.row p15 r2_14 (ne_of_old r2_13 l19))
  have r1_6 := (row_ext r1_5 e6)
  have r1_7 := (row_ext r1_6 e7)
  have r1_8 := (Puts.row p8 r1_7 (ne_of_old r1_6 l12))
  have r1_9 := (row_ext r1_8 e9)
  have r1_10 := (row_ext r1_9 e10)
  have r1_11 := (Puts.row p11 r1_10 (ne_of_old r1_9 l14))
  have r1_12 := (row_ext r1_11 e12)
  have r1_13 := (Puts.row p13 r1_12 (ne_of_old r1_1 l5))
  have r1_14 := (row_ext r1_13 e14)
  have r1_15 := (Puts.row p15 r1_14 (ne_of_old r1_13 l19))
  refine seq_call (.func (.func 49) #[] #[]) 17 #[.agg (ints .u8 (key)), .slice a_n nonce.length c_n, .int .i64 number] 58 rfl kj kj ((pieces_C key nonce _ _ number th tq _ r2_15 r1_15 hkl (RdK.ext hn x15) h h1 h2)) fun W16 e16 => ?_
  have x16 : Ext w W16 := Ext.tr x15 e16
  refine seq_nil ?_
  refine hK21 _ _ ?_
  try clear hK21 K21
  refine wp_block ?_
  have r4_16 := (row_ext r4_15 e16)
  have r5_14 := (row_ext r5_13 e14)
  have r5_15 := (Puts.row p15 r5_14 (ne_of_old r5_13 l19))
  have r5_16 := (row_ext r5_15 e16)
  have r6_4 := (row_ext r6_3 e4)
  have r6_5 := (row_ext r6_4 e5)
  have r6_6 := (row_ext r6_5 e6)
  have r6_7 := (row_ext r6_6 e7)
  have r6_8 := (Puts.row p8 r6_7 (ne_of_old r6_6 l12))
  have r6_9 := (row_ext r6_8 e9)
  have r6_10 := (row_ext r6_9 e10)
  have r6_11 := (Puts.row p11 r6_10 (ne_of_old r6_9 l14))
  have r6_12 := (row_ext r6_11 e12)
  have r6_13 := (Puts.row p13 r6_12 (ne_of_new r5_2 l6))
  have r6_14 := (row_ext r6_13 e14)
  have r6_15 := (Puts.row p15 r6_14 (ne_of_old r6_13 l19))
  have r6_16 := (row_ext r6_15 e16)
  have r19_16 := (row_ext r19_15 e16)
  have r1_16 := (row_ext r1_15 e16)
  have nb23 : g4 ≠ g5 := (ne_of_old r4_1 l5)
  have nb24 : g4 ≠ g6 := (ne_of_old r4_2 l6)
  have nb29 : g4 ≠ g19 := (ne_of_old r4_13 l19)
  have nb32 : g5 ≠ g4 := (ne_of_new r4_1 l5)
  have nb34 : g5 ≠ g6 := (ne_of_old r5_2 l6)
  have nb39 : g5 ≠ g19 := (ne_of_old r5_13 l19)
  have nb42 : g6 ≠ g4 := (ne_of_new r4_2 l6)
  have nb43 : g6 ≠ g5 := (ne_of_new r5_2 l6)
  have nb49 : g6 ≠ g19 := (ne_of_old r6_13 l19)
  have nb92 : g19 ≠ g4 := (ne_of_new r4_13 l19)
  have nb93 : g19 ≠ g5 := (ne_of_new r5_13 l19)
  have nb94 : g19 ≠ g6 := (ne_of_new r6_13 l19)
  refine range_autoJ (gf := 49) (lb := #[]) (enc := fun x : Nat => .int .i64 (number + ((x : Nat) : Int))) (enc2 := fun x : Nat => .agg (ints .u8 (pieceV (startW key nonce) (number + ((x : Nat) : Int))))) kj (enters_of Tryd.func49 kj rfl) (nopieces_stops 2 [g19] (startW key nonce) number W16) (fun h k => KeepC.trans h k) KeepC.book (Below.refl _ _)
      (fun pre W => ((W.heap[g4]? = some (.cells (cat [ints .u8 (key), #[.slice a_n nonce.length c_n], #[.int .i64 number], #[.slice a_t text.length c_t]]) 26)) ∧ (W.heap[g5]? = some (.cells (#[.int .i64 ((mo : Nat) : Int)]) 3)) ∧ (W.heap[g6]? = some (.cells (#[.bool false]) 4)) ∧ (W.heap[g19]? = some (.cells (#[.int .i64 ((pre.length : Nat) : Int)]) 3)) ∧ pre.length < mo ∧ W16.heap.size ≤ W.heap.size) ∧ Ext w W)
      (fun c pre W => ((c = .ret ∧ ∃ q z, pre = q ++ [z] ∧ z ≠ q.length) ∨ (c = .exit 0 ∧ pre.length = mo ∧ (W.heap[g4]? = some (.cells (cat [ints .u8 (key), #[.slice a_n nonce.length c_n], #[.int .i64 number], #[.slice a_t text.length c_t]]) 26)) ∧ (W.heap[g5]? = some (.cells (#[.int .i64 ((mo : Nat) : Int)]) 3)) ∧ (W.heap[g6]? = some (.cells (#[.bool false]) 4)) ∧ (W.heap[g19]? = some (.cells (#[.int .i64 ((pre.length : Nat) : Int)]) 3)))) ∧ Ext w W) (OwnFrom.and (Own.from (fun s A B row hs hg hr => ⟨row_kept hs.1 hg hr, row_kept hs.2.1 hg hr, row_kept hs.2.2.1 hg hr, row_kept hs.2.2.2.1 hg hr, hs.2.2.2.2.1, Nat.le_trans hs.2.2.2.2.2 hg.size⟩) _) (ownFrom_below (Nat.le_refl _) x16.size)) (fun c => OwnFrom.and (Own.from (fun s A B row hs hg hr => by rcases hs with h | ⟨h1, h2, h5, h6, h7, h8⟩; exact .inl h; exact .inr ⟨h1, h2, row_kept h5 hg hr, row_kept h6 hg hr, row_kept h7 hg hr, row_kept h8 hg hr⟩) _) (ownFrom_below (Nat.le_refl _) x16.size)) ⟨⟨r4_16, r5_16, r6_16, r19_16, show 0 < mo by omega, Nat.le_refl _⟩, x16⟩ (fun e => KeepC.ext e) (fun pre A B h e => ⟨⟨row_ext h.1.1 e, row_ext h.1.2.1 e, row_ext h.1.2.2.1 e, row_ext h.1.2.2.2.1 e, h.1.2.2.2.2.1, Nat.le_trans h.1.2.2.2.2.2 e.size⟩, Rely.Ext.trans h.2 e⟩) (fun pre W h => h.1.2.2.2.2.2) (fun x g => [(11, .pointer (some ⟨g, 0, none⟩)), (10, .int .i64 (number + ((x : Nat) : Int))), (60, .agg (ints .u8 (pieceV (startW key nonce) (number + ((x : Nat) : Int))))), (59, .int .i64 (number + ((x : Nat) : Int)))]) (fun x => ints .u8 (pieceV (startW key nonce) (number + ((x : Nat) : Int)))) 28 (fun l x W K hK => ?_) (fun l pre x gP Wr hgP hI rP hp => ?_) (fun D ys W lD hS hI rD => ?_) (fun D c pre W lD hSp hIx rD => ?_)
  · skip
    refine wpIn_seq_k fun K301 hK301 => ?_
    refine region_litIn ?_
    refine in_val (.int .i64 (number + ((x : Nat) : Int))) 10 rfl (free_wide l 1 _) rfl kj kj ?_
    refine in_nil ?_
    refine hK301 _ _ ?_
    try clear hK301 K301
    refine region_litIn ?_
    refine in_alloc (ints .u8 (List.replicate 64 0)) 28 11 rfl (free_wide l 1 _) rfl kj kj fun g302 W1 l302 e1 r302_1 => ?_
    have x1 : Ext W W1 := Ext.tr (Rely.Ext.refl W) e1
    have b302 : W.heap.size ≤ g302 := Nat.le_trans (Rely.Ext.refl W).size l302
    refine in_store g302 _ (ints .u8 (pieceV (startW key nonce) (number + ((x : Nat) : Int)))) 28 r302_1 rfl (free_wide l 1 _) rfl kj (run_store_row 28 _ _ g302 28 _ _ r302_1 rfl kj kj (isz (n := 64) kj ((ints_size _ _).trans (pieceV_len _ _))) (eqsz (n := 64) ((ints_size _ _).trans (List.length_replicate (n := 64))) ((ints_size _ _).trans (pieceV_len _ _))) (ints_one _ _)) fun W2 p2 r302_2 => ?_
    have x2 : Ext W W2 := Puts.ext p2 x1 b302
    refine in_nil ?_
    have y0_1 : Ext W W1 := (Rely.Ext.trans (Rely.Ext.refl W) e1)
    have y0_2 : Ext W W2 := (Puts.ext p2 y0_1 l302)
    exact hK _ _ l302 y0_2 r302_2
  · exact absurd hp (Nat.not_lt_zero _)
  · obtain ⟨⟨q2, q3, q4, q9, hlm, -⟩, xx⟩ := hI
    subst hS
    have bD : w.heap.size ≤ D := Nat.le_trans x16.size lD
    refine hK20 _ _ ?_
    try clear hK20 K20
    refine wp_seq_k fun K23 hK23 => ?_
    refine wp_seq_k fun K24 hK24 => ?_
    refine region_lit ?_
    refine seq_val (.int .i64 8) 93 rfl kj kj ?_
    refine seq_val (.bool true) 94 rfl kj kj ?_
    refine seq_nil ?_
    refine hK24 _ _ ?_
    try clear hK24 K24
    refine cond_true kj ?_
    refine wp_seq_k fun K25 hK25 => ?_
    refine region_lit ?_
    refine seq_val (.int .i64 0) 95 rfl kj (run_loadC1 3 _ g19 0 3 _ (.int .i64 0) _ q9 rfl kj kj kj) ?_
    refine seq_val (.bool ((0 == 0))) 96 rfl kj kj ?_
    refine seq_store g6 _ (#[.bool ((0 == 0))]) 4 q4 rfl kj (run_storeC1 4 _ _ g6 0 4 _ (.bool ((0 == 0))) q4 rfl kj kj kj kj kj rfl) fun W18 p18 r6_18 => ?_
    have x18 : Ext w W18 := Puts.ext p18 xx b6
    refine seq_nil ?_
    refine hK25 _ _ ?_
    try clear hK25 K25
    refine wp_ret ?_
    repeat (first | with_reducible refine goR1 ?_ | with_reducible refine goR2 ?_)
    have r22_18 := (Puts.row p18 rD (ne_mark q4 rD))
    exact (show bodyPostM _ _ _ _ _ .ret _ _ from retM1 (.bool ((0 == 0))) rfl r22_18 (res_cell1 g6 4 _ (.bool ((0 == 0))) (putD_row r6_18 r22_18 _) kj kj rfl) ⟨rfl, putD_ext x18 bD r22_18 _⟩)
  · exact hSp.elim
set_option maxRecDepth 100000 in
set_option maxHeartbeats 4000000 in
theorem lawPieces_D (key nonce text : List Int) (a_n a_t : Option Addr) (c_n c_t : Nat) (number : Int) (th tq : TypeId) (w : World) (hh : w.heap[1]? = some (.cells (ints .u32 [1634760805, 857760878, 2036477234, 1797285236]) th)) (hq : w.heap[0]? = some (.cells (ints .i64 [0, 4, 8, 12, 1, 5, 9, 13, 2, 6, 10, 14, 3, 7, 11, 15, 0, 5, 10, 15, 1, 6, 11, 12, 2, 7, 8, 13, 3, 4, 9, 14]) tq)) (hkl : key.length = 32) (hkb : AreBytes key) (hnb : AreBytes nonce) (htb : AreBytes text) (hn : RdK .u8 w.heap.size nonce (.slice a_n nonce.length c_n) w) (ht : RdK .u8 w.heap.size text (.slice a_t text.length c_t) w) (cut : Int) (hs1 : nonce.length ≤ 1000) (hs2 : text.length ≤ 1000) (h : nonce.length = 12) (r : Nat) (hr : number + (r : Int) = 4294967296) (h1 : 0 ≤ number) (h2 : number ≤ 4294967295) : Calls Tryd.prog 3 #[.agg (cat [ints .u8 key, #[.slice a_n nonce.length c_n], #[.int .i64 number], #[.slice a_t text.length c_t]]), .int .i64 cut] w (Ret w (.bool true)) := by
  obtain ⟨mo, hmo⟩ : ∃ m : Nat, (m : Int) = 1 + (cut % 18446744073709551616) % 5 := ⟨(1 + (cut % 18446744073709551616) % 5).toNat, by omega⟩
  have hmo0 : 1 ≤ mo := by omega
  refine enterM 104 [(0, .agg (cat [ints .u8 (key), #[.slice a_n nonce.length c_n], #[.int .i64 number], #[.slice a_t text.length c_t]])), (1, .int .i64 cut)] Tryd.func3 rfl rfl kj rfl ?_
  refine wp_seq_k fun K3 hK3 => ?_
  refine region_lit ?_
  refine seq_alloc (cat [ints .u8 (key), #[.slice a_n nonce.length c_n], #[.int .i64 number], #[.slice a_t text.length c_t]]) 26 2 rfl kj kj fun g4 W1 l4 e1 r4_1 => ?_
  have x1 : Ext w W1 := Ext.tr (Rely.Ext.refl w) e1
  have b4 : w.heap.size ≤ g4 := Nat.le_trans (Rely.Ext.refl w).size l4
  refine seq_alloc (#[.int .i64 cut]) 3 3 rfl kj kj fun g5 W2 l5 e2 r5_2 => ?_
  have x2 : Ext w W2 := Ext.tr x1 e2
  have b5 : w.heap.size ≤ g5 := Nat.le_trans x1.size l5
  refine seq_alloc (#[.bool false]) 4 4 rfl kj kj fun g6 W3 l6 e3 r6_3 => ?_
  have x3 : Ext w W3 := Ext.tr x2 e3
  have b6 : w.heap.size ≤ g6 := Nat.le_trans x2.size l6
  refine seq_nil ?_
  refine hK3 _ _ ?_
  try clear hK3 K3
  refine wp_seq_k fun K7 hK7 => ?_
  refine wp_seq_k fun K8 hK8 => ?_
  refine region_lit ?_
  refine seq_call (.bool true) 12 #[] 14 rfl kj kj ((alive03) _) fun W4 e4 => ?_
  have x4 : Ext w W4 := Ext.tr x3 e4
  refine seq_val (.bool false) 15 rfl kj kj ?_
  refine seq_nil ?_
  refine hK8 _ _ ?_
  try clear hK8 K8
  refine cond_false kj ?_
  refine wp_skip ?_
  refine hK7 _ _ ?_
  try clear hK7 K7
  refine wp_seq_k fun K9 hK9 => ?_
  refine wp_seq_k fun K10 hK10 => ?_
  refine region_lit ?_
  have r4_2 := (row_ext r4_1 e2)
  have r4_3 := (row_ext r4_2 e3)
  have r4_4 := (row_ext r4_3 e4)
  refine seq_val (.agg (cat [ints .u8 (key), #[.slice a_n nonce.length c_n], #[.int .i64 number], #[.slice a_t text.length c_t]])) 16 rfl kj (run_load_row 26 _ g4 26 _ _ r4_4 rfl kj kj (isz (n := 35) kj (by rw [cat_cons, cat_cons, cat_cons, cat_cons]; simp only [Array.size_append, cat, ((ints_size _ _).trans hkl)]; rfl))) ?_
  refine seq_call (.bool false) 13 #[.agg (cat [ints .u8 (key), #[.slice a_n nonce.length c_n], #[.int .i64 number], #[.slice a_t text.length c_t]])] 17 rfl kj kj ((large_C key nonce text a_n a_t c_n c_t number _ hkl hs1 hs2)) fun W5 e5 => ?_
  have x5 : Ext w W5 := Ext.tr x4 e5
  refine seq_nil ?_
  refine hK10 _ _ ?_
  try clear hK10 K10
  refine cond_false kj ?_
  refine wp_skip ?_
  refine hK9 _ _ ?_
  try clear hK9 K9
  refine wp_seq_k fun K11 hK11 => ?_
  refine region_lit ?_
  refine seq_val (.pointer (some ⟨g4, 0, none⟩)) 19 rfl kj kj ?_
  have r4_5 := (row_ext r4_4 e5)
  refine seq_val (.agg (ints .u8 (key))) 20 rfl kj (run_load_part 23 _ g4 0 26 _ _ _ r4_5 rfl kj (cat_part [] [ints .u8 (key)] [#[.slice a_n nonce.length c_n], #[.int .i64 number], #[.slice a_t text.length c_t]] 0 kj) kj (isz (n := 32) kj ((ints_size _ _).trans hkl))) ?_
  refine seq_val (.pointer (some ⟨g4, 32, none⟩)) 21 rfl kj kj ?_
  refine seq_val (.slice a_n nonce.length c_n) 22 rfl kj (run_loadC1 24 _ g4 32 26 _ (.slice a_n nonce.length c_n) _ r4_5 rfl kj (cat_part [ints .u8 (key)] [#[.slice a_n nonce.length c_n]] [#[.int .i64 number], #[.slice a_t text.length c_t]] 32 ((ints_size _ _).trans hkl) 0 _ rfl) kj) ?_
  refine seq_val (.pointer (some ⟨g4, 33, none⟩)) 23 rfl kj kj ?_
  refine seq_val (.int .i64 number) 24 rfl kj (run_loadC1 3 _ g4 33 26 _ (.int .i64 number) _ r4_5 rfl kj (cat_part [ints .u8 (key), #[.slice a_n nonce.length c_n]] [#[.int .i64 number]] [#[.slice a_t text.length c_t]] 33 (by rw [cat_cons, cat_cons]; simp only [Array.size_append, cat, ((ints_size _ _).trans hkl)]; rfl) 0 _ rfl) kj) ?_
  have r2_1 := (row_ext hh e1)
  have r2_2 := (row_ext r2_1 e2)
  have r2_3 := (row_ext r2_2 e3)
  have r2_4 := (row_ext r2_3 e4)
  have r2_5 := (row_ext r2_4 e5)
  have r1_1 := (row_ext hq e1)
  have r1_2 := (row_ext r1_1 e2)
  have r1_3 := (row_ext r1_2 e3)
  have r1_4 := (row_ext r1_3 e4)
  have r1_5 := (row_ext r1_4 e5)
  refine seq_call (.tuple #[.agg (ints .u8 (pieceV (startW key nonce) (number))), .nilIface]) 14 #[.agg (ints .u8 (key)), .slice a_n nonce.length c_n, .int .i64 number] 25 rfl kj kj ((Piece_D key nonce _ _ number th tq _ r2_5 r1_5 hkl (RdK.ext hn x5) h h1 h2)) fun W6 e6 => ?_
  have x6 : Ext w W6 := Ext.tr x5 e6
  refine seq_val (.tuple #[.agg (ints .u8 (pieceV (startW key nonce) (number))), .nilIface]) 18 rfl kj kj ?_
  refine seq_val (.agg (ints .u8 (pieceV (startW key nonce) (number)))) 26 rfl kj kj ?_
  refine seq_val (.nilIface) 27 rfl kj kj ?_
  refine seq_alloc (ints .u8 (List.replicate 64 0)) 28 5 rfl kj kj fun g12 W7 l12 e7 r12_7 => ?_
  have x7 : Ext w W7 := Ext.tr x6 e7
  have b12 : w.heap.size ≤ g12 := Nat.le_trans x6.size l12
  refine seq_store g12 _ (ints .u8 (pieceV (startW key nonce) (number))) 28 r12_7 rfl kj (run_store_row 28 _ _ g12 28 _ _ r12_7 rfl kj kj (isz (n := 64) kj ((ints_size _ _).trans (pieceV_len _ _))) (eqsz (n := 64) ((ints_size _ _).trans (List.length_replicate (n := 64))) ((ints_size _ _).trans (pieceV_len _ _))) (ints_one _ _)) fun W8 p8 r12_8 => ?_
  have x8 : Ext w W8 := Puts.ext p8 x7 b12
  refine seq_val (.nilIface) 6 rfl kj kj ?_
  refine seq_nil ?_
  refine hK11 _ _ ?_
  try clear hK11 K11
  refine wp_seq_k fun K13 hK13 => ?_
  refine region_lit ?_
  refine seq_val (.pointer (some ⟨g4, 0, none⟩)) 29 rfl kj kj ?_
  have r4_6 := (row_ext r4_5 e6)
  have r4_7 := (row_ext r4_6 e7)
  have r4_8 := (Puts.row p8 r4_7 (ne_of_old r4_6 l12))
  refine seq_val (.agg (ints .u8 (key))) 30 rfl kj (run_load_part 23 _ g4 0 26 _ _ _ r4_8 rfl kj (cat_part [] [ints .u8 (key)] [#[.slice a_n nonce.length c_n], #[.int .i64 number], #[.slice a_t text.length c_t]] 0 kj) kj (isz (n := 32) kj ((ints_size _ _).trans hkl))) ?_
  refine seq_val (.pointer (some ⟨g4, 32, none⟩)) 31 rfl kj kj ?_
  refine seq_val (.slice a_n nonce.length c_n) 32 rfl kj (run_loadC1 24 _ g4 32 26 _ (.slice a_n nonce.length c_n) _ r4_8 rfl kj (cat_part [ints .u8 (key)] [#[.slice a_n nonce.length c_n]] [#[.int .i64 number], #[.slice a_t text.length c_t]] 32 ((ints_size _ _).trans hkl) 0 _ rfl) kj) ?_
  refine seq_val (.pointer (some ⟨g4, 33, none⟩)) 33 rfl kj kj ?_
  refine seq_val (.int .i64 number) 34 rfl kj (run_loadC1 3 _ g4 33 26 _ (.int .i64 number) _ r4_8 rfl kj (cat_part [ints .u8 (key), #[.slice a_n nonce.length c_n]] [#[.int .i64 number]] [#[.slice a_t text.length c_t]] 33 (by rw [cat_cons, cat_cons]; simp only [Array.size_append, cat, ((ints_size _ _).trans hkl)]; rfl) 0 _ rfl) kj) ?_
  refine seq_call (.tuple #[.agg (ints .u8 (pieceV (startW key nonce) (number))), .int .i64 0]) 15 #[.agg (ints .u8 (key)), .slice a_n nonce.length c_n, .int .i64 number] 35 rfl kj kj ((rPiece_D key nonce _ _ number _ hkl (RdK.ext hn x8) h h1 h2 hkb hnb)) fun W9 e9 => ?_
  have x9 : Ext w W9 := Ext.tr x8 e9
  refine seq_val (.tuple #[.agg (ints .u8 (pieceV (startW key nonce) (number))), .int .i64 0]) 28 rfl kj kj ?_
  refine seq_val (.agg (ints .u8 (pieceV (startW key nonce) (number)))) 36 rfl kj kj ?_
  refine seq_val (.int .i64 0) 37 rfl kj kj ?_
  refine seq_alloc (ints .u8 (List.replicate 64 0)) 28 7 rfl kj kj fun g14 W10 l14 e10 r14_10 => ?_
  have x10 : Ext w W10 := Ext.tr x9 e10
  have b14 : w.heap.size ≤ g14 := Nat.le_trans x9.size l14
  refine seq_store g14 _ (ints .u8 (pieceV (startW key nonce) (number))) 28 r14_10 rfl kj (run_store_row 28 _ _ g14 28 _ _ r14_10 rfl kj kj (isz (n := 64) kj ((ints_size _ _).trans (pieceV_len _ _))) (eqsz (n := 64) ((ints_size _ _).trans (List.length_replicate (n := 64))) ((ints_size _ _).trans (pieceV_len _ _))) (ints_one _ _)) fun W11 p11 r14_11 => ?_
  have x11 : Ext w W11 := Puts.ext p11 x10 b14
  refine seq_val (.int .i64 0) 8 rfl kj kj ?_
  refine seq_nil ?_
  refine hK13 _ _ ?_
  try clear hK13 K13
  refine wp_seq_k fun K15 hK15 => ?_
  refine wp_seq_k fun K16 hK16 => ?_
  refine region_lit ?_
  have r12_9 := (row_ext r12_8 e9)
  have r12_10 := (row_ext r12_9 e10)
  have r12_11 := (Puts.row p11 r12_10 (ne_of_old r12_9 l14))
  refine seq_val (.agg (ints .u8 (pieceV (startW key nonce) (number)))) 38 rfl kj (run_load_row 28 _ g12 28 _ _ r12_11 rfl kj kj (isz (n := 64) kj ((ints_size _ _).trans (pieceV_len _ _)))) ?_
  refine seq_val (.agg (ints .u8 (pieceV (startW key nonce) (number)))) 39 rfl kj (run_load_row 28 _ g14 28 _ _ r14_11 rfl kj kj (isz (n := 64) kj ((ints_size _ _).trans (pieceV_len _ _)))) ?_
  refine seq_val (.bool false) 40 rfl kj (run_neq_agg 28 _ _ _ _ _ (.bool false) rfl kj kj kj (neq_lists 28 (e := 5) (k := .u8) (pieceV (startW key nonce) (number)) (pieceV (startW key nonce) (number)) (decide_eq_true rfl) (pieceV_len _ _) (pieceV_len _ _) kj kj kj _)) ?_
  refine seq_val (.bool false) 41 rfl kj kj ?_
  refine seq_val (.nilIface) 42 rfl kj kj ?_
  refine seq_call (.int .i64 0) 16 #[.nilIface] 43 rfl kj kj ((numZ) _) fun W12 e12 => ?_
  have x12 : Ext w W12 := Ext.tr x11 e12
  refine seq_val (.int .i64 0) 44 rfl kj kj ?_
  refine seq_val (.bool false) 45 rfl kj kj ?_
  refine seq_val (.bool false) 46 rfl kj kj ?_
  refine seq_nil ?_
  refine hK16 _ _ ?_
  try clear hK16 K16
  refine cond_false kj ?_
  refine wp_skip ?_
  refine hK15 _ _ ?_
  try clear hK15 K15
  refine wp_seq_k fun K17 hK17 => ?_
  refine region_lit ?_
  have r5_3 := (row_ext r5_2 e3)
  have r5_4 := (row_ext r5_3 e4)
  have r5_5 := (row_ext r5_4 e5)
  have r5_6 := (row_ext r5_5 e6)
  have r5_7 := (row_ext r5_6 e7)
  have r5_8 := (Puts.row p8 r5_7 (ne_of_old r5_6 l12))
  have r5_9 := (row_ext r5_8 e9)
  have r5_10 := (row_ext r5_9 e10)
  have r5_11 := (Puts.row p11 r5_10 (ne_of_old r5_9 l14))
  have r5_12 := (row_ext r5_11 e12)
  refine seq_val (.int .i64 cut) 47 rfl kj (run_loadC1 3 _ g5 0 3 _ (.int .i64 cut) _ r5_12 rfl kj kj kj) ?_
  refine seq_val (.int .u64 (cut % 18446744073709551616)) 48 rfl kj (run_eq (u := .int .u64 (IntKind.u64.wrap (cut))) kj (congrArg (Value.int .u64) (u64r _))) ?_
  refine seq_val (.int .u64 (((cut % 18446744073709551616) % 5))) 49 rfl kj (run_eq (u := .int .u64 (Int.tmod ((cut % 18446744073709551616)) (5))) kj (congrArg (Value.int .u64) (Int.tmod_eq_emod_of_nonneg (by omega)))) ?_
  refine seq_val (.int .i64 (((cut % 18446744073709551616) % 5))) 50 rfl kj (run_eq (u := .int .i64 (IntKind.i64.wrap (((cut % 18446744073709551616) % 5)))) kj (congrArg (Value.int .i64) (IntWalk.i64_in _ (by omega)))) ?_
  refine seq_val (.int .i64 (((mo : Nat) : Int))) 51 rfl kj (run_eq (u := .int .i64 (IntKind.i64.wrap (1 + ((cut % 18446744073709551616) % 5)))) kj (congrArg (Value.int .i64) (by rw [hmo]; exact IntWalk.i64_in _ (by omega)))) ?_
  refine seq_store g5 _ (#[.int .i64 (((mo : Nat) : Int))]) 3 r5_12 rfl kj (run_storeC1 3 _ _ g5 0 3 _ (.int .i64 (((mo : Nat) : Int))) r5_12 rfl kj kj kj kj kj rfl) fun W13 p13 r5_13 => ?_
  have x13 : Ext w W13 := Puts.ext p13 x12 b5
  refine seq_nil ?_
  refine hK17 _ _ ?_
  try clear hK17 K17
  refine wp_seq_k fun K18 hK18 => ?_
  refine region_lit ?_
  refine seq_alloc (#[.int .i64 0]) 3 9 rfl kj kj fun g19 W14 l19 e14 r19_14 => ?_
  have x14 : Ext w W14 := Ext.tr x13 e14
  have b19 : w.heap.size ≤ g19 := Nat.le_trans x13.size l19
  refine seq_store g19 _ (#[.int .i64 0]) 3 r19_14 rfl kj (run_storeC1 3 _ _ g19 0 3 _ (.int .i64 0) r19_14 rfl kj kj kj kj kj rfl) fun W15 p15 r19_15 => ?_
  have x15 : Ext w W15 := Puts.ext p15 x14 b19
  refine seq_nil ?_
  refine hK18 _ _ ?_
  try clear hK18 K18
  refine wp_seq_k fun K20 hK20 => ?_
  refine wp_seq_k fun K21 hK21 => ?_
  refine region_lit ?_
  refine seq_val (.pointer (some ⟨g4, 0, none⟩)) 52 rfl kj kj ?_
  have r4_9 := (row_ext r4_8 e9)
  have r4_10 := (row_ext r4_9 e10)
  have r4_11 := (Puts.row p11 r4_10 (ne_of_old r4_9 l14))
  have r4_12 := (row_ext r4_11 e12)
  have r4_13 := (Puts.row p13 r4_12 (ne_of_old r4_1 l5))
  have r4_14 := (row_ext r4_13 e14)
  have r4_15 := (Puts.row p15 r4_14 (ne_of_old r4_13 l19))
  refine seq_val (.agg (ints .u8 (key))) 53 rfl kj (run_load_part 23 _ g4 0 26 _ _ _ r4_15 rfl kj (cat_part [] [ints .u8 (key)] [#[.slice a_n nonce.length c_n], #[.int .i64 number], #[.slice a_t text.length c_t]] 0 kj) kj (isz (n := 32) kj ((ints_size _ _).trans hkl))) ?_
  refine seq_val (.pointer (some ⟨g4, 32, none⟩)) 54 rfl kj kj ?_
  refine seq_val (.slice a_n nonce.length c_n) 55 rfl kj (run_loadC1 24 _ g4 32 26 _ (.slice a_n nonce.length c_n) _ r4_15 rfl kj (cat_part [ints .u8 (key)] [#[.slice a_n nonce.length c_n]] [#[.int .i64 number], #[.slice a_t text.length c_t]] 32 ((ints_size _ _).trans hkl) 0 _ rfl) kj) ?_
  refine seq_val (.pointer (some ⟨g4, 33, none⟩)) 56 rfl kj kj ?_
  refine seq_val (.int .i64 number) 57 rfl kj (run_loadC1 3 _ g4 33 26 _ (.int .i64 number) _ r4_15 rfl kj (cat_part [ints .u8 (key), #[.slice a_n nonce.length c_n]] [#[.int .i64 number]] [#[.slice a_t text.length c_t]] 33 (by rw [cat_cons, cat_cons]; simp only [Array.size_append, cat, ((ints_size _ _).trans hkl)]; rfl) 0 _ rfl) kj) ?_
  have r2_6 := (row_ext r2_5 e6)
  have r2_7 := (row_ext r2_6 e7)
  have r2_8 := (Puts.row p8 r2_7 (ne_of_old r2_6 l12))
  have r2_9 := (row_ext r2_8 e9)
  have r2_10 := (row_ext r2_9 e10)
  have r2_11 := (Puts.row p11 r2_10 (ne_of_old r2_9 l14))
  have r2_12 := (row_ext r2_11 e12)
  have r2_13 := (Puts.row p13 r2_12 (ne_of_old r2_1 l5))
  have r2_14 := (row_ext r2_13 e14)
  have r2_15 := (Puts.row p15 r2_14 (ne_of_old r2_13 l19))
  have r1_6 := (row_ext r1_5 e6)
  have r1_7 := (row_ext r1_6 e7)
  have r1_8 := (Puts.row p8 r1_7 (ne_of_old r1_6 l12))
  have r1_9 := (row_ext r1_8 e9)
  have r1_10 := (row_ext r1_9 e10)
  have r1_11 := (Puts.row p11 r1_10 (ne_of_old r1_9 l14))
  have r1_12 := (row_ext r1_11 e12)
  have r1_13 := (Puts.row p13 r1_12 (ne_of_old r1_1 l5))
  have r1_14 := (row_ext r1_13 e14)
  have r1_15 := (Puts.row p15 r1_14 (ne_of_old r1_13 l19))
  refine seq_callR (fun v W' => (fun v W => ∃ g1 g2, v = .func (.func 50) #[] #[.pointer (some ⟨g1, 0, none⟩), .pointer (some ⟨g2, 0, none⟩)] ∧ W15.heap.size ≤ g1 ∧ W15.heap.size ≤ g2 ∧ W.heap[g1]? = some (.cells #[.int .i64 number] 3) ∧ W.heap[g2]? = some (.cells (ints .u32 ((startW key nonce).map wv)) 69)) v W' ∧ Ext W15 W') 17 #[.agg (ints .u8 (key)), .slice a_n nonce.length c_n, .int .i64 number] 58 rfl kj kj ((pieces_D key nonce _ _ number th tq _ r2_15 r1_15 hkl (RdK.ext hn x15) h h1 h2).mono (by rintro e w' ⟨v, rfl, e1, hv⟩; exact ⟨v, rfl, hv, e1⟩)) fun vv22 W16 hh22 => ?_
  obtain ⟨hv22, e16⟩ := hh22
  have x16 : Ext w W16 := Ext.tr x15 e16
  obtain ⟨gp1, gp2, rfl, lp1, lp2, rp1, rp2⟩ := hv22
  refine seq_nil ?_
  refine hK21 _ _ ?_
  try clear hK21 K21
  refine wp_block ?_
  have r4_16 := (row_ext r4_15 e16)
  have r5_14 := (row_ext r5_13 e14)
  have r5_15 := (Puts.row p15 r5_14 (ne_of_old r5_13 l19))
  have r5_16 := (row_ext r5_15 e16)
  have r6_4 := (row_ext r6_3 e4)
  have r6_5 := (row_ext r6_4 e5)
  have r6_6 := (row_ext r6_5 e6)
  have r6_7 := (row_ext r6_6 e7)
  have r6_8 := (Puts.row p8 r6_7 (ne_of_old r6_6 l12))
  have r6_9 := (row_ext r6_8 e9)
  have r6_10 := (row_ext r6_9 e10)
  have r6_11 := (Puts.row p11 r6_10 (ne_of_old r6_9 l14))
  have r6_12 := (row_ext r6_11 e12)
  have r6_13 := (Puts.row p13 r6_12 (ne_of_new r5_2 l6))
  have r6_14 := (row_ext r6_13 e14)
  have r6_15 := (Puts.row p15 r6_14 (ne_of_old r6_13 l19))
  have r6_16 := (row_ext r6_15 e16)
  have r19_16 := (row_ext r19_15 e16)
  have r1_16 := (row_ext r1_15 e16)
  have nb23 : g4 ≠ g5 := (ne_of_old r4_1 l5)
  have nb24 : g4 ≠ g6 := (ne_of_old r4_2 l6)
  have nb29 : g4 ≠ g19 := (ne_of_old r4_13 l19)
  have nb32 : g5 ≠ g4 := (ne_of_new r4_1 l5)
  have nb34 : g5 ≠ g6 := (ne_of_old r5_2 l6)
  have nb39 : g5 ≠ g19 := (ne_of_old r5_13 l19)
  have nb42 : g6 ≠ g4 := (ne_of_new r4_2 l6)
  have nb43 : g6 ≠ g5 := (ne_of_new r5_2 l6)
  have nb49 : g6 ≠ g19 := (ne_of_old r6_13 l19)
  have nb92 : g19 ≠ g4 := (ne_of_new r4_13 l19)
  have nb93 : g19 ≠ g5 := (ne_of_new r5_13 l19)
  have nb94 : g19 ≠ g6 := (ne_of_new r6_13 l19)
  refine range_autoJ (gf := 50) (lb := #[.pointer (some ⟨gp1, 0, none⟩), .pointer (some ⟨gp2, 0, none⟩)]) (enc := fun x : Nat => .int .i64 (number + ((x : Nat) : Int))) (enc2 := fun x : Nat => .agg (ints .u8 (pieceV (startW key nonce) (number + ((x : Nat) : Int))))) kj (enters_of Tryd.func50 kj rfl) (pieces_stops 2 [g19] gp1 gp2 (startW key nonce) number r tq W16 hr h1 h2 (startW_len _ _) r1_16 rp1 rp2 (nm_cons (Nat.ne_of_gt (Nat.lt_of_lt_of_le (row_lt r19_15) lp1)) nm_nil) (nm_cons (Nat.ne_of_gt (Nat.lt_of_lt_of_le (row_lt r19_15) lp2)) nm_nil) (nm_cons (Nat.ne_of_lt (Nat.lt_of_lt_of_le (row_lt hq) b19)) nm_nil)) (fun h k => KeepC.trans h k) KeepC.book (Below.refl _ _)
      (fun pre W => ((W.heap[g4]? = some (.cells (cat [ints .u8 (key), #[.slice a_n nonce.length c_n], #[.int .i64 number], #[.slice a_t text.length c_t]]) 26)) ∧ (W.heap[g5]? = some (.cells (#[.int .i64 ((mo : Nat) : Int)]) 3)) ∧ (W.heap[g6]? = some (.cells (#[.bool false]) 4)) ∧ (W.heap[g19]? = some (.cells (#[.int .i64 ((pre.length : Nat) : Int)]) 3)) ∧ pre.length < mo ∧ W16.heap.size ≤ W.heap.size) ∧ Ext w W)
      (fun c pre W => ((c = .ret ∧ ∃ q z, pre = q ++ [z] ∧ z ≠ q.length) ∨ (c = .exit 0 ∧ pre.length = mo ∧ (W.heap[g4]? = some (.cells (cat [ints .u8 (key), #[.slice a_n nonce.length c_n], #[.int .i64 number], #[.slice a_t text.length c_t]]) 26)) ∧ (W.heap[g5]? = some (.cells (#[.int .i64 ((mo : Nat) : Int)]) 3)) ∧ (W.heap[g6]? = some (.cells (#[.bool false]) 4)) ∧ (W.heap[g19]? = some (.cells (#[.int .i64 ((pre.length : Nat) : Int)]) 3)))) ∧ Ext w W) (OwnFrom.and (Own.from (fun s A B row hs hg hr => ⟨row_kept hs.1 hg hr, row_kept hs.2.1 hg hr, row_kept hs.2.2.1 hg hr, row_kept hs.2.2.2.1 hg hr, hs.2.2.2.2.1, Nat.le_trans hs.2.2.2.2.2 hg.size⟩) _) (ownFrom_below (Nat.le_refl _) x16.size)) (fun c => OwnFrom.and (Own.from (fun s A B row hs hg hr => by rcases hs with h | ⟨h1, h2, h5, h6, h7, h8⟩; exact .inl h; exact .inr ⟨h1, h2, row_kept h5 hg hr, row_kept h6 hg hr, row_kept h7 hg hr, row_kept h8 hg hr⟩) _) (ownFrom_below (Nat.le_refl _) x16.size)) ⟨⟨r4_16, r5_16, r6_16, r19_16, show 0 < mo by omega, Nat.le_refl _⟩, x16⟩ (fun e => KeepC.ext e) (fun pre A B h e => ⟨⟨row_ext h.1.1 e, row_ext h.1.2.1 e, row_ext h.1.2.2.1 e, row_ext h.1.2.2.2.1 e, h.1.2.2.2.2.1, Nat.le_trans h.1.2.2.2.2.2 e.size⟩, Rely.Ext.trans h.2 e⟩) (fun pre W h => h.1.2.2.2.2.2) (fun x g => [(11, .pointer (some ⟨g, 0, none⟩)), (10, .int .i64 (number + ((x : Nat) : Int))), (60, .agg (ints .u8 (pieceV (startW key nonce) (number + ((x : Nat) : Int))))), (59, .int .i64 (number + ((x : Nat) : Int)))]) (fun x => ints .u8 (pieceV (startW key nonce) (number + ((x : Nat) : Int)))) 28 (fun l x W K hK => ?_) (fun l pre x gP Wr hgP hI rP hp => ?_) (fun D ys W lD hS hI rD => ?_) (fun D c pre W lD hSp hIx rD => ?_)
  · skip
    refine wpIn_seq_k fun K301 hK301 => ?_
    refine region_litIn ?_
    refine in_val (.int .i64 (number + ((x : Nat) : Int))) 10 rfl (free_wide l 1 _) rfl kj kj ?_
    refine in_nil ?_
    refine hK301 _ _ ?_
    try clear hK301 K301
    refine region_litIn ?_
    refine in_alloc (ints .u8 (List.replicate 64 0)) 28 11 rfl (free_wide l 1 _) rfl kj kj fun g302 W1 l302 e1 r302_1 => ?_
    have x1 : Ext W W1 := Ext.tr (Rely.Ext.refl W) e1
    have b302 : W.heap.size ≤ g302 := Nat.le_trans (Rely.Ext.refl W).size l302
    refine in_store g302 _ (ints .u8 (pieceV (startW key nonce) (number + ((x : Nat) : Int)))) 28 r302_1 rfl (free_wide l 1 _) rfl kj (run_store_row 28 _ _ g302 28 _ _ r302_1 rfl kj kj (isz (n := 64) kj ((ints_size _ _).trans (pieceV_len _ _))) (eqsz (n := 64) ((ints_size _ _).trans (List.length_replicate (n := 64))) ((ints_size _ _).trans (pieceV_len _ _))) (ints_one _ _)) fun W2 p2 r302_2 => ?_
    have x2 : Ext W W2 := Puts.ext p2 x1 b302
    refine in_nil ?_
    have y0_1 : Ext W W1 := (Rely.Ext.trans (Rely.Ext.refl W) e1)
    have y0_2 : Ext W W2 := (Puts.ext p2 y0_1 l302)
    exact hK _ _ l302 y0_2 r302_2
  · skip
    obtain ⟨⟨q2, q3, q4, q9, hlm, hsz⟩, xx⟩ := hI
    have nP2 : gP ≠ g4 := by have h1 := row_lt r4_16; omega
    have nP3 : gP ≠ g5 := by have h1 := row_lt r5_16; omega
    have nP4 : gP ≠ g6 := by have h1 := row_lt r6_16; omega
    have nP9 : gP ≠ g19 := by have h1 := row_lt r19_16; omega
    refine wpIn_block ?_
    refine wpIn_seq_k fun K506 hK506 => ?_
    rcases (show x = pre.length ∨ (x ≠ pre.length ∧ pieceV (startW key nonce) (number + ((x : Nat) : Int)) ≠ pieceV (startW key nonce) (number + ((pre.length : Nat) : Int))) ∨ (x ≠ pre.length ∧ pieceV (startW key nonce) (number + ((x : Nat) : Int)) = pieceV (startW key nonce) (number + ((pre.length : Nat) : Int))) from by by_cases h9 : x = pre.length; exact .inl h9; by_cases h8 : pieceV (startW key nonce) (number + ((x : Nat) : Int)) = pieceV (startW key nonce) (number + ((pre.length : Nat) : Int)); exact .inr (.inr ⟨h9, h8⟩); exact .inr (.inl ⟨h9, h8⟩)) with hcs | hcs | hcs
    · skip
      refine region_litIn ?_
      refine in_val (.pointer (some ⟨g4, 0, none⟩)) 62 rfl (free_wide l 1 _) rfl kj kj ?_
      refine in_val (.agg (ints .u8 (key))) 63 rfl (free_wide l 1 _) rfl kj (run_load_part 23 _ g4 0 26 _ _ _ q2 rfl kj (cat_part [] [ints .u8 (key)] [#[.slice a_n nonce.length c_n], #[.int .i64 number], #[.slice a_t text.length c_t]] 0 kj) kj (isz (n := 32) kj ((ints_size _ _).trans hkl))) ?_
      refine in_val (.pointer (some ⟨g4, 32, none⟩)) 64 rfl (free_wide l 1 _) rfl kj kj ?_
      refine in_val (.slice a_n nonce.length c_n) 65 rfl (free_wide l 1 _) rfl kj (run_loadC1 24 _ g4 32 26 _ (.slice a_n nonce.length c_n) _ q2 rfl kj (cat_part [ints .u8 (key)] [#[.slice a_n nonce.length c_n]] [#[.int .i64 number], #[.slice a_t text.length c_t]] 32 ((ints_size _ _).trans hkl) 0 _ rfl) kj) ?_
      refine in_val (.pointer (some ⟨g4, 33, none⟩)) 66 rfl (free_wide l 1 _) rfl kj kj ?_
      refine in_val (.int .i64 number) 67 rfl (free_wide l 1 _) rfl kj (run_loadC1 3 _ g4 33 26 _ (.int .i64 number) _ q2 rfl kj (cat_part [ints .u8 (key), #[.slice a_n nonce.length c_n]] [#[.int .i64 number]] [#[.slice a_t text.length c_t]] 33 (by rw [cat_cons, cat_cons]; simp only [Array.size_append, cat, ((ints_size _ _).trans hkl)]; rfl) 0 _ rfl) kj) ?_
      refine in_val (.int .i64 ((pre.length : Nat) : Int)) 68 rfl (free_wide l 1 _) rfl kj (run_loadC1 3 _ g19 0 3 _ (.int .i64 ((pre.length : Nat) : Int)) _ q9 rfl kj kj kj) ?_
      refine in_val (.int .i64 (number + ((pre.length : Nat) : Int))) 69 rfl (free_wide l 1 _) rfl kj (run_eq (u := .int .i64 (IntKind.i64.wrap (number + ((pre.length : Nat) : Int)))) kj (congrArg (Value.int .i64) (IntWalk.i64_in _ (by omega)))) ?_
      refine in_call (.tuple #[.agg (ints .u8 (pieceV (startW key nonce) (number + ((pre.length : Nat) : Int)))), .int .i64 0]) 15 #[.agg (ints .u8 (key)), .slice a_n nonce.length c_n, .int .i64 (number + ((pre.length : Nat) : Int))] 70 rfl (free_wide l 1 _) rfl kj kj ((rPiece_D key nonce _ _ (number + ((pre.length : Nat) : Int)) _ hkl (RdK.ext hn xx) h (by omega) (by omega) hkb hnb)) fun W1 e1 => ?_
      have x1 : Ext w W1 := Ext.tr xx e1
      refine in_val (.tuple #[.agg (ints .u8 (pieceV (startW key nonce) (number + ((pre.length : Nat) : Int)))), .int .i64 0]) 61 rfl (free_wide l 1 _) rfl kj kj ?_
      refine in_val (.agg (ints .u8 (pieceV (startW key nonce) (number + ((pre.length : Nat) : Int))))) 71 rfl (free_wide l 1 _) rfl kj kj ?_
      refine in_val (.int .i64 0) 72 rfl (free_wide l 1 _) rfl kj kj ?_
      refine in_alloc (ints .u8 (List.replicate 64 0)) 28 12 rfl (free_wide l 1 _) rfl kj kj fun g507 W2 l507 e2 r507_2 => ?_
      have x2 : Ext w W2 := Ext.tr x1 e2
      have b507 : w.heap.size ≤ g507 := Nat.le_trans x1.size l507
      refine in_store g507 _ (ints .u8 (pieceV (startW key nonce) (number + ((pre.length : Nat) : Int)))) 28 r507_2 rfl (free_wide l 1 _) rfl kj (run_store_row 28 _ _ g507 28 _ _ r507_2 rfl kj kj (isz (n := 64) kj ((ints_size _ _).trans (pieceV_len _ _))) (eqsz (n := 64) ((ints_size _ _).trans (List.length_replicate (n := 64))) ((ints_size _ _).trans (pieceV_len _ _))) (ints_one _ _)) fun W3 p3 r507_3 => ?_
      have x3 : Ext w W3 := Puts.ext p3 x2 b507
      refine in_val (.int .i64 0) 13 rfl (free_wide l 1 _) rfl kj kj ?_
      refine in_nil ?_
      refine hK506 _ _ ?_
      try clear hK506 K506
      refine wpIn_seq_k fun K508 hK508 => ?_
      refine wpIn_seq_k fun K509 hK509 => ?_
      refine region_litIn ?_
      refine in_val (.int .i64 0) 73 rfl (free_wide l 1 _) rfl kj kj ?_
      refine in_val (.bool false) 74 rfl (free_wide l 1 _) rfl kj kj ?_
      refine in_val (.bool false) 75 rfl (free_wide l 1 _) rfl kj kj ?_
      have r505_1 := (row_ext rP e1)
      have r505_2 := (row_ext r505_1 e2)
      have r505_3 := (Puts.row p3 r505_2 (ne_of_old r505_1 l507))
      refine in_val (.agg (ints .u8 (pieceV (startW key nonce) (number + ((x : Nat) : Int))))) 76 rfl (free_wide l 1 _) rfl kj (run_load_row 28 _ gP 28 _ _ r505_3 rfl kj kj (isz (n := 64) kj ((ints_size _ _).trans (pieceV_len _ _)))) ?_
      refine in_val (.agg (ints .u8 (pieceV (startW key nonce) (number + ((pre.length : Nat) : Int))))) 77 rfl (free_wide l 1 _) rfl kj (run_load_row 28 _ g507 28 _ _ r507_3 rfl kj kj (isz (n := 64) kj ((ints_size _ _).trans (pieceV_len _ _)))) ?_
      refine in_val (.bool false) 78 rfl (free_wide l 1 _) rfl kj (run_neq_agg 28 _ _ _ _ _ (.bool false) rfl kj kj kj (neq_lists 28 (e := 5) (k := .u8) (pieceV (startW key nonce) (number + ((x : Nat) : Int))) (pieceV (startW key nonce) (number + ((pre.length : Nat) : Int))) (decide_eq_true (by rw [hcs])) (pieceV_len _ _) (pieceV_len _ _) kj kj kj _)) ?_
      refine in_val (.bool false) 79 rfl (free_wide l 1 _) rfl kj kj ?_
      refine in_val (.bool false) 80 rfl (free_wide l 1 _) rfl kj kj ?_
      refine in_val (.int .i64 (number + ((x : Nat) : Int))) 81 rfl (free_wide l 1 _) rfl kj kj ?_
      refine in_val (.pointer (some ⟨g4, 33, none⟩)) 82 rfl (free_wide l 1 _) rfl kj kj ?_
      have r501_1 := (row_ext q2 e1)
      have r501_2 := (row_ext r501_1 e2)
      have r501_3 := (Puts.row p3 r501_2 (ne_of_old r501_1 l507))
      refine in_val (.int .i64 number) 83 rfl (free_wide l 1 _) rfl kj (run_loadC1 3 _ g4 33 26 _ (.int .i64 number) _ r501_3 rfl kj (cat_part [ints .u8 (key), #[.slice a_n nonce.length c_n]] [#[.int .i64 number]] [#[.slice a_t text.length c_t]] 33 (by rw [cat_cons, cat_cons]; simp only [Array.size_append, cat, ((ints_size _ _).trans hkl)]; rfl) 0 _ rfl) kj) ?_
      have r504_1 := (row_ext q9 e1)
      have r504_2 := (row_ext r504_1 e2)
      have r504_3 := (Puts.row p3 r504_2 (ne_of_old r504_1 l507))
      refine in_val (.int .i64 ((pre.length : Nat) : Int)) 84 rfl (free_wide l 1 _) rfl kj (run_loadC1 3 _ g19 0 3 _ (.int .i64 ((pre.length : Nat) : Int)) _ r504_3 rfl kj kj kj) ?_
      refine in_val (.int .i64 (number + ((pre.length : Nat) : Int))) 85 rfl (free_wide l 1 _) rfl kj (run_eq (u := .int .i64 (IntKind.i64.wrap (number + ((pre.length : Nat) : Int)))) kj (congrArg (Value.int .i64) (IntWalk.i64_in _ (by omega)))) ?_
      refine in_val (.bool false) 86 rfl (free_wide l 1 _) rfl kj (run_eq (u := .bool (((number + ((x : Nat) : Int)) != (number + ((pre.length : Nat) : Int))))) kj (congrArg Value.bool (by rw [hcs]; exact bne_self_eq_false _))) ?_
      refine in_val (.bool false) 87 rfl (free_wide l 1 _) rfl kj kj ?_
      refine in_nil ?_
      refine hK509 _ _ ?_
      try clear hK509 K509
      refine in_cond_false kj ?_
      refine wpIn_skip ?_
      refine hK508 _ _ ?_
      try clear hK508 K508
      refine wpIn_seq_k fun K510 hK510 => ?_
      refine region_litIn ?_
      refine in_val (.int .i64 ((pre.length : Nat) : Int)) 88 rfl (free_wide l 1 _) rfl kj (run_loadC1 3 _ g19 0 3 _ (.int .i64 ((pre.length : Nat) : Int)) _ r504_3 rfl kj kj kj) ?_
      refine in_val (.int .i64 ((pre.length + 1 : Nat) : Int)) 89 rfl (free_wide l 1 _) rfl kj (run_eq (u := .int .i64 (IntKind.i64.wrap (((pre.length : Nat) : Int) + 1))) kj (congrArg (Value.int .i64) (i64n _ _ (by omega) (by omega)))) ?_
      refine in_store g19 _ (#[.int .i64 ((pre.length + 1 : Nat) : Int)]) 3 r504_3 rfl (free_wide l 1 _) rfl kj (run_storeC1 3 _ _ g19 0 3 _ (.int .i64 ((pre.length + 1 : Nat) : Int)) r504_3 rfl kj kj kj kj kj rfl) fun W4 p4 r504_4 => ?_
      have x4 : Ext w W4 := Puts.ext p4 x3 b19
      refine in_nil ?_
      refine hK510 _ _ ?_
      try clear hK510 K510
      refine wpIn_seq_k fun K511 hK511 => ?_
      refine region_litIn ?_
      refine in_val (.int .i64 ((pre.length + 1 : Nat) : Int)) 90 rfl (free_wide l 1 _) rfl kj (run_loadC1 3 _ g19 0 3 _ (.int .i64 ((pre.length + 1 : Nat) : Int)) _ r504_4 rfl kj kj kj) ?_
      have r502_1 := (row_ext q3 e1)
      have r502_2 := (row_ext r502_1 e2)
      have r502_3 := (Puts.row p3 r502_2 (ne_of_old r502_1 l507))
      have r502_4 := (Puts.row p4 r502_3 nb39)
      refine in_val (.int .i64 ((mo : Nat) : Int)) 91 rfl (free_wide l 1 _) rfl kj (run_loadC1 3 _ g5 0 3 _ (.int .i64 ((mo : Nat) : Int)) _ r502_4 rfl kj kj kj) ?_
      refine in_val (.bool ((((pre.length + 1 : Nat) : Int) == ((mo : Nat) : Int)))) 92 rfl (free_wide l 1 _) rfl kj kj ?_
      refine in_nil ?_
      refine hK511 _ _ ?_
      try clear hK511 K511
      refine in_cond_split (t := (((pre.length + 1 : Nat) : Int) == ((mo : Nat) : Int))) kj (fun c512 => ?_) (fun c512 => ?_)
      · skip
        have hkm : pre.length + 1 = mo := by have h := c512; have h2 := eq_of_beq h; omega
        refine wpIn_exit ?_
        repeat (first | with_reducible refine goX1 ?_ | with_reducible refine goXj (by decide) ?_)
        have hl1 : (pre ++ [x]).length = pre.length + 1 := by simp
        have r501_4 := (Puts.row p4 r501_3 nb29)
        have r503_1 := (row_ext q4 e1)
        have r503_2 := (row_ext r503_1 e2)
        have r503_3 := (Puts.row p3 r503_2 (ne_of_old r503_1 l507))
        have r503_4 := (Puts.row p4 r503_3 nb49)
        exact ⟨((((keeps_ext e1).trans (keeps_ext e2)).trans (keeps_puts p3 r507_2)).trans (keeps_puts p4 r504_3)), .inr ⟨rfl, by rw [hl1]; exact hkm, r501_4, r502_4, r503_4, by rw [hl1]; exact r504_4⟩, x4⟩
      · skip
        have hkm : pre.length + 1 ≠ mo := by have h := c512; intro e; rw [e] at h; rw [beq_self_eq_true] at h; exact absurd h (by decide)
        refine wpIn_skip ?_
        repeat (first | with_reducible refine goX1 ?_ | with_reducible refine goX2 ?_ | with_reducible refine goX3 ?_)
        have hl1 : (pre ++ [x]).length = pre.length + 1 := by simp
        have r501_4 := (Puts.row p4 r501_3 nb29)
        have r503_1 := (row_ext q4 e1)
        have r503_2 := (row_ext r503_1 e2)
        have r503_3 := (Puts.row p3 r503_2 (ne_of_old r503_1 l507))
        have r503_4 := (Puts.row p4 r503_3 nb49)
        exact ⟨((((keeps_ext e1).trans (keeps_ext e2)).trans (keeps_puts p3 r507_2)).trans (keeps_puts p4 r504_3)), (KeepC.keeps (Keeps.puts (Keeps.puts (Keeps.step (Keeps.step (Keeps.refl [g19] Wr) e1) e2) p3 (.inr (Nat.le_trans (Nat.le_trans (Nat.le_refl _) e1.size) l507))) p4 (.inl (by simp)))), ⟨r501_4, r502_4, r503_4, by rw [hl1]; exact r504_4, by rw [hl1]; omega, Nat.le_trans hsz (Nat.le_trans (Nat.le_trans (Nat.le_trans (Nat.le_trans (Nat.le_refl _) e1.size) e2.size) (Nat.le_of_eq p3.2.2.2.1.symm)) (Nat.le_of_eq p4.2.2.2.1.symm))⟩, x4⟩
    · skip
      refine region_litIn ?_
      refine in_val (.pointer (some ⟨g4, 0, none⟩)) 62 rfl (free_wide l 1 _) rfl kj kj ?_
      refine in_val (.agg (ints .u8 (key))) 63 rfl (free_wide l 1 _) rfl kj (run_load_part 23 _ g4 0 26 _ _ _ q2 rfl kj (cat_part [] [ints .u8 (key)] [#[.slice a_n nonce.length c_n], #[.int .i64 number], #[.slice a_t text.length c_t]] 0 kj) kj (isz (n := 32) kj ((ints_size _ _).trans hkl))) ?_
      refine in_val (.pointer (some ⟨g4, 32, none⟩)) 64 rfl (free_wide l 1 _) rfl kj kj ?_
      refine in_val (.slice a_n nonce.length c_n) 65 rfl (free_wide l 1 _) rfl kj (run_loadC1 24 _ g4 32 26 _ (.slice a_n nonce.length c_n) _ q2 rfl kj (cat_part [ints .u8 (key)] [#[.slice a_n nonce.length c_n]] [#[.int .i64 number], #[.slice a_t text.length c_t]] 32 ((ints_size _ _).trans hkl) 0 _ rfl) kj) ?_
      refine in_val (.pointer (some ⟨g4, 33, none⟩)) 66 rfl (free_wide l 1 _) rfl kj kj ?_
      refine in_val (.int .i64 number) 67 rfl (free_wide l 1 _) rfl kj (run_loadC1 3 _ g4 33 26 _ (.int .i64 number) _ q2 rfl kj (cat_part [ints .u8 (key), #[.slice a_n nonce.length c_n]] [#[.int .i64 number]] [#[.slice a_t text.length c_t]] 33 (by rw [cat_cons, cat_cons]; simp only [Array.size_append, cat, ((ints_size _ _).trans hkl)]; rfl) 0 _ rfl) kj) ?_
      refine in_val (.int .i64 ((pre.length : Nat) : Int)) 68 rfl (free_wide l 1 _) rfl kj (run_loadC1 3 _ g19 0 3 _ (.int .i64 ((pre.length : Nat) : Int)) _ q9 rfl kj kj kj) ?_
      refine in_val (.int .i64 (number + ((pre.length : Nat) : Int))) 69 rfl (free_wide l 1 _) rfl kj (run_eq (u := .int .i64 (IntKind.i64.wrap (number + ((pre.length : Nat) : Int)))) kj (congrArg (Value.int .i64) (IntWalk.i64_in _ (by omega)))) ?_
      refine in_call (.tuple #[.agg (ints .u8 (pieceV (startW key nonce) (number + ((pre.length : Nat) : Int)))), .int .i64 0]) 15 #[.agg (ints .u8 (key)), .slice a_n nonce.length c_n, .int .i64 (number + ((pre.length : Nat) : Int))] 70 rfl (free_wide l 1 _) rfl kj kj ((rPiece_D key nonce _ _ (number + ((pre.length : Nat) : Int)) _ hkl (RdK.ext hn xx) h (by omega) (by omega) hkb hnb)) fun W1 e1 => ?_
      have x1 : Ext w W1 := Ext.tr xx e1
      refine in_val (.tuple #[.agg (ints .u8 (pieceV (startW key nonce) (number + ((pre.length : Nat) : Int)))), .int .i64 0]) 61 rfl (free_wide l 1 _) rfl kj kj ?_
      refine in_val (.agg (ints .u8 (pieceV (startW key nonce) (number + ((pre.length : Nat) : Int))))) 71 rfl (free_wide l 1 _) rfl kj kj ?_
      refine in_val (.int .i64 0) 72 rfl (free_wide l 1 _) rfl kj kj ?_
      refine in_alloc (ints .u8 (List.replicate 64 0)) 28 12 rfl (free_wide l 1 _) rfl kj kj fun g513 W2 l513 e2 r513_2 => ?_
      have x2 : Ext w W2 := Ext.tr x1 e2
      have b513 : w.heap.size ≤ g513 := Nat.le_trans x1.size l513
      refine in_store g513 _ (ints .u8 (pieceV (startW key nonce) (number + ((pre.length : Nat) : Int)))) 28 r513_2 rfl (free_wide l 1 _) rfl kj (run_store_row 28 _ _ g513 28 _ _ r513_2 rfl kj kj (isz (n := 64) kj ((ints_size _ _).trans (pieceV_len _ _))) (eqsz (n := 64) ((ints_size _ _).trans (List.length_replicate (n := 64))) ((ints_size _ _).trans (pieceV_len _ _))) (ints_one _ _)) fun W3 p3 r513_3 => ?_
      have x3 : Ext w W3 := Puts.ext p3 x2 b513
      refine in_val (.int .i64 0) 13 rfl (free_wide l 1 _) rfl kj kj ?_
      refine in_nil ?_
      refine hK506 _ _ ?_
      try clear hK506 K506
      refine wpIn_seq_k fun K514 hK514 => ?_
      refine wpIn_seq_k fun K515 hK515 => ?_
      refine region_litIn ?_
      refine in_val (.int .i64 0) 73 rfl (free_wide l 1 _) rfl kj kj ?_
      refine in_val (.bool false) 74 rfl (free_wide l 1 _) rfl kj kj ?_
      refine in_val (.bool false) 75 rfl (free_wide l 1 _) rfl kj kj ?_
      have r505_1 := (row_ext rP e1)
      have r505_2 := (row_ext r505_1 e2)
      have r505_3 := (Puts.row p3 r505_2 (ne_of_old r505_1 l513))
      refine in_val (.agg (ints .u8 (pieceV (startW key nonce) (number + ((x : Nat) : Int))))) 76 rfl (free_wide l 1 _) rfl kj (run_load_row 28 _ gP 28 _ _ r505_3 rfl kj kj (isz (n := 64) kj ((ints_size _ _).trans (pieceV_len _ _)))) ?_
      refine in_val (.agg (ints .u8 (pieceV (startW key nonce) (number + ((pre.length : Nat) : Int))))) 77 rfl (free_wide l 1 _) rfl kj (run_load_row 28 _ g513 28 _ _ r513_3 rfl kj kj (isz (n := 64) kj ((ints_size _ _).trans (pieceV_len _ _)))) ?_
      refine in_val (.bool true) 78 rfl (free_wide l 1 _) rfl kj (run_neq_agg 28 _ _ _ _ _ (.bool true) rfl kj kj kj (neq_lists 28 (e := 5) (k := .u8) (pieceV (startW key nonce) (number + ((x : Nat) : Int))) (pieceV (startW key nonce) (number + ((pre.length : Nat) : Int))) (decide_eq_false hcs.2) (pieceV_len _ _) (pieceV_len _ _) kj kj kj _)) ?_
      refine in_val (.bool true) 79 rfl (free_wide l 1 _) rfl kj kj ?_
      refine in_val (.bool true) 80 rfl (free_wide l 1 _) rfl kj kj ?_
      refine in_skip 81 rfl (free_wide l 1 _) rfl kj ?_
      refine in_skip 82 rfl (free_wide l 1 _) rfl kj ?_
      refine in_skip 83 rfl (free_wide l 1 _) rfl kj ?_
      refine in_skip 84 rfl (free_wide l 1 _) rfl kj ?_
      refine in_skip 85 rfl (free_wide l 1 _) rfl kj ?_
      refine in_skip 86 rfl (free_wide l 1 _) rfl kj ?_
      refine in_val (.bool true) 87 rfl (free_wide l 1 _) rfl kj kj ?_
      refine in_nil ?_
      refine hK515 _ _ ?_
      try clear hK515 K515
      refine in_cond_true kj ?_
      refine wpIn_seq_k fun K516 hK516 => ?_
      refine region_litIn ?_
      have r503_1 := (row_ext q4 e1)
      have r503_2 := (row_ext r503_1 e2)
      have r503_3 := (Puts.row p3 r503_2 (ne_of_old r503_1 l513))
      refine in_store g6 _ (#[.bool false]) 4 r503_3 rfl (free_wide l 1 _) rfl kj (run_storeC1 4 _ _ g6 0 4 _ (.bool false) r503_3 rfl kj kj kj kj kj rfl) fun W4 p4 r503_4 => ?_
      have x4 : Ext w W4 := Puts.ext p4 x3 b6
      refine in_nil ?_
      refine hK516 _ _ ?_
      try clear hK516 K516
      refine wpIn_ret ?_
      repeat (first | with_reducible refine goR1 ?_ | with_reducible refine goR2 ?_)
      exact ⟨((((keeps_ext e1).trans (keeps_ext e2)).trans (keeps_puts p3 r513_2)).trans (keeps_puts p4 r503_3)), .inl ⟨rfl, pre, x, rfl, hcs.1⟩, x4⟩
    · skip
      refine region_litIn ?_
      refine in_val (.pointer (some ⟨g4, 0, none⟩)) 62 rfl (free_wide l 1 _) rfl kj kj ?_
      refine in_val (.agg (ints .u8 (key))) 63 rfl (free_wide l 1 _) rfl kj (run_load_part 23 _ g4 0 26 _ _ _ q2 rfl kj (cat_part [] [ints .u8 (key)] [#[.slice a_n nonce.length c_n], #[.int .i64 number], #[.slice a_t text.length c_t]] 0 kj) kj (isz (n := 32) kj ((ints_size _ _).trans hkl))) ?_
      refine in_val (.pointer (some ⟨g4, 32, none⟩)) 64 rfl (free_wide l 1 _) rfl kj kj ?_
      refine in_val (.slice a_n nonce.length c_n) 65 rfl (free_wide l 1 _) rfl kj (run_loadC1 24 _ g4 32 26 _ (.slice a_n nonce.length c_n) _ q2 rfl kj (cat_part [ints .u8 (key)] [#[.slice a_n nonce.length c_n]] [#[.int .i64 number], #[.slice a_t text.length c_t]] 32 ((ints_size _ _).trans hkl) 0 _ rfl) kj) ?_
      refine in_val (.pointer (some ⟨g4, 33, none⟩)) 66 rfl (free_wide l 1 _) rfl kj kj ?_
      refine in_val (.int .i64 number) 67 rfl (free_wide l 1 _) rfl kj (run_loadC1 3 _ g4 33 26 _ (.int .i64 number) _ q2 rfl kj (cat_part [ints .u8 (key), #[.slice a_n nonce.length c_n]] [#[.int .i64 number]] [#[.slice a_t text.length c_t]] 33 (by rw [cat_cons, cat_cons]; simp only [Array.size_append, cat, ((ints_size _ _).trans hkl)]; rfl) 0 _ rfl) kj) ?_
      refine in_val (.int .i64 ((pre.length : Nat) : Int)) 68 rfl (free_wide l 1 _) rfl kj (run_loadC1 3 _ g19 0 3 _ (.int .i64 ((pre.length : Nat) : Int)) _ q9 rfl kj kj kj) ?_
      refine in_val (.int .i64 (number + ((pre.length : Nat) : Int))) 69 rfl (free_wide l 1 _) rfl kj (run_eq (u := .int .i64 (IntKind.i64.wrap (number + ((pre.length : Nat) : Int)))) kj (congrArg (Value.int .i64) (IntWalk.i64_in _ (by omega)))) ?_
      refine in_call (.tuple #[.agg (ints .u8 (pieceV (startW key nonce) (number + ((pre.length : Nat) : Int)))), .int .i64 0]) 15 #[.agg (ints .u8 (key)), .slice a_n nonce.length c_n, .int .i64 (number + ((pre.length : Nat) : Int))] 70 rfl (free_wide l 1 _) rfl kj kj ((rPiece_D key nonce _ _ (number + ((pre.length : Nat) : Int)) _ hkl (RdK.ext hn xx) h (by omega) (by omega) hkb hnb)) fun W1 e1 => ?_
      have x1 : Ext w W1 := Ext.tr xx e1
      refine in_val (.tuple #[.agg (ints .u8 (pieceV (startW key nonce) (number + ((pre.length : Nat) : Int)))), .int .i64 0]) 61 rfl (free_wide l 1 _) rfl kj kj ?_
      refine in_val (.agg (ints .u8 (pieceV (startW key nonce) (number + ((pre.length : Nat) : Int))))) 71 rfl (free_wide l 1 _) rfl kj kj ?_
      refine in_val (.int .i64 0) 72 rfl (free_wide l 1 _) rfl kj kj ?_
      refine in_alloc (ints .u8 (List.replicate 64 0)) 28 12 rfl (free_wide l 1 _) rfl kj kj fun g517 W2 l517 e2 r517_2 => ?_
      have x2 : Ext w W2 := Ext.tr x1 e2
      have b517 : w.heap.size ≤ g517 := Nat.le_trans x1.size l517
      refine in_store g517 _ (ints .u8 (pieceV (startW key nonce) (number + ((pre.length : Nat) : Int)))) 28 r517_2 rfl (free_wide l 1 _) rfl kj (run_store_row 28 _ _ g517 28 _ _ r517_2 rfl kj kj (isz (n := 64) kj ((ints_size _ _).trans (pieceV_len _ _))) (eqsz (n := 64) ((ints_size _ _).trans (List.length_replicate (n := 64))) ((ints_size _ _).trans (pieceV_len _ _))) (ints_one _ _)) fun W3 p3 r517_3 => ?_
      have x3 : Ext w W3 := Puts.ext p3 x2 b517
      refine in_val (.int .i64 0) 13 rfl (free_wide l 1 _) rfl kj kj ?_
      refine in_nil ?_
      refine hK506 _ _ ?_
      try clear hK506 K506
      refine wpIn_seq_k fun K518 hK518 => ?_
      refine wpIn_seq_k fun K519 hK519 => ?_
      refine region_litIn ?_
      refine in_val (.int .i64 0) 73 rfl (free_wide l 1 _) rfl kj kj ?_
      refine in_val (.bool false) 74 rfl (free_wide l 1 _) rfl kj kj ?_
      refine in_val (.bool false) 75 rfl (free_wide l 1 _) rfl kj kj ?_
      have r505_1 := (row_ext rP e1)
      have r505_2 := (row_ext r505_1 e2)
      have r505_3 := (Puts.row p3 r505_2 (ne_of_old r505_1 l517))
      refine in_val (.agg (ints .u8 (pieceV (startW key nonce) (number + ((x : Nat) : Int))))) 76 rfl (free_wide l 1 _) rfl kj (run_load_row 28 _ gP 28 _ _ r505_3 rfl kj kj (isz (n := 64) kj ((ints_size _ _).trans (pieceV_len _ _)))) ?_
      refine in_val (.agg (ints .u8 (pieceV (startW key nonce) (number + ((pre.length : Nat) : Int))))) 77 rfl (free_wide l 1 _) rfl kj (run_load_row 28 _ g517 28 _ _ r517_3 rfl kj kj (isz (n := 64) kj ((ints_size _ _).trans (pieceV_len _ _)))) ?_
      refine in_val (.bool false) 78 rfl (free_wide l 1 _) rfl kj (run_neq_agg 28 _ _ _ _ _ (.bool false) rfl kj kj kj (neq_lists 28 (e := 5) (k := .u8) (pieceV (startW key nonce) (number + ((x : Nat) : Int))) (pieceV (startW key nonce) (number + ((pre.length : Nat) : Int))) (decide_eq_true hcs.2) (pieceV_len _ _) (pieceV_len _ _) kj kj kj _)) ?_
      refine in_val (.bool false) 79 rfl (free_wide l 1 _) rfl kj kj ?_
      refine in_val (.bool false) 80 rfl (free_wide l 1 _) rfl kj kj ?_
      refine in_val (.int .i64 (number + ((x : Nat) : Int))) 81 rfl (free_wide l 1 _) rfl kj kj ?_
      refine in_val (.pointer (some ⟨g4, 33, none⟩)) 82 rfl (free_wide l 1 _) rfl kj kj ?_
      have r501_1 := (row_ext q2 e1)
      have r501_2 := (row_ext r501_1 e2)
      have r501_3 := (Puts.row p3 r501_2 (ne_of_old r501_1 l517))
      refine in_val (.int .i64 number) 83 rfl (free_wide l 1 _) rfl kj (run_loadC1 3 _ g4 33 26 _ (.int .i64 number) _ r501_3 rfl kj (cat_part [ints .u8 (key), #[.slice a_n nonce.length c_n]] [#[.int .i64 number]] [#[.slice a_t text.length c_t]] 33 (by rw [cat_cons, cat_cons]; simp only [Array.size_append, cat, ((ints_size _ _).trans hkl)]; rfl) 0 _ rfl) kj) ?_
      have r504_1 := (row_ext q9 e1)
      have r504_2 := (row_ext r504_1 e2)
      have r504_3 := (Puts.row p3 r504_2 (ne_of_old r504_1 l517))
      refine in_val (.int .i64 ((pre.length : Nat) : Int)) 84 rfl (free_wide l 1 _) rfl kj (run_loadC1 3 _ g19 0 3 _ (.int .i64 ((pre.length : Nat) : Int)) _ r504_3 rfl kj kj kj) ?_
      refine in_val (.int .i64 (number + ((pre.length : Nat) : Int))) 85 rfl (free_wide l 1 _) rfl kj (run_eq (u := .int .i64 (IntKind.i64.wrap (number + ((pre.length : Nat) : Int)))) kj (congrArg (Value.int .i64) (IntWalk.i64_in _ (by omega)))) ?_
      refine in_val (.bool true) 86 rfl (free_wide l 1 _) rfl kj (run_eq (u := .bool (((number + ((x : Nat) : Int)) != (number + ((pre.length : Nat) : Int))))) kj (congrArg Value.bool (bne_iff_ne.2 (fun e => hcs.1 (by omega))))) ?_
      refine in_val (.bool true) 87 rfl (free_wide l 1 _) rfl kj kj ?_
      refine in_nil ?_
      refine hK519 _ _ ?_
      try clear hK519 K519
      refine in_cond_true kj ?_
      refine wpIn_seq_k fun K520 hK520 => ?_
      refine region_litIn ?_
      have r503_1 := (row_ext q4 e1)
      have r503_2 := (row_ext r503_1 e2)
      have r503_3 := (Puts.row p3 r503_2 (ne_of_old r503_1 l517))
      refine in_store g6 _ (#[.bool false]) 4 r503_3 rfl (free_wide l 1 _) rfl kj (run_storeC1 4 _ _ g6 0 4 _ (.bool false) r503_3 rfl kj kj kj kj kj rfl) fun W4 p4 r503_4 => ?_
      have x4 : Ext w W4 := Puts.ext p4 x3 b6
      refine in_nil ?_
      refine hK520 _ _ ?_
      try clear hK520 K520
      refine wpIn_ret ?_
      repeat (first | with_reducible refine goR1 ?_ | with_reducible refine goR2 ?_)
      exact ⟨((((keeps_ext e1).trans (keeps_ext e2)).trans (keeps_puts p3 r517_2)).trans (keeps_puts p4 r503_3)), .inl ⟨rfl, pre, x, rfl, hcs.1⟩, x4⟩
  · obtain ⟨⟨q2, q3, q4, q9, hlm, -⟩, xx⟩ := hI
    subst hS
    rw [List.length_range] at q9 hlm
    have bD : w.heap.size ≤ D := Nat.le_trans x16.size lD
    refine hK20 _ _ ?_
    try clear hK20 K20
    refine wp_seq_k fun K24 hK24 => ?_
    refine wp_seq_k fun K25 hK25 => ?_
    refine region_lit ?_
    refine seq_val (.int .i64 0) 93 rfl kj kj ?_
    refine seq_val (.bool false) 94 rfl kj kj ?_
    refine seq_nil ?_
    refine hK25 _ _ ?_
    try clear hK25 K25
    refine cond_false kj ?_
    refine wp_skip ?_
    refine hK24 _ _ ?_
    try clear hK24 K24
    refine wp_seq_k fun K26 hK26 => ?_
    refine region_lit ?_
    refine seq_val (.int .i64 ((r : Nat) : Int)) 97 rfl kj (run_loadC1 3 _ g19 0 3 _ (.int .i64 ((r : Nat) : Int)) _ q9 rfl kj kj kj) ?_
    refine seq_val (.int .i64 ((mo : Nat) : Int)) 98 rfl kj (run_loadC1 3 _ g5 0 3 _ (.int .i64 ((mo : Nat) : Int)) _ q3 rfl kj kj kj) ?_
    refine seq_val (.pointer (some ⟨g4, 33, none⟩)) 99 rfl kj kj ?_
    refine seq_val (.int .i64 number) 100 rfl kj (run_loadC1 3 _ g4 33 26 _ (.int .i64 number) _ q2 rfl kj (cat_part [ints .u8 (key), #[.slice a_n nonce.length c_n]] [#[.int .i64 number]] [#[.slice a_t text.length c_t]] 33 (by rw [cat_cons, cat_cons]; simp only [Array.size_append, cat, ((ints_size _ _).trans hkl)]; rfl) 0 _ rfl) kj) ?_
    refine seq_val (.int .i64 (((r : Nat) : Int))) 101 rfl kj (run_eq (u := .int .i64 (IntKind.i64.wrap (4294967296 - number))) kj (congrArg (Value.int .i64) (by rw [show (4294967296 - number : Int) = ((r : Nat) : Int) by omega]; exact IntWalk.i64_in _ (by omega)))) ?_
    refine seq_val (.int .i64 ((r : Nat) : Int)) 102 rfl kj (run_minI #[3, 3] (.tmp 98) (.tmp 101) .i64 ((mo : Nat) : Int) ((r : Nat) : Int) _ rfl kj kj (by rw [if_pos (by omega)])) ?_
    refine seq_val (.bool true) 103 rfl kj (run_eq (u := .bool ((((r : Nat) : Int) == ((r : Nat) : Int)))) kj (congrArg Value.bool (beq_self_eq_true _))) ?_
    refine seq_store g6 _ (#[.bool true]) 4 q4 rfl kj (run_storeC1 4 _ _ g6 0 4 _ (.bool true) q4 rfl kj kj kj kj kj rfl) fun W18 p18 r6_18 => ?_
    have x18 : Ext w W18 := Puts.ext p18 xx b6
    refine seq_nil ?_
    refine hK26 _ _ ?_
    try clear hK26 K26
    refine wp_ret ?_
    repeat (first | with_reducible refine goR1 ?_ | with_reducible refine goR2 ?_)
    have r23_18 := (Puts.row p18 rD (ne_mark q4 rD))
    exact (show bodyPostM _ _ _ _ _ .ret _ _ from retM1 (.bool true) rfl r23_18 (res_cell1 g6 4 _ (.bool true) (putD_row r6_18 r23_18 _) kj kj rfl) ⟨rfl, putD_ext x18 bD r23_18 _⟩)
  · rcases hIx with ⟨⟨rfl, q, z, rfl, hbad⟩ | ⟨rfl, hlen, q2, q3, q4, q9⟩, xx⟩
    · exfalso
      obtain ⟨k0, e0, -⟩ := hSp
      exact hbad (snoc_rg e0.symm)
    · obtain ⟨k0, rfl, hk0⟩ := hSp
      rw [List.length_range] at hlen q9
      rw [hlen] at q9
      have bD : w.heap.size ≤ D := Nat.le_trans x16.size lD
      refine wp_exit ?_
      refine hK20 _ _ ?_
      try clear hK20 K20
      refine wp_seq_k fun K28 hK28 => ?_
      refine wp_seq_k fun K29 hK29 => ?_
      refine region_lit ?_
      refine seq_val (.int .i64 0) 93 rfl kj kj ?_
      refine seq_val (.bool false) 94 rfl kj kj ?_
      refine seq_nil ?_
      refine hK29 _ _ ?_
      try clear hK29 K29
      refine cond_false kj ?_
      refine wp_skip ?_
      refine hK28 _ _ ?_
      try clear hK28 K28
      refine wp_seq_k fun K30 hK30 => ?_
      refine region_lit ?_
      refine seq_val (.int .i64 ((mo : Nat) : Int)) 97 rfl kj (run_loadC1 3 _ g19 0 3 _ (.int .i64 ((mo : Nat) : Int)) _ q9 rfl kj kj kj) ?_
      refine seq_val (.int .i64 ((mo : Nat) : Int)) 98 rfl kj (run_loadC1 3 _ g5 0 3 _ (.int .i64 ((mo : Nat) : Int)) _ q3 rfl kj kj kj) ?_
      refine seq_val (.pointer (some ⟨g4, 33, none⟩)) 99 rfl kj kj ?_
      refine seq_val (.int .i64 number) 100 rfl kj (run_loadC1 3 _ g4 33 26 _ (.int .i64 number) _ q2 rfl kj (cat_part [ints .u8 (key), #[.slice a_n nonce.length c_n]] [#[.int .i64 number]] [#[.slice a_t text.length c_t]] 33 (by rw [cat_cons, cat_cons]; simp only [Array.size_append, cat, ((ints_size _ _).trans hkl)]; rfl) 0 _ rfl) kj) ?_
      refine seq_val (.int .i64 (((r : Nat) : Int))) 101 rfl kj (run_eq (u := .int .i64 (IntKind.i64.wrap (4294967296 - number))) kj (congrArg (Value.int .i64) (by rw [show (4294967296 - number : Int) = ((r : Nat) : Int) by omega]; exact IntWalk.i64_in _ (by omega)))) ?_
      refine seq_val (.int .i64 ((mo : Nat) : Int)) 102 rfl kj (run_minI #[3, 3] (.tmp 98) (.tmp 101) .i64 ((mo : Nat) : Int) ((r : Nat) : Int) _ rfl kj kj (by rw [if_neg (by omega)])) ?_
      refine seq_val (.bool true) 103 rfl kj (run_eq (u := .bool ((((mo : Nat) : Int) == ((mo : Nat) : Int)))) kj (congrArg Value.bool (beq_self_eq_true _))) ?_
      refine seq_store g6 _ (#[.bool true]) 4 q4 rfl kj (run_storeC1 4 _ _ g6 0 4 _ (.bool true) q4 rfl kj kj kj kj kj rfl) fun W18 p18 r6_18 => ?_
      have x18 : Ext w W18 := Puts.ext p18 xx b6
      refine seq_nil ?_
      refine hK30 _ _ ?_
      try clear hK30 K30
      refine wp_ret ?_
      repeat (first | with_reducible refine goR1 ?_ | with_reducible refine goR2 ?_)
      have r27_18 := (Puts.row p18 rD (ne_mark q4 rD))
      exact (show bodyPostM _ _ _ _ _ .ret _ _ from retM1 (.bool true) rfl r27_18 (res_cell1 g6 4 _ (.bool true) (putD_row r6_18 r27_18 _) kj kj rfl) ⟨rfl, putD_ext x18 bD r27_18 _⟩)
theorem lawPieces (key nonce text : List Int) (a_n a_t : Option Addr) (c_n c_t : Nat) (number : Int) (th tq : TypeId) (w : World) (hh : w.heap[1]? = some (.cells (ints .u32 [1634760805, 857760878, 2036477234, 1797285236]) th)) (hq : w.heap[0]? = some (.cells (ints .i64 [0, 4, 8, 12, 1, 5, 9, 13, 2, 6, 10, 14, 3, 7, 11, 15, 0, 5, 10, 15, 1, 6, 11, 12, 2, 7, 8, 13, 3, 4, 9, 14]) tq)) (hkl : key.length = 32) (hkb : AreBytes key) (hnb : AreBytes nonce) (htb : AreBytes text) (hn : RdK .u8 w.heap.size nonce (.slice a_n nonce.length c_n) w) (ht : RdK .u8 w.heap.size text (.slice a_t text.length c_t) w) (cut : Int) : Calls Tryd.prog 3 #[.agg (cat [ints .u8 key, #[.slice a_n nonce.length c_n], #[.int .i64 number], #[.slice a_t text.length c_t]]), .int .i64 cut] w (Ret w (.bool true)) := by
  rcases Nat.lt_or_ge 1000 nonce.length with h | hs1
  · exact lawPieces_L key nonce text a_n a_t c_n c_t number th tq w hh hq hkl hkb hnb htb hn ht cut h
  rcases Nat.lt_or_ge 1000 text.length with h | hs2
  · exact lawPieces_M key nonce text a_n a_t c_n c_t number th tq w hh hq hkl hkb hnb htb hn ht cut hs1 h
  by_cases h : nonce.length = 12
  · rcases Int.lt_or_le number 0 with h1 | h1
    · exact lawPieces_B key nonce text a_n a_t c_n c_t number th tq w hh hq hkl hkb hnb htb hn ht cut hs1 hs2 h h1
    rcases Int.lt_or_le 4294967295 number with h2 | h2
    · exact lawPieces_C key nonce text a_n a_t c_n c_t number th tq w hh hq hkl hkb hnb htb hn ht cut hs1 hs2 h h1 h2
    obtain ⟨r, hr⟩ : ∃ r : Nat, number + (r : Int) = 4294967296 := ⟨(4294967296 - number).toNat, by omega⟩
    exact lawPieces_D key nonce text a_n a_t c_n c_t number th tq w hh hq hkl hkb hnb htb hn ht cut hs1 hs2 h r hr h1 h2
  · exact lawPieces_A key nonce text a_n a_t c_n c_t number th tq w hh hq hkl hkb hnb htb hn ht cut hs1 hs2 h
theorem lawPiecesF (key nonce text : List Int) (a_n a_t : Option Addr) (ln c_n lt c_t : Nat) (number : Int) (th tq : TypeId) (w : World) (hh : w.heap[1]? = some (.cells (ints .u32 [1634760805, 857760878, 2036477234, 1797285236]) th)) (hq : w.heap[0]? = some (.cells (ints .i64 [0, 4, 8, 12, 1, 5, 9, 13, 2, 6, 10, 14, 3, 7, 11, 15, 0, 5, 10, 15, 1, 6, 11, 12, 2, 7, 8, 13, 3, 4, 9, 14]) tq)) (hkl : key.length = 32) (hkb : AreBytes key) (hnb : AreBytes nonce) (htb : AreBytes text) (hn : RdK .u8 w.heap.size nonce (.slice a_n ln c_n) w) (ht : RdK .u8 w.heap.size text (.slice a_t lt c_t) w) (eln : nonce.length = ln) (elt : text.length = lt) (cut : Int) : Calls Tryd.prog 3 #[.agg ((key.map (Value.int .u8) ++ [Value.slice a_n ln c_n] ++ [Value.int .i64 number] ++ [Value.slice a_t lt c_t]).toArray), .int .i64 cut] w (Ret w (.bool true)) := by
  subst eln elt
  rw [cat_st]
  exact lawPieces key nonce text a_n a_t c_n c_t number th tq w hh hq hkl hkb hnb htb hn ht cut

end Go.Proofs.YticjghmgbmjkiaaDoor.Cha
