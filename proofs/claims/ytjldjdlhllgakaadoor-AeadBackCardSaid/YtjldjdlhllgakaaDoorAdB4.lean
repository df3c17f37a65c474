/- The law AeadBack. -/
import Derived.Test.YtjldjdlhllgakaaDoorAeK
import Derived.Laws.Externs
import Derived.Shelf.Spec.BitsCarry
import Derived.Shelf.Bits.Mul64
import Derived.Laws.Bits64b
namespace Go.Proofs.YtjldjdlhllgakaaDoor.Ae
open Go Go.RowKit
open Go.Proofs.YtjldjdlhllgakaaDoor.Rely Go.Proofs.YtjldjdlhllgakaaDoor.Auto Go.Proofs.YtjldjdlhllgakaaDoor.Own Go.Proofs.YtjldjdlhllgakaaDoor.Sha
set_option linter.unusedVariables false
set_option linter.unusedSimpArgs false

open Go.Proofs.YtjldjdlhllgakaaDoor.Sha Go.Proofs.YtjldjdlhllgakaaDoor.Cha
theorem cat_st (A : List Value) (x y z : Value) : (A ++ [x] ++ [y] ++ [z]).toArray = cat [A.toArray, #[x], #[y], #[z]] := by
  apply Array.ext'
  simp [cat]
theorem Open_bk (key nonce ctx text fs : List Int) (es : sealV key nonce ctx text = fs) (v v2 v3 : Value) (B B2 B3 : Nat) (th tq : TypeId) (w : World) (hh : w.heap[0]? = some (.cells (ints .u32 [1634760805, 857760878, 2036477234, 1797285236]) th)) (hq : w.heap[1]? = some (.cells (ints .i64 [0, 4, 8, 12, 1, 5, 9, 13, 2, 6, 10, 14, 3, 7, 11, 15, 0, 5, 10, 15, 1, 6, 11, 12, 2, 7, 8, 13, 3, 4, 9, 14]) tq)) (hkl : key.length = 32) (hn : RdK .u8 B nonce v w) (hc : RdK .u8 B2 ctx v2 w) (ht : RdK .u8 B3 fs v3 w) (hcb : AreBytes ctx) (htb : AreBytes text) (h : nonce.length = 12) (hcl : ctx.length ≤ 1048576) (hxl : text.length ≤ 1048576) :
    Calls Tryd.prog 20 #[.agg (ints .u8 key), v, v2, v3] w (Gives w (MixR w.heap.size text)) := by
  subst es
  exact Open_back key nonce ctx text v v2 v3 B B2 B3 th tq w hh hq hkl hn hc ht hcb htb h hcl hxl
set_option maxRecDepth 100000 in
set_option maxHeartbeats 4000000 in
theorem lawBack_L (key nonce ctx text : List Int) (a_n a_c a_t : Option Addr) (c_n c_c c_t : Nat) (th tq : TypeId) (w : World) (hh : w.heap[0]? = some (.cells (ints .u32 [1634760805, 857760878, 2036477234, 1797285236]) th)) (hq : w.heap[1]? = some (.cells (ints .i64 [0, 4, 8, 12, 1, 5, 9, 13, 2, 6, 10, 14, 3, 7, 11, 15, 0, 5, 10, 15, 1, 6, 11, 12, 2, 7, 8, 13, 3, 4, 9, 14]) tq)) (hkl : key.length = 32) (hkb : AreBytes key) (hnb : AreBytes nonce) (hcb : AreBytes ctx) (htb : AreBytes text) (hn : RdK .u8 w.heap.size nonce (.slice a_n nonce.length c_n) w) (hc : RdK .u8 w.heap.size ctx (.slice a_c ctx.length c_c) w) (ht : RdK .u8 w.heap.size text (.slice a_t text.length c_t) w) (h1 : 5000 < ctx.length) : Calls Tryd.prog 6 #[.agg (cat [ints .u8 key, #[.slice a_n nonce.length c_n], #[.slice a_c ctx.length c_c], #[.slice a_t text.length c_t]])] w (Ret w (.bool true)) := by
  refine enter 67 [(0, .agg (cat [ints .u8 (key), #[.slice a_n nonce.length c_n], #[.slice a_c ctx.length c_c], #[.slice a_t text.length c_t]]))] Tryd.func6 rfl rfl kj rfl ?_
  refine wp_seq_k fun K3 hK3 => ?_
  refine region_lit ?_
  refine seq_alloc (cat [ints .u8 (key), #[.slice a_n nonce.length c_n], #[.slice a_c ctx.length c_c], #[.slice a_t text.length c_t]]) 33 1 rfl kj kj fun g4 W1 l4 e1 r4_1 => ?_
  have x1 : Ext w W1 := Ext.tr (Rely.Ext.refl w) e1
  have b4 : w.heap.size ≤ g4 := Nat.le_trans (Rely.Ext.refl w).size l4
  refine seq_val (.bool false) 2 rfl kj kj ?_
  refine seq_nil ?_
  refine hK3 _ _ ?_
  try clear hK3 K3
  refine wp_seq_k fun K5 hK5 => ?_
  refine wp_seq_k fun K6 hK6 => ?_
  refine region_lit ?_
  have r2_1 := (row_ext hh e1)
  have r1_1 := (row_ext hq e1)
  refine seq_call (.bool true) 9 #[] 6 rfl kj kj ((alive04 th tq _ r2_1 r1_1)) fun W2 e2 => ?_
  have x2 : Ext w W2 := Ext.tr x1 e2
  refine seq_val (.bool false) 7 rfl kj kj ?_
  refine seq_nil ?_
  refine hK6 _ _ ?_
  try clear hK6 K6
  refine cond_false kj ?_
  refine wp_skip ?_
  refine hK5 _ _ ?_
  try clear hK5 K5
  refine wp_seq_k fun K7 hK7 => ?_
  refine wp_seq_k fun K8 hK8 => ?_
  refine region_lit ?_
  refine seq_val (.pointer (some ⟨g4, 33, none⟩)) 8 rfl kj kj ?_
  have r4_2 := (row_ext r4_1 e2)
  refine seq_val (.slice a_c ctx.length c_c) 9 rfl kj (run_loadC1 24 _ g4 33 33 _ (.slice a_c ctx.length c_c) _ r4_2 rfl kj (cat_part [ints .u8 (key), #[.slice a_n nonce.length c_n]] [#[.slice a_c ctx.length c_c]] [#[.slice a_t text.length c_t]] 33 (by rw [cat_cons, cat_cons]; simp only [Array.size_append, cat, ((ints_size _ _).trans hkl)]; rfl) 0 _ rfl) kj) ?_
  refine seq_val (.int .i64 ((ctx.length : Nat) : Int)) 10 rfl kj kj ?_
  refine seq_val (.bool true) 11 rfl kj (run_eq (u := .bool (decide (((ctx.length : Nat) : Int) > 5000))) kj (congrArg Value.bool (decide_eq_true (by omega)))) ?_
  refine seq_val (.bool true) 12 rfl kj kj ?_
  refine seq_skip 13 rfl kj ?_
  refine seq_skip 14 rfl kj ?_
  refine seq_skip 15 rfl kj ?_
  refine seq_skip 16 rfl kj ?_
  refine seq_val (.bool true) 17 rfl kj kj ?_
  refine seq_nil ?_
  refine hK8 _ _ ?_
  try clear hK8 K8
  refine cond_true kj ?_
  refine wp_seq_k fun K9 hK9 => ?_
  refine region_lit ?_
  refine seq_val (.bool true) 2 rfl kj kj ?_
  refine seq_nil ?_
  refine hK9 _ _ ?_
  try clear hK9 K9
  refine wp_ret ?_
  repeat (first | with_reducible refine goR1 ?_ | with_reducible refine goR2 ?_)
  exact (show bodyPost _ _ _ .ret _ _ from ret1 (.bool true) rfl (res_tmp kj) ⟨rfl, x2⟩)
set_option maxRecDepth 100000 in
set_option maxHeartbeats 4000000 in
theorem lawBack_M (key nonce ctx text : List Int) (a_n a_c a_t : Option Addr) (c_n c_c c_t : Nat) (th tq : TypeId) (w : World) (hh : w.heap[0]? = some (.cells (ints .u32 [1634760805, 857760878, 2036477234, 1797285236]) th)) (hq : w.heap[1]? = some (.cells (ints .i64 [0, 4, 8, 12, 1, 5, 9, 13, 2, 6, 10, 14, 3, 7, 11, 15, 0, 5, 10, 15, 1, 6, 11, 12, 2, 7, 8, 13, 3, 4, 9, 14]) tq)) (hkl : key.length = 32) (hkb : AreBytes key) (hnb : AreBytes nonce) (hcb : AreBytes ctx) (htb : AreBytes text) (hn : RdK .u8 w.heap.size nonce (.slice a_n nonce.length c_n) w) (hc : RdK .u8 w.heap.size ctx (.slice a_c ctx.length c_c) w) (ht : RdK .u8 w.heap.size text (.slice a_t text.length c_t) w) (h1 : ctx.length ≤ 5000) (h2 : 5000 < text.length) : Calls Tryd.prog 6 #[.agg (cat [ints .u8 key, #[.slice a_n nonce.length c_n], #[.slice a_c ctx.length c_c], #[.slice a_t text.length c_t]])] w (Ret w (.bool true)) := by
  refine enter 67 [(0, .agg (cat [ints .u8 (key), #[.slice a_n nonce.length c_n], #[.slice a_c ctx.length c_c], #[.slice a_t text.length c_t]]))] Tryd.func6 rfl rfl kj rfl ?_
  refine wp_seq_k fun K3 hK3 => ?_
  refine region_lit ?_
  refine seq_alloc (cat [ints .u8 (key), #[.slice a_n nonce.length c_n], #[.slice a_c ctx.length c_c], #[.slice a_t text.length c_t]]) 33 1 rfl kj kj fun g4 W1 l4 e1 r4_1 => ?_
  have x1 : Ext w W1 := Ext.tr (Rely.Ext.refl w) e1
  have b4 : w.heap.size ≤ g4 := Nat.le_trans (Rely.Ext.refl w).size l4
  refine seq_val (.bool false) 2 rfl kj kj ?_
  refine seq_nil ?_
  refine hK3 _ _ ?_
  try clear hK3 K3
  refine wp_seq_k fun K5 hK5 => ?_
  refine wp_seq_k fun K6 hK6 => ?_
  refine region_lit ?_
  have r2_1 := (row_ext hh e1)
  have r1_1 := (row_ext hq e1)
  refine seq_call (.bool true) 9 #[] 6 rfl kj kj ((alive04 th tq _ r2_1 r1_1)) fun W2 e2 => ?_
  have x2 : Ext w W2 := Ext.tr x1 e2
  refine seq_val (.bool false) 7 rfl kj kj ?_
  refine seq_nil ?_
  refine hK6 _ _ ?_
  try clear hK6 K6
  refine cond_false kj ?_
  refine wp_skip ?_
  refine hK5 _ _ ?_
  try clear hK5 K5
  refine wp_seq_k fun K7 hK7 => ?_
  refine wp_seq_k fun K8 hK8 => ?_
  refine region_lit ?_
  refine seq_val (.pointer (some ⟨g4, 33, none⟩)) 8 rfl kj kj ?_
  have r4_2 := (row_ext r4_1 e2)
  refine seq_val (.slice a_c ctx.length c_c) 9 rfl kj (run_loadC1 24 _ g4 33 33 _ (.slice a_c ctx.length c_c) _ r4_2 rfl kj (cat_part [ints .u8 (key), #[.slice a_n nonce.length c_n]] [#[.slice a_c ctx.length c_c]] [#[.slice a_t text.length c_t]] 33 (by rw [cat_cons, cat_cons]; simp only [Array.size_append, cat, ((ints_size _ _).trans hkl)]; rfl) 0 _ rfl) kj) ?_
  refine seq_val (.int .i64 ((ctx.length : Nat) : Int)) 10 rfl kj kj ?_
  refine seq_val (.bool false) 11 rfl kj (run_eq (u := .bool (decide (((ctx.length : Nat) : Int) > 5000))) kj (congrArg Value.bool (decide_eq_false (by omega)))) ?_
  refine seq_val (.bool false) 12 rfl kj kj ?_
  refine seq_val (.pointer (some ⟨g4, 34, none⟩)) 13 rfl kj kj ?_
  refine seq_val (.slice a_t text.length c_t) 14 rfl kj (run_loadC1 24 _ g4 34 33 _ (.slice a_t text.length c_t) _ r4_2 rfl kj (cat_part [ints .u8 (key), #[.slice a_n nonce.length c_n], #[.slice a_c ctx.length c_c]] [#[.slice a_t text.length c_t]] [] 34 (by rw [cat_cons, cat_cons, cat_cons]; simp only [Array.size_append, cat, ((ints_size _ _).trans hkl)]; rfl) 0 _ rfl) kj) ?_
  refine seq_val (.int .i64 ((text.length : Nat) : Int)) 15 rfl kj kj ?_
  refine seq_val (.bool true) 16 rfl kj (run_eq (u := .bool (decide (((text.length : Nat) : Int) > 5000))) kj (congrArg Value.bool (decide_eq_true (by omega)))) ?_
  refine seq_val (.bool true) 17 rfl kj kj ?_
  refine seq_nil ?_
  refine hK8 _ _ ?_
  try clear hK8 K8
  refine cond_true kj ?_
  refine wp_seq_k fun K9 hK9 => ?_
  refine region_lit ?_
  refine seq_val (.bool true) 2 rfl kj kj ?_
  refine seq_nil ?_
  refine hK9 _ _ ?_
  try clear hK9 K9
  refine wp_ret ?_
  repeat (first | with_reducible refine goR1 ?_ | with_reducible refine goR2 ?_)
  exact (show bodyPost _ _ _ .ret _ _ from ret1 (.bool true) rfl (res_tmp kj) ⟨rfl, x2⟩)
set_option maxRecDepth 100000 in
set_option maxHeartbeats 4000000 in
theorem lawBack_A (key nonce ctx text : List Int) (a_n a_c a_t : Option Addr) (c_n c_c c_t : Nat) (th tq : TypeId) (w : World) (hh : w.heap[0]? = some (.cells (ints .u32 [1634760805, 857760878, 2036477234, 1797285236]) th)) (hq : w.heap[1]? = some (.cells (ints .i64 [0, 4, 8, 12, 1, 5, 9, 13, 2, 6, 10, 14, 3, 7, 11, 15, 0, 5, 10, 15, 1, 6, 11, 12, 2, 7, 8, 13, 3, 4, 9, 14]) tq)) (hkl : key.length = 32) (hkb : AreBytes key) (hnb : AreBytes nonce) (hcb : AreBytes ctx) (htb : AreBytes text) (hn : RdK .u8 w.heap.size nonce (.slice a_n nonce.length c_n) w) (hc : RdK .u8 w.heap.size ctx (.slice a_c ctx.length c_c) w) (ht : RdK .u8 w.heap.size text (.slice a_t text.length c_t) w) (h1 : ctx.length ≤ 5000) (h2 : text.length ≤ 5000) (h : nonce.length ≠ 12) : Calls Tryd.prog 6 #[.agg (cat [ints .u8 key, #[.slice a_n nonce.length c_n], #[.slice a_c ctx.length c_c], #[.slice a_t text.length c_t]])] w (Ret w (.bool true)) := by
  refine enter 67 [(0, .agg (cat [ints .u8 (key), #[.slice a_n nonce.length c_n], #[.slice a_c ctx.length c_c], #[.slice a_t text.length c_t]]))] Tryd.func6 rfl rfl kj rfl ?_
  refine wp_seq_k fun K3 hK3 => ?_
  refine region_lit ?_
  refine seq_alloc (cat [ints .u8 (key), #[.slice a_n nonce.length c_n], #[.slice a_c ctx.length c_c], #[.slice a_t text.length c_t]]) 33 1 rfl kj kj fun g4 W1 l4 e1 r4_1 => ?_
  have x1 : Ext w W1 := Ext.tr (Rely.Ext.refl w) e1
  have b4 : w.heap.size ≤ g4 := Nat.le_trans (Rely.Ext.refl w).size l4
  refine seq_val (.bool false) 2 rfl kj kj ?_
  refine seq_nil ?_
  refine hK3 _ _ ?_
  try clear hK3 K3
  refine wp_seq_k fun K5 hK5 => ?_
  refine wp_seq_k fun K6 hK6 => ?_
  refine region_lit ?_
  have r2_1 := (row_ext hh e1)
  have r1_1 := (row_ext hq e1)
  refine seq_call (.bool true) 9 #[] 6 rfl kj kj ((alive04 th tq _ r2_1 r1_1)) fun W2 e2 => ?_
  have x2 : Ext w W2 := Ext.tr x1 e2
  refine seq_val (.bool false) 7 rfl kj kj ?_
  refine seq_nil ?_
  refine hK6 _ _ ?_
  try clear hK6 K6
  refine cond_false kj ?_
  refine wp_skip ?_
  refine hK5 _ _ ?_
  try clear hK5 K5
  refine wp_seq_k fun K7 hK7 => ?_
  refine wp_seq_k fun K8 hK8 => ?_
  refine region_lit ?_
  refine seq_val (.pointer (some ⟨g4, 33, none⟩)) 8 rfl kj kj ?_
  have r4_2 := (row_ext r4_1 e2)
  refine seq_val (.slice a_c ctx.length c_c) 9 rfl kj (run_loadC1 24 _ g4 33 33 _ (.slice a_c ctx.length c_c) _ r4_2 rfl kj (cat_part [ints .u8 (key), #[.slice a_n nonce.length c_n]] [#[.slice a_c ctx.length c_c]] [#[.slice a_t text.length c_t]] 33 (by rw [cat_cons, cat_cons]; simp only [Array.size_append, cat, ((ints_size _ _).trans hkl)]; rfl) 0 _ rfl) kj) ?_
  refine seq_val (.int .i64 ((ctx.length : Nat) : Int)) 10 rfl kj kj ?_
  refine seq_val (.bool false) 11 rfl kj (run_eq (u := .bool (decide (((ctx.length : Nat) : Int) > 5000))) kj (congrArg Value.bool (decide_eq_false (by omega)))) ?_
  refine seq_val (.bool false) 12 rfl kj kj ?_
  refine seq_val (.pointer (some ⟨g4, 34, none⟩)) 13 rfl kj kj ?_
  refine seq_val (.slice a_t text.length c_t) 14 rfl kj (run_loadC1 24 _ g4 34 33 _ (.slice a_t text.length c_t) _ r4_2 rfl kj (cat_part [ints .u8 (key), #[.slice a_n nonce.length c_n], #[.slice a_c ctx.length c_c]] [#[.slice a_t text.length c_t]] [] 34 (by rw [cat_cons, cat_cons, cat_cons]; simp only [Array.size_append, cat, ((ints_size _ _).trans hkl)]; rfl) 0 _ rfl) kj) ?_
  refine seq_val (.int .i64 ((text.length : Nat) : Int)) 15 rfl kj kj ?_
  refine seq_val (.bool false) 16 rfl kj (run_eq (u := .bool (decide (((text.length : Nat) : Int) > 5000))) kj (congrArg Value.bool (decide_eq_false (by omega)))) ?_
  refine seq_val (.bool false) 17 rfl kj kj ?_
  refine seq_nil ?_
  refine hK8 _ _ ?_
  try clear hK8 K8
  refine cond_false kj ?_
  refine wp_skip ?_
  refine hK7 _ _ ?_
  try clear hK7 K7
  refine wp_seq_k fun K9 hK9 => ?_
  refine region_lit ?_
  refine seq_val (.pointer (some ⟨g4, 0, none⟩)) 19 rfl kj kj ?_
  refine seq_val (.agg (ints .u8 (key))) 20 rfl kj (run_load_part 23 _ g4 0 33 _ _ _ r4_2 rfl kj (cat_part [] [ints .u8 (key)] [#[.slice a_n nonce.length c_n], #[.slice a_c ctx.length c_c], #[.slice a_t text.length c_t]] 0 kj) kj (isz (n := 32) kj ((ints_size _ _).trans hkl))) ?_
  refine seq_val (.pointer (some ⟨g4, 32, none⟩)) 21 rfl kj kj ?_
  refine seq_val (.slice a_n nonce.length c_n) 22 rfl kj (run_loadC1 24 _ g4 32 33 _ (.slice a_n nonce.length c_n) _ r4_2 rfl kj (cat_part [ints .u8 (key)] [#[.slice a_n nonce.length c_n]] [#[.slice a_c ctx.length c_c], #[.slice a_t text.length c_t]] 32 ((ints_size _ _).trans hkl) 0 _ rfl) kj) ?_
  refine seq_val (.pointer (some ⟨g4, 33, none⟩)) 23 rfl kj kj ?_
  refine seq_val (.slice a_c ctx.length c_c) 24 rfl kj (run_loadC1 24 _ g4 33 33 _ (.slice a_c ctx.length c_c) _ r4_2 rfl kj (cat_part [ints .u8 (key), #[.slice a_n nonce.length c_n]] [#[.slice a_c ctx.length c_c]] [#[.slice a_t text.length c_t]] 33 (by rw [cat_cons, cat_cons]; simp only [Array.size_append, cat, ((ints_size _ _).trans hkl)]; rfl) 0 _ rfl) kj) ?_
  refine seq_val (.pointer (some ⟨g4, 34, none⟩)) 25 rfl kj kj ?_
  refine seq_val (.slice a_t text.length c_t) 26 rfl kj (run_loadC1 24 _ g4 34 33 _ (.slice a_t text.length c_t) _ r4_2 rfl kj (cat_part [ints .u8 (key), #[.slice a_n nonce.length c_n], #[.slice a_c ctx.length c_c]] [#[.slice a_t text.length c_t]] [] 34 (by rw [cat_cons, cat_cons, cat_cons]; simp only [Array.size_append, cat, ((ints_size _ _).trans hkl)]; rfl) 0 _ rfl) kj) ?_
  have r2_2 := (row_ext r2_1 e2)
  have r1_2 := (row_ext r1_1 e2)
  refine seq_call (.tuple #[.slice none 0 0, .iface 45 (.int .i64 1)]) 15 #[.agg (ints .u8 (key)), .slice a_n nonce.length c_n, .slice a_c ctx.length c_c, .slice a_t text.length c_t] 27 rfl kj kj ((Seal_A key nonce ctx text _ _ _ _ _ _ th tq _ r2_2 r1_2 hkl (RdK.ext hn x2) (RdK.ext hc x2) (RdK.ext ht x2) hcb h)) fun W3 e3 => ?_
  have x3 : Ext w W3 := Ext.tr x2 e3
  refine seq_val (.tuple #[.slice none 0 0, .iface 45 (.int .i64 1)]) 18 rfl kj kj ?_
  refine seq_val (.slice none 0 0) 28 rfl kj kj ?_
  refine seq_val (.iface 45 (.int .i64 1)) 29 rfl kj kj ?_
  refine seq_val (.slice none 0 0) 3 rfl kj kj ?_
  refine seq_val (.iface 45 (.int .i64 1)) 4 rfl kj kj ?_
  refine seq_nil ?_
  refine hK9 _ _ ?_
  try clear hK9 K9
  refine wp_seq_k fun K10 hK10 => ?_
  refine wp_seq_k fun K11 hK11 => ?_
  refine region_lit ?_
  refine seq_val (.iface 45 (.int .i64 1)) 30 rfl kj kj ?_
  refine seq_val (.bool true) 31 rfl kj kj ?_
  refine seq_nil ?_
  refine hK11 _ _ ?_
  try clear hK11 K11
  refine cond_true kj ?_
  refine wp_seq_k fun K12 hK12 => ?_
  refine region_lit ?_
  refine seq_val (.iface 45 (.int .i64 1)) 32 rfl kj kj ?_
  refine seq_call (.bool true) 22 #[.iface 45 (.int .i64 1), .int .i64 1] 33 rfl kj kj ((is1) _) fun W4 e4 => ?_
  have x4 : Ext w W4 := Ext.tr x3 e4
  refine seq_val (.bool true) 34 rfl kj kj ?_
  refine seq_val (.slice none 0 0) 35 rfl kj kj ?_
  refine seq_val (.int .i64 0) 36 rfl kj kj ?_
  refine seq_val (.bool true) 37 rfl kj kj ?_
  refine seq_val (.bool true) 38 rfl kj kj ?_
  refine seq_val (.bool true) 2 rfl kj kj ?_
  refine seq_nil ?_
  refine hK12 _ _ ?_
  try clear hK12 K12
  refine wp_ret ?_
  repeat (first | with_reducible refine goR1 ?_ | with_reducible refine goR2 ?_)
  exact (show bodyPost _ _ _ .ret _ _ from ret1 (.bool true) rfl (res_tmp kj) ⟨rfl, x4⟩)
set_option maxRecDepth 100000 in
set_option maxHeartbeats 4000000 in
theorem lawBack_D (key nonce ctx text : List Int) (a_n a_c a_t : Option Addr) (c_n c_c c_t : Nat) (th tq : TypeId) (w : World) (hh : w.heap[0]? = some (.cells (ints .u32 [1634760805, 857760878, 2036477234, 1797285236]) th)) (hq : w.heap[1]? = some (.cells (ints .i64 [0, 4, 8, 12, 1, 5, 9, 13, 2, 6, 10, 14, 3, 7, 11, 15, 0, 5, 10, 15, 1, 6, 11, 12, 2, 7, 8, 13, 3, 4, 9, 14]) tq)) (hkl : key.length = 32) (hkb : AreBytes key) (hnb : AreBytes nonce) (hcb : AreBytes ctx) (htb : AreBytes text) (hn : RdK .u8 w.heap.size nonce (.slice a_n nonce.length c_n) w) (hc : RdK .u8 w.heap.size ctx (.slice a_c ctx.length c_c) w) (ht : RdK .u8 w.heap.size text (.slice a_t text.length c_t) w) (h1 : ctx.length ≤ 5000) (h2 : text.length ≤ 5000) (h : nonce.length = 12) : Calls Tryd.prog 6 #[.agg (cat [ints .u8 key, #[.slice a_n nonce.length c_n], #[.slice a_c ctx.length c_c], #[.slice a_t text.length c_t]])] w (Ret w (.bool true)) := by
  have lfs0 := sealV_len key nonce ctx text
  obtain ⟨fs, es⟩ : ∃ z : List Int, sealV key nonce ctx text = z := ⟨_, rfl⟩
  have lfs : fs.length = text.length + 16 := es ▸ lfs0
  refine enter 67 [(0, .agg (cat [ints .u8 (key), #[.slice a_n nonce.length c_n], #[.slice a_c ctx.length c_c], #[.slice a_t text.length c_t]]))] Tryd.func6 rfl rfl kj rfl ?_
  refine wp_seq_k fun K3 hK3 => ?_
  refine region_lit ?_
  refine seq_alloc (cat [ints .u8 (key), #[.slice a_n nonce.length c_n], #[.slice a_c ctx.length c_c], #[.slice a_t text.length c_t]]) 33 1 rfl kj kj fun g4 W1 l4 e1 r4_1 => ?_
  have x1 : Ext w W1 := Ext.tr (Rely.Ext.refl w) e1
  have b4 : w.heap.size ≤ g4 := Nat.le_trans (Rely.Ext.refl w).size l4
  refine seq_val (.bool false) 2 rfl kj kj ?_
  refine seq_nil ?_
  refine hK3 _ _ ?_
  try clear hK3 K3
  refine wp_seq_k fun K5 hK5 => ?_
  refine wp_seq_k fun K6 hK6 => ?_
  refine region_lit ?_
  have r2_1 := (row_ext hh e1)
  have r1_1 := (row_ext hq e1)
  refine seq_call (.bool true) 9 #[] 6 rfl kj kj ((alive04 th tq _ r2_1 r1_1)) fun W2 e2 => ?_
  have x2 : Ext w W2 := Ext.tr x1 e2
  refine seq_val (.bool false) 7 rfl kj kj ?_
  refine seq_nil ?_
  refine hK6 _ _ ?_
  try clear hK6 K6
  refine cond_false kj ?_
  refine wp_skip ?_
  refine hK5 _ _ ?_
  try clear hK5 K5
  refine wp_seq_k fun K7 hK7 => ?_
  refine wp_seq_k fun K8 hK8 => ?_
  refine region_lit ?_
  refine seq_val (.pointer (some ⟨g4, 33, none⟩)) 8 rfl kj kj ?_
  have r4_2 := (row_ext r4_1 e2)
  refine seq_val (.slice a_c ctx.length c_c) 9 rfl kj (run_loadC1 24 _ g4 33 33 _ (.slice a_c ctx.length c_c) _ r4_2 rfl kj (cat_part [ints .u8 (key), #[.slice a_n nonce.length c_n]] [#[.slice a_c ctx.length c_c]] [#[.slice a_t text.length c_t]] 33 (by rw [cat_cons, cat_cons]; simp only [Array.size_append, cat, ((ints_size _ _).trans hkl)]; rfl) 0 _ rfl) kj) ?_
  refine seq_val (.int .i64 ((ctx.length : Nat) : Int)) 10 rfl kj kj ?_
  refine seq_val (.bool false) 11 rfl kj (run_eq (u := .bool (decide (((ctx.length : Nat) : Int) > 5000))) kj (congrArg Value.bool (decide_eq_false (by omega)))) ?_
  refine seq_val (.bool false) 12 rfl kj kj ?_
  refine seq_val (.pointer (some ⟨g4, 34, none⟩)) 13 rfl kj kj ?_
  refine seq_val (.slice a_t text.length c_t) 14 rfl kj (run_loadC1 24 _ g4 34 33 _ (.slice a_t text.length c_t) _ r4_2 rfl kj (cat_part [ints .u8 (key), #[.slice a_n nonce.length c_n], #[.slice a_c ctx.length c_c]] [#[.slice a_t text.length c_t]] [] 34 (by rw [cat_cons, cat_cons, cat_cons]; simp only [Array.size_append, cat, ((ints_size _ _).trans hkl)]; rfl) 0 _ rfl) kj) ?_
  refine seq_val (.int .i64 ((text.length : Nat) : Int)) 15 rfl kj kj ?_
  refine seq_val (.bool false) 16 rfl kj (run_eq (u := .bool (decide (((text.length : Nat) : Int) > 5000))) kj (congrArg Value.bool (decide_eq_false (by omega)))) ?_
  refine seq_val (.bool false) 17 rfl kj kj ?_
  refine seq_nil ?_
  refine hK8 _ _ ?_
  try clear hK8 K8
  refine cond_false kj ?_
  refine wp_skip ?_
  refine hK7 _ _ ?_
  try clear hK7 K7
  refine wp_seq_k fun K9 hK9 => ?_
  refine region_lit ?_
  refine seq_val (.pointer (some ⟨g4, 0, none⟩)) 19 rfl kj kj ?_
  refine seq_val (.agg (ints .u8 (key))) 20 rfl kj (run_load_part 23 _ g4 0 33 _ _ _ r4_2 rfl kj (cat_part [] [ints .u8 (key)] [#[.slice a_n nonce.length c_n], #[.slice a_c ctx.length c_c], #[.slice a_t text.length c_t]] 0 kj) kj (isz (n := 32) kj ((ints_size _ _).trans hkl))) ?_
  refine seq_val (.pointer (some ⟨g4, 32, none⟩)) 21 rfl kj kj ?_
  refine seq_val (.slice a_n nonce.length c_n) 22 rfl kj (run_loadC1 24 _ g4 32 33 _ (.slice a_n nonce.length c_n) _ r4_2 rfl kj (cat_part [ints .u8 (key)] [#[.slice a_n nonce.length c_n]] [#[.slice a_c ctx.length c_c], #[.slice a_t text.length c_t]] 32 ((ints_size _ _).trans hkl) 0 _ rfl) kj) ?_
  refine seq_val (.pointer (some ⟨g4, 33, none⟩)) 23 rfl kj kj ?_
  refine seq_val (.slice a_c ctx.length c_c) 24 rfl kj (run_loadC1 24 _ g4 33 33 _ (.slice a_c ctx.length c_c) _ r4_2 rfl kj (cat_part [ints .u8 (key), #[.slice a_n nonce.length c_n]] [#[.slice a_c ctx.length c_c]] [#[.slice a_t text.length c_t]] 33 (by rw [cat_cons, cat_cons]; simp only [Array.size_append, cat, ((ints_size _ _).trans hkl)]; rfl) 0 _ rfl) kj) ?_
  refine seq_val (.pointer (some ⟨g4, 34, none⟩)) 25 rfl kj kj ?_
  refine seq_val (.slice a_t text.length c_t) 26 rfl kj (run_loadC1 24 _ g4 34 33 _ (.slice a_t text.length c_t) _ r4_2 rfl kj (cat_part [ints .u8 (key), #[.slice a_n nonce.length c_n], #[.slice a_c ctx.length c_c]] [#[.slice a_t text.length c_t]] [] 34 (by rw [cat_cons, cat_cons, cat_cons]; simp only [Array.size_append, cat, ((ints_size _ _).trans hkl)]; rfl) 0 _ rfl) kj) ?_
  have r2_2 := (row_ext r2_1 e2)
  have r1_2 := (row_ext r1_1 e2)
  refine seq_callR (fun v W' => (MixR W2.heap.size fs) v W' ∧ Ext W2 W') 15 #[.agg (ints .u8 (key)), .slice a_n nonce.length c_n, .slice a_c ctx.length c_c, .slice a_t text.length c_t] 27 rfl kj kj ((es ▸ Seal_D key nonce ctx text _ _ _ _ _ _ th tq _ r2_2 r1_2 hkl (RdK.ext hn x2) (RdK.ext hc x2) (RdK.ext ht x2) hcb h (by omega) (by omega)).mono (by rintro e w' ⟨v, rfl, e1, hv⟩; exact ⟨v, rfl, hv, e1⟩)) fun vv10 W3 hh10 => ?_
  obtain ⟨hv10, e3⟩ := hh10
  have x3 : Ext w W3 := Ext.tr x2 e3
  obtain ⟨u11_, rfl, hu11_⟩ := hv10
  obtain ⟨a11_, c11_, rfl, -⟩ := id (OwnN.rd hu11_)
  refine seq_val (.tuple #[.slice a11_ ((fs).length) c11_, .nilIface]) 18 rfl kj kj ?_
  refine seq_val (.slice a11_ ((fs).length) c11_) 28 rfl kj kj ?_
  refine seq_val (.nilIface) 29 rfl kj kj ?_
  refine seq_val (.slice a11_ ((fs).length) c11_) 3 rfl kj kj ?_
  refine seq_val (.nilIface) 4 rfl kj kj ?_
  refine seq_nil ?_
  refine hK9 _ _ ?_
  try clear hK9 K9
  refine wp_seq_k fun K12 hK12 => ?_
  refine wp_seq_k fun K13 hK13 => ?_
  refine region_lit ?_
  refine seq_val (.nilIface) 30 rfl kj kj ?_
  refine seq_val (.bool false) 31 rfl kj kj ?_
  refine seq_nil ?_
  refine hK13 _ _ ?_
  try clear hK13 K13
  refine cond_false kj ?_
  refine wp_skip ?_
  refine hK12 _ _ ?_
  try clear hK12 K12
  refine wp_seq_k fun K14 hK14 => ?_
  refine region_lit ?_
  refine seq_val (.pointer (some ⟨g4, 0, none⟩)) 40 rfl kj kj ?_
  have r4_3 := (row_ext r4_2 e3)
  refine seq_val (.agg (ints .u8 (key))) 41 rfl kj (run_load_part 23 _ g4 0 33 _ _ _ r4_3 rfl kj (cat_part [] [ints .u8 (key)] [#[.slice a_n nonce.length c_n], #[.slice a_c ctx.length c_c], #[.slice a_t text.length c_t]] 0 kj) kj (isz (n := 32) kj ((ints_size _ _).trans hkl))) ?_
  refine seq_val (.pointer (some ⟨g4, 32, none⟩)) 42 rfl kj kj ?_
  refine seq_val (.slice a_n nonce.length c_n) 43 rfl kj (run_loadC1 24 _ g4 32 33 _ (.slice a_n nonce.length c_n) _ r4_3 rfl kj (cat_part [ints .u8 (key)] [#[.slice a_n nonce.length c_n]] [#[.slice a_c ctx.length c_c], #[.slice a_t text.length c_t]] 32 ((ints_size _ _).trans hkl) 0 _ rfl) kj) ?_
  refine seq_val (.pointer (some ⟨g4, 33, none⟩)) 44 rfl kj kj ?_
  refine seq_val (.slice a_c ctx.length c_c) 45 rfl kj (run_loadC1 24 _ g4 33 33 _ (.slice a_c ctx.length c_c) _ r4_3 rfl kj (cat_part [ints .u8 (key), #[.slice a_n nonce.length c_n]] [#[.slice a_c ctx.length c_c]] [#[.slice a_t text.length c_t]] 33 (by rw [cat_cons, cat_cons]; simp only [Array.size_append, cat, ((ints_size _ _).trans hkl)]; rfl) 0 _ rfl) kj) ?_
  refine seq_val (.slice a11_ ((fs).length) c11_) 46 rfl kj kj ?_
  have r2_3 := (row_ext r2_2 e3)
  have r1_3 := (row_ext r1_2 e3)
  refine seq_callR (fun v W' => (MixR W3.heap.size text) v W' ∧ Ext W3 W') 20 #[.agg (ints .u8 (key)), .slice a_n nonce.length c_n, .slice a_c ctx.length c_c, .slice a11_ ((fs).length) c11_] 47 rfl kj kj ((Open_bk key nonce ctx text fs es _ _ _ _ _ _ th tq _ r2_3 r1_3 hkl (RdK.ext hn x3) (RdK.ext hc x3) (OwnN.rd hu11_) hcb htb h (by omega) (by omega)).mono (by rintro e w' ⟨v, rfl, e1, hv⟩; exact ⟨v, rfl, hv, e1⟩)) fun vv15 W4 hh15 => ?_
  obtain ⟨hv15, e4⟩ := hh15
  have x4 : Ext w W4 := Ext.tr x3 e4
  obtain ⟨u16_, rfl, hu16_⟩ := hv15
  obtain ⟨a16_, c16_, rfl, -⟩ := id (OwnN.rd hu16_)
  refine seq_val (.tuple #[.slice a16_ ((text).length) c16_, .nilIface]) 39 rfl kj kj ?_
  refine seq_val (.slice a16_ ((text).length) c16_) 48 rfl kj kj ?_
  refine seq_val (.nilIface) 49 rfl kj kj ?_
  refine seq_val (.slice a16_ ((text).length) c16_) 5 rfl kj kj ?_
  refine seq_val (.nilIface) 4 rfl kj kj ?_
  refine seq_nil ?_
  refine hK14 _ _ ?_
  try clear hK14 K14
  refine wp_seq_k fun K17 hK17 => ?_
  refine region_lit ?_
  refine seq_val (.nilIface) 50 rfl kj kj ?_
  refine seq_val (.bool true) 51 rfl kj kj ?_
  refine seq_val (.bool true) 52 rfl kj kj ?_
  refine seq_val (.slice a11_ ((fs).length) c11_) 53 rfl kj kj ?_
  refine seq_val (.int .i64 (((fs).length : Nat) : Int)) 54 rfl kj kj ?_
  refine seq_val (.pointer (some ⟨g4, 34, none⟩)) 55 rfl kj kj ?_
  have r4_4 := (row_ext r4_3 e4)
  refine seq_val (.slice a_t text.length c_t) 56 rfl kj (run_loadC1 24 _ g4 34 33 _ (.slice a_t text.length c_t) _ r4_4 rfl kj (cat_part [ints .u8 (key), #[.slice a_n nonce.length c_n], #[.slice a_c ctx.length c_c]] [#[.slice a_t text.length c_t]] [] 34 (by rw [cat_cons, cat_cons, cat_cons]; simp only [Array.size_append, cat, ((ints_size _ _).trans hkl)]; rfl) 0 _ rfl) kj) ?_
  refine seq_val (.int .i64 ((text.length : Nat) : Int)) 57 rfl kj kj ?_
  refine seq_val (.int .i64 ((text.length + 16 : Nat) : Int)) 58 rfl kj (run_eq (u := .int .i64 (IntKind.i64.wrap (((text.length : Nat) : Int) + 16))) kj (congrArg (Value.int .i64) (i64n _ _ (by omega) (by omega)))) ?_
  refine seq_val (.bool true) 59 rfl kj (run_eq (u := .bool (((((fs).length : Nat) : Int) == ((text.length + 16 : Nat) : Int)))) kj (congrArg Value.bool (beq_iff_eq.2 (by rw [lfs])))) ?_
  refine seq_val (.bool true) 60 rfl kj kj ?_
  refine seq_val (.bool true) 61 rfl kj kj ?_
  refine seq_val (.slice a16_ ((text).length) c16_) 62 rfl kj kj ?_
  refine seq_val (.pointer (some ⟨g4, 34, none⟩)) 63 rfl kj kj ?_
  refine seq_val (.slice a_t text.length c_t) 64 rfl kj (run_loadC1 24 _ g4 34 33 _ (.slice a_t text.length c_t) _ r4_4 rfl kj (cat_part [ints .u8 (key), #[.slice a_n nonce.length c_n], #[.slice a_c ctx.length c_c]] [#[.slice a_t text.length c_t]] [] 34 (by rw [cat_cons, cat_cons, cat_cons]; simp only [Array.size_append, cat, ((ints_size _ _).trans hkl)]; rfl) 0 _ rfl) kj) ?_
  refine seq_call (.bool true) 17 #[.slice a16_ ((text).length) c16_, .slice a_t text.length c_t] 65 rfl kj kj ((sameT _ _ _ _ _ rfl (RdK.bytes (OwnN.rd hu16_) htb) (RdK.bytes (RdK.ext ht x4) htb))) fun W5 e5 => ?_
  have x5 : Ext w W5 := Ext.tr x4 e5
  refine seq_val (.bool true) 66 rfl kj kj ?_
  refine seq_val (.bool true) 2 rfl kj kj ?_
  refine seq_nil ?_
  refine hK17 _ _ ?_
  try clear hK17 K17
  refine wp_ret ?_
  repeat (first | with_reducible refine goR1 ?_ | with_reducible refine goR2 ?_)
  exact (show bodyPost _ _ _ .ret _ _ from ret1 (.bool true) rfl (res_tmp kj) ⟨rfl, x5⟩)
theorem lawBack (key nonce ctx text : List Int) (a_n a_c a_t : Option Addr) (c_n c_c c_t : Nat) (th tq : TypeId) (w : World) (hh : w.heap[0]? = some (.cells (ints .u32 [1634760805, 857760878, 2036477234, 1797285236]) th)) (hq : w.heap[1]? = some (.cells (ints .i64 [0, 4, 8, 12, 1, 5, 9, 13, 2, 6, 10, 14, 3, 7, 11, 15, 0, 5, 10, 15, 1, 6, 11, 12, 2, 7, 8, 13, 3, 4, 9, 14]) tq)) (hkl : key.length = 32) (hkb : AreBytes key) (hnb : AreBytes nonce) (hcb : AreBytes ctx) (htb : AreBytes text) (hn : RdK .u8 w.heap.size nonce (.slice a_n nonce.length c_n) w) (hc : RdK .u8 w.heap.size ctx (.slice a_c ctx.length c_c) w) (ht : RdK .u8 w.heap.size text (.slice a_t text.length c_t) w) : Calls Tryd.prog 6 #[.agg (cat [ints .u8 key, #[.slice a_n nonce.length c_n], #[.slice a_c ctx.length c_c], #[.slice a_t text.length c_t]])] w (Ret w (.bool true)) := by
  by_cases h1 : 5000 < ctx.length
  · exact lawBack_L key nonce ctx text a_n a_c a_t c_n c_c c_t th tq w hh hq hkl hkb hnb hcb htb hn hc ht h1
  by_cases h2 : 5000 < text.length
  · exact lawBack_M key nonce ctx text a_n a_c a_t c_n c_c c_t th tq w hh hq hkl hkb hnb hcb htb hn hc ht (by omega) h2
  by_cases h : nonce.length = 12
  · exact lawBack_D key nonce ctx text a_n a_c a_t c_n c_c c_t th tq w hh hq hkl hkb hnb hcb htb hn hc ht (by omega) (by omega) h
  · exact lawBack_A key nonce ctx text a_n a_c a_t c_n c_c c_t th tq w hh hq hkl hkb hnb hcb htb hn hc ht (by omega) (by omega) h
theorem lawBackF (key nonce ctx text : List Int) (a_n a_c a_t : Option Addr) (ln c_n lc c_c lt c_t : Nat) (th tq : TypeId) (w : World) (hh : w.heap[0]? = some (.cells (ints .u32 [1634760805, 857760878, 2036477234, 1797285236]) th)) (hq : w.heap[1]? = some (.cells (ints .i64 [0, 4, 8, 12, 1, 5, 9, 13, 2, 6, 10, 14, 3, 7, 11, 15, 0, 5, 10, 15, 1, 6, 11, 12, 2, 7, 8, 13, 3, 4, 9, 14]) tq)) (hkl : key.length = 32) (hkb : AreBytes key) (hnb : AreBytes nonce) (hcb : AreBytes ctx) (htb : AreBytes text) (hn : RdK .u8 w.heap.size nonce (.slice a_n ln c_n) w) (hc : RdK .u8 w.heap.size ctx (.slice a_c lc c_c) w) (ht : RdK .u8 w.heap.size text (.slice a_t lt c_t) w) (eln : nonce.length = ln) (elc : ctx.length = lc) (elt : text.length = lt)  : Calls Tryd.prog 6 #[.agg ((key.map (Value.int .u8) ++ [Value.slice a_n ln c_n] ++ [Value.slice a_c lc c_c] ++ [Value.slice a_t lt c_t]).toArray)] w (Ret w (.bool true)) := by
  subst eln elc elt
  rw [cat_st]
  exact lawBack key nonce ctx text a_n a_c a_t c_n c_c c_t th tq w hh hq hkl hkb hnb hcb htb hn hc ht 

end Go.Proofs.YtjldjdlhllgakaaDoor.Ae
