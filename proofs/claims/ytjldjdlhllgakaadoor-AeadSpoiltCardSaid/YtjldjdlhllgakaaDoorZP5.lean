/- Texts of this claim, joined (P5). -/
import Derived.Test.YtjldjdlhllgakaaDoorZP4
import Derived.Laws.Externs
import Derived.Shelf.Spec.BitsCarry
import Derived.Shelf.Bits.Mul64
import Derived.Laws.Bits64b
import Derived.Lib.SmallJoins
import Derived.Lib.LaidTab

section
namespace Go.Proofs.YtjldjdlhllgakaaDoor.Ae
open Go Go.RowKit
open Rely Auto Own Sha
set_option linter.unusedVariables false
set_option linter.unusedSimpArgs false
open Sha Cha
theorem cat_st (A : List Value) (x y z : Value) : (A ++ [x] ++ [y] ++ [z]).toArray = cat [A.toArray, #[x], #[y], #[z]] := by
  apply Array.ext'
  simp [cat]
set_option maxRecDepth 100000 in
set_option maxHeartbeats 4000000 in
theorem Qfr (key nonce ctx text : List Int) (a_n a_c a_t : Option Addr) (c_n c_c c_t : Nat) (th tq : TypeId) (w : World) (hh : w.heap[0]? = some (.cells (ints .u32 [1634760805, 857760878, 2036477234, 1797285236]) th)) (hq : w.heap[1]? = some (.cells (ints .i64 [0, 4, 8, 12, 1, 5, 9, 13, 2, 6, 10, 14, 3, 7, 11, 15, 0, 5, 10, 15, 1, 6, 11, 12, 2, 7, 8, 13, 3, 4, 9, 14]) tq)) (hkl : key.length = 32) (hkb : Qah key) (hnb : Qah nonce) (hcb : Qah ctx) (htb : Qah text) (hn : RdK .u8 w.heap.size nonce (.slice a_n nonce.length c_n) w) (hc : RdK .u8 w.heap.size ctx (.slice a_c ctx.length c_c) w) (ht : RdK .u8 w.heap.size text (.slice a_t text.length c_t) w) (cut by_ : Int) (h1 : 500 < ctx.length) : Calls Tryd.prog 7 #[.agg (cat [ints .u8 key, #[.slice a_n nonce.length c_n], #[.slice a_c ctx.length c_c], #[.slice a_t text.length c_t]]), .int .i64 cut, .int .u8 by_] w (Ret w (.bool true)) := by
  refine enter 90 [(0, .agg (cat [ints .u8 (key), #[.slice a_n nonce.length c_n], #[.slice a_c ctx.length c_c], #[.slice a_t text.length c_t]])), (1, .int .i64 cut), (2, .int .u8 by_)] Tryd.func7 rfl rfl kj rfl ?_
  refine wp_seq_k fun K3 hK3 => ?_
  refine Qab ?_
  refine Qar (cat [ints .u8 (key), #[.slice a_n nonce.length c_n], #[.slice a_c ctx.length c_c], #[.slice a_t text.length c_t]]) 33 3 rfl kj kj fun g4 W1 l4 e1 r4_1 => ?_
  have x1 : Ext w W1 := Ext.tr (Rely.Ext.refl w) e1
  have b4 : w.heap.size ≤ g4 := Nat.le_trans (Rely.Ext.refl w).size l4
  refine Qaa (.bool false) 6 rfl kj kj ?_
  refine Qac ?_
  refine hK3 _ _ ?_
  refine wp_seq_k fun K5 hK5 => ?_
  refine wp_seq_k fun K6 hK6 => ?_
  refine Qab ?_
  have r2_1 := (Qad hh e1)
  have r1_1 := (Qad hq e1)
  refine Qa7 (.bool true) 9 #[] 11 rfl kj kj ((Qd2 th tq _ r2_1 r1_1)) fun W2 e2 => ?_
  have x2 : Ext w W2 := Ext.tr x1 e2
  refine Qaa (.bool false) 12 rfl kj kj ?_
  refine Qac ?_
  refine hK6 _ _ ?_
  refine cond_false kj ?_
  refine wp_skip ?_
  refine hK5 _ _ ?_
  refine wp_seq_k fun K7 hK7 => ?_
  refine wp_seq_k fun K8 hK8 => ?_
  refine Qab ?_
  refine Qaa (.pointer (some ⟨g4, 33, none⟩)) 13 rfl kj kj ?_
  have r4_2 := (Qad r4_1 e2)
  refine Qaa (.slice a_c ctx.length c_c) 14 rfl kj (Qae 24 _ g4 33 33 _ (.slice a_c ctx.length c_c) _ r4_2 rfl kj (Qa3 [ints .u8 (key), #[.slice a_n nonce.length c_n]] [#[.slice a_c ctx.length c_c]] [#[.slice a_t text.length c_t]] 33 (by rw [Qan, Qan]; simp only [Array.size_append, cat, ((Qaf _ _).trans hkl)]; rfl) 0 _ rfl) kj) ?_
  refine Qaa (.int .i64 ((ctx.length : Nat) : Int)) 15 rfl kj kj ?_
  refine Qaa (.bool true) 16 rfl kj (Qai (u := .bool (decide (((ctx.length : Nat) : Int) > 500))) kj (congrArg Value.bool (decide_eq_true (by omega)))) ?_
  refine Qaa (.bool true) 17 rfl kj kj ?_
  refine Qax 18 rfl kj ?_
  refine Qax 19 rfl kj ?_
  refine Qax 20 rfl kj ?_
  refine Qax 21 rfl kj ?_
  refine Qaa (.bool true) 22 rfl kj kj ?_
  refine Qac ?_
  refine hK8 _ _ ?_
  refine cond_true kj ?_
  refine wp_seq_k fun K9 hK9 => ?_
  refine Qab ?_
  refine Qaa (.bool true) 6 rfl kj kj ?_
  refine Qac ?_
  refine hK9 _ _ ?_
  refine wp_ret ?_
  repeat (first | with_reducible refine goR1 ?_ | with_reducible refine goR2 ?_)
  exact (show bodyPost _ _ _ .ret _ _ from ret1 (.bool true) rfl (QaE kj) ⟨rfl, x2⟩)
set_option maxRecDepth 100000 in
set_option maxHeartbeats 4000000 in
theorem Qfq (key nonce ctx text : List Int) (a_n a_c a_t : Option Addr) (c_n c_c c_t : Nat) (th tq : TypeId) (w : World) (hh : w.heap[0]? = some (.cells (ints .u32 [1634760805, 857760878, 2036477234, 1797285236]) th)) (hq : w.heap[1]? = some (.cells (ints .i64 [0, 4, 8, 12, 1, 5, 9, 13, 2, 6, 10, 14, 3, 7, 11, 15, 0, 5, 10, 15, 1, 6, 11, 12, 2, 7, 8, 13, 3, 4, 9, 14]) tq)) (hkl : key.length = 32) (hkb : Qah key) (hnb : Qah nonce) (hcb : Qah ctx) (htb : Qah text) (hn : RdK .u8 w.heap.size nonce (.slice a_n nonce.length c_n) w) (hc : RdK .u8 w.heap.size ctx (.slice a_c ctx.length c_c) w) (ht : RdK .u8 w.heap.size text (.slice a_t text.length c_t) w) (cut by_ : Int) (h1 : ctx.length ≤ 500) (h2 : 500 < text.length) : Calls Tryd.prog 7 #[.agg (cat [ints .u8 key, #[.slice a_n nonce.length c_n], #[.slice a_c ctx.length c_c], #[.slice a_t text.length c_t]]), .int .i64 cut, .int .u8 by_] w (Ret w (.bool true)) := by
  refine enter 90 [(0, .agg (cat [ints .u8 (key), #[.slice a_n nonce.length c_n], #[.slice a_c ctx.length c_c], #[.slice a_t text.length c_t]])), (1, .int .i64 cut), (2, .int .u8 by_)] Tryd.func7 rfl rfl kj rfl ?_
  refine wp_seq_k fun K3 hK3 => ?_
  refine Qab ?_
  refine Qar (cat [ints .u8 (key), #[.slice a_n nonce.length c_n], #[.slice a_c ctx.length c_c], #[.slice a_t text.length c_t]]) 33 3 rfl kj kj fun g4 W1 l4 e1 r4_1 => ?_
  have x1 : Ext w W1 := Ext.tr (Rely.Ext.refl w) e1
  have b4 : w.heap.size ≤ g4 := Nat.le_trans (Rely.Ext.refl w).size l4
  refine Qaa (.bool false) 6 rfl kj kj ?_
  refine Qac ?_
  refine hK3 _ _ ?_
  refine wp_seq_k fun K5 hK5 => ?_
  refine wp_seq_k fun K6 hK6 => ?_
  refine Qab ?_
  have r2_1 := (Qad hh e1)
  have r1_1 := (Qad hq e1)
  refine Qa7 (.bool true) 9 #[] 11 rfl kj kj ((Qd2 th tq _ r2_1 r1_1)) fun W2 e2 => ?_
  have x2 : Ext w W2 := Ext.tr x1 e2
  refine Qaa (.bool false) 12 rfl kj kj ?_
  refine Qac ?_
  refine hK6 _ _ ?_
  refine cond_false kj ?_
  refine wp_skip ?_
  refine hK5 _ _ ?_
  refine wp_seq_k fun K7 hK7 => ?_
  refine wp_seq_k fun K8 hK8 => ?_
  refine Qab ?_
  refine Qaa (.pointer (some ⟨g4, 33, none⟩)) 13 rfl kj kj ?_
  have r4_2 := (Qad r4_1 e2)
  refine Qaa (.slice a_c ctx.length c_c) 14 rfl kj (Qae 24 _ g4 33 33 _ (.slice a_c ctx.length c_c) _ r4_2 rfl kj (Qa3 [ints .u8 (key), #[.slice a_n nonce.length c_n]] [#[.slice a_c ctx.length c_c]] [#[.slice a_t text.length c_t]] 33 (by rw [Qan, Qan]; simp only [Array.size_append, cat, ((Qaf _ _).trans hkl)]; rfl) 0 _ rfl) kj) ?_
  refine Qaa (.int .i64 ((ctx.length : Nat) : Int)) 15 rfl kj kj ?_
  refine Qaa (.bool false) 16 rfl kj (Qai (u := .bool (decide (((ctx.length : Nat) : Int) > 500))) kj (congrArg Value.bool (decide_eq_false (by omega)))) ?_
  refine Qaa (.bool false) 17 rfl kj kj ?_
  refine Qaa (.pointer (some ⟨g4, 34, none⟩)) 18 rfl kj kj ?_
  refine Qaa (.slice a_t text.length c_t) 19 rfl kj (Qae 24 _ g4 34 33 _ (.slice a_t text.length c_t) _ r4_2 rfl kj (Qa3 [ints .u8 (key), #[.slice a_n nonce.length c_n], #[.slice a_c ctx.length c_c]] [#[.slice a_t text.length c_t]] [] 34 (by rw [Qan, Qan, Qan]; simp only [Array.size_append, cat, ((Qaf _ _).trans hkl)]; rfl) 0 _ rfl) kj) ?_
  refine Qaa (.int .i64 ((text.length : Nat) : Int)) 20 rfl kj kj ?_
  refine Qaa (.bool true) 21 rfl kj (Qai (u := .bool (decide (((text.length : Nat) : Int) > 500))) kj (congrArg Value.bool (decide_eq_true (by omega)))) ?_
  refine Qaa (.bool true) 22 rfl kj kj ?_
  refine Qac ?_
  refine hK8 _ _ ?_
  refine cond_true kj ?_
  refine wp_seq_k fun K9 hK9 => ?_
  refine Qab ?_
  refine Qaa (.bool true) 6 rfl kj kj ?_
  refine Qac ?_
  refine hK9 _ _ ?_
  refine wp_ret ?_
  repeat (first | with_reducible refine goR1 ?_ | with_reducible refine goR2 ?_)
  exact (show bodyPost _ _ _ .ret _ _ from ret1 (.bool true) rfl (QaE kj) ⟨rfl, x2⟩)
set_option maxRecDepth 100000 in
set_option maxHeartbeats 4000000 in
theorem Qft (key nonce ctx text : List Int) (a_n a_c a_t : Option Addr) (c_n c_c c_t : Nat) (th tq : TypeId) (w : World) (hh : w.heap[0]? = some (.cells (ints .u32 [1634760805, 857760878, 2036477234, 1797285236]) th)) (hq : w.heap[1]? = some (.cells (ints .i64 [0, 4, 8, 12, 1, 5, 9, 13, 2, 6, 10, 14, 3, 7, 11, 15, 0, 5, 10, 15, 1, 6, 11, 12, 2, 7, 8, 13, 3, 4, 9, 14]) tq)) (hkl : key.length = 32) (hkb : Qah key) (hnb : Qah nonce) (hcb : Qah ctx) (htb : Qah text) (hn : RdK .u8 w.heap.size nonce (.slice a_n nonce.length c_n) w) (hc : RdK .u8 w.heap.size ctx (.slice a_c ctx.length c_c) w) (ht : RdK .u8 w.heap.size text (.slice a_t text.length c_t) w) (cut by_ : Int) (h1 : ctx.length ≤ 500) (h2 : text.length ≤ 500) (h : nonce.length ≠ 12) : Calls Tryd.prog 7 #[.agg (cat [ints .u8 key, #[.slice a_n nonce.length c_n], #[.slice a_c ctx.length c_c], #[.slice a_t text.length c_t]]), .int .i64 cut, .int .u8 by_] w (Ret w (.bool true)) := by
  refine enter 90 [(0, .agg (cat [ints .u8 (key), #[.slice a_n nonce.length c_n], #[.slice a_c ctx.length c_c], #[.slice a_t text.length c_t]])), (1, .int .i64 cut), (2, .int .u8 by_)] Tryd.func7 rfl rfl kj rfl ?_
  refine wp_seq_k fun K3 hK3 => ?_
  refine Qab ?_
  refine Qar (cat [ints .u8 (key), #[.slice a_n nonce.length c_n], #[.slice a_c ctx.length c_c], #[.slice a_t text.length c_t]]) 33 3 rfl kj kj fun g4 W1 l4 e1 r4_1 => ?_
  have x1 : Ext w W1 := Ext.tr (Rely.Ext.refl w) e1
  have b4 : w.heap.size ≤ g4 := Nat.le_trans (Rely.Ext.refl w).size l4
  refine Qaa (.bool false) 6 rfl kj kj ?_
  refine Qac ?_
  refine hK3 _ _ ?_
  refine wp_seq_k fun K5 hK5 => ?_
  refine wp_seq_k fun K6 hK6 => ?_
  refine Qab ?_
  have r2_1 := (Qad hh e1)
  have r1_1 := (Qad hq e1)
  refine Qa7 (.bool true) 9 #[] 11 rfl kj kj ((Qd2 th tq _ r2_1 r1_1)) fun W2 e2 => ?_
  have x2 : Ext w W2 := Ext.tr x1 e2
  refine Qaa (.bool false) 12 rfl kj kj ?_
  refine Qac ?_
  refine hK6 _ _ ?_
  refine cond_false kj ?_
  refine wp_skip ?_
  refine hK5 _ _ ?_
  refine wp_seq_k fun K7 hK7 => ?_
  refine wp_seq_k fun K8 hK8 => ?_
  refine Qab ?_
  refine Qaa (.pointer (some ⟨g4, 33, none⟩)) 13 rfl kj kj ?_
  have r4_2 := (Qad r4_1 e2)
  refine Qaa (.slice a_c ctx.length c_c) 14 rfl kj (Qae 24 _ g4 33 33 _ (.slice a_c ctx.length c_c) _ r4_2 rfl kj (Qa3 [ints .u8 (key), #[.slice a_n nonce.length c_n]] [#[.slice a_c ctx.length c_c]] [#[.slice a_t text.length c_t]] 33 (by rw [Qan, Qan]; simp only [Array.size_append, cat, ((Qaf _ _).trans hkl)]; rfl) 0 _ rfl) kj) ?_
  refine Qaa (.int .i64 ((ctx.length : Nat) : Int)) 15 rfl kj kj ?_
  refine Qaa (.bool false) 16 rfl kj (Qai (u := .bool (decide (((ctx.length : Nat) : Int) > 500))) kj (congrArg Value.bool (decide_eq_false (by omega)))) ?_
  refine Qaa (.bool false) 17 rfl kj kj ?_
  refine Qaa (.pointer (some ⟨g4, 34, none⟩)) 18 rfl kj kj ?_
  refine Qaa (.slice a_t text.length c_t) 19 rfl kj (Qae 24 _ g4 34 33 _ (.slice a_t text.length c_t) _ r4_2 rfl kj (Qa3 [ints .u8 (key), #[.slice a_n nonce.length c_n], #[.slice a_c ctx.length c_c]] [#[.slice a_t text.length c_t]] [] 34 (by rw [Qan, Qan, Qan]; simp only [Array.size_append, cat, ((Qaf _ _).trans hkl)]; rfl) 0 _ rfl) kj) ?_
  refine Qaa (.int .i64 ((text.length : Nat) : Int)) 20 rfl kj kj ?_
  refine Qaa (.bool false) 21 rfl kj (Qai (u := .bool (decide (((text.length : Nat) : Int) > 500))) kj (congrArg Value.bool (decide_eq_false (by omega)))) ?_
  refine Qaa (.bool false) 22 rfl kj kj ?_
  refine Qac ?_
  refine hK8 _ _ ?_
  refine cond_false kj ?_
  refine wp_skip ?_
  refine hK7 _ _ ?_
  refine wp_seq_k fun K9 hK9 => ?_
  refine Qab ?_
  refine Qaa (.pointer (some ⟨g4, 0, none⟩)) 24 rfl kj kj ?_
  refine Qaa (.agg (ints .u8 (key))) 25 rfl kj (QaM 23 _ g4 0 33 _ _ _ r4_2 rfl kj (Qa3 [] [ints .u8 (key)] [#[.slice a_n nonce.length c_n], #[.slice a_c ctx.length c_c], #[.slice a_t text.length c_t]] 0 kj) kj (isz (n := 32) kj ((Qaf _ _).trans hkl))) ?_
  refine Qaa (.pointer (some ⟨g4, 32, none⟩)) 26 rfl kj kj ?_
  refine Qaa (.slice a_n nonce.length c_n) 27 rfl kj (Qae 24 _ g4 32 33 _ (.slice a_n nonce.length c_n) _ r4_2 rfl kj (Qa3 [ints .u8 (key)] [#[.slice a_n nonce.length c_n]] [#[.slice a_c ctx.length c_c], #[.slice a_t text.length c_t]] 32 ((Qaf _ _).trans hkl) 0 _ rfl) kj) ?_
  refine Qaa (.pointer (some ⟨g4, 33, none⟩)) 28 rfl kj kj ?_
  refine Qaa (.slice a_c ctx.length c_c) 29 rfl kj (Qae 24 _ g4 33 33 _ (.slice a_c ctx.length c_c) _ r4_2 rfl kj (Qa3 [ints .u8 (key), #[.slice a_n nonce.length c_n]] [#[.slice a_c ctx.length c_c]] [#[.slice a_t text.length c_t]] 33 (by rw [Qan, Qan]; simp only [Array.size_append, cat, ((Qaf _ _).trans hkl)]; rfl) 0 _ rfl) kj) ?_
  refine Qaa (.pointer (some ⟨g4, 34, none⟩)) 30 rfl kj kj ?_
  refine Qaa (.slice a_t text.length c_t) 31 rfl kj (Qae 24 _ g4 34 33 _ (.slice a_t text.length c_t) _ r4_2 rfl kj (Qa3 [ints .u8 (key), #[.slice a_n nonce.length c_n], #[.slice a_c ctx.length c_c]] [#[.slice a_t text.length c_t]] [] 34 (by rw [Qan, Qan, Qan]; simp only [Array.size_append, cat, ((Qaf _ _).trans hkl)]; rfl) 0 _ rfl) kj) ?_
  refine Qa7 (.tuple #[.slice none 0 0, .int .i64 1]) 16 #[.agg (ints .u8 (key)), .slice a_n nonce.length c_n, .slice a_c ctx.length c_c, .slice a_t text.length c_t] 32 rfl kj kj ((QhQ key nonce ctx text _ _ _ _ _ _ _ hkl hkb hnb (RdK.ext hn x2) (RdK.ext hc x2) (RdK.ext ht x2) hcb h)) fun W3 e3 => ?_
  have x3 : Ext w W3 := Ext.tr x2 e3
  refine Qaa (.tuple #[.slice none 0 0, .int .i64 1]) 23 rfl kj kj ?_
  refine Qaa (.slice none 0 0) 33 rfl kj kj ?_
  refine Qaa (.int .i64 1) 34 rfl kj kj ?_
  refine Qaa (.slice none 0 0) 7 rfl kj kj ?_
  refine Qaa (.int .i64 1) 8 rfl kj kj ?_
  refine Qac ?_
  refine hK9 _ _ ?_
  refine wp_seq_k fun K10 hK10 => ?_
  refine wp_seq_k fun K11 hK11 => ?_
  refine Qab ?_
  refine Qaa (.int .i64 1) 35 rfl kj kj ?_
  refine Qaa (.bool true) 36 rfl kj kj ?_
  refine Qaa (.bool true) 37 rfl kj kj ?_
  refine Qax 38 rfl kj ?_
  refine Qax 39 rfl kj ?_
  refine Qaa (.bool true) 40 rfl kj kj ?_
  refine Qac ?_
  refine hK11 _ _ ?_
  refine cond_true kj ?_
  refine wp_seq_k fun K12 hK12 => ?_
  refine Qab ?_
  refine Qaa (.bool true) 6 rfl kj kj ?_
  refine Qac ?_
  refine hK12 _ _ ?_
  refine wp_ret ?_
  repeat (first | with_reducible refine goR1 ?_ | with_reducible refine goR2 ?_)
  exact (show bodyPost _ _ _ .ret _ _ from ret1 (.bool true) rfl (QaE kj) ⟨rfl, x3⟩)
set_option maxRecDepth 100000 in
set_option maxHeartbeats 4000000 in
theorem Qfo (key nonce ctx text : List Int) (a_n a_c a_t : Option Addr) (c_n c_c c_t : Nat) (th tq : TypeId) (w : World) (hh : w.heap[0]? = some (.cells (ints .u32 [1634760805, 857760878, 2036477234, 1797285236]) th)) (hq : w.heap[1]? = some (.cells (ints .i64 [0, 4, 8, 12, 1, 5, 9, 13, 2, 6, 10, 14, 3, 7, 11, 15, 0, 5, 10, 15, 1, 6, 11, 12, 2, 7, 8, 13, 3, 4, 9, 14]) tq)) (hkl : key.length = 32) (hkb : Qah key) (hnb : Qah nonce) (hcb : Qah ctx) (htb : Qah text) (hn : RdK .u8 w.heap.size nonce (.slice a_n nonce.length c_n) w) (hc : RdK .u8 w.heap.size ctx (.slice a_c ctx.length c_c) w) (ht : RdK .u8 w.heap.size text (.slice a_t text.length c_t) w) (cut by_ : Int) (fs : List Int) (es : sealV key nonce ctx text = fs) (lfs : fs.length = text.length + 16) (hfb : Qah fs) (h1 : ctx.length ≤ 500) (h2 : text.length ≤ 500) (h : nonce.length = 12) (hz : by_ = 0) : Calls Tryd.prog 7 #[.agg (cat [ints .u8 key, #[.slice a_n nonce.length c_n], #[.slice a_c ctx.length c_c], #[.slice a_t text.length c_t]]), .int .i64 cut, .int .u8 by_] w (Ret w (.bool true)) := by
  refine enter 90 [(0, .agg (cat [ints .u8 (key), #[.slice a_n nonce.length c_n], #[.slice a_c ctx.length c_c], #[.slice a_t text.length c_t]])), (1, .int .i64 cut), (2, .int .u8 by_)] Tryd.func7 rfl rfl kj rfl ?_
  refine wp_seq_k fun K3 hK3 => ?_
  refine Qab ?_
  refine Qar (cat [ints .u8 (key), #[.slice a_n nonce.length c_n], #[.slice a_c ctx.length c_c], #[.slice a_t text.length c_t]]) 33 3 rfl kj kj fun g4 W1 l4 e1 r4_1 => ?_
  have x1 : Ext w W1 := Ext.tr (Rely.Ext.refl w) e1
  have b4 : w.heap.size ≤ g4 := Nat.le_trans (Rely.Ext.refl w).size l4
  refine Qaa (.bool false) 6 rfl kj kj ?_
  refine Qac ?_
  refine hK3 _ _ ?_
  refine wp_seq_k fun K5 hK5 => ?_
  refine wp_seq_k fun K6 hK6 => ?_
  refine Qab ?_
  have r2_1 := (Qad hh e1)
  have r1_1 := (Qad hq e1)
  refine Qa7 (.bool true) 9 #[] 11 rfl kj kj ((Qd2 th tq _ r2_1 r1_1)) fun W2 e2 => ?_
  have x2 : Ext w W2 := Ext.tr x1 e2
  refine Qaa (.bool false) 12 rfl kj kj ?_
  refine Qac ?_
  refine hK6 _ _ ?_
  refine cond_false kj ?_
  refine wp_skip ?_
  refine hK5 _ _ ?_
  refine wp_seq_k fun K7 hK7 => ?_
  refine wp_seq_k fun K8 hK8 => ?_
  refine Qab ?_
  refine Qaa (.pointer (some ⟨g4, 33, none⟩)) 13 rfl kj kj ?_
  have r4_2 := (Qad r4_1 e2)
  refine Qaa (.slice a_c ctx.length c_c) 14 rfl kj (Qae 24 _ g4 33 33 _ (.slice a_c ctx.length c_c) _ r4_2 rfl kj (Qa3 [ints .u8 (key), #[.slice a_n nonce.length c_n]] [#[.slice a_c ctx.length c_c]] [#[.slice a_t text.length c_t]] 33 (by rw [Qan, Qan]; simp only [Array.size_append, cat, ((Qaf _ _).trans hkl)]; rfl) 0 _ rfl) kj) ?_
  refine Qaa (.int .i64 ((ctx.length : Nat) : Int)) 15 rfl kj kj ?_
  refine Qaa (.bool false) 16 rfl kj (Qai (u := .bool (decide (((ctx.length : Nat) : Int) > 500))) kj (congrArg Value.bool (decide_eq_false (by omega)))) ?_
  refine Qaa (.bool false) 17 rfl kj kj ?_
  refine Qaa (.pointer (some ⟨g4, 34, none⟩)) 18 rfl kj kj ?_
  refine Qaa (.slice a_t text.length c_t) 19 rfl kj (Qae 24 _ g4 34 33 _ (.slice a_t text.length c_t) _ r4_2 rfl kj (Qa3 [ints .u8 (key), #[.slice a_n nonce.length c_n], #[.slice a_c ctx.length c_c]] [#[.slice a_t text.length c_t]] [] 34 (by rw [Qan, Qan, Qan]; simp only [Array.size_append, cat, ((Qaf _ _).trans hkl)]; rfl) 0 _ rfl) kj) ?_
  refine Qaa (.int .i64 ((text.length : Nat) : Int)) 20 rfl kj kj ?_
  refine Qaa (.bool false) 21 rfl kj (Qai (u := .bool (decide (((text.length : Nat) : Int) > 500))) kj (congrArg Value.bool (decide_eq_false (by omega)))) ?_
  refine Qaa (.bool false) 22 rfl kj kj ?_
  refine Qac ?_
  refine hK8 _ _ ?_
  refine cond_false kj ?_
  refine wp_skip ?_
  refine hK7 _ _ ?_
  refine wp_seq_k fun K9 hK9 => ?_
  refine Qab ?_
  refine Qaa (.pointer (some ⟨g4, 0, none⟩)) 24 rfl kj kj ?_
  refine Qaa (.agg (ints .u8 (key))) 25 rfl kj (QaM 23 _ g4 0 33 _ _ _ r4_2 rfl kj (Qa3 [] [ints .u8 (key)] [#[.slice a_n nonce.length c_n], #[.slice a_c ctx.length c_c], #[.slice a_t text.length c_t]] 0 kj) kj (isz (n := 32) kj ((Qaf _ _).trans hkl))) ?_
  refine Qaa (.pointer (some ⟨g4, 32, none⟩)) 26 rfl kj kj ?_
  refine Qaa (.slice a_n nonce.length c_n) 27 rfl kj (Qae 24 _ g4 32 33 _ (.slice a_n nonce.length c_n) _ r4_2 rfl kj (Qa3 [ints .u8 (key)] [#[.slice a_n nonce.length c_n]] [#[.slice a_c ctx.length c_c], #[.slice a_t text.length c_t]] 32 ((Qaf _ _).trans hkl) 0 _ rfl) kj) ?_
  refine Qaa (.pointer (some ⟨g4, 33, none⟩)) 28 rfl kj kj ?_
  refine Qaa (.slice a_c ctx.length c_c) 29 rfl kj (Qae 24 _ g4 33 33 _ (.slice a_c ctx.length c_c) _ r4_2 rfl kj (Qa3 [ints .u8 (key), #[.slice a_n nonce.length c_n]] [#[.slice a_c ctx.length c_c]] [#[.slice a_t text.length c_t]] 33 (by rw [Qan, Qan]; simp only [Array.size_append, cat, ((Qaf _ _).trans hkl)]; rfl) 0 _ rfl) kj) ?_
  refine Qaa (.pointer (some ⟨g4, 34, none⟩)) 30 rfl kj kj ?_
  refine Qaa (.slice a_t text.length c_t) 31 rfl kj (Qae 24 _ g4 34 33 _ (.slice a_t text.length c_t) _ r4_2 rfl kj (Qa3 [ints .u8 (key), #[.slice a_n nonce.length c_n], #[.slice a_c ctx.length c_c]] [#[.slice a_t text.length c_t]] [] 34 (by rw [Qan, Qan, Qan]; simp only [Array.size_append, cat, ((Qaf _ _).trans hkl)]; rfl) 0 _ rfl) kj) ?_
  refine Qau (fun v W' => (RMixR W2.heap.size fs) v W' ∧ Ext W2 W') 16 #[.agg (ints .u8 (key)), .slice a_n nonce.length c_n, .slice a_c ctx.length c_c, .slice a_t text.length c_t] 32 rfl kj kj ((es ▸ Qfg key nonce ctx text _ _ _ _ _ _ _ hkl hkb hnb (RdK.ext hn x2) (RdK.ext hc x2) (RdK.ext ht x2) hcb h (by omega) (by omega)).mono (by rintro e w' ⟨v, rfl, e1, hv⟩; exact ⟨v, rfl, hv, e1⟩)) fun vv10 W3 hh10 => ?_
  obtain ⟨hv10, e3⟩ := hh10
  have x3 : Ext w W3 := Ext.tr x2 e3
  obtain ⟨u11_, rfl, hu11_⟩ := hv10
  obtain ⟨a11_, c11_, rfl, -⟩ := id (OwnN.rd hu11_)
  refine Qaa (.tuple #[.slice a11_ ((fs).length) c11_, .int .i64 0]) 23 rfl kj kj ?_
  refine Qaa (.slice a11_ ((fs).length) c11_) 33 rfl kj kj ?_
  refine Qaa (.int .i64 0) 34 rfl kj kj ?_
  refine Qaa (.slice a11_ ((fs).length) c11_) 7 rfl kj kj ?_
  refine Qaa (.int .i64 0) 8 rfl kj kj ?_
  refine Qac ?_
  refine hK9 _ _ ?_
  refine wp_seq_k fun K12 hK12 => ?_
  refine wp_seq_k fun K13 hK13 => ?_
  refine Qab ?_
  refine Qaa (.int .i64 0) 35 rfl kj kj ?_
  refine Qaa (.bool false) 36 rfl kj kj ?_
  refine Qaa (.bool false) 37 rfl kj kj ?_
  refine Qaa (.int .u8 by_) 38 rfl kj kj ?_
  refine Qaa (.bool true) 39 rfl kj (Qai (u := .bool ((by_ == 0))) kj (congrArg Value.bool (beq_iff_eq.2 hz))) ?_
  refine Qaa (.bool true) 40 rfl kj kj ?_
  refine Qac ?_
  refine hK13 _ _ ?_
  refine cond_true kj ?_
  refine wp_seq_k fun K14 hK14 => ?_
  refine Qab ?_
  refine Qaa (.bool true) 6 rfl kj kj ?_
  refine Qac ?_
  refine hK14 _ _ ?_
  refine wp_ret ?_
  repeat (first | with_reducible refine goR1 ?_ | with_reducible refine goR2 ?_)
  exact (show bodyPost _ _ _ .ret _ _ from ret1 (.bool true) rfl (QaE kj) ⟨rfl, x3⟩)
set_option maxRecDepth 100000 in
set_option maxHeartbeats 4000000 in
theorem Qfp (key nonce ctx text : List Int) (a_n a_c a_t : Option Addr) (c_n c_c c_t : Nat) (th tq : TypeId) (w : World) (hh : w.heap[0]? = some (.cells (ints .u32 [1634760805, 857760878, 2036477234, 1797285236]) th)) (hq : w.heap[1]? = some (.cells (ints .i64 [0, 4, 8, 12, 1, 5, 9, 13, 2, 6, 10, 14, 3, 7, 11, 15, 0, 5, 10, 15, 1, 6, 11, 12, 2, 7, 8, 13, 3, 4, 9, 14]) tq)) (hkl : key.length = 32) (hkb : Qah key) (hnb : Qah nonce) (hcb : Qah ctx) (htb : Qah text) (hn : RdK .u8 w.heap.size nonce (.slice a_n nonce.length c_n) w) (hc : RdK .u8 w.heap.size ctx (.slice a_c ctx.length c_c) w) (ht : RdK .u8 w.heap.size text (.slice a_t text.length c_t) w) (cut by_ : Int) (hz : by_ ≠ 0) (fs : List Int) (es : sealV key nonce ctx text = fs) (lfs : fs.length = text.length + 16) (hfb : Qah fs) (k : Nat) (ek : (k : Int) = (cut % 18446744073709551616) % ((text.length + 16 : Nat) : Int)) (hk : k < text.length + 16) (fz : List Int) (ez : (fs.set k (bits .xor .u8 (nth (fs) k) by_)) = fz) (h1 : ctx.length ≤ 500) (h2 : text.length ≤ 500) (h : nonce.length = 12) (hsh : 16 ≤ (fz).length) (hne : authV key nonce ctx ((fz).take ((fz).length - 16)) ≠ (fz).drop ((fz).length - 16)) : Calls Tryd.prog 7 #[.agg (cat [ints .u8 key, #[.slice a_n nonce.length c_n], #[.slice a_c ctx.length c_c], #[.slice a_t text.length c_t]]), .int .i64 cut, .int .u8 by_] w (Ret w (.bool true)) := by
  have lfz : fz.length = text.length + 16 := by rw [← ez, List.length_set, lfs]
  have hzb : Qah fz := ez ▸ QaW hfb k (by have := QdI (nth fs k) by_; omega) (by have := QdI (nth fs k) by_; omega)
  refine enter 90 [(0, .agg (cat [ints .u8 (key), #[.slice a_n nonce.length c_n], #[.slice a_c ctx.length c_c], #[.slice a_t text.length c_t]])), (1, .int .i64 cut), (2, .int .u8 by_)] Tryd.func7 rfl rfl kj rfl ?_
  refine wp_seq_k fun K3 hK3 => ?_
  refine Qab ?_
  refine Qar (cat [ints .u8 (key), #[.slice a_n nonce.length c_n], #[.slice a_c ctx.length c_c], #[.slice a_t text.length c_t]]) 33 3 rfl kj kj fun g4 W1 l4 e1 r4_1 => ?_
  have x1 : Ext w W1 := Ext.tr (Rely.Ext.refl w) e1
  have b4 : w.heap.size ≤ g4 := Nat.le_trans (Rely.Ext.refl w).size l4
  refine Qaa (.bool false) 6 rfl kj kj ?_
  refine Qac ?_
  refine hK3 _ _ ?_
  refine wp_seq_k fun K5 hK5 => ?_
  refine wp_seq_k fun K6 hK6 => ?_
  refine Qab ?_
  have r2_1 := (Qad hh e1)
  have r1_1 := (Qad hq e1)
  refine Qa7 (.bool true) 9 #[] 11 rfl kj kj ((Qd2 th tq _ r2_1 r1_1)) fun W2 e2 => ?_
  have x2 : Ext w W2 := Ext.tr x1 e2
  refine Qaa (.bool false) 12 rfl kj kj ?_
  refine Qac ?_
  refine hK6 _ _ ?_
  refine cond_false kj ?_
  refine wp_skip ?_
  refine hK5 _ _ ?_
  refine wp_seq_k fun K7 hK7 => ?_
  refine wp_seq_k fun K8 hK8 => ?_
  refine Qab ?_
  refine Qaa (.pointer (some ⟨g4, 33, none⟩)) 13 rfl kj kj ?_
  have r4_2 := (Qad r4_1 e2)
  refine Qaa (.slice a_c ctx.length c_c) 14 rfl kj (Qae 24 _ g4 33 33 _ (.slice a_c ctx.length c_c) _ r4_2 rfl kj (Qa3 [ints .u8 (key), #[.slice a_n nonce.length c_n]] [#[.slice a_c ctx.length c_c]] [#[.slice a_t text.length c_t]] 33 (by rw [Qan, Qan]; simp only [Array.size_append, cat, ((Qaf _ _).trans hkl)]; rfl) 0 _ rfl) kj) ?_
  refine Qaa (.int .i64 ((ctx.length : Nat) : Int)) 15 rfl kj kj ?_
  refine Qaa (.bool false) 16 rfl kj (Qai (u := .bool (decide (((ctx.length : Nat) : Int) > 500))) kj (congrArg Value.bool (decide_eq_false (by omega)))) ?_
  refine Qaa (.bool false) 17 rfl kj kj ?_
  refine Qaa (.pointer (some ⟨g4, 34, none⟩)) 18 rfl kj kj ?_
  refine Qaa (.slice a_t text.length c_t) 19 rfl kj (Qae 24 _ g4 34 33 _ (.slice a_t text.length c_t) _ r4_2 rfl kj (Qa3 [ints .u8 (key), #[.slice a_n nonce.length c_n], #[.slice a_c ctx.length c_c]] [#[.slice a_t text.length c_t]] [] 34 (by rw [Qan, Qan, Qan]; simp only [Array.size_append, cat, ((Qaf _ _).trans hkl)]; rfl) 0 _ rfl) kj) ?_
  refine Qaa (.int .i64 ((text.length : Nat) : Int)) 20 rfl kj kj ?_
  refine Qaa (.bool false) 21 rfl kj (Qai (u := .bool (decide (((text.length : Nat) : Int) > 500))) kj (congrArg Value.bool (decide_eq_false (by omega)))) ?_
  refine Qaa (.bool false) 22 rfl kj kj ?_
  refine Qac ?_
  refine hK8 _ _ ?_
  refine cond_false kj ?_
  refine wp_skip ?_
  refine hK7 _ _ ?_
  refine wp_seq_k fun K9 hK9 => ?_
  refine Qab ?_
  refine Qaa (.pointer (some ⟨g4, 0, none⟩)) 24 rfl kj kj ?_
  refine Qaa (.agg (ints .u8 (key))) 25 rfl kj (QaM 23 _ g4 0 33 _ _ _ r4_2 rfl kj (Qa3 [] [ints .u8 (key)] [#[.slice a_n nonce.length c_n], #[.slice a_c ctx.length c_c], #[.slice a_t text.length c_t]] 0 kj) kj (isz (n := 32) kj ((Qaf _ _).trans hkl))) ?_
  refine Qaa (.pointer (some ⟨g4, 32, none⟩)) 26 rfl kj kj ?_
  refine Qaa (.slice a_n nonce.length c_n) 27 rfl kj (Qae 24 _ g4 32 33 _ (.slice a_n nonce.length c_n) _ r4_2 rfl kj (Qa3 [ints .u8 (key)] [#[.slice a_n nonce.length c_n]] [#[.slice a_c ctx.length c_c], #[.slice a_t text.length c_t]] 32 ((Qaf _ _).trans hkl) 0 _ rfl) kj) ?_
  refine Qaa (.pointer (some ⟨g4, 33, none⟩)) 28 rfl kj kj ?_
  refine Qaa (.slice a_c ctx.length c_c) 29 rfl kj (Qae 24 _ g4 33 33 _ (.slice a_c ctx.length c_c) _ r4_2 rfl kj (Qa3 [ints .u8 (key), #[.slice a_n nonce.length c_n]] [#[.slice a_c ctx.length c_c]] [#[.slice a_t text.length c_t]] 33 (by rw [Qan, Qan]; simp only [Array.size_append, cat, ((Qaf _ _).trans hkl)]; rfl) 0 _ rfl) kj) ?_
  refine Qaa (.pointer (some ⟨g4, 34, none⟩)) 30 rfl kj kj ?_
  refine Qaa (.slice a_t text.length c_t) 31 rfl kj (Qae 24 _ g4 34 33 _ (.slice a_t text.length c_t) _ r4_2 rfl kj (Qa3 [ints .u8 (key), #[.slice a_n nonce.length c_n], #[.slice a_c ctx.length c_c]] [#[.slice a_t text.length c_t]] [] 34 (by rw [Qan, Qan, Qan]; simp only [Array.size_append, cat, ((Qaf _ _).trans hkl)]; rfl) 0 _ rfl) kj) ?_
  refine Qau (fun v W' => (RMixR W2.heap.size fs) v W' ∧ Ext W2 W') 16 #[.agg (ints .u8 (key)), .slice a_n nonce.length c_n, .slice a_c ctx.length c_c, .slice a_t text.length c_t] 32 rfl kj kj ((es ▸ Qfg key nonce ctx text _ _ _ _ _ _ _ hkl hkb hnb (RdK.ext hn x2) (RdK.ext hc x2) (RdK.ext ht x2) hcb h (by omega) (by omega)).mono (by rintro e w' ⟨v, rfl, e1, hv⟩; exact ⟨v, rfl, hv, e1⟩)) fun vv10 W3 hh10 => ?_
  obtain ⟨hv10, e3⟩ := hh10
  have x3 : Ext w W3 := Ext.tr x2 e3
  obtain ⟨u11_, rfl, hu11_⟩ := hv10
  obtain ⟨a11_, c11_, rfl, -⟩ := id (OwnN.rd hu11_)
  refine Qaa (.tuple #[.slice a11_ ((fs).length) c11_, .int .i64 0]) 23 rfl kj kj ?_
  refine Qaa (.slice a11_ ((fs).length) c11_) 33 rfl kj kj ?_
  refine Qaa (.int .i64 0) 34 rfl kj kj ?_
  refine Qaa (.slice a11_ ((fs).length) c11_) 7 rfl kj kj ?_
  obtain ⟨gr, cr, rr_, evr, lr, rowr, hcr⟩ := Qcz hu11_ lfs (by omega)
  rw [evr]
  refine Qaa (.int .i64 0) 8 rfl kj kj ?_
  refine Qac ?_
  refine hK9 _ _ ?_
  refine wp_seq_k fun K13 hK13 => ?_
  refine wp_seq_k fun K14 hK14 => ?_
  refine Qab ?_
  refine Qaa (.int .i64 0) 35 rfl kj kj ?_
  refine Qaa (.bool false) 36 rfl kj kj ?_
  refine Qaa (.bool false) 37 rfl kj kj ?_
  refine Qaa (.int .u8 by_) 38 rfl kj kj ?_
  refine Qaa (.bool false) 39 rfl kj (Qai (u := .bool ((by_ == 0))) kj (congrArg Value.bool (beq_eq_false_iff_ne.2 hz))) ?_
  refine Qaa (.bool false) 40 rfl kj kj ?_
  refine Qac ?_
  refine hK14 _ _ ?_
  refine cond_false kj ?_
  refine wp_skip ?_
  refine hK13 _ _ ?_
  refine wp_seq_k fun K15 hK15 => ?_
  refine Qab ?_
  refine Qaa (.slice (some ⟨gr, 0, none⟩) (text.length + 16) cr) 41 rfl kj kj ?_
  refine Qaa (.int .i64 cut) 42 rfl kj kj ?_
  refine Qaa (.int .u64 (cut % 18446744073709551616)) 43 rfl kj (Qai (u := .int .u64 (IntKind.u64.wrap (cut))) kj (congrArg (Value.int .u64) rfl)) ?_
  refine Qaa (.slice (some ⟨gr, 0, none⟩) (text.length + 16) cr) 44 rfl kj kj ?_
  refine Qaa (.int .i64 ((text.length + 16 : Nat) : Int)) 45 rfl kj kj ?_
  refine Qaa (.int .u64 (((text.length + 16 : Nat) : Int))) 46 rfl kj (Qai (u := .int .u64 (IntKind.u64.wrap ((text.length + 16 : Nat) : Int))) kj (congrArg (Value.int .u64) (u64n _ (by omega)))) ?_
  refine Qaa (.int .u64 ((k : Nat) : Int)) 47 rfl kj (Qb0 .rem _ _ _ _ .u64 .u64 _ _ _ rfl kj kj (QhI _ _ (cut % 18446744073709551616) ((text.length + 16 : Nat) : Int) ((k : Nat) : Int) (by omega) (by rw [Int.tmod_eq_emod_of_nonneg (by omega), ← ek]))) ?_
  refine Qaa (.pointer (some ⟨gr, k, none⟩)) 48 rfl kj (Qas 24 _ _ .u64 (k) gr (text.length + 16) cr 5 rfl kj kj kj kj (by omega)) ?_
  refine Qaa (.int .u8 (nth (fs) k)) 49 rfl kj (Qae 5 _ gr k 5 _ (.int .u8 (nth (fs) k)) _ rowr rfl kj (QaS (Nat.lt_of_lt_of_eq (by omega) lfs.symm)) kj) ?_
  refine Qaa (.int .u8 by_) 50 rfl kj kj ?_
  refine Qaa (.int .u8 (bits .xor .u8 (nth (fs) k) by_)) 51 rfl kj (Qai (u := .int .u8 (bits .xor .u8 ((nth (fs) k)) (by_))) kj (congrArg (Value.int .u8) rfl)) ?_
  refine Qaa (.pointer (some ⟨gr, k, none⟩)) 52 rfl kj (Qas 24 _ _ .u64 (k) gr (text.length + 16) cr 5 rfl kj kj kj kj (by omega)) ?_
  refine Qak gr _ (ints .u8 ((fs).set k (bits .xor .u8 (nth (fs) k) by_)) ++ rr_) 5 rowr rfl kj (Qbd 5 _ _ gr k 5 _ _ _ rowr rfl kj kj kj (Nat.lt_of_lt_of_eq (by omega) lfs.symm)) fun W4 p4 r12_4 => ?_
  have x4 : Ext w W4 := Puts.ext p4 x3 (Nat.le_trans x2.size lr)
  have r12_4_16 : W4.heap[gr]? = some (.cells (ints .u8 (fz) ++ rr_) 5) := Qbf r12_4 ez
  refine Qac ?_
  refine hK15 _ _ ?_
  refine wp_seq_k fun K17 hK17 => ?_
  refine Qab ?_
  refine Qaa (.pointer (some ⟨g4, 0, none⟩)) 54 rfl kj kj ?_
  have r4_3 := (Qad r4_2 e3)
  have r4_4 := (Puts.row p4 r4_3 (Qag r4_2 lr))
  refine Qaa (.agg (ints .u8 (key))) 55 rfl kj (QaM 23 _ g4 0 33 _ _ _ r4_4 rfl kj (Qa3 [] [ints .u8 (key)] [#[.slice a_n nonce.length c_n], #[.slice a_c ctx.length c_c], #[.slice a_t text.length c_t]] 0 kj) kj (isz (n := 32) kj ((Qaf _ _).trans hkl))) ?_
  refine Qaa (.pointer (some ⟨g4, 32, none⟩)) 56 rfl kj kj ?_
  refine Qaa (.slice a_n nonce.length c_n) 57 rfl kj (Qae 24 _ g4 32 33 _ (.slice a_n nonce.length c_n) _ r4_4 rfl kj (Qa3 [ints .u8 (key)] [#[.slice a_n nonce.length c_n]] [#[.slice a_c ctx.length c_c], #[.slice a_t text.length c_t]] 32 ((Qaf _ _).trans hkl) 0 _ rfl) kj) ?_
  refine Qaa (.pointer (some ⟨g4, 33, none⟩)) 58 rfl kj kj ?_
  refine Qaa (.slice a_c ctx.length c_c) 59 rfl kj (Qae 24 _ g4 33 33 _ (.slice a_c ctx.length c_c) _ r4_4 rfl kj (Qa3 [ints .u8 (key), #[.slice a_n nonce.length c_n]] [#[.slice a_c ctx.length c_c]] [#[.slice a_t text.length c_t]] 33 (by rw [Qan, Qan]; simp only [Array.size_append, cat, ((Qaf _ _).trans hkl)]; rfl) 0 _ rfl) kj) ?_
  refine Qaa (.slice (some ⟨gr, 0, none⟩) (text.length + 16) cr) 60 rfl kj kj ?_
  refine Qa7 (.tuple #[.slice none 0 0, .int .i64 2]) 21 #[.agg (ints .u8 (key)), .slice a_n nonce.length c_n, .slice a_c ctx.length c_c, .slice (some ⟨gr, 0, none⟩) (text.length + 16) cr] 61 rfl kj kj ((QhR key nonce ctx fz _ _ _ _ _ _ _ hkl hkb hnb (RdK.ext hn x4) (RdK.ext hc x4) (Qc7 lfz r12_4_16 hcr) hcb hzb h (by omega) (by omega) hsh hne)) fun W5 e5 => ?_
  have x5 : Ext w W5 := Ext.tr x4 e5
  refine Qaa (.tuple #[.slice none 0 0, .int .i64 2]) 53 rfl kj kj ?_
  refine Qaa (.slice none 0 0) 62 rfl kj kj ?_
  refine Qaa (.int .i64 2) 63 rfl kj kj ?_
  refine Qaa (.int .i64 2) 8 rfl kj kj ?_
  refine Qac ?_
  refine hK17 _ _ ?_
  refine wp_seq_k fun K18 hK18 => ?_
  refine Qab ?_
  refine Qaa (.pointer (some ⟨g4, 0, none⟩)) 65 rfl kj kj ?_
  have r4_5 := (Qad r4_4 e5)
  refine Qaa (.agg (ints .u8 (key))) 66 rfl kj (QaM 23 _ g4 0 33 _ _ _ r4_5 rfl kj (Qa3 [] [ints .u8 (key)] [#[.slice a_n nonce.length c_n], #[.slice a_c ctx.length c_c], #[.slice a_t text.length c_t]] 0 kj) kj (isz (n := 32) kj ((Qaf _ _).trans hkl))) ?_
  refine Qaa (.pointer (some ⟨g4, 32, none⟩)) 67 rfl kj kj ?_
  refine Qaa (.slice a_n nonce.length c_n) 68 rfl kj (Qae 24 _ g4 32 33 _ (.slice a_n nonce.length c_n) _ r4_5 rfl kj (Qa3 [ints .u8 (key)] [#[.slice a_n nonce.length c_n]] [#[.slice a_c ctx.length c_c], #[.slice a_t text.length c_t]] 32 ((Qaf _ _).trans hkl) 0 _ rfl) kj) ?_
  refine Qaa (.pointer (some ⟨g4, 33, none⟩)) 69 rfl kj kj ?_
  refine Qaa (.slice a_c ctx.length c_c) 70 rfl kj (Qae 24 _ g4 33 33 _ (.slice a_c ctx.length c_c) _ r4_5 rfl kj (Qa3 [ints .u8 (key), #[.slice a_n nonce.length c_n]] [#[.slice a_c ctx.length c_c]] [#[.slice a_t text.length c_t]] 33 (by rw [Qan, Qan]; simp only [Array.size_append, cat, ((Qaf _ _).trans hkl)]; rfl) 0 _ rfl) kj) ?_
  refine Qaa (.slice (some ⟨gr, 0, none⟩) (text.length + 16) cr) 71 rfl kj kj ?_
  have r2_2 := (Qad r2_1 e2)
  have r2_3 := (Qad r2_2 e3)
  have r2_4 := (Puts.row p4 r2_3 (Qag r2_2 lr))
  have r2_5 := (Qad r2_4 e5)
  have r1_2 := (Qad r1_1 e2)
  have r1_3 := (Qad r1_2 e3)
  have r1_4 := (Puts.row p4 r1_3 (Qag r1_2 lr))
  have r1_5 := (Qad r1_4 e5)
  have r12_5 := (Qad r12_4_16 e5)
  refine Qa7 (.tuple #[.slice none 0 0, .iface 45 (.int .i64 2)]) 20 #[.agg (ints .u8 (key)), .slice a_n nonce.length c_n, .slice a_c ctx.length c_c, .slice (some ⟨gr, 0, none⟩) (text.length + 16) cr] 72 rfl kj kj ((QhJ key nonce ctx fz _ _ _ _ _ _ th tq _ r2_5 r1_5 hkl (RdK.ext hn x5) (RdK.ext hc x5) (Qc7 lfz r12_5 hcr) hcb hzb h (by omega) (by omega) hsh hne)) fun W6 e6 => ?_
  have x6 : Ext w W6 := Ext.tr x5 e6
  refine Qaa (.tuple #[.slice none 0 0, .iface 45 (.int .i64 2)]) 64 rfl kj kj ?_
  refine Qaa (.slice none 0 0) 73 rfl kj kj ?_
  refine Qaa (.iface 45 (.int .i64 2)) 74 rfl kj kj ?_
  refine Qaa (.slice none 0 0) 9 rfl kj kj ?_
  refine Qaa (.iface 45 (.int .i64 2)) 10 rfl kj kj ?_
  refine Qac ?_
  refine hK18 _ _ ?_
  refine wp_seq_k fun K19 hK19 => ?_
  refine Qab ?_
  refine Qaa (.int .i64 2) 75 rfl kj kj ?_
  refine Qaa (.bool false) 76 rfl kj kj ?_
  refine Qaa (.bool false) 77 rfl kj kj ?_
  refine Qax 78 rfl kj ?_
  refine Qax 79 rfl kj ?_
  refine Qaa (.bool false) 80 rfl kj kj ?_
  refine Qaa (.bool false) 81 rfl kj kj ?_
  refine Qaa (.iface 45 (.int .i64 2)) 82 rfl kj kj ?_
  refine Qa7 (.bool true) 22 #[.iface 45 (.int .i64 2), .int .i64 2] 83 rfl kj kj ((is2) _) fun W7 e7 => ?_
  have x7 : Ext w W7 := Ext.tr x6 e7
  refine Qaa (.bool true) 84 rfl kj kj ?_
  refine Qaa (.slice none 0 0) 85 rfl kj kj ?_
  refine Qaa (.int .i64 0) 86 rfl kj kj ?_
  refine Qaa (.bool true) 87 rfl kj kj ?_
  refine Qaa (.bool true) 88 rfl kj kj ?_
  refine Qaa (.bool true) 89 rfl kj kj ?_
  refine Qaa (.bool true) 6 rfl kj kj ?_
  refine Qac ?_
  refine hK19 _ _ ?_
  refine wp_ret ?_
  repeat (first | with_reducible refine goR1 ?_ | with_reducible refine goR2 ?_)
  exact (show bodyPost _ _ _ .ret _ _ from ret1 (.bool true) rfl (QaE kj) ⟨rfl, x7⟩)
set_option maxRecDepth 100000 in
set_option maxHeartbeats 4000000 in
theorem Qfs (key nonce ctx text : List Int) (a_n a_c a_t : Option Addr) (c_n c_c c_t : Nat) (th tq : TypeId) (w : World) (hh : w.heap[0]? = some (.cells (ints .u32 [1634760805, 857760878, 2036477234, 1797285236]) th)) (hq : w.heap[1]? = some (.cells (ints .i64 [0, 4, 8, 12, 1, 5, 9, 13, 2, 6, 10, 14, 3, 7, 11, 15, 0, 5, 10, 15, 1, 6, 11, 12, 2, 7, 8, 13, 3, 4, 9, 14]) tq)) (hkl : key.length = 32) (hkb : Qah key) (hnb : Qah nonce) (hcb : Qah ctx) (htb : Qah text) (hn : RdK .u8 w.heap.size nonce (.slice a_n nonce.length c_n) w) (hc : RdK .u8 w.heap.size ctx (.slice a_c ctx.length c_c) w) (ht : RdK .u8 w.heap.size text (.slice a_t text.length c_t) w) (cut by_ : Int) (hz : by_ ≠ 0) (fs : List Int) (es : sealV key nonce ctx text = fs) (lfs : fs.length = text.length + 16) (hfb : Qah fs) (k : Nat) (ek : (k : Int) = (cut % 18446744073709551616) % ((text.length + 16 : Nat) : Int)) (hk : k < text.length + 16) (fz : List Int) (ez : (fs.set k (bits .xor .u8 (nth (fs) k) by_)) = fz) (h1 : ctx.length ≤ 500) (h2 : text.length ≤ 500) (h : nonce.length = 12) (hsh : 16 ≤ (fz).length) (hne : authV key nonce ctx ((fz).take ((fz).length - 16)) = (fz).drop ((fz).length - 16)) : Calls Tryd.prog 7 #[.agg (cat [ints .u8 key, #[.slice a_n nonce.length c_n], #[.slice a_c ctx.length c_c], #[.slice a_t text.length c_t]]), .int .i64 cut, .int .u8 by_] w (Ret w (.bool true)) := by
  have lfz : fz.length = text.length + 16 := by rw [← ez, List.length_set, lfs]
  have hzb : Qah fz := ez ▸ QaW hfb k (by have := QdI (nth fs k) by_; omega) (by have := QdI (nth fs k) by_; omega)
  have bmm := QcT (Qa9 key nonce) 1 ((fz).take ((fz).length - 16))
  obtain ⟨fm, em⟩ : ∃ z : List Int, mixV (Qa9 key nonce) 1 ((fz).take ((fz).length - 16)) = z := ⟨_, rfl⟩
  have hmb : Qah fm := em ▸ bmm
  refine enter 90 [(0, .agg (cat [ints .u8 (key), #[.slice a_n nonce.length c_n], #[.slice a_c ctx.length c_c], #[.slice a_t text.length c_t]])), (1, .int .i64 cut), (2, .int .u8 by_)] Tryd.func7 rfl rfl kj rfl ?_
  refine wp_seq_k fun K3 hK3 => ?_
  refine Qab ?_
  refine Qar (cat [ints .u8 (key), #[.slice a_n nonce.length c_n], #[.slice a_c ctx.length c_c], #[.slice a_t text.length c_t]]) 33 3 rfl kj kj fun g4 W1 l4 e1 r4_1 => ?_
  have x1 : Ext w W1 := Ext.tr (Rely.Ext.refl w) e1
  have b4 : w.heap.size ≤ g4 := Nat.le_trans (Rely.Ext.refl w).size l4
  refine Qaa (.bool false) 6 rfl kj kj ?_
  refine Qac ?_
  refine hK3 _ _ ?_
  refine wp_seq_k fun K5 hK5 => ?_
  refine wp_seq_k fun K6 hK6 => ?_
  refine Qab ?_
  have r2_1 := (Qad hh e1)
  have r1_1 := (Qad hq e1)
  refine Qa7 (.bool true) 9 #[] 11 rfl kj kj ((Qd2 th tq _ r2_1 r1_1)) fun W2 e2 => ?_
  have x2 : Ext w W2 := Ext.tr x1 e2
  refine Qaa (.bool false) 12 rfl kj kj ?_
  refine Qac ?_
  refine hK6 _ _ ?_
  refine cond_false kj ?_
  refine wp_skip ?_
  refine hK5 _ _ ?_
  refine wp_seq_k fun K7 hK7 => ?_
  refine wp_seq_k fun K8 hK8 => ?_
  refine Qab ?_
  refine Qaa (.pointer (some ⟨g4, 33, none⟩)) 13 rfl kj kj ?_
  have r4_2 := (Qad r4_1 e2)
  refine Qaa (.slice a_c ctx.length c_c) 14 rfl kj (Qae 24 _ g4 33 33 _ (.slice a_c ctx.length c_c) _ r4_2 rfl kj (Qa3 [ints .u8 (key), #[.slice a_n nonce.length c_n]] [#[.slice a_c ctx.length c_c]] [#[.slice a_t text.length c_t]] 33 (by rw [Qan, Qan]; simp only [Array.size_append, cat, ((Qaf _ _).trans hkl)]; rfl) 0 _ rfl) kj) ?_
  refine Qaa (.int .i64 ((ctx.length : Nat) : Int)) 15 rfl kj kj ?_
  refine Qaa (.bool false) 16 rfl kj (Qai (u := .bool (decide (((ctx.length : Nat) : Int) > 500))) kj (congrArg Value.bool (decide_eq_false (by omega)))) ?_
  refine Qaa (.bool false) 17 rfl kj kj ?_
  refine Qaa (.pointer (some ⟨g4, 34, none⟩)) 18 rfl kj kj ?_
  refine Qaa (.slice a_t text.length c_t) 19 rfl kj (Qae 24 _ g4 34 33 _ (.slice a_t text.length c_t) _ r4_2 rfl kj (Qa3 [ints .u8 (key), #[.slice a_n nonce.length c_n], #[.slice a_c ctx.length c_c]] [#[.slice a_t text.length c_t]] [] 34 (by rw [Qan, Qan, Qan]; simp only [Array.size_append, cat, ((Qaf _ _).trans hkl)]; rfl) 0 _ rfl) kj) ?_
  refine Qaa (.int .i64 ((text.length : Nat) : Int)) 20 rfl kj kj ?_
  refine Qaa (.bool false) 21 rfl kj (Qai (u := .bool (decide (((text.length : Nat) : Int) > 500))) kj (congrArg Value.bool (decide_eq_false (by omega)))) ?_
  refine Qaa (.bool false) 22 rfl kj kj ?_
  refine Qac ?_
  refine hK8 _ _ ?_
  refine cond_false kj ?_
  refine wp_skip ?_
  refine hK7 _ _ ?_
  refine wp_seq_k fun K9 hK9 => ?_
  refine Qab ?_
  refine Qaa (.pointer (some ⟨g4, 0, none⟩)) 24 rfl kj kj ?_
  refine Qaa (.agg (ints .u8 (key))) 25 rfl kj (QaM 23 _ g4 0 33 _ _ _ r4_2 rfl kj (Qa3 [] [ints .u8 (key)] [#[.slice a_n nonce.length c_n], #[.slice a_c ctx.length c_c], #[.slice a_t text.length c_t]] 0 kj) kj (isz (n := 32) kj ((Qaf _ _).trans hkl))) ?_
  refine Qaa (.pointer (some ⟨g4, 32, none⟩)) 26 rfl kj kj ?_
  refine Qaa (.slice a_n nonce.length c_n) 27 rfl kj (Qae 24 _ g4 32 33 _ (.slice a_n nonce.length c_n) _ r4_2 rfl kj (Qa3 [ints .u8 (key)] [#[.slice a_n nonce.length c_n]] [#[.slice a_c ctx.length c_c], #[.slice a_t text.length c_t]] 32 ((Qaf _ _).trans hkl) 0 _ rfl) kj) ?_
  refine Qaa (.pointer (some ⟨g4, 33, none⟩)) 28 rfl kj kj ?_
  refine Qaa (.slice a_c ctx.length c_c) 29 rfl kj (Qae 24 _ g4 33 33 _ (.slice a_c ctx.length c_c) _ r4_2 rfl kj (Qa3 [ints .u8 (key), #[.slice a_n nonce.length c_n]] [#[.slice a_c ctx.length c_c]] [#[.slice a_t text.length c_t]] 33 (by rw [Qan, Qan]; simp only [Array.size_append, cat, ((Qaf _ _).trans hkl)]; rfl) 0 _ rfl) kj) ?_
  refine Qaa (.pointer (some ⟨g4, 34, none⟩)) 30 rfl kj kj ?_
  refine Qaa (.slice a_t text.length c_t) 31 rfl kj (Qae 24 _ g4 34 33 _ (.slice a_t text.length c_t) _ r4_2 rfl kj (Qa3 [ints .u8 (key), #[.slice a_n nonce.length c_n], #[.slice a_c ctx.length c_c]] [#[.slice a_t text.length c_t]] [] 34 (by rw [Qan, Qan, Qan]; simp only [Array.size_append, cat, ((Qaf _ _).trans hkl)]; rfl) 0 _ rfl) kj) ?_
  refine Qau (fun v W' => (RMixR W2.heap.size fs) v W' ∧ Ext W2 W') 16 #[.agg (ints .u8 (key)), .slice a_n nonce.length c_n, .slice a_c ctx.length c_c, .slice a_t text.length c_t] 32 rfl kj kj ((es ▸ Qfg key nonce ctx text _ _ _ _ _ _ _ hkl hkb hnb (RdK.ext hn x2) (RdK.ext hc x2) (RdK.ext ht x2) hcb h (by omega) (by omega)).mono (by rintro e w' ⟨v, rfl, e1, hv⟩; exact ⟨v, rfl, hv, e1⟩)) fun vv10 W3 hh10 => ?_
  obtain ⟨hv10, e3⟩ := hh10
  have x3 : Ext w W3 := Ext.tr x2 e3
  obtain ⟨u11_, rfl, hu11_⟩ := hv10
  obtain ⟨a11_, c11_, rfl, -⟩ := id (OwnN.rd hu11_)
  refine Qaa (.tuple #[.slice a11_ ((fs).length) c11_, .int .i64 0]) 23 rfl kj kj ?_
  refine Qaa (.slice a11_ ((fs).length) c11_) 33 rfl kj kj ?_
  refine Qaa (.int .i64 0) 34 rfl kj kj ?_
  refine Qaa (.slice a11_ ((fs).length) c11_) 7 rfl kj kj ?_
  obtain ⟨gr, cr, rr_, evr, lr, rowr, hcr⟩ := Qcz hu11_ lfs (by omega)
  rw [evr]
  refine Qaa (.int .i64 0) 8 rfl kj kj ?_
  refine Qac ?_
  refine hK9 _ _ ?_
  refine wp_seq_k fun K13 hK13 => ?_
  refine wp_seq_k fun K14 hK14 => ?_
  refine Qab ?_
  refine Qaa (.int .i64 0) 35 rfl kj kj ?_
  refine Qaa (.bool false) 36 rfl kj kj ?_
  refine Qaa (.bool false) 37 rfl kj kj ?_
  refine Qaa (.int .u8 by_) 38 rfl kj kj ?_
  refine Qaa (.bool false) 39 rfl kj (Qai (u := .bool ((by_ == 0))) kj (congrArg Value.bool (beq_eq_false_iff_ne.2 hz))) ?_
  refine Qaa (.bool false) 40 rfl kj kj ?_
  refine Qac ?_
  refine hK14 _ _ ?_
  refine cond_false kj ?_
  refine wp_skip ?_
  refine hK13 _ _ ?_
  refine wp_seq_k fun K15 hK15 => ?_
  refine Qab ?_
  refine Qaa (.slice (some ⟨gr, 0, none⟩) (text.length + 16) cr) 41 rfl kj kj ?_
  refine Qaa (.int .i64 cut) 42 rfl kj kj ?_
  refine Qaa (.int .u64 (cut % 18446744073709551616)) 43 rfl kj (Qai (u := .int .u64 (IntKind.u64.wrap (cut))) kj (congrArg (Value.int .u64) rfl)) ?_
  refine Qaa (.slice (some ⟨gr, 0, none⟩) (text.length + 16) cr) 44 rfl kj kj ?_
  refine Qaa (.int .i64 ((text.length + 16 : Nat) : Int)) 45 rfl kj kj ?_
  refine Qaa (.int .u64 (((text.length + 16 : Nat) : Int))) 46 rfl kj (Qai (u := .int .u64 (IntKind.u64.wrap ((text.length + 16 : Nat) : Int))) kj (congrArg (Value.int .u64) (u64n _ (by omega)))) ?_
  refine Qaa (.int .u64 ((k : Nat) : Int)) 47 rfl kj (Qb0 .rem _ _ _ _ .u64 .u64 _ _ _ rfl kj kj (QhI _ _ (cut % 18446744073709551616) ((text.length + 16 : Nat) : Int) ((k : Nat) : Int) (by omega) (by rw [Int.tmod_eq_emod_of_nonneg (by omega), ← ek]))) ?_
  refine Qaa (.pointer (some ⟨gr, k, none⟩)) 48 rfl kj (Qas 24 _ _ .u64 (k) gr (text.length + 16) cr 5 rfl kj kj kj kj (by omega)) ?_
  refine Qaa (.int .u8 (nth (fs) k)) 49 rfl kj (Qae 5 _ gr k 5 _ (.int .u8 (nth (fs) k)) _ rowr rfl kj (QaS (Nat.lt_of_lt_of_eq (by omega) lfs.symm)) kj) ?_
  refine Qaa (.int .u8 by_) 50 rfl kj kj ?_
  refine Qaa (.int .u8 (bits .xor .u8 (nth (fs) k) by_)) 51 rfl kj (Qai (u := .int .u8 (bits .xor .u8 ((nth (fs) k)) (by_))) kj (congrArg (Value.int .u8) rfl)) ?_
  refine Qaa (.pointer (some ⟨gr, k, none⟩)) 52 rfl kj (Qas 24 _ _ .u64 (k) gr (text.length + 16) cr 5 rfl kj kj kj kj (by omega)) ?_
  refine Qak gr _ (ints .u8 ((fs).set k (bits .xor .u8 (nth (fs) k) by_)) ++ rr_) 5 rowr rfl kj (Qbd 5 _ _ gr k 5 _ _ _ rowr rfl kj kj kj (Nat.lt_of_lt_of_eq (by omega) lfs.symm)) fun W4 p4 r12_4 => ?_
  have x4 : Ext w W4 := Puts.ext p4 x3 (Nat.le_trans x2.size lr)
  have r12_4_16 : W4.heap[gr]? = some (.cells (ints .u8 (fz) ++ rr_) 5) := Qbf r12_4 ez
  refine Qac ?_
  refine hK15 _ _ ?_
  refine wp_seq_k fun K17 hK17 => ?_
  refine Qab ?_
  refine Qaa (.pointer (some ⟨g4, 0, none⟩)) 54 rfl kj kj ?_
  have r4_3 := (Qad r4_2 e3)
  have r4_4 := (Puts.row p4 r4_3 (Qag r4_2 lr))
  refine Qaa (.agg (ints .u8 (key))) 55 rfl kj (QaM 23 _ g4 0 33 _ _ _ r4_4 rfl kj (Qa3 [] [ints .u8 (key)] [#[.slice a_n nonce.length c_n], #[.slice a_c ctx.length c_c], #[.slice a_t text.length c_t]] 0 kj) kj (isz (n := 32) kj ((Qaf _ _).trans hkl))) ?_
  refine Qaa (.pointer (some ⟨g4, 32, none⟩)) 56 rfl kj kj ?_
  refine Qaa (.slice a_n nonce.length c_n) 57 rfl kj (Qae 24 _ g4 32 33 _ (.slice a_n nonce.length c_n) _ r4_4 rfl kj (Qa3 [ints .u8 (key)] [#[.slice a_n nonce.length c_n]] [#[.slice a_c ctx.length c_c], #[.slice a_t text.length c_t]] 32 ((Qaf _ _).trans hkl) 0 _ rfl) kj) ?_
  refine Qaa (.pointer (some ⟨g4, 33, none⟩)) 58 rfl kj kj ?_
  refine Qaa (.slice a_c ctx.length c_c) 59 rfl kj (Qae 24 _ g4 33 33 _ (.slice a_c ctx.length c_c) _ r4_4 rfl kj (Qa3 [ints .u8 (key), #[.slice a_n nonce.length c_n]] [#[.slice a_c ctx.length c_c]] [#[.slice a_t text.length c_t]] 33 (by rw [Qan, Qan]; simp only [Array.size_append, cat, ((Qaf _ _).trans hkl)]; rfl) 0 _ rfl) kj) ?_
  refine Qaa (.slice (some ⟨gr, 0, none⟩) (text.length + 16) cr) 60 rfl kj kj ?_
  refine Qau (fun v W' => (RMixR W4.heap.size fm) v W' ∧ Ext W4 W') 21 #[.agg (ints .u8 (key)), .slice a_n nonce.length c_n, .slice a_c ctx.length c_c, .slice (some ⟨gr, 0, none⟩) (text.length + 16) cr] 61 rfl kj kj ((em ▸ QhS key nonce ctx fz _ _ _ _ _ _ _ hkl hkb hnb (RdK.ext hn x4) (RdK.ext hc x4) (Qc7 lfz r12_4_16 hcr) hcb hzb h (by omega) (by omega) hsh hne).mono (by rintro e w' ⟨v, rfl, e1, hv⟩; exact ⟨v, rfl, hv, e1⟩)) fun vv18 W5 hh18 => ?_
  obtain ⟨hv18, e5⟩ := hh18
  have x5 : Ext w W5 := Ext.tr x4 e5
  obtain ⟨u19_, rfl, hu19_⟩ := hv18
  obtain ⟨a19_, c19_, rfl, -⟩ := id (OwnN.rd hu19_)
  refine Qaa (.tuple #[.slice a19_ ((fm).length) c19_, .int .i64 0]) 53 rfl kj kj ?_
  refine Qaa (.slice a19_ ((fm).length) c19_) 62 rfl kj kj ?_
  refine Qaa (.int .i64 0) 63 rfl kj kj ?_
  refine Qaa (.int .i64 0) 8 rfl kj kj ?_
  refine Qac ?_
  refine hK17 _ _ ?_
  refine wp_seq_k fun K20 hK20 => ?_
  refine Qab ?_
  refine Qaa (.pointer (some ⟨g4, 0, none⟩)) 65 rfl kj kj ?_
  have r4_5 := (Qad r4_4 e5)
  refine Qaa (.agg (ints .u8 (key))) 66 rfl kj (QaM 23 _ g4 0 33 _ _ _ r4_5 rfl kj (Qa3 [] [ints .u8 (key)] [#[.slice a_n nonce.length c_n], #[.slice a_c ctx.length c_c], #[.slice a_t text.length c_t]] 0 kj) kj (isz (n := 32) kj ((Qaf _ _).trans hkl))) ?_
  refine Qaa (.pointer (some ⟨g4, 32, none⟩)) 67 rfl kj kj ?_
  refine Qaa (.slice a_n nonce.length c_n) 68 rfl kj (Qae 24 _ g4 32 33 _ (.slice a_n nonce.length c_n) _ r4_5 rfl kj (Qa3 [ints .u8 (key)] [#[.slice a_n nonce.length c_n]] [#[.slice a_c ctx.length c_c], #[.slice a_t text.length c_t]] 32 ((Qaf _ _).trans hkl) 0 _ rfl) kj) ?_
  refine Qaa (.pointer (some ⟨g4, 33, none⟩)) 69 rfl kj kj ?_
  refine Qaa (.slice a_c ctx.length c_c) 70 rfl kj (Qae 24 _ g4 33 33 _ (.slice a_c ctx.length c_c) _ r4_5 rfl kj (Qa3 [ints .u8 (key), #[.slice a_n nonce.length c_n]] [#[.slice a_c ctx.length c_c]] [#[.slice a_t text.length c_t]] 33 (by rw [Qan, Qan]; simp only [Array.size_append, cat, ((Qaf _ _).trans hkl)]; rfl) 0 _ rfl) kj) ?_
  refine Qaa (.slice (some ⟨gr, 0, none⟩) (text.length + 16) cr) 71 rfl kj kj ?_
  have r2_2 := (Qad r2_1 e2)
  have r2_3 := (Qad r2_2 e3)
  have r2_4 := (Puts.row p4 r2_3 (Qag r2_2 lr))
  have r2_5 := (Qad r2_4 e5)
  have r1_2 := (Qad r1_1 e2)
  have r1_3 := (Qad r1_2 e3)
  have r1_4 := (Puts.row p4 r1_3 (Qag r1_2 lr))
  have r1_5 := (Qad r1_4 e5)
  have r12_5 := (Qad r12_4_16 e5)
  refine Qau (fun v W' => (MixR W5.heap.size fm) v W' ∧ Ext W5 W') 20 #[.agg (ints .u8 (key)), .slice a_n nonce.length c_n, .slice a_c ctx.length c_c, .slice (some ⟨gr, 0, none⟩) (text.length + 16) cr] 72 rfl kj kj ((em ▸ QhK key nonce ctx fz _ _ _ _ _ _ th tq _ r2_5 r1_5 hkl (RdK.ext hn x5) (RdK.ext hc x5) (Qc7 lfz r12_5 hcr) hcb hzb h (by omega) (by omega) hsh hne).mono (by rintro e w' ⟨v, rfl, e1, hv⟩; exact ⟨v, rfl, hv, e1⟩)) fun vv21 W6 hh21 => ?_
  obtain ⟨hv21, e6⟩ := hh21
  have x6 : Ext w W6 := Ext.tr x5 e6
  obtain ⟨u22_, rfl, hu22_⟩ := hv21
  obtain ⟨a22_, c22_, rfl, -⟩ := id (OwnN.rd hu22_)
  refine Qaa (.tuple #[.slice a22_ ((fm).length) c22_, .nilIface]) 64 rfl kj kj ?_
  refine Qaa (.slice a22_ ((fm).length) c22_) 73 rfl kj kj ?_
  refine Qaa (.nilIface) 74 rfl kj kj ?_
  refine Qaa (.slice a22_ ((fm).length) c22_) 9 rfl kj kj ?_
  refine Qaa (.nilIface) 10 rfl kj kj ?_
  refine Qac ?_
  refine hK20 _ _ ?_
  refine wp_seq_k fun K23 hK23 => ?_
  refine Qab ?_
  refine Qaa (.int .i64 0) 75 rfl kj kj ?_
  refine Qaa (.bool true) 76 rfl kj kj ?_
  refine Qaa (.bool true) 77 rfl kj kj ?_
  refine Qaa (.nilIface) 78 rfl kj kj ?_
  refine Qaa (.bool true) 79 rfl kj kj ?_
  refine Qaa (.bool true) 80 rfl kj kj ?_
  refine Qaa (.bool true) 81 rfl kj kj ?_
  refine Qax 82 rfl kj ?_
  refine Qax 83 rfl kj ?_
  refine Qax 84 rfl kj ?_
  refine Qax 85 rfl kj ?_
  refine Qax 86 rfl kj ?_
  refine Qax 87 rfl kj ?_
  refine Qax 88 rfl kj ?_
  refine Qaa (.bool true) 89 rfl kj kj ?_
  refine Qaa (.bool true) 6 rfl kj kj ?_
  refine Qac ?_
  refine hK23 _ _ ?_
  refine wp_ret ?_
  repeat (first | with_reducible refine goR1 ?_ | with_reducible refine goR2 ?_)
  exact (show bodyPost _ _ _ .ret _ _ from ret1 (.bool true) rfl (QaE kj) ⟨rfl, x6⟩)
theorem QgF (key nonce ctx text : List Int) (a_n a_c a_t : Option Addr) (c_n c_c c_t : Nat) (th tq : TypeId) (w : World) (hh : w.heap[0]? = some (.cells (ints .u32 [1634760805, 857760878, 2036477234, 1797285236]) th)) (hq : w.heap[1]? = some (.cells (ints .i64 [0, 4, 8, 12, 1, 5, 9, 13, 2, 6, 10, 14, 3, 7, 11, 15, 0, 5, 10, 15, 1, 6, 11, 12, 2, 7, 8, 13, 3, 4, 9, 14]) tq)) (hkl : key.length = 32) (hkb : Qah key) (hnb : Qah nonce) (hcb : Qah ctx) (htb : Qah text) (hn : RdK .u8 w.heap.size nonce (.slice a_n nonce.length c_n) w) (hc : RdK .u8 w.heap.size ctx (.slice a_c ctx.length c_c) w) (ht : RdK .u8 w.heap.size text (.slice a_t text.length c_t) w) (cut by_ : Int) : Calls Tryd.prog 7 #[.agg (cat [ints .u8 key, #[.slice a_n nonce.length c_n], #[.slice a_c ctx.length c_c], #[.slice a_t text.length c_t]]), .int .i64 cut, .int .u8 by_] w (Ret w (.bool true)) := by
  by_cases h1 : 500 < ctx.length
  · exact Qfr key nonce ctx text a_n a_c a_t c_n c_c c_t th tq w hh hq hkl hkb hnb hcb htb hn hc ht cut by_ h1
  by_cases h2 : 500 < text.length
  · exact Qfq key nonce ctx text a_n a_c a_t c_n c_c c_t th tq w hh hq hkl hkb hnb hcb htb hn hc ht cut by_ (by omega) h2
  by_cases h : nonce.length = 12
  · skip
    obtain ⟨k, ek⟩ : ∃ k : Nat, (k : Int) = (cut % 18446744073709551616) % ((text.length + 16 : Nat) : Int) := ⟨((cut % 18446744073709551616) % ((text.length + 16 : Nat) : Int)).toNat, Int.toNat_of_nonneg (Int.emod_nonneg _ (by omega))⟩
    have hk : k < text.length + 16 := by have := Int.emod_lt_of_pos (cut % 18446744073709551616) (show (0 : Int) < ((text.length + 16 : Nat) : Int) by omega); omega
    have lfs0 := QbW key nonce ctx text
    have bfs0 := QcX key nonce ctx text
    obtain ⟨fs, es⟩ : ∃ z : List Int, sealV key nonce ctx text = z := ⟨_, rfl⟩
    have lfs : fs.length = text.length + 16 := es ▸ lfs0
    have hfb : Qah fs := es ▸ bfs0
    by_cases hz : by_ = 0
    · exact Qfo key nonce ctx text a_n a_c a_t c_n c_c c_t th tq w hh hq hkl hkb hnb hcb htb hn hc ht cut by_ fs es lfs hfb (by omega) (by omega) h hz
    obtain ⟨fz, ez⟩ : ∃ z, fs.set k (bits .xor .u8 (nth (fs) k) by_) = z := ⟨_, rfl⟩
    have lfz : fz.length = text.length + 16 := by rw [← ez, List.length_set, lfs]
    by_cases hne : authV key nonce ctx ((fz).take ((fz).length - 16)) = (fz).drop ((fz).length - 16)
    · exact Qfs key nonce ctx text a_n a_c a_t c_n c_c c_t th tq w hh hq hkl hkb hnb hcb htb hn hc ht cut by_ hz fs es lfs hfb k ek hk fz ez (by omega) (by omega) h (by omega) hne
    · exact Qfp key nonce ctx text a_n a_c a_t c_n c_c c_t th tq w hh hq hkl hkb hnb hcb htb hn hc ht cut by_ hz fs es lfs hfb k ek hk fz ez (by omega) (by omega) h (by omega) hne
  · exact Qft key nonce ctx text a_n a_c a_t c_n c_c c_t th tq w hh hq hkl hkb hnb hcb htb hn hc ht cut by_ (by omega) (by omega) h
theorem lawSpoiltF (key nonce ctx text : List Int) (a_n a_c a_t : Option Addr) (ln c_n lc c_c lt c_t : Nat) (th tq : TypeId) (w : World) (hh : w.heap[0]? = some (.cells (ints .u32 [1634760805, 857760878, 2036477234, 1797285236]) th)) (hq : w.heap[1]? = some (.cells (ints .i64 [0, 4, 8, 12, 1, 5, 9, 13, 2, 6, 10, 14, 3, 7, 11, 15, 0, 5, 10, 15, 1, 6, 11, 12, 2, 7, 8, 13, 3, 4, 9, 14]) tq)) (hkl : key.length = 32) (hkb : Qah key) (hnb : Qah nonce) (hcb : Qah ctx) (htb : Qah text) (hn : RdK .u8 w.heap.size nonce (.slice a_n ln c_n) w) (hc : RdK .u8 w.heap.size ctx (.slice a_c lc c_c) w) (ht : RdK .u8 w.heap.size text (.slice a_t lt c_t) w) (eln : nonce.length = ln) (elc : ctx.length = lc) (elt : text.length = lt) (cut by_ : Int) : Calls Tryd.prog 7 #[.agg ((key.map (Value.int .u8) ++ [Value.slice a_n ln c_n] ++ [Value.slice a_c lc c_c] ++ [Value.slice a_t lt c_t]).toArray), .int .i64 cut, .int .u8 by_] w (Ret w (.bool true)) := by
  subst eln elc elt
  rw [cat_st]
  exact QgF key nonce ctx text a_n a_c a_t c_n c_c c_t th tq w hh hq hkl hkb hnb hcb htb hn hc ht cut by_
end Go.Proofs.YtjldjdlhllgakaaDoor.Ae
end
section
namespace Go.Proofs.YtjldjdlhllgakaaDoor.Auto
open Go Go.RowKit Go.WideShapes
open Rely
set_option linter.unusedVariables false
section
variable {H : Type} {enc : TypeId × Value → H} {P : Program} {W w : World} {r : Reach} {base b0 : Nat} {sp : Nat → Bool} {held : Bool}
theorem open_raw {n : Nat} {t e : TypeId} {cs : List Value} {fuel : Nat} {x : DataW H × List MemPlace} (ht : P.underlying t = some (.array n e)) (he : P.underlying e = some (.int .u8)) (hce : P.cellsOf e = 1) (hct : P.cellsOf t = n)
    (hf : DataW.trod enc P w b0 sp held fuel t cs = some x) : ∃ xs : List Int, cs = xs.map (Value.int .u8) ∧ xs.length = n ∧ Qah xs := by
  obtain ⟨xs, m, -, -, hl, hn, hx⟩ := DataW.trod_array ht hf
  have hcs : cs.length = n := by simpa [hct] using hl
  have each : ∀ i, i < n → ∃ z : Int, cs[i]? = some (.int .u8 z) ∧ (0 ≤ z ∧ z ≤ 255) := by
    intro i hi
    have h1 := hx i hi
    rw [hce, Nat.mul_one] at h1
    have hlt : i < cs.length := by omega
    have h2 : cs.drop i = cs[i] :: cs.drop (i + 1) := List.drop_eq_getElem_cons hlt
    have h1 : DataW.trod enc P w b0 sp held m e ((cs.drop i).take 1) = xs[i]? := h1
    rw [h2] at h1
    simp only [List.take_succ_cons, List.take_zero] at h1
    obtain ⟨y, hy⟩ : ∃ y, xs[i]? = some y := ⟨xs[i], by simp [hn, hi]⟩
    rw [hy] at h1
    obtain ⟨z, hc, -, hw⟩ := DataW.trod_int he h1
    refine ⟨z, ?_, ?_⟩
    · rw [List.getElem?_eq_getElem hlt]
      simp only [List.cons.injEq] at hc
      rw [hc.1]
    · simpa [Lit.wf, IntKind.min, IntKind.max, IntKind.signed, IntKind.bits] using hw
  have all : ∀ (l : List Value), (∀ i, i < l.length → ∃ z : Int, l[i]? = some (.int .u8 z) ∧ (0 ≤ z ∧ z ≤ 255)) → ∃ zs : List Int, l = zs.map (Value.int .u8) ∧ Qah zs := by
    intro l
    induction l with
    | nil => exact fun _ => ⟨[], rfl, fun x hx => by simp at hx⟩
    | cons a l ih =>
      intro h
      obtain ⟨zs, h1, h2⟩ := ih fun i hi => by simpa using h (i + 1) (by simp; omega)
      obtain ⟨z, h3, h4⟩ := h 0 (by simp)
      simp only [List.getElem?_cons_zero, Option.some.injEq] at h3
      refine ⟨z :: zs, by rw [h3, h1]; rfl, fun x hx => ?_⟩
      rcases List.mem_cons.1 hx with e | e
      · rw [e]; exact h4
      · exact h2 x e
  obtain ⟨zs, h1, h2⟩ := all cs fun i hi => each i (by omega)
  exact ⟨zs, h1, by rw [← hcs, h1, List.length_map], h2⟩
theorem open_st4 {t : TypeId} {f0 f1 f2 f3 : Field} {v : Value} {d : DataW H} {p : List MemPlace} {n0 n1 n2 n3 : Nat} (hs : P.underlying t = some (.struct #[f0, f1, f2, f3]))
    (ho : f0.offset = 0 ∧ f1.offset = n0 ∧ f2.offset = n0 + n1 ∧ f3.offset = n0 + n1 + n2) (hc : P.cellsOf f0.type = n0 ∧ P.cellsOf f1.type = n1 ∧ P.cellsOf f2.type = n2 ∧ P.cellsOf f3.type = n3) (hC : P.cellsOf t = n0 + n1 + n2 + n3)
    (hv : Value.okWide P W r base t v) (h : DataW.Trod enc P w b0 sp held t v d p) :
    ∃ (A B C D : List Value) (y0 y1 y2 y3 : DataW H × List MemPlace) (n : Nat), v = .agg (A ++ B ++ C ++ D).toArray ∧
      DataW.trod enc P w b0 sp held n f0.type A = some y0 ∧ DataW.trod enc P w b0 sp held n f1.type B = some y1 ∧ DataW.trod enc P w b0 sp held n f2.type C = some y2 ∧ DataW.trod enc P w b0 sp held n f3.type D = some y3 := by
  obtain ⟨cs, rfl, hsz⟩ := okWide_struct hs hv
  obtain ⟨fuel, hf⟩ := h
  obtain ⟨y0, y1, y2, y3, n, -, hlen, h0, h1, h2, h3⟩ := Joins.trod_struct4 hs hf
  obtain ⟨o0, o1, o2, o3⟩ := ho
  obtain ⟨c0, c1, c2, c3⟩ := hc
  rw [o0, c0] at h0
  rw [o1, c1] at h1
  rw [o2, c2] at h2
  rw [o3, c3] at h3
  refine ⟨_, _, _, _, y0, y1, y2, y3, n, ?_, h0, h1, h2, h3⟩
  congr 1
  have hl : cs.toList.length = n0 + n1 + n2 + n3 := by rw [Array.length_toList, hsz, hC]
  apply Array.ext'
  show cs.toList = _
  simp only [Value.cells, List.drop_zero]
  generalize cs.toList = l at hl
  have e1 : l.take n0 ++ (l.drop n0).take n1 = l.take (n0 + n1) := by rw [List.take_add]
  have e2 : l.take (n0 + n1) ++ (l.drop (n0 + n1)).take n2 = l.take (n0 + n1 + n2) := by rw [List.take_add (i := n0 + n1)]
  have e3 : l.take (n0 + n1 + n2) ++ (l.drop (n0 + n1 + n2)).take n3 = l.take (n0 + n1 + n2 + n3) := by rw [List.take_add (i := n0 + n1 + n2)]
  rw [e1, e2, e3, List.take_of_length_le (by omega)]
end
end Go.Proofs.YtjldjdlhllgakaaDoor.Auto
end
section
namespace Go.Proofs.YtjldjdlhllgakaaDoor.Auto
open Go Go.RowKit
open Rely
set_option linter.unusedVariables false
theorem QcZ {P : Program} {w : World} : ∀ (laid : List (String × DataW Unit)) (ps : List MemPlace) (n : String) (d : DataW Unit), DataW.LaidVars P w laid ps → (n, d) ∈ laid →
    ∃ g t cs fuel p, P.globalNamed n = some g ∧ (P.globals[g]?).map (·.type) = some t ∧ w.var? P n = some cs ∧ DataW.trod (fun _ => ()) P w 0 (fun _ => true) false fuel t cs.toList = some (d, p) ∧ ∀ x ∈ MemPlace.row ⟨g, 0, none⟩ cs.size, x ∈ ps
  | [], _, _, _, _, h => by cases h
  | (n0, d0) :: r, ps, n, d, ⟨g, t, cs, fuel, p, q, h1, h2, h3, h4, h5, h6⟩, h => by
    subst h6
    rcases List.mem_cons.1 h with h | h
    · cases h
      exact ⟨g, t, cs, fuel, p, h1, h2, h3, h4, fun x hx => List.mem_append_left _ (List.mem_append_left _ hx)⟩
    · obtain ⟨g', t', cs', fuel', p', a, b, c, e, f⟩ := QcZ r q n d h5 h
      exact ⟨g', t', cs', fuel', p', a, b, c, e, fun x hx => List.mem_append_right _ (f x hx)⟩
theorem Qhl {P : Program} {w : World} {laid : List (String × DataW Unit)} {n : String} {k : IntKind} {zs : List Int} {g : Nat} {t e : TypeId} {m : Nat} (h : laidMet P laid w) (hm : (n, Lib.tabData k zs) ∈ laid)
    (hg : P.globalNamed n = some g) (hty : (P.globals[g]?).map (·.type) = some t) (ht : P.underlying t = some (.array m e)) (he : P.underlying e = some (.int k)) (hce : P.cellsOf e = 1) (hct : P.cellsOf t = m) (h0 : 0 < zs.length) :
    ∃ t, w.heap[g]? = some (.cells (ints k zs) t) := by
  obtain ⟨ps, hL, -, hC⟩ := h
  obtain ⟨g', t', cs, fuel, p, hg', ht', hvar, hd, hin⟩ := QcZ _ _ _ _ hL hm
  obtain rfl := Option.some.inj (hg.symm.trans hg')
  obtain rfl := Option.some.inj (hty.symm.trans ht')
  have hcs := Lib.cells_of_tab ht he hce hct hd
  have hsz : 0 < cs.size := by rw [← Array.length_toList, hcs, List.length_map]; exact h0
  obtain ⟨⟨c, t2, hc⟩, -⟩ := hC g 0 (hin _ (List.mem_map.2 ⟨0, List.mem_range.2 hsz, rfl⟩))
  unfold World.var? at hvar
  rw [hg] at hvar
  simp only [Option.bind_some, hc, Option.some.injEq] at hvar
  subst hvar
  refine ⟨t2, hc.trans ?_⟩
  rw [show c = ints k zs from by rw [ints, ← hcs]]
theorem bytes_wf {bs : List Int} (h : ∀ n ∈ bs, (Lit.int .u8 n).wf = true) : Qah bs := fun n hn => by
  have := h n hn
  simpa [Lit.wf, IntKind.min, IntKind.max, IntKind.signed, IntKind.bits] using this
end Go.Proofs.YtjldjdlhllgakaaDoor.Auto
end
section
namespace Go.Proofs.YtjldjdlhllgakaaDoor.Auto
open Go Go.RowKit
open Rely
set_option linter.unusedVariables false
theorem chunks {α : Type} (m : Nat) : ∀ (n : Nat) (cs : List α), cs.length = n * m → ((List.range n).map fun i => (cs.drop (i * m)).take m).flatten = cs
  | 0, cs, h => by
    have : cs = [] := List.length_eq_zero_iff.1 (by simpa using h)
    subst this; rfl
  | n + 1, cs, h => by
    have hm : (n + 1) * m = n * m + m := Nat.succ_mul n m
    rw [List.range_succ, List.map_append, List.flatten_append]
    have ih := chunks m n (cs.take (n * m)) (by rw [List.length_take]; omega)
    have e1 : ((List.range n).map fun i => (cs.drop (i * m)).take m) = ((List.range n).map fun i => ((cs.take (n * m)).drop (i * m)).take m) := by
      refine List.map_congr_left fun i hi => ?_
      rw [List.mem_range] at hi
      have h1 : (i + 1) * m ≤ n * m := Nat.mul_le_mul_right m hi
      rw [Nat.succ_mul] at h1
      rw [List.drop_take, List.take_take, Nat.min_eq_left (by omega)]
    rw [e1, ih]
    simp only [List.map_cons, List.map_nil, List.flatten_cons, List.flatten_nil, List.append_nil]
    have e2 : (cs.drop (n * m)).take m = cs.drop (n * m) := List.take_of_length_le (by rw [List.length_drop]; omega)
    rw [e2, List.take_append_drop]
theorem Qe2 {H : Type} {enc : TypeId × Value → H} {P : Program} {w : World} {base : Nat} {sp : Nat → Bool} {held : Bool} {fuel : Nat} {t e i : TypeId} {n m : Nat} {k : IntKind} {cs : List Value} {zss : List (List Int)} {p : List MemPlace}
    (ht : P.underlying t = some (.array n e)) (he : P.underlying e = some (.array m i)) (hi : P.underlying i = some (.int k)) (hci : P.cellsOf i = 1) (hce : P.cellsOf e = m) (hct : P.cellsOf t = n * m)
    (h : DataW.trod enc P w base sp held fuel t cs = some (.agg (zss.map (Lib.tabData k)), p)) : cs = zss.flatten.map fun z => Value.int k z := by
  cases fuel with
  | zero => simp [DataW.trod] at h
  | succ fuel =>
    simp only [DataW.trod, ht, hce, hct] at h
    split at h
    · rename_i hl
      obtain ⟨xs, hm, hx⟩ := Option.map_eq_some_iff.1 h
      have hxs : xs.map (·.1) = zss.map fun z => (Lib.tabData k z : DataW H) := by
        have := congrArg Prod.fst hx
        simpa using this
      have hxl : xs.length = n := by simpa using Lib.mapM_length hm
      have hzl : zss.length = n := by
        have := congrArg List.length hxs
        simp at this
        omega
      rw [← chunks m n cs (by simpa using hl), List.map_flatten]
      congr 1
      apply List.ext_getElem?
      intro j
      by_cases hj : j < n
      · obtain ⟨b, hb, hf⟩ := Lib.mapM_at hm j j (by simp [hj])
        have h2 : (xs.map (·.1))[j]? = some b.1 := by simp [hb]
        rw [hxs, List.getElem?_map, List.getElem?_eq_getElem (by omega), Option.map_some, Option.some.injEq] at h2
        have h3 := Lib.cells_of_tab he hi hci hce (zs := zss[j]'(by omega)) (p := b.2) (by rw [h2]; exact hf)
        rw [List.getElem?_map, List.getElem?_map, List.getElem?_range hj, List.getElem?_eq_getElem (by omega), Option.map_some, Option.map_some, h3]
      · rw [List.getElem?_eq_none (by simp; omega), List.getElem?_eq_none (by simp; omega)]
    · cases h
theorem QgG {P : Program} {w : World} {laid : List (String × DataW Unit)} {n : String} {k : IntKind} {zss : List (List Int)} {g : Nat} {t e i : TypeId} {m1 m : Nat} (h : laidMet P laid w) (hm : (n, DataW.agg (zss.map (Lib.tabData k))) ∈ laid)
    (hg : P.globalNamed n = some g) (hty : (P.globals[g]?).map (·.type) = some t) (ht : P.underlying t = some (.array m1 e)) (he : P.underlying e = some (.array m i)) (hi : P.underlying i = some (.int k)) (hci : P.cellsOf i = 1) (hce : P.cellsOf e = m) (hct : P.cellsOf t = m1 * m) (h0 : 0 < zss.flatten.length) :
    ∃ t, w.heap[g]? = some (.cells (ints k zss.flatten) t) := by
  obtain ⟨ps, hL, -, hC⟩ := h
  obtain ⟨g', t', cs, fuel, p, hg', ht', hvar, hd, hin⟩ := QcZ _ _ _ _ hL hm
  obtain rfl := Option.some.inj (hg.symm.trans hg')
  obtain rfl := Option.some.inj (hty.symm.trans ht')
  have hcs := Qe2 ht he hi hci hce hct hd
  have hsz : 0 < cs.size := by rw [← Array.length_toList, hcs, List.length_map]; exact h0
  obtain ⟨⟨c, t2, hc⟩, -⟩ := hC g 0 (hin _ (List.mem_map.2 ⟨0, List.mem_range.2 hsz, rfl⟩))
  unfold World.var? at hvar
  rw [hg] at hvar
  simp only [Option.bind_some, hc, Option.some.injEq] at hvar
  subst hvar
  refine ⟨t2, hc.trans ?_⟩
  rw [show c = ints k zss.flatten from by rw [ints, ← hcs]]
end Go.Proofs.YtjldjdlhllgakaaDoor.Auto
end
