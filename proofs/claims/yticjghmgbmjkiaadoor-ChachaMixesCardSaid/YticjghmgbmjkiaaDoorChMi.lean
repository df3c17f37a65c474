/- The law ChachaMixes. -/
import Derived.Test.YticjghmgbmjkiaaDoorChX
import Derived.Test.YticjghmgbmjkiaaDoorApQ
namespace Go.Proofs.YticjghmgbmjkiaaDoor.Cha
open Go Go.RowKit
open Go.Proofs.YticjghmgbmjkiaaDoor.Rely Go.Proofs.YticjghmgbmjkiaaDoor.Auto Go.Proofs.YticjghmgbmjkiaaDoor.Own Go.Proofs.YticjghmgbmjkiaaDoor.Sha
set_option linter.unusedVariables false
set_option linter.unusedSimpArgs false

open Go.Proofs.YticjghmgbmjkiaaDoor.Sha
set_option maxRecDepth 100000 in
set_option maxHeartbeats 4000000 in
theorem lawMixes_L (key nonce text : List Int) (a_n a_t : Option Addr) (c_n c_t : Nat) (number : Int) (th tq : TypeId) (w : World) (hh : w.heap[1]? = some (.cells (ints .u32 [1634760805, 857760878, 2036477234, 1797285236]) th)) (hq : w.heap[0]? = some (.cells (ints .i64 [0, 4, 8, 12, 1, 5, 9, 13, 2, 6, 10, 14, 3, 7, 11, 15, 0, 5, 10, 15, 1, 6, 11, 12, 2, 7, 8, 13, 3, 4, 9, 14]) tq)) (hkl : key.length = 32) (hkb : AreBytes key) (hnb : AreBytes nonce) (htb : AreBytes text) (hn : RdK .u8 w.heap.size nonce (.slice a_n nonce.length c_n) w) (ht : RdK .u8 w.heap.size text (.slice a_t text.length c_t) w) (hlg : 1000 < nonce.length) : Calls Tryd.prog 4 #[.agg (cat [ints .u8 key, #[.slice a_n nonce.length c_n], #[.int .i64 number], #[.slice a_t text.length c_t]])] w (Ret w (.bool true)) := by
  refine enter 69 [(0, .agg (cat [ints .u8 (key), #[.slice a_n nonce.length c_n], #[.int .i64 number], #[.slice a_t text.length c_t]]))] Tryd.func4 rfl rfl kj rfl ?_
  refine wp_seq_k fun K3 hK3 => ?_
  refine region_lit ?_
  refine seq_alloc (cat [ints .u8 (key), #[.slice a_n nonce.length c_n], #[.int .i64 number], #[.slice a_t text.length c_t]]) 26 1 rfl kj kj fun g4 W1 l4 e1 r4_1 => ?_
  have x1 : Ext w W1 := Ext.tr (Rely.Ext.refl w) e1
  have b4 : w.heap.size ≤ g4 := Nat.le_trans (Rely.Ext.refl w).size l4
  refine seq_val (.bool false) 2 rfl kj kj ?_
  refine seq_nil ?_
  refine hK3 _ _ ?_
  try clear hK3 K3
  refine wp_seq_k fun K5 hK5 => ?_
  refine wp_seq_k fun K6 hK6 => ?_
  refine region_lit ?_
  refine seq_call (.bool true) 12 #[] 9 rfl kj kj ((alive03) _) fun W2 e2 => ?_
  have x2 : Ext w W2 := Ext.tr x1 e2
  refine seq_val (.bool false) 10 rfl kj kj ?_
  refine seq_nil ?_
  refine hK6 _ _ ?_
  try clear hK6 K6
  refine cond_false kj ?_
  refine wp_skip ?_
  refine hK5 _ _ ?_
  try clear hK5 K5
  refine wp_seq_k fun K7 hK7 => ?_
  refine wp_seq_k fun K8 hK8 => ?_
  refine region_lit ?_
  have r4_2 := (row_ext r4_1 e2)
  refine seq_val (.agg (cat [ints .u8 (key), #[.slice a_n nonce.length c_n], #[.int .i64 number], #[.slice a_t text.length c_t]])) 11 rfl kj (run_load_row 26 _ g4 26 _ _ r4_2 rfl kj kj (isz (n := 35) kj (by rw [cat_cons, cat_cons, cat_cons, cat_cons]; simp only [Array.size_append, cat, ((ints_size _ _).trans hkl)]; rfl))) ?_
  refine seq_call (.bool true) 13 #[.agg (cat [ints .u8 (key), #[.slice a_n nonce.length c_n], #[.int .i64 number], #[.slice a_t text.length c_t]])] 12 rfl kj kj ((large_A key nonce text a_n a_t c_n c_t number _ hkl hlg)) fun W3 e3 => ?_
  have x3 : Ext w W3 := Ext.tr x2 e3
  refine seq_nil ?_
  refine hK8 _ _ ?_
  try clear hK8 K8
  refine cond_true kj ?_
  refine wp_seq_k fun K9 hK9 => ?_
  refine region_lit ?_
  refine seq_val (.bool true) 2 rfl kj kj ?_
  refine seq_nil ?_
  refine hK9 _ _ ?_
  try clear hK9 K9
  refine wp_ret ?_
  repeat (first | with_reducible refine goR1 ?_ | with_reducible refine goR2 ?_)
  exact (show bodyPost _ _ _ .ret _ _ from ret1 (.bool true) rfl (res_tmp kj) ⟨rfl, x3⟩)
set_option maxRecDepth 100000 in
set_option maxHeartbeats 4000000 in
theorem lawMixes_M (key nonce text : List Int) (a_n a_t : Option Addr) (c_n c_t : Nat) (number : Int) (th tq : TypeId) (w : World) (hh : w.heap[1]? = some (.cells (ints .u32 [1634760805, 857760878, 2036477234, 1797285236]) th)) (hq : w.heap[0]? = some (.cells (ints .i64 [0, 4, 8, 12, 1, 5, 9, 13, 2, 6, 10, 14, 3, 7, 11, 15, 0, 5, 10, 15, 1, 6, 11, 12, 2, 7, 8, 13, 3, 4, 9, 14]) tq)) (hkl : key.length = 32) (hkb : AreBytes key) (hnb : AreBytes nonce) (htb : AreBytes text) (hn : RdK .u8 w.heap.size nonce (.slice a_n nonce.length c_n) w) (ht : RdK .u8 w.heap.size text (.slice a_t text.length c_t) w) (hlg1 : nonce.length ≤ 1000) (hlg : 1000 < text.length) : Calls Tryd.prog 4 #[.agg (cat [ints .u8 key, #[.slice a_n nonce.length c_n], #[.int .i64 number], #[.slice a_t text.length c_t]])] w (Ret w (.bool true)) := by
  refine enter 69 [(0, .agg (cat [ints .u8 (key), #[.slice a_n nonce.length c_n], #[.int .i64 number], #[.slice a_t text.length c_t]]))] Tryd.func4 rfl rfl kj rfl ?_
  refine wp_seq_k fun K3 hK3 => ?_
  refine region_lit ?_
  refine seq_alloc (cat [ints .u8 (key), #[.slice a_n nonce.length c_n], #[.int .i64 number], #[.slice a_t text.length c_t]]) 26 1 rfl kj kj fun g4 W1 l4 e1 r4_1 => ?_
  have x1 : Ext w W1 := Ext.tr (Rely.Ext.refl w) e1
  have b4 : w.heap.size ≤ g4 := Nat.le_trans (Rely.Ext.refl w).size l4
  refine seq_val (.bool false) 2 rfl kj kj ?_
  refine seq_nil ?_
  refine hK3 _ _ ?_
  try clear hK3 K3
  refine wp_seq_k fun K5 hK5 => ?_
  refine wp_seq_k fun K6 hK6 => ?_
  refine region_lit ?_
  refine seq_call (.bool true) 12 #[] 9 rfl kj kj ((alive03) _) fun W2 e2 => ?_
  have x2 : Ext w W2 := Ext.tr x1 e2
  refine seq_val (.bool false) 10 rfl kj kj ?_
  refine seq_nil ?_
  refine hK6 _ _ ?_
  try clear hK6 K6
  refine cond_false kj ?_
  refine wp_skip ?_
  refine hK5 _ _ ?_
  try clear hK5 K5
  refine wp_seq_k fun K7 hK7 => ?_
  refine wp_seq_k fun K8 hK8 => ?_
  refine region_lit ?_
  have r4_2 := (row_ext r4_1 e2)
  refine seq_val (.agg (cat [ints .u8 (key), #[.slice a_n nonce.length c_n], #[.int .i64 number], #[.slice a_t text.length c_t]])) 11 rfl kj (run_load_row 26 _ g4 26 _ _ r4_2 rfl kj kj (isz (n := 35) kj (by rw [cat_cons, cat_cons, cat_cons, cat_cons]; simp only [Array.size_append, cat, ((ints_size _ _).trans hkl)]; rfl))) ?_
  refine seq_call (.bool true) 13 #[.agg (cat [ints .u8 (key), #[.slice a_n nonce.length c_n], #[.int .i64 number], #[.slice a_t text.length c_t]])] 12 rfl kj kj ((large_B key nonce text a_n a_t c_n c_t number _ hkl hlg1 hlg)) fun W3 e3 => ?_
  have x3 : Ext w W3 := Ext.tr x2 e3
  refine seq_nil ?_
  refine hK8 _ _ ?_
  try clear hK8 K8
  refine cond_true kj ?_
  refine wp_seq_k fun K9 hK9 => ?_
  refine region_lit ?_
  refine seq_val (.bool true) 2 rfl kj kj ?_
  refine seq_nil ?_
  refine hK9 _ _ ?_
  try clear hK9 K9
  refine wp_ret ?_
  repeat (first | with_reducible refine goR1 ?_ | with_reducible refine goR2 ?_)
  exact (show bodyPost _ _ _ .ret _ _ from ret1 (.bool true) rfl (res_tmp kj) ⟨rfl, x3⟩)
set_option maxRecDepth 100000 in
set_option maxHeartbeats 4000000 in
theorem lawMixes_A (key nonce text : List Int) (a_n a_t : Option Addr) (c_n c_t : Nat) (number : Int) (th tq : TypeId) (w : World) (hh : w.heap[1]? = some (.cells (ints .u32 [1634760805, 857760878, 2036477234, 1797285236]) th)) (hq : w.heap[0]? = some (.cells (ints .i64 [0, 4, 8, 12, 1, 5, 9, 13, 2, 6, 10, 14, 3, 7, 11, 15, 0, 5, 10, 15, 1, 6, 11, 12, 2, 7, 8, 13, 3, 4, 9, 14]) tq)) (hkl : key.length = 32) (hkb : AreBytes key) (hnb : AreBytes nonce) (htb : AreBytes text) (hn : RdK .u8 w.heap.size nonce (.slice a_n nonce.length c_n) w) (ht : RdK .u8 w.heap.size text (.slice a_t text.length c_t) w) (hs1 : nonce.length ≤ 1000) (hs2 : text.length ≤ 1000) (h : nonce.length ≠ 12) : Calls Tryd.prog 4 #[.agg (cat [ints .u8 key, #[.slice a_n nonce.length c_n], #[.int .i64 number], #[.slice a_t text.length c_t]])] w (Ret w (.bool true)) := by
  refine enter 69 [(0, .agg (cat [ints .u8 (key), #[.slice a_n nonce.length c_n], #[.int .i64 number], #[.slice a_t text.length c_t]]))] Tryd.func4 rfl rfl kj rfl ?_
  refine wp_seq_k fun K3 hK3 => ?_
  refine region_lit ?_
  refine seq_alloc (cat [ints .u8 (key), #[.slice a_n nonce.length c_n], #[.int .i64 number], #[.slice a_t text.length c_t]]) 26 1 rfl kj kj fun g4 W1 l4 e1 r4_1 => ?_
  have x1 : Ext w W1 := Ext.tr (Rely.Ext.refl w) e1
  have b4 : w.heap.size ≤ g4 := Nat.le_trans (Rely.Ext.refl w).size l4
  refine seq_val (.bool false) 2 rfl kj kj ?_
  refine seq_nil ?_
  refine hK3 _ _ ?_
  try clear hK3 K3
  refine wp_seq_k fun K5 hK5 => ?_
  refine wp_seq_k fun K6 hK6 => ?_
  refine region_lit ?_
  refine seq_call (.bool true) 12 #[] 9 rfl kj kj ((alive03) _) fun W2 e2 => ?_
  have x2 : Ext w W2 := Ext.tr x1 e2
  refine seq_val (.bool false) 10 rfl kj kj ?_
  refine seq_nil ?_
  refine hK6 _ _ ?_
  try clear hK6 K6
  refine cond_false kj ?_
  refine wp_skip ?_
  refine hK5 _ _ ?_
  try clear hK5 K5
  refine wp_seq_k fun K7 hK7 => ?_
  refine wp_seq_k fun K8 hK8 => ?_
  refine region_lit ?_
  have r4_2 := (row_ext r4_1 e2)
  refine seq_val (.agg (cat [ints .u8 (key), #[.slice a_n nonce.length c_n], #[.int .i64 number], #[.slice a_t text.length c_t]])) 11 rfl kj (run_load_row 26 _ g4 26 _ _ r4_2 rfl kj kj (isz (n := 35) kj (by rw [cat_cons, cat_cons, cat_cons, cat_cons]; simp only [Array.size_append, cat, ((ints_size _ _).trans hkl)]; rfl))) ?_
  refine seq_call (.bool false) 13 #[.agg (cat [ints .u8 (key), #[.slice a_n nonce.length c_n], #[.int .i64 number], #[.slice a_t text.length c_t]])] 12 rfl kj kj ((large_C key nonce text a_n a_t c_n c_t number _ hkl hs1 hs2)) fun W3 e3 => ?_
  have x3 : Ext w W3 := Ext.tr x2 e3
  refine seq_nil ?_
  refine hK8 _ _ ?_
  try clear hK8 K8
  refine cond_false kj ?_
  refine wp_skip ?_
  refine hK7 _ _ ?_
  try clear hK7 K7
  refine wp_seq_k fun K9 hK9 => ?_
  refine any_regionE 5 [⟨none, [(1, none)]⟩, ⟨none, [(13, some 0)]⟩, ⟨none, [(14, some 1)]⟩, ⟨none, [(1, none)]⟩, ⟨none, [(16, some 3)]⟩] kj kj fun F hF => ?_
  refine e_val (rl_ext _) (.pointer (some ⟨g4, 34, none⟩)) kj kj (fun W => by kernel_rfl) ?_
  have r4_3 := (row_ext r4_2 e3)
  refine e_read (rl_ext _) (.slice a_t text.length c_t) kj kj (fun W hR => (run_loadC1 24 _ g4 34 26 _ (.slice a_t text.length c_t) _ (row_ext (row_ext r4_3 (ext_drew _)) hR) rfl kj (cat_part [ints .u8 (key), #[.slice a_n nonce.length c_n], #[.int .i64 number]] [#[.slice a_t text.length c_t]] [] 34 (by rw [cat_cons, cat_cons, cat_cons]; simp only [Array.size_append, cat, ((ints_size _ _).trans hkl)]; rfl) 0 _ rfl) kj)) ?_
  refine e_callG (rl_ext _) (CopyN 5 W3.heap.size (text)) (CopyN.stable _ _) 18 #[.slice a_t text.length c_t] kj kj (fun W => by kernel_rfl) (fun W hR => (copyG W3.heap.size (text) _ _ W (by omega) (RdK.ext (RdK.ext ht x3) (Rely.Ext.trans (ext_drew _) hR)) (Rely.Ext.trans (ext_drew _) hR).size)) ?_
  refine e_val (rl_ext _) (.pointer (some ⟨g4, 32, none⟩)) kj kj (fun W => by kernel_rfl) ?_
  refine e_read (rl_ext _) (.slice a_n nonce.length c_n) kj kj (fun W hR => (run_loadC1 24 _ g4 32 26 _ (.slice a_n nonce.length c_n) _ (row_ext (row_ext r4_3 (ext_drew _)) hR) rfl kj (cat_part [ints .u8 (key)] [#[.slice a_n nonce.length c_n]] [#[.int .i64 number], #[.slice a_t text.length c_t]] 32 ((ints_size _ _).trans hkl) 0 _ rfl) kj)) ?_
  refine e_nil (hF _ fun W4 e4 => ?_)
  simp only [List.nil_append, List.cons_append, List.take_succ_cons, List.take_zero, List.drop_succ_cons, List.drop_zero, finE, up]
  intro vv10 hv10
  clear hF
  have x4 : Ext w W4 := Ext.tr x3 e4
  have hq11 := hv10
  obtain ⟨gk11, ck11, rfl, -⟩ := hq11
  refine seq_callR (fun v W' => (CopyN 5 W4.heap.size (nonce)) v W' ∧ Ext W4 W') 18 #[.slice a_n nonce.length c_n] 18 rfl kj kj ((copyC (nonce) _ _ _ (by omega) (RdK.ext hn x4)).mono (by rintro e w' ⟨v, rfl, e1, hv⟩; exact ⟨v, rfl, hv, e1⟩)) fun vv12 W5 hh12 => ?_
  obtain ⟨hv12, e5⟩ := hh12
  have x5 : Ext w W5 := Ext.tr x4 e5
  have hq13 := hv12
  obtain ⟨gk13, ck13, rfl, -⟩ := hq13
  refine seq_val (.slice (some ⟨gk11, 0, none⟩) (text).length ck11) 3 rfl kj kj ?_
  refine seq_val (.slice (some ⟨gk13, 0, none⟩) (nonce).length ck13) 4 rfl kj kj ?_
  refine seq_nil ?_
  refine hK9 _ _ ?_
  try clear hK9 K9
  refine wp_seq_k fun K14 hK14 => ?_
  refine region_lit ?_
  refine seq_val (.pointer (some ⟨g4, 0, none⟩)) 20 rfl kj kj ?_
  have r4_4 := (row_ext r4_3 e4)
  have r4_5 := (row_ext r4_4 e5)
  refine seq_val (.agg (ints .u8 (key))) 21 rfl kj (run_load_part 23 _ g4 0 26 _ _ _ r4_5 rfl kj (cat_part [] [ints .u8 (key)] [#[.slice a_n nonce.length c_n], #[.int .i64 number], #[.slice a_t text.length c_t]] 0 kj) kj (isz (n := 32) kj ((ints_size _ _).trans hkl))) ?_
  refine seq_val (.slice (some ⟨gk13, 0, none⟩) (nonce).length ck13) 22 rfl kj kj ?_
  refine seq_val (.pointer (some ⟨g4, 33, none⟩)) 23 rfl kj kj ?_
  refine seq_val (.int .i64 number) 24 rfl kj (run_loadC1 3 _ g4 33 26 _ (.int .i64 number) _ r4_5 rfl kj (cat_part [ints .u8 (key), #[.slice a_n nonce.length c_n]] [#[.int .i64 number]] [#[.slice a_t text.length c_t]] 33 (by rw [cat_cons, cat_cons]; simp only [Array.size_append, cat, ((ints_size _ _).trans hkl)]; rfl) 0 _ rfl) kj) ?_
  refine seq_val (.slice (some ⟨gk11, 0, none⟩) (text).length ck11) 25 rfl kj kj ?_
  have f15_5 := ((CopyN.own hv10).ext e5)
  have r2_1 := (row_ext hh e1)
  have r2_2 := (row_ext r2_1 e2)
  have r2_3 := (row_ext r2_2 e3)
  have r2_4 := (row_ext r2_3 e4)
  have r2_5 := (row_ext r2_4 e5)
  have r1_1 := (row_ext hq e1)
  have r1_2 := (row_ext r1_1 e2)
  have r1_3 := (row_ext r1_2 e3)
  have r1_4 := (row_ext r1_3 e4)
  have r1_5 := (row_ext r1_4 e5)
  refine seq_call (.tuple #[.slice none 0 0, .iface 74 (.int .i64 1)]) 19 #[.agg (ints .u8 (key)), .slice (some ⟨gk13, 0, none⟩) (nonce).length ck13, .int .i64 number, .slice (some ⟨gk11, 0, none⟩) (text).length ck11] 26 rfl kj kj ((Mix_A key nonce (text) _ _ _ _ number th tq _ r2_5 r1_5 hkl (OwnN.rd (CopyN.own hv12)) (OwnN.rd f15_5) h)) fun W6 e6 => ?_
  have x6 : Ext w W6 := Ext.tr x5 e6
  refine seq_val (.tuple #[.slice none 0 0, .iface 74 (.int .i64 1)]) 19 rfl kj kj ?_
  refine seq_val (.slice none 0 0) 27 rfl kj kj ?_
  refine seq_val (.iface 74 (.int .i64 1)) 28 rfl kj kj ?_
  refine seq_val (.slice none 0 0) 5 rfl kj kj ?_
  refine seq_val (.iface 74 (.int .i64 1)) 6 rfl kj kj ?_
  refine seq_nil ?_
  refine hK14 _ _ ?_
  try clear hK14 K14
  refine wp_seq_k fun K16 hK16 => ?_
  refine region_lit ?_
  refine seq_val (.pointer (some ⟨g4, 0, none⟩)) 30 rfl kj kj ?_
  have r4_6 := (row_ext r4_5 e6)
  refine seq_val (.agg (ints .u8 (key))) 31 rfl kj (run_load_part 23 _ g4 0 26 _ _ _ r4_6 rfl kj (cat_part [] [ints .u8 (key)] [#[.slice a_n nonce.length c_n], #[.int .i64 number], #[.slice a_t text.length c_t]] 0 kj) kj (isz (n := 32) kj ((ints_size _ _).trans hkl))) ?_
  refine seq_val (.pointer (some ⟨g4, 32, none⟩)) 32 rfl kj kj ?_
  refine seq_val (.slice a_n nonce.length c_n) 33 rfl kj (run_loadC1 24 _ g4 32 26 _ (.slice a_n nonce.length c_n) _ r4_6 rfl kj (cat_part [ints .u8 (key)] [#[.slice a_n nonce.length c_n]] [#[.int .i64 number], #[.slice a_t text.length c_t]] 32 ((ints_size _ _).trans hkl) 0 _ rfl) kj) ?_
  refine seq_val (.pointer (some ⟨g4, 33, none⟩)) 34 rfl kj kj ?_
  refine seq_val (.int .i64 number) 35 rfl kj (run_loadC1 3 _ g4 33 26 _ (.int .i64 number) _ r4_6 rfl kj (cat_part [ints .u8 (key), #[.slice a_n nonce.length c_n]] [#[.int .i64 number]] [#[.slice a_t text.length c_t]] 33 (by rw [cat_cons, cat_cons]; simp only [Array.size_append, cat, ((ints_size _ _).trans hkl)]; rfl) 0 _ rfl) kj) ?_
  refine seq_val (.pointer (some ⟨g4, 34, none⟩)) 36 rfl kj kj ?_
  refine seq_val (.slice a_t text.length c_t) 37 rfl kj (run_loadC1 24 _ g4 34 26 _ (.slice a_t text.length c_t) _ r4_6 rfl kj (cat_part [ints .u8 (key), #[.slice a_n nonce.length c_n], #[.int .i64 number]] [#[.slice a_t text.length c_t]] [] 34 (by rw [cat_cons, cat_cons, cat_cons]; simp only [Array.size_append, cat, ((ints_size _ _).trans hkl)]; rfl) 0 _ rfl) kj) ?_
  refine seq_call (.tuple #[.slice none 0 0, .int .i64 1]) 20 #[.agg (ints .u8 (key)), .slice a_n nonce.length c_n, .int .i64 number, .slice a_t text.length c_t] 38 rfl kj kj ((rMix_A key nonce text _ _ _ _ number _ hkl hkb hnb (RdK.ext hn x6) (RdK.ext ht x6) h)) fun W7 e7 => ?_
  have x7 : Ext w W7 := Ext.tr x6 e7
  refine seq_val (.tuple #[.slice none 0 0, .int .i64 1]) 29 rfl kj kj ?_
  refine seq_val (.slice none 0 0) 39 rfl kj kj ?_
  refine seq_val (.int .i64 1) 40 rfl kj kj ?_
  refine seq_val (.slice none 0 0) 7 rfl kj kj ?_
  refine seq_val (.int .i64 1) 8 rfl kj kj ?_
  refine seq_nil ?_
  refine hK16 _ _ ?_
  try clear hK16 K16
  refine wp_seq_k fun K17 hK17 => ?_
  refine region_lit ?_
  refine seq_val (.slice none 0 0) 41 rfl kj kj ?_
  refine seq_val (.slice none 0 0) 42 rfl kj kj ?_
  refine seq_call (.bool true) 21 #[.slice none 0 0, .slice none 0 0] 43 rfl kj kj ((sameT _ _ _ _ _ rfl (nil_bytes _) (nil_bytes _))) fun W8 e8 => ?_
  have x8 : Ext w W8 := Ext.tr x7 e8
  refine seq_val (.bool true) 44 rfl kj kj ?_
  refine seq_val (.iface 74 (.int .i64 1)) 45 rfl kj kj ?_
  refine seq_call (.int .i64 1) 16 #[.iface 74 (.int .i64 1)] 46 rfl kj kj ((numE 1 (by decide)) _) fun W9 e9 => ?_
  have x9 : Ext w W9 := Ext.tr x8 e9
  refine seq_val (.int .i64 1) 47 rfl kj kj ?_
  refine seq_val (.bool true) 48 rfl kj kj ?_
  refine seq_val (.bool true) 49 rfl kj kj ?_
  refine seq_val (.bool true) 50 rfl kj kj ?_
  refine seq_val (.slice (some ⟨gk11, 0, none⟩) (text).length ck11) 51 rfl kj kj ?_
  refine seq_val (.pointer (some ⟨g4, 34, none⟩)) 52 rfl kj kj ?_
  have r4_7 := (row_ext r4_6 e7)
  have r4_8 := (row_ext r4_7 e8)
  have r4_9 := (row_ext r4_8 e9)
  refine seq_val (.slice a_t text.length c_t) 53 rfl kj (run_loadC1 24 _ g4 34 26 _ (.slice a_t text.length c_t) _ r4_9 rfl kj (cat_part [ints .u8 (key), #[.slice a_n nonce.length c_n], #[.int .i64 number]] [#[.slice a_t text.length c_t]] [] 34 (by rw [cat_cons, cat_cons, cat_cons]; simp only [Array.size_append, cat, ((ints_size _ _).trans hkl)]; rfl) 0 _ rfl) kj) ?_
  have f18_5 := (CopyN.ext hv10 e5)
  have f19_6 := (CopyN.ext f18_5 e6)
  have f20_7 := (CopyN.ext f19_6 e7)
  have f21_8 := (CopyN.ext f20_7 e8)
  have f22_9 := (CopyN.ext f21_8 e9)
  refine seq_call (.bool true) 22 #[.slice (some ⟨gk11, 0, none⟩) (text).length ck11, .slice a_t text.length c_t] 54 rfl kj kj ((keptC (text) _ _ _ _ _ (by omega) htb f22_9 (RdK.ext ht x9))) fun W10 e10 => ?_
  have x10 : Ext w W10 := Ext.tr x9 e10
  refine seq_val (.bool true) 55 rfl kj kj ?_
  refine seq_val (.bool true) 56 rfl kj kj ?_
  refine seq_val (.slice (some ⟨gk13, 0, none⟩) (nonce).length ck13) 57 rfl kj kj ?_
  refine seq_val (.pointer (some ⟨g4, 32, none⟩)) 58 rfl kj kj ?_
  have r4_10 := (row_ext r4_9 e10)
  refine seq_val (.slice a_n nonce.length c_n) 59 rfl kj (run_loadC1 24 _ g4 32 26 _ (.slice a_n nonce.length c_n) _ r4_10 rfl kj (cat_part [ints .u8 (key)] [#[.slice a_n nonce.length c_n]] [#[.int .i64 number], #[.slice a_t text.length c_t]] 32 ((ints_size _ _).trans hkl) 0 _ rfl) kj) ?_
  have f23_6 := (CopyN.ext hv12 e6)
  have f24_7 := (CopyN.ext f23_6 e7)
  have f25_8 := (CopyN.ext f24_7 e8)
  have f26_9 := (CopyN.ext f25_8 e9)
  have f27_10 := (CopyN.ext f26_9 e10)
  refine seq_call (.bool true) 22 #[.slice (some ⟨gk13, 0, none⟩) (nonce).length ck13, .slice a_n nonce.length c_n] 60 rfl kj kj ((keptC (nonce) _ _ _ _ _ (by omega) hnb f27_10 (RdK.ext hn x10))) fun W11 e11 => ?_
  have x11 : Ext w W11 := Ext.tr x10 e11
  refine seq_val (.bool true) 61 rfl kj kj ?_
  refine seq_val (.bool true) 62 rfl kj kj ?_
  refine seq_val (.slice none 0 0) 63 rfl kj kj ?_
  refine seq_val (.slice (some ⟨gk11, 0, none⟩) (text).length ck11) 64 rfl kj kj ?_
  refine seq_val (.slice (some ⟨gk13, 0, none⟩) (nonce).length ck13) 65 rfl kj kj ?_
  refine seq_makeS (#[.slice none 0 0, .slice (some ⟨gk11, 0, none⟩) (text).length ck11, .slice (some ⟨gk13, 0, none⟩) (nonce).length ck13]) 24 3 66 rfl kj kj fun g28 W12 l28 e12 r28_12 => ?_
  have x12 : Ext w W12 := Ext.tr x11 e12
  have b28 : w.heap.size ≤ g28 := Nat.le_trans x11.size l28
  have f29_6 := (f15_5.ext e6)
  have f30_7 := (f29_6.ext e7)
  have f31_8 := (f30_7.ext e8)
  have f32_9 := (f31_8.ext e9)
  have f33_10 := (f32_9.ext e10)
  have f34_11 := (f33_10.ext e11)
  have f35_12 := (f34_11.ext e12)
  have f36_6 := ((CopyN.own hv12).ext e6)
  have f37_7 := (f36_6.ext e7)
  have f38_8 := (f37_7.ext e8)
  have f39_9 := (f38_8.ext e9)
  have f40_10 := (f39_9.ext e10)
  have f41_11 := (f40_10.ext e11)
  have f42_12 := (f41_11.ext e12)
  refine seq_callR (fun v W' => v = .bool true ∧ Below w.heap.size W12 W') 23 #[.slice (some ⟨g28, 0, none⟩) 3 3] 67 rfl kj kj ((apart3 (l0 := []) (l1 := text) (l2 := nonce) x12.size r28_12 (.inl ⟨rfl, rfl⟩) (OwnN.v (OwnN.base x3.size f35_12)) (OwnN.v (OwnN.base x4.size f42_12)) (by decide) (by omega) (by omega) (fun _ => rfl) (fun _ => rfl) (fun e => e.trans (own_apart (CopyN.own hv10) (CopyN.own hv12) (Rely.Ext.refl W4).size e.symm))).mono (by rintro e w' ⟨h1, h2⟩; exact ⟨_, h1, rfl, h2⟩)) fun v43 W13 h43 => ?_
  obtain ⟨rfl, l13⟩ := h43
  have x13 : Ext w W13 := Below.trans x12 l13
  refine seq_val (.bool true) 68 rfl kj kj ?_
  refine seq_val (.bool true) 2 rfl kj kj ?_
  refine seq_nil ?_
  refine hK17 _ _ ?_
  try clear hK17 K17
  refine wp_ret ?_
  repeat (first | with_reducible refine goR1 ?_ | with_reducible refine goR2 ?_)
  exact (show bodyPost _ _ _ .ret _ _ from ret1 (.bool true) rfl (res_tmp kj) ⟨rfl, x13⟩)
set_option maxRecDepth 100000 in
set_option maxHeartbeats 4000000 in
theorem lawMixes_B (key nonce text : List Int) (a_n a_t : Option Addr) (c_n c_t : Nat) (number : Int) (th tq : TypeId) (w : World) (hh : w.heap[1]? = some (.cells (ints .u32 [1634760805, 857760878, 2036477234, 1797285236]) th)) (hq : w.heap[0]? = some (.cells (ints .i64 [0, 4, 8, 12, 1, 5, 9, 13, 2, 6, 10, 14, 3, 7, 11, 15, 0, 5, 10, 15, 1, 6, 11, 12, 2, 7, 8, 13, 3, 4, 9, 14]) tq)) (hkl : key.length = 32) (hkb : AreBytes key) (hnb : AreBytes nonce) (htb : AreBytes text) (hn : RdK .u8 w.heap.size nonce (.slice a_n nonce.length c_n) w) (ht : RdK .u8 w.heap.size text (.slice a_t text.length c_t) w) (hs1 : nonce.length ≤ 1000) (hs2 : text.length ≤ 1000) (h : nonce.length = 12) (h1 : number < 0) : Calls Tryd.prog 4 #[.agg (cat [ints .u8 key, #[.slice a_n nonce.length c_n], #[.int .i64 number], #[.slice a_t text.length c_t]])] w (Ret w (.bool true)) := by
  refine enter 69 [(0, .agg (cat [ints .u8 (key), #[.slice a_n nonce.length c_n], #[.int .i64 number], #[.slice a_t text.length c_t]]))] Tryd.func4 rfl rfl kj rfl ?_
  refine wp_seq_k fun K3 hK3 => ?_
  refine region_lit ?_
  refine seq_alloc (cat [ints .u8 (key), #[.slice a_n nonce.length c_n], #[.int .i64 number], #[.slice a_t text.length c_t]]) 26 1 rfl kj kj fun g4 W1 l4 e1 r4_1 => ?_
  have x1 : Ext w W1 := Ext.tr (Rely.Ext.refl w) e1
  have b4 : w.heap.size ≤ g4 := Nat.le_trans (Rely.Ext.refl w).size l4
  refine seq_val (.bool false) 2 rfl kj kj ?_
  refine seq_nil ?_
  refine hK3 _ _ ?_
  try clear hK3 K3
  refine wp_seq_k fun K5 hK5 => ?_
  refine wp_seq_k fun K6 hK6 => ?_
  refine region_lit ?_
  refine seq_call (.bool true) 12 #[] 9 rfl kj kj ((alive03) _) fun W2 e2 => ?_
  have x2 : Ext w W2 := Ext.tr x1 e2
  refine seq_val (.bool false) 10 rfl kj kj ?_
  refine seq_nil ?_
  refine hK6 _ _ ?_
  try clear hK6 K6
  refine cond_false kj ?_
  refine wp_skip ?_
  refine hK5 _ _ ?_
  try clear hK5 K5
  refine wp_seq_k fun K7 hK7 => ?_
  refine wp_seq_k fun K8 hK8 => ?_
  refine region_lit ?_
  have r4_2 := (row_ext r4_1 e2)
  refine seq_val (.agg (cat [ints .u8 (key), #[.slice a_n nonce.length c_n], #[.int .i64 number], #[.slice a_t text.length c_t]])) 11 rfl kj (run_load_row 26 _ g4 26 _ _ r4_2 rfl kj kj (isz (n := 35) kj (by rw [cat_cons, cat_cons, cat_cons, cat_cons]; simp only [Array.size_append, cat, ((ints_size _ _).trans hkl)]; rfl))) ?_
  refine seq_call (.bool false) 13 #[.agg (cat [ints .u8 (key), #[.slice a_n nonce.length c_n], #[.int .i64 number], #[.slice a_t text.length c_t]])] 12 rfl kj kj ((large_C key nonce text a_n a_t c_n c_t number _ hkl hs1 hs2)) fun W3 e3 => ?_
  have x3 : Ext w W3 := Ext.tr x2 e3
  refine seq_nil ?_
  refine hK8 _ _ ?_
  try clear hK8 K8
  refine cond_false kj ?_
  refine wp_skip ?_
  refine hK7 _ _ ?_
  try clear hK7 K7
  refine wp_seq_k fun K9 hK9 => ?_
  refine any_regionE 5 [⟨none, [(1, none)]⟩, ⟨none, [(13, some 0)]⟩, ⟨none, [(14, some 1)]⟩, ⟨none, [(1, none)]⟩, ⟨none, [(16, some 3)]⟩] kj kj fun F hF => ?_
  refine e_val (rl_ext _) (.pointer (some ⟨g4, 34, none⟩)) kj kj (fun W => by kernel_rfl) ?_
  have r4_3 := (row_ext r4_2 e3)
  refine e_read (rl_ext _) (.slice a_t text.length c_t) kj kj (fun W hR => (run_loadC1 24 _ g4 34 26 _ (.slice a_t text.length c_t) _ (row_ext (row_ext r4_3 (ext_drew _)) hR) rfl kj (cat_part [ints .u8 (key), #[.slice a_n nonce.length c_n], #[.int .i64 number]] [#[.slice a_t text.length c_t]] [] 34 (by rw [cat_cons, cat_cons, cat_cons]; simp only [Array.size_append, cat, ((ints_size _ _).trans hkl)]; rfl) 0 _ rfl) kj)) ?_
  refine e_callG (rl_ext _) (CopyN 5 W3.heap.size (text)) (CopyN.stable _ _) 18 #[.slice a_t text.length c_t] kj kj (fun W => by kernel_rfl) (fun W hR => (copyG W3.heap.size (text) _ _ W (by omega) (RdK.ext (RdK.ext ht x3) (Rely.Ext.trans (ext_drew _) hR)) (Rely.Ext.trans (ext_drew _) hR).size)) ?_
  refine e_val (rl_ext _) (.pointer (some ⟨g4, 32, none⟩)) kj kj (fun W => by kernel_rfl) ?_
  refine e_read (rl_ext _) (.slice a_n nonce.length c_n) kj kj (fun W hR => (run_loadC1 24 _ g4 32 26 _ (.slice a_n nonce.length c_n) _ (row_ext (row_ext r4_3 (ext_drew _)) hR) rfl kj (cat_part [ints .u8 (key)] [#[.slice a_n nonce.length c_n]] [#[.int .i64 number], #[.slice a_t text.length c_t]] 32 ((ints_size _ _).trans hkl) 0 _ rfl) kj)) ?_
  refine e_nil (hF _ fun W4 e4 => ?_)
  simp only [List.nil_append, List.cons_append, List.take_succ_cons, List.take_zero, List.drop_succ_cons, List.drop_zero, finE, up]
  intro vv10 hv10
  clear hF
  have x4 : Ext w W4 := Ext.tr x3 e4
  have hq11 := hv10
  obtain ⟨gk11, ck11, rfl, -⟩ := hq11
  refine seq_callR (fun v W' => (CopyN 5 W4.heap.size (nonce)) v W' ∧ Ext W4 W') 18 #[.slice a_n nonce.length c_n] 18 rfl kj kj ((copyC (nonce) _ _ _ (by omega) (RdK.ext hn x4)).mono (by rintro e w' ⟨v, rfl, e1, hv⟩; exact ⟨v, rfl, hv, e1⟩)) fun vv12 W5 hh12 => ?_
  obtain ⟨hv12, e5⟩ := hh12
  have x5 : Ext w W5 := Ext.tr x4 e5
  have hq13 := hv12
  obtain ⟨gk13, ck13, rfl, -⟩ := hq13
  refine seq_val (.slice (some ⟨gk11, 0, none⟩) (text).length ck11) 3 rfl kj kj ?_
  refine seq_val (.slice (some ⟨gk13, 0, none⟩) (nonce).length ck13) 4 rfl kj kj ?_
  refine seq_nil ?_
  refine hK9 _ _ ?_
  try clear hK9 K9
  refine wp_seq_k fun K14 hK14 => ?_
  refine region_lit ?_
  refine seq_val (.pointer (some ⟨g4, 0, none⟩)) 20 rfl kj kj ?_
  have r4_4 := (row_ext r4_3 e4)
  have r4_5 := (row_ext r4_4 e5)
  refine seq_val (.agg (ints .u8 (key))) 21 rfl kj (run_load_part 23 _ g4 0 26 _ _ _ r4_5 rfl kj (cat_part [] [ints .u8 (key)] [#[.slice a_n nonce.length c_n], #[.int .i64 number], #[.slice a_t text.length c_t]] 0 kj) kj (isz (n := 32) kj ((ints_size _ _).trans hkl))) ?_
  refine seq_val (.slice (some ⟨gk13, 0, none⟩) (nonce).length ck13) 22 rfl kj kj ?_
  refine seq_val (.pointer (some ⟨g4, 33, none⟩)) 23 rfl kj kj ?_
  refine seq_val (.int .i64 number) 24 rfl kj (run_loadC1 3 _ g4 33 26 _ (.int .i64 number) _ r4_5 rfl kj (cat_part [ints .u8 (key), #[.slice a_n nonce.length c_n]] [#[.int .i64 number]] [#[.slice a_t text.length c_t]] 33 (by rw [cat_cons, cat_cons]; simp only [Array.size_append, cat, ((ints_size _ _).trans hkl)]; rfl) 0 _ rfl) kj) ?_
  refine seq_val (.slice (some ⟨gk11, 0, none⟩) (text).length ck11) 25 rfl kj kj ?_
  have f15_5 := ((CopyN.own hv10).ext e5)
  have r2_1 := (row_ext hh e1)
  have r2_2 := (row_ext r2_1 e2)
  have r2_3 := (row_ext r2_2 e3)
  have r2_4 := (row_ext r2_3 e4)
  have r2_5 := (row_ext r2_4 e5)
  have r1_1 := (row_ext hq e1)
  have r1_2 := (row_ext r1_1 e2)
  have r1_3 := (row_ext r1_2 e3)
  have r1_4 := (row_ext r1_3 e4)
  have r1_5 := (row_ext r1_4 e5)
  refine seq_call (.tuple #[.slice none 0 0, .iface 74 (.int .i64 8)]) 19 #[.agg (ints .u8 (key)), .slice (some ⟨gk13, 0, none⟩) (nonce).length ck13, .int .i64 number, .slice (some ⟨gk11, 0, none⟩) (text).length ck11] 26 rfl kj kj ((Mix_B key nonce (text) _ _ _ _ number th tq _ r2_5 r1_5 hkl (OwnN.rd (CopyN.own hv12)) (OwnN.rd f15_5) h h1)) fun W6 e6 => ?_
  have x6 : Ext w W6 := Ext.tr x5 e6
  refine seq_val (.tuple #[.slice none 0 0, .iface 74 (.int .i64 8)]) 19 rfl kj kj ?_
  refine seq_val (.slice none 0 0) 27 rfl kj kj ?_
  refine seq_val (.iface 74 (.int .i64 8)) 28 rfl kj kj ?_
  refine seq_val (.slice none 0 0) 5 rfl kj kj ?_
  refine seq_val (.iface 74 (.int .i64 8)) 6 rfl kj kj ?_
  refine seq_nil ?_
  refine hK14 _ _ ?_
  try clear hK14 K14
  refine wp_seq_k fun K16 hK16 => ?_
  refine region_lit ?_
  refine seq_val (.pointer (some ⟨g4, 0, none⟩)) 30 rfl kj kj ?_
  have r4_6 := (row_ext r4_5 e6)
  refine seq_val (.agg (ints .u8 (key))) 31 rfl kj (run_load_part 23 _ g4 0 26 _ _ _ r4_6 rfl kj (cat_part [] [ints .u8 (key)] [#[.slice a_n nonce.length c_n], #[.int .i64 number], #[.slice a_t text.length c_t]] 0 kj) kj (isz (n := 32) kj ((ints_size _ _).trans hkl))) ?_
  refine seq_val (.pointer (some ⟨g4, 32, none⟩)) 32 rfl kj kj ?_
  refine seq_val (.slice a_n nonce.length c_n) 33 rfl kj (run_loadC1 24 _ g4 32 26 _ (.slice a_n nonce.length c_n) _ r4_6 rfl kj (cat_part [ints .u8 (key)] [#[.slice a_n nonce.length c_n]] [#[.int .i64 number], #[.slice a_t text.length c_t]] 32 ((ints_size _ _).trans hkl) 0 _ rfl) kj) ?_
  refine seq_val (.pointer (some ⟨g4, 33, none⟩)) 34 rfl kj kj ?_
  refine seq_val (.int .i64 number) 35 rfl kj (run_loadC1 3 _ g4 33 26 _ (.int .i64 number) _ r4_6 rfl kj (cat_part [ints .u8 (key), #[.slice a_n nonce.length c_n]] [#[.int .i64 number]] [#[.slice a_t text.length c_t]] 33 (by rw [cat_cons, cat_cons]; simp only [Array.size_append, cat, ((ints_size _ _).trans hkl)]; rfl) 0 _ rfl) kj) ?_
  refine seq_val (.pointer (some ⟨g4, 34, none⟩)) 36 rfl kj kj ?_
  refine seq_val (.slice a_t text.length c_t) 37 rfl kj (run_loadC1 24 _ g4 34 26 _ (.slice a_t text.length c_t) _ r4_6 rfl kj (cat_part [ints .u8 (key), #[.slice a_n nonce.length c_n], #[.int .i64 number]] [#[.slice a_t text.length c_t]] [] 34 (by rw [cat_cons, cat_cons, cat_cons]; simp only [Array.size_append, cat, ((ints_size _ _).trans hkl)]; rfl) 0 _ rfl) kj) ?_
  refine seq_call (.tuple #[.slice none 0 0, .int .i64 8]) 20 #[.agg (ints .u8 (key)), .slice a_n nonce.length c_n, .int .i64 number, .slice a_t text.length c_t] 38 rfl kj kj ((rMix_B key nonce text _ _ _ _ number _ hkl hkb hnb (RdK.ext hn x6) (RdK.ext ht x6) h h1)) fun W7 e7 => ?_
  have x7 : Ext w W7 := Ext.tr x6 e7
  refine seq_val (.tuple #[.slice none 0 0, .int .i64 8]) 29 rfl kj kj ?_
  refine seq_val (.slice none 0 0) 39 rfl kj kj ?_
  refine seq_val (.int .i64 8) 40 rfl kj kj ?_
  refine seq_val (.slice none 0 0) 7 rfl kj kj ?_
  refine seq_val (.int .i64 8) 8 rfl kj kj ?_
  refine seq_nil ?_
  refine hK16 _ _ ?_
  try clear hK16 K16
  refine wp_seq_k fun K17 hK17 => ?_
  refine region_lit ?_
  refine seq_val (.slice none 0 0) 41 rfl kj kj ?_
  refine seq_val (.slice none 0 0) 42 rfl kj kj ?_
  refine seq_call (.bool true) 21 #[.slice none 0 0, .slice none 0 0] 43 rfl kj kj ((sameT _ _ _ _ _ rfl (nil_bytes _) (nil_bytes _))) fun W8 e8 => ?_
  have x8 : Ext w W8 := Ext.tr x7 e8
  refine seq_val (.bool true) 44 rfl kj kj ?_
  refine seq_val (.iface 74 (.int .i64 8)) 45 rfl kj kj ?_
  refine seq_call (.int .i64 8) 16 #[.iface 74 (.int .i64 8)] 46 rfl kj kj ((numE 8 (by decide)) _) fun W9 e9 => ?_
  have x9 : Ext w W9 := Ext.tr x8 e9
  refine seq_val (.int .i64 8) 47 rfl kj kj ?_
  refine seq_val (.bool true) 48 rfl kj kj ?_
  refine seq_val (.bool true) 49 rfl kj kj ?_
  refine seq_val (.bool true) 50 rfl kj kj ?_
  refine seq_val (.slice (some ⟨gk11, 0, none⟩) (text).length ck11) 51 rfl kj kj ?_
  refine seq_val (.pointer (some ⟨g4, 34, none⟩)) 52 rfl kj kj ?_
  have r4_7 := (row_ext r4_6 e7)
  have r4_8 := (row_ext r4_7 e8)
  have r4_9 := (row_ext r4_8 e9)
  refine seq_val (.slice a_t text.length c_t) 53 rfl kj (run_loadC1 24 _ g4 34 26 _ (.slice a_t text.length c_t) _ r4_9 rfl kj (cat_part [ints .u8 (key), #[.slice a_n nonce.length c_n], #[.int .i64 number]] [#[.slice a_t text.length c_t]] [] 34 (by rw [cat_cons, cat_cons, cat_cons]; simp only [Array.size_append, cat, ((ints_size _ _).trans hkl)]; rfl) 0 _ rfl) kj) ?_
  have f18_5 := (CopyN.ext hv10 e5)
  have f19_6 := (CopyN.ext f18_5 e6)
  have f20_7 := (CopyN.ext f19_6 e7)
  have f21_8 := (CopyN.ext f20_7 e8)
  have f22_9 := (CopyN.ext f21_8 e9)
  refine seq_call (.bool true) 22 #[.slice (some ⟨gk11, 0, none⟩) (text).length ck11, .slice a_t text.length c_t] 54 rfl kj kj ((keptC (text) _ _ _ _ _ (by omega) htb f22_9 (RdK.ext ht x9))) fun W10 e10 => ?_
  have x10 : Ext w W10 := Ext.tr x9 e10
  refine seq_val (.bool true) 55 rfl kj kj ?_
  refine seq_val (.bool true) 56 rfl kj kj ?_
  refine seq_val (.slice (some ⟨gk13, 0, none⟩) (nonce).length ck13) 57 rfl kj kj ?_
  refine seq_val (.pointer (some ⟨g4, 32, none⟩)) 58 rfl kj kj ?_
  have r4_10 := (row_ext r4_9 e10)
  refine seq_val (.slice a_n nonce.length c_n) 59 rfl kj (run_loadC1 24 _ g4 32 26 _ (.slice a_n nonce.length c_n) _ r4_10 rfl kj (cat_part [ints .u8 (key)] [#[.slice a_n nonce.length c_n]] [#[.int .i64 number], #[.slice a_t text.length c_t]] 32 ((ints_size _ _).trans hkl) 0 _ rfl) kj) ?_
  have f23_6 := (CopyN.ext hv12 e6)
  have f24_7 := (CopyN.ext f23_6 e7)
  have f25_8 := (CopyN.ext f24_7 e8)
  have f26_9 := (CopyN.ext f25_8 e9)
  have f27_10 := (CopyN.ext f26_9 e10)
  refine seq_call (.bool true) 22 #[.slice (some ⟨gk13, 0, none⟩) (nonce).length ck13, .slice a_n nonce.length c_n] 60 rfl kj kj ((keptC (nonce) _ _ _ _ _ (by omega) hnb f27_10 (RdK.ext hn x10))) fun W11 e11 => ?_
  have x11 : Ext w W11 := Ext.tr x10 e11
  refine seq_val (.bool true) 61 rfl kj kj ?_
  refine seq_val (.bool true) 62 rfl kj kj ?_
  refine seq_val (.slice none 0 0) 63 rfl kj kj ?_
  refine seq_val (.slice (some ⟨gk11, 0, none⟩) (text).length ck11) 64 rfl kj kj ?_
  refine seq_val (.slice (some ⟨gk13, 0, none⟩) (nonce).length ck13) 65 rfl kj kj ?_
  refine seq_makeS (#[.slice none 0 0, .slice (some ⟨gk11, 0, none⟩) (text).length ck11, .slice (some ⟨gk13, 0, none⟩) (nonce).length ck13]) 24 3 66 rfl kj kj fun g28 W12 l28 e12 r28_12 => ?_
  have x12 : Ext w W12 := Ext.tr x11 e12
  have b28 : w.heap.size ≤ g28 := Nat.le_trans x11.size l28
  have f29_6 := (f15_5.ext e6)
  have f30_7 := (f29_6.ext e7)
  have f31_8 := (f30_7.ext e8)
  have f32_9 := (f31_8.ext e9)
  have f33_10 := (f32_9.ext e10)
  have f34_11 := (f33_10.ext e11)
  have f35_12 := (f34_11.ext e12)
  have f36_6 := ((CopyN.own hv12).ext e6)
  have f37_7 := (f36_6.ext e7)
  have f38_8 := (f37_7.ext e8)
  have f39_9 := (f38_8.ext e9)
  have f40_10 := (f39_9.ext e10)
  have f41_11 := (f40_10.ext e11)
  have f42_12 := (f41_11.ext e12)
  refine seq_callR (fun v W' => v = .bool true ∧ Below w.heap.size W12 W') 23 #[.slice (some ⟨g28, 0, none⟩) 3 3] 67 rfl kj kj ((apart3 (l0 := []) (l1 := text) (l2 := nonce) x12.size r28_12 (.inl ⟨rfl, rfl⟩) (OwnN.v (OwnN.base x3.size f35_12)) (OwnN.v (OwnN.base x4.size f42_12)) (by decide) (by omega) (by omega) (fun _ => rfl) (fun _ => rfl) (fun e => e.trans (own_apart (CopyN.own hv10) (CopyN.own hv12) (Rely.Ext.refl W4).size e.symm))).mono (by rintro e w' ⟨h1, h2⟩; exact ⟨_, h1, rfl, h2⟩)) fun v43 W13 h43 => ?_
  obtain ⟨rfl, l13⟩ := h43
  have x13 : Ext w W13 := Below.trans x12 l13
  refine seq_val (.bool true) 68 rfl kj kj ?_
  refine seq_val (.bool true) 2 rfl kj kj ?_
  refine seq_nil ?_
  refine hK17 _ _ ?_
  try clear hK17 K17
  refine wp_ret ?_
  repeat (first | with_reducible refine goR1 ?_ | with_reducible refine goR2 ?_)
  exact (show bodyPost _ _ _ .ret _ _ from ret1 (.bool true) rfl (res_tmp kj) ⟨rfl, x13⟩)
set_option maxRecDepth 100000 in
set_option maxHeartbeats 4000000 in
theorem lawMixes_C (key nonce text : List Int) (a_n a_t : Option Addr) (c_n c_t : Nat) (number : Int) (th tq : TypeId) (w : World) (hh : w.heap[1]? = some (.cells (ints .u32 [1634760805, 857760878, 2036477234, 1797285236]) th)) (hq : w.heap[0]? = some (.cells (ints .i64 [0, 4, 8, 12, 1, 5, 9, 13, 2, 6, 10, 14, 3, 7, 11, 15, 0, 5, 10, 15, 1, 6, 11, 12, 2, 7, 8, 13, 3, 4, 9, 14]) tq)) (hkl : key.length = 32) (hkb : AreBytes key) (hnb : AreBytes nonce) (htb : AreBytes text) (hn : RdK .u8 w.heap.size nonce (.slice a_n nonce.length c_n) w) (ht : RdK .u8 w.heap.size text (.slice a_t text.length c_t) w) (hs1 : nonce.length ≤ 1000) (hs2 : text.length ≤ 1000) (h : nonce.length = 12) (h1 : 0 ≤ number) (h2 : 4294967295 < number) : Calls Tryd.prog 4 #[.agg (cat [ints .u8 key, #[.slice a_n nonce.length c_n], #[.int .i64 number], #[.slice a_t text.length c_t]])] w (Ret w (.bool true)) := by
  refine enter 69 [(0, .agg (cat [ints .u8 (key), #[.slice a_n nonce.length c_n], #[.int .i64 number], #[.slice a_t text.length c_t]]))] Tryd.func4 rfl rfl kj rfl ?_
  refine wp_seq_k fun K3 hK3 => ?_
  refine region_lit ?_
  refine seq_alloc (cat [ints .u8 (key), #[.slice a_n nonce.length c_n], #[.int .i64 number], #[.slice a_t text.length c_t]]) 26 1 rfl kj kj fun g4 W1 l4 e1 r4_1 => ?_
  have x1 : Ext w W1 := Ext.tr (Rely.Ext.refl w) e1
  have b4 : w.heap.size ≤ g4 := Nat.le_trans (Rely.Ext.refl w).size l4
  refine seq_val (.bool false) 2 rfl kj kj ?_
  refine seq_nil ?_
  refine hK3 _ _ ?_
  try clear hK3 K3
  refine wp_seq_k fun K5 hK5 => ?_
  refine wp_seq_k fun K6 hK6 => ?_
  refine region_lit ?_
  refine seq_call (.bool true) 12 #[] 9 rfl kj kj ((alive03) _) fun W2 e2 => ?_
  have x2 : Ext w W2 := Ext.tr x1 e2
  refine seq_val (.bool false) 10 rfl kj kj ?_
  refine seq_nil ?_
  refine hK6 _ _ ?_
  try clear hK6 K6
  refine cond_false kj ?_
  refine wp_skip ?_
  refine hK5 _ _ ?_
  try clear hK5 K5
  refine wp_seq_k fun K7 hK7 => ?_
  refine wp_seq_k fun K8 hK8 => ?_
  refine region_lit ?_
  have r4_2 := (row_ext r4_1 e2)
  refine seq_val (.agg (cat [ints .u8 (key), #[.slice a_n nonce.length c_n], #[.int .i64 number], #[.slice a_t text.length c_t]])) 11 rfl kj (run_load_row 26 _ g4 26 _ _ r4_2 rfl kj kj (isz (n := 35) kj (by rw [cat_cons, cat_cons, cat_cons, cat_cons]; simp only [Array.size_append, cat, ((ints_size _ _).trans hkl)]; rfl))) ?_
  refine seq_call (.bool false) 13 #[.agg (cat [ints .u8 (key), #[.slice a_n nonce.length c_n], #[.int .i64 number], #[.slice a_t text.length c_t]])] 12 rfl kj kj ((large_C key nonce text a_n a_t c_n c_t number _ hkl hs1 hs2)) fun W3 e3 => ?_
  have x3 : Ext w W3 := Ext.tr x2 e3
  refine seq_nil ?_
  refine hK8 _ _ ?_
  try clear hK8 K8
  refine cond_false kj ?_
  refine wp_skip ?_
  refine hK7 _ _ ?_
  try clear hK7 K7
  refine wp_seq_k fun K9 hK9 => ?_
  refine any_regionE 5 [⟨none, [(1, none)]⟩, ⟨none, [(13, some 0)]⟩, ⟨none, [(14, some 1)]⟩, ⟨none, [(1, none)]⟩, ⟨none, [(16, some 3)]⟩] kj kj fun F hF => ?_
  refine e_val (rl_ext _) (.pointer (some ⟨g4, 34, none⟩)) kj kj (fun W => by kernel_rfl) ?_
  have r4_3 := (row_ext r4_2 e3)
  refine e_read (rl_ext _) (.slice a_t text.length c_t) kj kj (fun W hR => (run_loadC1 24 _ g4 34 26 _ (.slice a_t text.length c_t) _ (row_ext (row_ext r4_3 (ext_drew _)) hR) rfl kj (cat_part [ints .u8 (key), #[.slice a_n nonce.length c_n], #[.int .i64 number]] [#[.slice a_t text.length c_t]] [] 34 (by rw [cat_cons, cat_cons, cat_cons]; simp only [Array.size_append, cat, ((ints_size _ _).trans hkl)]; rfl) 0 _ rfl) kj)) ?_
  refine e_callG (rl_ext _) (CopyN 5 W3.heap.size (text)) (CopyN.stable _ _) 18 #[.slice a_t text.length c_t] kj kj (fun W => by kernel_rfl) (fun W hR => (copyG W3.heap.size (text) _ _ W (by omega) (RdK.ext (RdK.ext ht x3) (Rely.Ext.trans (ext_drew _) hR)) (Rely.Ext.trans (ext_drew _) hR).size)) ?_
  refine e_val (rl_ext _) (.pointer (some ⟨g4, 32, none⟩)) kj kj (fun W => by kernel_rfl) ?_
  refine e_read (rl_ext _) (.slice a_n nonce.length c_n) kj kj (fun W hR => (run_loadC1 24 _ g4 32 26 _ (.slice a_n nonce.length c_n) _ (row_ext (row_ext r4_3 (ext_drew _)) hR) rfl kj (cat_part [ints .u8 (key)] [#[.slice a_n nonce.length c_n]] [#[.int .i64 number], #[.slice a_t text.length c_t]] 32 ((ints_size _ _).trans hkl) 0 _ rfl) kj)) ?_
  refine e_nil (hF _ fun W4 e4 => ?_)
  simp only [List.nil_append, List.cons_append, List.take_succ_cons, List.take_zero, List.drop_succ_cons, List.drop_zero, finE, up]
  intro vv10 hv10
  clear hF
  have x4 : Ext w W4 := Ext.tr x3 e4
  have hq11 := hv10
  obtain ⟨gk11, ck11, rfl, -⟩ := hq11
  refine seq_callR (fun v W' => (CopyN 5 W4.heap.size (nonce)) v W' ∧ Ext W4 W') 18 #[.slice a_n nonce.length c_n] 18 rfl kj kj ((copyC (nonce) _ _ _ (by omega) (RdK.ext hn x4)).mono (by rintro e w' ⟨v, rfl, e1, hv⟩; exact ⟨v, rfl, hv, e1⟩)) fun vv12 W5 hh12 => ?_
  obtain ⟨hv12, e5⟩ := hh12
  have x5 : Ext w W5 := Ext.tr x4 e5
  have hq13 := hv12
  obtain ⟨gk13, ck13, rfl, -⟩ := hq13
  refine seq_val (.slice (some ⟨gk11, 0, none⟩) (text).length ck11) 3 rfl kj kj ?_
  refine seq_val (.slice (some ⟨gk13, 0, none⟩) (nonce).length ck13) 4 rfl kj kj ?_
  refine seq_nil ?_
  refine hK9 _ _ ?_
  try clear hK9 K9
  refine wp_seq_k fun K14 hK14 => ?_
  refine region_lit ?_
  refine seq_val (.pointer (some ⟨g4, 0, none⟩)) 20 rfl kj kj ?_
  have r4_4 := (row_ext r4_3 e4)
  have r4_5 := (row_ext r4_4 e5)
  refine seq_val (.agg (ints .u8 (key))) 21 rfl kj (run_load_part 23 _ g4 0 26 _ _ _ r4_5 rfl kj (cat_part [] [ints .u8 (key)] [#[.slice a_n nonce.length c_n], #[.int .i64 number], #[.slice a_t text.length c_t]] 0 kj) kj (isz (n := 32) kj ((ints_size _ _).trans hkl))) ?_
  refine seq_val (.slice (some ⟨gk13, 0, none⟩) (nonce).length ck13) 22 rfl kj kj ?_
  refine seq_val (.pointer (some ⟨g4, 33, none⟩)) 23 rfl kj kj ?_
  refine seq_val (.int .i64 number) 24 rfl kj (run_loadC1 3 _ g4 33 26 _ (.int .i64 number) _ r4_5 rfl kj (cat_part [ints .u8 (key), #[.slice a_n nonce.length c_n]] [#[.int .i64 number]] [#[.slice a_t text.length c_t]] 33 (by rw [cat_cons, cat_cons]; simp only [Array.size_append, cat, ((ints_size _ _).trans hkl)]; rfl) 0 _ rfl) kj) ?_
  refine seq_val (.slice (some ⟨gk11, 0, none⟩) (text).length ck11) 25 rfl kj kj ?_
  have f15_5 := ((CopyN.own hv10).ext e5)
  have r2_1 := (row_ext hh e1)
  have r2_2 := (row_ext r2_1 e2)
  have r2_3 := (row_ext r2_2 e3)
  have r2_4 := (row_ext r2_3 e4)
  have r2_5 := (row_ext r2_4 e5)
  have r1_1 := (row_ext hq e1)
  have r1_2 := (row_ext r1_1 e2)
  have r1_3 := (row_ext r1_2 e3)
  have r1_4 := (row_ext r1_3 e4)
  have r1_5 := (row_ext r1_4 e5)
  refine seq_call (.tuple #[.slice none 0 0, .iface 74 (.int .i64 8)]) 19 #[.agg (ints .u8 (key)), .slice (some ⟨gk13, 0, none⟩) (nonce).length ck13, .int .i64 number, .slice (some ⟨gk11, 0, none⟩) (text).length ck11] 26 rfl kj kj ((Mix_C key nonce (text) _ _ _ _ number th tq _ r2_5 r1_5 hkl (OwnN.rd (CopyN.own hv12)) (OwnN.rd f15_5) h h1 h2)) fun W6 e6 => ?_
  have x6 : Ext w W6 := Ext.tr x5 e6
  refine seq_val (.tuple #[.slice none 0 0, .iface 74 (.int .i64 8)]) 19 rfl kj kj ?_
  refine seq_val (.slice none 0 0) 27 rfl kj kj ?_
  refine seq_val (.iface 74 (.int .i64 8)) 28 rfl kj kj ?_
  refine seq_val (.slice none 0 0) 5 rfl kj kj ?_
  refine seq_val (.iface 74 (.int .i64 8)) 6 rfl kj kj ?_
  refine seq_nil ?_
  refine hK14 _ _ ?_
  try clear hK14 K14
  refine wp_seq_k fun K16 hK16 => ?_
  refine region_lit ?_
  refine seq_val (.pointer (some ⟨g4, 0, none⟩)) 30 rfl kj kj ?_
  have r4_6 := (row_ext r4_5 e6)
  refine seq_val (.agg (ints .u8 (key))) 31 rfl kj (run_load_part 23 _ g4 0 26 _ _ _ r4_6 rfl kj (cat_part [] [ints .u8 (key)] [#[.slice a_n nonce.length c_n], #[.int .i64 number], #[.slice a_t text.length c_t]] 0 kj) kj (isz (n := 32) kj ((ints_size _ _).trans hkl))) ?_
  refine seq_val (.pointer (some ⟨g4, 32, none⟩)) 32 rfl kj kj ?_
  refine seq_val (.slice a_n nonce.length c_n) 33 rfl kj (run_loadC1 24 _ g4 32 26 _ (.slice a_n nonce.length c_n) _ r4_6 rfl kj (cat_part [ints .u8 (key)] [#[.slice a_n nonce.length c_n]] [#[.int .i64 number], #[.slice a_t text.length c_t]] 32 ((ints_size _ _).trans hkl) 0 _ rfl) kj) ?_
  refine seq_val (.pointer (some ⟨g4, 33, none⟩)) 34 rfl kj kj ?_
  refine seq_val (.int .i64 number) 35 rfl kj (run_loadC1 3 _ g4 33 26 _ (.int .i64 number) _ r4_6 rfl kj (cat_part [ints .u8 (key), #[.slice a_n nonce.length c_n]] [#[.int .i64 number]] [#[.slice a_t text.length c_t]] 33 (by rw [cat_cons, cat_cons]; simp only [Array.size_append, cat, ((ints_size _ _).trans hkl)]; rfl) 0 _ rfl) kj) ?_
  refine seq_val (.pointer (some ⟨g4, 34, none⟩)) 36 rfl kj kj ?_
  refine seq_val (.slice a_t text.length c_t) 37 rfl kj (run_loadC1 24 _ g4 34 26 _ (.slice a_t text.length c_t) _ r4_6 rfl kj (cat_part [ints .u8 (key), #[.slice a_n nonce.length c_n], #[.int .i64 number]] [#[.slice a_t text.length c_t]] [] 34 (by rw [cat_cons, cat_cons, cat_cons]; simp only [Array.size_append, cat, ((ints_size _ _).trans hkl)]; rfl) 0 _ rfl) kj) ?_
  refine seq_call (.tuple #[.slice none 0 0, .int .i64 8]) 20 #[.agg (ints .u8 (key)), .slice a_n nonce.length c_n, .int .i64 number, .slice a_t text.length c_t] 38 rfl kj kj ((rMix_C key nonce text _ _ _ _ number _ hkl hkb hnb (RdK.ext hn x6) (RdK.ext ht x6) h h2)) fun W7 e7 => ?_
  have x7 : Ext w W7 := Ext.tr x6 e7
  refine seq_val (.tuple #[.slice none 0 0, .int .i64 8]) 29 rfl kj kj ?_
  refine seq_val (.slice none 0 0) 39 rfl kj kj ?_
  refine seq_val (.int .i64 8) 40 rfl kj kj ?_
  refine seq_val (.slice none 0 0) 7 rfl kj kj ?_
  refine seq_val (.int .i64 8) 8 rfl kj kj ?_
  refine seq_nil ?_
  refine hK16 _ _ ?_
  try clear hK16 K16
  refine wp_seq_k fun K17 hK17 => ?_
  refine region_lit ?_
  refine seq_val (.slice none 0 0) 41 rfl kj kj ?_
  refine seq_val (.slice none 0 0) 42 rfl kj kj ?_
  refine seq_call (.bool true) 21 #[.slice none 0 0, .slice none 0 0] 43 rfl kj kj ((sameT _ _ _ _ _ rfl (nil_bytes _) (nil_bytes _))) fun W8 e8 => ?_
  have x8 : Ext w W8 := Ext.tr x7 e8
  refine seq_val (.bool true) 44 rfl kj kj ?_
  refine seq_val (.iface 74 (.int .i64 8)) 45 rfl kj kj ?_
  refine seq_call (.int .i64 8) 16 #[.iface 74 (.int .i64 8)] 46 rfl kj kj ((numE 8 (by decide)) _) fun W9 e9 => ?_
  have x9 : Ext w W9 := Ext.tr x8 e9
  refine seq_val (.int .i64 8) 47 rfl kj kj ?_
  refine seq_val (.bool true) 48 rfl kj kj ?_
  refine seq_val (.bool true) 49 rfl kj kj ?_
  refine seq_val (.bool true) 50 rfl kj kj ?_
  refine seq_val (.slice (some ⟨gk11, 0, none⟩) (text).length ck11) 51 rfl kj kj ?_
  refine seq_val (.pointer (some ⟨g4, 34, none⟩)) 52 rfl kj kj ?_
  have r4_7 := (row_ext r4_6 e7)
  have r4_8 := (row_ext r4_7 e8)
  have r4_9 := (row_ext r4_8 e9)
  refine seq_val (.slice a_t text.length c_t) 53 rfl kj (run_loadC1 24 _ g4 34 26 _ (.slice a_t text.length c_t) _ r4_9 rfl kj (cat_part [ints .u8 (key), #[.slice a_n nonce.length c_n], #[.int .i64 number]] [#[.slice a_t text.length c_t]] [] 34 (by rw [cat_cons, cat_cons, cat_cons]; simp only [Array.size_append, cat, ((ints_size _ _).trans hkl)]; rfl) 0 _ rfl) kj) ?_
  have f18_5 := (CopyN.ext hv10 e5)
  have f19_6 := (CopyN.ext f18_5 e6)
  have f20_7 := (CopyN.ext f19_6 e7)
  have f21_8 := (CopyN.ext f20_7 e8)
  have f22_9 := (CopyN.ext f21_8 e9)
  refine seq_call (.bool true) 22 #[.slice (some ⟨gk11, 0, none⟩) (text).length ck11, .slice a_t text.length c_t] 54 rfl kj kj ((keptC (text) _ _ _ _ _ (by omega) htb f22_9 (RdK.ext ht x9))) fun W10 e10 => ?_
  have x10 : Ext w W10 := Ext.tr x9 e10
  refine seq_val (.bool true) 55 rfl kj kj ?_
  refine seq_val (.bool true) 56 rfl kj kj ?_
  refine seq_val (.slice (some ⟨gk13, 0, none⟩) (nonce).length ck13) 57 rfl kj kj ?_
  refine seq_val (.pointer (some ⟨g4, 32, none⟩)) 58 rfl kj kj ?_
  have r4_10 := (row_ext r4_9 e10)
  refine seq_val (.slice a_n nonce.length c_n) 59 rfl kj (run_loadC1 24 _ g4 32 26 _ (.slice a_n nonce.length c_n) _ r4_10 rfl kj (cat_part [ints .u8 (key)] [#[.slice a_n nonce.length c_n]] [#[.int .i64 number], #[.slice a_t text.length c_t]] 32 ((ints_size _ _).trans hkl) 0 _ rfl) kj) ?_
  have f23_6 := (CopyN.ext hv12 e6)
  have f24_7 := (CopyN.ext f23_6 e7)
  have f25_8 := (CopyN.ext f24_7 e8)
  have f26_9 := (CopyN.ext f25_8 e9)
  have f27_10 := (CopyN.ext f26_9 e10)
  refine seq_call (.bool true) 22 #[.slice (some ⟨gk13, 0, none⟩) (nonce).length ck13, .slice a_n nonce.length c_n] 60 rfl kj kj ((keptC (nonce) _ _ _ _ _ (by omega) hnb f27_10 (RdK.ext hn x10))) fun W11 e11 => ?_
  have x11 : Ext w W11 := Ext.tr x10 e11
  refine seq_val (.bool true) 61 rfl kj kj ?_
  refine seq_val (.bool true) 62 rfl kj kj ?_
  refine seq_val (.slice none 0 0) 63 rfl kj kj ?_
  refine seq_val (.slice (some ⟨gk11, 0, none⟩) (text).length ck11) 64 rfl kj kj ?_
  refine seq_val (.slice (some ⟨gk13, 0, none⟩) (nonce).length ck13) 65 rfl kj kj ?_
  refine seq_makeS (#[.slice none 0 0, .slice (some ⟨gk11, 0, none⟩) (text).length ck11, .slice (some ⟨gk13, 0, none⟩) (nonce).length ck13]) 24 3 66 rfl kj kj fun g28 W12 l28 e12 r28_12 => ?_
  have x12 : Ext w W12 := Ext.tr x11 e12
  have b28 : w.heap.size ≤ g28 := Nat.le_trans x11.size l28
  have f29_6 := (f15_5.ext e6)
  have f30_7 := (f29_6.ext e7)
  have f31_8 := (f30_7.ext e8)
  have f32_9 := (f31_8.ext e9)
  have f33_10 := (f32_9.ext e10)
  have f34_11 := (f33_10.ext e11)
  have f35_12 := (f34_11.ext e12)
  have f36_6 := ((CopyN.own hv12).ext e6)
  have f37_7 := (f36_6.ext e7)
  have f38_8 := (f37_7.ext e8)
  have f39_9 := (f38_8.ext e9)
  have f40_10 := (f39_9.ext e10)
  have f41_11 := (f40_10.ext e11)
  have f42_12 := (f41_11.ext e12)
  refine seq_callR (fun v W' => v = .bool true ∧ Below w.heap.size W12 W') 23 #[.slice (some ⟨g28, 0, none⟩) 3 3] 67 rfl kj kj ((apart3 (l0 := []) (l1 := text) (l2 := nonce) x12.size r28_12 (.inl ⟨rfl, rfl⟩) (OwnN.v (OwnN.base x3.size f35_12)) (OwnN.v (OwnN.base x4.size f42_12)) (by decide) (by omega) (by omega) (fun _ => rfl) (fun _ => rfl) (fun e => e.trans (own_apart (CopyN.own hv10) (CopyN.own hv12) (Rely.Ext.refl W4).size e.symm))).mono (by rintro e w' ⟨h1, h2⟩; exact ⟨_, h1, rfl, h2⟩)) fun v43 W13 h43 => ?_
  obtain ⟨rfl, l13⟩ := h43
  have x13 : Ext w W13 := Below.trans x12 l13
  refine seq_val (.bool true) 68 rfl kj kj ?_
  refine seq_val (.bool true) 2 rfl kj kj ?_
  refine seq_nil ?_
  refine hK17 _ _ ?_
  try clear hK17 K17
  refine wp_ret ?_
  repeat (first | with_reducible refine goR1 ?_ | with_reducible refine goR2 ?_)
  exact (show bodyPost _ _ _ .ret _ _ from ret1 (.bool true) rfl (res_tmp kj) ⟨rfl, x13⟩)
set_option maxRecDepth 100000 in
set_option maxHeartbeats 4000000 in
theorem lawMixes_E (key nonce text : List Int) (a_n a_t : Option Addr) (c_n c_t : Nat) (number : Int) (th tq : TypeId) (w : World) (hh : w.heap[1]? = some (.cells (ints .u32 [1634760805, 857760878, 2036477234, 1797285236]) th)) (hq : w.heap[0]? = some (.cells (ints .i64 [0, 4, 8, 12, 1, 5, 9, 13, 2, 6, 10, 14, 3, 7, 11, 15, 0, 5, 10, 15, 1, 6, 11, 12, 2, 7, 8, 13, 3, 4, 9, 14]) tq)) (hkl : key.length = 32) (hkb : AreBytes key) (hnb : AreBytes nonce) (htb : AreBytes text) (hn : RdK .u8 w.heap.size nonce (.slice a_n nonce.length c_n) w) (ht : RdK .u8 w.heap.size text (.slice a_t text.length c_t) w) (hs1 : nonce.length ≤ 1000) (hs2 : text.length ≤ 1000) (h : nonce.length = 12) (r : Nat) (hr : number + (r : Int) = 4294967296) (h1 : 0 ≤ number) (h2 : number ≤ 4294967295) (hfit : 64 * r < text.length) : Calls Tryd.prog 4 #[.agg (cat [ints .u8 key, #[.slice a_n nonce.length c_n], #[.int .i64 number], #[.slice a_t text.length c_t]])] w (Ret w (.bool true)) := by
  refine enter 69 [(0, .agg (cat [ints .u8 (key), #[.slice a_n nonce.length c_n], #[.int .i64 number], #[.slice a_t text.length c_t]]))] Tryd.func4 rfl rfl kj rfl ?_
  refine wp_seq_k fun K3 hK3 => ?_
  refine region_lit ?_
  refine seq_alloc (cat [ints .u8 (key), #[.slice a_n nonce.length c_n], #[.int .i64 number], #[.slice a_t text.length c_t]]) 26 1 rfl kj kj fun g4 W1 l4 e1 r4_1 => ?_
  have x1 : Ext w W1 := Ext.tr (Rely.Ext.refl w) e1
  have b4 : w.heap.size ≤ g4 := Nat.le_trans (Rely.Ext.refl w).size l4
  refine seq_val (.bool false) 2 rfl kj kj ?_
  refine seq_nil ?_
  refine hK3 _ _ ?_
  try clear hK3 K3
  refine wp_seq_k fun K5 hK5 => ?_
  refine wp_seq_k fun K6 hK6 => ?_
  refine region_lit ?_
  refine seq_call (.bool true) 12 #[] 9 rfl kj kj ((alive03) _) fun W2 e2 => ?_
  have x2 : Ext w W2 := Ext.tr x1 e2
  refine seq_val (.bool false) 10 rfl kj kj ?_
  refine seq_nil ?_
  refine hK6 _ _ ?_
  try clear hK6 K6
  refine cond_false kj ?_
  refine wp_skip ?_
  refine hK5 _ _ ?_
  try clear hK5 K5
  refine wp_seq_k fun K7 hK7 => ?_
  refine wp_seq_k fun K8 hK8 => ?_
  refine region_lit ?_
  have r4_2 := (row_ext r4_1 e2)
  refine seq_val (.agg (cat [ints .u8 (key), #[.slice a_n nonce.length c_n], #[.int .i64 number], #[.slice a_t text.length c_t]])) 11 rfl kj (run_load_row 26 _ g4 26 _ _ r4_2 rfl kj kj (isz (n := 35) kj (by rw [cat_cons, cat_cons, cat_cons, cat_cons]; simp only [Array.size_append, cat, ((ints_size _ _).trans hkl)]; rfl))) ?_
  refine seq_call (.bool false) 13 #[.agg (cat [ints .u8 (key), #[.slice a_n nonce.length c_n], #[.int .i64 number], #[.slice a_t text.length c_t]])] 12 rfl kj kj ((large_C key nonce text a_n a_t c_n c_t number _ hkl hs1 hs2)) fun W3 e3 => ?_
  have x3 : Ext w W3 := Ext.tr x2 e3
  refine seq_nil ?_
  refine hK8 _ _ ?_
  try clear hK8 K8
  refine cond_false kj ?_
  refine wp_skip ?_
  refine hK7 _ _ ?_
  try clear hK7 K7
  refine wp_seq_k fun K9 hK9 => ?_
  refine any_regionE 5 [⟨none, [(1, none)]⟩, ⟨none, [(13, some 0)]⟩, ⟨none, [(14, some 1)]⟩, ⟨none, [(1, none)]⟩, ⟨none, [(16, some 3)]⟩] kj kj fun F hF => ?_
  refine e_val (rl_ext _) (.pointer (some ⟨g4, 34, none⟩)) kj kj (fun W => by kernel_rfl) ?_
  have r4_3 := (row_ext r4_2 e3)
  refine e_read (rl_ext _) (.slice a_t text.length c_t) kj kj (fun W hR => (run_loadC1 24 _ g4 34 26 _ (.slice a_t text.length c_t) _ (row_ext (row_ext r4_3 (ext_drew _)) hR) rfl kj (cat_part [ints .u8 (key), #[.slice a_n nonce.length c_n], #[.int .i64 number]] [#[.slice a_t text.length c_t]] [] 34 (by rw [cat_cons, cat_cons, cat_cons]; simp only [Array.size_append, cat, ((ints_size _ _).trans hkl)]; rfl) 0 _ rfl) kj)) ?_
  refine e_callG (rl_ext _) (CopyN 5 W3.heap.size (text)) (CopyN.stable _ _) 18 #[.slice a_t text.length c_t] kj kj (fun W => by kernel_rfl) (fun W hR => (copyG W3.heap.size (text) _ _ W (by omega) (RdK.ext (RdK.ext ht x3) (Rely.Ext.trans (ext_drew _) hR)) (Rely.Ext.trans (ext_drew _) hR).size)) ?_
  refine e_val (rl_ext _) (.pointer (some ⟨g4, 32, none⟩)) kj kj (fun W => by kernel_rfl) ?_
  refine e_read (rl_ext _) (.slice a_n nonce.length c_n) kj kj (fun W hR => (run_loadC1 24 _ g4 32 26 _ (.slice a_n nonce.length c_n) _ (row_ext (row_ext r4_3 (ext_drew _)) hR) rfl kj (cat_part [ints .u8 (key)] [#[.slice a_n nonce.length c_n]] [#[.int .i64 number], #[.slice a_t text.length c_t]] 32 ((ints_size _ _).trans hkl) 0 _ rfl) kj)) ?_
  refine e_nil (hF _ fun W4 e4 => ?_)
  simp only [List.nil_append, List.cons_append, List.take_succ_cons, List.take_zero, List.drop_succ_cons, List.drop_zero, finE, up]
  intro vv10 hv10
  clear hF
  have x4 : Ext w W4 := Ext.tr x3 e4
  have hq11 := hv10
  obtain ⟨gk11, ck11, rfl, -⟩ := hq11
  refine seq_callR (fun v W' => (CopyN 5 W4.heap.size (nonce)) v W' ∧ Ext W4 W') 18 #[.slice a_n nonce.length c_n] 18 rfl kj kj ((copyC (nonce) _ _ _ (by omega) (RdK.ext hn x4)).mono (by rintro e w' ⟨v, rfl, e1, hv⟩; exact ⟨v, rfl, hv, e1⟩)) fun vv12 W5 hh12 => ?_
  obtain ⟨hv12, e5⟩ := hh12
  have x5 : Ext w W5 := Ext.tr x4 e5
  have hq13 := hv12
  obtain ⟨gk13, ck13, rfl, -⟩ := hq13
  refine seq_val (.slice (some ⟨gk11, 0, none⟩) (text).length ck11) 3 rfl kj kj ?_
  refine seq_val (.slice (some ⟨gk13, 0, none⟩) (nonce).length ck13) 4 rfl kj kj ?_
  refine seq_nil ?_
  refine hK9 _ _ ?_
  try clear hK9 K9
  refine wp_seq_k fun K14 hK14 => ?_
  refine region_lit ?_
  refine seq_val (.pointer (some ⟨g4, 0, none⟩)) 20 rfl kj kj ?_
  have r4_4 := (row_ext r4_3 e4)
  have r4_5 := (row_ext r4_4 e5)
  refine seq_val (.agg (ints .u8 (key))) 21 rfl kj (run_load_part 23 _ g4 0 26 _ _ _ r4_5 rfl kj (cat_part [] [ints .u8 (key)] [#[.slice a_n nonce.length c_n], #[.int .i64 number], #[.slice a_t text.length c_t]] 0 kj) kj (isz (n := 32) kj ((ints_size _ _).trans hkl))) ?_
  refine seq_val (.slice (some ⟨gk13, 0, none⟩) (nonce).length ck13) 22 rfl kj kj ?_
  refine seq_val (.pointer (some ⟨g4, 33, none⟩)) 23 rfl kj kj ?_
  refine seq_val (.int .i64 number) 24 rfl kj (run_loadC1 3 _ g4 33 26 _ (.int .i64 number) _ r4_5 rfl kj (cat_part [ints .u8 (key), #[.slice a_n nonce.length c_n]] [#[.int .i64 number]] [#[.slice a_t text.length c_t]] 33 (by rw [cat_cons, cat_cons]; simp only [Array.size_append, cat, ((ints_size _ _).trans hkl)]; rfl) 0 _ rfl) kj) ?_
  refine seq_val (.slice (some ⟨gk11, 0, none⟩) (text).length ck11) 25 rfl kj kj ?_
  have f15_5 := ((CopyN.own hv10).ext e5)
  have r2_1 := (row_ext hh e1)
  have r2_2 := (row_ext r2_1 e2)
  have r2_3 := (row_ext r2_2 e3)
  have r2_4 := (row_ext r2_3 e4)
  have r2_5 := (row_ext r2_4 e5)
  have r1_1 := (row_ext hq e1)
  have r1_2 := (row_ext r1_1 e2)
  have r1_3 := (row_ext r1_2 e3)
  have r1_4 := (row_ext r1_3 e4)
  have r1_5 := (row_ext r1_4 e5)
  refine seq_call (.tuple #[.slice none 0 0, .iface 74 (.int .i64 8)]) 19 #[.agg (ints .u8 (key)), .slice (some ⟨gk13, 0, none⟩) (nonce).length ck13, .int .i64 number, .slice (some ⟨gk11, 0, none⟩) (text).length ck11] 26 rfl kj kj ((Mix_E key nonce (text) _ _ _ _ number th tq _ r2_5 r1_5 hkl (OwnN.rd (CopyN.own hv12)) (OwnN.rd f15_5) h r hr h1 h2 hfit (by omega))) fun W6 e6 => ?_
  have x6 : Ext w W6 := Ext.tr x5 e6
  refine seq_val (.tuple #[.slice none 0 0, .iface 74 (.int .i64 8)]) 19 rfl kj kj ?_
  refine seq_val (.slice none 0 0) 27 rfl kj kj ?_
  refine seq_val (.iface 74 (.int .i64 8)) 28 rfl kj kj ?_
  refine seq_val (.slice none 0 0) 5 rfl kj kj ?_
  refine seq_val (.iface 74 (.int .i64 8)) 6 rfl kj kj ?_
  refine seq_nil ?_
  refine hK14 _ _ ?_
  try clear hK14 K14
  refine wp_seq_k fun K16 hK16 => ?_
  refine region_lit ?_
  refine seq_val (.pointer (some ⟨g4, 0, none⟩)) 30 rfl kj kj ?_
  have r4_6 := (row_ext r4_5 e6)
  refine seq_val (.agg (ints .u8 (key))) 31 rfl kj (run_load_part 23 _ g4 0 26 _ _ _ r4_6 rfl kj (cat_part [] [ints .u8 (key)] [#[.slice a_n nonce.length c_n], #[.int .i64 number], #[.slice a_t text.length c_t]] 0 kj) kj (isz (n := 32) kj ((ints_size _ _).trans hkl))) ?_
  refine seq_val (.pointer (some ⟨g4, 32, none⟩)) 32 rfl kj kj ?_
  refine seq_val (.slice a_n nonce.length c_n) 33 rfl kj (run_loadC1 24 _ g4 32 26 _ (.slice a_n nonce.length c_n) _ r4_6 rfl kj (cat_part [ints .u8 (key)] [#[.slice a_n nonce.length c_n]] [#[.int .i64 number], #[.slice a_t text.length c_t]] 32 ((ints_size _ _).trans hkl) 0 _ rfl) kj) ?_
  refine seq_val (.pointer (some ⟨g4, 33, none⟩)) 34 rfl kj kj ?_
  refine seq_val (.int .i64 number) 35 rfl kj (run_loadC1 3 _ g4 33 26 _ (.int .i64 number) _ r4_6 rfl kj (cat_part [ints .u8 (key), #[.slice a_n nonce.length c_n]] [#[.int .i64 number]] [#[.slice a_t text.length c_t]] 33 (by rw [cat_cons, cat_cons]; simp only [Array.size_append, cat, ((ints_size _ _).trans hkl)]; rfl) 0 _ rfl) kj) ?_
  refine seq_val (.pointer (some ⟨g4, 34, none⟩)) 36 rfl kj kj ?_
  refine seq_val (.slice a_t text.length c_t) 37 rfl kj (run_loadC1 24 _ g4 34 26 _ (.slice a_t text.length c_t) _ r4_6 rfl kj (cat_part [ints .u8 (key), #[.slice a_n nonce.length c_n], #[.int .i64 number]] [#[.slice a_t text.length c_t]] [] 34 (by rw [cat_cons, cat_cons, cat_cons]; simp only [Array.size_append, cat, ((ints_size _ _).trans hkl)]; rfl) 0 _ rfl) kj) ?_
  refine seq_call (.tuple #[.slice none 0 0, .int .i64 8]) 20 #[.agg (ints .u8 (key)), .slice a_n nonce.length c_n, .int .i64 number, .slice a_t text.length c_t] 38 rfl kj kj ((rMix_E key nonce text _ _ _ _ number _ hkl hkb hnb (RdK.ext hn x6) (RdK.ext ht x6) h r hr h1 h2 hfit (by omega))) fun W7 e7 => ?_
  have x7 : Ext w W7 := Ext.tr x6 e7
  refine seq_val (.tuple #[.slice none 0 0, .int .i64 8]) 29 rfl kj kj ?_
  refine seq_val (.slice none 0 0) 39 rfl kj kj ?_
  refine seq_val (.int .i64 8) 40 rfl kj kj ?_
  refine seq_val (.slice none 0 0) 7 rfl kj kj ?_
  refine seq_val (.int .i64 8) 8 rfl kj kj ?_
  refine seq_nil ?_
  refine hK16 _ _ ?_
  try clear hK16 K16
  refine wp_seq_k fun K17 hK17 => ?_
  refine region_lit ?_
  refine seq_val (.slice none 0 0) 41 rfl kj kj ?_
  refine seq_val (.slice none 0 0) 42 rfl kj kj ?_
  refine seq_call (.bool true) 21 #[.slice none 0 0, .slice none 0 0] 43 rfl kj kj ((sameT _ _ _ _ _ rfl (nil_bytes _) (nil_bytes _))) fun W8 e8 => ?_
  have x8 : Ext w W8 := Ext.tr x7 e8
  refine seq_val (.bool true) 44 rfl kj kj ?_
  refine seq_val (.iface 74 (.int .i64 8)) 45 rfl kj kj ?_
  refine seq_call (.int .i64 8) 16 #[.iface 74 (.int .i64 8)] 46 rfl kj kj ((numE 8 (by decide)) _) fun W9 e9 => ?_
  have x9 : Ext w W9 := Ext.tr x8 e9
  refine seq_val (.int .i64 8) 47 rfl kj kj ?_
  refine seq_val (.bool true) 48 rfl kj kj ?_
  refine seq_val (.bool true) 49 rfl kj kj ?_
  refine seq_val (.bool true) 50 rfl kj kj ?_
  refine seq_val (.slice (some ⟨gk11, 0, none⟩) (text).length ck11) 51 rfl kj kj ?_
  refine seq_val (.pointer (some ⟨g4, 34, none⟩)) 52 rfl kj kj ?_
  have r4_7 := (row_ext r4_6 e7)
  have r4_8 := (row_ext r4_7 e8)
  have r4_9 := (row_ext r4_8 e9)
  refine seq_val (.slice a_t text.length c_t) 53 rfl kj (run_loadC1 24 _ g4 34 26 _ (.slice a_t text.length c_t) _ r4_9 rfl kj (cat_part [ints .u8 (key), #[.slice a_n nonce.length c_n], #[.int .i64 number]] [#[.slice a_t text.length c_t]] [] 34 (by rw [cat_cons, cat_cons, cat_cons]; simp only [Array.size_append, cat, ((ints_size _ _).trans hkl)]; rfl) 0 _ rfl) kj) ?_
  have f18_5 := (CopyN.ext hv10 e5)
  have f19_6 := (CopyN.ext f18_5 e6)
  have f20_7 := (CopyN.ext f19_6 e7)
  have f21_8 := (CopyN.ext f20_7 e8)
  have f22_9 := (CopyN.ext f21_8 e9)
  refine seq_call (.bool true) 22 #[.slice (some ⟨gk11, 0, none⟩) (text).length ck11, .slice a_t text.length c_t] 54 rfl kj kj ((keptC (text) _ _ _ _ _ (by omega) htb f22_9 (RdK.ext ht x9))) fun W10 e10 => ?_
  have x10 : Ext w W10 := Ext.tr x9 e10
  refine seq_val (.bool true) 55 rfl kj kj ?_
  refine seq_val (.bool true) 56 rfl kj kj ?_
  refine seq_val (.slice (some ⟨gk13, 0, none⟩) (nonce).length ck13) 57 rfl kj kj ?_
  refine seq_val (.pointer (some ⟨g4, 32, none⟩)) 58 rfl kj kj ?_
  have r4_10 := (row_ext r4_9 e10)
  refine seq_val (.slice a_n nonce.length c_n) 59 rfl kj (run_loadC1 24 _ g4 32 26 _ (.slice a_n nonce.length c_n) _ r4_10 rfl kj (cat_part [ints .u8 (key)] [#[.slice a_n nonce.length c_n]] [#[.int .i64 number], #[.slice a_t text.length c_t]] 32 ((ints_size _ _).trans hkl) 0 _ rfl) kj) ?_
  have f23_6 := (CopyN.ext hv12 e6)
  have f24_7 := (CopyN.ext f23_6 e7)
  have f25_8 := (CopyN.ext f24_7 e8)
  have f26_9 := (CopyN.ext f25_8 e9)
  have f27_10 := (CopyN.ext f26_9 e10)
  refine seq_call (.bool true) 22 #[.slice (some ⟨gk13, 0, none⟩) (nonce).length ck13, .slice a_n nonce.length c_n] 60 rfl kj kj ((keptC (nonce) _ _ _ _ _ (by omega) hnb f27_10 (RdK.ext hn x10))) fun W11 e11 => ?_
  have x11 : Ext w W11 := Ext.tr x10 e11
  refine seq_val (.bool true) 61 rfl kj kj ?_
  refine seq_val (.bool true) 62 rfl kj kj ?_
  refine seq_val (.slice none 0 0) 63 rfl kj kj ?_
  refine seq_val (.slice (some ⟨gk11, 0, none⟩) (text).length ck11) 64 rfl kj kj ?_
  refine seq_val (.slice (some ⟨gk13, 0, none⟩) (nonce).length ck13) 65 rfl kj kj ?_
  refine seq_makeS (#[.slice none 0 0, .slice (some ⟨gk11, 0, none⟩) (text).length ck11, .slice (some ⟨gk13, 0, none⟩) (nonce).length ck13]) 24 3 66 rfl kj kj fun g28 W12 l28 e12 r28_12 => ?_
  have x12 : Ext w W12 := Ext.tr x11 e12
  have b28 : w.heap.size ≤ g28 := Nat.le_trans x11.size l28
  have f29_6 := (f15_5.ext e6)
  have f30_7 := (f29_6.ext e7)
  have f31_8 := (f30_7.ext e8)
  have f32_9 := (f31_8.ext e9)
  have f33_10 := (f32_9.ext e10)
  have f34_11 := (f33_10.ext e11)
  have f35_12 := (f34_11.ext e12)
  have f36_6 := ((CopyN.own hv12).ext e6)
  have f37_7 := (f36_6.ext e7)
  have f38_8 := (f37_7.ext e8)
  have f39_9 := (f38_8.ext e9)
  have f40_10 := (f39_9.ext e10)
  have f41_11 := (f40_10.ext e11)
  have f42_12 := (f41_11.ext e12)
  refine seq_callR (fun v W' => v = .bool true ∧ Below w.heap.size W12 W') 23 #[.slice (some ⟨g28, 0, none⟩) 3 3] 67 rfl kj kj ((apart3 (l0 := []) (l1 := text) (l2 := nonce) x12.size r28_12 (.inl ⟨rfl, rfl⟩) (OwnN.v (OwnN.base x3.size f35_12)) (OwnN.v (OwnN.base x4.size f42_12)) (by decide) (by omega) (by omega) (fun _ => rfl) (fun _ => rfl) (fun e => e.trans (own_apart (CopyN.own hv10) (CopyN.own hv12) (Rely.Ext.refl W4).size e.symm))).mono (by rintro e w' ⟨h1, h2⟩; exact ⟨_, h1, rfl, h2⟩)) fun v43 W13 h43 => ?_
  obtain ⟨rfl, l13⟩ := h43
  have x13 : Ext w W13 := Below.trans x12 l13
  refine seq_val (.bool true) 68 rfl kj kj ?_
  refine seq_val (.bool true) 2 rfl kj kj ?_
  refine seq_nil ?_
  refine hK17 _ _ ?_
  try clear hK17 K17
  refine wp_ret ?_
  repeat (first | with_reducible refine goR1 ?_ | with_reducible refine goR2 ?_)
  exact (show bodyPost _ _ _ .ret _ _ from ret1 (.bool true) rfl (res_tmp kj) ⟨rfl, x13⟩)
set_option maxRecDepth 100000 in
set_option maxHeartbeats 4000000 in
theorem lawMixes_D (key nonce text : List Int) (a_n a_t : Option Addr) (c_n c_t : Nat) (number : Int) (th tq : TypeId) (w : World) (hh : w.heap[1]? = some (.cells (ints .u32 [1634760805, 857760878, 2036477234, 1797285236]) th)) (hq : w.heap[0]? = some (.cells (ints .i64 [0, 4, 8, 12, 1, 5, 9, 13, 2, 6, 10, 14, 3, 7, 11, 15, 0, 5, 10, 15, 1, 6, 11, 12, 2, 7, 8, 13, 3, 4, 9, 14]) tq)) (hkl : key.length = 32) (hkb : AreBytes key) (hnb : AreBytes nonce) (htb : AreBytes text) (hn : RdK .u8 w.heap.size nonce (.slice a_n nonce.length c_n) w) (ht : RdK .u8 w.heap.size text (.slice a_t text.length c_t) w) (hs1 : nonce.length ≤ 1000) (hs2 : text.length ≤ 1000) (h : nonce.length = 12) (r : Nat) (hr : number + (r : Int) = 4294967296) (h1 : 0 ≤ number) (h2 : number ≤ 4294967295) (hfit : text.length ≤ 64 * r) : Calls Tryd.prog 4 #[.agg (cat [ints .u8 key, #[.slice a_n nonce.length c_n], #[.int .i64 number], #[.slice a_t text.length c_t]])] w (Ret w (.bool true)) := by
  have hmb := mixV_bytes (startW key nonce) number text
  have lmm := mixV_len (startW key nonce) number text
  obtain ⟨fm, em⟩ : ∃ z : List Int, mixV (startW key nonce) number text = z := ⟨_, rfl⟩
  have lfm : fm.length = text.length := em ▸ lmm
  have hfb : AreBytes fm := em ▸ hmb
  refine enter 69 [(0, .agg (cat [ints .u8 (key), #[.slice a_n nonce.length c_n], #[.int .i64 number], #[.slice a_t text.length c_t]]))] Tryd.func4 rfl rfl kj rfl ?_
  refine wp_seq_k fun K3 hK3 => ?_
  refine region_lit ?_
  refine seq_alloc (cat [ints .u8 (key), #[.slice a_n nonce.length c_n], #[.int .i64 number], #[.slice a_t text.length c_t]]) 26 1 rfl kj kj fun g4 W1 l4 e1 r4_1 => ?_
  have x1 : Ext w W1 := Ext.tr (Rely.Ext.refl w) e1
  have b4 : w.heap.size ≤ g4 := Nat.le_trans (Rely.Ext.refl w).size l4
  refine seq_val (.bool false) 2 rfl kj kj ?_
  refine seq_nil ?_
  refine hK3 _ _ ?_
  try clear hK3 K3
  refine wp_seq_k fun K5 hK5 => ?_
  refine wp_seq_k fun K6 hK6 => ?_
  refine region_lit ?_
  refine seq_call (.bool true) 12 #[] 9 rfl kj kj ((alive03) _) fun W2 e2 => ?_
  have x2 : Ext w W2 := Ext.tr x1 e2
  refine seq_val (.bool false) 10 rfl kj kj ?_
  refine seq_nil ?_
  refine hK6 _ _ ?_
  try clear hK6 K6
  refine cond_false kj ?_
  refine wp_skip ?_
  refine hK5 _ _ ?_
  try clear hK5 K5
  refine wp_seq_k fun K7 hK7 => ?_
  refine wp_seq_k fun K8 hK8 => ?_
  refine region_lit ?_
  have r4_2 := (row_ext r4_1 e2)
  refine seq_val (.agg (cat [ints .u8 (key), #[.slice a_n nonce.length c_n], #[.int .i64 number], #[.slice a_t text.length c_t]])) 11 rfl kj (run_load_row 26 _ g4 26 _ _ r4_2 rfl kj kj (isz (n := 35) kj (by rw [cat_cons, cat_cons, cat_cons, cat_cons]; simp only [Array.size_append, cat, ((ints_size _ _).trans hkl)]; rfl))) ?_
  refine seq_call (.bool false) 13 #[.agg (cat [ints .u8 (key), #[.slice a_n nonce.length c_n], #[.int .i64 number], #[.slice a_t text.length c_t]])] 12 rfl kj kj ((large_C key nonce text a_n a_t c_n c_t number _ hkl hs1 hs2)) fun W3 e3 => ?_
  have x3 : Ext w W3 := Ext.tr x2 e3
  refine seq_nil ?_
  refine hK8 _ _ ?_
  try clear hK8 K8
  refine cond_false kj ?_
  refine wp_skip ?_
  refine hK7 _ _ ?_
  try clear hK7 K7
  refine wp_seq_k fun K9 hK9 => ?_
  refine any_regionE 5 [⟨none, [(1, none)]⟩, ⟨none, [(13, some 0)]⟩, ⟨none, [(14, some 1)]⟩, ⟨none, [(1, none)]⟩, ⟨none, [(16, some 3)]⟩] kj kj fun F hF => ?_
  refine e_val (rl_ext _) (.pointer (some ⟨g4, 34, none⟩)) kj kj (fun W => by kernel_rfl) ?_
  have r4_3 := (row_ext r4_2 e3)
  refine e_read (rl_ext _) (.slice a_t text.length c_t) kj kj (fun W hR => (run_loadC1 24 _ g4 34 26 _ (.slice a_t text.length c_t) _ (row_ext (row_ext r4_3 (ext_drew _)) hR) rfl kj (cat_part [ints .u8 (key), #[.slice a_n nonce.length c_n], #[.int .i64 number]] [#[.slice a_t text.length c_t]] [] 34 (by rw [cat_cons, cat_cons, cat_cons]; simp only [Array.size_append, cat, ((ints_size _ _).trans hkl)]; rfl) 0 _ rfl) kj)) ?_
  refine e_callG (rl_ext _) (CopyN 5 W3.heap.size (text)) (CopyN.stable _ _) 18 #[.slice a_t text.length c_t] kj kj (fun W => by kernel_rfl) (fun W hR => (copyG W3.heap.size (text) _ _ W (by omega) (RdK.ext (RdK.ext ht x3) (Rely.Ext.trans (ext_drew _) hR)) (Rely.Ext.trans (ext_drew _) hR).size)) ?_
  refine e_val (rl_ext _) (.pointer (some ⟨g4, 32, none⟩)) kj kj (fun W => by kernel_rfl) ?_
  refine e_read (rl_ext _) (.slice a_n nonce.length c_n) kj kj (fun W hR => (run_loadC1 24 _ g4 32 26 _ (.slice a_n nonce.length c_n) _ (row_ext (row_ext r4_3 (ext_drew _)) hR) rfl kj (cat_part [ints .u8 (key)] [#[.slice a_n nonce.length c_n]] [#[.int .i64 number], #[.slice a_t text.length c_t]] 32 ((ints_size _ _).trans hkl) 0 _ rfl) kj)) ?_
  refine e_nil (hF _ fun W4 e4 => ?_)
  simp only [List.nil_append, List.cons_append, List.take_succ_cons, List.take_zero, List.drop_succ_cons, List.drop_zero, finE, up]
  intro vv10 hv10
  clear hF
  have x4 : Ext w W4 := Ext.tr x3 e4
  have hq11 := hv10
  obtain ⟨gk11, ck11, rfl, -⟩ := hq11
  refine seq_callR (fun v W' => (CopyN 5 W4.heap.size (nonce)) v W' ∧ Ext W4 W') 18 #[.slice a_n nonce.length c_n] 18 rfl kj kj ((copyC (nonce) _ _ _ (by omega) (RdK.ext hn x4)).mono (by rintro e w' ⟨v, rfl, e1, hv⟩; exact ⟨v, rfl, hv, e1⟩)) fun vv12 W5 hh12 => ?_
  obtain ⟨hv12, e5⟩ := hh12
  have x5 : Ext w W5 := Ext.tr x4 e5
  have hq13 := hv12
  obtain ⟨gk13, ck13, rfl, -⟩ := hq13
  refine seq_val (.slice (some ⟨gk11, 0, none⟩) (text).length ck11) 3 rfl kj kj ?_
  refine seq_val (.slice (some ⟨gk13, 0, none⟩) (nonce).length ck13) 4 rfl kj kj ?_
  refine seq_nil ?_
  refine hK9 _ _ ?_
  try clear hK9 K9
  refine wp_seq_k fun K14 hK14 => ?_
  refine region_lit ?_
  refine seq_val (.pointer (some ⟨g4, 0, none⟩)) 20 rfl kj kj ?_
  have r4_4 := (row_ext r4_3 e4)
  have r4_5 := (row_ext r4_4 e5)
  refine seq_val (.agg (ints .u8 (key))) 21 rfl kj (run_load_part 23 _ g4 0 26 _ _ _ r4_5 rfl kj (cat_part [] [ints .u8 (key)] [#[.slice a_n nonce.length c_n], #[.int .i64 number], #[.slice a_t text.length c_t]] 0 kj) kj (isz (n := 32) kj ((ints_size _ _).trans hkl))) ?_
  refine seq_val (.slice (some ⟨gk13, 0, none⟩) (nonce).length ck13) 22 rfl kj kj ?_
  refine seq_val (.pointer (some ⟨g4, 33, none⟩)) 23 rfl kj kj ?_
  refine seq_val (.int .i64 number) 24 rfl kj (run_loadC1 3 _ g4 33 26 _ (.int .i64 number) _ r4_5 rfl kj (cat_part [ints .u8 (key), #[.slice a_n nonce.length c_n]] [#[.int .i64 number]] [#[.slice a_t text.length c_t]] 33 (by rw [cat_cons, cat_cons]; simp only [Array.size_append, cat, ((ints_size _ _).trans hkl)]; rfl) 0 _ rfl) kj) ?_
  refine seq_val (.slice (some ⟨gk11, 0, none⟩) (text).length ck11) 25 rfl kj kj ?_
  have f15_5 := ((CopyN.own hv10).ext e5)
  have r2_1 := (row_ext hh e1)
  have r2_2 := (row_ext r2_1 e2)
  have r2_3 := (row_ext r2_2 e3)
  have r2_4 := (row_ext r2_3 e4)
  have r2_5 := (row_ext r2_4 e5)
  have r1_1 := (row_ext hq e1)
  have r1_2 := (row_ext r1_1 e2)
  have r1_3 := (row_ext r1_2 e3)
  have r1_4 := (row_ext r1_3 e4)
  have r1_5 := (row_ext r1_4 e5)
  refine seq_callR (fun v W' => (MixR W5.heap.size (fm)) v W' ∧ Ext W5 W') 19 #[.agg (ints .u8 (key)), .slice (some ⟨gk13, 0, none⟩) (nonce).length ck13, .int .i64 number, .slice (some ⟨gk11, 0, none⟩) (text).length ck11] 26 rfl kj kj (((em ▸ MixG W5.heap.size key nonce (text) _ _ _ _ number th tq _ r2_5 r1_5 hkl (OwnN.rd (CopyN.own hv12)) (OwnN.rd f15_5) h r hr h1 h2 hfit (by omega) (Nat.le_refl _))).mono (by rintro e w' ⟨v, rfl, e1, hv⟩; exact ⟨v, rfl, hv, e1⟩)) fun vv16 W6 hh16 => ?_
  obtain ⟨hv16, e6⟩ := hh16
  have x6 : Ext w W6 := Ext.tr x5 e6
  obtain ⟨u17_, rfl, hu17_⟩ := hv16
  obtain ⟨a18_, c18_, rfl, -⟩ := id (OwnN.rd hu17_)
  refine seq_val (.tuple #[.slice a18_ ((fm).length) c18_, .nilIface]) 19 rfl kj kj ?_
  refine seq_val (.slice a18_ ((fm).length) c18_) 27 rfl kj kj ?_
  refine seq_val (.nilIface) 28 rfl kj kj ?_
  refine seq_val (.slice a18_ ((fm).length) c18_) 5 rfl kj kj ?_
  refine seq_val (.nilIface) 6 rfl kj kj ?_
  refine seq_nil ?_
  refine hK14 _ _ ?_
  try clear hK14 K14
  refine wp_seq_k fun K19 hK19 => ?_
  refine region_lit ?_
  refine seq_val (.pointer (some ⟨g4, 0, none⟩)) 30 rfl kj kj ?_
  have r4_6 := (row_ext r4_5 e6)
  refine seq_val (.agg (ints .u8 (key))) 31 rfl kj (run_load_part 23 _ g4 0 26 _ _ _ r4_6 rfl kj (cat_part [] [ints .u8 (key)] [#[.slice a_n nonce.length c_n], #[.int .i64 number], #[.slice a_t text.length c_t]] 0 kj) kj (isz (n := 32) kj ((ints_size _ _).trans hkl))) ?_
  refine seq_val (.pointer (some ⟨g4, 32, none⟩)) 32 rfl kj kj ?_
  refine seq_val (.slice a_n nonce.length c_n) 33 rfl kj (run_loadC1 24 _ g4 32 26 _ (.slice a_n nonce.length c_n) _ r4_6 rfl kj (cat_part [ints .u8 (key)] [#[.slice a_n nonce.length c_n]] [#[.int .i64 number], #[.slice a_t text.length c_t]] 32 ((ints_size _ _).trans hkl) 0 _ rfl) kj) ?_
  refine seq_val (.pointer (some ⟨g4, 33, none⟩)) 34 rfl kj kj ?_
  refine seq_val (.int .i64 number) 35 rfl kj (run_loadC1 3 _ g4 33 26 _ (.int .i64 number) _ r4_6 rfl kj (cat_part [ints .u8 (key), #[.slice a_n nonce.length c_n]] [#[.int .i64 number]] [#[.slice a_t text.length c_t]] 33 (by rw [cat_cons, cat_cons]; simp only [Array.size_append, cat, ((ints_size _ _).trans hkl)]; rfl) 0 _ rfl) kj) ?_
  refine seq_val (.pointer (some ⟨g4, 34, none⟩)) 36 rfl kj kj ?_
  refine seq_val (.slice a_t text.length c_t) 37 rfl kj (run_loadC1 24 _ g4 34 26 _ (.slice a_t text.length c_t) _ r4_6 rfl kj (cat_part [ints .u8 (key), #[.slice a_n nonce.length c_n], #[.int .i64 number]] [#[.slice a_t text.length c_t]] [] 34 (by rw [cat_cons, cat_cons, cat_cons]; simp only [Array.size_append, cat, ((ints_size _ _).trans hkl)]; rfl) 0 _ rfl) kj) ?_
  refine seq_callR (fun v W' => (fun v W => ∃ u, v = .tuple #[u, .int .i64 0] ∧ OwnN .u8 5 W6.heap.size (mixV (startW key nonce) number text) u W) v W' ∧ Ext W6 W') 20 #[.agg (ints .u8 (key)), .slice a_n nonce.length c_n, .int .i64 number, .slice a_t text.length c_t] 38 rfl kj kj (((rMix_D key nonce text _ _ _ _ number _ hkl hkb hnb (RdK.ext hn x6) (RdK.ext ht x6) h r hr h1 h2 hfit (by omega))).mono (by rintro e w' ⟨v, rfl, e1, hv⟩; exact ⟨v, rfl, hv, e1⟩)) fun vv20 W7 hh20 => ?_
  obtain ⟨hv20, e7⟩ := hh20
  have x7 : Ext w W7 := Ext.tr x6 e7
  obtain ⟨u21_, rfl, hu21_⟩ := hv20
  rw [em] at hu21_
  obtain ⟨a22_, c22_, rfl, -⟩ := id (OwnN.rd hu21_)
  refine seq_val (.tuple #[.slice a22_ ((fm).length) c22_, .int .i64 0]) 29 rfl kj kj ?_
  refine seq_val (.slice a22_ ((fm).length) c22_) 39 rfl kj kj ?_
  refine seq_val (.int .i64 0) 40 rfl kj kj ?_
  refine seq_val (.slice a22_ ((fm).length) c22_) 7 rfl kj kj ?_
  refine seq_val (.int .i64 0) 8 rfl kj kj ?_
  refine seq_nil ?_
  refine hK19 _ _ ?_
  try clear hK19 K19
  refine wp_seq_k fun K23 hK23 => ?_
  refine region_lit ?_
  refine seq_val (.slice a18_ ((fm).length) c18_) 41 rfl kj kj ?_
  refine seq_val (.slice a22_ ((fm).length) c22_) 42 rfl kj kj ?_
  have f24_7 := (hu17_.ext e7)
  refine seq_call (.bool true) 21 #[.slice a18_ ((fm).length) c18_, .slice a22_ ((fm).length) c22_] 43 rfl kj kj ((sameT _ _ _ _ _ rfl (RdK.bytes (OwnN.rd f24_7) hfb) (RdK.bytes (OwnN.rd hu21_) hfb))) fun W8 e8 => ?_
  have x8 : Ext w W8 := Ext.tr x7 e8
  refine seq_val (.bool true) 44 rfl kj kj ?_
  refine seq_val (.nilIface) 45 rfl kj kj ?_
  refine seq_call (.int .i64 0) 16 #[.nilIface] 46 rfl kj kj ((numZ) _) fun W9 e9 => ?_
  have x9 : Ext w W9 := Ext.tr x8 e9
  refine seq_val (.int .i64 0) 47 rfl kj kj ?_
  refine seq_val (.bool true) 48 rfl kj kj ?_
  refine seq_val (.bool true) 49 rfl kj kj ?_
  refine seq_val (.bool true) 50 rfl kj kj ?_
  refine seq_val (.slice (some ⟨gk11, 0, none⟩) (text).length ck11) 51 rfl kj kj ?_
  refine seq_val (.pointer (some ⟨g4, 34, none⟩)) 52 rfl kj kj ?_
  have r4_7 := (row_ext r4_6 e7)
  have r4_8 := (row_ext r4_7 e8)
  have r4_9 := (row_ext r4_8 e9)
  refine seq_val (.slice a_t text.length c_t) 53 rfl kj (run_loadC1 24 _ g4 34 26 _ (.slice a_t text.length c_t) _ r4_9 rfl kj (cat_part [ints .u8 (key), #[.slice a_n nonce.length c_n], #[.int .i64 number]] [#[.slice a_t text.length c_t]] [] 34 (by rw [cat_cons, cat_cons, cat_cons]; simp only [Array.size_append, cat, ((ints_size _ _).trans hkl)]; rfl) 0 _ rfl) kj) ?_
  have f25_5 := (CopyN.ext hv10 e5)
  have f26_6 := (CopyN.ext f25_5 e6)
  have f27_7 := (CopyN.ext f26_6 e7)
  have f28_8 := (CopyN.ext f27_7 e8)
  have f29_9 := (CopyN.ext f28_8 e9)
  refine seq_call (.bool true) 22 #[.slice (some ⟨gk11, 0, none⟩) (text).length ck11, .slice a_t text.length c_t] 54 rfl kj kj ((keptC (text) _ _ _ _ _ (by omega) htb f29_9 (RdK.ext ht x9))) fun W10 e10 => ?_
  have x10 : Ext w W10 := Ext.tr x9 e10
  refine seq_val (.bool true) 55 rfl kj kj ?_
  refine seq_val (.bool true) 56 rfl kj kj ?_
  refine seq_val (.slice (some ⟨gk13, 0, none⟩) (nonce).length ck13) 57 rfl kj kj ?_
  refine seq_val (.pointer (some ⟨g4, 32, none⟩)) 58 rfl kj kj ?_
  have r4_10 := (row_ext r4_9 e10)
  refine seq_val (.slice a_n nonce.length c_n) 59 rfl kj (run_loadC1 24 _ g4 32 26 _ (.slice a_n nonce.length c_n) _ r4_10 rfl kj (cat_part [ints .u8 (key)] [#[.slice a_n nonce.length c_n]] [#[.int .i64 number], #[.slice a_t text.length c_t]] 32 ((ints_size _ _).trans hkl) 0 _ rfl) kj) ?_
  have f30_6 := (CopyN.ext hv12 e6)
  have f31_7 := (CopyN.ext f30_6 e7)
  have f32_8 := (CopyN.ext f31_7 e8)
  have f33_9 := (CopyN.ext f32_8 e9)
  have f34_10 := (CopyN.ext f33_9 e10)
  refine seq_call (.bool true) 22 #[.slice (some ⟨gk13, 0, none⟩) (nonce).length ck13, .slice a_n nonce.length c_n] 60 rfl kj kj ((keptC (nonce) _ _ _ _ _ (by omega) hnb f34_10 (RdK.ext hn x10))) fun W11 e11 => ?_
  have x11 : Ext w W11 := Ext.tr x10 e11
  refine seq_val (.bool true) 61 rfl kj kj ?_
  refine seq_val (.bool true) 62 rfl kj kj ?_
  refine seq_val (.slice a18_ ((fm).length) c18_) 63 rfl kj kj ?_
  refine seq_val (.slice (some ⟨gk11, 0, none⟩) (text).length ck11) 64 rfl kj kj ?_
  refine seq_val (.slice (some ⟨gk13, 0, none⟩) (nonce).length ck13) 65 rfl kj kj ?_
  refine seq_makeS (#[.slice a18_ ((fm).length) c18_, .slice (some ⟨gk11, 0, none⟩) (text).length ck11, .slice (some ⟨gk13, 0, none⟩) (nonce).length ck13]) 24 3 66 rfl kj kj fun g35 W12 l35 e12 r35_12 => ?_
  have x12 : Ext w W12 := Ext.tr x11 e12
  have b35 : w.heap.size ≤ g35 := Nat.le_trans x11.size l35
  have f36_8 := (f24_7.ext e8)
  have f37_9 := (f36_8.ext e9)
  have f38_10 := (f37_9.ext e10)
  have f39_11 := (f38_10.ext e11)
  have f40_12 := (f39_11.ext e12)
  have f41_6 := (f15_5.ext e6)
  have f42_7 := (f41_6.ext e7)
  have f43_8 := (f42_7.ext e8)
  have f44_9 := (f43_8.ext e9)
  have f45_10 := (f44_9.ext e10)
  have f46_11 := (f45_10.ext e11)
  have f47_12 := (f46_11.ext e12)
  have f48_6 := ((CopyN.own hv12).ext e6)
  have f49_7 := (f48_6.ext e7)
  have f50_8 := (f49_7.ext e8)
  have f51_9 := (f50_8.ext e9)
  have f52_10 := (f51_9.ext e10)
  have f53_11 := (f52_10.ext e11)
  have f54_12 := (f53_11.ext e12)
  have y4_5 : Ext W4 W5 := (Rely.Ext.trans (Rely.Ext.refl W4) e5)
  refine seq_callR (fun v W' => v = .bool true ∧ Below w.heap.size W12 W') 23 #[.slice (some ⟨g35, 0, none⟩) 3 3] 67 rfl kj kj ((apart3 (l0 := fm) (l1 := text) (l2 := nonce) x12.size r35_12 (OwnN.v (OwnN.base x5.size f40_12)) (OwnN.v (OwnN.base x3.size f47_12)) (OwnN.v (OwnN.base x4.size f54_12)) (by rw [lfm]; omega) (by omega) (by omega) (own_apart (CopyN.own hv10) hu17_ y4_5.size) (own_apart (CopyN.own hv12) hu17_ (Rely.Ext.refl W5).size) (fun e => e.trans (own_apart (CopyN.own hv10) (CopyN.own hv12) (Rely.Ext.refl W4).size e.symm))).mono (by rintro e w' ⟨h1, h2⟩; exact ⟨_, h1, rfl, h2⟩)) fun v55 W13 h55 => ?_
  obtain ⟨rfl, l13⟩ := h55
  have x13 : Ext w W13 := Below.trans x12 l13
  refine seq_val (.bool true) 68 rfl kj kj ?_
  refine seq_val (.bool true) 2 rfl kj kj ?_
  refine seq_nil ?_
  refine hK23 _ _ ?_
  try clear hK23 K23
  refine wp_ret ?_
  repeat (first | with_reducible refine goR1 ?_ | with_reducible refine goR2 ?_)
  exact (show bodyPost _ _ _ .ret _ _ from ret1 (.bool true) rfl (res_tmp kj) ⟨rfl, x13⟩)
theorem lawMixes (key nonce text : List Int) (a_n a_t : Option Addr) (c_n c_t : Nat) (number : Int) (th tq : TypeId) (w : World) (hh : w.heap[1]? = some (.cells (ints .u32 [1634760805, 857760878, 2036477234, 1797285236]) th)) (hq : w.heap[0]? = some (.cells (ints .i64 [0, 4, 8, 12, 1, 5, 9, 13, 2, 6, 10, 14, 3, 7, 11, 15, 0, 5, 10, 15, 1, 6, 11, 12, 2, 7, 8, 13, 3, 4, 9, 14]) tq)) (hkl : key.length = 32) (hkb : AreBytes key) (hnb : AreBytes nonce) (htb : AreBytes text) (hn : RdK .u8 w.heap.size nonce (.slice a_n nonce.length c_n) w) (ht : RdK .u8 w.heap.size text (.slice a_t text.length c_t) w)  : Calls Tryd.prog 4 #[.agg (cat [ints .u8 key, #[.slice a_n nonce.length c_n], #[.int .i64 number], #[.slice a_t text.length c_t]])] w (Ret w (.bool true)) := by
  rcases Nat.lt_or_ge 1000 nonce.length with h | hs1
  · exact lawMixes_L key nonce text a_n a_t c_n c_t number th tq w hh hq hkl hkb hnb htb hn ht  h
  rcases Nat.lt_or_ge 1000 text.length with h | hs2
  · exact lawMixes_M key nonce text a_n a_t c_n c_t number th tq w hh hq hkl hkb hnb htb hn ht  hs1 h
  by_cases h : nonce.length = 12
  · rcases Int.lt_or_le number 0 with h1 | h1
    · exact lawMixes_B key nonce text a_n a_t c_n c_t number th tq w hh hq hkl hkb hnb htb hn ht  hs1 hs2 h h1
    rcases Int.lt_or_le 4294967295 number with h2 | h2
    · exact lawMixes_C key nonce text a_n a_t c_n c_t number th tq w hh hq hkl hkb hnb htb hn ht  hs1 hs2 h h1 h2
    obtain ⟨r, hr⟩ : ∃ r : Nat, number + (r : Int) = 4294967296 := ⟨(4294967296 - number).toNat, by omega⟩
    rcases Nat.lt_or_ge (64 * r) text.length with hf | hf
    · exact lawMixes_E key nonce text a_n a_t c_n c_t number th tq w hh hq hkl hkb hnb htb hn ht  hs1 hs2 h r hr h1 h2 hf
    · exact lawMixes_D key nonce text a_n a_t c_n c_t number th tq w hh hq hkl hkb hnb htb hn ht  hs1 hs2 h r hr h1 h2 hf
  · exact lawMixes_A key nonce text a_n a_t c_n c_t number th tq w hh hq hkl hkb hnb htb hn ht  hs1 hs2 h
theorem lawMixesF (key nonce text : List Int) (a_n a_t : Option Addr) (ln c_n lt c_t : Nat) (number : Int) (th tq : TypeId) (w : World) (hh : w.heap[1]? = some (.cells (ints .u32 [1634760805, 857760878, 2036477234, 1797285236]) th)) (hq : w.heap[0]? = some (.cells (ints .i64 [0, 4, 8, 12, 1, 5, 9, 13, 2, 6, 10, 14, 3, 7, 11, 15, 0, 5, 10, 15, 1, 6, 11, 12, 2, 7, 8, 13, 3, 4, 9, 14]) tq)) (hkl : key.length = 32) (hkb : AreBytes key) (hnb : AreBytes nonce) (htb : AreBytes text) (hn : RdK .u8 w.heap.size nonce (.slice a_n ln c_n) w) (ht : RdK .u8 w.heap.size text (.slice a_t lt c_t) w) (eln : nonce.length = ln) (elt : text.length = lt)  : Calls Tryd.prog 4 #[.agg ((key.map (Value.int .u8) ++ [Value.slice a_n ln c_n] ++ [Value.int .i64 number] ++ [Value.slice a_t lt c_t]).toArray)] w (Ret w (.bool true)) := by
  subst eln elt
  rw [cat_st]
  exact lawMixes key nonce text a_n a_t c_n c_t number th tq w hh hq hkl hkb hnb htb hn ht 

end Go.Proofs.YticjghmgbmjkiaaDoor.Cha
