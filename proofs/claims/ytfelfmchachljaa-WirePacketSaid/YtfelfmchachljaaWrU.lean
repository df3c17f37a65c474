/- The reference's PutPacket. -/
import Derived.Test.YtfelfmchachljaaWrS
import Derived.Test.YtfelfmchachljaaWkR
namespace Go.Proofs.Ytfelfmchachljaa.Wr
open Go Go.RowKit
open Go.Proofs.Ytfelfmchachljaa.Rely Go.Proofs.Ytfelfmchachljaa.Auto Go.Proofs.Ytfelfmchachljaa.Own Go.Proofs.Ytfelfmchachljaa.Sha
set_option linter.unusedVariables false
set_option linter.unusedSimpArgs false

open Go.Proofs.Ytfelfmchachljaa.Wk
set_option maxHeartbeats 4000000 in
theorem rPutPacket_A (grp : List Int) (ep fr no : Int) (sealed : List Int) (a_s : Option Addr) (c_s : Nat) (w : World) (hgl : grp.length = 32) (hgb : AreBytes grp) (hsl : sealed.length ≤ 1000000) (hsb : AreBytes sealed) (hs : RdK .u8 w.heap.size sealed (.slice a_s sealed.length c_s) w) (h1 : hgB ep fr = false) : Calls Try.prog 35 #[.agg (cat [ints .u8 (grp), #[.int .i64 ep], #[.int .i64 fr], #[.int .i64 no], #[.slice a_s sealed.length c_s]])] w (Ret w (.tuple #[.slice none 0 0, .bool false])) := by
  refine enter 40 [(0, .agg (cat [ints .u8 (grp), #[.int .i64 ep], #[.int .i64 fr], #[.int .i64 no], #[.slice a_s sealed.length c_s]]))] Try.func35 rfl rfl kj rfl ?_
  refine wp_seq_k fun K1 hK1 => ?_
  refine region_lit ?_
  refine seq_alloc (cat [ints .u8 (grp), #[.int .i64 ep], #[.int .i64 fr], #[.int .i64 no], #[.slice a_s sealed.length c_s]]) 81 1 rfl kj kj fun g2 W1 l2 e1 r2_1 => ?_
  have x1 : Ext w W1 := Ext.tr (Rely.Ext.refl w) e1
  have b2 : w.heap.size ≤ g2 := Nat.le_trans (Rely.Ext.refl w).size l2
  refine seq_val (.slice none 0 0) 2 rfl kj kj ?_
  refine seq_val (.bool false) 3 rfl kj kj ?_
  refine seq_nil ?_
  refine hK1 _ _ ?_
  try clear hK1 K1
  refine wp_seq_k fun K3 hK3 => ?_
  refine wp_seq_k fun K4 hK4 => ?_
  refine region_lit ?_
  refine seq_val (.pointer (some ⟨g2, 32, none⟩)) 4 rfl kj kj ?_
  refine seq_val (.int .i64 ep) 5 rfl kj (run_loadC1 3 _ g2 32 81 _ (.int .i64 ep) _ r2_1 rfl kj (cat_part [ints .u8 (grp)] [#[.int .i64 ep]] [#[.int .i64 fr], #[.int .i64 no], #[.slice a_s sealed.length c_s]] 32 ((ints_size _ _).trans hgl) 0 _ rfl) kj) ?_
  refine seq_val (.pointer (some ⟨g2, 33, none⟩)) 6 rfl kj kj ?_
  refine seq_val (.int .i64 fr) 7 rfl kj (run_loadC1 3 _ g2 33 81 _ (.int .i64 fr) _ r2_1 rfl kj (cat_part [ints .u8 (grp), #[.int .i64 ep]] [#[.int .i64 fr]] [#[.int .i64 no], #[.slice a_s sealed.length c_s]] 33 (by rw [cat_cons, cat_cons]; simp only [Array.size_append, cat, ((ints_size _ _).trans hgl)]; rfl) 0 _ rfl) kj) ?_
  refine seq_call (.bool false) 64 #[.int .i64 ep, .int .i64 fr] 8 rfl kj kj ((hgE ep fr _ h1) _) fun W2 e2 => ?_
  have x2 : Ext w W2 := Ext.tr x1 e2
  refine seq_val (.bool true) 9 rfl kj kj ?_
  refine seq_val (.bool true) 10 rfl kj kj ?_
  refine seq_skip 11 rfl kj ?_
  refine seq_skip 12 rfl kj ?_
  refine seq_skip 13 rfl kj ?_
  refine seq_skip 14 rfl kj ?_
  refine seq_val (.bool true) 15 rfl kj kj ?_
  refine seq_val (.bool true) 16 rfl kj kj ?_
  refine seq_skip 17 rfl kj ?_
  refine seq_skip 18 rfl kj ?_
  refine seq_skip 19 rfl kj ?_
  refine seq_skip 20 rfl kj ?_
  refine seq_val (.bool true) 21 rfl kj kj ?_
  refine seq_nil ?_
  refine hK4 _ _ ?_
  try clear hK4 K4
  refine cond_true kj ?_
  refine wp_seq_k fun K5 hK5 => ?_
  refine region_lit ?_
  refine seq_val (.slice none 0 0) 2 rfl kj kj ?_
  refine seq_val (.bool false) 3 rfl kj kj ?_
  refine seq_nil ?_
  refine hK5 _ _ ?_
  try clear hK5 K5
  refine wp_ret ?_
  repeat (first | with_reducible refine goR1 ?_ | with_reducible refine goR2 ?_)
  exact (show bodyPost _ _ _ .ret _ _ from ret2 (.slice none 0 0) (.bool false) rfl (res_tmp kj) (res_tmp kj) ⟨rfl, x2⟩)
set_option maxHeartbeats 4000000 in
theorem rPutPacket_B (grp : List Int) (ep fr no : Int) (sealed : List Int) (a_s : Option Addr) (c_s : Nat) (w : World) (hgl : grp.length = 32) (hgb : AreBytes grp) (hsl : sealed.length ≤ 1000000) (hsb : AreBytes sealed) (hs : RdK .u8 w.heap.size sealed (.slice a_s sealed.length c_s) w) (h1 : hgB ep fr = true) (h2 : inB no 4294967295 = false) : Calls Try.prog 35 #[.agg (cat [ints .u8 (grp), #[.int .i64 ep], #[.int .i64 fr], #[.int .i64 no], #[.slice a_s sealed.length c_s]])] w (Ret w (.tuple #[.slice none 0 0, .bool false])) := by
  refine enter 40 [(0, .agg (cat [ints .u8 (grp), #[.int .i64 ep], #[.int .i64 fr], #[.int .i64 no], #[.slice a_s sealed.length c_s]]))] Try.func35 rfl rfl kj rfl ?_
  refine wp_seq_k fun K1 hK1 => ?_
  refine region_lit ?_
  refine seq_alloc (cat [ints .u8 (grp), #[.int .i64 ep], #[.int .i64 fr], #[.int .i64 no], #[.slice a_s sealed.length c_s]]) 81 1 rfl kj kj fun g2 W1 l2 e1 r2_1 => ?_
  have x1 : Ext w W1 := Ext.tr (Rely.Ext.refl w) e1
  have b2 : w.heap.size ≤ g2 := Nat.le_trans (Rely.Ext.refl w).size l2
  refine seq_val (.slice none 0 0) 2 rfl kj kj ?_
  refine seq_val (.bool false) 3 rfl kj kj ?_
  refine seq_nil ?_
  refine hK1 _ _ ?_
  try clear hK1 K1
  refine wp_seq_k fun K3 hK3 => ?_
  refine wp_seq_k fun K4 hK4 => ?_
  refine region_lit ?_
  refine seq_val (.pointer (some ⟨g2, 32, none⟩)) 4 rfl kj kj ?_
  refine seq_val (.int .i64 ep) 5 rfl kj (run_loadC1 3 _ g2 32 81 _ (.int .i64 ep) _ r2_1 rfl kj (cat_part [ints .u8 (grp)] [#[.int .i64 ep]] [#[.int .i64 fr], #[.int .i64 no], #[.slice a_s sealed.length c_s]] 32 ((ints_size _ _).trans hgl) 0 _ rfl) kj) ?_
  refine seq_val (.pointer (some ⟨g2, 33, none⟩)) 6 rfl kj kj ?_
  refine seq_val (.int .i64 fr) 7 rfl kj (run_loadC1 3 _ g2 33 81 _ (.int .i64 fr) _ r2_1 rfl kj (cat_part [ints .u8 (grp), #[.int .i64 ep]] [#[.int .i64 fr]] [#[.int .i64 no], #[.slice a_s sealed.length c_s]] 33 (by rw [cat_cons, cat_cons]; simp only [Array.size_append, cat, ((ints_size _ _).trans hgl)]; rfl) 0 _ rfl) kj) ?_
  refine seq_call (.bool true) 64 #[.int .i64 ep, .int .i64 fr] 8 rfl kj kj ((hgE ep fr _ h1) _) fun W2 e2 => ?_
  have x2 : Ext w W2 := Ext.tr x1 e2
  refine seq_val (.bool false) 9 rfl kj kj ?_
  refine seq_val (.bool false) 10 rfl kj kj ?_
  refine seq_val (.pointer (some ⟨g2, 34, none⟩)) 11 rfl kj kj ?_
  have r2_2 := (row_ext r2_1 e2)
  refine seq_val (.int .i64 no) 12 rfl kj (run_loadC1 3 _ g2 34 81 _ (.int .i64 no) _ r2_2 rfl kj (cat_part [ints .u8 (grp), #[.int .i64 ep], #[.int .i64 fr]] [#[.int .i64 no]] [#[.slice a_s sealed.length c_s]] 34 (by rw [cat_cons, cat_cons, cat_cons]; simp only [Array.size_append, cat, ((ints_size _ _).trans hgl)]; rfl) 0 _ rfl) kj) ?_
  refine seq_call (.bool false) 77 #[.int .i64 no, .int .i64 4294967295] 13 rfl kj kj ((inE no 4294967295 _ h2) _) fun W3 e3 => ?_
  have x3 : Ext w W3 := Ext.tr x2 e3
  refine seq_val (.bool true) 14 rfl kj kj ?_
  refine seq_val (.bool true) 15 rfl kj kj ?_
  refine seq_val (.bool true) 16 rfl kj kj ?_
  refine seq_skip 17 rfl kj ?_
  refine seq_skip 18 rfl kj ?_
  refine seq_skip 19 rfl kj ?_
  refine seq_skip 20 rfl kj ?_
  refine seq_val (.bool true) 21 rfl kj kj ?_
  refine seq_nil ?_
  refine hK4 _ _ ?_
  try clear hK4 K4
  refine cond_true kj ?_
  refine wp_seq_k fun K5 hK5 => ?_
  refine region_lit ?_
  refine seq_val (.slice none 0 0) 2 rfl kj kj ?_
  refine seq_val (.bool false) 3 rfl kj kj ?_
  refine seq_nil ?_
  refine hK5 _ _ ?_
  try clear hK5 K5
  refine wp_ret ?_
  repeat (first | with_reducible refine goR1 ?_ | with_reducible refine goR2 ?_)
  exact (show bodyPost _ _ _ .ret _ _ from ret2 (.slice none 0 0) (.bool false) rfl (res_tmp kj) (res_tmp kj) ⟨rfl, x3⟩)
set_option maxHeartbeats 4000000 in
theorem rPutPacket_C (grp : List Int) (ep fr no : Int) (sealed : List Int) (a_s : Option Addr) (c_s : Nat) (w : World) (hgl : grp.length = 32) (hgb : AreBytes grp) (hsl : sealed.length ≤ 1000000) (hsb : AreBytes sealed) (hs : RdK .u8 w.heap.size sealed (.slice a_s sealed.length c_s) w) (h1 : hgB ep fr = true) (h2 : inB no 4294967295 = true) (h3 : 65535 < sealed.length) : Calls Try.prog 35 #[.agg (cat [ints .u8 (grp), #[.int .i64 ep], #[.int .i64 fr], #[.int .i64 no], #[.slice a_s sealed.length c_s]])] w (Ret w (.tuple #[.slice none 0 0, .bool false])) := by
  refine enter 40 [(0, .agg (cat [ints .u8 (grp), #[.int .i64 ep], #[.int .i64 fr], #[.int .i64 no], #[.slice a_s sealed.length c_s]]))] Try.func35 rfl rfl kj rfl ?_
  refine wp_seq_k fun K1 hK1 => ?_
  refine region_lit ?_
  refine seq_alloc (cat [ints .u8 (grp), #[.int .i64 ep], #[.int .i64 fr], #[.int .i64 no], #[.slice a_s sealed.length c_s]]) 81 1 rfl kj kj fun g2 W1 l2 e1 r2_1 => ?_
  have x1 : Ext w W1 := Ext.tr (Rely.Ext.refl w) e1
  have b2 : w.heap.size ≤ g2 := Nat.le_trans (Rely.Ext.refl w).size l2
  refine seq_val (.slice none 0 0) 2 rfl kj kj ?_
  refine seq_val (.bool false) 3 rfl kj kj ?_
  refine seq_nil ?_
  refine hK1 _ _ ?_
  try clear hK1 K1
  refine wp_seq_k fun K3 hK3 => ?_
  refine wp_seq_k fun K4 hK4 => ?_
  refine region_lit ?_
  refine seq_val (.pointer (some ⟨g2, 32, none⟩)) 4 rfl kj kj ?_
  refine seq_val (.int .i64 ep) 5 rfl kj (run_loadC1 3 _ g2 32 81 _ (.int .i64 ep) _ r2_1 rfl kj (cat_part [ints .u8 (grp)] [#[.int .i64 ep]] [#[.int .i64 fr], #[.int .i64 no], #[.slice a_s sealed.length c_s]] 32 ((ints_size _ _).trans hgl) 0 _ rfl) kj) ?_
  refine seq_val (.pointer (some ⟨g2, 33, none⟩)) 6 rfl kj kj ?_
  refine seq_val (.int .i64 fr) 7 rfl kj (run_loadC1 3 _ g2 33 81 _ (.int .i64 fr) _ r2_1 rfl kj (cat_part [ints .u8 (grp), #[.int .i64 ep]] [#[.int .i64 fr]] [#[.int .i64 no], #[.slice a_s sealed.length c_s]] 33 (by rw [cat_cons, cat_cons]; simp only [Array.size_append, cat, ((ints_size _ _).trans hgl)]; rfl) 0 _ rfl) kj) ?_
  refine seq_call (.bool true) 64 #[.int .i64 ep, .int .i64 fr] 8 rfl kj kj ((hgE ep fr _ h1) _) fun W2 e2 => ?_
  have x2 : Ext w W2 := Ext.tr x1 e2
  refine seq_val (.bool false) 9 rfl kj kj ?_
  refine seq_val (.bool false) 10 rfl kj kj ?_
  refine seq_val (.pointer (some ⟨g2, 34, none⟩)) 11 rfl kj kj ?_
  have r2_2 := (row_ext r2_1 e2)
  refine seq_val (.int .i64 no) 12 rfl kj (run_loadC1 3 _ g2 34 81 _ (.int .i64 no) _ r2_2 rfl kj (cat_part [ints .u8 (grp), #[.int .i64 ep], #[.int .i64 fr]] [#[.int .i64 no]] [#[.slice a_s sealed.length c_s]] 34 (by rw [cat_cons, cat_cons, cat_cons]; simp only [Array.size_append, cat, ((ints_size _ _).trans hgl)]; rfl) 0 _ rfl) kj) ?_
  refine seq_call (.bool true) 77 #[.int .i64 no, .int .i64 4294967295] 13 rfl kj kj ((inE no 4294967295 _ h2) _) fun W3 e3 => ?_
  have x3 : Ext w W3 := Ext.tr x2 e3
  refine seq_val (.bool false) 14 rfl kj kj ?_
  refine seq_val (.bool false) 15 rfl kj kj ?_
  refine seq_val (.bool false) 16 rfl kj kj ?_
  refine seq_val (.pointer (some ⟨g2, 35, none⟩)) 17 rfl kj kj ?_
  have r2_3 := (row_ext r2_2 e3)
  refine seq_val (.slice a_s sealed.length c_s) 18 rfl kj (run_loadC1 26 _ g2 35 81 _ (.slice a_s sealed.length c_s) _ r2_3 rfl kj (cat_part [ints .u8 (grp), #[.int .i64 ep], #[.int .i64 fr], #[.int .i64 no]] [#[.slice a_s sealed.length c_s]] [] 35 (by rw [cat_cons, cat_cons, cat_cons, cat_cons]; simp only [Array.size_append, cat, ((ints_size _ _).trans hgl)]; rfl) 0 _ rfl) kj) ?_
  refine seq_val (.int .i64 ((sealed.length : Nat) : Int)) 19 rfl kj kj ?_
  refine seq_val (.bool true) 20 rfl kj (run_eq (u := .bool (decide (((sealed.length : Nat) : Int) > 65535))) kj (congrArg Value.bool (decide_eq_true (by omega)))) ?_
  refine seq_val (.bool true) 21 rfl kj kj ?_
  refine seq_nil ?_
  refine hK4 _ _ ?_
  try clear hK4 K4
  refine cond_true kj ?_
  refine wp_seq_k fun K5 hK5 => ?_
  refine region_lit ?_
  refine seq_val (.slice none 0 0) 2 rfl kj kj ?_
  refine seq_val (.bool false) 3 rfl kj kj ?_
  refine seq_nil ?_
  refine hK5 _ _ ?_
  try clear hK5 K5
  refine wp_ret ?_
  repeat (first | with_reducible refine goR1 ?_ | with_reducible refine goR2 ?_)
  exact (show bodyPost _ _ _ .ret _ _ from ret2 (.slice none 0 0) (.bool false) rfl (res_tmp kj) (res_tmp kj) ⟨rfl, x3⟩)
set_option maxHeartbeats 4000000 in
theorem rPutPacket_N (grp : List Int) (ep fr no : Int) (sealed : List Int) (a_s : Option Addr) (c_s : Nat) (w : World) (hgl : grp.length = 32) (hgb : AreBytes grp) (hsl : sealed.length ≤ 1000000) (hsb : AreBytes sealed) (hs : RdK .u8 w.heap.size sealed (.slice a_s sealed.length c_s) w) (h1 : hgB ep fr = true) (h2 : inB no 4294967295 = true) (h3 : sealed.length ≤ 65535) (hf : 65536 < ((headV grp ep fr ++ beV no 4) ++ rowV sealed).length) : Calls Try.prog 35 #[.agg (cat [ints .u8 (grp), #[.int .i64 ep], #[.int .i64 fr], #[.int .i64 no], #[.slice a_s sealed.length c_s]])] w (Ret w (.tuple #[.slice none 0 0, .bool false])) := by
  have hep := inB_rng (show inB ep 4294967295 = true by unfold hgB at h1; simp only [Bool.and_eq_true] at h1; exact h1.1)
  have hno := inB_rng h2
  refine enter 40 [(0, .agg (cat [ints .u8 (grp), #[.int .i64 ep], #[.int .i64 fr], #[.int .i64 no], #[.slice a_s sealed.length c_s]]))] Try.func35 rfl rfl kj rfl ?_
  refine wp_seq_k fun K1 hK1 => ?_
  refine region_lit ?_
  refine seq_alloc (cat [ints .u8 (grp), #[.int .i64 ep], #[.int .i64 fr], #[.int .i64 no], #[.slice a_s sealed.length c_s]]) 81 1 rfl kj kj fun g2 W1 l2 e1 r2_1 => ?_
  have x1 : Ext w W1 := Ext.tr (Rely.Ext.refl w) e1
  have b2 : w.heap.size ≤ g2 := Nat.le_trans (Rely.Ext.refl w).size l2
  refine seq_val (.slice none 0 0) 2 rfl kj kj ?_
  refine seq_val (.bool false) 3 rfl kj kj ?_
  refine seq_nil ?_
  refine hK1 _ _ ?_
  try clear hK1 K1
  refine wp_seq_k fun K3 hK3 => ?_
  refine wp_seq_k fun K4 hK4 => ?_
  refine region_lit ?_
  refine seq_val (.pointer (some ⟨g2, 32, none⟩)) 4 rfl kj kj ?_
  refine seq_val (.int .i64 ep) 5 rfl kj (run_loadC1 3 _ g2 32 81 _ (.int .i64 ep) _ r2_1 rfl kj (cat_part [ints .u8 (grp)] [#[.int .i64 ep]] [#[.int .i64 fr], #[.int .i64 no], #[.slice a_s sealed.length c_s]] 32 ((ints_size _ _).trans hgl) 0 _ rfl) kj) ?_
  refine seq_val (.pointer (some ⟨g2, 33, none⟩)) 6 rfl kj kj ?_
  refine seq_val (.int .i64 fr) 7 rfl kj (run_loadC1 3 _ g2 33 81 _ (.int .i64 fr) _ r2_1 rfl kj (cat_part [ints .u8 (grp), #[.int .i64 ep]] [#[.int .i64 fr]] [#[.int .i64 no], #[.slice a_s sealed.length c_s]] 33 (by rw [cat_cons, cat_cons]; simp only [Array.size_append, cat, ((ints_size _ _).trans hgl)]; rfl) 0 _ rfl) kj) ?_
  refine seq_call (.bool true) 64 #[.int .i64 ep, .int .i64 fr] 8 rfl kj kj ((hgE ep fr _ h1) _) fun W2 e2 => ?_
  have x2 : Ext w W2 := Ext.tr x1 e2
  refine seq_val (.bool false) 9 rfl kj kj ?_
  refine seq_val (.bool false) 10 rfl kj kj ?_
  refine seq_val (.pointer (some ⟨g2, 34, none⟩)) 11 rfl kj kj ?_
  have r2_2 := (row_ext r2_1 e2)
  refine seq_val (.int .i64 no) 12 rfl kj (run_loadC1 3 _ g2 34 81 _ (.int .i64 no) _ r2_2 rfl kj (cat_part [ints .u8 (grp), #[.int .i64 ep], #[.int .i64 fr]] [#[.int .i64 no]] [#[.slice a_s sealed.length c_s]] 34 (by rw [cat_cons, cat_cons, cat_cons]; simp only [Array.size_append, cat, ((ints_size _ _).trans hgl)]; rfl) 0 _ rfl) kj) ?_
  refine seq_call (.bool true) 77 #[.int .i64 no, .int .i64 4294967295] 13 rfl kj kj ((inE no 4294967295 _ h2) _) fun W3 e3 => ?_
  have x3 : Ext w W3 := Ext.tr x2 e3
  refine seq_val (.bool false) 14 rfl kj kj ?_
  refine seq_val (.bool false) 15 rfl kj kj ?_
  refine seq_val (.bool false) 16 rfl kj kj ?_
  refine seq_val (.pointer (some ⟨g2, 35, none⟩)) 17 rfl kj kj ?_
  have r2_3 := (row_ext r2_2 e3)
  refine seq_val (.slice a_s sealed.length c_s) 18 rfl kj (run_loadC1 26 _ g2 35 81 _ (.slice a_s sealed.length c_s) _ r2_3 rfl kj (cat_part [ints .u8 (grp), #[.int .i64 ep], #[.int .i64 fr], #[.int .i64 no]] [#[.slice a_s sealed.length c_s]] [] 35 (by rw [cat_cons, cat_cons, cat_cons, cat_cons]; simp only [Array.size_append, cat, ((ints_size _ _).trans hgl)]; rfl) 0 _ rfl) kj) ?_
  refine seq_val (.int .i64 ((sealed.length : Nat) : Int)) 19 rfl kj kj ?_
  refine seq_val (.bool false) 20 rfl kj (run_eq (u := .bool (decide (((sealed.length : Nat) : Int) > 65535))) kj (congrArg Value.bool (decide_eq_false (by omega)))) ?_
  refine seq_val (.bool false) 21 rfl kj kj ?_
  refine seq_nil ?_
  refine hK4 _ _ ?_
  try clear hK4 K4
  refine cond_false kj ?_
  refine wp_skip ?_
  refine hK3 _ _ ?_
  try clear hK3 K3
  refine wp_seq_k fun K5 hK5 => ?_
  refine region_walkB kj fun W4 e4 => ?_
  have x4 : Ext w W4 := Ext.tr x3 e4
  refine wb_val 0 (.pointer (some ⟨g2, 0, none⟩)) 22 rfl rfl kj kj (fun _ _ _ h => h) (fun W hR => by kernel_rfl) ?_
  have r2_4 := (row_ext r2_3 e4)
  refine wb_val 1 (.agg (ints .u8 (grp))) 23 rfl rfl kj kj (fun _ _ _ h => h) (fun W hR => (run_load_part 39 _ g2 0 81 _ _ _ (row_ext r2_4 hR) rfl kj (cat_part [] [ints .u8 (grp)] [#[.int .i64 ep], #[.int .i64 fr], #[.int .i64 no], #[.slice a_s sealed.length c_s]] 0 kj) kj (isz (n := 32) kj ((ints_size _ _).trans hgl)))) ?_
  refine wb_val 2 (.pointer (some ⟨g2, 32, none⟩)) 24 rfl rfl kj kj (fun _ _ _ h => h) (fun W hR => by kernel_rfl) ?_
  refine wb_val 3 (.int .i64 ep) 25 rfl rfl kj kj (fun _ _ _ h => h) (fun W hR => (run_loadC1 3 _ g2 32 81 _ (.int .i64 ep) _ (row_ext r2_4 hR) rfl kj (cat_part [ints .u8 (grp)] [#[.int .i64 ep]] [#[.int .i64 fr], #[.int .i64 no], #[.slice a_s sealed.length c_s]] 32 ((ints_size _ _).trans hgl) 0 _ rfl) kj)) ?_
  refine wb_val 4 (.pointer (some ⟨g2, 33, none⟩)) 26 rfl rfl kj kj (fun _ _ _ h => h) (fun W hR => by kernel_rfl) ?_
  refine wb_val 5 (.int .i64 fr) 27 rfl rfl kj kj (fun _ _ _ h => h) (fun W hR => (run_loadC1 3 _ g2 33 81 _ (.int .i64 fr) _ (row_ext r2_4 hR) rfl kj (cat_part [ints .u8 (grp), #[.int .i64 ep]] [#[.int .i64 fr]] [#[.int .i64 no], #[.slice a_s sealed.length c_s]] 33 (by rw [cat_cons, cat_cons]; simp only [Array.size_append, cat, ((ints_size _ _).trans hgl)]; rfl) 0 _ rfl) kj)) ?_
  refine wb_val 7 (.pointer (some ⟨g2, 34, none⟩)) 29 rfl rfl kj kj (fun _ _ _ h => h) (fun W hR => by kernel_rfl) ?_
  refine wb_val 8 (.int .i64 no) 30 rfl rfl kj kj (fun _ _ _ h => h) (fun W hR => (run_loadC1 3 _ g2 34 81 _ (.int .i64 no) _ (row_ext r2_4 hR) rfl kj (cat_part [ints .u8 (grp), #[.int .i64 ep], #[.int .i64 fr]] [#[.int .i64 no]] [#[.slice a_s sealed.length c_s]] 34 (by rw [cat_cons, cat_cons, cat_cons]; simp only [Array.size_append, cat, ((ints_size _ _).trans hgl)]; rfl) 0 _ rfl) kj)) ?_
  refine wb_val 11 (.pointer (some ⟨g2, 35, none⟩)) 33 rfl rfl kj kj (fun _ _ _ h => h) (fun W hR => by kernel_rfl) ?_
  refine wb_val 12 (.slice a_s sealed.length c_s) 34 rfl rfl kj kj (fun _ _ _ h => h) (fun W hR => (run_loadC1 26 _ g2 35 81 _ (.slice a_s sealed.length c_s) _ (row_ext r2_4 hR) rfl kj (cat_part [ints .u8 (grp), #[.int .i64 ep], #[.int .i64 fr], #[.int .i64 no]] [#[.slice a_s sealed.length c_s]] [] 35 (by rw [cat_cons, cat_cons, cat_cons, cat_cons]; simp only [Array.size_append, cat, ((ints_size _ _).trans hgl)]; rfl) 0 _ rfl) kj)) ?_
  refine wb_one 6 kj ?_
  refine wo_callR rfl (fun v W' => (OwnN .u8 5 W4.heap.size (headV grp ep fr)) v W' ∧ Ext W4 W') 66 #[.agg (ints .u8 (grp)), .int .i64 ep, .int .i64 fr] 28 rfl kj kj ((rheadC grp ep fr _ hgl hep).mono (by rintro e w' ⟨v, rfl, e1, hv⟩; exact ⟨v, rfl, hv, e1⟩)) (fun _ _ h => Rely.Ext.trans (Rely.Ext.refl W4) h.2) fun vv6 W5 hh6 => ?_
  obtain ⟨hv6, e5⟩ := hh6
  have x5 : Ext w W5 := Ext.tr x4 e5
  obtain ⟨a28_, c28_, rfl, -⟩ := id (OwnN.rd hv6)
  refine wb_one 9 kj ?_
  have y4_5 : Ext W4 W5 := (Rely.Ext.trans (Rely.Ext.refl W4) e5)
  refine wo_callR rfl (fun v W' => (OwnN .u8 5 W5.heap.size (beV no 4)) v W' ∧ Ext W5 W') 72 #[.int .i64 no, .int .i64 4] 31 rfl kj kj ((rnumC no 4 _ hno.1 (by omega) (by decide)).mono (by rintro e w' ⟨v, rfl, e1, hv⟩; exact ⟨v, rfl, hv, e1⟩)) (fun _ _ h => Rely.Ext.trans y4_5 h.2) fun vv7 W6 hh7 => ?_
  obtain ⟨hv7, e6⟩ := hh7
  have x6 : Ext w W6 := Ext.tr x5 e6
  obtain ⟨a31_, c31_, rfl, -⟩ := id (OwnN.rd hv7)
  refine wb_one 10 kj ?_
  have f8_6 := (hv6.ext e6)
  have y4_6 : Ext W4 W6 := (Rely.Ext.trans y4_5 e6)
  refine wo_appendN (k := .u8) (T := 5) (xs := headV grp ep fr) (ys := beV no 4) (V := W4) 1 (.tmp 28) (.tmp 31) 26 rfl kj kj (by decide) 32 rfl 10 rfl kj kj kj f8_6 (OwnN.rd hv7) (by simp only [List.length_append, rowV_len, beV_len, List.length_cons, List.length_nil, headV_len ep fr hgl]; omega) y4_6 fun zz1 W7 f9 y7 l7 => ?_
  have x7 : Ext w W7 := Ext.low x6 l7 x4.size
  obtain ⟨ap1_, cp1_, rfl, -⟩ := id (OwnN.rd f9)
  refine wb_one 13 kj ?_
  refine wo_callR rfl (fun v W' => (OwnN .u8 5 W7.heap.size (rowV sealed)) v W' ∧ Ext W7 W') 78 #[.slice a_s sealed.length c_s] 35 rfl kj kj ((rrowC sealed _ _ _ (by omega) (RdK.ext hs x7)).mono (by rintro e w' ⟨v, rfl, e1, hv⟩; exact ⟨v, rfl, hv, e1⟩)) (fun _ _ h => Rely.Ext.trans y7 h.2) fun vv11 W8 hh11 => ?_
  obtain ⟨hv11, e8⟩ := hh11
  have x8 : Ext w W8 := Ext.tr x7 e8
  obtain ⟨a35_, c35_, rfl, -⟩ := id (OwnN.rd hv11)
  refine wb_one 14 kj ?_
  have f12_8 := (f9.ext e8)
  have y4_8 : Ext W4 W8 := (Rely.Ext.trans y7 e8)
  refine wo_appendN (k := .u8) (T := 5) (xs := headV grp ep fr ++ beV no 4) (ys := rowV sealed) (V := W4) 1 (.tmp 32) (.tmp 35) 26 rfl kj kj (by decide) 36 rfl 14 rfl kj kj kj f12_8 (OwnN.rd hv11) (by simp only [List.length_append, rowV_len, beV_len, List.length_cons, List.length_nil, headV_len ep fr hgl]; omega) y4_8 fun zz2 W9 f13 y9 l9 => ?_
  have x9 : Ext w W9 := Ext.low x8 l9 x4.size
  obtain ⟨ap2_, cp2_, rfl, -⟩ := id (OwnN.rd f13)
  refine wb_one 15 kj ?_
  refine wo_callR rfl (fun v W' => v = (.tuple #[.slice none 0 0, .bool false]) ∧ Ext W9 W') 52 #[.slice ap2_ ((headV grp ep fr ++ beV no 4 ++ rowV sealed).length) cp2_] 37 rfl kj kj (((fun w => fits_N (headV grp ep fr ++ beV no 4 ++ rowV sealed) _ _ w hf) _).mono fun e w' h => ⟨_, h.1, rfl, h.2⟩) (fun _ _ h => Rely.Ext.trans y9 h.2) fun vv15 W10 hh15 => ?_
  obtain ⟨rfl, e10⟩ := hh15
  have x10 : Ext w W10 := Ext.tr x9 e10
  refine wb_val 16 (.slice none 0 0) 38 rfl rfl kj kj (fun _ _ _ h => h) (fun W hR => by kernel_rfl) ?_
  refine wb_val 17 (.bool false) 39 rfl rfl kj kj (fun _ _ _ h => h) (fun W hR => by kernel_rfl) ?_
  refine wb_val 18 (.slice none 0 0) 2 rfl rfl kj kj (fun _ _ _ h => h) (fun W hR => by kernel_rfl) ?_
  refine wb_val 19 (.bool false) 3 rfl rfl kj kj (fun _ _ _ h => h) (fun W hR => by kernel_rfl) ?_
  refine wb_nil kj ?_
  refine hK5 _ _ ?_
  try clear hK5 K5
  refine wp_ret ?_
  repeat (first | with_reducible refine goR1 ?_ | with_reducible refine goR2 ?_)
  exact (show bodyPost _ _ _ .ret _ _ from ret2 (.slice none 0 0) (.bool false) rfl (res_tmp kj) (res_tmp kj) ⟨rfl, x10⟩)
set_option maxHeartbeats 4000000 in
theorem rPutPacket_S (grp : List Int) (ep fr no : Int) (sealed : List Int) (a_s : Option Addr) (c_s : Nat) (w : World) (hgl : grp.length = 32) (hgb : AreBytes grp) (hsl : sealed.length ≤ 1000000) (hsb : AreBytes sealed) (hs : RdK .u8 w.heap.size sealed (.slice a_s sealed.length c_s) w) (h1 : hgB ep fr = true) (h2 : inB no 4294967295 = true) (h3 : sealed.length ≤ 65535) (hf : ((headV grp ep fr ++ beV no 4) ++ rowV sealed).length ≤ 65536) : Calls Try.prog 35 #[.agg (cat [ints .u8 (grp), #[.int .i64 ep], #[.int .i64 fr], #[.int .i64 no], #[.slice a_s sealed.length c_s]])] w (Gives w (fun v W => ∃ u, v = .tuple #[u, .bool true] ∧ OwnN .u8 5 w.heap.size ((headV grp ep fr ++ beV no 4) ++ rowV sealed) u W)) := by
  have hep := inB_rng (show inB ep 4294967295 = true by unfold hgB at h1; simp only [Bool.and_eq_true] at h1; exact h1.1)
  have hno := inB_rng h2
  refine enter 40 [(0, .agg (cat [ints .u8 (grp), #[.int .i64 ep], #[.int .i64 fr], #[.int .i64 no], #[.slice a_s sealed.length c_s]]))] Try.func35 rfl rfl kj rfl ?_
  refine wp_seq_k fun K1 hK1 => ?_
  refine region_lit ?_
  refine seq_alloc (cat [ints .u8 (grp), #[.int .i64 ep], #[.int .i64 fr], #[.int .i64 no], #[.slice a_s sealed.length c_s]]) 81 1 rfl kj kj fun g2 W1 l2 e1 r2_1 => ?_
  have x1 : Ext w W1 := Ext.tr (Rely.Ext.refl w) e1
  have b2 : w.heap.size ≤ g2 := Nat.le_trans (Rely.Ext.refl w).size l2
  refine seq_val (.slice none 0 0) 2 rfl kj kj ?_
  refine seq_val (.bool false) 3 rfl kj kj ?_
  refine seq_nil ?_
  refine hK1 _ _ ?_
  try clear hK1 K1
  refine wp_seq_k fun K3 hK3 => ?_
  refine wp_seq_k fun K4 hK4 => ?_
  refine region_lit ?_
  refine seq_val (.pointer (some ⟨g2, 32, none⟩)) 4 rfl kj kj ?_
  refine seq_val (.int .i64 ep) 5 rfl kj (run_loadC1 3 _ g2 32 81 _ (.int .i64 ep) _ r2_1 rfl kj (cat_part [ints .u8 (grp)] [#[.int .i64 ep]] [#[.int .i64 fr], #[.int .i64 no], #[.slice a_s sealed.length c_s]] 32 ((ints_size _ _).trans hgl) 0 _ rfl) kj) ?_
  refine seq_val (.pointer (some ⟨g2, 33, none⟩)) 6 rfl kj kj ?_
  refine seq_val (.int .i64 fr) 7 rfl kj (run_loadC1 3 _ g2 33 81 _ (.int .i64 fr) _ r2_1 rfl kj (cat_part [ints .u8 (grp), #[.int .i64 ep]] [#[.int .i64 fr]] [#[.int .i64 no], #[.slice a_s sealed.length c_s]] 33 (by rw [cat_cons, cat_cons]; simp only [Array.size_append, cat, ((ints_size _ _).trans hgl)]; rfl) 0 _ rfl) kj) ?_
  refine seq_call (.bool true) 64 #[.int .i64 ep, .int .i64 fr] 8 rfl kj kj ((hgE ep fr _ h1) _) fun W2 e2 => ?_
  have x2 : Ext w W2 := Ext.tr x1 e2
  refine seq_val (.bool false) 9 rfl kj kj ?_
  refine seq_val (.bool false) 10 rfl kj kj ?_
  refine seq_val (.pointer (some ⟨g2, 34, none⟩)) 11 rfl kj kj ?_
  have r2_2 := (row_ext r2_1 e2)
  refine seq_val (.int .i64 no) 12 rfl kj (run_loadC1 3 _ g2 34 81 _ (.int .i64 no) _ r2_2 rfl kj (cat_part [ints .u8 (grp), #[.int .i64 ep], #[.int .i64 fr]] [#[.int .i64 no]] [#[.slice a_s sealed.length c_s]] 34 (by rw [cat_cons, cat_cons, cat_cons]; simp only [Array.size_append, cat, ((ints_size _ _).trans hgl)]; rfl) 0 _ rfl) kj) ?_
  refine seq_call (.bool true) 77 #[.int .i64 no, .int .i64 4294967295] 13 rfl kj kj ((inE no 4294967295 _ h2) _) fun W3 e3 => ?_
  have x3 : Ext w W3 := Ext.tr x2 e3
  refine seq_val (.bool false) 14 rfl kj kj ?_
  refine seq_val (.bool false) 15 rfl kj kj ?_
  refine seq_val (.bool false) 16 rfl kj kj ?_
  refine seq_val (.pointer (some ⟨g2, 35, none⟩)) 17 rfl kj kj ?_
  have r2_3 := (row_ext r2_2 e3)
  refine seq_val (.slice a_s sealed.length c_s) 18 rfl kj (run_loadC1 26 _ g2 35 81 _ (.slice a_s sealed.length c_s) _ r2_3 rfl kj (cat_part [ints .u8 (grp), #[.int .i64 ep], #[.int .i64 fr], #[.int .i64 no]] [#[.slice a_s sealed.length c_s]] [] 35 (by rw [cat_cons, cat_cons, cat_cons, cat_cons]; simp only [Array.size_append, cat, ((ints_size _ _).trans hgl)]; rfl) 0 _ rfl) kj) ?_
  refine seq_val (.int .i64 ((sealed.length : Nat) : Int)) 19 rfl kj kj ?_
  refine seq_val (.bool false) 20 rfl kj (run_eq (u := .bool (decide (((sealed.length : Nat) : Int) > 65535))) kj (congrArg Value.bool (decide_eq_false (by omega)))) ?_
  refine seq_val (.bool false) 21 rfl kj kj ?_
  refine seq_nil ?_
  refine hK4 _ _ ?_
  try clear hK4 K4
  refine cond_false kj ?_
  refine wp_skip ?_
  refine hK3 _ _ ?_
  try clear hK3 K3
  refine wp_seq_k fun K5 hK5 => ?_
  refine region_walkB kj fun W4 e4 => ?_
  have x4 : Ext w W4 := Ext.tr x3 e4
  refine wb_val 0 (.pointer (some ⟨g2, 0, none⟩)) 22 rfl rfl kj kj (fun _ _ _ h => h) (fun W hR => by kernel_rfl) ?_
  have r2_4 := (row_ext r2_3 e4)
  refine wb_val 1 (.agg (ints .u8 (grp))) 23 rfl rfl kj kj (fun _ _ _ h => h) (fun W hR => (run_load_part 39 _ g2 0 81 _ _ _ (row_ext r2_4 hR) rfl kj (cat_part [] [ints .u8 (grp)] [#[.int .i64 ep], #[.int .i64 fr], #[.int .i64 no], #[.slice a_s sealed.length c_s]] 0 kj) kj (isz (n := 32) kj ((ints_size _ _).trans hgl)))) ?_
  refine wb_val 2 (.pointer (some ⟨g2, 32, none⟩)) 24 rfl rfl kj kj (fun _ _ _ h => h) (fun W hR => by kernel_rfl) ?_
  refine wb_val 3 (.int .i64 ep) 25 rfl rfl kj kj (fun _ _ _ h => h) (fun W hR => (run_loadC1 3 _ g2 32 81 _ (.int .i64 ep) _ (row_ext r2_4 hR) rfl kj (cat_part [ints .u8 (grp)] [#[.int .i64 ep]] [#[.int .i64 fr], #[.int .i64 no], #[.slice a_s sealed.length c_s]] 32 ((ints_size _ _).trans hgl) 0 _ rfl) kj)) ?_
  refine wb_val 4 (.pointer (some ⟨g2, 33, none⟩)) 26 rfl rfl kj kj (fun _ _ _ h => h) (fun W hR => by kernel_rfl) ?_
  refine wb_val 5 (.int .i64 fr) 27 rfl rfl kj kj (fun _ _ _ h => h) (fun W hR => (run_loadC1 3 _ g2 33 81 _ (.int .i64 fr) _ (row_ext r2_4 hR) rfl kj (cat_part [ints .u8 (grp), #[.int .i64 ep]] [#[.int .i64 fr]] [#[.int .i64 no], #[.slice a_s sealed.length c_s]] 33 (by rw [cat_cons, cat_cons]; simp only [Array.size_append, cat, ((ints_size _ _).trans hgl)]; rfl) 0 _ rfl) kj)) ?_
  refine wb_val 7 (.pointer (some ⟨g2, 34, none⟩)) 29 rfl rfl kj kj (fun _ _ _ h => h) (fun W hR => by kernel_rfl) ?_
  refine wb_val 8 (.int .i64 no) 30 rfl rfl kj kj (fun _ _ _ h => h) (fun W hR => (run_loadC1 3 _ g2 34 81 _ (.int .i64 no) _ (row_ext r2_4 hR) rfl kj (cat_part [ints .u8 (grp), #[.int .i64 ep], #[.int .i64 fr]] [#[.int .i64 no]] [#[.slice a_s sealed.length c_s]] 34 (by rw [cat_cons, cat_cons, cat_cons]; simp only [Array.size_append, cat, ((ints_size _ _).trans hgl)]; rfl) 0 _ rfl) kj)) ?_
  refine wb_val 11 (.pointer (some ⟨g2, 35, none⟩)) 33 rfl rfl kj kj (fun _ _ _ h => h) (fun W hR => by kernel_rfl) ?_
  refine wb_val 12 (.slice a_s sealed.length c_s) 34 rfl rfl kj kj (fun _ _ _ h => h) (fun W hR => (run_loadC1 26 _ g2 35 81 _ (.slice a_s sealed.length c_s) _ (row_ext r2_4 hR) rfl kj (cat_part [ints .u8 (grp), #[.int .i64 ep], #[.int .i64 fr], #[.int .i64 no]] [#[.slice a_s sealed.length c_s]] [] 35 (by rw [cat_cons, cat_cons, cat_cons, cat_cons]; simp only [Array.size_append, cat, ((ints_size _ _).trans hgl)]; rfl) 0 _ rfl) kj)) ?_
  refine wb_one 6 kj ?_
  refine wo_callR rfl (fun v W' => (OwnN .u8 5 W4.heap.size (headV grp ep fr)) v W' ∧ Ext W4 W') 66 #[.agg (ints .u8 (grp)), .int .i64 ep, .int .i64 fr] 28 rfl kj kj ((rheadC grp ep fr _ hgl hep).mono (by rintro e w' ⟨v, rfl, e1, hv⟩; exact ⟨v, rfl, hv, e1⟩)) (fun _ _ h => Rely.Ext.trans (Rely.Ext.refl W4) h.2) fun vv6 W5 hh6 => ?_
  obtain ⟨hv6, e5⟩ := hh6
  have x5 : Ext w W5 := Ext.tr x4 e5
  obtain ⟨a28_, c28_, rfl, -⟩ := id (OwnN.rd hv6)
  refine wb_one 9 kj ?_
  have y4_5 : Ext W4 W5 := (Rely.Ext.trans (Rely.Ext.refl W4) e5)
  refine wo_callR rfl (fun v W' => (OwnN .u8 5 W5.heap.size (beV no 4)) v W' ∧ Ext W5 W') 72 #[.int .i64 no, .int .i64 4] 31 rfl kj kj ((rnumC no 4 _ hno.1 (by omega) (by decide)).mono (by rintro e w' ⟨v, rfl, e1, hv⟩; exact ⟨v, rfl, hv, e1⟩)) (fun _ _ h => Rely.Ext.trans y4_5 h.2) fun vv7 W6 hh7 => ?_
  obtain ⟨hv7, e6⟩ := hh7
  have x6 : Ext w W6 := Ext.tr x5 e6
  obtain ⟨a31_, c31_, rfl, -⟩ := id (OwnN.rd hv7)
  refine wb_one 10 kj ?_
  have f8_6 := (hv6.ext e6)
  have y4_6 : Ext W4 W6 := (Rely.Ext.trans y4_5 e6)
  refine wo_appendN (k := .u8) (T := 5) (xs := headV grp ep fr) (ys := beV no 4) (V := W4) 1 (.tmp 28) (.tmp 31) 26 rfl kj kj (by decide) 32 rfl 10 rfl kj kj kj f8_6 (OwnN.rd hv7) (by simp only [List.length_append, rowV_len, beV_len, List.length_cons, List.length_nil, headV_len ep fr hgl]; omega) y4_6 fun zz1 W7 f9 y7 l7 => ?_
  have x7 : Ext w W7 := Ext.low x6 l7 x4.size
  obtain ⟨ap1_, cp1_, rfl, -⟩ := id (OwnN.rd f9)
  refine wb_one 13 kj ?_
  refine wo_callR rfl (fun v W' => (OwnN .u8 5 W7.heap.size (rowV sealed)) v W' ∧ Ext W7 W') 78 #[.slice a_s sealed.length c_s] 35 rfl kj kj ((rrowC sealed _ _ _ (by omega) (RdK.ext hs x7)).mono (by rintro e w' ⟨v, rfl, e1, hv⟩; exact ⟨v, rfl, hv, e1⟩)) (fun _ _ h => Rely.Ext.trans y7 h.2) fun vv11 W8 hh11 => ?_
  obtain ⟨hv11, e8⟩ := hh11
  have x8 : Ext w W8 := Ext.tr x7 e8
  obtain ⟨a35_, c35_, rfl, -⟩ := id (OwnN.rd hv11)
  refine wb_one 14 kj ?_
  have f12_8 := (f9.ext e8)
  have y4_8 : Ext W4 W8 := (Rely.Ext.trans y7 e8)
  refine wo_appendN (k := .u8) (T := 5) (xs := headV grp ep fr ++ beV no 4) (ys := rowV sealed) (V := W4) 1 (.tmp 32) (.tmp 35) 26 rfl kj kj (by decide) 36 rfl 14 rfl kj kj kj f12_8 (OwnN.rd hv11) (by simp only [List.length_append, rowV_len, beV_len, List.length_cons, List.length_nil, headV_len ep fr hgl]; omega) y4_8 fun zz2 W9 f13 y9 l9 => ?_
  have x9 : Ext w W9 := Ext.low x8 l9 x4.size
  obtain ⟨ap2_, cp2_, rfl, -⟩ := id (OwnN.rd f13)
  refine wb_one 15 kj ?_
  refine wo_callR rfl (fun v W' => v = (.tuple #[.slice ap2_ ((headV grp ep fr ++ beV no 4 ++ rowV sealed).length) cp2_, .bool true]) ∧ Ext W9 W') 52 #[.slice ap2_ ((headV grp ep fr ++ beV no 4 ++ rowV sealed).length) cp2_] 37 rfl kj kj (((fun w => fits_S (headV grp ep fr ++ beV no 4 ++ rowV sealed) _ _ w hf) _).mono fun e w' h => ⟨_, h.1, rfl, h.2⟩) (fun _ _ h => Rely.Ext.trans y9 h.2) fun vv15 W10 hh15 => ?_
  obtain ⟨rfl, e10⟩ := hh15
  have x10 : Ext w W10 := Ext.tr x9 e10
  refine wb_val 16 (.slice ap2_ ((headV grp ep fr ++ beV no 4 ++ rowV sealed).length) cp2_) 38 rfl rfl kj kj (fun _ _ _ h => h) (fun W hR => by kernel_rfl) ?_
  refine wb_val 17 (.bool true) 39 rfl rfl kj kj (fun _ _ _ h => h) (fun W hR => by kernel_rfl) ?_
  refine wb_val 18 (.slice ap2_ ((headV grp ep fr ++ beV no 4 ++ rowV sealed).length) cp2_) 2 rfl rfl kj kj (fun _ _ _ h => h) (fun W hR => by kernel_rfl) ?_
  refine wb_val 19 (.bool true) 3 rfl rfl kj kj (fun _ _ _ h => h) (fun W hR => by kernel_rfl) ?_
  refine wb_nil kj ?_
  refine hK5 _ _ ?_
  try clear hK5 K5
  refine wp_ret ?_
  repeat (first | with_reducible refine goR1 ?_ | with_reducible refine goR2 ?_)
  have f16_10 := (f13.ext e10)
  exact (show bodyPost _ _ _ .ret _ _ from ret2 (.slice ap2_ ((headV grp ep fr ++ beV no 4 ++ rowV sealed).length) cp2_) (.bool true) rfl (res_tmp kj) (res_tmp kj) ⟨_, rfl, x10, _, rfl, OwnN.base x4.size f16_10⟩)
theorem rPutPacketC (grp : List Int) (ep fr no : Int) (sealed : List Int) (a_s : Option Addr) (c_s : Nat) (w : World) (hgl : grp.length = 32) (hgb : AreBytes grp) (hsl : sealed.length ≤ 1000000) (hsb : AreBytes sealed) (hs : RdK .u8 w.heap.size sealed (.slice a_s sealed.length c_s) w) : Calls Try.prog 35 #[.agg (cat [ints .u8 (grp), #[.int .i64 ep], #[.int .i64 fr], #[.int .i64 no], #[.slice a_s sealed.length c_s]])] w (Gives w (WantR w.heap.size (refP grp ep fr no sealed))) := by
  unfold refP
  by_cases h1 : hgB ep fr = true
  · by_cases h2 : inB no 4294967295 = true
    · by_cases h3 : sealed.length ≤ 65535
      · rw [if_pos ⟨h1, h2, h3⟩]
        unfold fitV
        split
        · rename_i hf
          exact (rPutPacket_S grp ep fr no sealed a_s c_s w hgl hgb hsl hsb hs h1 h2 h3 hf).mono fun e W hh => hh
        · rename_i hf
          exact (rPutPacket_N grp ep fr no sealed a_s c_s w hgl hgb hsl hsb hs h1 h2 h3 (by omega)).mono fun e W hh => ⟨_, hh.1, hh.2, rfl⟩
      · rw [if_neg (fun h => h3 h.2.2)]; exact (rPutPacket_C grp ep fr no sealed a_s c_s w hgl hgb hsl hsb hs h1 h2 (by omega)).mono fun e W hh => ⟨_, hh.1, hh.2, rfl⟩
    · rw [if_neg (fun h => h2 h.2.1)]; exact (rPutPacket_B grp ep fr no sealed a_s c_s w hgl hgb hsl hsb hs h1 (by simpa using h2)).mono fun e W hh => ⟨_, hh.1, hh.2, rfl⟩
  · rw [if_neg (fun h => h1 h.1)]; exact (rPutPacket_A grp ep fr no sealed a_s c_s w hgl hgb hsl hsb hs (by simpa using h1)).mono fun e W hh => ⟨_, hh.1, hh.2, rfl⟩

end Go.Proofs.Ytfelfmchachljaa.Wr
