/- The reference's PutWelcome. -/
import Derived.Test.YtfelfmchachljaaWrS
import Derived.Test.YtfelfmchachljaaWkR
namespace Go.Proofs.Ytfelfmchachljaa.Wr
open Go Go.RowKit
open Go.Proofs.Ytfelfmchachljaa.Rely Go.Proofs.Ytfelfmchachljaa.Auto Go.Proofs.Ytfelfmchachljaa.Own Go.Proofs.Ytfelfmchachljaa.Sha
set_option linter.unusedVariables false
set_option linter.unusedSimpArgs false

open Go.Proofs.Ytfelfmchachljaa.Wk
set_option maxHeartbeats 4000000 in
theorem rPutWelcome_A (nm : Int) (sealed info : List Int) (a_s : Option Addr) (c_s : Nat) (a_i : Option Addr) (c_i : Nat) (w : World) (hsl : sealed.length ≤ 1000000) (hsb : AreBytes sealed) (hil : info.length ≤ 1000000) (hib : AreBytes info) (hs : RdK .u8 w.heap.size sealed (.slice a_s sealed.length c_s) w) (hi : RdK .u8 w.heap.size info (.slice a_i info.length c_i) w) (h1 : inB nm 255 = false) : Calls Try.prog 32 #[.agg (cat [#[.int .i64 nm], #[.slice a_s sealed.length c_s], #[.slice a_i info.length c_i]])] w (Ret w (.tuple #[.slice none 0 0, .bool false])) := by
  refine enter 35 [(0, .agg (cat [#[.int .i64 nm], #[.slice a_s sealed.length c_s], #[.slice a_i info.length c_i]]))] Try.func32 rfl rfl kj rfl ?_
  refine wp_seq_k fun K1 hK1 => ?_
  refine region_lit ?_
  refine seq_alloc (cat [#[.int .i64 nm], #[.slice a_s sealed.length c_s], #[.slice a_i info.length c_i]]) 74 1 rfl kj kj fun g2 W1 l2 e1 r2_1 => ?_
  have x1 : Ext w W1 := Ext.tr (Rely.Ext.refl w) e1
  have b2 : w.heap.size ≤ g2 := Nat.le_trans (Rely.Ext.refl w).size l2
  refine seq_val (.slice none 0 0) 2 rfl kj kj ?_
  refine seq_val (.bool false) 3 rfl kj kj ?_
  refine seq_nil ?_
  refine hK1 _ _ ?_
  try clear hK1 K1
  refine wp_seq_k fun K3 hK3 => ?_
  refine wp_seq_k fun K4 hK4 => ?_
  refine region_lit ?_
  refine seq_val (.pointer (some ⟨g2, 0, none⟩)) 4 rfl kj kj ?_
  refine seq_val (.int .i64 nm) 5 rfl kj (run_loadC1 3 _ g2 0 74 _ (.int .i64 nm) _ r2_1 rfl kj kj kj) ?_
  refine seq_call (.bool false) 77 #[.int .i64 nm, .int .i64 255] 6 rfl kj kj ((inE nm 255 _ h1) _) fun W2 e2 => ?_
  have x2 : Ext w W2 := Ext.tr x1 e2
  refine seq_val (.bool true) 7 rfl kj kj ?_
  refine seq_val (.bool true) 8 rfl kj kj ?_
  refine seq_skip 9 rfl kj ?_
  refine seq_skip 10 rfl kj ?_
  refine seq_skip 11 rfl kj ?_
  refine seq_skip 12 rfl kj ?_
  refine seq_val (.bool true) 13 rfl kj kj ?_
  refine seq_val (.bool true) 14 rfl kj kj ?_
  refine seq_skip 15 rfl kj ?_
  refine seq_skip 16 rfl kj ?_
  refine seq_skip 17 rfl kj ?_
  refine seq_skip 18 rfl kj ?_
  refine seq_val (.bool true) 19 rfl kj kj ?_
  refine seq_nil ?_
  refine hK4 _ _ ?_
  try clear hK4 K4
  refine cond_true kj ?_
  refine wp_seq_k fun K5 hK5 => ?_
  refine region_lit ?_
  refine seq_val (.slice none 0 0) 2 rfl kj kj ?_
  refine seq_val (.bool false) 3 rfl kj kj ?_
  refine seq_nil ?_
  refine hK5 _ _ ?_
  try clear hK5 K5
  refine wp_ret ?_
  repeat (first | with_reducible refine goR1 ?_ | with_reducible refine goR2 ?_)
  exact (show bodyPost _ _ _ .ret _ _ from ret2 (.slice none 0 0) (.bool false) rfl (res_tmp kj) (res_tmp kj) ⟨rfl, x2⟩)
set_option maxHeartbeats 4000000 in
theorem rPutWelcome_B (nm : Int) (sealed info : List Int) (a_s : Option Addr) (c_s : Nat) (a_i : Option Addr) (c_i : Nat) (w : World) (hsl : sealed.length ≤ 1000000) (hsb : AreBytes sealed) (hil : info.length ≤ 1000000) (hib : AreBytes info) (hs : RdK .u8 w.heap.size sealed (.slice a_s sealed.length c_s) w) (hi : RdK .u8 w.heap.size info (.slice a_i info.length c_i) w) (h1 : inB nm 255 = true) (h2 : 65535 < sealed.length) : Calls Try.prog 32 #[.agg (cat [#[.int .i64 nm], #[.slice a_s sealed.length c_s], #[.slice a_i info.length c_i]])] w (Ret w (.tuple #[.slice none 0 0, .bool false])) := by
  refine enter 35 [(0, .agg (cat [#[.int .i64 nm], #[.slice a_s sealed.length c_s], #[.slice a_i info.length c_i]]))] Try.func32 rfl rfl kj rfl ?_
  refine wp_seq_k fun K1 hK1 => ?_
  refine region_lit ?_
  refine seq_alloc (cat [#[.int .i64 nm], #[.slice a_s sealed.length c_s], #[.slice a_i info.length c_i]]) 74 1 rfl kj kj fun g2 W1 l2 e1 r2_1 => ?_
  have x1 : Ext w W1 := Ext.tr (Rely.Ext.refl w) e1
  have b2 : w.heap.size ≤ g2 := Nat.le_trans (Rely.Ext.refl w).size l2
  refine seq_val (.slice none 0 0) 2 rfl kj kj ?_
  refine seq_val (.bool false) 3 rfl kj kj ?_
  refine seq_nil ?_
  refine hK1 _ _ ?_
  try clear hK1 K1
  refine wp_seq_k fun K3 hK3 => ?_
  refine wp_seq_k fun K4 hK4 => ?_
  refine region_lit ?_
  refine seq_val (.pointer (some ⟨g2, 0, none⟩)) 4 rfl kj kj ?_
  refine seq_val (.int .i64 nm) 5 rfl kj (run_loadC1 3 _ g2 0 74 _ (.int .i64 nm) _ r2_1 rfl kj kj kj) ?_
  refine seq_call (.bool true) 77 #[.int .i64 nm, .int .i64 255] 6 rfl kj kj ((inE nm 255 _ h1) _) fun W2 e2 => ?_
  have x2 : Ext w W2 := Ext.tr x1 e2
  refine seq_val (.bool false) 7 rfl kj kj ?_
  refine seq_val (.bool false) 8 rfl kj kj ?_
  refine seq_val (.pointer (some ⟨g2, 1, none⟩)) 9 rfl kj kj ?_
  have r2_2 := (row_ext r2_1 e2)
  refine seq_val (.slice a_s sealed.length c_s) 10 rfl kj (run_loadC1 26 _ g2 1 74 _ (.slice a_s sealed.length c_s) _ r2_2 rfl kj kj kj) ?_
  refine seq_val (.int .i64 ((sealed.length : Nat) : Int)) 11 rfl kj kj ?_
  refine seq_val (.bool true) 12 rfl kj (run_eq (u := .bool (decide (((sealed.length : Nat) : Int) > 65535))) kj (congrArg Value.bool (decide_eq_true (by omega)))) ?_
  refine seq_val (.bool true) 13 rfl kj kj ?_
  refine seq_val (.bool true) 14 rfl kj kj ?_
  refine seq_skip 15 rfl kj ?_
  refine seq_skip 16 rfl kj ?_
  refine seq_skip 17 rfl kj ?_
  refine seq_skip 18 rfl kj ?_
  refine seq_val (.bool true) 19 rfl kj kj ?_
  refine seq_nil ?_
  refine hK4 _ _ ?_
  try clear hK4 K4
  refine cond_true kj ?_
  refine wp_seq_k fun K5 hK5 => ?_
  refine region_lit ?_
  refine seq_val (.slice none 0 0) 2 rfl kj kj ?_
  refine seq_val (.bool false) 3 rfl kj kj ?_
  refine seq_nil ?_
  refine hK5 _ _ ?_
  try clear hK5 K5
  refine wp_ret ?_
  repeat (first | with_reducible refine goR1 ?_ | with_reducible refine goR2 ?_)
  exact (show bodyPost _ _ _ .ret _ _ from ret2 (.slice none 0 0) (.bool false) rfl (res_tmp kj) (res_tmp kj) ⟨rfl, x2⟩)
set_option maxHeartbeats 4000000 in
theorem rPutWelcome_C (nm : Int) (sealed info : List Int) (a_s : Option Addr) (c_s : Nat) (a_i : Option Addr) (c_i : Nat) (w : World) (hsl : sealed.length ≤ 1000000) (hsb : AreBytes sealed) (hil : info.length ≤ 1000000) (hib : AreBytes info) (hs : RdK .u8 w.heap.size sealed (.slice a_s sealed.length c_s) w) (hi : RdK .u8 w.heap.size info (.slice a_i info.length c_i) w) (h1 : inB nm 255 = true) (h2 : sealed.length ≤ 65535) (h3 : 65535 < info.length) : Calls Try.prog 32 #[.agg (cat [#[.int .i64 nm], #[.slice a_s sealed.length c_s], #[.slice a_i info.length c_i]])] w (Ret w (.tuple #[.slice none 0 0, .bool false])) := by
  refine enter 35 [(0, .agg (cat [#[.int .i64 nm], #[.slice a_s sealed.length c_s], #[.slice a_i info.length c_i]]))] Try.func32 rfl rfl kj rfl ?_
  refine wp_seq_k fun K1 hK1 => ?_
  refine region_lit ?_
  refine seq_alloc (cat [#[.int .i64 nm], #[.slice a_s sealed.length c_s], #[.slice a_i info.length c_i]]) 74 1 rfl kj kj fun g2 W1 l2 e1 r2_1 => ?_
  have x1 : Ext w W1 := Ext.tr (Rely.Ext.refl w) e1
  have b2 : w.heap.size ≤ g2 := Nat.le_trans (Rely.Ext.refl w).size l2
  refine seq_val (.slice none 0 0) 2 rfl kj kj ?_
  refine seq_val (.bool false) 3 rfl kj kj ?_
  refine seq_nil ?_
  refine hK1 _ _ ?_
  try clear hK1 K1
  refine wp_seq_k fun K3 hK3 => ?_
  refine wp_seq_k fun K4 hK4 => ?_
  refine region_lit ?_
  refine seq_val (.pointer (some ⟨g2, 0, none⟩)) 4 rfl kj kj ?_
  refine seq_val (.int .i64 nm) 5 rfl kj (run_loadC1 3 _ g2 0 74 _ (.int .i64 nm) _ r2_1 rfl kj kj kj) ?_
  refine seq_call (.bool true) 77 #[.int .i64 nm, .int .i64 255] 6 rfl kj kj ((inE nm 255 _ h1) _) fun W2 e2 => ?_
  have x2 : Ext w W2 := Ext.tr x1 e2
  refine seq_val (.bool false) 7 rfl kj kj ?_
  refine seq_val (.bool false) 8 rfl kj kj ?_
  refine seq_val (.pointer (some ⟨g2, 1, none⟩)) 9 rfl kj kj ?_
  have r2_2 := (row_ext r2_1 e2)
  refine seq_val (.slice a_s sealed.length c_s) 10 rfl kj (run_loadC1 26 _ g2 1 74 _ (.slice a_s sealed.length c_s) _ r2_2 rfl kj kj kj) ?_
  refine seq_val (.int .i64 ((sealed.length : Nat) : Int)) 11 rfl kj kj ?_
  refine seq_val (.bool false) 12 rfl kj (run_eq (u := .bool (decide (((sealed.length : Nat) : Int) > 65535))) kj (congrArg Value.bool (decide_eq_false (by omega)))) ?_
  refine seq_val (.bool false) 13 rfl kj kj ?_
  refine seq_val (.bool false) 14 rfl kj kj ?_
  refine seq_val (.pointer (some ⟨g2, 2, none⟩)) 15 rfl kj kj ?_
  refine seq_val (.slice a_i info.length c_i) 16 rfl kj (run_loadC1 26 _ g2 2 74 _ (.slice a_i info.length c_i) _ r2_2 rfl kj kj kj) ?_
  refine seq_val (.int .i64 ((info.length : Nat) : Int)) 17 rfl kj kj ?_
  refine seq_val (.bool true) 18 rfl kj (run_eq (u := .bool (decide (((info.length : Nat) : Int) > 65535))) kj (congrArg Value.bool (decide_eq_true (by omega)))) ?_
  refine seq_val (.bool true) 19 rfl kj kj ?_
  refine seq_nil ?_
  refine hK4 _ _ ?_
  try clear hK4 K4
  refine cond_true kj ?_
  refine wp_seq_k fun K5 hK5 => ?_
  refine region_lit ?_
  refine seq_val (.slice none 0 0) 2 rfl kj kj ?_
  refine seq_val (.bool false) 3 rfl kj kj ?_
  refine seq_nil ?_
  refine hK5 _ _ ?_
  try clear hK5 K5
  refine wp_ret ?_
  repeat (first | with_reducible refine goR1 ?_ | with_reducible refine goR2 ?_)
  exact (show bodyPost _ _ _ .ret _ _ from ret2 (.slice none 0 0) (.bool false) rfl (res_tmp kj) (res_tmp kj) ⟨rfl, x2⟩)
set_option maxHeartbeats 4000000 in
theorem rPutWelcome_N (nm : Int) (sealed info : List Int) (a_s : Option Addr) (c_s : Nat) (a_i : Option Addr) (c_i : Nat) (w : World) (hsl : sealed.length ≤ 1000000) (hsb : AreBytes sealed) (hil : info.length ≤ 1000000) (hib : AreBytes info) (hs : RdK .u8 w.heap.size sealed (.slice a_s sealed.length c_s) w) (hi : RdK .u8 w.heap.size info (.slice a_i info.length c_i) w) (h1 : inB nm 255 = true) (h2 : sealed.length ≤ 65535) (h3 : info.length ≤ 65535) (hf : 65536 < (([byV nm 0] ++ rowV sealed) ++ rowV info).length) : Calls Try.prog 32 #[.agg (cat [#[.int .i64 nm], #[.slice a_s sealed.length c_s], #[.slice a_i info.length c_i]])] w (Ret w (.tuple #[.slice none 0 0, .bool false])) := by
  refine enter 35 [(0, .agg (cat [#[.int .i64 nm], #[.slice a_s sealed.length c_s], #[.slice a_i info.length c_i]]))] Try.func32 rfl rfl kj rfl ?_
  refine wp_seq_k fun K1 hK1 => ?_
  refine region_lit ?_
  refine seq_alloc (cat [#[.int .i64 nm], #[.slice a_s sealed.length c_s], #[.slice a_i info.length c_i]]) 74 1 rfl kj kj fun g2 W1 l2 e1 r2_1 => ?_
  have x1 : Ext w W1 := Ext.tr (Rely.Ext.refl w) e1
  have b2 : w.heap.size ≤ g2 := Nat.le_trans (Rely.Ext.refl w).size l2
  refine seq_val (.slice none 0 0) 2 rfl kj kj ?_
  refine seq_val (.bool false) 3 rfl kj kj ?_
  refine seq_nil ?_
  refine hK1 _ _ ?_
  try clear hK1 K1
  refine wp_seq_k fun K3 hK3 => ?_
  refine wp_seq_k fun K4 hK4 => ?_
  refine region_lit ?_
  refine seq_val (.pointer (some ⟨g2, 0, none⟩)) 4 rfl kj kj ?_
  refine seq_val (.int .i64 nm) 5 rfl kj (run_loadC1 3 _ g2 0 74 _ (.int .i64 nm) _ r2_1 rfl kj kj kj) ?_
  refine seq_call (.bool true) 77 #[.int .i64 nm, .int .i64 255] 6 rfl kj kj ((inE nm 255 _ h1) _) fun W2 e2 => ?_
  have x2 : Ext w W2 := Ext.tr x1 e2
  refine seq_val (.bool false) 7 rfl kj kj ?_
  refine seq_val (.bool false) 8 rfl kj kj ?_
  refine seq_val (.pointer (some ⟨g2, 1, none⟩)) 9 rfl kj kj ?_
  have r2_2 := (row_ext r2_1 e2)
  refine seq_val (.slice a_s sealed.length c_s) 10 rfl kj (run_loadC1 26 _ g2 1 74 _ (.slice a_s sealed.length c_s) _ r2_2 rfl kj kj kj) ?_
  refine seq_val (.int .i64 ((sealed.length : Nat) : Int)) 11 rfl kj kj ?_
  refine seq_val (.bool false) 12 rfl kj (run_eq (u := .bool (decide (((sealed.length : Nat) : Int) > 65535))) kj (congrArg Value.bool (decide_eq_false (by omega)))) ?_
  refine seq_val (.bool false) 13 rfl kj kj ?_
  refine seq_val (.bool false) 14 rfl kj kj ?_
  refine seq_val (.pointer (some ⟨g2, 2, none⟩)) 15 rfl kj kj ?_
  refine seq_val (.slice a_i info.length c_i) 16 rfl kj (run_loadC1 26 _ g2 2 74 _ (.slice a_i info.length c_i) _ r2_2 rfl kj kj kj) ?_
  refine seq_val (.int .i64 ((info.length : Nat) : Int)) 17 rfl kj kj ?_
  refine seq_val (.bool false) 18 rfl kj (run_eq (u := .bool (decide (((info.length : Nat) : Int) > 65535))) kj (congrArg Value.bool (decide_eq_false (by omega)))) ?_
  refine seq_val (.bool false) 19 rfl kj kj ?_
  refine seq_nil ?_
  refine hK4 _ _ ?_
  try clear hK4 K4
  refine cond_false kj ?_
  refine wp_skip ?_
  refine hK3 _ _ ?_
  try clear hK3 K3
  refine wp_seq_k fun K5 hK5 => ?_
  refine region_walkB kj fun W3 e3 => ?_
  have x3 : Ext w W3 := Ext.tr x2 e3
  refine wb_val 0 (.pointer (some ⟨g2, 0, none⟩)) 20 rfl rfl kj kj (fun _ _ _ h => h) (fun W hR => by kernel_rfl) ?_
  have r2_3 := (row_ext r2_2 e3)
  refine wb_val 1 (.int .i64 nm) 21 rfl rfl kj kj (fun _ _ _ h => h) (fun W hR => (run_loadC1 3 _ g2 0 74 _ (.int .i64 nm) _ (row_ext r2_3 hR) rfl kj kj kj)) ?_
  refine wb_val 2 (.int .u8 (byV nm 0)) 22 rfl rfl kj kj (fun _ _ _ h => h) (fun W hR => (run_eq (u := .int .u8 (IntKind.u8.wrap (nm))) kj (congrArg (Value.int .u8) (byV0 nm)))) ?_
  refine wb_val 4 (.pointer (some ⟨g2, 1, none⟩)) 24 rfl rfl kj kj (fun _ _ _ h => h) (fun W hR => by kernel_rfl) ?_
  refine wb_val 5 (.slice a_s sealed.length c_s) 25 rfl rfl kj kj (fun _ _ _ h => h) (fun W hR => (run_loadC1 26 _ g2 1 74 _ (.slice a_s sealed.length c_s) _ (row_ext r2_3 hR) rfl kj kj kj)) ?_
  refine wb_val 8 (.pointer (some ⟨g2, 2, none⟩)) 28 rfl rfl kj kj (fun _ _ _ h => h) (fun W hR => by kernel_rfl) ?_
  refine wb_val 9 (.slice a_i info.length c_i) 29 rfl rfl kj kj (fun _ _ _ h => h) (fun W hR => (run_loadC1 26 _ g2 2 74 _ (.slice a_i info.length c_i) _ (row_ext r2_3 hR) rfl kj kj kj)) ?_
  refine wb_pair 3 6 rfl rfl (by decide) kj kj kj kj 23 26 rfl rfl kj kj (NewS W3.heap.size #[.int .u8 (byV nm 0)] 5 1) (OwnN .u8 5 W3.heap.size (rowV sealed)) (NewS.stable _ _ _ _) (OwnN.stable _ _ _ _) (fun W hR => .inl ⟨_, _, (by kernel_rfl : _ = Result.ok (Next.value (.slice (some ⟨W.heap.size, 0, none⟩) 1 1)) (W.alloc (.cells #[.int .u8 (byV nm 0)] 5))), ext_alloc _ _, ⟨_, rfl, hR.size, heap_alloc_new _ _⟩⟩) (fun W hR => .inr ⟨78, #[.slice a_s sealed.length c_s], by kernel_rfl, rrowG W3.heap.size sealed _ _ W (by omega) (RdK.ext (RdK.ext hs x3) hR) hR.size⟩) fun va6 vb6 W4 qa6 qb6 e4 => ?_
  have x4 : Ext w W4 := Ext.tr x3 e4
  obtain ⟨gz, rfl, lz, rz⟩ := qa6
  have hz := ownN_row (xs := [byV nm 0]) rfl lz rz (by show 1 ≤ maxLen; decide)
  obtain ⟨a26_, c26_, rfl, -⟩ := id (OwnN.rd qb6)
  refine wb_one 7 kj ?_
  have y3_4 : Ext W3 W4 := (Rely.Ext.trans (Rely.Ext.refl W3) e4)
  refine wo_appendN (k := .u8) (T := 5) (xs := [byV nm 0]) (ys := rowV sealed) (V := W3) 1 (.tmp 23) (.tmp 26) 26 rfl kj kj (by decide) 27 rfl 7 rfl kj kj kj hz (OwnN.rd qb6) (by simp only [List.length_append, rowV_len, List.length_cons, List.length_nil]; omega) y3_4 fun zz1 W5 f7 y5 l5 => ?_
  have x5 : Ext w W5 := Ext.low x4 l5 x3.size
  obtain ⟨ap1_, cp1_, rfl, -⟩ := id (OwnN.rd f7)
  refine wb_one 10 kj ?_
  refine wo_callR rfl (fun v W' => (OwnN .u8 5 W5.heap.size (rowV info)) v W' ∧ Ext W5 W') 78 #[.slice a_i info.length c_i] 30 rfl kj kj ((rrowC info _ _ _ (by omega) (RdK.ext hi x5)).mono (by rintro e w' ⟨v, rfl, e1, hv⟩; exact ⟨v, rfl, hv, e1⟩)) (fun _ _ h => Rely.Ext.trans y5 h.2) fun vv9 W6 hh9 => ?_
  obtain ⟨hv9, e6⟩ := hh9
  have x6 : Ext w W6 := Ext.tr x5 e6
  obtain ⟨a30_, c30_, rfl, -⟩ := id (OwnN.rd hv9)
  refine wb_one 11 kj ?_
  have f10_6 := (f7.ext e6)
  have y3_6 : Ext W3 W6 := (Rely.Ext.trans y5 e6)
  refine wo_appendN (k := .u8) (T := 5) (xs := [byV nm 0] ++ rowV sealed) (ys := rowV info) (V := W3) 1 (.tmp 27) (.tmp 30) 26 rfl kj kj (by decide) 31 rfl 11 rfl kj kj kj f10_6 (OwnN.rd hv9) (by simp only [List.length_append, rowV_len, List.length_cons, List.length_nil]; omega) y3_6 fun zz2 W7 f11 y7 l7 => ?_
  have x7 : Ext w W7 := Ext.low x6 l7 x3.size
  obtain ⟨ap2_, cp2_, rfl, -⟩ := id (OwnN.rd f11)
  refine wb_one 12 kj ?_
  refine wo_callR rfl (fun v W' => v = (.tuple #[.slice none 0 0, .bool false]) ∧ Ext W7 W') 52 #[.slice ap2_ (([byV nm 0] ++ rowV sealed ++ rowV info).length) cp2_] 32 rfl kj kj (((fun w => fits_N ([byV nm 0] ++ rowV sealed ++ rowV info) _ _ w hf) _).mono fun e w' h => ⟨_, h.1, rfl, h.2⟩) (fun _ _ h => Rely.Ext.trans y7 h.2) fun vv13 W8 hh13 => ?_
  obtain ⟨rfl, e8⟩ := hh13
  have x8 : Ext w W8 := Ext.tr x7 e8
  refine wb_val 13 (.slice none 0 0) 33 rfl rfl kj kj (fun _ _ _ h => h) (fun W hR => by kernel_rfl) ?_
  refine wb_val 14 (.bool false) 34 rfl rfl kj kj (fun _ _ _ h => h) (fun W hR => by kernel_rfl) ?_
  refine wb_val 15 (.slice none 0 0) 2 rfl rfl kj kj (fun _ _ _ h => h) (fun W hR => by kernel_rfl) ?_
  refine wb_val 16 (.bool false) 3 rfl rfl kj kj (fun _ _ _ h => h) (fun W hR => by kernel_rfl) ?_
  refine wb_nil kj ?_
  refine hK5 _ _ ?_
  try clear hK5 K5
  refine wp_ret ?_
  repeat (first | with_reducible refine goR1 ?_ | with_reducible refine goR2 ?_)
  exact (show bodyPost _ _ _ .ret _ _ from ret2 (.slice none 0 0) (.bool false) rfl (res_tmp kj) (res_tmp kj) ⟨rfl, x8⟩)
set_option maxHeartbeats 4000000 in
theorem rPutWelcome_S (nm : Int) (sealed info : List Int) (a_s : Option Addr) (c_s : Nat) (a_i : Option Addr) (c_i : Nat) (w : World) (hsl : sealed.length ≤ 1000000) (hsb : AreBytes sealed) (hil : info.length ≤ 1000000) (hib : AreBytes info) (hs : RdK .u8 w.heap.size sealed (.slice a_s sealed.length c_s) w) (hi : RdK .u8 w.heap.size info (.slice a_i info.length c_i) w) (h1 : inB nm 255 = true) (h2 : sealed.length ≤ 65535) (h3 : info.length ≤ 65535) (hf : (([byV nm 0] ++ rowV sealed) ++ rowV info).length ≤ 65536) : Calls Try.prog 32 #[.agg (cat [#[.int .i64 nm], #[.slice a_s sealed.length c_s], #[.slice a_i info.length c_i]])] w (Gives w (fun v W => ∃ u, v = .tuple #[u, .bool true] ∧ OwnN .u8 5 w.heap.size (([byV nm 0] ++ rowV sealed) ++ rowV info) u W)) := by
  refine enter 35 [(0, .agg (cat [#[.int .i64 nm], #[.slice a_s sealed.length c_s], #[.slice a_i info.length c_i]]))] Try.func32 rfl rfl kj rfl ?_
  refine wp_seq_k fun K1 hK1 => ?_
  refine region_lit ?_
  refine seq_alloc (cat [#[.int .i64 nm], #[.slice a_s sealed.length c_s], #[.slice a_i info.length c_i]]) 74 1 rfl kj kj fun g2 W1 l2 e1 r2_1 => ?_
  have x1 : Ext w W1 := Ext.tr (Rely.Ext.refl w) e1
  have b2 : w.heap.size ≤ g2 := Nat.le_trans (Rely.Ext.refl w).size l2
  refine seq_val (.slice none 0 0) 2 rfl kj kj ?_
  refine seq_val (.bool false) 3 rfl kj kj ?_
  refine seq_nil ?_
  refine hK1 _ _ ?_
  try clear hK1 K1
  refine wp_seq_k fun K3 hK3 => ?_
  refine wp_seq_k fun K4 hK4 => ?_
  refine region_lit ?_
  refine seq_val (.pointer (some ⟨g2, 0, none⟩)) 4 rfl kj kj ?_
  refine seq_val (.int .i64 nm) 5 rfl kj (run_loadC1 3 _ g2 0 74 _ (.int .i64 nm) _ r2_1 rfl kj kj kj) ?_
  refine seq_call (.bool true) 77 #[.int .i64 nm, .int .i64 255] 6 rfl kj kj ((inE nm 255 _ h1) _) fun W2 e2 => ?_
  have x2 : Ext w W2 := Ext.tr x1 e2
  refine seq_val (.bool false) 7 rfl kj kj ?_
  refine seq_val (.bool false) 8 rfl kj kj ?_
  refine seq_val (.pointer (some ⟨g2, 1, none⟩)) 9 rfl kj kj ?_
  have r2_2 := (row_ext r2_1 e2)
  refine seq_val (.slice a_s sealed.length c_s) 10 rfl kj (run_loadC1 26 _ g2 1 74 _ (.slice a_s sealed.length c_s) _ r2_2 rfl kj kj kj) ?_
  refine seq_val (.int .i64 ((sealed.length : Nat) : Int)) 11 rfl kj kj ?_
  refine seq_val (.bool false) 12 rfl kj (run_eq (u := .bool (decide (((sealed.length : Nat) : Int) > 65535))) kj (congrArg Value.bool (decide_eq_false (by omega)))) ?_
  refine seq_val (.bool false) 13 rfl kj kj ?_
  refine seq_val (.bool false) 14 rfl kj kj ?_
  refine seq_val (.pointer (some ⟨g2, 2, none⟩)) 15 rfl kj kj ?_
  refine seq_val (.slice a_i info.length c_i) 16 rfl kj (run_loadC1 26 _ g2 2 74 _ (.slice a_i info.length c_i) _ r2_2 rfl kj kj kj) ?_
  refine seq_val (.int .i64 ((info.length : Nat) : Int)) 17 rfl kj kj ?_
  refine seq_val (.bool false) 18 rfl kj (run_eq (u := .bool (decide (((info.length : Nat) : Int) > 65535))) kj (congrArg Value.bool (decide_eq_false (by omega)))) ?_
  refine seq_val (.bool false) 19 rfl kj kj ?_
  refine seq_nil ?_
  refine hK4 _ _ ?_
  try clear hK4 K4
  refine cond_false kj ?_
  refine wp_skip ?_
  refine hK3 _ _ ?_
  try clear hK3 K3
  refine wp_seq_k fun K5 hK5 => ?_
  refine region_walkB kj fun W3 e3 => ?_
  have x3 : Ext w W3 := Ext.tr x2 e3
  refine wb_val 0 (.pointer (some ⟨g2, 0, none⟩)) 20 rfl rfl kj kj (fun _ _ _ h => h) (fun W hR => by kernel_rfl) ?_
  have r2_3 := (row_ext r2_2 e3)
  refine wb_val 1 (.int .i64 nm) 21 rfl rfl kj kj (fun _ _ _ h => h) (fun W hR => (run_loadC1 3 _ g2 0 74 _ (.int .i64 nm) _ (row_ext r2_3 hR) rfl kj kj kj)) ?_
  refine wb_val 2 (.int .u8 (byV nm 0)) 22 rfl rfl kj kj (fun _ _ _ h => h) (fun W hR => (run_eq (u := .int .u8 (IntKind.u8.wrap (nm))) kj (congrArg (Value.int .u8) (byV0 nm)))) ?_
  refine wb_val 4 (.pointer (some ⟨g2, 1, none⟩)) 24 rfl rfl kj kj (fun _ _ _ h => h) (fun W hR => by kernel_rfl) ?_
  refine wb_val 5 (.slice a_s sealed.length c_s) 25 rfl rfl kj kj (fun _ _ _ h => h) (fun W hR => (run_loadC1 26 _ g2 1 74 _ (.slice a_s sealed.length c_s) _ (row_ext r2_3 hR) rfl kj kj kj)) ?_
  refine wb_val 8 (.pointer (some ⟨g2, 2, none⟩)) 28 rfl rfl kj kj (fun _ _ _ h => h) (fun W hR => by kernel_rfl) ?_
  refine wb_val 9 (.slice a_i info.length c_i) 29 rfl rfl kj kj (fun _ _ _ h => h) (fun W hR => (run_loadC1 26 _ g2 2 74 _ (.slice a_i info.length c_i) _ (row_ext r2_3 hR) rfl kj kj kj)) ?_
  refine wb_pair 3 6 rfl rfl (by decide) kj kj kj kj 23 26 rfl rfl kj kj (NewS W3.heap.size #[.int .u8 (byV nm 0)] 5 1) (OwnN .u8 5 W3.heap.size (rowV sealed)) (NewS.stable _ _ _ _) (OwnN.stable _ _ _ _) (fun W hR => .inl ⟨_, _, (by kernel_rfl : _ = Result.ok (Next.value (.slice (some ⟨W.heap.size, 0, none⟩) 1 1)) (W.alloc (.cells #[.int .u8 (byV nm 0)] 5))), ext_alloc _ _, ⟨_, rfl, hR.size, heap_alloc_new _ _⟩⟩) (fun W hR => .inr ⟨78, #[.slice a_s sealed.length c_s], by kernel_rfl, rrowG W3.heap.size sealed _ _ W (by omega) (RdK.ext (RdK.ext hs x3) hR) hR.size⟩) fun va6 vb6 W4 qa6 qb6 e4 => ?_
  have x4 : Ext w W4 := Ext.tr x3 e4
  obtain ⟨gz, rfl, lz, rz⟩ := qa6
  have hz := ownN_row (xs := [byV nm 0]) rfl lz rz (by show 1 ≤ maxLen; decide)
  obtain ⟨a26_, c26_, rfl, -⟩ := id (OwnN.rd qb6)
  refine wb_one 7 kj ?_
  have y3_4 : Ext W3 W4 := (Rely.Ext.trans (Rely.Ext.refl W3) e4)
  refine wo_appendN (k := .u8) (T := 5) (xs := [byV nm 0]) (ys := rowV sealed) (V := W3) 1 (.tmp 23) (.tmp 26) 26 rfl kj kj (by decide) 27 rfl 7 rfl kj kj kj hz (OwnN.rd qb6) (by simp only [List.length_append, rowV_len, List.length_cons, List.length_nil]; omega) y3_4 fun zz1 W5 f7 y5 l5 => ?_
  have x5 : Ext w W5 := Ext.low x4 l5 x3.size
  obtain ⟨ap1_, cp1_, rfl, -⟩ := id (OwnN.rd f7)
  refine wb_one 10 kj ?_
  refine wo_callR rfl (fun v W' => (OwnN .u8 5 W5.heap.size (rowV info)) v W' ∧ Ext W5 W') 78 #[.slice a_i info.length c_i] 30 rfl kj kj ((rrowC info _ _ _ (by omega) (RdK.ext hi x5)).mono (by rintro e w' ⟨v, rfl, e1, hv⟩; exact ⟨v, rfl, hv, e1⟩)) (fun _ _ h => Rely.Ext.trans y5 h.2) fun vv9 W6 hh9 => ?_
  obtain ⟨hv9, e6⟩ := hh9
  have x6 : Ext w W6 := Ext.tr x5 e6
  obtain ⟨a30_, c30_, rfl, -⟩ := id (OwnN.rd hv9)
  refine wb_one 11 kj ?_
  have f10_6 := (f7.ext e6)
  have y3_6 : Ext W3 W6 := (Rely.Ext.trans y5 e6)
  refine wo_appendN (k := .u8) (T := 5) (xs := [byV nm 0] ++ rowV sealed) (ys := rowV info) (V := W3) 1 (.tmp 27) (.tmp 30) 26 rfl kj kj (by decide) 31 rfl 11 rfl kj kj kj f10_6 (OwnN.rd hv9) (by simp only [List.length_append, rowV_len, List.length_cons, List.length_nil]; omega) y3_6 fun zz2 W7 f11 y7 l7 => ?_
  have x7 : Ext w W7 := Ext.low x6 l7 x3.size
  obtain ⟨ap2_, cp2_, rfl, -⟩ := id (OwnN.rd f11)
  refine wb_one 12 kj ?_
  refine wo_callR rfl (fun v W' => v = (.tuple #[.slice ap2_ (([byV nm 0] ++ rowV sealed ++ rowV info).length) cp2_, .bool true]) ∧ Ext W7 W') 52 #[.slice ap2_ (([byV nm 0] ++ rowV sealed ++ rowV info).length) cp2_] 32 rfl kj kj (((fun w => fits_S ([byV nm 0] ++ rowV sealed ++ rowV info) _ _ w hf) _).mono fun e w' h => ⟨_, h.1, rfl, h.2⟩) (fun _ _ h => Rely.Ext.trans y7 h.2) fun vv13 W8 hh13 => ?_
  obtain ⟨rfl, e8⟩ := hh13
  have x8 : Ext w W8 := Ext.tr x7 e8
  refine wb_val 13 (.slice ap2_ (([byV nm 0] ++ rowV sealed ++ rowV info).length) cp2_) 33 rfl rfl kj kj (fun _ _ _ h => h) (fun W hR => by kernel_rfl) ?_
  refine wb_val 14 (.bool true) 34 rfl rfl kj kj (fun _ _ _ h => h) (fun W hR => by kernel_rfl) ?_
  refine wb_val 15 (.slice ap2_ (([byV nm 0] ++ rowV sealed ++ rowV info).length) cp2_) 2 rfl rfl kj kj (fun _ _ _ h => h) (fun W hR => by kernel_rfl) ?_
  refine wb_val 16 (.bool true) 3 rfl rfl kj kj (fun _ _ _ h => h) (fun W hR => by kernel_rfl) ?_
  refine wb_nil kj ?_
  refine hK5 _ _ ?_
  try clear hK5 K5
  refine wp_ret ?_
  repeat (first | with_reducible refine goR1 ?_ | with_reducible refine goR2 ?_)
  have f14_8 := (f11.ext e8)
  exact (show bodyPost _ _ _ .ret _ _ from ret2 (.slice ap2_ (([byV nm 0] ++ rowV sealed ++ rowV info).length) cp2_) (.bool true) rfl (res_tmp kj) (res_tmp kj) ⟨_, rfl, x8, _, rfl, OwnN.base x3.size f14_8⟩)
theorem rPutWelcomeC (nm : Int) (sealed info : List Int) (a_s : Option Addr) (c_s : Nat) (a_i : Option Addr) (c_i : Nat) (w : World) (hsl : sealed.length ≤ 1000000) (hsb : AreBytes sealed) (hil : info.length ≤ 1000000) (hib : AreBytes info) (hs : RdK .u8 w.heap.size sealed (.slice a_s sealed.length c_s) w) (hi : RdK .u8 w.heap.size info (.slice a_i info.length c_i) w) : Calls Try.prog 32 #[.agg (cat [#[.int .i64 nm], #[.slice a_s sealed.length c_s], #[.slice a_i info.length c_i]])] w (Gives w (WantR w.heap.size (refW nm sealed info))) := by
  unfold refW
  by_cases h1 : inB nm 255 = true
  · by_cases h2 : sealed.length ≤ 65535
    · by_cases h3 : info.length ≤ 65535
      · rw [if_pos ⟨h1, h2, h3⟩]
        unfold fitV
        split
        · rename_i hf
          exact (rPutWelcome_S nm sealed info a_s c_s a_i c_i w hsl hsb hil hib hs hi h1 h2 h3 hf).mono fun e W hh => hh
        · rename_i hf
          exact (rPutWelcome_N nm sealed info a_s c_s a_i c_i w hsl hsb hil hib hs hi h1 h2 h3 (by omega)).mono fun e W hh => ⟨_, hh.1, hh.2, rfl⟩
      · rw [if_neg (fun h => h3 h.2.2)]; exact (rPutWelcome_C nm sealed info a_s c_s a_i c_i w hsl hsb hil hib hs hi h1 h2 (by omega)).mono fun e W hh => ⟨_, hh.1, hh.2, rfl⟩
    · rw [if_neg (fun h => h2 h.2.1)]; exact (rPutWelcome_B nm sealed info a_s c_s a_i c_i w hsl hsb hil hib hs hi h1 (by omega)).mono fun e W hh => ⟨_, hh.1, hh.2, rfl⟩
  · rw [if_neg (fun h => h1 h.1)]; exact (rPutWelcome_A nm sealed info a_s c_s a_i c_i w hsl hsb hil hib hs hi (by simpa using h1)).mono fun e W hh => ⟨_, hh.1, hh.2, rfl⟩

end Go.Proofs.Ytfelfmchachljaa.Wr
