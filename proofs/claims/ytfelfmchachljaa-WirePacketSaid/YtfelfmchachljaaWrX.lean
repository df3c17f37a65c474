/- The law WireWelcome. -/
import Derived.Test.YtfelfmchachljaaWrY
import Derived.Test.YtfelfmchachljaaWrT
import Derived.Test.YtfelfmchachljaaWrU
namespace Go.Proofs.Ytfelfmchachljaa.Wr
open Go Go.RowKit
open Go.Proofs.Ytfelfmchachljaa.Rely Go.Proofs.Ytfelfmchachljaa.Auto Go.Proofs.Ytfelfmchachljaa.Own Go.Proofs.Ytfelfmchachljaa.Sha
set_option linter.unusedVariables false
set_option linter.unusedSimpArgs false

theorem welc_bytes (nm : Int) (sealed info bs : List Int) (hsb : AreBytes sealed) (hib : AreBytes info) (h : refW nm sealed info = some bs) : AreBytes bs := by
  unfold refW fitV at h
  split at h
  · split at h
    · obtain rfl := Option.some.inj h
      exact bytes_app (bytes_app (beV_bytes nm 1) (bytes_app (beV_bytes _ 2) hsb)) (bytes_app (beV_bytes _ 2) hib)
    · cases h
  · cases h
theorem pack_bytes (grp : List Int) (ep fr no : Int) (sealed bs : List Int) (hgb : AreBytes grp) (hsb : AreBytes sealed) (h : refP grp ep fr no sealed = some bs) : AreBytes bs := by
  unfold refP fitV at h
  split at h
  · split at h
    · obtain rfl := Option.some.inj h
      exact bytes_app (bytes_app (bytes_app (bytes_app hgb (beV_bytes _ 4)) (beV_bytes fr 1)) (beV_bytes _ 4)) (bytes_app (beV_bytes _ 2) hsb)
    · cases h
  · cases h
set_option maxHeartbeats 4000000 in
theorem lawWelcome_A (nm : Int) (sealed info : List Int) (a_s : Option Addr) (c_s : Nat) (a_i : Option Addr) (c_i : Nat) (w : World) (hsb : AreBytes sealed) (hib : AreBytes info) (hs : RdK .u8 w.heap.size sealed (.slice a_s sealed.length c_s) w) (hi : RdK .u8 w.heap.size info (.slice a_i info.length c_i) w) (hl1 : 70000 ≤ sealed.length) : Calls Try.prog 7 #[.agg (cat [#[.int .i64 nm], #[.slice a_s sealed.length c_s], #[.slice a_i info.length c_i]])] w (Ret w (.bool true)) := by
  refine enter 78 [(0, .agg (cat [#[.int .i64 nm], #[.slice a_s sealed.length c_s], #[.slice a_i info.length c_i]]))] Try.func7 rfl rfl kj rfl ?_
  refine wp_seq_k fun K1 hK1 => ?_
  refine region_lit ?_
  refine seq_alloc (cat [#[.int .i64 nm], #[.slice a_s sealed.length c_s], #[.slice a_i info.length c_i]]) 74 1 rfl kj kj fun g2 W1 l2 e1 r2_1 => ?_
  have x1 : Ext w W1 := Ext.tr (Rely.Ext.refl w) e1
  have b2 : w.heap.size ≤ g2 := Nat.le_trans (Rely.Ext.refl w).size l2
  refine seq_val (.bool false) 2 rfl kj kj ?_
  refine seq_nil ?_
  refine hK1 _ _ ?_
  try clear hK1 K1
  refine wp_seq_k fun K3 hK3 => ?_
  refine wp_seq_k fun K4 hK4 => ?_
  refine region_lit ?_
  refine seq_call (.bool true) 12 #[] 12 rfl kj kj ((alive9) _) fun W2 e2 => ?_
  have x2 : Ext w W2 := Ext.tr x1 e2
  refine seq_val (.bool false) 13 rfl kj kj ?_
  refine seq_nil ?_
  refine hK4 _ _ ?_
  try clear hK4 K4
  refine cond_false kj ?_
  refine wp_skip ?_
  refine hK3 _ _ ?_
  try clear hK3 K3
  refine wp_seq_k fun K5 hK5 => ?_
  refine wp_seq_k fun K6 hK6 => ?_
  refine region_lit ?_
  refine seq_val (.pointer (some ⟨g2, 1, none⟩)) 14 rfl kj kj ?_
  have r2_2 := (row_ext r2_1 e2)
  refine seq_val (.slice a_s sealed.length c_s) 15 rfl kj (run_loadC1 26 _ g2 1 74 _ (.slice a_s sealed.length c_s) _ r2_2 rfl kj kj kj) ?_
  refine seq_val (.int .i64 ((sealed.length : Nat) : Int)) 16 rfl kj kj ?_
  refine seq_val (.bool false) 17 rfl kj (run_eq (u := .bool (decide (((sealed.length : Nat) : Int) < 70000))) kj (congrArg Value.bool (decide_eq_false (by omega)))) ?_
  refine seq_val (.bool false) 18 rfl kj kj ?_
  refine seq_skip 19 rfl kj ?_
  refine seq_skip 20 rfl kj ?_
  refine seq_skip 21 rfl kj ?_
  refine seq_skip 22 rfl kj ?_
  refine seq_val (.bool false) 23 rfl kj kj ?_
  refine seq_val (.bool true) 24 rfl kj kj ?_
  refine seq_nil ?_
  refine hK6 _ _ ?_
  try clear hK6 K6
  refine cond_true kj ?_
  refine wp_seq_k fun K7 hK7 => ?_
  refine region_lit ?_
  refine seq_val (.bool true) 2 rfl kj kj ?_
  refine seq_nil ?_
  refine hK7 _ _ ?_
  try clear hK7 K7
  refine wp_ret ?_
  repeat (first | with_reducible refine goR1 ?_ | with_reducible refine goR2 ?_)
  exact (show bodyPost _ _ _ .ret _ _ from ret1 (.bool true) rfl (res_tmp kj) ⟨rfl, x2⟩)
set_option maxHeartbeats 4000000 in
theorem lawWelcome_B (nm : Int) (sealed info : List Int) (a_s : Option Addr) (c_s : Nat) (a_i : Option Addr) (c_i : Nat) (w : World) (hsb : AreBytes sealed) (hib : AreBytes info) (hs : RdK .u8 w.heap.size sealed (.slice a_s sealed.length c_s) w) (hi : RdK .u8 w.heap.size info (.slice a_i info.length c_i) w) (hl1 : sealed.length < 70000) (hl2 : 70000 ≤ info.length) : Calls Try.prog 7 #[.agg (cat [#[.int .i64 nm], #[.slice a_s sealed.length c_s], #[.slice a_i info.length c_i]])] w (Ret w (.bool true)) := by
  refine enter 78 [(0, .agg (cat [#[.int .i64 nm], #[.slice a_s sealed.length c_s], #[.slice a_i info.length c_i]]))] Try.func7 rfl rfl kj rfl ?_
  refine wp_seq_k fun K1 hK1 => ?_
  refine region_lit ?_
  refine seq_alloc (cat [#[.int .i64 nm], #[.slice a_s sealed.length c_s], #[.slice a_i info.length c_i]]) 74 1 rfl kj kj fun g2 W1 l2 e1 r2_1 => ?_
  have x1 : Ext w W1 := Ext.tr (Rely.Ext.refl w) e1
  have b2 : w.heap.size ≤ g2 := Nat.le_trans (Rely.Ext.refl w).size l2
  refine seq_val (.bool false) 2 rfl kj kj ?_
  refine seq_nil ?_
  refine hK1 _ _ ?_
  try clear hK1 K1
  refine wp_seq_k fun K3 hK3 => ?_
  refine wp_seq_k fun K4 hK4 => ?_
  refine region_lit ?_
  refine seq_call (.bool true) 12 #[] 12 rfl kj kj ((alive9) _) fun W2 e2 => ?_
  have x2 : Ext w W2 := Ext.tr x1 e2
  refine seq_val (.bool false) 13 rfl kj kj ?_
  refine seq_nil ?_
  refine hK4 _ _ ?_
  try clear hK4 K4
  refine cond_false kj ?_
  refine wp_skip ?_
  refine hK3 _ _ ?_
  try clear hK3 K3
  refine wp_seq_k fun K5 hK5 => ?_
  refine wp_seq_k fun K6 hK6 => ?_
  refine region_lit ?_
  refine seq_val (.pointer (some ⟨g2, 1, none⟩)) 14 rfl kj kj ?_
  have r2_2 := (row_ext r2_1 e2)
  refine seq_val (.slice a_s sealed.length c_s) 15 rfl kj (run_loadC1 26 _ g2 1 74 _ (.slice a_s sealed.length c_s) _ r2_2 rfl kj kj kj) ?_
  refine seq_val (.int .i64 ((sealed.length : Nat) : Int)) 16 rfl kj kj ?_
  refine seq_val (.bool true) 17 rfl kj (run_eq (u := .bool (decide (((sealed.length : Nat) : Int) < 70000))) kj (congrArg Value.bool (decide_eq_true (by omega)))) ?_
  refine seq_val (.bool true) 18 rfl kj kj ?_
  refine seq_val (.pointer (some ⟨g2, 2, none⟩)) 19 rfl kj kj ?_
  refine seq_val (.slice a_i info.length c_i) 20 rfl kj (run_loadC1 26 _ g2 2 74 _ (.slice a_i info.length c_i) _ r2_2 rfl kj kj kj) ?_
  refine seq_val (.int .i64 ((info.length : Nat) : Int)) 21 rfl kj kj ?_
  refine seq_val (.bool false) 22 rfl kj (run_eq (u := .bool (decide (((info.length : Nat) : Int) < 70000))) kj (congrArg Value.bool (decide_eq_false (by omega)))) ?_
  refine seq_val (.bool false) 23 rfl kj kj ?_
  refine seq_val (.bool true) 24 rfl kj kj ?_
  refine seq_nil ?_
  refine hK6 _ _ ?_
  try clear hK6 K6
  refine cond_true kj ?_
  refine wp_seq_k fun K7 hK7 => ?_
  refine region_lit ?_
  refine seq_val (.bool true) 2 rfl kj kj ?_
  refine seq_nil ?_
  refine hK7 _ _ ?_
  try clear hK7 K7
  refine wp_ret ?_
  repeat (first | with_reducible refine goR1 ?_ | with_reducible refine goR2 ?_)
  exact (show bodyPost _ _ _ .ret _ _ from ret1 (.bool true) rfl (res_tmp kj) ⟨rfl, x2⟩)
set_option maxHeartbeats 4000000 in
theorem lawWelcome_N (nm : Int) (sealed info : List Int) (a_s : Option Addr) (c_s : Nat) (a_i : Option Addr) (c_i : Nat) (w : World) (hsb : AreBytes sealed) (hib : AreBytes info) (hs : RdK .u8 w.heap.size sealed (.slice a_s sealed.length c_s) w) (hi : RdK .u8 w.heap.size info (.slice a_i info.length c_i) w) (hl1 : sealed.length < 70000) (hl2 : info.length < 70000) (hS : refW nm sealed info = none) : Calls Try.prog 7 #[.agg (cat [#[.int .i64 nm], #[.slice a_s sealed.length c_s], #[.slice a_i info.length c_i]])] w (Ret w (.bool true)) := by
  refine enter 78 [(0, .agg (cat [#[.int .i64 nm], #[.slice a_s sealed.length c_s], #[.slice a_i info.length c_i]]))] Try.func7 rfl rfl kj rfl ?_
  refine wp_seq_k fun K1 hK1 => ?_
  refine region_lit ?_
  refine seq_alloc (cat [#[.int .i64 nm], #[.slice a_s sealed.length c_s], #[.slice a_i info.length c_i]]) 74 1 rfl kj kj fun g2 W1 l2 e1 r2_1 => ?_
  have x1 : Ext w W1 := Ext.tr (Rely.Ext.refl w) e1
  have b2 : w.heap.size ≤ g2 := Nat.le_trans (Rely.Ext.refl w).size l2
  refine seq_val (.bool false) 2 rfl kj kj ?_
  refine seq_nil ?_
  refine hK1 _ _ ?_
  try clear hK1 K1
  refine wp_seq_k fun K3 hK3 => ?_
  refine wp_seq_k fun K4 hK4 => ?_
  refine region_lit ?_
  refine seq_call (.bool true) 12 #[] 12 rfl kj kj ((alive9) _) fun W2 e2 => ?_
  have x2 : Ext w W2 := Ext.tr x1 e2
  refine seq_val (.bool false) 13 rfl kj kj ?_
  refine seq_nil ?_
  refine hK4 _ _ ?_
  try clear hK4 K4
  refine cond_false kj ?_
  refine wp_skip ?_
  refine hK3 _ _ ?_
  try clear hK3 K3
  refine wp_seq_k fun K5 hK5 => ?_
  refine wp_seq_k fun K6 hK6 => ?_
  refine region_lit ?_
  refine seq_val (.pointer (some ⟨g2, 1, none⟩)) 14 rfl kj kj ?_
  have r2_2 := (row_ext r2_1 e2)
  refine seq_val (.slice a_s sealed.length c_s) 15 rfl kj (run_loadC1 26 _ g2 1 74 _ (.slice a_s sealed.length c_s) _ r2_2 rfl kj kj kj) ?_
  refine seq_val (.int .i64 ((sealed.length : Nat) : Int)) 16 rfl kj kj ?_
  refine seq_val (.bool true) 17 rfl kj (run_eq (u := .bool (decide (((sealed.length : Nat) : Int) < 70000))) kj (congrArg Value.bool (decide_eq_true (by omega)))) ?_
  refine seq_val (.bool true) 18 rfl kj kj ?_
  refine seq_val (.pointer (some ⟨g2, 2, none⟩)) 19 rfl kj kj ?_
  refine seq_val (.slice a_i info.length c_i) 20 rfl kj (run_loadC1 26 _ g2 2 74 _ (.slice a_i info.length c_i) _ r2_2 rfl kj kj kj) ?_
  refine seq_val (.int .i64 ((info.length : Nat) : Int)) 21 rfl kj kj ?_
  refine seq_val (.bool true) 22 rfl kj (run_eq (u := .bool (decide (((info.length : Nat) : Int) < 70000))) kj (congrArg Value.bool (decide_eq_true (by omega)))) ?_
  refine seq_val (.bool true) 23 rfl kj kj ?_
  refine seq_val (.bool false) 24 rfl kj kj ?_
  refine seq_nil ?_
  refine hK6 _ _ ?_
  try clear hK6 K6
  refine cond_false kj ?_
  refine wp_skip ?_
  refine hK5 _ _ ?_
  try clear hK5 K5
  refine wp_seq_k fun K7 hK7 => ?_
  refine region_lit ?_
  refine seq_val (.agg (cat [#[.int .i64 nm], #[.slice a_s sealed.length c_s], #[.slice a_i info.length c_i]])) 26 rfl kj (run_load_row 74 _ g2 74 _ _ r2_2 rfl kj kj (isz (n := 3) kj kj)) ?_
  refine seq_callR (fun v W' => (PutR W2.heap.size none) v W' ∧ Ext W2 W') 31 #[.agg (cat [#[.int .i64 nm], #[.slice a_s sealed.length c_s], #[.slice a_i info.length c_i]])] 27 rfl kj kj ((PutWelcome_N nm sealed info _ _ _ _ _ (by omega) hsb (by omega) hib (RdK.here (RdK.ext hs x2)) (RdK.here (RdK.ext hi x2)) ((welcS_eq nm sealed info).trans hS)).mono (by rintro e w' ⟨v, rfl, e1, hv⟩; exact ⟨v, rfl, hv, e1⟩)) fun vv8 W3 hh8 => ?_
  obtain ⟨hv8, e3⟩ := hh8
  have x3 : Ext w W3 := Ext.tr x2 e3
  have hv3 : vv8 = .tuple #[.slice none 0 0, .iface 102 (.int .i64 3)] := hv8
  subst hv3
  refine seq_val (.tuple #[.slice none 0 0, .iface 102 (.int .i64 3)]) 25 rfl kj kj ?_
  refine seq_val (.slice none 0 0) 28 rfl kj kj ?_
  refine seq_val (.iface 102 (.int .i64 3)) 29 rfl kj kj ?_
  refine seq_val (.slice none 0 0) 3 rfl kj kj ?_
  refine seq_val (.iface 102 (.int .i64 3)) 4 rfl kj kj ?_
  refine seq_nil ?_
  refine hK7 _ _ ?_
  try clear hK7 K7
  refine wp_seq_k fun K9 hK9 => ?_
  refine region_lit ?_
  have r2_3 := (row_ext r2_2 e3)
  refine seq_val (.agg (cat [#[.int .i64 nm], #[.slice a_s sealed.length c_s], #[.slice a_i info.length c_i]])) 31 rfl kj (run_load_row 74 _ g2 74 _ _ r2_3 rfl kj kj (isz (n := 3) kj kj)) ?_
  refine seq_callR (fun v W' => (WantR W3.heap.size (refW nm sealed info)) v W' ∧ Ext W3 W') 32 #[.agg (cat [#[.int .i64 nm], #[.slice a_s sealed.length c_s], #[.slice a_i info.length c_i]])] 32 rfl kj kj ((rPutWelcomeC nm sealed info _ _ _ _ _ (by omega) hsb (by omega) hib (RdK.here (RdK.ext hs x3)) (RdK.here (RdK.ext hi x3))).mono (by rintro e w' ⟨v, rfl, e1, hv⟩; exact ⟨v, rfl, hv, e1⟩)) fun vv10 W4 hh10 => ?_
  obtain ⟨hv10, e4⟩ := hh10
  have x4 : Ext w W4 := Ext.tr x3 e4
  rw [hS] at hv10
  have hv4 : vv10 = .tuple #[.slice none 0 0, .bool false] := hv10
  subst hv4
  refine seq_val (.tuple #[.slice none 0 0, .bool false]) 30 rfl kj kj ?_
  refine seq_val (.slice none 0 0) 33 rfl kj kj ?_
  refine seq_val (.bool false) 34 rfl kj kj ?_
  refine seq_val (.slice none 0 0) 5 rfl kj kj ?_
  refine seq_val (.bool false) 6 rfl kj kj ?_
  refine seq_nil ?_
  refine hK9 _ _ ?_
  try clear hK9 K9
  refine wp_seq_k fun K12 hK12 => ?_
  refine wp_seq_k fun K13 hK13 => ?_
  refine region_lit ?_
  refine seq_val (.slice none 0 0) 35 rfl kj kj ?_
  refine seq_val (.iface 102 (.int .i64 3)) 36 rfl kj kj ?_
  refine seq_val (.slice none 0 0) 37 rfl kj kj ?_
  refine seq_val (.bool false) 38 rfl kj kj ?_
  refine seq_call (.bool true) 16 #[.slice none 0 0, .iface 102 (.int .i64 3), .slice none 0 0, .bool false] 39 rfl kj kj ((answer_N _) _) fun W5 e5 => ?_
  have x5 : Ext w W5 := Ext.tr x4 e5
  refine seq_val (.bool false) 40 rfl kj kj ?_
  refine seq_nil ?_
  refine hK13 _ _ ?_
  try clear hK13 K13
  refine cond_false kj ?_
  refine wp_skip ?_
  refine hK12 _ _ ?_
  try clear hK12 K12
  refine wp_seq_k fun K14 hK14 => ?_
  refine wp_seq_k fun K15 hK15 => ?_
  refine region_lit ?_
  refine seq_val (.bool false) 41 rfl kj kj ?_
  refine seq_val (.bool true) 42 rfl kj kj ?_
  refine seq_nil ?_
  refine hK15 _ _ ?_
  try clear hK15 K15
  refine cond_true kj ?_
  refine wp_seq_k fun K16 hK16 => ?_
  refine region_lit ?_
  refine seq_val (.bool true) 2 rfl kj kj ?_
  refine seq_nil ?_
  refine hK16 _ _ ?_
  try clear hK16 K16
  refine wp_ret ?_
  repeat (first | with_reducible refine goR1 ?_ | with_reducible refine goR2 ?_)
  exact (show bodyPost _ _ _ .ret _ _ from ret1 (.bool true) rfl (res_tmp kj) ⟨rfl, x5⟩)
set_option maxHeartbeats 4000000 in
theorem lawWelcome_S (nm : Int) (sealed info : List Int) (a_s : Option Addr) (c_s : Nat) (a_i : Option Addr) (c_i : Nat) (w : World) (hsb : AreBytes sealed) (hib : AreBytes info) (hs : RdK .u8 w.heap.size sealed (.slice a_s sealed.length c_s) w) (hi : RdK .u8 w.heap.size info (.slice a_i info.length c_i) w) (hl1 : sealed.length < 70000) (hl2 : info.length < 70000) (bs : List Int) (hS : refW nm sealed info = some bs) : Calls Try.prog 7 #[.agg (cat [#[.int .i64 nm], #[.slice a_s sealed.length c_s], #[.slice a_i info.length c_i]])] w (Ret w (.bool true)) := by
  obtain ⟨hR0, hf0, hf1, hf2, hbl, hpos⟩ := welc_back nm sealed info bs hS
  have hbb := welc_bytes nm sealed info bs hsb hib hS
  refine enter 78 [(0, .agg (cat [#[.int .i64 nm], #[.slice a_s sealed.length c_s], #[.slice a_i info.length c_i]]))] Try.func7 rfl rfl kj rfl ?_
  refine wp_seq_k fun K1 hK1 => ?_
  refine region_lit ?_
  refine seq_alloc (cat [#[.int .i64 nm], #[.slice a_s sealed.length c_s], #[.slice a_i info.length c_i]]) 74 1 rfl kj kj fun g2 W1 l2 e1 r2_1 => ?_
  have x1 : Ext w W1 := Ext.tr (Rely.Ext.refl w) e1
  have b2 : w.heap.size ≤ g2 := Nat.le_trans (Rely.Ext.refl w).size l2
  refine seq_val (.bool false) 2 rfl kj kj ?_
  refine seq_nil ?_
  refine hK1 _ _ ?_
  try clear hK1 K1
  refine wp_seq_k fun K3 hK3 => ?_
  refine wp_seq_k fun K4 hK4 => ?_
  refine region_lit ?_
  refine seq_call (.bool true) 12 #[] 12 rfl kj kj ((alive9) _) fun W2 e2 => ?_
  have x2 : Ext w W2 := Ext.tr x1 e2
  refine seq_val (.bool false) 13 rfl kj kj ?_
  refine seq_nil ?_
  refine hK4 _ _ ?_
  try clear hK4 K4
  refine cond_false kj ?_
  refine wp_skip ?_
  refine hK3 _ _ ?_
  try clear hK3 K3
  refine wp_seq_k fun K5 hK5 => ?_
  refine wp_seq_k fun K6 hK6 => ?_
  refine region_lit ?_
  refine seq_val (.pointer (some ⟨g2, 1, none⟩)) 14 rfl kj kj ?_
  have r2_2 := (row_ext r2_1 e2)
  refine seq_val (.slice a_s sealed.length c_s) 15 rfl kj (run_loadC1 26 _ g2 1 74 _ (.slice a_s sealed.length c_s) _ r2_2 rfl kj kj kj) ?_
  refine seq_val (.int .i64 ((sealed.length : Nat) : Int)) 16 rfl kj kj ?_
  refine seq_val (.bool true) 17 rfl kj (run_eq (u := .bool (decide (((sealed.length : Nat) : Int) < 70000))) kj (congrArg Value.bool (decide_eq_true (by omega)))) ?_
  refine seq_val (.bool true) 18 rfl kj kj ?_
  refine seq_val (.pointer (some ⟨g2, 2, none⟩)) 19 rfl kj kj ?_
  refine seq_val (.slice a_i info.length c_i) 20 rfl kj (run_loadC1 26 _ g2 2 74 _ (.slice a_i info.length c_i) _ r2_2 rfl kj kj kj) ?_
  refine seq_val (.int .i64 ((info.length : Nat) : Int)) 21 rfl kj kj ?_
  refine seq_val (.bool true) 22 rfl kj (run_eq (u := .bool (decide (((info.length : Nat) : Int) < 70000))) kj (congrArg Value.bool (decide_eq_true (by omega)))) ?_
  refine seq_val (.bool true) 23 rfl kj kj ?_
  refine seq_val (.bool false) 24 rfl kj kj ?_
  refine seq_nil ?_
  refine hK6 _ _ ?_
  try clear hK6 K6
  refine cond_false kj ?_
  refine wp_skip ?_
  refine hK5 _ _ ?_
  try clear hK5 K5
  refine wp_seq_k fun K7 hK7 => ?_
  refine region_lit ?_
  refine seq_val (.agg (cat [#[.int .i64 nm], #[.slice a_s sealed.length c_s], #[.slice a_i info.length c_i]])) 26 rfl kj (run_load_row 74 _ g2 74 _ _ r2_2 rfl kj kj (isz (n := 3) kj kj)) ?_
  refine seq_callR (fun v W' => (PutR W2.heap.size (some bs)) v W' ∧ Ext W2 W') 31 #[.agg (cat [#[.int .i64 nm], #[.slice a_s sealed.length c_s], #[.slice a_i info.length c_i]])] 27 rfl kj kj ((PutWelcome_S nm sealed info _ _ _ _ _ (by omega) hsb (by omega) hib (RdK.here (RdK.ext hs x2)) (RdK.here (RdK.ext hi x2)) bs ((welcS_eq nm sealed info).trans hS)).mono (by rintro e w' ⟨v, rfl, e1, hv⟩; exact ⟨v, rfl, hv, e1⟩)) fun vv8 W3 hh8 => ?_
  obtain ⟨hv8, e3⟩ := hh8
  have x3 : Ext w W3 := Ext.tr x2 e3
  obtain ⟨ub, rfl, hub⟩ := hv8
  obtain ⟨gb, cb, rb_, rfl, lb, rowb, hcb⟩ := ownN_rest hub rfl hpos
  have lo0b : w.heap.size ≤ gb := Nat.le_trans x2.size lb
  refine seq_val (.tuple #[.slice (some ⟨gb, 0, none⟩) bs.length cb, .nilIface]) 25 rfl kj kj ?_
  refine seq_val (.slice (some ⟨gb, 0, none⟩) bs.length cb) 28 rfl kj kj ?_
  refine seq_val (.nilIface) 29 rfl kj kj ?_
  refine seq_val (.slice (some ⟨gb, 0, none⟩) bs.length cb) 3 rfl kj kj ?_
  refine seq_val (.nilIface) 4 rfl kj kj ?_
  refine seq_nil ?_
  refine hK7 _ _ ?_
  try clear hK7 K7
  refine wp_seq_k fun K10 hK10 => ?_
  refine region_lit ?_
  have r2_3 := (row_ext r2_2 e3)
  refine seq_val (.agg (cat [#[.int .i64 nm], #[.slice a_s sealed.length c_s], #[.slice a_i info.length c_i]])) 31 rfl kj (run_load_row 74 _ g2 74 _ _ r2_3 rfl kj kj (isz (n := 3) kj kj)) ?_
  refine seq_callR (fun v W' => (WantR W3.heap.size (refW nm sealed info)) v W' ∧ Ext W3 W') 32 #[.agg (cat [#[.int .i64 nm], #[.slice a_s sealed.length c_s], #[.slice a_i info.length c_i]])] 32 rfl kj kj ((rPutWelcomeC nm sealed info _ _ _ _ _ (by omega) hsb (by omega) hib (RdK.here (RdK.ext hs x3)) (RdK.here (RdK.ext hi x3))).mono (by rintro e w' ⟨v, rfl, e1, hv⟩; exact ⟨v, rfl, hv, e1⟩)) fun vv11 W4 hh11 => ?_
  obtain ⟨hv11, e4⟩ := hh11
  have x4 : Ext w W4 := Ext.tr x3 e4
  rw [hS] at hv11
  obtain ⟨u12_, rfl, hu12_⟩ := hv11
  obtain ⟨ar12_, cr12_, rfl, -⟩ := id (OwnN.rd hu12_)
  refine seq_val (.tuple #[.slice ar12_ ((bs).length) cr12_, .bool true]) 30 rfl kj kj ?_
  refine seq_val (.slice ar12_ ((bs).length) cr12_) 33 rfl kj kj ?_
  refine seq_val (.bool true) 34 rfl kj kj ?_
  refine seq_val (.slice ar12_ ((bs).length) cr12_) 5 rfl kj kj ?_
  refine seq_val (.bool true) 6 rfl kj kj ?_
  refine seq_nil ?_
  refine hK10 _ _ ?_
  try clear hK10 K10
  refine wp_seq_k fun K13 hK13 => ?_
  refine wp_seq_k fun K14 hK14 => ?_
  refine region_lit ?_
  refine seq_val (.slice (some ⟨gb, 0, none⟩) bs.length cb) 35 rfl kj kj ?_
  refine seq_val (.nilIface) 36 rfl kj kj ?_
  refine seq_val (.slice ar12_ ((bs).length) cr12_) 37 rfl kj kj ?_
  refine seq_val (.bool true) 38 rfl kj kj ?_
  have r9_4 := (row_ext rowb e4)
  refine seq_call (.bool true) 16 #[.slice (some ⟨gb, 0, none⟩) bs.length cb, .nilIface, .slice ar12_ ((bs).length) cr12_, .bool true] 39 rfl kj kj (answer_S _ _ bs _ (RdK.bytes (rdK_rest (rfl) r9_4 hcb) hbb) (RdK.bytes (OwnN.rd hu12_) hbb)) fun W5 e5 => ?_
  have x5 : Ext w W5 := Ext.tr x4 e5
  refine seq_val (.bool false) 40 rfl kj kj ?_
  refine seq_nil ?_
  refine hK14 _ _ ?_
  try clear hK14 K14
  refine cond_false kj ?_
  refine wp_skip ?_
  refine hK13 _ _ ?_
  try clear hK13 K13
  refine wp_seq_k fun K15 hK15 => ?_
  refine wp_seq_k fun K16 hK16 => ?_
  refine region_lit ?_
  refine seq_val (.bool true) 41 rfl kj kj ?_
  refine seq_val (.bool false) 42 rfl kj kj ?_
  refine seq_nil ?_
  refine hK16 _ _ ?_
  try clear hK16 K16
  refine cond_false kj ?_
  refine wp_skip ?_
  refine hK15 _ _ ?_
  try clear hK15 K15
  refine wp_seq_k fun K17 hK17 => ?_
  refine region_lit ?_
  refine seq_val (.slice (some ⟨gb, 0, none⟩) bs.length cb) 44 rfl kj kj ?_
  have r9_5 := (row_ext r9_4 e5)
  refine seq_callR (fun v W' => (fun v W => ∃ (a_s : Option Addr) (c_s : Nat) (a_i : Option Addr) (c_i : Nat), v = .tuple #[.agg (cat [#[.int .i64 (wNm (startS bs))], #[.slice a_s (wSe (startS bs)).length c_s], #[.slice a_i (wIn (startS bs)).length c_i]]), .nilIface] ∧ (OwnN .u8 5 W5.heap.size (wSe (startS bs)) (.slice a_s (wSe (startS bs)).length c_s) W ∧ AreBytes (wSe (startS bs)) ∧ (wSe (startS bs)).length ≤ 65535) ∧ OwnN .u8 5 W5.heap.size (wIn (startS bs)) (.slice a_i (wIn (startS bs)).length c_i) W ∧ AreBytes (wIn (startS bs)) ∧ (wIn (startS bs)).length ≤ 65535) v W' ∧ Ext W5 W') 33 #[.slice (some ⟨gb, 0, none⟩) bs.length cb] 45 rfl kj kj ((rTakeWelcome_B bs _ _ _ hbb (RdK.here (rdK_rest (rfl) r9_5 hcb)) hR0).mono (by rintro e w' ⟨v, rfl, e1, hv⟩; exact ⟨v, rfl, hv, e1⟩)) fun vv18 W6 hh18 => ?_
  obtain ⟨hv18, e6⟩ := hh18
  have x6 : Ext w W6 := Ext.tr x5 e6
  replace hv18 : ∃ (a_s : Option Addr) (c_s : Nat) (a_i : Option Addr) (c_i : Nat), vv18 = .tuple #[.agg (cat [#[.int .i64 (wNm (startS bs))], #[.slice a_s (wSe (startS bs)).length c_s], #[.slice a_i (wIn (startS bs)).length c_i]]), .nilIface] ∧ (OwnN .u8 5 W5.heap.size (wSe (startS bs)) (.slice a_s (wSe (startS bs)).length c_s) W6 ∧ AreBytes (wSe (startS bs)) ∧ (wSe (startS bs)).length ≤ 65535) ∧ OwnN .u8 5 W5.heap.size (wIn (startS bs)) (.slice a_i (wIn (startS bs)).length c_i) W6 ∧ AreBytes (wIn (startS bs)) ∧ (wIn (startS bs)).length ≤ 65535 := hv18
  rw [hf0, hf1, hf2] at hv18
  obtain ⟨a19sealed_, c19sealed_, a19info_, c19info_, rfl, ⟨ho19sealed, -, -⟩, ⟨ho19info, -, -⟩⟩ := hv18
  refine seq_val (.tuple #[.agg (cat [#[.int .i64 nm], #[.slice a19sealed_ sealed.length c19sealed_], #[.slice a19info_ info.length c19info_]]), .nilIface]) 43 rfl kj kj ?_
  refine seq_val (.agg (cat [#[.int .i64 nm], #[.slice a19sealed_ sealed.length c19sealed_], #[.slice a19info_ info.length c19info_]])) 46 rfl kj kj ?_
  refine seq_val (.nilIface) 47 rfl kj kj ?_
  refine seq_alloc (cat [#[.int .i64 0], #[.slice none 0 0], #[.slice none 0 0]]) 74 7 rfl kj kj fun g20 W7 l20 e7 r20_7 => ?_
  have x7 : Ext w W7 := Ext.tr x6 e7
  have b20 : w.heap.size ≤ g20 := Nat.le_trans x6.size l20
  refine seq_store g20 _ (cat [#[.int .i64 nm], #[.slice a19sealed_ sealed.length c19sealed_], #[.slice a19info_ info.length c19info_]]) 74 r20_7 rfl kj (run_store_row 74 _ _ g20 74 _ _ r20_7 rfl kj kj (isz (n := 3) kj kj) (eqsz (n := 3) kj kj) kj) fun W8 p8 r20_8 => ?_
  have x8 : Ext w W8 := Puts.ext p8 x7 b20
  refine seq_val (.nilIface) 4 rfl kj kj ?_
  refine seq_nil ?_
  refine hK17 _ _ ?_
  try clear hK17 K17
  refine wp_seq_k fun K21 hK21 => ?_
  refine region_lit ?_
  refine seq_val (.agg (cat [#[.int .i64 nm], #[.slice a19sealed_ sealed.length c19sealed_], #[.slice a19info_ info.length c19info_]])) 49 rfl kj (run_load_row 74 _ g20 74 _ _ r20_8 rfl kj kj (isz (n := 3) kj kj)) ?_
  have f22_7 := (ho19sealed.ext e7)
  have f23_8 := (f22_7.puts p8 (nb_new ho19sealed l20))
  have f24_7 := (ho19info.ext e7)
  have f25_8 := (f24_7.puts p8 (nb_new ho19info l20))
  refine seq_callR (fun v W' => (WantR W8.heap.size (refW nm sealed info)) v W' ∧ Ext W8 W') 32 #[.agg (cat [#[.int .i64 nm], #[.slice a19sealed_ sealed.length c19sealed_], #[.slice a19info_ info.length c19info_]])] 50 rfl kj kj ((rPutWelcomeC nm sealed info _ _ _ _ _ (by omega) hsb (by omega) hib (RdK.here (OwnN.rd f23_8)) (RdK.here (OwnN.rd f25_8))).mono (by rintro e w' ⟨v, rfl, e1, hv⟩; exact ⟨v, rfl, hv, e1⟩)) fun vv26 W9 hh26 => ?_
  obtain ⟨hv26, e9⟩ := hh26
  have x9 : Ext w W9 := Ext.tr x8 e9
  rw [hS] at hv26
  obtain ⟨u27_, rfl, hu27_⟩ := hv26
  obtain ⟨ar27_, cr27_, rfl, -⟩ := id (OwnN.rd hu27_)
  refine seq_val (.tuple #[.slice ar27_ ((bs).length) cr27_, .bool true]) 48 rfl kj kj ?_
  refine seq_val (.slice ar27_ ((bs).length) cr27_) 51 rfl kj kj ?_
  refine seq_val (.bool true) 52 rfl kj kj ?_
  refine seq_val (.slice ar27_ ((bs).length) cr27_) 8 rfl kj kj ?_
  refine seq_val (.bool true) 9 rfl kj kj ?_
  refine seq_nil ?_
  refine hK21 _ _ ?_
  try clear hK21 K21
  refine wp_seq_k fun K28 hK28 => ?_
  refine region_lit ?_
  refine seq_val (.slice (some ⟨gb, 0, none⟩) bs.length cb) 53 rfl kj kj ?_
  have r9_6 := (row_ext r9_5 e6)
  have r9_7 := (row_ext r9_6 e7)
  have r9_8 := (Puts.row p8 r9_7 (ne_of_old r9_6 l20))
  have r9_9 := (row_ext r9_8 e9)
  refine seq_callR (fun v W' => v = .tuple #[] ∧ ExtB gb W9 W') 18 #[.slice (some ⟨gb, 0, none⟩) bs.length cb] 54 rfl kj kj ((overC gb bs.length cb bs rb_ _ (by omega) rfl r9_9).mono fun e w' h => ⟨_, h.1, rfl, h.2⟩) fun v29 W10 h29 => ?_
  obtain ⟨rfl, q10⟩ := h29
  have x10 : Ext w W10 := ExtB.toExt x9 q10 lo0b
  refine seq_nil ?_
  refine hK28 _ _ ?_
  try clear hK28 K28
  refine wp_seq_k fun K30 hK30 => ?_
  refine region_lit ?_
  have r20_9 := (row_ext r20_8 e9)
  have r20_10 := (ExtB.row q10 r20_9 (ne_of_new r9_6 l20))
  refine seq_val (.agg (cat [#[.int .i64 nm], #[.slice a19sealed_ sealed.length c19sealed_], #[.slice a19info_ info.length c19info_]])) 56 rfl kj (run_load_row 74 _ g20 74 _ _ r20_10 rfl kj kj (isz (n := 3) kj kj)) ?_
  have f31_9 := (f23_8.ext e9)
  have f32_10 := (ownN_but f31_9 q10 (nb_old ho19sealed (row_lt r9_5)))
  have f33_9 := (f25_8.ext e9)
  have f34_10 := (ownN_but f33_9 q10 (nb_old ho19info (row_lt r9_5)))
  refine seq_callR (fun v W' => (WantR W10.heap.size (refW nm sealed info)) v W' ∧ Ext W10 W') 32 #[.agg (cat [#[.int .i64 nm], #[.slice a19sealed_ sealed.length c19sealed_], #[.slice a19info_ info.length c19info_]])] 57 rfl kj kj ((rPutWelcomeC nm sealed info _ _ _ _ _ (by omega) hsb (by omega) hib (RdK.here (OwnN.rd f32_10)) (RdK.here (OwnN.rd f34_10))).mono (by rintro e w' ⟨v, rfl, e1, hv⟩; exact ⟨v, rfl, hv, e1⟩)) fun vv35 W11 hh35 => ?_
  obtain ⟨hv35, e11⟩ := hh35
  have x11 : Ext w W11 := Ext.tr x10 e11
  rw [hS] at hv35
  obtain ⟨u36_, rfl, hu36_⟩ := hv35
  obtain ⟨ar36_, cr36_, rfl, -⟩ := id (OwnN.rd hu36_)
  refine seq_val (.tuple #[.slice ar36_ ((bs).length) cr36_, .bool true]) 55 rfl kj kj ?_
  refine seq_val (.slice ar36_ ((bs).length) cr36_) 58 rfl kj kj ?_
  refine seq_val (.bool true) 59 rfl kj kj ?_
  refine seq_val (.slice ar36_ ((bs).length) cr36_) 10 rfl kj kj ?_
  refine seq_val (.bool true) 11 rfl kj kj ?_
  refine seq_nil ?_
  refine hK30 _ _ ?_
  try clear hK30 K30
  refine wp_seq_k fun K37 hK37 => ?_
  refine region_lit ?_
  refine seq_val (.nilIface) 60 rfl kj kj ?_
  refine seq_val (.bool true) 61 rfl kj kj ?_
  refine seq_val (.bool true) 62 rfl kj kj ?_
  refine seq_val (.bool true) 63 rfl kj kj ?_
  refine seq_val (.bool true) 64 rfl kj kj ?_
  refine seq_val (.bool true) 65 rfl kj kj ?_
  refine seq_val (.bool true) 66 rfl kj kj ?_
  refine seq_val (.bool true) 67 rfl kj kj ?_
  refine seq_val (.bool true) 68 rfl kj kj ?_
  refine seq_val (.slice ar27_ ((bs).length) cr27_) 69 rfl kj kj ?_
  refine seq_val (.slice ar12_ ((bs).length) cr12_) 70 rfl kj kj ?_
  have f38_10 := (ownN_but hu27_ q10 (nb_old hu27_ (row_lt r9_8)))
  have f39_11 := (f38_10.ext e11)
  have f40_5 := (hu12_.ext e5)
  have f41_6 := (f40_5.ext e6)
  have f42_7 := (f41_6.ext e7)
  have f43_8 := (f42_7.puts p8 (nb_new f41_6 l20))
  have f44_9 := (f43_8.ext e9)
  have f45_10 := (ownN_but f44_9 q10 (nb_old hu12_ (row_lt rowb)))
  have f46_11 := (f45_10.ext e11)
  refine seq_call (.bool true) 19 #[.slice ar27_ ((bs).length) cr27_, .slice ar12_ ((bs).length) cr12_] 71 rfl kj kj (sameT _ _ _ _ _ rfl (RdK.bytes (OwnN.rd f39_11) hbb) (RdK.bytes (OwnN.rd f46_11) hbb)) fun W12 e12 => ?_
  have x12 : Ext w W12 := Ext.tr x11 e12
  refine seq_val (.bool true) 72 rfl kj kj ?_
  refine seq_val (.bool true) 73 rfl kj kj ?_
  refine seq_val (.slice ar36_ ((bs).length) cr36_) 74 rfl kj kj ?_
  refine seq_val (.slice ar12_ ((bs).length) cr12_) 75 rfl kj kj ?_
  have f47_12 := (hu36_.ext e12)
  have f48_12 := (f46_11.ext e12)
  refine seq_call (.bool true) 19 #[.slice ar36_ ((bs).length) cr36_, .slice ar12_ ((bs).length) cr12_] 76 rfl kj kj (sameT _ _ _ _ _ rfl (RdK.bytes (OwnN.rd f47_12) hbb) (RdK.bytes (OwnN.rd f48_12) hbb)) fun W13 e13 => ?_
  have x13 : Ext w W13 := Ext.tr x12 e13
  refine seq_val (.bool true) 77 rfl kj kj ?_
  refine seq_val (.bool true) 2 rfl kj kj ?_
  refine seq_nil ?_
  refine hK37 _ _ ?_
  try clear hK37 K37
  refine wp_ret ?_
  repeat (first | with_reducible refine goR1 ?_ | with_reducible refine goR2 ?_)
  exact (show bodyPost _ _ _ .ret _ _ from ret1 (.bool true) rfl (res_tmp kj) ⟨rfl, x13⟩)
theorem lawWelcome (nm : Int) (sealed info : List Int) (a_s : Option Addr) (c_s : Nat) (a_i : Option Addr) (c_i : Nat) (w : World) (hsb : AreBytes sealed) (hib : AreBytes info) (hs : RdK .u8 w.heap.size sealed (.slice a_s sealed.length c_s) w) (hi : RdK .u8 w.heap.size info (.slice a_i info.length c_i) w) : Calls Try.prog 7 #[.agg (cat [#[.int .i64 nm], #[.slice a_s sealed.length c_s], #[.slice a_i info.length c_i]])] w (Ret w (.bool true)) := by
  by_cases h1 : sealed.length < 70000
  · by_cases h2 : info.length < 70000
    · skip
      cases hS : refW nm sealed info with
      | none => exact lawWelcome_N nm sealed info a_s c_s a_i c_i w hsb hib hs hi h1 h2 hS
      | some bs => exact lawWelcome_S nm sealed info a_s c_s a_i c_i w hsb hib hs hi h1 h2 bs hS
    · exact lawWelcome_B nm sealed info a_s c_s a_i c_i w hsb hib hs hi h1 (by omega)
  · exact lawWelcome_A nm sealed info a_s c_s a_i c_i w hsb hib hs hi (by omega)

end Go.Proofs.Ytfelfmchachljaa.Wr
