/- The law WirePacket. -/
import Derived.Test.YtfelfmchachljaaWrX
namespace Go.Proofs.Ytfelfmchachljaa.Wr
open Go Go.RowKit
open Go.Proofs.Ytfelfmchachljaa.Rely Go.Proofs.Ytfelfmchachljaa.Auto Go.Proofs.Ytfelfmchachljaa.Own Go.Proofs.Ytfelfmchachljaa.Sha
set_option linter.unusedVariables false
set_option linter.unusedSimpArgs false

set_option maxHeartbeats 4000000 in
theorem lawPacket_A (grp : List Int) (ep fr no : Int) (sealed : List Int) (a_s : Option Addr) (c_s : Nat) (w : World) (hgl : grp.length = 32) (hgb : AreBytes grp) (hsb : AreBytes sealed) (hs : RdK .u8 w.heap.size sealed (.slice a_s sealed.length c_s) w) (hl1 : 70000 ≤ sealed.length) : Calls Try.prog 8 #[.agg (cat [ints .u8 (grp), #[.int .i64 ep], #[.int .i64 fr], #[.int .i64 no], #[.slice a_s sealed.length c_s]])] w (Ret w (.bool true)) := by
  refine enter 72 [(0, .agg (cat [ints .u8 (grp), #[.int .i64 ep], #[.int .i64 fr], #[.int .i64 no], #[.slice a_s sealed.length c_s]]))] Try.func8 rfl rfl kj rfl ?_
  refine wp_seq_k fun K1 hK1 => ?_
  refine region_lit ?_
  refine seq_alloc (cat [ints .u8 (grp), #[.int .i64 ep], #[.int .i64 fr], #[.int .i64 no], #[.slice a_s sealed.length c_s]]) 81 1 rfl kj kj fun g2 W1 l2 e1 r2_1 => ?_
  have x1 : Ext w W1 := Ext.tr (Rely.Ext.refl w) e1
  have b2 : w.heap.size ≤ g2 := Nat.le_trans (Rely.Ext.refl w).size l2
  refine seq_val (.bool false) 2 rfl kj kj ?_
  refine seq_nil ?_
  refine hK1 _ _ ?_
  try clear hK1 K1
  refine wp_seq_k fun K3 hK3 => ?_
  refine wp_seq_k fun K4 hK4 => ?_
  refine region_lit ?_
  refine seq_call (.bool true) 12 #[] 12 rfl kj kj ((alive9) _) fun W2 e2 => ?_
  have x2 : Ext w W2 := Ext.tr x1 e2
  refine seq_val (.bool false) 13 rfl kj kj ?_
  refine seq_nil ?_
  refine hK4 _ _ ?_
  try clear hK4 K4
  refine cond_false kj ?_
  refine wp_skip ?_
  refine hK3 _ _ ?_
  try clear hK3 K3
  refine wp_seq_k fun K5 hK5 => ?_
  refine wp_seq_k fun K6 hK6 => ?_
  refine region_lit ?_
  refine seq_val (.pointer (some ⟨g2, 35, none⟩)) 14 rfl kj kj ?_
  have r2_2 := (row_ext r2_1 e2)
  refine seq_val (.slice a_s sealed.length c_s) 15 rfl kj (run_loadC1 26 _ g2 35 81 _ (.slice a_s sealed.length c_s) _ r2_2 rfl kj (cat_part [ints .u8 (grp), #[.int .i64 ep], #[.int .i64 fr], #[.int .i64 no]] [#[.slice a_s sealed.length c_s]] [] 35 (by rw [cat_cons, cat_cons, cat_cons, cat_cons]; simp only [Array.size_append, cat, ((ints_size _ _).trans hgl)]; rfl) 0 _ rfl) kj) ?_
  refine seq_val (.int .i64 ((sealed.length : Nat) : Int)) 16 rfl kj kj ?_
  refine seq_val (.bool false) 17 rfl kj (run_eq (u := .bool (decide (((sealed.length : Nat) : Int) < 70000))) kj (congrArg Value.bool (decide_eq_false (by omega)))) ?_
  refine seq_val (.bool true) 18 rfl kj kj ?_
  refine seq_nil ?_
  refine hK6 _ _ ?_
  try clear hK6 K6
  refine cond_true kj ?_
  refine wp_seq_k fun K7 hK7 => ?_
  refine region_lit ?_
  refine seq_val (.bool true) 2 rfl kj kj ?_
  refine seq_nil ?_
  refine hK7 _ _ ?_
  try clear hK7 K7
  refine wp_ret ?_
  repeat (first | with_reducible refine goR1 ?_ | with_reducible refine goR2 ?_)
  exact (show bodyPost _ _ _ .ret _ _ from ret1 (.bool true) rfl (res_tmp kj) ⟨rfl, x2⟩)
set_option maxHeartbeats 4000000 in
theorem lawPacket_N (grp : List Int) (ep fr no : Int) (sealed : List Int) (a_s : Option Addr) (c_s : Nat) (w : World) (hgl : grp.length = 32) (hgb : AreBytes grp) (hsb : AreBytes sealed) (hs : RdK .u8 w.heap.size sealed (.slice a_s sealed.length c_s) w) (hl1 : sealed.length < 70000) (hS : refP grp ep fr no sealed = none) : Calls Try.prog 8 #[.agg (cat [ints .u8 (grp), #[.int .i64 ep], #[.int .i64 fr], #[.int .i64 no], #[.slice a_s sealed.length c_s]])] w (Ret w (.bool true)) := by
  refine enter 72 [(0, .agg (cat [ints .u8 (grp), #[.int .i64 ep], #[.int .i64 fr], #[.int .i64 no], #[.slice a_s sealed.length c_s]]))] Try.func8 rfl rfl kj rfl ?_
  refine wp_seq_k fun K1 hK1 => ?_
  refine region_lit ?_
  refine seq_alloc (cat [ints .u8 (grp), #[.int .i64 ep], #[.int .i64 fr], #[.int .i64 no], #[.slice a_s sealed.length c_s]]) 81 1 rfl kj kj fun g2 W1 l2 e1 r2_1 => ?_
  have x1 : Ext w W1 := Ext.tr (Rely.Ext.refl w) e1
  have b2 : w.heap.size ≤ g2 := Nat.le_trans (Rely.Ext.refl w).size l2
  refine seq_val (.bool false) 2 rfl kj kj ?_
  refine seq_nil ?_
  refine hK1 _ _ ?_
  try clear hK1 K1
  refine wp_seq_k fun K3 hK3 => ?_
  refine wp_seq_k fun K4 hK4 => ?_
  refine region_lit ?_
  refine seq_call (.bool true) 12 #[] 12 rfl kj kj ((alive9) _) fun W2 e2 => ?_
  have x2 : Ext w W2 := Ext.tr x1 e2
  refine seq_val (.bool false) 13 rfl kj kj ?_
  refine seq_nil ?_
  refine hK4 _ _ ?_
  try clear hK4 K4
  refine cond_false kj ?_
  refine wp_skip ?_
  refine hK3 _ _ ?_
  try clear hK3 K3
  refine wp_seq_k fun K5 hK5 => ?_
  refine wp_seq_k fun K6 hK6 => ?_
  refine region_lit ?_
  refine seq_val (.pointer (some ⟨g2, 35, none⟩)) 14 rfl kj kj ?_
  have r2_2 := (row_ext r2_1 e2)
  refine seq_val (.slice a_s sealed.length c_s) 15 rfl kj (run_loadC1 26 _ g2 35 81 _ (.slice a_s sealed.length c_s) _ r2_2 rfl kj (cat_part [ints .u8 (grp), #[.int .i64 ep], #[.int .i64 fr], #[.int .i64 no]] [#[.slice a_s sealed.length c_s]] [] 35 (by rw [cat_cons, cat_cons, cat_cons, cat_cons]; simp only [Array.size_append, cat, ((ints_size _ _).trans hgl)]; rfl) 0 _ rfl) kj) ?_
  refine seq_val (.int .i64 ((sealed.length : Nat) : Int)) 16 rfl kj kj ?_
  refine seq_val (.bool true) 17 rfl kj (run_eq (u := .bool (decide (((sealed.length : Nat) : Int) < 70000))) kj (congrArg Value.bool (decide_eq_true (by omega)))) ?_
  refine seq_val (.bool false) 18 rfl kj kj ?_
  refine seq_nil ?_
  refine hK6 _ _ ?_
  try clear hK6 K6
  refine cond_false kj ?_
  refine wp_skip ?_
  refine hK5 _ _ ?_
  try clear hK5 K5
  refine wp_seq_k fun K7 hK7 => ?_
  refine region_lit ?_
  refine seq_val (.agg (cat [ints .u8 (grp), #[.int .i64 ep], #[.int .i64 fr], #[.int .i64 no], #[.slice a_s sealed.length c_s]])) 20 rfl kj (run_load_row 81 _ g2 81 _ _ r2_2 rfl kj kj (isz (n := 36) kj (by rw [cat_cons, cat_cons, cat_cons, cat_cons, cat_cons]; simp only [Array.size_append, cat, ((ints_size _ _).trans hgl)]; rfl))) ?_
  refine seq_callR (fun v W' => (PutR W2.heap.size none) v W' ∧ Ext W2 W') 34 #[.agg (cat [ints .u8 (grp), #[.int .i64 ep], #[.int .i64 fr], #[.int .i64 no], #[.slice a_s sealed.length c_s]])] 21 rfl kj kj ((PutPacket_N grp ep fr no sealed _ _ _ hgl hgb (by omega) hsb (RdK.here (RdK.ext hs x2)) ((packS_eq grp ep fr no sealed).trans hS)).mono (by rintro e w' ⟨v, rfl, e1, hv⟩; exact ⟨v, rfl, hv, e1⟩)) fun vv8 W3 hh8 => ?_
  obtain ⟨hv8, e3⟩ := hh8
  have x3 : Ext w W3 := Ext.tr x2 e3
  have hv3 : vv8 = .tuple #[.slice none 0 0, .iface 102 (.int .i64 3)] := hv8
  subst hv3
  refine seq_val (.tuple #[.slice none 0 0, .iface 102 (.int .i64 3)]) 19 rfl kj kj ?_
  refine seq_val (.slice none 0 0) 22 rfl kj kj ?_
  refine seq_val (.iface 102 (.int .i64 3)) 23 rfl kj kj ?_
  refine seq_val (.slice none 0 0) 3 rfl kj kj ?_
  refine seq_val (.iface 102 (.int .i64 3)) 4 rfl kj kj ?_
  refine seq_nil ?_
  refine hK7 _ _ ?_
  try clear hK7 K7
  refine wp_seq_k fun K9 hK9 => ?_
  refine region_lit ?_
  have r2_3 := (row_ext r2_2 e3)
  refine seq_val (.agg (cat [ints .u8 (grp), #[.int .i64 ep], #[.int .i64 fr], #[.int .i64 no], #[.slice a_s sealed.length c_s]])) 25 rfl kj (run_load_row 81 _ g2 81 _ _ r2_3 rfl kj kj (isz (n := 36) kj (by rw [cat_cons, cat_cons, cat_cons, cat_cons, cat_cons]; simp only [Array.size_append, cat, ((ints_size _ _).trans hgl)]; rfl))) ?_
  refine seq_callR (fun v W' => (WantR W3.heap.size (refP grp ep fr no sealed)) v W' ∧ Ext W3 W') 35 #[.agg (cat [ints .u8 (grp), #[.int .i64 ep], #[.int .i64 fr], #[.int .i64 no], #[.slice a_s sealed.length c_s]])] 26 rfl kj kj ((rPutPacketC grp ep fr no sealed _ _ _ hgl hgb (by omega) hsb (RdK.here (RdK.ext hs x3))).mono (by rintro e w' ⟨v, rfl, e1, hv⟩; exact ⟨v, rfl, hv, e1⟩)) fun vv10 W4 hh10 => ?_
  obtain ⟨hv10, e4⟩ := hh10
  have x4 : Ext w W4 := Ext.tr x3 e4
  rw [hS] at hv10
  have hv4 : vv10 = .tuple #[.slice none 0 0, .bool false] := hv10
  subst hv4
  refine seq_val (.tuple #[.slice none 0 0, .bool false]) 24 rfl kj kj ?_
  refine seq_val (.slice none 0 0) 27 rfl kj kj ?_
  refine seq_val (.bool false) 28 rfl kj kj ?_
  refine seq_val (.slice none 0 0) 5 rfl kj kj ?_
  refine seq_val (.bool false) 6 rfl kj kj ?_
  refine seq_nil ?_
  refine hK9 _ _ ?_
  try clear hK9 K9
  refine wp_seq_k fun K12 hK12 => ?_
  refine wp_seq_k fun K13 hK13 => ?_
  refine region_lit ?_
  refine seq_val (.slice none 0 0) 29 rfl kj kj ?_
  refine seq_val (.iface 102 (.int .i64 3)) 30 rfl kj kj ?_
  refine seq_val (.slice none 0 0) 31 rfl kj kj ?_
  refine seq_val (.bool false) 32 rfl kj kj ?_
  refine seq_call (.bool true) 16 #[.slice none 0 0, .iface 102 (.int .i64 3), .slice none 0 0, .bool false] 33 rfl kj kj ((answer_N _) _) fun W5 e5 => ?_
  have x5 : Ext w W5 := Ext.tr x4 e5
  refine seq_val (.bool false) 34 rfl kj kj ?_
  refine seq_nil ?_
  refine hK13 _ _ ?_
  try clear hK13 K13
  refine cond_false kj ?_
  refine wp_skip ?_
  refine hK12 _ _ ?_
  try clear hK12 K12
  refine wp_seq_k fun K14 hK14 => ?_
  refine wp_seq_k fun K15 hK15 => ?_
  refine region_lit ?_
  refine seq_val (.bool false) 35 rfl kj kj ?_
  refine seq_val (.bool true) 36 rfl kj kj ?_
  refine seq_nil ?_
  refine hK15 _ _ ?_
  try clear hK15 K15
  refine cond_true kj ?_
  refine wp_seq_k fun K16 hK16 => ?_
  refine region_lit ?_
  refine seq_val (.bool true) 2 rfl kj kj ?_
  refine seq_nil ?_
  refine hK16 _ _ ?_
  try clear hK16 K16
  refine wp_ret ?_
  repeat (first | with_reducible refine goR1 ?_ | with_reducible refine goR2 ?_)
  exact (show bodyPost _ _ _ .ret _ _ from ret1 (.bool true) rfl (res_tmp kj) ⟨rfl, x5⟩)
set_option maxHeartbeats 4000000 in
theorem lawPacket_S (grp : List Int) (ep fr no : Int) (sealed : List Int) (a_s : Option Addr) (c_s : Nat) (w : World) (hgl : grp.length = 32) (hgb : AreBytes grp) (hsb : AreBytes sealed) (hs : RdK .u8 w.heap.size sealed (.slice a_s sealed.length c_s) w) (hl1 : sealed.length < 70000) (bs : List Int) (hS : refP grp ep fr no sealed = some bs) : Calls Try.prog 8 #[.agg (cat [ints .u8 (grp), #[.int .i64 ep], #[.int .i64 fr], #[.int .i64 no], #[.slice a_s sealed.length c_s]])] w (Ret w (.bool true)) := by
  obtain ⟨hR0, hf0, hf1, hf2, hf3, hf4, hbl, hpos⟩ := pack_back grp ep fr no sealed bs hgl hS
  have hbb := pack_bytes grp ep fr no sealed bs hgb hsb hS
  refine enter 72 [(0, .agg (cat [ints .u8 (grp), #[.int .i64 ep], #[.int .i64 fr], #[.int .i64 no], #[.slice a_s sealed.length c_s]]))] Try.func8 rfl rfl kj rfl ?_
  refine wp_seq_k fun K1 hK1 => ?_
  refine region_lit ?_
  refine seq_alloc (cat [ints .u8 (grp), #[.int .i64 ep], #[.int .i64 fr], #[.int .i64 no], #[.slice a_s sealed.length c_s]]) 81 1 rfl kj kj fun g2 W1 l2 e1 r2_1 => ?_
  have x1 : Ext w W1 := Ext.tr (Rely.Ext.refl w) e1
  have b2 : w.heap.size ≤ g2 := Nat.le_trans (Rely.Ext.refl w).size l2
  refine seq_val (.bool false) 2 rfl kj kj ?_
  refine seq_nil ?_
  refine hK1 _ _ ?_
  try clear hK1 K1
  refine wp_seq_k fun K3 hK3 => ?_
  refine wp_seq_k fun K4 hK4 => ?_
  refine region_lit ?_
  refine seq_call (.bool true) 12 #[] 12 rfl kj kj ((alive9) _) fun W2 e2 => ?_
  have x2 : Ext w W2 := Ext.tr x1 e2
  refine seq_val (.bool false) 13 rfl kj kj ?_
  refine seq_nil ?_
  refine hK4 _ _ ?_
  try clear hK4 K4
  refine cond_false kj ?_
  refine wp_skip ?_
  refine hK3 _ _ ?_
  try clear hK3 K3
  refine wp_seq_k fun K5 hK5 => ?_
  refine wp_seq_k fun K6 hK6 => ?_
  refine region_lit ?_
  refine seq_val (.pointer (some ⟨g2, 35, none⟩)) 14 rfl kj kj ?_
  have r2_2 := (row_ext r2_1 e2)
  refine seq_val (.slice a_s sealed.length c_s) 15 rfl kj (run_loadC1 26 _ g2 35 81 _ (.slice a_s sealed.length c_s) _ r2_2 rfl kj (cat_part [ints .u8 (grp), #[.int .i64 ep], #[.int .i64 fr], #[.int .i64 no]] [#[.slice a_s sealed.length c_s]] [] 35 (by rw [cat_cons, cat_cons, cat_cons, cat_cons]; simp only [Array.size_append, cat, ((ints_size _ _).trans hgl)]; rfl) 0 _ rfl) kj) ?_
  refine seq_val (.int .i64 ((sealed.length : Nat) : Int)) 16 rfl kj kj ?_
  refine seq_val (.bool true) 17 rfl kj (run_eq (u := .bool (decide (((sealed.length : Nat) : Int) < 70000))) kj (congrArg Value.bool (decide_eq_true (by omega)))) ?_
  refine seq_val (.bool false) 18 rfl kj kj ?_
  refine seq_nil ?_
  refine hK6 _ _ ?_
  try clear hK6 K6
  refine cond_false kj ?_
  refine wp_skip ?_
  refine hK5 _ _ ?_
  try clear hK5 K5
  refine wp_seq_k fun K7 hK7 => ?_
  refine region_lit ?_
  refine seq_val (.agg (cat [ints .u8 (grp), #[.int .i64 ep], #[.int .i64 fr], #[.int .i64 no], #[.slice a_s sealed.length c_s]])) 20 rfl kj (run_load_row 81 _ g2 81 _ _ r2_2 rfl kj kj (isz (n := 36) kj (by rw [cat_cons, cat_cons, cat_cons, cat_cons, cat_cons]; simp only [Array.size_append, cat, ((ints_size _ _).trans hgl)]; rfl))) ?_
  refine seq_callR (fun v W' => (PutR W2.heap.size (some bs)) v W' ∧ Ext W2 W') 34 #[.agg (cat [ints .u8 (grp), #[.int .i64 ep], #[.int .i64 fr], #[.int .i64 no], #[.slice a_s sealed.length c_s]])] 21 rfl kj kj ((PutPacket_S grp ep fr no sealed _ _ _ hgl hgb (by omega) hsb (RdK.here (RdK.ext hs x2)) bs ((packS_eq grp ep fr no sealed).trans hS)).mono (by rintro e w' ⟨v, rfl, e1, hv⟩; exact ⟨v, rfl, hv, e1⟩)) fun vv8 W3 hh8 => ?_
  obtain ⟨hv8, e3⟩ := hh8
  have x3 : Ext w W3 := Ext.tr x2 e3
  obtain ⟨ub, rfl, hub⟩ := hv8
  obtain ⟨gb, cb, rb_, rfl, lb, rowb, hcb⟩ := ownN_rest hub rfl hpos
  have lo0b : w.heap.size ≤ gb := Nat.le_trans x2.size lb
  refine seq_val (.tuple #[.slice (some ⟨gb, 0, none⟩) bs.length cb, .nilIface]) 19 rfl kj kj ?_
  refine seq_val (.slice (some ⟨gb, 0, none⟩) bs.length cb) 22 rfl kj kj ?_
  refine seq_val (.nilIface) 23 rfl kj kj ?_
  refine seq_val (.slice (some ⟨gb, 0, none⟩) bs.length cb) 3 rfl kj kj ?_
  refine seq_val (.nilIface) 4 rfl kj kj ?_
  refine seq_nil ?_
  refine hK7 _ _ ?_
  try clear hK7 K7
  refine wp_seq_k fun K10 hK10 => ?_
  refine region_lit ?_
  have r2_3 := (row_ext r2_2 e3)
  refine seq_val (.agg (cat [ints .u8 (grp), #[.int .i64 ep], #[.int .i64 fr], #[.int .i64 no], #[.slice a_s sealed.length c_s]])) 25 rfl kj (run_load_row 81 _ g2 81 _ _ r2_3 rfl kj kj (isz (n := 36) kj (by rw [cat_cons, cat_cons, cat_cons, cat_cons, cat_cons]; simp only [Array.size_append, cat, ((ints_size _ _).trans hgl)]; rfl))) ?_
  refine seq_callR (fun v W' => (WantR W3.heap.size (refP grp ep fr no sealed)) v W' ∧ Ext W3 W') 35 #[.agg (cat [ints .u8 (grp), #[.int .i64 ep], #[.int .i64 fr], #[.int .i64 no], #[.slice a_s sealed.length c_s]])] 26 rfl kj kj ((rPutPacketC grp ep fr no sealed _ _ _ hgl hgb (by omega) hsb (RdK.here (RdK.ext hs x3))).mono (by rintro e w' ⟨v, rfl, e1, hv⟩; exact ⟨v, rfl, hv, e1⟩)) fun vv11 W4 hh11 => ?_
  obtain ⟨hv11, e4⟩ := hh11
  have x4 : Ext w W4 := Ext.tr x3 e4
  rw [hS] at hv11
  obtain ⟨u12_, rfl, hu12_⟩ := hv11
  obtain ⟨ar12_, cr12_, rfl, -⟩ := id (OwnN.rd hu12_)
  refine seq_val (.tuple #[.slice ar12_ ((bs).length) cr12_, .bool true]) 24 rfl kj kj ?_
  refine seq_val (.slice ar12_ ((bs).length) cr12_) 27 rfl kj kj ?_
  refine seq_val (.bool true) 28 rfl kj kj ?_
  refine seq_val (.slice ar12_ ((bs).length) cr12_) 5 rfl kj kj ?_
  refine seq_val (.bool true) 6 rfl kj kj ?_
  refine seq_nil ?_
  refine hK10 _ _ ?_
  try clear hK10 K10
  refine wp_seq_k fun K13 hK13 => ?_
  refine wp_seq_k fun K14 hK14 => ?_
  refine region_lit ?_
  refine seq_val (.slice (some ⟨gb, 0, none⟩) bs.length cb) 29 rfl kj kj ?_
  refine seq_val (.nilIface) 30 rfl kj kj ?_
  refine seq_val (.slice ar12_ ((bs).length) cr12_) 31 rfl kj kj ?_
  refine seq_val (.bool true) 32 rfl kj kj ?_
  have r9_4 := (row_ext rowb e4)
  refine seq_call (.bool true) 16 #[.slice (some ⟨gb, 0, none⟩) bs.length cb, .nilIface, .slice ar12_ ((bs).length) cr12_, .bool true] 33 rfl kj kj (answer_S _ _ bs _ (RdK.bytes (rdK_rest (rfl) r9_4 hcb) hbb) (RdK.bytes (OwnN.rd hu12_) hbb)) fun W5 e5 => ?_
  have x5 : Ext w W5 := Ext.tr x4 e5
  refine seq_val (.bool false) 34 rfl kj kj ?_
  refine seq_nil ?_
  refine hK14 _ _ ?_
  try clear hK14 K14
  refine cond_false kj ?_
  refine wp_skip ?_
  refine hK13 _ _ ?_
  try clear hK13 K13
  refine wp_seq_k fun K15 hK15 => ?_
  refine wp_seq_k fun K16 hK16 => ?_
  refine region_lit ?_
  refine seq_val (.bool true) 35 rfl kj kj ?_
  refine seq_val (.bool false) 36 rfl kj kj ?_
  refine seq_nil ?_
  refine hK16 _ _ ?_
  try clear hK16 K16
  refine cond_false kj ?_
  refine wp_skip ?_
  refine hK15 _ _ ?_
  try clear hK15 K15
  refine wp_seq_k fun K17 hK17 => ?_
  refine region_lit ?_
  refine seq_val (.slice (some ⟨gb, 0, none⟩) bs.length cb) 38 rfl kj kj ?_
  have r9_5 := (row_ext r9_4 e5)
  refine seq_callR (fun v W' => (fun v W => ∃ (a_s : Option Addr) (c_s : Nat), v = .tuple #[.agg (cat [ints .u8 (pGrp (startS bs)), #[.int .i64 (pEp (startS bs))], #[.int .i64 (pFr (startS bs))], #[.int .i64 (pNo (startS bs))], #[.slice a_s (pSe (startS bs)).length c_s]]), .nilIface] ∧ OwnN .u8 5 W5.heap.size (pSe (startS bs)) (.slice a_s (pSe (startS bs)).length c_s) W ∧ AreBytes (pSe (startS bs)) ∧ (pSe (startS bs)).length ≤ 65535) v W' ∧ Ext W5 W') 36 #[.slice (some ⟨gb, 0, none⟩) bs.length cb] 39 rfl kj kj ((rTakePacket_B bs _ _ _ hbb (RdK.here (rdK_rest (rfl) r9_5 hcb)) hR0).mono (by rintro e w' ⟨v, rfl, e1, hv⟩; exact ⟨v, rfl, hv, e1⟩)) fun vv18 W6 hh18 => ?_
  obtain ⟨hv18, e6⟩ := hh18
  have x6 : Ext w W6 := Ext.tr x5 e6
  replace hv18 : ∃ (a_s : Option Addr) (c_s : Nat), vv18 = .tuple #[.agg (cat [ints .u8 (pGrp (startS bs)), #[.int .i64 (pEp (startS bs))], #[.int .i64 (pFr (startS bs))], #[.int .i64 (pNo (startS bs))], #[.slice a_s (pSe (startS bs)).length c_s]]), .nilIface] ∧ OwnN .u8 5 W5.heap.size (pSe (startS bs)) (.slice a_s (pSe (startS bs)).length c_s) W6 ∧ AreBytes (pSe (startS bs)) ∧ (pSe (startS bs)).length ≤ 65535 := hv18
  rw [hf0, hf1, hf2, hf3, hf4] at hv18
  obtain ⟨a19sealed_, c19sealed_, rfl, ⟨ho19sealed, -, -⟩⟩ := hv18
  refine seq_val (.tuple #[.agg (cat [ints .u8 (grp), #[.int .i64 ep], #[.int .i64 fr], #[.int .i64 no], #[.slice a19sealed_ sealed.length c19sealed_]]), .nilIface]) 37 rfl kj kj ?_
  refine seq_val (.agg (cat [ints .u8 (grp), #[.int .i64 ep], #[.int .i64 fr], #[.int .i64 no], #[.slice a19sealed_ sealed.length c19sealed_]])) 40 rfl kj kj ?_
  refine seq_val (.nilIface) 41 rfl kj kj ?_
  refine seq_alloc (cat [(Array.replicate 32 (.int .u8 0)), #[.int .i64 0], #[.int .i64 0], #[.int .i64 0], #[.slice none 0 0]]) 81 7 rfl kj kj fun g20 W7 l20 e7 r20_7 => ?_
  have x7 : Ext w W7 := Ext.tr x6 e7
  have b20 : w.heap.size ≤ g20 := Nat.le_trans x6.size l20
  refine seq_store g20 _ (cat [ints .u8 (grp), #[.int .i64 ep], #[.int .i64 fr], #[.int .i64 no], #[.slice a19sealed_ sealed.length c19sealed_]]) 81 r20_7 rfl kj (run_store_row 81 _ _ g20 81 _ _ r20_7 rfl kj kj (isz (n := 36) kj (by rw [cat_cons, cat_cons, cat_cons, cat_cons, cat_cons]; simp only [Array.size_append, cat, ((ints_size _ _).trans hgl)]; rfl)) (eqsz (n := 36) kj (by rw [cat_cons, cat_cons, cat_cons, cat_cons, cat_cons]; simp only [Array.size_append, cat, ((ints_size _ _).trans hgl)]; rfl)) (cat_one _ (by intro a ha; simp only [List.mem_cons, List.not_mem_nil, or_false] at ha; rcases ha with rfl | rfl | rfl | rfl | rfl; exact (ints_one _ _); exact (one_leaf _ rfl); exact (one_leaf _ rfl); exact (one_leaf _ rfl); exact (one_leaf _ rfl)))) fun W8 p8 r20_8 => ?_
  have x8 : Ext w W8 := Puts.ext p8 x7 b20
  refine seq_val (.nilIface) 4 rfl kj kj ?_
  refine seq_nil ?_
  refine hK17 _ _ ?_
  try clear hK17 K17
  refine wp_seq_k fun K21 hK21 => ?_
  refine region_lit ?_
  refine seq_val (.agg (cat [ints .u8 (grp), #[.int .i64 ep], #[.int .i64 fr], #[.int .i64 no], #[.slice a19sealed_ sealed.length c19sealed_]])) 43 rfl kj (run_load_row 81 _ g20 81 _ _ r20_8 rfl kj kj (isz (n := 36) kj (by rw [cat_cons, cat_cons, cat_cons, cat_cons, cat_cons]; simp only [Array.size_append, cat, ((ints_size _ _).trans hgl)]; rfl))) ?_
  have f22_7 := (ho19sealed.ext e7)
  have f23_8 := (f22_7.puts p8 (nb_new ho19sealed l20))
  refine seq_callR (fun v W' => (WantR W8.heap.size (refP grp ep fr no sealed)) v W' ∧ Ext W8 W') 35 #[.agg (cat [ints .u8 (grp), #[.int .i64 ep], #[.int .i64 fr], #[.int .i64 no], #[.slice a19sealed_ sealed.length c19sealed_]])] 44 rfl kj kj ((rPutPacketC grp ep fr no sealed _ _ _ hgl hgb (by omega) hsb (RdK.here (OwnN.rd f23_8))).mono (by rintro e w' ⟨v, rfl, e1, hv⟩; exact ⟨v, rfl, hv, e1⟩)) fun vv24 W9 hh24 => ?_
  obtain ⟨hv24, e9⟩ := hh24
  have x9 : Ext w W9 := Ext.tr x8 e9
  rw [hS] at hv24
  obtain ⟨u25_, rfl, hu25_⟩ := hv24
  obtain ⟨ar25_, cr25_, rfl, -⟩ := id (OwnN.rd hu25_)
  refine seq_val (.tuple #[.slice ar25_ ((bs).length) cr25_, .bool true]) 42 rfl kj kj ?_
  refine seq_val (.slice ar25_ ((bs).length) cr25_) 45 rfl kj kj ?_
  refine seq_val (.bool true) 46 rfl kj kj ?_
  refine seq_val (.slice ar25_ ((bs).length) cr25_) 8 rfl kj kj ?_
  refine seq_val (.bool true) 9 rfl kj kj ?_
  refine seq_nil ?_
  refine hK21 _ _ ?_
  try clear hK21 K21
  refine wp_seq_k fun K26 hK26 => ?_
  refine region_lit ?_
  refine seq_val (.slice (some ⟨gb, 0, none⟩) bs.length cb) 47 rfl kj kj ?_
  have r9_6 := (row_ext r9_5 e6)
  have r9_7 := (row_ext r9_6 e7)
  have r9_8 := (Puts.row p8 r9_7 (ne_of_old r9_6 l20))
  have r9_9 := (row_ext r9_8 e9)
  refine seq_callR (fun v W' => v = .tuple #[] ∧ ExtB gb W9 W') 18 #[.slice (some ⟨gb, 0, none⟩) bs.length cb] 48 rfl kj kj ((overC gb bs.length cb bs rb_ _ (by omega) rfl r9_9).mono fun e w' h => ⟨_, h.1, rfl, h.2⟩) fun v27 W10 h27 => ?_
  obtain ⟨rfl, q10⟩ := h27
  have x10 : Ext w W10 := ExtB.toExt x9 q10 lo0b
  refine seq_nil ?_
  refine hK26 _ _ ?_
  try clear hK26 K26
  refine wp_seq_k fun K28 hK28 => ?_
  refine region_lit ?_
  have r20_9 := (row_ext r20_8 e9)
  have r20_10 := (ExtB.row q10 r20_9 (ne_of_new r9_6 l20))
  refine seq_val (.agg (cat [ints .u8 (grp), #[.int .i64 ep], #[.int .i64 fr], #[.int .i64 no], #[.slice a19sealed_ sealed.length c19sealed_]])) 50 rfl kj (run_load_row 81 _ g20 81 _ _ r20_10 rfl kj kj (isz (n := 36) kj (by rw [cat_cons, cat_cons, cat_cons, cat_cons, cat_cons]; simp only [Array.size_append, cat, ((ints_size _ _).trans hgl)]; rfl))) ?_
  have f29_9 := (f23_8.ext e9)
  have f30_10 := (ownN_but f29_9 q10 (nb_old ho19sealed (row_lt r9_5)))
  refine seq_callR (fun v W' => (WantR W10.heap.size (refP grp ep fr no sealed)) v W' ∧ Ext W10 W') 35 #[.agg (cat [ints .u8 (grp), #[.int .i64 ep], #[.int .i64 fr], #[.int .i64 no], #[.slice a19sealed_ sealed.length c19sealed_]])] 51 rfl kj kj ((rPutPacketC grp ep fr no sealed _ _ _ hgl hgb (by omega) hsb (RdK.here (OwnN.rd f30_10))).mono (by rintro e w' ⟨v, rfl, e1, hv⟩; exact ⟨v, rfl, hv, e1⟩)) fun vv31 W11 hh31 => ?_
  obtain ⟨hv31, e11⟩ := hh31
  have x11 : Ext w W11 := Ext.tr x10 e11
  rw [hS] at hv31
  obtain ⟨u32_, rfl, hu32_⟩ := hv31
  obtain ⟨ar32_, cr32_, rfl, -⟩ := id (OwnN.rd hu32_)
  refine seq_val (.tuple #[.slice ar32_ ((bs).length) cr32_, .bool true]) 49 rfl kj kj ?_
  refine seq_val (.slice ar32_ ((bs).length) cr32_) 52 rfl kj kj ?_
  refine seq_val (.bool true) 53 rfl kj kj ?_
  refine seq_val (.slice ar32_ ((bs).length) cr32_) 10 rfl kj kj ?_
  refine seq_val (.bool true) 11 rfl kj kj ?_
  refine seq_nil ?_
  refine hK28 _ _ ?_
  try clear hK28 K28
  refine wp_seq_k fun K33 hK33 => ?_
  refine region_lit ?_
  refine seq_val (.nilIface) 54 rfl kj kj ?_
  refine seq_val (.bool true) 55 rfl kj kj ?_
  refine seq_val (.bool true) 56 rfl kj kj ?_
  refine seq_val (.bool true) 57 rfl kj kj ?_
  refine seq_val (.bool true) 58 rfl kj kj ?_
  refine seq_val (.bool true) 59 rfl kj kj ?_
  refine seq_val (.bool true) 60 rfl kj kj ?_
  refine seq_val (.bool true) 61 rfl kj kj ?_
  refine seq_val (.bool true) 62 rfl kj kj ?_
  refine seq_val (.slice ar25_ ((bs).length) cr25_) 63 rfl kj kj ?_
  refine seq_val (.slice ar12_ ((bs).length) cr12_) 64 rfl kj kj ?_
  have f34_10 := (ownN_but hu25_ q10 (nb_old hu25_ (row_lt r9_8)))
  have f35_11 := (f34_10.ext e11)
  have f36_5 := (hu12_.ext e5)
  have f37_6 := (f36_5.ext e6)
  have f38_7 := (f37_6.ext e7)
  have f39_8 := (f38_7.puts p8 (nb_new f37_6 l20))
  have f40_9 := (f39_8.ext e9)
  have f41_10 := (ownN_but f40_9 q10 (nb_old hu12_ (row_lt rowb)))
  have f42_11 := (f41_10.ext e11)
  refine seq_call (.bool true) 19 #[.slice ar25_ ((bs).length) cr25_, .slice ar12_ ((bs).length) cr12_] 65 rfl kj kj (sameT _ _ _ _ _ rfl (RdK.bytes (OwnN.rd f35_11) hbb) (RdK.bytes (OwnN.rd f42_11) hbb)) fun W12 e12 => ?_
  have x12 : Ext w W12 := Ext.tr x11 e12
  refine seq_val (.bool true) 66 rfl kj kj ?_
  refine seq_val (.bool true) 67 rfl kj kj ?_
  refine seq_val (.slice ar32_ ((bs).length) cr32_) 68 rfl kj kj ?_
  refine seq_val (.slice ar12_ ((bs).length) cr12_) 69 rfl kj kj ?_
  have f43_12 := (hu32_.ext e12)
  have f44_12 := (f42_11.ext e12)
  refine seq_call (.bool true) 19 #[.slice ar32_ ((bs).length) cr32_, .slice ar12_ ((bs).length) cr12_] 70 rfl kj kj (sameT _ _ _ _ _ rfl (RdK.bytes (OwnN.rd f43_12) hbb) (RdK.bytes (OwnN.rd f44_12) hbb)) fun W13 e13 => ?_
  have x13 : Ext w W13 := Ext.tr x12 e13
  refine seq_val (.bool true) 71 rfl kj kj ?_
  refine seq_val (.bool true) 2 rfl kj kj ?_
  refine seq_nil ?_
  refine hK33 _ _ ?_
  try clear hK33 K33
  refine wp_ret ?_
  repeat (first | with_reducible refine goR1 ?_ | with_reducible refine goR2 ?_)
  exact (show bodyPost _ _ _ .ret _ _ from ret1 (.bool true) rfl (res_tmp kj) ⟨rfl, x13⟩)
theorem lawPacket (grp : List Int) (ep fr no : Int) (sealed : List Int) (a_s : Option Addr) (c_s : Nat) (w : World) (hgl : grp.length = 32) (hgb : AreBytes grp) (hsb : AreBytes sealed) (hs : RdK .u8 w.heap.size sealed (.slice a_s sealed.length c_s) w) : Calls Try.prog 8 #[.agg (cat [ints .u8 (grp), #[.int .i64 ep], #[.int .i64 fr], #[.int .i64 no], #[.slice a_s sealed.length c_s]])] w (Ret w (.bool true)) := by
  by_cases h1 : sealed.length < 70000
  · skip
    cases hS : refP grp ep fr no sealed with
    | none => exact lawPacket_N grp ep fr no sealed a_s c_s w hgl hgb hsb hs h1 hS
    | some bs => exact lawPacket_S grp ep fr no sealed a_s c_s w hgl hgb hsb hs h1 bs hS
  · exact lawPacket_A grp ep fr no sealed a_s c_s w hgl hgb hsb hs (by omega)

end Go.Proofs.Ytfelfmchachljaa.Wr
