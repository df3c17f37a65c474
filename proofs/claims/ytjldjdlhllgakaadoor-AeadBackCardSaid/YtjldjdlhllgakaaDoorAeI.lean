/- Seal. -/
import Derived.Test.YtjldjdlhllgakaaDoorAeH
import Derived.Laws.Externs
import Derived.Shelf.Spec.BitsCarry
import Derived.Shelf.Bits.Mul64
import Derived.Laws.Bits64b
namespace Go.Proofs.YtjldjdlhllgakaaDoor.Ae
open Go Go.RowKit
open Go.Proofs.YtjldjdlhllgakaaDoor.Rely Go.Proofs.YtjldjdlhllgakaaDoor.Auto Go.Proofs.YtjldjdlhllgakaaDoor.Own Go.Proofs.YtjldjdlhllgakaaDoor.Sha
set_option linter.unusedVariables false
set_option linter.unusedSimpArgs false

open Go.Proofs.YtjldjdlhllgakaaDoor.Sha Go.Proofs.YtjldjdlhllgakaaDoor.Cha
/-- a sealed text -/
def sealV (key nonce ctx text : List Int) : List Int := mixV (startW key nonce) 1 text ++ authV key nonce ctx (mixV (startW key nonce) 1 text)
theorem sealV_len (key nonce ctx text : List Int) : (sealV key nonce ctx text).length = text.length + 16 := by unfold sealV; rw [List.length_append, mixV_len, authV_len]
theorem same_yes (xs ys : List Int) (v v2 : Value) (B B2 : Nat) (w : World) (e : xs = ys) (hx : RdK .u8 B xs v w) (hy : RdK .u8 B2 ys v2 w) (hxb : AreBytes xs) (hyb : AreBytes ys) (hl : ys.length = xs.length) (hxl : xs.length ≤ 2000000) : Calls Tryd.prog 36 #[v, v2] w (Ret w (.bool true)) := by
  have h := same_C xs ys v v2 B B2 w hx hy hxb hyb hl hxl
  rw [decide_eq_true e] at h
  exact h
theorem same_no (xs ys : List Int) (v v2 : Value) (B B2 : Nat) (w : World) (e : xs ≠ ys) (hx : RdK .u8 B xs v w) (hy : RdK .u8 B2 ys v2 w) (hxb : AreBytes xs) (hyb : AreBytes ys) (hl : ys.length = xs.length) (hxl : xs.length ≤ 2000000) : Calls Tryd.prog 36 #[v, v2] w (Ret w (.bool false)) := by
  have h := same_C xs ys v v2 B B2 w hx hy hxb hyb hl hxl
  rw [decide_eq_false e] at h
  exact h
theorem authV_bytes (key nonce ctx mixed : List Int) : AreBytes (authV key nonce ctx mixed) := by16_bytes _
theorem sealV_bytes (key nonce ctx text : List Int) : AreBytes (sealV key nonce ctx text) := bytes_app (mixV_bytes _ _ _) (authV_bytes _ _ _ _)
theorem MixE (key nonce text fm : List Int) (v v2 : Value) (B B2 : Nat) (th tq : TypeId) (w : World) (hh : w.heap[0]? = some (.cells (ints .u32 [1634760805, 857760878, 2036477234, 1797285236]) th)) (hq : w.heap[1]? = some (.cells (ints .i64 [0, 4, 8, 12, 1, 5, 9, 13, 2, 6, 10, 14, 3, 7, 11, 15, 0, 5, 10, 15, 1, 6, 11, 12, 2, 7, 8, 13, 3, 4, 9, 14]) tq)) (hkl : key.length = 32) (hn : RdK .u8 B nonce v w) (ht : RdK .u8 B2 text v2 w) (h : nonce.length = 12) (hl : text.length ≤ 2000000) (em : mixV (startW key nonce) 1 text = fm) :
    Calls Tryd.prog 32 #[.agg (ints .u8 key), v, .int .i64 1, v2] w (Gives w (MixR w.heap.size fm)) := by
  subst em
  exact MixG w.heap.size key nonce text v v2 B B2 1 th tq w hh hq hkl hn ht h 4294967295 (by decide) (by decide) (by decide) (by omega) hl (Nat.le_refl _)
set_option maxRecDepth 100000 in
set_option maxHeartbeats 4000000 in
theorem Seal_A (key nonce ctx text : List Int) (v v2 v3 : Value) (B B2 B3 : Nat) (th tq : TypeId) (w : World) (hh : w.heap[0]? = some (.cells (ints .u32 [1634760805, 857760878, 2036477234, 1797285236]) th)) (hq : w.heap[1]? = some (.cells (ints .i64 [0, 4, 8, 12, 1, 5, 9, 13, 2, 6, 10, 14, 3, 7, 11, 15, 0, 5, 10, 15, 1, 6, 11, 12, 2, 7, 8, 13, 3, 4, 9, 14]) tq)) (hkl : key.length = 32) (hn : RdK .u8 B nonce v w) (hc : RdK .u8 B2 ctx v2 w) (ht : RdK .u8 B3 text v3 w) (hcb : AreBytes ctx) (h : nonce.length ≠ 12) :
    Calls Tryd.prog 15 #[.agg (ints .u8 key), v, v2, v3] w (Ret w (.tuple #[.slice none 0 0, .iface 45 (.int .i64 1)])) := by
  obtain ⟨a_n, c_n, rfl, -⟩ := id hn
  obtain ⟨a_c, c_c, rfl, -⟩ := id hc
  obtain ⟨a_t, c_t, rfl, -⟩ := id ht
  refine enter 51 [(0, .agg (ints .u8 (key))), (1, .slice a_n nonce.length c_n), (2, .slice a_c ctx.length c_c), (3, .slice a_t text.length c_t)] Tryd.func15 rfl rfl kj rfl ?_
  refine wp_seq_k fun K3 hK3 => ?_
  refine region_lit ?_
  refine seq_alloc (ints .u8 (key)) 23 4 rfl kj kj fun g4 W1 l4 e1 r4_1 => ?_
  have x1 : Ext w W1 := Ext.tr (Rely.Ext.refl w) e1
  have b4 : w.heap.size ≤ g4 := Nat.le_trans (Rely.Ext.refl w).size l4
  refine seq_val (.slice none 0 0) 8 rfl kj kj ?_
  refine seq_val (.nilIface) 9 rfl kj kj ?_
  refine seq_nil ?_
  refine hK3 _ _ ?_
  try clear hK3 K3
  refine wp_seq_k fun K5 hK5 => ?_
  refine wp_seq_k fun K6 hK6 => ?_
  refine region_lit ?_
  refine seq_val (.slice a_n nonce.length c_n) 13 rfl kj kj ?_
  refine seq_val (.int .i64 ((nonce.length : Nat) : Int)) 14 rfl kj kj ?_
  refine seq_val (.bool true) 15 rfl kj (run_eq (u := .bool ((((nonce.length : Nat) : Int) != 12))) kj (congrArg Value.bool (bne_iff_ne.2 (by omega)))) ?_
  refine seq_val (.bool true) 16 rfl kj kj ?_
  refine seq_skip 17 rfl kj ?_
  refine seq_skip 18 rfl kj ?_
  refine seq_skip 19 rfl kj ?_
  refine seq_val (.bool true) 20 rfl kj kj ?_
  refine seq_val (.bool true) 21 rfl kj kj ?_
  refine seq_skip 22 rfl kj ?_
  refine seq_skip 23 rfl kj ?_
  refine seq_skip 24 rfl kj ?_
  refine seq_val (.bool true) 25 rfl kj kj ?_
  refine seq_nil ?_
  refine hK6 _ _ ?_
  try clear hK6 K6
  refine cond_true kj ?_
  refine wp_seq_k fun K7 hK7 => ?_
  refine region_lit ?_
  refine seq_val (.iface 45 (.int .i64 1)) 26 rfl kj kj ?_
  refine seq_val (.slice none 0 0) 8 rfl kj kj ?_
  refine seq_val (.iface 45 (.int .i64 1)) 9 rfl kj kj ?_
  refine seq_nil ?_
  refine hK7 _ _ ?_
  try clear hK7 K7
  refine wp_ret ?_
  repeat (first | with_reducible refine goR1 ?_ | with_reducible refine goR2 ?_)
  exact (show bodyPost _ _ _ .ret _ _ from ret2 (.slice none 0 0) (.iface 45 (.int .i64 1)) rfl (res_tmp kj) (res_tmp kj) ⟨rfl, x1⟩)
set_option maxRecDepth 100000 in
set_option maxHeartbeats 4000000 in
theorem Seal_B (key nonce ctx text : List Int) (v v2 v3 : Value) (B B2 B3 : Nat) (th tq : TypeId) (w : World) (hh : w.heap[0]? = some (.cells (ints .u32 [1634760805, 857760878, 2036477234, 1797285236]) th)) (hq : w.heap[1]? = some (.cells (ints .i64 [0, 4, 8, 12, 1, 5, 9, 13, 2, 6, 10, 14, 3, 7, 11, 15, 0, 5, 10, 15, 1, 6, 11, 12, 2, 7, 8, 13, 3, 4, 9, 14]) tq)) (hkl : key.length = 32) (hn : RdK .u8 B nonce v w) (hc : RdK .u8 B2 ctx v2 w) (ht : RdK .u8 B3 text v3 w) (hcb : AreBytes ctx) (h : nonce.length = 12) (hcl : 1048576 < ctx.length) :
    Calls Tryd.prog 15 #[.agg (ints .u8 key), v, v2, v3] w (Ret w (.tuple #[.slice none 0 0, .iface 45 (.int .i64 1)])) := by
  obtain ⟨a_n, c_n, rfl, -⟩ := id hn
  obtain ⟨a_c, c_c, rfl, -⟩ := id hc
  obtain ⟨a_t, c_t, rfl, -⟩ := id ht
  refine enter 51 [(0, .agg (ints .u8 (key))), (1, .slice a_n nonce.length c_n), (2, .slice a_c ctx.length c_c), (3, .slice a_t text.length c_t)] Tryd.func15 rfl rfl kj rfl ?_
  refine wp_seq_k fun K3 hK3 => ?_
  refine region_lit ?_
  refine seq_alloc (ints .u8 (key)) 23 4 rfl kj kj fun g4 W1 l4 e1 r4_1 => ?_
  have x1 : Ext w W1 := Ext.tr (Rely.Ext.refl w) e1
  have b4 : w.heap.size ≤ g4 := Nat.le_trans (Rely.Ext.refl w).size l4
  refine seq_val (.slice none 0 0) 8 rfl kj kj ?_
  refine seq_val (.nilIface) 9 rfl kj kj ?_
  refine seq_nil ?_
  refine hK3 _ _ ?_
  try clear hK3 K3
  refine wp_seq_k fun K5 hK5 => ?_
  refine wp_seq_k fun K6 hK6 => ?_
  refine region_lit ?_
  refine seq_val (.slice a_n nonce.length c_n) 13 rfl kj kj ?_
  refine seq_val (.int .i64 ((nonce.length : Nat) : Int)) 14 rfl kj kj ?_
  refine seq_val (.bool false) 15 rfl kj (run_eq (u := .bool ((((nonce.length : Nat) : Int) != 12))) kj (congrArg Value.bool (by rw [h]; rfl))) ?_
  refine seq_val (.bool false) 16 rfl kj kj ?_
  refine seq_val (.slice a_c ctx.length c_c) 17 rfl kj kj ?_
  refine seq_val (.int .i64 ((ctx.length : Nat) : Int)) 18 rfl kj kj ?_
  refine seq_val (.bool true) 19 rfl kj (run_eq (u := .bool (decide (((ctx.length : Nat) : Int) > 1048576))) kj (congrArg Value.bool (decide_eq_true (by omega)))) ?_
  refine seq_val (.bool true) 20 rfl kj kj ?_
  refine seq_val (.bool true) 21 rfl kj kj ?_
  refine seq_skip 22 rfl kj ?_
  refine seq_skip 23 rfl kj ?_
  refine seq_skip 24 rfl kj ?_
  refine seq_val (.bool true) 25 rfl kj kj ?_
  refine seq_nil ?_
  refine hK6 _ _ ?_
  try clear hK6 K6
  refine cond_true kj ?_
  refine wp_seq_k fun K7 hK7 => ?_
  refine region_lit ?_
  refine seq_val (.iface 45 (.int .i64 1)) 26 rfl kj kj ?_
  refine seq_val (.slice none 0 0) 8 rfl kj kj ?_
  refine seq_val (.iface 45 (.int .i64 1)) 9 rfl kj kj ?_
  refine seq_nil ?_
  refine hK7 _ _ ?_
  try clear hK7 K7
  refine wp_ret ?_
  repeat (first | with_reducible refine goR1 ?_ | with_reducible refine goR2 ?_)
  exact (show bodyPost _ _ _ .ret _ _ from ret2 (.slice none 0 0) (.iface 45 (.int .i64 1)) rfl (res_tmp kj) (res_tmp kj) ⟨rfl, x1⟩)
set_option maxRecDepth 100000 in
set_option maxHeartbeats 4000000 in
theorem Seal_C (key nonce ctx text : List Int) (v v2 v3 : Value) (B B2 B3 : Nat) (th tq : TypeId) (w : World) (hh : w.heap[0]? = some (.cells (ints .u32 [1634760805, 857760878, 2036477234, 1797285236]) th)) (hq : w.heap[1]? = some (.cells (ints .i64 [0, 4, 8, 12, 1, 5, 9, 13, 2, 6, 10, 14, 3, 7, 11, 15, 0, 5, 10, 15, 1, 6, 11, 12, 2, 7, 8, 13, 3, 4, 9, 14]) tq)) (hkl : key.length = 32) (hn : RdK .u8 B nonce v w) (hc : RdK .u8 B2 ctx v2 w) (ht : RdK .u8 B3 text v3 w) (hcb : AreBytes ctx) (h : nonce.length = 12) (hcl : ctx.length ≤ 1048576) (hxl : 1048576 < text.length) :
    Calls Tryd.prog 15 #[.agg (ints .u8 key), v, v2, v3] w (Ret w (.tuple #[.slice none 0 0, .iface 45 (.int .i64 1)])) := by
  obtain ⟨a_n, c_n, rfl, -⟩ := id hn
  obtain ⟨a_c, c_c, rfl, -⟩ := id hc
  obtain ⟨a_t, c_t, rfl, -⟩ := id ht
  refine enter 51 [(0, .agg (ints .u8 (key))), (1, .slice a_n nonce.length c_n), (2, .slice a_c ctx.length c_c), (3, .slice a_t text.length c_t)] Tryd.func15 rfl rfl kj rfl ?_
  refine wp_seq_k fun K3 hK3 => ?_
  refine region_lit ?_
  refine seq_alloc (ints .u8 (key)) 23 4 rfl kj kj fun g4 W1 l4 e1 r4_1 => ?_
  have x1 : Ext w W1 := Ext.tr (Rely.Ext.refl w) e1
  have b4 : w.heap.size ≤ g4 := Nat.le_trans (Rely.Ext.refl w).size l4
  refine seq_val (.slice none 0 0) 8 rfl kj kj ?_
  refine seq_val (.nilIface) 9 rfl kj kj ?_
  refine seq_nil ?_
  refine hK3 _ _ ?_
  try clear hK3 K3
  refine wp_seq_k fun K5 hK5 => ?_
  refine wp_seq_k fun K6 hK6 => ?_
  refine region_lit ?_
  refine seq_val (.slice a_n nonce.length c_n) 13 rfl kj kj ?_
  refine seq_val (.int .i64 ((nonce.length : Nat) : Int)) 14 rfl kj kj ?_
  refine seq_val (.bool false) 15 rfl kj (run_eq (u := .bool ((((nonce.length : Nat) : Int) != 12))) kj (congrArg Value.bool (by rw [h]; rfl))) ?_
  refine seq_val (.bool false) 16 rfl kj kj ?_
  refine seq_val (.slice a_c ctx.length c_c) 17 rfl kj kj ?_
  refine seq_val (.int .i64 ((ctx.length : Nat) : Int)) 18 rfl kj kj ?_
  refine seq_val (.bool false) 19 rfl kj (run_eq (u := .bool (decide (((ctx.length : Nat) : Int) > 1048576))) kj (congrArg Value.bool (decide_eq_false (by omega)))) ?_
  refine seq_val (.bool false) 20 rfl kj kj ?_
  refine seq_val (.bool false) 21 rfl kj kj ?_
  refine seq_val (.slice a_t text.length c_t) 22 rfl kj kj ?_
  refine seq_val (.int .i64 ((text.length : Nat) : Int)) 23 rfl kj kj ?_
  refine seq_val (.bool true) 24 rfl kj (run_eq (u := .bool (decide (((text.length : Nat) : Int) > 1048576))) kj (congrArg Value.bool (decide_eq_true (by omega)))) ?_
  refine seq_val (.bool true) 25 rfl kj kj ?_
  refine seq_nil ?_
  refine hK6 _ _ ?_
  try clear hK6 K6
  refine cond_true kj ?_
  refine wp_seq_k fun K7 hK7 => ?_
  refine region_lit ?_
  refine seq_val (.iface 45 (.int .i64 1)) 26 rfl kj kj ?_
  refine seq_val (.slice none 0 0) 8 rfl kj kj ?_
  refine seq_val (.iface 45 (.int .i64 1)) 9 rfl kj kj ?_
  refine seq_nil ?_
  refine hK7 _ _ ?_
  try clear hK7 K7
  refine wp_ret ?_
  repeat (first | with_reducible refine goR1 ?_ | with_reducible refine goR2 ?_)
  exact (show bodyPost _ _ _ .ret _ _ from ret2 (.slice none 0 0) (.iface 45 (.int .i64 1)) rfl (res_tmp kj) (res_tmp kj) ⟨rfl, x1⟩)
set_option maxRecDepth 100000 in
set_option maxHeartbeats 4000000 in
theorem Seal_D (key nonce ctx text : List Int) (v v2 v3 : Value) (B B2 B3 : Nat) (th tq : TypeId) (w : World) (hh : w.heap[0]? = some (.cells (ints .u32 [1634760805, 857760878, 2036477234, 1797285236]) th)) (hq : w.heap[1]? = some (.cells (ints .i64 [0, 4, 8, 12, 1, 5, 9, 13, 2, 6, 10, 14, 3, 7, 11, 15, 0, 5, 10, 15, 1, 6, 11, 12, 2, 7, 8, 13, 3, 4, 9, 14]) tq)) (hkl : key.length = 32) (hn : RdK .u8 B nonce v w) (hc : RdK .u8 B2 ctx v2 w) (ht : RdK .u8 B3 text v3 w) (hcb : AreBytes ctx) (h : nonce.length = 12) (hcl : ctx.length ≤ 1048576) (hxl : text.length ≤ 1048576) :
    Calls Tryd.prog 15 #[.agg (ints .u8 key), v, v2, v3] w (Gives w (MixR w.heap.size (sealV key nonce ctx text))) := by
  obtain ⟨a_n, c_n, rfl, -⟩ := id hn
  obtain ⟨a_c, c_c, rfl, -⟩ := id hc
  obtain ⟨a_t, c_t, rfl, -⟩ := id ht
  obtain ⟨fm, em⟩ : ∃ z : List Int, mixV (startW key nonce) 1 text = z := ⟨_, rfl⟩
  have lfm : fm.length = text.length := by rw [← em, mixV_len]
  have hfb : AreBytes fm := by rw [← em]; exact mixV_bytes _ _ _
  refine enter 51 [(0, .agg (ints .u8 (key))), (1, .slice a_n nonce.length c_n), (2, .slice a_c ctx.length c_c), (3, .slice a_t text.length c_t)] Tryd.func15 rfl rfl kj rfl ?_
  refine wp_seq_k fun K3 hK3 => ?_
  refine region_lit ?_
  refine seq_alloc (ints .u8 (key)) 23 4 rfl kj kj fun g4 W1 l4 e1 r4_1 => ?_
  have x1 : Ext w W1 := Ext.tr (Rely.Ext.refl w) e1
  have b4 : w.heap.size ≤ g4 := Nat.le_trans (Rely.Ext.refl w).size l4
  refine seq_val (.slice none 0 0) 8 rfl kj kj ?_
  refine seq_val (.nilIface) 9 rfl kj kj ?_
  refine seq_nil ?_
  refine hK3 _ _ ?_
  try clear hK3 K3
  refine wp_seq_k fun K5 hK5 => ?_
  refine wp_seq_k fun K6 hK6 => ?_
  refine region_lit ?_
  refine seq_val (.slice a_n nonce.length c_n) 13 rfl kj kj ?_
  refine seq_val (.int .i64 ((nonce.length : Nat) : Int)) 14 rfl kj kj ?_
  refine seq_val (.bool false) 15 rfl kj (run_eq (u := .bool ((((nonce.length : Nat) : Int) != 12))) kj (congrArg Value.bool (by rw [h]; rfl))) ?_
  refine seq_val (.bool false) 16 rfl kj kj ?_
  refine seq_val (.slice a_c ctx.length c_c) 17 rfl kj kj ?_
  refine seq_val (.int .i64 ((ctx.length : Nat) : Int)) 18 rfl kj kj ?_
  refine seq_val (.bool false) 19 rfl kj (run_eq (u := .bool (decide (((ctx.length : Nat) : Int) > 1048576))) kj (congrArg Value.bool (decide_eq_false (by omega)))) ?_
  refine seq_val (.bool false) 20 rfl kj kj ?_
  refine seq_val (.bool false) 21 rfl kj kj ?_
  refine seq_val (.slice a_t text.length c_t) 22 rfl kj kj ?_
  refine seq_val (.int .i64 ((text.length : Nat) : Int)) 23 rfl kj kj ?_
  refine seq_val (.bool false) 24 rfl kj (run_eq (u := .bool (decide (((text.length : Nat) : Int) > 1048576))) kj (congrArg Value.bool (decide_eq_false (by omega)))) ?_
  refine seq_val (.bool false) 25 rfl kj kj ?_
  refine seq_nil ?_
  refine hK6 _ _ ?_
  try clear hK6 K6
  refine cond_false kj ?_
  refine wp_skip ?_
  refine hK5 _ _ ?_
  try clear hK5 K5
  refine wp_seq_k fun K7 hK7 => ?_
  refine region_lit ?_
  refine seq_val (.agg (ints .u8 (key))) 28 rfl kj (run_load_row 23 _ g4 23 _ _ r4_1 rfl kj kj (isz (n := 32) kj ((ints_size _ _).trans hkl))) ?_
  refine seq_val (.slice a_n nonce.length c_n) 29 rfl kj kj ?_
  refine seq_val (.slice a_t text.length c_t) 30 rfl kj kj ?_
  have r2_1 := (row_ext hh e1)
  have r1_1 := (row_ext hq e1)
  refine seq_callR (fun v W' => (MixR W1.heap.size (fm)) v W' ∧ Ext W1 W') 32 #[.agg (ints .u8 (key)), .slice a_n nonce.length c_n, .int .i64 1, .slice a_t text.length c_t] 31 rfl kj kj ((MixE key nonce (text) (fm) _ _ _ _ th tq _ r2_1 r1_1 hkl (RdK.ext hn x1) (RdK.ext ht x1) h (by omega) em).mono (by rintro e w' ⟨v, rfl, e1, hv⟩; exact ⟨v, rfl, hv, e1⟩)) fun vv8 W2 hh8 => ?_
  obtain ⟨hv8, e2⟩ := hh8
  have x2 : Ext w W2 := Ext.tr x1 e2
  obtain ⟨u31_, rfl, hu31_⟩ := hv8
  obtain ⟨a31_, c31_, rfl, -⟩ := id (OwnN.rd hu31_)
  refine seq_val (.tuple #[.slice a31_ ((fm).length) c31_, .nilIface]) 27 rfl kj kj ?_
  refine seq_val (.slice a31_ ((fm).length) c31_) 32 rfl kj kj ?_
  refine seq_val (.nilIface) 33 rfl kj kj ?_
  refine seq_val (.slice a31_ ((fm).length) c31_) 10 rfl kj kj ?_
  refine seq_val (.nilIface) 11 rfl kj kj ?_
  refine seq_nil ?_
  refine hK7 _ _ ?_
  try clear hK7 K7
  refine wp_seq_k fun K9 hK9 => ?_
  refine wp_seq_k fun K10 hK10 => ?_
  refine region_lit ?_
  refine seq_val (.nilIface) 34 rfl kj kj ?_
  refine seq_val (.bool false) 35 rfl kj kj ?_
  refine seq_nil ?_
  refine hK10 _ _ ?_
  try clear hK10 K10
  refine cond_false kj ?_
  refine wp_skip ?_
  refine hK9 _ _ ?_
  try clear hK9 K9
  refine wp_seq_k fun K11 hK11 => ?_
  refine region_lit ?_
  have r4_2 := (row_ext r4_1 e2)
  refine seq_val (.agg (ints .u8 (key))) 38 rfl kj (run_load_row 23 _ g4 23 _ _ r4_2 rfl kj kj (isz (n := 32) kj ((ints_size _ _).trans hkl))) ?_
  refine seq_val (.slice a_n nonce.length c_n) 39 rfl kj kj ?_
  refine seq_val (.slice a_c ctx.length c_c) 40 rfl kj kj ?_
  refine seq_val (.slice a31_ ((fm).length) c31_) 41 rfl kj kj ?_
  have r2_2 := (row_ext r2_1 e2)
  have r1_2 := (row_ext r1_1 e2)
  refine seq_call (.tuple #[.agg (ints .u8 (authV key nonce ctx fm)), .nilIface]) 33 #[.agg (ints .u8 (key)), .slice a_n nonce.length c_n, .slice a_c ctx.length c_c, .slice a31_ ((fm).length) c31_] 42 rfl kj kj ((markOfC key nonce ctx fm _ _ _ _ _ _ th tq _ r2_2 r1_2 hkl (RdK.ext hn x2) (RdK.ext hc x2) (OwnN.rd hu31_) h hcb hfb (by omega) (by omega))) fun W3 e3 => ?_
  have x3 : Ext w W3 := Ext.tr x2 e3
  refine seq_val (.tuple #[.agg (ints .u8 (authV key nonce ctx fm)), .nilIface]) 37 rfl kj kj ?_
  refine seq_val (.agg (ints .u8 (authV key nonce ctx fm))) 43 rfl kj kj ?_
  refine seq_val (.nilIface) 44 rfl kj kj ?_
  refine seq_alloc (ints .u8 (List.replicate 16 0)) 27 12 rfl kj kj fun g12 W4 l12 e4 r12_4 => ?_
  have x4 : Ext w W4 := Ext.tr x3 e4
  have b12 : w.heap.size ≤ g12 := Nat.le_trans x3.size l12
  refine seq_store g12 _ (ints .u8 (authV key nonce ctx fm)) 27 r12_4 rfl kj (run_store_row 27 _ _ g12 27 _ _ r12_4 rfl kj kj (isz (n := 16) kj ((ints_size _ _).trans (authV_len _ _ _ _))) (eqsz (n := 16) ((ints_size _ _).trans (List.length_replicate (n := 16))) ((ints_size _ _).trans (authV_len _ _ _ _))) (ints_one _ _)) fun W5 p5 r12_5 => ?_
  have x5 : Ext w W5 := Puts.ext p5 x4 b12
  refine seq_val (.nilIface) 11 rfl kj kj ?_
  refine seq_nil ?_
  refine hK11 _ _ ?_
  try clear hK11 K11
  refine wp_seq_k fun K13 hK13 => ?_
  refine wp_seq_k fun K14 hK14 => ?_
  refine region_lit ?_
  refine seq_val (.nilIface) 45 rfl kj kj ?_
  refine seq_val (.bool false) 46 rfl kj kj ?_
  refine seq_nil ?_
  refine hK14 _ _ ?_
  try clear hK14 K14
  refine cond_false kj ?_
  refine wp_skip ?_
  refine hK13 _ _ ?_
  try clear hK13 K13
  refine wp_seq_k fun K15 hK15 => ?_
  refine region_lit ?_
  refine seq_val (.slice a31_ ((fm).length) c31_) 48 rfl kj kj ?_
  refine seq_val (.slice (some ⟨g12, 0, none⟩) 16 16) 49 rfl kj kj ?_
  have f16_3 := (hu31_.ext e3)
  have f17_4 := (f16_3.ext e4)
  have f18_5 := (f17_4.puts p5 (nb_new f16_3 l12))
  have y1_2 : Ext W1 W2 := (Rely.Ext.trans (Rely.Ext.refl W1) e2)
  have y1_3 : Ext W1 W3 := (Rely.Ext.trans y1_2 e3)
  have y1_4 : Ext W1 W4 := (Rely.Ext.trans y1_3 e4)
  have y1_5 : Ext W1 W5 := (Puts.ext p5 y1_4 (Nat.le_trans y1_3.size l12))
  refine seq_appendN (k := .u8) (T := 5) (xs := fm) (ys := authV key nonce ctx fm) (V := W1) 1 (.tmp 48) (.tmp 49) 24 rfl kj kj (by decide) 50 rfl kj kj kj f18_5 (rdK_ints (xs := authV key nonce ctx fm) (n := 16) (authV_len _ _ _ _) r12_5 (row_lt r12_5) (show 16 ≤ maxLen from by decide)) (by rw [authV_len]; omega) y1_5 fun zs W6 f19 y6 l6 => ?_
  have x6 : Ext w W6 := Ext.low x5 l6 x1.size
  refine seq_val (zs) 8 rfl kj kj ?_
  refine seq_val (.nilIface) 9 rfl kj kj ?_
  refine seq_nil ?_
  refine hK15 _ _ ?_
  try clear hK15 K15
  refine wp_ret ?_
  repeat (first | with_reducible refine goR1 ?_ | with_reducible refine goR2 ?_)
  exact (show bodyPost _ _ _ .ret _ _ from ret2 (zs) (.nilIface) rfl (res_tmp kj) (res_tmp kj) ⟨_, rfl, x6, zs, rfl, by unfold sealV; rw [em]; exact OwnN.base x1.size f19⟩)

end Go.Proofs.YtjldjdlhllgakaaDoor.Ae
