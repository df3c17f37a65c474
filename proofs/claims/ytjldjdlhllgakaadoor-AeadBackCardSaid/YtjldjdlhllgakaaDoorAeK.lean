/- A fixed fact. -/
import Derived.Test.YtjldjdlhllgakaaDoorAeO
import Derived.Laws.Externs
import Derived.Shelf.Spec.BitsCarry
import Derived.Shelf.Bits.Mul64
import Derived.Laws.Bits64b
namespace Go.Proofs.YtjldjdlhllgakaaDoor.Ae
open Go Go.RowKit
open Go.Proofs.YtjldjdlhllgakaaDoor.Rely Go.Proofs.YtjldjdlhllgakaaDoor.Auto Go.Proofs.YtjldjdlhllgakaaDoor.Own Go.Proofs.YtjldjdlhllgakaaDoor.Sha
set_option linter.unusedVariables false
set_option linter.unusedSimpArgs false

open Go.Proofs.YtjldjdlhllgakaaDoor.Sha Go.Proofs.YtjldjdlhllgakaaDoor.Cha
set_option maxHeartbeats 4000000 in
theorem littleG (n0 n : Nat) (w : World) (hn0 : n0 ≤ w.heap.size) : Calls Tryd.prog 37 #[.int .i64 ((n : Nat) : Int)] w (Gives w (OwnN .u8 5 n0 (by8 ((n : Nat) : Int)))) :=
  (littleC n w).mono fun e W' hg => by
    obtain ⟨v', e1, e2, e3⟩ := hg
    exact ⟨v', e1, e2, e3.base hn0⟩
theorem nonceC (n : Nat) (w : World) : Calls Tryd.prog 23 #[.int .i64 ((n : Nat) : Int)] w (Gives w (OwnN .u8 5 w.heap.size ([0, 0, 0, 0] ++ by8 ((n : Nat) : Int)))) := by
  refine enter 7 [(0, .int .i64 ((n : Nat) : Int))] Tryd.func23 rfl rfl kj rfl ?_
  refine wp_seq_k fun K1 hK1 => ?_
  refine region_lit ?_
  refine seq_val (.slice none 0 0) 2 rfl kj kj ?_
  refine seq_nil ?_
  refine hK1 _ _ ?_
  try clear hK1 K1
  refine wp_seq_k fun K2 hK2 => ?_
  refine any_regionE 3 [⟨none, []⟩, ⟨none, [(0, none)]⟩, ⟨none, [(4, some 1)]⟩] kj kj fun F hF => ?_
  refine e_newS (rl_ext _) (ints .u8 ([0, 0, 0, 0])) 5 4 (NewS.stable _ _ _ _) kj kj (fun W => by kernel_rfl) ?_
  refine e_val (rl_ext _) (.int .i64 ((n : Nat) : Int)) kj kj (fun W => by kernel_rfl) ?_
  refine e_callG (rl_ext _) (OwnN .u8 5 w.heap.size (by8 ((n : Nat) : Int))) (OwnN.stable _ _ _ _) 37 #[.int .i64 ((n : Nat) : Int)] kj kj (fun W => by kernel_rfl) (fun W hR => (littleG w.heap.size n _ (Rely.Ext.trans (ext_drew _) hR).size)) ?_
  refine e_nil (hF _ fun W1 e1 => ?_)
  simp only [List.nil_append, List.cons_append, List.take_succ_cons, List.take_zero, List.drop_succ_cons, List.drop_zero, finE, up]
  intro vv3 hv3 vv4 hv4
  clear hF
  have x1 : Ext w W1 := Ext.tr (Rely.Ext.refl w) e1
  obtain ⟨g3, rfl, l3, r3_1⟩ := hv3
  have b3 : w.heap.size ≤ g3 := Nat.le_trans (Rely.Ext.refl w).size l3
  obtain ⟨a5_, c5_, rfl, -⟩ := id (OwnN.rd hv4)
  have y0_1 : Ext w W1 := (Rely.Ext.trans (Rely.Ext.refl w) e1)
  refine seq_appendN (k := .u8) (T := 5) (xs := [0, 0, 0, 0]) (ys := by8 ((n : Nat) : Int)) (V := w) 1 (.tmp 3) (.tmp 5) 24 rfl kj kj (by decide) 6 rfl kj kj kj (ownN_row (xs := [0, 0, 0, 0]) rfl l3 r3_1 (by decide)) (OwnN.rd hv4) (by rw [by8_len]; decide) y0_1 fun zn W2 f5 y2 l2 => ?_
  have x2 : Ext w W2 := Ext.low x1 l2 (Rely.Ext.refl w).size
  refine seq_val (zn) 2 rfl kj kj ?_
  refine seq_nil ?_
  refine hK2 _ _ ?_
  try clear hK2 K2
  refine wp_ret ?_
  repeat (first | with_reducible refine goR1 ?_ | with_reducible refine goR2 ?_)
  exact (show bodyPost _ _ _ .ret _ _ from ret1 (zn) rfl (res_tmp kj) ⟨zn, rfl, x2, OwnN.base (Nat.le_refl _) f5⟩)
set_option maxHeartbeats 4000000 in
theorem numE2 (w : World) : Calls Tryd.prog 18 #[.iface 45 (.int .i64 2)] w (Ret w (.int .i64 2)) := by
  refine enter 19 [(0, .iface 45 (.int .i64 2))] Tryd.func18 rfl rfl kj rfl ?_
  refine wp_seq_k fun K1 hK1 => ?_
  refine region_lit ?_
  refine seq_val (.int .i64 0) 2 rfl kj kj ?_
  refine seq_nil ?_
  refine hK1 _ _ ?_
  try clear hK1 K1
  refine wp_seq_k fun K2 hK2 => ?_
  refine wp_seq_k fun K3 hK3 => ?_
  refine region_lit ?_
  refine seq_val (.iface 45 (.int .i64 2)) 5 rfl kj kj ?_
  refine seq_val (.bool false) 6 rfl kj kj ?_
  refine seq_nil ?_
  refine hK3 _ _ ?_
  try clear hK3 K3
  refine cond_false kj ?_
  refine wp_skip ?_
  refine hK2 _ _ ?_
  try clear hK2 K2
  refine wp_seq_k fun K4 hK4 => ?_
  refine region_lit ?_
  refine seq_val (.iface 45 (.int .i64 2)) 8 rfl kj kj ?_
  refine seq_val (.tuple #[.int .i64 2, .bool true]) 9 rfl kj kj ?_
  refine seq_val (.tuple #[.int .i64 2, .bool true]) 7 rfl kj kj ?_
  refine seq_val (.int .i64 2) 10 rfl kj kj ?_
  refine seq_val (.bool true) 11 rfl kj kj ?_
  refine seq_val (.int .i64 2) 3 rfl kj kj ?_
  refine seq_val (.bool true) 4 rfl kj kj ?_
  refine seq_nil ?_
  refine hK4 _ _ ?_
  try clear hK4 K4
  refine wp_seq_k fun K5 hK5 => ?_
  refine wp_seq_k fun K6 hK6 => ?_
  refine region_lit ?_
  refine seq_val (.bool true) 12 rfl kj kj ?_
  refine seq_val (.bool false) 13 rfl kj kj ?_
  refine seq_val (.bool false) 14 rfl kj kj ?_
  refine seq_val (.int .i64 2) 15 rfl kj kj ?_
  refine seq_val (.bool false) 16 rfl kj kj ?_
  refine seq_val (.bool false) 17 rfl kj kj ?_
  refine seq_nil ?_
  refine hK6 _ _ ?_
  try clear hK6 K6
  refine cond_false kj ?_
  refine wp_skip ?_
  refine hK5 _ _ ?_
  try clear hK5 K5
  refine wp_seq_k fun K7 hK7 => ?_
  refine region_lit ?_
  refine seq_val (.int .i64 2) 18 rfl kj kj ?_
  refine seq_val (.int .i64 2) 2 rfl kj kj ?_
  refine seq_nil ?_
  refine hK7 _ _ ?_
  try clear hK7 K7
  refine wp_ret ?_
  repeat (first | with_reducible refine goR1 ?_ | with_reducible refine goR2 ?_)
  exact (show bodyPost _ _ _ .ret _ _ from ret1 (.int .i64 2) rfl (res_tmp kj) ⟨rfl, (Rely.Ext.refl w)⟩)
set_option maxHeartbeats 4000000 in
theorem numE1 (w : World) : Calls Tryd.prog 18 #[.iface 45 (.int .i64 1)] w (Ret w (.int .i64 1)) := by
  refine enter 19 [(0, .iface 45 (.int .i64 1))] Tryd.func18 rfl rfl kj rfl ?_
  refine wp_seq_k fun K1 hK1 => ?_
  refine region_lit ?_
  refine seq_val (.int .i64 0) 2 rfl kj kj ?_
  refine seq_nil ?_
  refine hK1 _ _ ?_
  try clear hK1 K1
  refine wp_seq_k fun K2 hK2 => ?_
  refine wp_seq_k fun K3 hK3 => ?_
  refine region_lit ?_
  refine seq_val (.iface 45 (.int .i64 1)) 5 rfl kj kj ?_
  refine seq_val (.bool false) 6 rfl kj kj ?_
  refine seq_nil ?_
  refine hK3 _ _ ?_
  try clear hK3 K3
  refine cond_false kj ?_
  refine wp_skip ?_
  refine hK2 _ _ ?_
  try clear hK2 K2
  refine wp_seq_k fun K4 hK4 => ?_
  refine region_lit ?_
  refine seq_val (.iface 45 (.int .i64 1)) 8 rfl kj kj ?_
  refine seq_val (.tuple #[.int .i64 1, .bool true]) 9 rfl kj kj ?_
  refine seq_val (.tuple #[.int .i64 1, .bool true]) 7 rfl kj kj ?_
  refine seq_val (.int .i64 1) 10 rfl kj kj ?_
  refine seq_val (.bool true) 11 rfl kj kj ?_
  refine seq_val (.int .i64 1) 3 rfl kj kj ?_
  refine seq_val (.bool true) 4 rfl kj kj ?_
  refine seq_nil ?_
  refine hK4 _ _ ?_
  try clear hK4 K4
  refine wp_seq_k fun K5 hK5 => ?_
  refine wp_seq_k fun K6 hK6 => ?_
  refine region_lit ?_
  refine seq_val (.bool true) 12 rfl kj kj ?_
  refine seq_val (.bool false) 13 rfl kj kj ?_
  refine seq_val (.bool false) 14 rfl kj kj ?_
  refine seq_val (.int .i64 1) 15 rfl kj kj ?_
  refine seq_val (.bool false) 16 rfl kj kj ?_
  refine seq_val (.bool false) 17 rfl kj kj ?_
  refine seq_nil ?_
  refine hK6 _ _ ?_
  try clear hK6 K6
  refine cond_false kj ?_
  refine wp_skip ?_
  refine hK5 _ _ ?_
  try clear hK5 K5
  refine wp_seq_k fun K7 hK7 => ?_
  refine region_lit ?_
  refine seq_val (.int .i64 1) 18 rfl kj kj ?_
  refine seq_val (.int .i64 1) 2 rfl kj kj ?_
  refine seq_nil ?_
  refine hK7 _ _ ?_
  try clear hK7 K7
  refine wp_ret ?_
  repeat (first | with_reducible refine goR1 ?_ | with_reducible refine goR2 ?_)
  exact (show bodyPost _ _ _ .ret _ _ from ret1 (.int .i64 1) rfl (res_tmp kj) ⟨rfl, (Rely.Ext.refl w)⟩)
set_option maxHeartbeats 4000000 in
theorem is2 (w : World) : Calls Tryd.prog 22 #[.iface 45 (.int .i64 2), .int .i64 2] w (Ret w (.bool true)) := by
  refine enter 9 [(0, .iface 45 (.int .i64 2)), (1, .int .i64 2)] Tryd.func22 rfl rfl kj rfl ?_
  refine wp_seq_k fun K1 hK1 => ?_
  refine region_lit ?_
  refine seq_val (.bool false) 4 rfl kj kj ?_
  refine seq_nil ?_
  refine hK1 _ _ ?_
  try clear hK1 K1
  refine wp_seq_k fun K2 hK2 => ?_
  refine region_lit ?_
  refine seq_val (.iface 45 (.int .i64 2)) 5 rfl kj kj ?_
  refine seq_call (.int .i64 2) 18 #[.iface 45 (.int .i64 2)] 6 rfl kj kj ((numE2) _) fun W1 e1 => ?_
  have x1 : Ext w W1 := Ext.tr (Rely.Ext.refl w) e1
  refine seq_val (.int .i64 2) 7 rfl kj kj ?_
  refine seq_val (.bool true) 8 rfl kj kj ?_
  refine seq_val (.bool true) 4 rfl kj kj ?_
  refine seq_nil ?_
  refine hK2 _ _ ?_
  try clear hK2 K2
  refine wp_ret ?_
  repeat (first | with_reducible refine goR1 ?_ | with_reducible refine goR2 ?_)
  exact (show bodyPost _ _ _ .ret _ _ from ret1 (.bool true) rfl (res_tmp kj) ⟨rfl, x1⟩)
set_option maxHeartbeats 4000000 in
theorem is1 (w : World) : Calls Tryd.prog 22 #[.iface 45 (.int .i64 1), .int .i64 1] w (Ret w (.bool true)) := by
  refine enter 9 [(0, .iface 45 (.int .i64 1)), (1, .int .i64 1)] Tryd.func22 rfl rfl kj rfl ?_
  refine wp_seq_k fun K1 hK1 => ?_
  refine region_lit ?_
  refine seq_val (.bool false) 4 rfl kj kj ?_
  refine seq_nil ?_
  refine hK1 _ _ ?_
  try clear hK1 K1
  refine wp_seq_k fun K2 hK2 => ?_
  refine region_lit ?_
  refine seq_val (.iface 45 (.int .i64 1)) 5 rfl kj kj ?_
  refine seq_call (.int .i64 1) 18 #[.iface 45 (.int .i64 1)] 6 rfl kj kj ((numE1) _) fun W1 e1 => ?_
  have x1 : Ext w W1 := Ext.tr (Rely.Ext.refl w) e1
  refine seq_val (.int .i64 1) 7 rfl kj kj ?_
  refine seq_val (.bool true) 8 rfl kj kj ?_
  refine seq_val (.bool true) 4 rfl kj kj ?_
  refine seq_nil ?_
  refine hK2 _ _ ?_
  try clear hK2 K2
  refine wp_ret ?_
  repeat (first | with_reducible refine goR1 ?_ | with_reducible refine goR2 ?_)
  exact (show bodyPost _ _ _ .ret _ _ from ret1 (.bool true) rfl (res_tmp kj) ⟨rfl, x1⟩)
def k1_ : List Int := 1 :: List.replicate 31 0
def k2_ : List Int := 2 :: List.replicate 31 0
def n7_ : List Int := [0, 0, 0, 0] ++ by8 ((7 : Nat) : Int)
theorem alive_ne : authV k2_ n7_ [99] (mixV (startW k1_ n7_) 1 [116, 101, 120, 116]) ≠ authV k1_ n7_ [99] (mixV (startW k1_ n7_) 1 [116, 101, 120, 116]) := by decide +kernel
theorem seal_take (key nonce ctx text : List Int) : (sealV key nonce ctx text).take ((sealV key nonce ctx text).length - 16) = mixV (startW key nonce) 1 text := by
  rw [sealV_len]; unfold sealV
  rw [List.take_append_of_le_length (by rw [mixV_len]; omega), List.take_of_length_le (by rw [mixV_len]; omega)]
theorem seal_drop (key nonce ctx text : List Int) : (sealV key nonce ctx text).drop ((sealV key nonce ctx text).length - 16) = authV key nonce ctx (mixV (startW key nonce) 1 text) := by
  rw [sealV_len]; unfold sealV
  rw [List.drop_append_of_le_length (by rw [mixV_len]; omega), List.drop_of_length_le (by rw [mixV_len]; omega), List.nil_append]
theorem n7_len : n7_.length = 12 := rfl
theorem Open_back (key nonce ctx text : List Int) (v v2 v3 : Value) (B B2 B3 : Nat) (th tq : TypeId) (w : World) (hh : w.heap[0]? = some (.cells (ints .u32 [1634760805, 857760878, 2036477234, 1797285236]) th)) (hq : w.heap[1]? = some (.cells (ints .i64 [0, 4, 8, 12, 1, 5, 9, 13, 2, 6, 10, 14, 3, 7, 11, 15, 0, 5, 10, 15, 1, 6, 11, 12, 2, 7, 8, 13, 3, 4, 9, 14]) tq)) (hkl : key.length = 32) (hn : RdK .u8 B nonce v w) (hc : RdK .u8 B2 ctx v2 w) (ht : RdK .u8 B3 (sealV key nonce ctx text) v3 w) (hcb : AreBytes ctx) (htb : AreBytes text) (h : nonce.length = 12) (hcl : ctx.length ≤ 1048576) (hxl : text.length ≤ 1048576) :
    Calls Tryd.prog 20 #[.agg (ints .u8 key), v, v2, v3] w (Gives w (MixR w.heap.size text)) := by
  have h1 := Open_E key nonce ctx (sealV key nonce ctx text) v v2 v3 B B2 B3 th tq w hh hq hkl hn hc ht hcb (sealV_bytes _ _ _ _) h (by omega) (by rw [sealV_len]; omega) (by rw [sealV_len]; omega) (by rw [seal_take, seal_drop])
  rw [seal_take, mix_mix _ _ _ htb] at h1
  exact h1
theorem alive_no (v v2 v3 : Value) (B B2 B3 : Nat) (th tq : TypeId) (w : World) (hh : w.heap[0]? = some (.cells (ints .u32 [1634760805, 857760878, 2036477234, 1797285236]) th)) (hq : w.heap[1]? = some (.cells (ints .i64 [0, 4, 8, 12, 1, 5, 9, 13, 2, 6, 10, 14, 3, 7, 11, 15, 0, 5, 10, 15, 1, 6, 11, 12, 2, 7, 8, 13, 3, 4, 9, 14]) tq)) (hn : RdK .u8 B n7_ v w) (hc : RdK .u8 B2 [99] v2 w) (ht : RdK .u8 B3 (sealV k1_ n7_ [99] [116, 101, 120, 116]) v3 w) :
    Calls Tryd.prog 20 #[.agg (ints .u8 k2_), v, v2, v3] w (Ret w (.tuple #[.slice none 0 0, .iface 45 (.int .i64 2)])) :=
  Open_N k2_ n7_ [99] (sealV k1_ n7_ [99] [116, 101, 120, 116]) v v2 v3 B B2 B3 th tq w hh hq rfl hn hc ht (bytes_one (by decide) (by decide)) (sealV_bytes _ _ _ _) n7_len (by decide) (by rw [sealV_len]; decide) (by rw [sealV_len]; decide) (by rw [seal_take, seal_drop]; exact alive_ne)
theorem text_bytes : AreBytes [116, 101, 120, 116] := fun x hx => by
  simp only [List.mem_cons, List.not_mem_nil, or_false] at hx
  rcases hx with rfl | rfl | rfl | rfl <;> exact ⟨by decide, by decide⟩
set_option maxRecDepth 100000 in
set_option maxHeartbeats 4000000 in
theorem alive04 (th tq : TypeId) (w : World) (hh : w.heap[0]? = some (.cells (ints .u32 [1634760805, 857760878, 2036477234, 1797285236]) th)) (hq : w.heap[1]? = some (.cells (ints .i64 [0, 4, 8, 12, 1, 5, 9, 13, 2, 6, 10, 14, 3, 7, 11, 15, 0, 5, 10, 15, 1, 6, 11, 12, 2, 7, 8, 13, 3, 4, 9, 14]) tq)) : Calls Tryd.prog 9 #[] w (Ret w (.bool true)) := by
  refine enter 54 [] Tryd.func9 rfl rfl kj rfl ?_
  refine wp_seq_k fun K3 hK3 => ?_
  refine region_lit ?_
  refine seq_val (.bool false) 0 rfl kj kj ?_
  refine seq_nil ?_
  refine hK3 _ _ ?_
  try clear hK3 K3
  refine wp_seq_k fun K4 hK4 => ?_
  refine region_lit ?_
  refine seq_callR (fun v W' => (OwnN .u8 5 w.heap.size n7_) v W' ∧ Ext w W') 23 #[.int .i64 7] 7 rfl kj kj ((nonceC 7 _).mono (by rintro e w' ⟨v, rfl, e1, hv⟩; exact ⟨v, rfl, hv, e1⟩)) fun vv5 W1 hh5 => ?_
  obtain ⟨hv5, e1⟩ := hh5
  have x1 : Ext w W1 := Ext.tr (Rely.Ext.refl w) e1
  obtain ⟨a7_, c7_, rfl, -⟩ := id (OwnN.rd hv5)
  refine seq_val (.slice a7_ ((n7_).length) c7_) 1 rfl kj kj ?_
  refine seq_nil ?_
  refine hK4 _ _ ?_
  try clear hK4 K4
  refine wp_seq_k fun K6 hK6 => ?_
  refine region_lit ?_
  refine seq_val (.agg (ints .u8 (k1_))) 9 rfl kj kj ?_
  refine seq_val (.slice a7_ ((n7_).length) c7_) 10 rfl kj kj ?_
  refine seq_makeS (ints .u8 ([99])) 5 1 11 rfl kj kj fun g7 W2 l7 e2 r7_2 => ?_
  have x2 : Ext w W2 := Ext.tr x1 e2
  have b7 : w.heap.size ≤ g7 := Nat.le_trans x1.size l7
  refine seq_convB (xs := [99]) 24 5 (.tmp 11) 12 rfl rfl kj kj kj kj rfl (show 1 ≤ maxLen by decide) r7_2 fun W3 p3 r7_3 rd8 => ?_
  have x3 : Ext w W3 := Puts.ext p3 x2 b7
  refine seq_makeS (ints .u8 ([116, 101, 120, 116])) 5 4 13 rfl kj kj fun g9 W4 l9 e4 r9_4 => ?_
  have x4 : Ext w W4 := Ext.tr x3 e4
  have b9 : w.heap.size ≤ g9 := Nat.le_trans x3.size l9
  refine seq_convB (xs := [116, 101, 120, 116]) 24 5 (.tmp 13) 14 rfl rfl kj kj kj kj rfl (show 4 ≤ maxLen by decide) r9_4 fun W5 p5 r9_5 rd10 => ?_
  have x5 : Ext w W5 := Puts.ext p5 x4 b9
  have r2_1 := (row_ext hh e1)
  have r2_2 := (row_ext r2_1 e2)
  have r2_3 := (Puts.row p3 r2_2 (ne_of_old r2_1 l7))
  have r2_4 := (row_ext r2_3 e4)
  have r2_5 := (Puts.row p5 r2_4 (ne_of_old r2_3 l9))
  have r1_1 := (row_ext hq e1)
  have r1_2 := (row_ext r1_1 e2)
  have r1_3 := (Puts.row p3 r1_2 (ne_of_old r1_1 l7))
  have r1_4 := (row_ext r1_3 e4)
  have r1_5 := (Puts.row p5 r1_4 (ne_of_old r1_3 l9))
  have f11_2 := (hv5.ext e2)
  have f12_3 := (f11_2.puts p3 (nb_new hv5 l7))
  have f13_4 := (f12_3.ext e4)
  have f14_5 := (f13_4.puts p5 (nb_new f12_3 l9))
  have f15_4 := (rd8.ext e4)
  have f16_5 := (RdK.putsP f15_4 p5 (.inr (fun e => (ne_of_old r7_3 l9) (Option.some.inj e))))
  refine seq_callR (fun v W' => (MixR W5.heap.size (sealV k1_ n7_ [99] [116, 101, 120, 116])) v W' ∧ Ext W5 W') 15 #[.agg (ints .u8 (k1_)), .slice a7_ ((n7_).length) c7_, .slice (some ⟨g7, 0, none⟩) 1 1, .slice (some ⟨g9, 0, none⟩) 4 4] 15 rfl kj kj ((Seal_D k1_ n7_ [99] [116, 101, 120, 116] _ _ _ _ _ _ th tq _ r2_5 r1_5 rfl (OwnN.rd f14_5) f16_5 rd10 (bytes_one (by decide) (by decide)) n7_len (by decide) (by decide)).mono (by rintro e w' ⟨v, rfl, e1, hv⟩; exact ⟨v, rfl, hv, e1⟩)) fun vv17 W6 hh17 => ?_
  obtain ⟨hv17, e6⟩ := hh17
  have x6 : Ext w W6 := Ext.tr x5 e6
  obtain ⟨u15_, rfl, hu15_⟩ := hv17
  obtain ⟨a15_, c15_, rfl, -⟩ := id (OwnN.rd hu15_)
  refine seq_val (.tuple #[.slice a15_ ((sealV k1_ n7_ [99] [116, 101, 120, 116]).length) c15_, .nilIface]) 8 rfl kj kj ?_
  refine seq_val (.slice a15_ ((sealV k1_ n7_ [99] [116, 101, 120, 116]).length) c15_) 16 rfl kj kj ?_
  refine seq_val (.nilIface) 17 rfl kj kj ?_
  refine seq_val (.slice a15_ ((sealV k1_ n7_ [99] [116, 101, 120, 116]).length) c15_) 2 rfl kj kj ?_
  refine seq_val (.nilIface) 3 rfl kj kj ?_
  refine seq_nil ?_
  refine hK6 _ _ ?_
  try clear hK6 K6
  refine wp_seq_k fun K18 hK18 => ?_
  refine wp_seq_k fun K19 hK19 => ?_
  refine region_lit ?_
  refine seq_val (.nilIface) 18 rfl kj kj ?_
  refine seq_val (.bool false) 19 rfl kj kj ?_
  refine seq_val (.bool false) 20 rfl kj kj ?_
  refine seq_val (.slice a15_ ((sealV k1_ n7_ [99] [116, 101, 120, 116]).length) c15_) 21 rfl kj kj ?_
  refine seq_val (.int .i64 (((sealV k1_ n7_ [99] [116, 101, 120, 116]).length : Nat) : Int)) 22 rfl kj kj ?_
  refine seq_val (.bool false) 23 rfl kj (run_eq (u := .bool (((((sealV k1_ n7_ [99] [116, 101, 120, 116]).length : Nat) : Int) != 20))) kj (congrArg Value.bool (by rw [sealV_len]; rfl))) ?_
  refine seq_val (.bool false) 24 rfl kj kj ?_
  refine seq_nil ?_
  refine hK19 _ _ ?_
  try clear hK19 K19
  refine cond_false kj ?_
  refine wp_skip ?_
  refine hK18 _ _ ?_
  try clear hK18 K18
  refine wp_seq_k fun K20 hK20 => ?_
  refine region_lit ?_
  refine seq_val (.agg (ints .u8 (k1_))) 26 rfl kj kj ?_
  refine seq_val (.slice a7_ ((n7_).length) c7_) 27 rfl kj kj ?_
  refine seq_makeS (ints .u8 ([99])) 5 1 28 rfl kj kj fun g21 W7 l21 e7 r21_7 => ?_
  have x7 : Ext w W7 := Ext.tr x6 e7
  have b21 : w.heap.size ≤ g21 := Nat.le_trans x6.size l21
  refine seq_convB (xs := [99]) 24 5 (.tmp 28) 29 rfl rfl kj kj kj kj rfl (show 1 ≤ maxLen by decide) r21_7 fun W8 p8 r21_8 rd22 => ?_
  have x8 : Ext w W8 := Puts.ext p8 x7 b21
  refine seq_val (.slice a15_ ((sealV k1_ n7_ [99] [116, 101, 120, 116]).length) c15_) 30 rfl kj kj ?_
  have r2_6 := (row_ext r2_5 e6)
  have r2_7 := (row_ext r2_6 e7)
  have r2_8 := (Puts.row p8 r2_7 (ne_of_old r2_6 l21))
  have r1_6 := (row_ext r1_5 e6)
  have r1_7 := (row_ext r1_6 e7)
  have r1_8 := (Puts.row p8 r1_7 (ne_of_old r1_6 l21))
  have f23_6 := (f14_5.ext e6)
  have f24_7 := (f23_6.ext e7)
  have f25_8 := (f24_7.puts p8 (nb_new f23_6 l21))
  have f26_7 := (hu15_.ext e7)
  have f27_8 := (f26_7.puts p8 (nb_new hu15_ l21))
  refine seq_callR (fun v W' => (MixR W8.heap.size [116, 101, 120, 116]) v W' ∧ Ext W8 W') 20 #[.agg (ints .u8 (k1_)), .slice a7_ ((n7_).length) c7_, .slice (some ⟨g21, 0, none⟩) 1 1, .slice a15_ ((sealV k1_ n7_ [99] [116, 101, 120, 116]).length) c15_] 31 rfl kj kj ((Open_back k1_ n7_ [99] [116, 101, 120, 116] _ _ _ _ _ _ th tq _ r2_8 r1_8 rfl (OwnN.rd f25_8) rd22 (OwnN.rd f27_8) (bytes_one (by decide) (by decide)) text_bytes n7_len (by decide) (by decide)).mono (by rintro e w' ⟨v, rfl, e1, hv⟩; exact ⟨v, rfl, hv, e1⟩)) fun vv28 W9 hh28 => ?_
  obtain ⟨hv28, e9⟩ := hh28
  have x9 : Ext w W9 := Ext.tr x8 e9
  obtain ⟨u31_, rfl, hu31_⟩ := hv28
  obtain ⟨a31_, c31_, rfl, -⟩ := id (OwnN.rd hu31_)
  refine seq_val (.tuple #[.slice a31_ (([116, 101, 120, 116]).length) c31_, .nilIface]) 25 rfl kj kj ?_
  refine seq_val (.slice a31_ (([116, 101, 120, 116]).length) c31_) 32 rfl kj kj ?_
  refine seq_val (.nilIface) 33 rfl kj kj ?_
  refine seq_val (.slice a31_ (([116, 101, 120, 116]).length) c31_) 4 rfl kj kj ?_
  refine seq_val (.nilIface) 3 rfl kj kj ?_
  refine seq_nil ?_
  refine hK20 _ _ ?_
  try clear hK20 K20
  refine wp_seq_k fun K29 hK29 => ?_
  refine region_lit ?_
  refine seq_val (.agg (ints .u8 (k2_))) 35 rfl kj kj ?_
  refine seq_val (.slice a7_ ((n7_).length) c7_) 36 rfl kj kj ?_
  refine seq_makeS (ints .u8 ([99])) 5 1 37 rfl kj kj fun g30 W10 l30 e10 r30_10 => ?_
  have x10 : Ext w W10 := Ext.tr x9 e10
  have b30 : w.heap.size ≤ g30 := Nat.le_trans x9.size l30
  refine seq_convB (xs := [99]) 24 5 (.tmp 37) 38 rfl rfl kj kj kj kj rfl (show 1 ≤ maxLen by decide) r30_10 fun W11 p11 r30_11 rd31 => ?_
  have x11 : Ext w W11 := Puts.ext p11 x10 b30
  refine seq_val (.slice a15_ ((sealV k1_ n7_ [99] [116, 101, 120, 116]).length) c15_) 39 rfl kj kj ?_
  have r2_9 := (row_ext r2_8 e9)
  have r2_10 := (row_ext r2_9 e10)
  have r2_11 := (Puts.row p11 r2_10 (ne_of_old r2_9 l30))
  have r1_9 := (row_ext r1_8 e9)
  have r1_10 := (row_ext r1_9 e10)
  have r1_11 := (Puts.row p11 r1_10 (ne_of_old r1_9 l30))
  have f32_9 := (f25_8.ext e9)
  have f33_10 := (f32_9.ext e10)
  have f34_11 := (f33_10.puts p11 (nb_new f32_9 l30))
  have f35_9 := (f27_8.ext e9)
  have f36_10 := (f35_9.ext e10)
  have f37_11 := (f36_10.puts p11 (nb_new f35_9 l30))
  refine seq_call (.tuple #[.slice none 0 0, .iface 45 (.int .i64 2)]) 20 #[.agg (ints .u8 (k2_)), .slice a7_ ((n7_).length) c7_, .slice (some ⟨g30, 0, none⟩) 1 1, .slice a15_ ((sealV k1_ n7_ [99] [116, 101, 120, 116]).length) c15_] 40 rfl kj kj ((alive_no _ _ _ _ _ _ th tq _ r2_11 r1_11 (OwnN.rd f34_11) rd31 (OwnN.rd f37_11))) fun W12 e12 => ?_
  have x12 : Ext w W12 := Ext.tr x11 e12
  refine seq_val (.tuple #[.slice none 0 0, .iface 45 (.int .i64 2)]) 34 rfl kj kj ?_
  refine seq_val (.slice none 0 0) 41 rfl kj kj ?_
  refine seq_val (.iface 45 (.int .i64 2)) 42 rfl kj kj ?_
  refine seq_val (.slice none 0 0) 5 rfl kj kj ?_
  refine seq_val (.iface 45 (.int .i64 2)) 6 rfl kj kj ?_
  refine seq_nil ?_
  refine hK29 _ _ ?_
  try clear hK29 K29
  refine wp_seq_k fun K38 hK38 => ?_
  refine region_lit ?_
  refine seq_val (.nilIface) 43 rfl kj kj ?_
  refine seq_val (.bool true) 44 rfl kj kj ?_
  refine seq_val (.bool true) 45 rfl kj kj ?_
  refine seq_val (.slice a31_ (([116, 101, 120, 116]).length) c31_) 46 rfl kj kj ?_
  have f39_10 := (hu31_.ext e10)
  have f40_11 := (f39_10.puts p11 (nb_new hu31_ l30))
  have f41_12 := (f40_11.ext e12)
  refine seq_val (.string (strOf [116, 101, 120, 116])) 47 rfl kj (run_conv8 _ _ rfl kj [116, 101, 120, 116] (RdK.bytes (OwnN.rd f41_12) text_bytes)) ?_
  refine seq_val (.bool true) 48 rfl kj (run_eq (u := .bool ((strOf [116, 101, 120, 116]).toList == (⟨#[116, 101, 120, 116]⟩ : ByteArray).toList)) kj (congrArg Value.bool (by decide +kernel))) ?_
  refine seq_val (.bool true) 49 rfl kj kj ?_
  refine seq_val (.bool true) 50 rfl kj kj ?_
  refine seq_val (.iface 45 (.int .i64 2)) 51 rfl kj kj ?_
  refine seq_call (.bool true) 22 #[.iface 45 (.int .i64 2), .int .i64 2] 52 rfl kj kj ((is2) _) fun W13 e13 => ?_
  have x13 : Ext w W13 := Ext.tr x12 e13
  refine seq_val (.bool true) 53 rfl kj kj ?_
  refine seq_val (.bool true) 0 rfl kj kj ?_
  refine seq_nil ?_
  refine hK38 _ _ ?_
  try clear hK38 K38
  refine wp_ret ?_
  repeat (first | with_reducible refine goR1 ?_ | with_reducible refine goR2 ?_)
  exact (show bodyPost _ _ _ .ret _ _ from ret1 (.bool true) rfl (res_tmp kj) ⟨rfl, x13⟩)

end Go.Proofs.YtjldjdlhllgakaaDoor.Ae
