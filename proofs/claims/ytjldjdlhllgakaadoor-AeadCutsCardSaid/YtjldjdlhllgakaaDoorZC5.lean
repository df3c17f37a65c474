/- Texts of this claim, joined (C5). -/
import Derived.Test.YtjldjdlhllgakaaDoorZC4
import Derived.Laws.Externs
import Derived.Shelf.Spec.BitsCarry
import Derived.Shelf.Bits.Mul64
import Derived.Laws.Bits64b
import Derived.Lib.SmallJoins
import Derived.Lib.LaidTab

section
namespace Go.Proofs.YtjldjdlhllgakaaDoor.Ae
open Go Go.RowKit
open Go.Proofs.YtjldjdlhllgakaaDoor.Rely Go.Proofs.YtjldjdlhllgakaaDoor.Auto Go.Proofs.YtjldjdlhllgakaaDoor.Own Go.Proofs.YtjldjdlhllgakaaDoor.Sha
set_option linter.unusedVariables false
set_option linter.unusedSimpArgs false
open Go.Proofs.YtjldjdlhllgakaaDoor.Sha Go.Proofs.YtjldjdlhllgakaaDoor.Cha
def RMixR (base : Nat) (xs : List Int) : Value → World → Prop := fun v W => ∃ u, v = .tuple #[u, .int .i64 0] ∧ OwnN .u8 5 base xs u W
theorem rmixR_stable (base : Nat) (xs : List Int) : Stable Ext (RMixR base xs) := fun _ _ _ hR ⟨u, e, h⟩ => ⟨u, e, h.ext hR⟩
theorem rMixE (n0 : Nat) (key nonce text fm : List Int) (v v2 : Value) (B B2 : Nat) (w : World) (hkl : key.length = 32) (hkb : AreBytes key) (hnb : AreBytes nonce) (hn : RdK .u8 B nonce v w) (ht : RdK .u8 B2 text v2 w) (h : nonce.length = 12) (hl : text.length ≤ 2000000) (em : mixV (startW key nonce) 1 text = fm) (hn0 : n0 ≤ w.heap.size) :
    Calls Tryd.prog 34 #[.agg (ints .u8 key), v, .int .i64 1, v2] w (Gives w (RMixR n0 fm)) := by
  subst em
  exact (rMix_D key nonce text v v2 B B2 1 w hkl hkb hnb hn ht h 4294967295 (by decide) (by decide) (by decide) (by omega) hl).mono fun e W' hg => by
    obtain ⟨v', e1, e2, u, e3, e4⟩ := hg
    exact ⟨v', e1, e2, u, e3, e4.base hn0⟩
set_option maxRecDepth 100000 in
set_option maxHeartbeats 4000000 in
theorem rSeal_A (key nonce ctx text : List Int) (v v2 v3 : Value) (B B2 B3 : Nat) (w : World) (hkl : key.length = 32) (hkb : AreBytes key) (hnb : AreBytes nonce) (hn : RdK .u8 B nonce v w) (hc : RdK .u8 B2 ctx v2 w) (ht : RdK .u8 B3 text v3 w) (hcb : AreBytes ctx) (h : nonce.length ≠ 12) :
    Calls Tryd.prog 16 #[.agg (ints .u8 key), v, v2, v3] w (Ret w (.tuple #[.slice none 0 0, .int .i64 1])) := by
  obtain ⟨a_n, c_n, rfl, -⟩ := id hn
  obtain ⟨a_c, c_c, rfl, -⟩ := id hc
  obtain ⟨a_t, c_t, rfl, -⟩ := id ht
  refine enter 41 [(0, .agg (ints .u8 (key))), (1, .slice a_n nonce.length c_n), (2, .slice a_c ctx.length c_c), (3, .slice a_t text.length c_t)] Tryd.func16 rfl rfl kj rfl ?_
  refine wp_seq_k fun K1 hK1 => ?_
  refine region_lit ?_
  refine seq_alloc (ints .u8 (key)) 23 4 rfl kj kj fun g2 W1 l2 e1 r2_1 => ?_
  have x1 : Ext w W1 := Ext.tr (Rely.Ext.refl w) e1
  have b2 : w.heap.size ≤ g2 := Nat.le_trans (Rely.Ext.refl w).size l2
  refine seq_val (.slice none 0 0) 8 rfl kj kj ?_
  refine seq_val (.int .i64 0) 9 rfl kj kj ?_
  refine seq_nil ?_
  refine hK1 _ _ ?_
  try clear hK1 K1
  refine wp_seq_k fun K3 hK3 => ?_
  refine wp_seq_k fun K4 hK4 => ?_
  refine region_lit ?_
  refine seq_val (.slice a_n nonce.length c_n) 13 rfl kj kj ?_
  refine seq_val (.int .i64 ((nonce.length : Nat) : Int)) 14 rfl kj kj ?_
  refine seq_val (.bool true) 15 rfl kj (run_eq (u := .bool ((((nonce.length : Nat) : Int) != 12))) kj (congrArg Value.bool (bne_iff_ne.2 (by omega)))) ?_
  refine seq_val (.bool true) 16 rfl kj kj ?_
  refine seq_skip 17 rfl kj ?_
  refine seq_skip 18 rfl kj ?_
  refine seq_skip 19 rfl kj ?_
  refine seq_val (.bool true) 20 rfl kj kj ?_
  refine seq_val (.bool true) 21 rfl kj kj ?_
  refine seq_skip 22 rfl kj ?_
  refine seq_skip 23 rfl kj ?_
  refine seq_skip 24 rfl kj ?_
  refine seq_val (.bool true) 25 rfl kj kj ?_
  refine seq_nil ?_
  refine hK4 _ _ ?_
  try clear hK4 K4
  refine cond_true kj ?_
  refine wp_seq_k fun K5 hK5 => ?_
  refine region_lit ?_
  refine seq_val (.slice none 0 0) 8 rfl kj kj ?_
  refine seq_val (.int .i64 1) 9 rfl kj kj ?_
  refine seq_nil ?_
  refine hK5 _ _ ?_
  try clear hK5 K5
  refine wp_ret ?_
  repeat (first | with_reducible refine goR1 ?_ | with_reducible refine goR2 ?_)
  exact (show bodyPost _ _ _ .ret _ _ from ret2 (.slice none 0 0) (.int .i64 1) rfl (res_tmp kj) (res_tmp kj) ⟨rfl, x1⟩)
set_option maxRecDepth 100000 in
set_option maxHeartbeats 4000000 in
theorem rSeal_D (key nonce ctx text : List Int) (v v2 v3 : Value) (B B2 B3 : Nat) (w : World) (hkl : key.length = 32) (hkb : AreBytes key) (hnb : AreBytes nonce) (hn : RdK .u8 B nonce v w) (hc : RdK .u8 B2 ctx v2 w) (ht : RdK .u8 B3 text v3 w) (hcb : AreBytes ctx) (h : nonce.length = 12) (hcl : ctx.length ≤ 1048576) (hxl : text.length ≤ 1048576) :
    Calls Tryd.prog 16 #[.agg (ints .u8 key), v, v2, v3] w (Gives w (RMixR w.heap.size (sealV key nonce ctx text))) := by
  obtain ⟨a_n, c_n, rfl, -⟩ := id hn
  obtain ⟨a_c, c_c, rfl, -⟩ := id hc
  obtain ⟨a_t, c_t, rfl, -⟩ := id ht
  obtain ⟨fm, em⟩ : ∃ z : List Int, mixV (startW key nonce) 1 text = z := ⟨_, rfl⟩
  have lfm : fm.length = text.length := by rw [← em, mixV_len]
  have hfb : AreBytes fm := by rw [← em]; exact mixV_bytes _ _ _
  refine enter 41 [(0, .agg (ints .u8 (key))), (1, .slice a_n nonce.length c_n), (2, .slice a_c ctx.length c_c), (3, .slice a_t text.length c_t)] Tryd.func16 rfl rfl kj rfl ?_
  refine wp_seq_k fun K1 hK1 => ?_
  refine region_lit ?_
  refine seq_alloc (ints .u8 (key)) 23 4 rfl kj kj fun g2 W1 l2 e1 r2_1 => ?_
  have x1 : Ext w W1 := Ext.tr (Rely.Ext.refl w) e1
  have b2 : w.heap.size ≤ g2 := Nat.le_trans (Rely.Ext.refl w).size l2
  refine seq_val (.slice none 0 0) 8 rfl kj kj ?_
  refine seq_val (.int .i64 0) 9 rfl kj kj ?_
  refine seq_nil ?_
  refine hK1 _ _ ?_
  try clear hK1 K1
  refine wp_seq_k fun K3 hK3 => ?_
  refine wp_seq_k fun K4 hK4 => ?_
  refine region_lit ?_
  refine seq_val (.slice a_n nonce.length c_n) 13 rfl kj kj ?_
  refine seq_val (.int .i64 ((nonce.length : Nat) : Int)) 14 rfl kj kj ?_
  refine seq_val (.bool false) 15 rfl kj (run_eq (u := .bool ((((nonce.length : Nat) : Int) != 12))) kj (congrArg Value.bool (by rw [h]; rfl))) ?_
  refine seq_val (.bool false) 16 rfl kj kj ?_
  refine seq_val (.slice a_c ctx.length c_c) 17 rfl kj kj ?_
  refine seq_val (.int .i64 ((ctx.length : Nat) : Int)) 18 rfl kj kj ?_
  refine seq_val (.bool false) 19 rfl kj (run_eq (u := .bool (decide (((ctx.length : Nat) : Int) > 1048576))) kj (congrArg Value.bool (decide_eq_false (by omega)))) ?_
  refine seq_val (.bool false) 20 rfl kj kj ?_
  refine seq_val (.bool false) 21 rfl kj kj ?_
  refine seq_val (.slice a_t text.length c_t) 22 rfl kj kj ?_
  refine seq_val (.int .i64 ((text.length : Nat) : Int)) 23 rfl kj kj ?_
  refine seq_val (.bool false) 24 rfl kj (run_eq (u := .bool (decide (((text.length : Nat) : Int) > 1048576))) kj (congrArg Value.bool (decide_eq_false (by omega)))) ?_
  refine seq_val (.bool false) 25 rfl kj kj ?_
  refine seq_nil ?_
  refine hK4 _ _ ?_
  try clear hK4 K4
  refine cond_false kj ?_
  refine wp_skip ?_
  refine hK3 _ _ ?_
  try clear hK3 K3
  refine wp_seq_k fun K5 hK5 => ?_
  refine region_lit ?_
  refine seq_val (.agg (ints .u8 (key))) 27 rfl kj (run_load_row 23 _ g2 23 _ _ r2_1 rfl kj kj (isz (n := 32) kj ((ints_size _ _).trans hkl))) ?_
  refine seq_val (.slice a_n nonce.length c_n) 28 rfl kj kj ?_
  refine seq_val (.slice a_t text.length c_t) 29 rfl kj kj ?_
  refine seq_callR (fun v W' => (RMixR W1.heap.size fm) v W' ∧ Ext W1 W') 34 #[.agg (ints .u8 (key)), .slice a_n nonce.length c_n, .int .i64 1, .slice a_t text.length c_t] 30 rfl kj kj ((rMixE W1.heap.size key nonce text fm _ _ _ _ _ hkl hkb hnb (RdK.ext hn x1) (RdK.ext ht x1) h (by omega) em (Nat.le_refl _)).mono (by rintro e w' ⟨v, rfl, e1, hv⟩; exact ⟨v, rfl, hv, e1⟩)) fun vv6 W2 hh6 => ?_
  obtain ⟨hv6, e2⟩ := hh6
  have x2 : Ext w W2 := Ext.tr x1 e2
  obtain ⟨u30_, rfl, hu30_⟩ := hv6
  obtain ⟨a30_, c30_, rfl, -⟩ := id (OwnN.rd hu30_)
  refine seq_val (.tuple #[.slice a30_ ((fm).length) c30_, .int .i64 0]) 26 rfl kj kj ?_
  refine seq_val (.slice a30_ ((fm).length) c30_) 31 rfl kj kj ?_
  refine seq_val (.int .i64 0) 32 rfl kj kj ?_
  refine seq_val (.slice a30_ ((fm).length) c30_) 10 rfl kj kj ?_
  refine seq_val (.int .i64 0) 11 rfl kj kj ?_
  refine seq_nil ?_
  refine hK5 _ _ ?_
  try clear hK5 K5
  refine wp_seq_k fun K7 hK7 => ?_
  refine region_lit ?_
  have r2_2 := (row_ext r2_1 e2)
  refine seq_val (.agg (ints .u8 (key))) 33 rfl kj (run_load_row 23 _ g2 23 _ _ r2_2 rfl kj kj (isz (n := 32) kj ((ints_size _ _).trans hkl))) ?_
  refine seq_val (.slice a_n nonce.length c_n) 34 rfl kj kj ?_
  refine seq_val (.slice a_c ctx.length c_c) 35 rfl kj kj ?_
  refine seq_val (.slice a30_ ((fm).length) c30_) 36 rfl kj kj ?_
  refine seq_call (.agg (ints .u8 (authV key nonce ctx fm))) 35 #[.agg (ints .u8 (key)), .slice a_n nonce.length c_n, .slice a_c ctx.length c_c, .slice a30_ ((fm).length) c30_] 37 rfl kj kj ((rmarkOfC key nonce ctx fm _ _ _ _ _ _ _ hkl hkb hnb (RdK.ext hn x2) (RdK.ext hc x2) (OwnN.rd hu30_) h hcb hfb (by omega) (by omega))) fun W3 e3 => ?_
  have x3 : Ext w W3 := Ext.tr x2 e3
  refine seq_alloc (ints .u8 (List.replicate 16 0)) 27 12 rfl kj kj fun g8 W4 l8 e4 r8_4 => ?_
  have x4 : Ext w W4 := Ext.tr x3 e4
  have b8 : w.heap.size ≤ g8 := Nat.le_trans x3.size l8
  refine seq_store g8 _ (ints .u8 (authV key nonce ctx fm)) 27 r8_4 rfl kj (run_store_row 27 _ _ g8 27 _ _ r8_4 rfl kj kj (isz (n := 16) kj ((ints_size _ _).trans (authV_len _ _ _ _))) (eqsz (n := 16) ((ints_size _ _).trans (List.length_replicate (n := 16))) ((ints_size _ _).trans (authV_len _ _ _ _))) (ints_one _ _)) fun W5 p5 r8_5 => ?_
  have x5 : Ext w W5 := Puts.ext p5 x4 b8
  refine seq_nil ?_
  refine hK7 _ _ ?_
  try clear hK7 K7
  refine wp_seq_k fun K9 hK9 => ?_
  refine region_lit ?_
  refine seq_val (.slice a30_ ((fm).length) c30_) 38 rfl kj kj ?_
  refine seq_val (.slice (some ⟨g8, 0, none⟩) 16 16) 39 rfl kj kj ?_
  have f10_3 := (hu30_.ext e3)
  have f11_4 := (f10_3.ext e4)
  have f12_5 := (f11_4.puts p5 (nb_new f10_3 l8))
  have y1_2 : Ext W1 W2 := (Rely.Ext.trans (Rely.Ext.refl W1) e2)
  have y1_3 : Ext W1 W3 := (Rely.Ext.trans y1_2 e3)
  have y1_4 : Ext W1 W4 := (Rely.Ext.trans y1_3 e4)
  have y1_5 : Ext W1 W5 := (Puts.ext p5 y1_4 (Nat.le_trans y1_3.size l8))
  refine seq_appendN (k := .u8) (T := 5) (xs := fm) (ys := authV key nonce ctx fm) (V := W1) 1 (.tmp 38) (.tmp 39) 24 rfl kj kj (by decide) 40 rfl kj kj kj f12_5 (rdK_ints (xs := authV key nonce ctx fm) (n := 16) (authV_len _ _ _ _) r8_5 (row_lt r8_5) (show 16 ≤ maxLen from by decide)) (by rw [authV_len]; omega) y1_5 fun zs W6 f13 y6 l6 => ?_
  have x6 : Ext w W6 := Ext.low x5 l6 x1.size
  refine seq_val (zs) 8 rfl kj kj ?_
  refine seq_val (.int .i64 0) 9 rfl kj kj ?_
  refine seq_nil ?_
  refine hK9 _ _ ?_
  try clear hK9 K9
  refine wp_ret ?_
  repeat (first | with_reducible refine goR1 ?_ | with_reducible refine goR2 ?_)
  exact (show bodyPost _ _ _ .ret _ _ from ret2 (zs) (.int .i64 0) rfl (res_tmp kj) (res_tmp kj) ⟨_, rfl, x6, zs, rfl, by unfold sealV; rw [em]; exact OwnN.base x1.size f13⟩)
end Go.Proofs.YtjldjdlhllgakaaDoor.Ae
end
section
namespace Go.Proofs.YtjldjdlhllgakaaDoor.Ae
open Go Go.RowKit
open Go.Proofs.YtjldjdlhllgakaaDoor.Rely Go.Proofs.YtjldjdlhllgakaaDoor.Auto Go.Proofs.YtjldjdlhllgakaaDoor.Own Go.Proofs.YtjldjdlhllgakaaDoor.Sha
set_option linter.unusedVariables false
set_option linter.unusedSimpArgs false
open Go.Proofs.YtjldjdlhllgakaaDoor.Sha Go.Proofs.YtjldjdlhllgakaaDoor.Cha
set_option maxRecDepth 100000 in
set_option maxHeartbeats 4000000 in
theorem rOpen_S (key nonce ctx sl : List Int) (v v2 v3 : Value) (B B2 B3 : Nat) (w : World) (hkl : key.length = 32) (hkb : AreBytes key) (hnb : AreBytes nonce) (hn : RdK .u8 B nonce v w) (hc : RdK .u8 B2 ctx v2 w) (ht : RdK .u8 B3 sl v3 w) (hcb : AreBytes ctx) (htb : AreBytes sl) (h : nonce.length = 12) (hcl : ctx.length ≤ 1048592) (hxl : sl.length ≤ 1048592) (hsh : sl.length < 16) :
    Calls Tryd.prog 21 #[.agg (ints .u8 key), v, v2, v3] w (Ret w (.tuple #[.slice none 0 0, .int .i64 2])) := by
  obtain ⟨a_n, c_n, rfl, -⟩ := id hn
  obtain ⟨a_c, c_c, rfl, -⟩ := id hc
  obtain ⟨a_t, c_t, rfl, -⟩ := id ht
  have ctk : sl.length ≤ c_t := by
    obtain ⟨_, _, e, q2, _⟩ := id ht
    simp only [Value.slice.injEq] at e
    obtain ⟨-, -, rfl⟩ := e
    exact q2
  have htm : sl.length ≤ maxLen := RdK.len ht
  have hlt_ : (sl.take (sl.length - 16)).length = sl.length - 16 := by rw [List.length_take]; omega
  refine enter 56 [(0, .agg (ints .u8 (key))), (1, .slice a_n nonce.length c_n), (2, .slice a_c ctx.length c_c), (3, .slice a_t sl.length c_t)] Tryd.func21 rfl rfl kj rfl ?_
  refine wp_seq_k fun K1 hK1 => ?_
  refine region_lit ?_
  refine seq_alloc (ints .u8 (key)) 23 4 rfl kj kj fun g2 W1 l2 e1 r2_1 => ?_
  have x1 : Ext w W1 := Ext.tr (Rely.Ext.refl w) e1
  have b2 : w.heap.size ≤ g2 := Nat.le_trans (Rely.Ext.refl w).size l2
  refine seq_val (.slice none 0 0) 8 rfl kj kj ?_
  refine seq_val (.int .i64 0) 9 rfl kj kj ?_
  refine seq_nil ?_
  refine hK1 _ _ ?_
  try clear hK1 K1
  refine wp_seq_k fun K3 hK3 => ?_
  refine wp_seq_k fun K4 hK4 => ?_
  refine region_lit ?_
  refine seq_val (.slice a_n nonce.length c_n) 14 rfl kj kj ?_
  refine seq_val (.int .i64 ((nonce.length : Nat) : Int)) 15 rfl kj kj ?_
  refine seq_val (.bool false) 16 rfl kj (run_eq (u := .bool ((((nonce.length : Nat) : Int) != 12))) kj (congrArg Value.bool (by rw [h]; rfl))) ?_
  refine seq_val (.bool false) 17 rfl kj kj ?_
  refine seq_val (.slice a_c ctx.length c_c) 18 rfl kj kj ?_
  refine seq_val (.int .i64 ((ctx.length : Nat) : Int)) 19 rfl kj kj ?_
  refine seq_val (.bool false) 20 rfl kj (run_eq (u := .bool (decide (((ctx.length : Nat) : Int) > 1048592))) kj (congrArg Value.bool (decide_eq_false (by omega)))) ?_
  refine seq_val (.bool false) 21 rfl kj kj ?_
  refine seq_val (.bool false) 22 rfl kj kj ?_
  refine seq_val (.slice a_t sl.length c_t) 23 rfl kj kj ?_
  refine seq_val (.int .i64 ((sl.length : Nat) : Int)) 24 rfl kj kj ?_
  refine seq_val (.bool false) 25 rfl kj (run_eq (u := .bool (decide (((sl.length : Nat) : Int) > 1048592))) kj (congrArg Value.bool (decide_eq_false (by omega)))) ?_
  refine seq_val (.bool false) 26 rfl kj kj ?_
  refine seq_nil ?_
  refine hK4 _ _ ?_
  try clear hK4 K4
  refine cond_false kj ?_
  refine wp_skip ?_
  refine hK3 _ _ ?_
  try clear hK3 K3
  refine wp_seq_k fun K5 hK5 => ?_
  refine region_lit ?_
  refine seq_val (.slice a_t sl.length c_t) 27 rfl kj kj ?_
  refine seq_val (.int .i64 ((sl.length : Nat) : Int)) 28 rfl kj kj ?_
  refine seq_val (.int .i64 (((sl.length : Nat) : Int) - 16)) 29 rfl kj (run_eq (u := .int .i64 (IntKind.i64.wrap (((sl.length : Nat) : Int) - 16))) kj (congrArg (Value.int .i64) (IntWalk.i64_in _ (by rw [maxLen] at htm; omega)))) ?_
  refine seq_val (.int .i64 (((sl.length : Nat) : Int) - 16)) 10 rfl kj kj ?_
  refine seq_nil ?_
  refine hK5 _ _ ?_
  try clear hK5 K5
  refine wp_seq_k fun K6 hK6 => ?_
  refine wp_seq_k fun K7 hK7 => ?_
  refine region_lit ?_
  refine seq_val (.int .i64 (((sl.length : Nat) : Int) - 16)) 30 rfl kj kj ?_
  refine seq_val (.bool true) 31 rfl kj (run_eq (u := .bool (decide ((((sl.length : Nat) : Int) - 16) < 0))) kj (congrArg Value.bool (decide_eq_true (by omega)))) ?_
  refine seq_nil ?_
  refine hK7 _ _ ?_
  try clear hK7 K7
  refine cond_true kj ?_
  refine wp_seq_k fun K8 hK8 => ?_
  refine region_lit ?_
  refine seq_val (.slice none 0 0) 8 rfl kj kj ?_
  refine seq_val (.int .i64 2) 9 rfl kj kj ?_
  refine seq_nil ?_
  refine hK8 _ _ ?_
  try clear hK8 K8
  refine wp_ret ?_
  repeat (first | with_reducible refine goR1 ?_ | with_reducible refine goR2 ?_)
  exact (show bodyPost _ _ _ .ret _ _ from ret2 (.slice none 0 0) (.int .i64 2) rfl (res_tmp kj) (res_tmp kj) ⟨rfl, x1⟩)
set_option maxRecDepth 100000 in
set_option maxHeartbeats 4000000 in
theorem rOpen_N (key nonce ctx sl : List Int) (v v2 v3 : Value) (B B2 B3 : Nat) (w : World) (hkl : key.length = 32) (hkb : AreBytes key) (hnb : AreBytes nonce) (hn : RdK .u8 B nonce v w) (hc : RdK .u8 B2 ctx v2 w) (ht : RdK .u8 B3 sl v3 w) (hcb : AreBytes ctx) (htb : AreBytes sl) (h : nonce.length = 12) (hcl : ctx.length ≤ 1048592) (hxl : sl.length ≤ 1048592) (hsh : 16 ≤ sl.length) (hne : authV key nonce ctx (sl.take (sl.length - 16)) ≠ sl.drop (sl.length - 16)) :
    Calls Tryd.prog 21 #[.agg (ints .u8 key), v, v2, v3] w (Ret w (.tuple #[.slice none 0 0, .int .i64 2])) := by
  obtain ⟨a_n, c_n, rfl, -⟩ := id hn
  obtain ⟨a_c, c_c, rfl, -⟩ := id hc
  obtain ⟨a_t, c_t, rfl, -⟩ := id ht
  have ctk : sl.length ≤ c_t := by
    obtain ⟨_, _, e, q2, _⟩ := id ht
    simp only [Value.slice.injEq] at e
    obtain ⟨-, -, rfl⟩ := e
    exact q2
  have htm : sl.length ≤ maxLen := RdK.len ht
  have hlt_ : (sl.take (sl.length - 16)).length = sl.length - 16 := by rw [List.length_take]; omega
  refine enter 56 [(0, .agg (ints .u8 (key))), (1, .slice a_n nonce.length c_n), (2, .slice a_c ctx.length c_c), (3, .slice a_t sl.length c_t)] Tryd.func21 rfl rfl kj rfl ?_
  refine wp_seq_k fun K1 hK1 => ?_
  refine region_lit ?_
  refine seq_alloc (ints .u8 (key)) 23 4 rfl kj kj fun g2 W1 l2 e1 r2_1 => ?_
  have x1 : Ext w W1 := Ext.tr (Rely.Ext.refl w) e1
  have b2 : w.heap.size ≤ g2 := Nat.le_trans (Rely.Ext.refl w).size l2
  refine seq_val (.slice none 0 0) 8 rfl kj kj ?_
  refine seq_val (.int .i64 0) 9 rfl kj kj ?_
  refine seq_nil ?_
  refine hK1 _ _ ?_
  try clear hK1 K1
  refine wp_seq_k fun K3 hK3 => ?_
  refine wp_seq_k fun K4 hK4 => ?_
  refine region_lit ?_
  refine seq_val (.slice a_n nonce.length c_n) 14 rfl kj kj ?_
  refine seq_val (.int .i64 ((nonce.length : Nat) : Int)) 15 rfl kj kj ?_
  refine seq_val (.bool false) 16 rfl kj (run_eq (u := .bool ((((nonce.length : Nat) : Int) != 12))) kj (congrArg Value.bool (by rw [h]; rfl))) ?_
  refine seq_val (.bool false) 17 rfl kj kj ?_
  refine seq_val (.slice a_c ctx.length c_c) 18 rfl kj kj ?_
  refine seq_val (.int .i64 ((ctx.length : Nat) : Int)) 19 rfl kj kj ?_
  refine seq_val (.bool false) 20 rfl kj (run_eq (u := .bool (decide (((ctx.length : Nat) : Int) > 1048592))) kj (congrArg Value.bool (decide_eq_false (by omega)))) ?_
  refine seq_val (.bool false) 21 rfl kj kj ?_
  refine seq_val (.bool false) 22 rfl kj kj ?_
  refine seq_val (.slice a_t sl.length c_t) 23 rfl kj kj ?_
  refine seq_val (.int .i64 ((sl.length : Nat) : Int)) 24 rfl kj kj ?_
  refine seq_val (.bool false) 25 rfl kj (run_eq (u := .bool (decide (((sl.length : Nat) : Int) > 1048592))) kj (congrArg Value.bool (decide_eq_false (by omega)))) ?_
  refine seq_val (.bool false) 26 rfl kj kj ?_
  refine seq_nil ?_
  refine hK4 _ _ ?_
  try clear hK4 K4
  refine cond_false kj ?_
  refine wp_skip ?_
  refine hK3 _ _ ?_
  try clear hK3 K3
  refine wp_seq_k fun K5 hK5 => ?_
  refine region_lit ?_
  refine seq_val (.slice a_t sl.length c_t) 27 rfl kj kj ?_
  refine seq_val (.int .i64 ((sl.length : Nat) : Int)) 28 rfl kj kj ?_
  refine seq_val (.int .i64 (((sl.length - 16 : Nat) : Int))) 29 rfl kj (run_eq (u := .int .i64 (IntKind.i64.wrap (((sl.length : Nat) : Int) - 16))) kj (congrArg (Value.int .i64) (i64_sub16 _ hsh htm))) ?_
  refine seq_val (.int .i64 (((sl.length - 16 : Nat) : Int))) 10 rfl kj kj ?_
  refine seq_nil ?_
  refine hK5 _ _ ?_
  try clear hK5 K5
  refine wp_seq_k fun K6 hK6 => ?_
  refine wp_seq_k fun K7 hK7 => ?_
  refine region_lit ?_
  refine seq_val (.int .i64 (((sl.length - 16 : Nat) : Int))) 30 rfl kj kj ?_
  refine seq_val (.bool false) 31 rfl kj (run_eq (u := .bool (decide (((sl.length - 16 : Nat) : Int) < 0))) kj (congrArg Value.bool (decide_eq_false (by omega)))) ?_
  refine seq_nil ?_
  refine hK7 _ _ ?_
  try clear hK7 K7
  refine cond_false kj ?_
  refine wp_skip ?_
  refine hK6 _ _ ?_
  try clear hK6 K6
  refine wp_seq_k fun K8 hK8 => ?_
  refine any_regionE 8 [⟨none, [(4, none)]⟩, ⟨none, [(1, none)]⟩, ⟨none, [(2, none)]⟩, ⟨none, [(3, none)]⟩, ⟨none, [(10, none)]⟩, ⟨none, [(35, some 3), (36, some 4)]⟩, ⟨none, [(32, some 0), (33, some 1), (34, some 2), (37, some 5)]⟩, ⟨none, []⟩] kj kj fun F hF => ?_
  refine e_read (rl_ext _) (.agg (ints .u8 (key))) kj kj (fun W hR => (run_load_row 23 _ g2 23 _ _ (row_ext (row_ext r2_1 (ext_drew _)) hR) rfl kj kj (isz (n := 32) kj ((ints_size _ _).trans hkl)))) ?_
  refine e_val (rl_ext _) (.slice a_n nonce.length c_n) kj kj (fun W => by kernel_rfl) ?_
  refine e_val (rl_ext _) (.slice a_c ctx.length c_c) kj kj (fun W => by kernel_rfl) ?_
  refine e_val (rl_ext _) (.slice a_t sl.length c_t) kj kj (fun W => by kernel_rfl) ?_
  refine e_val (rl_ext _) (.int .i64 (((sl.length - 16 : Nat) : Int))) kj kj (fun W => by kernel_rfl) ?_
  refine e_val (rl_ext _) (.slice a_t (sl.length - 16) c_t) kj kj (fun W => (run_sliceH (len := sl.length) 24 _ _ (sl.length - 16) 5 rfl kj kj kj .i64 kj (Nat.le_trans (Nat.sub_le _ _) ctk))) ?_
  refine e_call (rl_ext _) (.agg (ints .u8 (authV key nonce ctx (sl.take (sl.length - 16))))) 35 #[.agg (ints .u8 (key)), .slice a_n nonce.length c_n, .slice a_c ctx.length c_c, .slice a_t (sl.length - 16) c_t] kj kj (fun W => by kernel_rfl) (fun W hR => (rmarkOfC key nonce ctx (sl.take (sl.length - 16)) _ _ _ _ _ _ W hkl hkb hnb (RdK.ext (RdK.ext hn x1) (Rely.Ext.trans (ext_drew _) hR)) (RdK.ext (RdK.ext hc x1) (Rely.Ext.trans (ext_drew _) hR)) (RdK.ext (rdK_take (RdK.ext ht x1) (sl.length - 16) (Nat.sub_le _ _)) (Rely.Ext.trans (ext_drew _) hR)) h hcb (bytes_take htb _) (by omega) (by omega))) ?_
  refine e_newP (rl_ext _) (ints .u8 (List.replicate 16 0)) 27 (NewP.stable _ _ _) kj kj (fun W => by kernel_rfl) ?_
  refine e_nil (hF _ fun W2 e2 => ?_)
  simp only [List.nil_append, List.cons_append, List.take_succ_cons, List.take_zero, List.drop_succ_cons, List.drop_zero, finE, up]
  intro vv9 hv9
  clear hF
  have x2 : Ext w W2 := Ext.tr x1 e2
  obtain ⟨g9, rfl, l9, r9_2⟩ := hv9
  have b9 : w.heap.size ≤ g9 := Nat.le_trans x1.size l9
  refine seq_store g9 _ (ints .u8 (authV key nonce ctx (sl.take (sl.length - 16)))) 27 r9_2 rfl kj (run_store_row 27 _ _ g9 27 _ _ r9_2 rfl kj kj (isz (n := 16) kj ((ints_size _ _).trans (authV_len _ _ _ _))) (eqsz (n := 16) ((ints_size _ _).trans (List.length_replicate (n := 16))) ((ints_size _ _).trans (authV_len _ _ _ _))) (ints_one _ _)) fun W3 p3 r9_3 => ?_
  have x3 : Ext w W3 := Puts.ext p3 x2 b9
  refine seq_nil ?_
  refine hK8 _ _ ?_
  try clear hK8 K8
  refine wp_seq_k fun K10 hK10 => ?_
  refine wp_seq_k fun K11 hK11 => ?_
  refine any_regionE 6 [⟨none, [(11, none)]⟩, ⟨none, [(39, some 0)]⟩, ⟨none, [(3, none)]⟩, ⟨none, [(10, none)]⟩, ⟨none, [(41, some 2), (42, some 3)]⟩, ⟨none, [(43, some 4)]⟩] kj kj fun F hF => ?_
  refine e_val (rl_ext _) (.slice (some ⟨g9, 0, none⟩) 16 16) kj kj (fun W => by kernel_rfl) ?_
  refine e_read (rl_ext _) (.string (strOf (authV key nonce ctx (sl.take (sl.length - 16))))) kj kj (fun W hR => (run_conv8 _ _ rfl kj (authV key nonce ctx (sl.take (sl.length - 16))) (RdK.bytes (RdK.ext (rdK_ints (xs := authV key nonce ctx (sl.take (sl.length - 16))) (n := 16) (authV_len _ _ _ _) r9_3 (row_lt r9_3) (show 16 ≤ maxLen from by decide)) (Rely.Ext.trans (ext_drew _) hR)) (authV_bytes _ _ _ _)))) ?_
  refine e_val (rl_ext _) (.slice a_t sl.length c_t) kj kj (fun W => by kernel_rfl) ?_
  refine e_val (rl_ext _) (.int .i64 (((sl.length - 16 : Nat) : Int))) kj kj (fun W => by kernel_rfl) ?_
  refine e_val (rl_ext _) (.slice (restA a_t c_t (sl.length - 16)) (sl.length - (sl.length - 16)) (c_t - (sl.length - 16))) kj kj (fun W => (run_sliceD 24 _ _ (sl.length - 16) 5 rfl kj kj kj .i64 kj (Nat.sub_le _ _) ctk)) ?_
  refine e_read (rl_ext _) (.string (strOf (sl.drop (sl.length - 16)))) kj kj (fun W hR => (run_conv8 _ _ rfl kj (sl.drop (sl.length - 16)) (RdK.bytes (RdK.ext (rdK_drop (RdK.ext ht x3) (sl.length - 16) (Nat.sub_le _ _)) (Rely.Ext.trans (ext_drew _) hR)) (bytes_drop htb _)))) ?_
  refine e_nil (hF _ fun W4 e4 => ?_)
  simp only [List.nil_append, List.cons_append, List.take_succ_cons, List.take_zero, List.drop_succ_cons, List.drop_zero, finE, up]
  clear hF
  have x4 : Ext w W4 := Ext.tr x3 e4
  refine seq_val (.bool true) 45 rfl kj (run_eq (u := .bool (!((strOf (authV key nonce ctx (sl.take (sl.length - 16)))).toList == (strOf (sl.drop (sl.length - 16))).toList))) kj (congrArg Value.bool (by rw [strOf_beq (authV_bytes _ _ _ _) (bytes_drop htb _), decide_eq_false hne]; rfl))) ?_
  refine seq_nil ?_
  refine hK11 _ _ ?_
  try clear hK11 K11
  refine cond_true kj ?_
  refine wp_seq_k fun K12 hK12 => ?_
  refine region_lit ?_
  refine seq_val (.slice none 0 0) 8 rfl kj kj ?_
  refine seq_val (.int .i64 2) 9 rfl kj kj ?_
  refine seq_nil ?_
  refine hK12 _ _ ?_
  try clear hK12 K12
  refine wp_ret ?_
  repeat (first | with_reducible refine goR1 ?_ | with_reducible refine goR2 ?_)
  exact (show bodyPost _ _ _ .ret _ _ from ret2 (.slice none 0 0) (.int .i64 2) rfl (res_tmp kj) (res_tmp kj) ⟨rfl, x4⟩)
set_option maxRecDepth 100000 in
set_option maxHeartbeats 4000000 in
theorem rOpen_E (key nonce ctx sl : List Int) (v v2 v3 : Value) (B B2 B3 : Nat) (w : World) (hkl : key.length = 32) (hkb : AreBytes key) (hnb : AreBytes nonce) (hn : RdK .u8 B nonce v w) (hc : RdK .u8 B2 ctx v2 w) (ht : RdK .u8 B3 sl v3 w) (hcb : AreBytes ctx) (htb : AreBytes sl) (h : nonce.length = 12) (hcl : ctx.length ≤ 1048592) (hxl : sl.length ≤ 1048592) (hsh : 16 ≤ sl.length) (hne : authV key nonce ctx (sl.take (sl.length - 16)) = sl.drop (sl.length - 16)) :
    Calls Tryd.prog 21 #[.agg (ints .u8 key), v, v2, v3] w (Gives w (RMixR w.heap.size (mixV (startW key nonce) 1 (sl.take (sl.length - 16))))) := by
  obtain ⟨a_n, c_n, rfl, -⟩ := id hn
  obtain ⟨a_c, c_c, rfl, -⟩ := id hc
  obtain ⟨a_t, c_t, rfl, -⟩ := id ht
  have ctk : sl.length ≤ c_t := by
    obtain ⟨_, _, e, q2, _⟩ := id ht
    simp only [Value.slice.injEq] at e
    obtain ⟨-, -, rfl⟩ := e
    exact q2
  have htm : sl.length ≤ maxLen := RdK.len ht
  have hlt_ : (sl.take (sl.length - 16)).length = sl.length - 16 := by rw [List.length_take]; omega
  obtain ⟨fm, em⟩ : ∃ z : List Int, mixV (startW key nonce) 1 (sl.take (sl.length - 16)) = z := ⟨_, rfl⟩
  refine enter 56 [(0, .agg (ints .u8 (key))), (1, .slice a_n nonce.length c_n), (2, .slice a_c ctx.length c_c), (3, .slice a_t sl.length c_t)] Tryd.func21 rfl rfl kj rfl ?_
  refine wp_seq_k fun K1 hK1 => ?_
  refine region_lit ?_
  refine seq_alloc (ints .u8 (key)) 23 4 rfl kj kj fun g2 W1 l2 e1 r2_1 => ?_
  have x1 : Ext w W1 := Ext.tr (Rely.Ext.refl w) e1
  have b2 : w.heap.size ≤ g2 := Nat.le_trans (Rely.Ext.refl w).size l2
  refine seq_val (.slice none 0 0) 8 rfl kj kj ?_
  refine seq_val (.int .i64 0) 9 rfl kj kj ?_
  refine seq_nil ?_
  refine hK1 _ _ ?_
  try clear hK1 K1
  refine wp_seq_k fun K3 hK3 => ?_
  refine wp_seq_k fun K4 hK4 => ?_
  refine region_lit ?_
  refine seq_val (.slice a_n nonce.length c_n) 14 rfl kj kj ?_
  refine seq_val (.int .i64 ((nonce.length : Nat) : Int)) 15 rfl kj kj ?_
  refine seq_val (.bool false) 16 rfl kj (run_eq (u := .bool ((((nonce.length : Nat) : Int) != 12))) kj (congrArg Value.bool (by rw [h]; rfl))) ?_
  refine seq_val (.bool false) 17 rfl kj kj ?_
  refine seq_val (.slice a_c ctx.length c_c) 18 rfl kj kj ?_
  refine seq_val (.int .i64 ((ctx.length : Nat) : Int)) 19 rfl kj kj ?_
  refine seq_val (.bool false) 20 rfl kj (run_eq (u := .bool (decide (((ctx.length : Nat) : Int) > 1048592))) kj (congrArg Value.bool (decide_eq_false (by omega)))) ?_
  refine seq_val (.bool false) 21 rfl kj kj ?_
  refine seq_val (.bool false) 22 rfl kj kj ?_
  refine seq_val (.slice a_t sl.length c_t) 23 rfl kj kj ?_
  refine seq_val (.int .i64 ((sl.length : Nat) : Int)) 24 rfl kj kj ?_
  refine seq_val (.bool false) 25 rfl kj (run_eq (u := .bool (decide (((sl.length : Nat) : Int) > 1048592))) kj (congrArg Value.bool (decide_eq_false (by omega)))) ?_
  refine seq_val (.bool false) 26 rfl kj kj ?_
  refine seq_nil ?_
  refine hK4 _ _ ?_
  try clear hK4 K4
  refine cond_false kj ?_
  refine wp_skip ?_
  refine hK3 _ _ ?_
  try clear hK3 K3
  refine wp_seq_k fun K5 hK5 => ?_
  refine region_lit ?_
  refine seq_val (.slice a_t sl.length c_t) 27 rfl kj kj ?_
  refine seq_val (.int .i64 ((sl.length : Nat) : Int)) 28 rfl kj kj ?_
  refine seq_val (.int .i64 (((sl.length - 16 : Nat) : Int))) 29 rfl kj (run_eq (u := .int .i64 (IntKind.i64.wrap (((sl.length : Nat) : Int) - 16))) kj (congrArg (Value.int .i64) (i64_sub16 _ hsh htm))) ?_
  refine seq_val (.int .i64 (((sl.length - 16 : Nat) : Int))) 10 rfl kj kj ?_
  refine seq_nil ?_
  refine hK5 _ _ ?_
  try clear hK5 K5
  refine wp_seq_k fun K6 hK6 => ?_
  refine wp_seq_k fun K7 hK7 => ?_
  refine region_lit ?_
  refine seq_val (.int .i64 (((sl.length - 16 : Nat) : Int))) 30 rfl kj kj ?_
  refine seq_val (.bool false) 31 rfl kj (run_eq (u := .bool (decide (((sl.length - 16 : Nat) : Int) < 0))) kj (congrArg Value.bool (decide_eq_false (by omega)))) ?_
  refine seq_nil ?_
  refine hK7 _ _ ?_
  try clear hK7 K7
  refine cond_false kj ?_
  refine wp_skip ?_
  refine hK6 _ _ ?_
  try clear hK6 K6
  refine wp_seq_k fun K8 hK8 => ?_
  refine any_regionE 8 [⟨none, [(4, none)]⟩, ⟨none, [(1, none)]⟩, ⟨none, [(2, none)]⟩, ⟨none, [(3, none)]⟩, ⟨none, [(10, none)]⟩, ⟨none, [(35, some 3), (36, some 4)]⟩, ⟨none, [(32, some 0), (33, some 1), (34, some 2), (37, some 5)]⟩, ⟨none, []⟩] kj kj fun F hF => ?_
  refine e_read (rl_ext _) (.agg (ints .u8 (key))) kj kj (fun W hR => (run_load_row 23 _ g2 23 _ _ (row_ext (row_ext r2_1 (ext_drew _)) hR) rfl kj kj (isz (n := 32) kj ((ints_size _ _).trans hkl)))) ?_
  refine e_val (rl_ext _) (.slice a_n nonce.length c_n) kj kj (fun W => by kernel_rfl) ?_
  refine e_val (rl_ext _) (.slice a_c ctx.length c_c) kj kj (fun W => by kernel_rfl) ?_
  refine e_val (rl_ext _) (.slice a_t sl.length c_t) kj kj (fun W => by kernel_rfl) ?_
  refine e_val (rl_ext _) (.int .i64 (((sl.length - 16 : Nat) : Int))) kj kj (fun W => by kernel_rfl) ?_
  refine e_val (rl_ext _) (.slice a_t (sl.length - 16) c_t) kj kj (fun W => (run_sliceH (len := sl.length) 24 _ _ (sl.length - 16) 5 rfl kj kj kj .i64 kj (Nat.le_trans (Nat.sub_le _ _) ctk))) ?_
  refine e_call (rl_ext _) (.agg (ints .u8 (authV key nonce ctx (sl.take (sl.length - 16))))) 35 #[.agg (ints .u8 (key)), .slice a_n nonce.length c_n, .slice a_c ctx.length c_c, .slice a_t (sl.length - 16) c_t] kj kj (fun W => by kernel_rfl) (fun W hR => (rmarkOfC key nonce ctx (sl.take (sl.length - 16)) _ _ _ _ _ _ W hkl hkb hnb (RdK.ext (RdK.ext hn x1) (Rely.Ext.trans (ext_drew _) hR)) (RdK.ext (RdK.ext hc x1) (Rely.Ext.trans (ext_drew _) hR)) (RdK.ext (rdK_take (RdK.ext ht x1) (sl.length - 16) (Nat.sub_le _ _)) (Rely.Ext.trans (ext_drew _) hR)) h hcb (bytes_take htb _) (by omega) (by omega))) ?_
  refine e_newP (rl_ext _) (ints .u8 (List.replicate 16 0)) 27 (NewP.stable _ _ _) kj kj (fun W => by kernel_rfl) ?_
  refine e_nil (hF _ fun W2 e2 => ?_)
  simp only [List.nil_append, List.cons_append, List.take_succ_cons, List.take_zero, List.drop_succ_cons, List.drop_zero, finE, up]
  intro vv9 hv9
  clear hF
  have x2 : Ext w W2 := Ext.tr x1 e2
  obtain ⟨g9, rfl, l9, r9_2⟩ := hv9
  have b9 : w.heap.size ≤ g9 := Nat.le_trans x1.size l9
  refine seq_store g9 _ (ints .u8 (authV key nonce ctx (sl.take (sl.length - 16)))) 27 r9_2 rfl kj (run_store_row 27 _ _ g9 27 _ _ r9_2 rfl kj kj (isz (n := 16) kj ((ints_size _ _).trans (authV_len _ _ _ _))) (eqsz (n := 16) ((ints_size _ _).trans (List.length_replicate (n := 16))) ((ints_size _ _).trans (authV_len _ _ _ _))) (ints_one _ _)) fun W3 p3 r9_3 => ?_
  have x3 : Ext w W3 := Puts.ext p3 x2 b9
  refine seq_nil ?_
  refine hK8 _ _ ?_
  try clear hK8 K8
  refine wp_seq_k fun K10 hK10 => ?_
  refine wp_seq_k fun K11 hK11 => ?_
  refine any_regionE 6 [⟨none, [(11, none)]⟩, ⟨none, [(39, some 0)]⟩, ⟨none, [(3, none)]⟩, ⟨none, [(10, none)]⟩, ⟨none, [(41, some 2), (42, some 3)]⟩, ⟨none, [(43, some 4)]⟩] kj kj fun F hF => ?_
  refine e_val (rl_ext _) (.slice (some ⟨g9, 0, none⟩) 16 16) kj kj (fun W => by kernel_rfl) ?_
  refine e_read (rl_ext _) (.string (strOf (authV key nonce ctx (sl.take (sl.length - 16))))) kj kj (fun W hR => (run_conv8 _ _ rfl kj (authV key nonce ctx (sl.take (sl.length - 16))) (RdK.bytes (RdK.ext (rdK_ints (xs := authV key nonce ctx (sl.take (sl.length - 16))) (n := 16) (authV_len _ _ _ _) r9_3 (row_lt r9_3) (show 16 ≤ maxLen from by decide)) (Rely.Ext.trans (ext_drew _) hR)) (authV_bytes _ _ _ _)))) ?_
  refine e_val (rl_ext _) (.slice a_t sl.length c_t) kj kj (fun W => by kernel_rfl) ?_
  refine e_val (rl_ext _) (.int .i64 (((sl.length - 16 : Nat) : Int))) kj kj (fun W => by kernel_rfl) ?_
  refine e_val (rl_ext _) (.slice (restA a_t c_t (sl.length - 16)) (sl.length - (sl.length - 16)) (c_t - (sl.length - 16))) kj kj (fun W => (run_sliceD 24 _ _ (sl.length - 16) 5 rfl kj kj kj .i64 kj (Nat.sub_le _ _) ctk)) ?_
  refine e_read (rl_ext _) (.string (strOf (sl.drop (sl.length - 16)))) kj kj (fun W hR => (run_conv8 _ _ rfl kj (sl.drop (sl.length - 16)) (RdK.bytes (RdK.ext (rdK_drop (RdK.ext ht x3) (sl.length - 16) (Nat.sub_le _ _)) (Rely.Ext.trans (ext_drew _) hR)) (bytes_drop htb _)))) ?_
  refine e_nil (hF _ fun W4 e4 => ?_)
  simp only [List.nil_append, List.cons_append, List.take_succ_cons, List.take_zero, List.drop_succ_cons, List.drop_zero, finE, up]
  clear hF
  have x4 : Ext w W4 := Ext.tr x3 e4
  refine seq_val (.bool false) 45 rfl kj (run_eq (u := .bool (!((strOf (authV key nonce ctx (sl.take (sl.length - 16)))).toList == (strOf (sl.drop (sl.length - 16))).toList))) kj (congrArg Value.bool (by rw [strOf_beq (authV_bytes _ _ _ _) (bytes_drop htb _), decide_eq_true hne]; rfl))) ?_
  refine seq_nil ?_
  refine hK11 _ _ ?_
  try clear hK11 K11
  refine cond_false kj ?_
  refine wp_skip ?_
  refine hK10 _ _ ?_
  try clear hK10 K10
  refine wp_seq_k fun K12 hK12 => ?_
  refine any_regionE 10 [⟨none, [(4, none)]⟩, ⟨none, [(1, none)]⟩, ⟨none, [(3, none)]⟩, ⟨none, [(10, none)]⟩, ⟨none, [(49, some 2), (50, some 3)]⟩, ⟨none, [(47, some 0), (48, some 1), (51, some 4)]⟩, ⟨none, [(52, some 5)]⟩, ⟨none, [(46, some 6)]⟩, ⟨none, [(46, some 6)]⟩, ⟨none, [(53, some 7)]⟩] kj kj fun F hF => ?_
  have r2_2 := (row_ext r2_1 e2)
  have r2_3 := (Puts.row p3 r2_2 (ne_of_old r2_1 l9))
  have r2_4 := (row_ext r2_3 e4)
  refine e_read (rl_ext _) (.agg (ints .u8 (key))) kj kj (fun W hR => (run_load_row 23 _ g2 23 _ _ (row_ext (row_ext r2_4 (ext_drew _)) hR) rfl kj kj (isz (n := 32) kj ((ints_size _ _).trans hkl)))) ?_
  refine e_val (rl_ext _) (.slice a_n nonce.length c_n) kj kj (fun W => by kernel_rfl) ?_
  refine e_val (rl_ext _) (.slice a_t sl.length c_t) kj kj (fun W => by kernel_rfl) ?_
  refine e_val (rl_ext _) (.int .i64 (((sl.length - 16 : Nat) : Int))) kj kj (fun W => by kernel_rfl) ?_
  refine e_val (rl_ext _) (.slice a_t (sl.length - 16) c_t) kj kj (fun W => (run_sliceH (len := sl.length) 24 _ _ (sl.length - 16) 5 rfl kj kj kj .i64 kj (Nat.le_trans (Nat.sub_le _ _) ctk))) ?_
  refine e_callG (rl_ext _) (RMixR W4.heap.size fm) (rmixR_stable _ _) 34 #[.agg (ints .u8 (key)), .slice a_n nonce.length c_n, .int .i64 1, .slice a_t (sl.length - 16) c_t] kj kj (fun W => by kernel_rfl) (fun W hR => (rMixE W4.heap.size key nonce (sl.take (sl.length - 16)) fm _ _ _ _ W hkl hkb hnb (RdK.ext (RdK.ext hn x4) (Rely.Ext.trans (ext_drew _) hR)) (RdK.ext (rdK_take (RdK.ext ht x4) (sl.length - 16) (Nat.sub_le _ _)) (Rely.Ext.trans (ext_drew _) hR)) h (by omega) em (Rely.Ext.trans (ext_drew _) hR).size)) ?_
  refine e_runX (rl_ext _) (RMixR W4.heap.size fm) (rmixR_stable _ _) (fun ρ W hR hh => ⟨ρ 52, W, by kernel_rfl, Rely.Ext.refl _, (show (RMixR W4.heap.size fm) (ρ 52) W from hh.1)⟩) ?_
  refine e_runX (rl_ext _) (OwnN .u8 5 W4.heap.size fm) (OwnN.stable _ _ _ _) (fun ρ W hR hh => ?_) ?_
  · obtain ⟨u, e, h⟩ := (show (RMixR W4.heap.size fm) (ρ 46) W from hh.1)
    exact ⟨_, W, run_extractT (.tmp 46) 0 #[u, .int .i64 0] _ rfl e rfl, Rely.Ext.refl _, h⟩
  refine e_runX (rl_ext _) (fun v W => v = .int .i64 0) (fun _ _ _ _ h => h) (fun ρ W hR hh => ?_) ?_
  · obtain ⟨u, e, h⟩ := (show (RMixR W4.heap.size fm) (ρ 46) W from hh.1)
    exact ⟨_, W, run_extractT (.tmp 46) 1 #[u, .int .i64 0] _ rfl e rfl, Rely.Ext.refl _, rfl⟩
  refine e_runX (rl_ext _) (OwnN .u8 5 W4.heap.size fm) (OwnN.stable _ _ _ _) (fun ρ W hR hh => ⟨ρ 53, W, by kernel_rfl, Rely.Ext.refl _, (show (OwnN .u8 5 W4.heap.size fm) (ρ 53) W from hh.1)⟩) ?_
  refine e_nil (hF _ fun W5 e5 => ?_)
  simp only [List.nil_append, List.cons_append, List.take_succ_cons, List.take_zero, List.drop_succ_cons, List.drop_zero, finE, up]
  intro vv13 hv13 vv14 hv14 vv15 hv15 vv16 hv16 vv17 hv17
  clear hF
  have x5 : Ext w W5 := Ext.tr x4 e5
  subst hv16
  refine seq_val (.int .i64 0) 13 rfl kj kj ?_
  refine seq_nil ?_
  refine hK12 _ _ ?_
  try clear hK12 K12
  refine wp_seq_k fun K18 hK18 => ?_
  refine region_lit ?_
  refine seq_val (vv17) 55 rfl kj kj ?_
  refine seq_val (vv17) 8 rfl kj kj ?_
  refine seq_val (.int .i64 0) 9 rfl kj kj ?_
  refine seq_nil ?_
  refine hK18 _ _ ?_
  try clear hK18 K18
  refine wp_ret ?_
  repeat (first | with_reducible refine goR1 ?_ | with_reducible refine goR2 ?_)
  exact (show bodyPost _ _ _ .ret _ _ from ret2 (vv17) (.int .i64 0) rfl (res_tmp kj) (res_tmp kj) ⟨_, rfl, x5, _, rfl, by rw [em]; exact OwnN.base x4.size hv17⟩)
end Go.Proofs.YtjldjdlhllgakaaDoor.Ae
end
section
namespace Go.Proofs.YtjldjdlhllgakaaDoor.Ad
open Go Go.RowKit
open Go.Proofs.YtjldjdlhllgakaaDoor.Rely Go.Proofs.YtjldjdlhllgakaaDoor.Auto Go.Proofs.YtjldjdlhllgakaaDoor.Own
set_option linter.unusedVariables false
def pat (k j : Nat) : Int := ((29 * k + 5 * j + 3 : Nat) : Int) % 256
def patL (k n : Nat) : List Int := (List.range n).map (pat k)
theorem patL_len (k n : Nat) : (patL k n).length = n := by simp [patL]
theorem patL_succ (k n : Nat) : patL k (n + 1) = patL k n ++ [pat k n] := by simp [patL, List.range_succ]
theorem patL_take (k n m : Nat) (h : n ≤ m) : (patL k m).take n = patL k n := by
  unfold patL
  rw [← List.map_take, List.take_range, Nat.min_eq_left h]
def gv (G : List Value) (i : Nat) : Value := G.getD i (.slice none 0 0)
theorem gv_old {G : List Value} {u : Value} {i : Nat} (h : i < G.length) : gv (G ++ [u]) i = gv G i := by simp [gv, List.getElem?_append_left h]
theorem gv_new (G : List Value) (u : Value) : gv (G ++ [u]) G.length = u := by simp [gv]
def Full (base L : Nat) (V : Nat → Value) (N : Nat → Nat) (W : World) : Prop := ∀ i, i < L → OwnV base (patL i (N i)) (V i) W
def GFull (base k : Nat) (N : Nat → Nat) (G : List Value) (W : World) : Prop := ∀ i, i < k → OwnB base (patL i (N i + 10)) (gv G i) W
def Gd (L k : Nat) (V : Nat → Value) (G : List Value) : Prop := ∀ i j, i < k → j < L → i ≠ j → (gv G i).ownBlock ≠ (V j).ownBlock
def Ap (L k : Nat) (V : Nat → Value) (G : List Value) (u : Value) : Prop :=
  (∀ j, j < L → j ≠ k → (V j).ownBlock = u.ownBlock → (V j).ownBlock = none) ∧ (∀ i, i < k → (gv G i).ownBlock ≠ u.ownBlock) ∧
    ((V k).ownBlock = none ∨ (V k).ownBlock ≠ u.ownBlock ∨ ∃ g n n' c, u = .slice (some ⟨g, 0, none⟩) n c ∧ V k = .slice (some ⟨g, 0, none⟩) n' c)
def Mid (base L k m : Nat) (V : Nat → Value) (N : Nat → Nat) (G : List Value) (u : Value) (W : World) : Prop :=
  OwnV base (patL k m) u W ∧ Full base L V N W ∧ GFull base k N G W ∧ Ap L k V G u
theorem OwnV.ext {base : Nat} {bs : List Int} {v : Value} {W W' : World} (h : OwnV base bs v W) (e : Ext W W') : OwnV base bs v W' := h.imp id fun h => h.ext e
theorem OwnB.v {base : Nat} {bs : List Int} {v : Value} {W : World} (h : OwnB base bs v W) : OwnV base bs v W := .inr h
theorem Full.ext {base L : Nat} {V : Nat → Value} {N : Nat → Nat} {W W' : World} (h : Full base L V N W) (e : Ext W W') : Full base L V N W' := fun i hi => OwnV.ext (h i hi) e
theorem GFull.ext {base k : Nat} {N : Nat → Nat} {G : List Value} {W W' : World} (h : GFull base k N G W) (e : Ext W W') : GFull base k N G W' := fun i hi => (h i hi).ext e
theorem Mid.ext {base L k m : Nat} {V : Nat → Value} {N : Nat → Nat} {G : List Value} {u : Value} {W W' : World} (h : Mid base L k m V N G u W) (e : Ext W W') : Mid base L k m V N G u W' :=
  ⟨OwnV.ext h.1 e, h.2.1.ext e, h.2.2.1.ext e, h.2.2.2⟩
theorem ownB_some {base : Nat} {bs : List Int} {v : Value} {W : World} (h : OwnB base bs v W) : ∃ g, v.ownBlock = some g := by
  obtain ⟨g, c, cur, rfl, _⟩ := h
  exact ⟨g, rfl⟩
theorem ownV_some {base : Nat} {bs : List Int} {v : Value} {W : World} (h : OwnV base bs v W) (hn : 0 < bs.length) : OwnB base bs v W := by
  rcases h with ⟨_, rfl⟩ | h
  · simp at hn
  · exact h
theorem Mid.append {base L k m : Nat} {V : Nat → Value} {N : Nat → Nat} {G : List Value} {u u' : Value} {W W' : World} (h : Mid base L k m V N G u W) (hk : k < L) (hm : N k ≤ m) (hw : Went u u' W W') (ho : OwnB base (patL k m ++ [pat k m]) u' W') : Mid base L k (m + 1) V N G u' W' := by
  obtain ⟨h1, hF, hG, hA1, hA2, hA3⟩ := h
  rw [← patL_succ] at ho
  have hVk : OwnV base (patL k (N k)) (V k) W' := by
    rcases hA3 with h0 | h0 | ⟨g, n, n', c, e1, e2⟩
    · exact hw.other (hF k hk) (fun _ => h0)
    · exact hw.other (hF k hk) (fun e => absurd e h0)
    · have hv := hF k hk
      rw [e2] at hv ⊢
      rcases hv with ⟨e, _⟩ | hv
      · cases e
      · have hn' : n' = N k := by
          obtain ⟨_, _, _, e, _⟩ := hv
          rw [patL_len] at e
          injection e
        exact .inr (hw.same ho hv ⟨n, e1⟩ (by rw [hn', patL_take _ _ _ (by omega)]))
  have hF' : Full base L V N W' := fun i hi => by
    by_cases e : i = k
    · subst e; exact hVk
    · exact hw.other (hF i hi) (hA1 i hi e)
  have hG' : GFull base k N G W' := fun i hi => by
    have hh := hw.other (OwnB.v (hG i hi)) (fun e => absurd e (hA2 i hi))
    exact ownV_some hh (by rw [patL_len]; omega)
  refine ⟨.inr ho, hF', hG', ?_⟩
  rcases hw with ⟨g, n, c, e1, ⟨n', e2⟩, he⟩ | ⟨⟨g, hg, hl⟩, he⟩
  · have hb : u'.ownBlock = u.ownBlock := by rw [e1, e2]; rfl
    refine ⟨by rw [hb]; exact hA1, by rw [hb]; exact hA2, ?_⟩
    rcases hA3 with h0 | h0 | ⟨g', a, b, c', q1, q2⟩
    · exact .inl h0
    · exact .inr (.inl (by rw [hb]; exact h0))
    · refine .inr (.inr ⟨g', n', b, c', ?_, q2⟩)
      rw [e1] at q1
      simp only [Value.slice.injEq, Option.some.injEq, Addr.mk.injEq] at q1
      rw [e2, q1.1.1, q1.2.2]
  · have hne : ∀ {bs : List Int} {v : Value}, OwnV base bs v W → v.ownBlock ≠ u'.ownBlock := fun hv e => by
      have := hv.lt (e.trans hg)
      omega
    exact ⟨fun j hj _ e => absurd e (hne (hF j hj)), fun i hi => hne (OwnB.v (hG i hi)), .inr (.inl (hne (hF k hk)))⟩
def OwnL (base g c : Nat) (cur : Array Value) (G : List Value) (W : World) : Prop := base ≤ g ∧ W.heap[g]? = some (.cells cur 24) ∧ cur.size = c ∧ G.length ≤ c ∧ c ≤ maxLen ∧ cur.toList.take G.length = G
theorem OwnL.ext {base g c : Nat} {cur : Array Value} {G : List Value} {W W' : World} (h : OwnL base g c cur G W) (e : Ext W W') : OwnL base g c cur G W' := ⟨h.1, row_ext h.2.1 e, h.2.2⟩
theorem ne_types {W : World} {a b : Nat} {ca cb : Array Value} {ta tb : TypeId} (h : W.heap[a]? = some (.cells ca ta)) (k : W.heap[b]? = some (.cells cb tb)) (hne : ta ≠ tb) : a ≠ b := fun e => by
  subst e
  rw [h] at k
  injection k with k
  injection k with _ k2
  exact hne k2
theorem OwnV.extB {base g : Nat} {bs : List Int} {v : Value} {cur : Array Value} {W W' : World} (h : OwnV base bs v W) (r : W.heap[g]? = some (.cells cur 24)) (e : ExtB g W W') : OwnV base bs v W' := by
  refine h.below fun g' hg' => e.2.2.2.2 g' (h.lt hg') ?_
  rcases h with ⟨rfl, _⟩ | ⟨g2, c, cur2, rfl, h1, h2, h3⟩
  · cases hg'
  · obtain rfl : g2 = g' := Option.some.inj hg'
    exact ne_types h2 r (by decide)
theorem Mid.done {base L k : Nat} {V : Nat → Value} {N : Nat → Nat} {G : List Value} {u : Value} {g : Nat} {cur : Array Value} {W W' : World} (h : Mid base L k (N k + 10) V N G u W) (hk : k < L) (hl : G.length = k) (hg : Gd L k V G) (r : W.heap[g]? = some (.cells cur 24)) (e : ExtB g W W') :
    Full base L V N W' ∧ GFull base (k + 1) N (G ++ [u]) W' ∧ Gd L (k + 1) V (G ++ [u]) := by
  obtain ⟨h1, hF, hG, hA1, hA2, hA3⟩ := h
  subst hl
  refine ⟨fun i hi => OwnV.extB (hF i hi) r e, fun i hi => ?_, fun i j hi hj hn => ?_⟩
  · by_cases q : i = G.length
    · subst q; rw [gv_new]; exact ownV_some (OwnV.extB h1 r e) (by rw [patL_len]; omega)
    · rw [gv_old (by omega)]
      exact ownV_some (OwnV.extB (OwnB.v (hG i (by omega))) r e) (by rw [patL_len]; omega)
  · by_cases q : i = G.length
    · subst q; rw [gv_new]
      obtain ⟨g', hg'⟩ := ownB_some (ownV_some h1 (by rw [patL_len]; omega))
      intro q2
      have := hA1 j hj (Ne.symm hn) q2.symm
      rw [← q2, hg'] at this; cases this
    · rw [gv_old (by omega)]; exact hg i j (by omega) hj hn
end Go.Proofs.YtjldjdlhllgakaaDoor.Ad
end
section
namespace Go.Proofs.YtjldjdlhllgakaaDoor.Ad
open Go Go.RowKit
open Go.Proofs.YtjldjdlhllgakaaDoor.Rely Go.Proofs.YtjldjdlhllgakaaDoor.Auto Go.Proofs.YtjldjdlhllgakaaDoor.Own
set_option linter.unusedVariables false
theorem bx {base : Nat} {w W W' : World} (hb : base ≤ w.heap.size) (x : Below base w W) (e : Ext W W') : Below base w W' := Below.trans x (Below.mono e (Nat.le_trans hb x.size))
theorem i64n (a : Int) (m : Nat) (e : a = (m : Int)) (h : m ≤ 5000000000) : IntKind.i64.wrap a = (m : Int) := by subst e; exact IntWalk.i64_in _ (by omega)
def Fill (base L k : Nat) (V : Nat → Value) (N : Nat → Nat) (W : World) : Prop := ∀ i, i < L → ∃ bs, bs.length = N i ∧ OwnV base bs (V i) W ∧ (i < k → bs = patL i (N i))
def Others (base L k : Nat) (V : Nat → Value) (N : Nat → Nat) (W : World) : Prop := ∀ i, i < L → i ≠ k → ∃ bs, bs.length = N i ∧ OwnV base bs (V i) W ∧ (i < k → bs = patL i (N i))
theorem Fill.others {base L k : Nat} {V : Nat → Value} {N : Nat → Nat} {W : World} (h : Fill base L k V N W) : Others base L k V N W := fun i hi _ => h i hi
def Dist (L : Nat) (V : Nat → Value) : Prop := ∀ i j, i < L → j < L → i ≠ j → (V i).ownBlock = (V j).ownBlock → (V i).ownBlock = none
theorem Others.puts {base L k g n c : Nat} {V : Nat → Value} {N : Nat → Nat} {W W' : World} (h : Others base L k V N W) (hd : Dist L V) (hk : k < L) (hv : V k = .slice (some ⟨g, 0, none⟩) n c) (p : Puts W g W') : Others base L k V N W' := fun i hi hn => by
  obtain ⟨b, q1, q2, q3⟩ := h i hi hn
  refine ⟨b, q1, q2.below fun g' hg' => p.2.2.2.2 g' fun e => ?_, q3⟩
  subst e
  have h1 := hd i k hi hk hn (by rw [hg', hv]; rfl)
  rw [h1] at hg'; cases hg'
section
variable {ds : List Deferred} {ops : Array Oper} {Q : Exit → Act → World → Prop} {rest : List Oper} {o : Oper} {N : Nat} {L : Env} {W : World}
end
theorem OwnL.cell {base g c i : Nat} {cur : Array Value} {G : List Value} {W : World} (h : OwnL base g c cur G W) (hi : i < G.length) : W.cell? ⟨g, i, none⟩ = some (gv G i) := by
  refine row_cell h.2.1 ?_
  have e : (cur.toList.take G.length)[i]? = G[i]? := by rw [h.2.2.2.2.2]
  rw [List.getElem?_take_of_lt hi] at e
  rw [← Array.getElem?_toList, e]
  simp [gv, hi]
section
variable {ds : List Deferred} {ops : Array Oper} {Q : Exit → Act → World → Prop} {rest : List Oper} {o : Oper} {N : Nat} {L : Env} {W : World}
end
end Go.Proofs.YtjldjdlhllgakaaDoor.Ad
end
section
namespace Go.Proofs.YtjldjdlhllgakaaDoor.Sha
open Go Go.RowKit
open Go.Proofs.YtjldjdlhllgakaaDoor.Rely Go.Proofs.YtjldjdlhllgakaaDoor.Auto Go.Proofs.YtjldjdlhllgakaaDoor.Own
set_option linter.unusedVariables false
set_option linter.unusedSimpArgs false
theorem own_take {T : TypeId} {base n c : Nat} {xs : List Int} {a : Option Addr} {W : World} (h : OwnN .u8 T base xs (.slice a xs.length c) W) (hn : n ≤ xs.length) : OwnN .u8 T base (xs.take n) (.slice a n c) W := by
  have hl : (xs.take n).length = n := by rw [List.length_take]; omega
  obtain ⟨⟨h1, h2⟩, hm⟩ := h
  rcases h2 with ⟨h2, h3⟩ | ⟨g, c', cur, e, q2, q3, q4, q5, q6, q7⟩
  · simp only [Value.slice.injEq] at h2
    obtain ⟨rfl, h4, rfl⟩ := h2
    obtain rfl := List.length_eq_zero_iff.1 h4
    obtain rfl : n = 0 := by simpa using hn
    exact ownN_nil _ _ _ _
  · simp only [Value.slice.injEq] at e
    obtain ⟨rfl, -, rfl⟩ := e
    refine ownN_at hl q2 q3 (by omega) (by omega) q5 ?_
    have : cur.toList.take n = (cur.toList.take (xs.length * 1)).take n := by rw [List.take_take]; congr 1; omega
    rw [this, q7, List.map_take]
theorem OwnN.v {base : Nat} {xs : List Int} {v : Value} {W : World} (h : OwnN .u8 5 base xs v W) : OwnV base xs v W := by
  rcases h.1.2 with ⟨h0, h1⟩ | ⟨g, c, cur, h1, h2, h3, h4, h5, h6, h7⟩
  · exact .inl ⟨h0, List.length_eq_zero_iff.1 h1⟩
  · exact .inr ⟨g, c, cur, h1, h2, h3, by omega, h4, h5, by simpa using h7⟩
theorem CopyN.own {base : Nat} {xs : List Int} {v : Value} {W : World} (h : CopyN 5 base xs v W) : OwnN .u8 5 base xs v W := by
  obtain ⟨g, c, rfl, h2⟩ := h
  have h3 := own_take h2 (n := xs.length) (by simp)
  rwa [List.take_left] at h3
theorem CopyN.base {a b : Nat} {xs : List Int} {v : Value} {W : World} (hab : a ≤ b) (h : CopyN 5 b xs v W) : CopyN 5 a xs v W := by
  obtain ⟨g, c, rfl, h2⟩ := h
  exact ⟨g, c, rfl, h2.base hab⟩
theorem CopyN.stable (base : Nat) (xs : List Int) : Stable Ext (CopyN 5 base xs) := fun _ _ _ hR h => h.ext hR
theorem nil_bytes (W : World) : BytesAt W (.slice none 0 0) [] := (OwnN.rd (ownN_nil .u8 5 0 W)).bytes (fun x hx => by cases hx)
end Go.Proofs.YtjldjdlhllgakaaDoor.Sha
end
section
namespace Go.Proofs.YtjldjdlhllgakaaDoor.Ae
open Go Go.RowKit
open Go.Proofs.YtjldjdlhllgakaaDoor.Rely Go.Proofs.YtjldjdlhllgakaaDoor.Auto Go.Proofs.YtjldjdlhllgakaaDoor.Own Go.Proofs.YtjldjdlhllgakaaDoor.Sha
set_option linter.unusedVariables false
set_option linter.unusedSimpArgs false
open Go.Proofs.YtjldjdlhllgakaaDoor.Sha Go.Proofs.YtjldjdlhllgakaaDoor.Cha
theorem cat_st (A : List Value) (x y z : Value) : (A ++ [x] ++ [y] ++ [z]).toArray = cat [A.toArray, #[x], #[y], #[z]] := by
  apply Array.ext'
  simp [cat]
theorem rdKT {k : IntKind} {B n c l : Nat} {ys tk : List Int} {a : Option Addr} {W : World} (et : ys.take l = tk) (lt : tk.length = l) (h : RdK k B ys (.slice a n c) W) (hl : l ≤ ys.length) : RdK k B tk (.slice a l c) W := et ▸ rdK_take h l hl
set_option maxRecDepth 100000 in
set_option maxHeartbeats 4000000 in
theorem lawCuts_L (key nonce ctx text : List Int) (a_n a_c a_t : Option Addr) (c_n c_c c_t : Nat) (th tq : TypeId) (w : World) (hh : w.heap[0]? = some (.cells (ints .u32 [1634760805, 857760878, 2036477234, 1797285236]) th)) (hq : w.heap[1]? = some (.cells (ints .i64 [0, 4, 8, 12, 1, 5, 9, 13, 2, 6, 10, 14, 3, 7, 11, 15, 0, 5, 10, 15, 1, 6, 11, 12, 2, 7, 8, 13, 3, 4, 9, 14]) tq)) (hkl : key.length = 32) (hkb : AreBytes key) (hnb : AreBytes nonce) (hcb : AreBytes ctx) (htb : AreBytes text) (hn : RdK .u8 w.heap.size nonce (.slice a_n nonce.length c_n) w) (hc : RdK .u8 w.heap.size ctx (.slice a_c ctx.length c_c) w) (ht : RdK .u8 w.heap.size text (.slice a_t text.length c_t) w) (cut : Int) (h1 : 500 < ctx.length) : Calls Tryd.prog 8 #[.agg (cat [ints .u8 key, #[.slice a_n nonce.length c_n], #[.slice a_c ctx.length c_c], #[.slice a_t text.length c_t]]), .int .i64 cut] w (Ret w (.bool true)) := by
  refine enter 79 [(0, .agg (cat [ints .u8 (key), #[.slice a_n nonce.length c_n], #[.slice a_c ctx.length c_c], #[.slice a_t text.length c_t]])), (1, .int .i64 cut)] Tryd.func8 rfl rfl kj rfl ?_
  refine wp_seq_k fun K3 hK3 => ?_
  refine region_lit ?_
  refine seq_alloc (cat [ints .u8 (key), #[.slice a_n nonce.length c_n], #[.slice a_c ctx.length c_c], #[.slice a_t text.length c_t]]) 33 2 rfl kj kj fun g4 W1 l4 e1 r4_1 => ?_
  have x1 : Ext w W1 := Ext.tr (Rely.Ext.refl w) e1
  have b4 : w.heap.size ≤ g4 := Nat.le_trans (Rely.Ext.refl w).size l4
  refine seq_val (.bool false) 4 rfl kj kj ?_
  refine seq_nil ?_
  refine hK3 _ _ ?_
  try clear hK3 K3
  refine wp_seq_k fun K5 hK5 => ?_
  refine wp_seq_k fun K6 hK6 => ?_
  refine region_lit ?_
  have r2_1 := (row_ext hh e1)
  have r1_1 := (row_ext hq e1)
  refine seq_call (.bool true) 9 #[] 11 rfl kj kj ((alive04 th tq _ r2_1 r1_1)) fun W2 e2 => ?_
  have x2 : Ext w W2 := Ext.tr x1 e2
  refine seq_val (.bool false) 12 rfl kj kj ?_
  refine seq_nil ?_
  refine hK6 _ _ ?_
  try clear hK6 K6
  refine cond_false kj ?_
  refine wp_skip ?_
  refine hK5 _ _ ?_
  try clear hK5 K5
  refine wp_seq_k fun K7 hK7 => ?_
  refine wp_seq_k fun K8 hK8 => ?_
  refine region_lit ?_
  refine seq_val (.pointer (some ⟨g4, 33, none⟩)) 13 rfl kj kj ?_
  have r4_2 := (row_ext r4_1 e2)
  refine seq_val (.slice a_c ctx.length c_c) 14 rfl kj (run_loadC1 24 _ g4 33 33 _ (.slice a_c ctx.length c_c) _ r4_2 rfl kj (cat_part [ints .u8 (key), #[.slice a_n nonce.length c_n]] [#[.slice a_c ctx.length c_c]] [#[.slice a_t text.length c_t]] 33 (by rw [cat_cons, cat_cons]; simp only [Array.size_append, cat, ((ints_size _ _).trans hkl)]; rfl) 0 _ rfl) kj) ?_
  refine seq_val (.int .i64 ((ctx.length : Nat) : Int)) 15 rfl kj kj ?_
  refine seq_val (.bool true) 16 rfl kj (run_eq (u := .bool (decide (((ctx.length : Nat) : Int) > 500))) kj (congrArg Value.bool (decide_eq_true (by omega)))) ?_
  refine seq_val (.bool true) 17 rfl kj kj ?_
  refine seq_skip 18 rfl kj ?_
  refine seq_skip 19 rfl kj ?_
  refine seq_skip 20 rfl kj ?_
  refine seq_skip 21 rfl kj ?_
  refine seq_val (.bool true) 22 rfl kj kj ?_
  refine seq_nil ?_
  refine hK8 _ _ ?_
  try clear hK8 K8
  refine cond_true kj ?_
  refine wp_seq_k fun K9 hK9 => ?_
  refine region_lit ?_
  refine seq_val (.bool true) 4 rfl kj kj ?_
  refine seq_nil ?_
  refine hK9 _ _ ?_
  try clear hK9 K9
  refine wp_ret ?_
  repeat (first | with_reducible refine goR1 ?_ | with_reducible refine goR2 ?_)
  exact (show bodyPost _ _ _ .ret _ _ from ret1 (.bool true) rfl (res_tmp kj) ⟨rfl, x2⟩)
set_option maxRecDepth 100000 in
set_option maxHeartbeats 4000000 in
theorem lawCuts_M (key nonce ctx text : List Int) (a_n a_c a_t : Option Addr) (c_n c_c c_t : Nat) (th tq : TypeId) (w : World) (hh : w.heap[0]? = some (.cells (ints .u32 [1634760805, 857760878, 2036477234, 1797285236]) th)) (hq : w.heap[1]? = some (.cells (ints .i64 [0, 4, 8, 12, 1, 5, 9, 13, 2, 6, 10, 14, 3, 7, 11, 15, 0, 5, 10, 15, 1, 6, 11, 12, 2, 7, 8, 13, 3, 4, 9, 14]) tq)) (hkl : key.length = 32) (hkb : AreBytes key) (hnb : AreBytes nonce) (hcb : AreBytes ctx) (htb : AreBytes text) (hn : RdK .u8 w.heap.size nonce (.slice a_n nonce.length c_n) w) (hc : RdK .u8 w.heap.size ctx (.slice a_c ctx.length c_c) w) (ht : RdK .u8 w.heap.size text (.slice a_t text.length c_t) w) (cut : Int) (h1 : ctx.length ≤ 500) (h2 : 500 < text.length) : Calls Tryd.prog 8 #[.agg (cat [ints .u8 key, #[.slice a_n nonce.length c_n], #[.slice a_c ctx.length c_c], #[.slice a_t text.length c_t]]), .int .i64 cut] w (Ret w (.bool true)) := by
  refine enter 79 [(0, .agg (cat [ints .u8 (key), #[.slice a_n nonce.length c_n], #[.slice a_c ctx.length c_c], #[.slice a_t text.length c_t]])), (1, .int .i64 cut)] Tryd.func8 rfl rfl kj rfl ?_
  refine wp_seq_k fun K3 hK3 => ?_
  refine region_lit ?_
  refine seq_alloc (cat [ints .u8 (key), #[.slice a_n nonce.length c_n], #[.slice a_c ctx.length c_c], #[.slice a_t text.length c_t]]) 33 2 rfl kj kj fun g4 W1 l4 e1 r4_1 => ?_
  have x1 : Ext w W1 := Ext.tr (Rely.Ext.refl w) e1
  have b4 : w.heap.size ≤ g4 := Nat.le_trans (Rely.Ext.refl w).size l4
  refine seq_val (.bool false) 4 rfl kj kj ?_
  refine seq_nil ?_
  refine hK3 _ _ ?_
  try clear hK3 K3
  refine wp_seq_k fun K5 hK5 => ?_
  refine wp_seq_k fun K6 hK6 => ?_
  refine region_lit ?_
  have r2_1 := (row_ext hh e1)
  have r1_1 := (row_ext hq e1)
  refine seq_call (.bool true) 9 #[] 11 rfl kj kj ((alive04 th tq _ r2_1 r1_1)) fun W2 e2 => ?_
  have x2 : Ext w W2 := Ext.tr x1 e2
  refine seq_val (.bool false) 12 rfl kj kj ?_
  refine seq_nil ?_
  refine hK6 _ _ ?_
  try clear hK6 K6
  refine cond_false kj ?_
  refine wp_skip ?_
  refine hK5 _ _ ?_
  try clear hK5 K5
  refine wp_seq_k fun K7 hK7 => ?_
  refine wp_seq_k fun K8 hK8 => ?_
  refine region_lit ?_
  refine seq_val (.pointer (some ⟨g4, 33, none⟩)) 13 rfl kj kj ?_
  have r4_2 := (row_ext r4_1 e2)
  refine seq_val (.slice a_c ctx.length c_c) 14 rfl kj (run_loadC1 24 _ g4 33 33 _ (.slice a_c ctx.length c_c) _ r4_2 rfl kj (cat_part [ints .u8 (key), #[.slice a_n nonce.length c_n]] [#[.slice a_c ctx.length c_c]] [#[.slice a_t text.length c_t]] 33 (by rw [cat_cons, cat_cons]; simp only [Array.size_append, cat, ((ints_size _ _).trans hkl)]; rfl) 0 _ rfl) kj) ?_
  refine seq_val (.int .i64 ((ctx.length : Nat) : Int)) 15 rfl kj kj ?_
  refine seq_val (.bool false) 16 rfl kj (run_eq (u := .bool (decide (((ctx.length : Nat) : Int) > 500))) kj (congrArg Value.bool (decide_eq_false (by omega)))) ?_
  refine seq_val (.bool false) 17 rfl kj kj ?_
  refine seq_val (.pointer (some ⟨g4, 34, none⟩)) 18 rfl kj kj ?_
  refine seq_val (.slice a_t text.length c_t) 19 rfl kj (run_loadC1 24 _ g4 34 33 _ (.slice a_t text.length c_t) _ r4_2 rfl kj (cat_part [ints .u8 (key), #[.slice a_n nonce.length c_n], #[.slice a_c ctx.length c_c]] [#[.slice a_t text.length c_t]] [] 34 (by rw [cat_cons, cat_cons, cat_cons]; simp only [Array.size_append, cat, ((ints_size _ _).trans hkl)]; rfl) 0 _ rfl) kj) ?_
  refine seq_val (.int .i64 ((text.length : Nat) : Int)) 20 rfl kj kj ?_
  refine seq_val (.bool true) 21 rfl kj (run_eq (u := .bool (decide (((text.length : Nat) : Int) > 500))) kj (congrArg Value.bool (decide_eq_true (by omega)))) ?_
  refine seq_val (.bool true) 22 rfl kj kj ?_
  refine seq_nil ?_
  refine hK8 _ _ ?_
  try clear hK8 K8
  refine cond_true kj ?_
  refine wp_seq_k fun K9 hK9 => ?_
  refine region_lit ?_
  refine seq_val (.bool true) 4 rfl kj kj ?_
  refine seq_nil ?_
  refine hK9 _ _ ?_
  try clear hK9 K9
  refine wp_ret ?_
  repeat (first | with_reducible refine goR1 ?_ | with_reducible refine goR2 ?_)
  exact (show bodyPost _ _ _ .ret _ _ from ret1 (.bool true) rfl (res_tmp kj) ⟨rfl, x2⟩)
set_option maxRecDepth 100000 in
set_option maxHeartbeats 4000000 in
theorem lawCuts_A (key nonce ctx text : List Int) (a_n a_c a_t : Option Addr) (c_n c_c c_t : Nat) (th tq : TypeId) (w : World) (hh : w.heap[0]? = some (.cells (ints .u32 [1634760805, 857760878, 2036477234, 1797285236]) th)) (hq : w.heap[1]? = some (.cells (ints .i64 [0, 4, 8, 12, 1, 5, 9, 13, 2, 6, 10, 14, 3, 7, 11, 15, 0, 5, 10, 15, 1, 6, 11, 12, 2, 7, 8, 13, 3, 4, 9, 14]) tq)) (hkl : key.length = 32) (hkb : AreBytes key) (hnb : AreBytes nonce) (hcb : AreBytes ctx) (htb : AreBytes text) (hn : RdK .u8 w.heap.size nonce (.slice a_n nonce.length c_n) w) (hc : RdK .u8 w.heap.size ctx (.slice a_c ctx.length c_c) w) (ht : RdK .u8 w.heap.size text (.slice a_t text.length c_t) w) (cut : Int) (h1 : ctx.length ≤ 500) (h2 : text.length ≤ 500) (h : nonce.length ≠ 12) : Calls Tryd.prog 8 #[.agg (cat [ints .u8 key, #[.slice a_n nonce.length c_n], #[.slice a_c ctx.length c_c], #[.slice a_t text.length c_t]]), .int .i64 cut] w (Ret w (.bool true)) := by
  refine enter 79 [(0, .agg (cat [ints .u8 (key), #[.slice a_n nonce.length c_n], #[.slice a_c ctx.length c_c], #[.slice a_t text.length c_t]])), (1, .int .i64 cut)] Tryd.func8 rfl rfl kj rfl ?_
  refine wp_seq_k fun K3 hK3 => ?_
  refine region_lit ?_
  refine seq_alloc (cat [ints .u8 (key), #[.slice a_n nonce.length c_n], #[.slice a_c ctx.length c_c], #[.slice a_t text.length c_t]]) 33 2 rfl kj kj fun g4 W1 l4 e1 r4_1 => ?_
  have x1 : Ext w W1 := Ext.tr (Rely.Ext.refl w) e1
  have b4 : w.heap.size ≤ g4 := Nat.le_trans (Rely.Ext.refl w).size l4
  refine seq_val (.bool false) 4 rfl kj kj ?_
  refine seq_nil ?_
  refine hK3 _ _ ?_
  try clear hK3 K3
  refine wp_seq_k fun K5 hK5 => ?_
  refine wp_seq_k fun K6 hK6 => ?_
  refine region_lit ?_
  have r2_1 := (row_ext hh e1)
  have r1_1 := (row_ext hq e1)
  refine seq_call (.bool true) 9 #[] 11 rfl kj kj ((alive04 th tq _ r2_1 r1_1)) fun W2 e2 => ?_
  have x2 : Ext w W2 := Ext.tr x1 e2
  refine seq_val (.bool false) 12 rfl kj kj ?_
  refine seq_nil ?_
  refine hK6 _ _ ?_
  try clear hK6 K6
  refine cond_false kj ?_
  refine wp_skip ?_
  refine hK5 _ _ ?_
  try clear hK5 K5
  refine wp_seq_k fun K7 hK7 => ?_
  refine wp_seq_k fun K8 hK8 => ?_
  refine region_lit ?_
  refine seq_val (.pointer (some ⟨g4, 33, none⟩)) 13 rfl kj kj ?_
  have r4_2 := (row_ext r4_1 e2)
  refine seq_val (.slice a_c ctx.length c_c) 14 rfl kj (run_loadC1 24 _ g4 33 33 _ (.slice a_c ctx.length c_c) _ r4_2 rfl kj (cat_part [ints .u8 (key), #[.slice a_n nonce.length c_n]] [#[.slice a_c ctx.length c_c]] [#[.slice a_t text.length c_t]] 33 (by rw [cat_cons, cat_cons]; simp only [Array.size_append, cat, ((ints_size _ _).trans hkl)]; rfl) 0 _ rfl) kj) ?_
  refine seq_val (.int .i64 ((ctx.length : Nat) : Int)) 15 rfl kj kj ?_
  refine seq_val (.bool false) 16 rfl kj (run_eq (u := .bool (decide (((ctx.length : Nat) : Int) > 500))) kj (congrArg Value.bool (decide_eq_false (by omega)))) ?_
  refine seq_val (.bool false) 17 rfl kj kj ?_
  refine seq_val (.pointer (some ⟨g4, 34, none⟩)) 18 rfl kj kj ?_
  refine seq_val (.slice a_t text.length c_t) 19 rfl kj (run_loadC1 24 _ g4 34 33 _ (.slice a_t text.length c_t) _ r4_2 rfl kj (cat_part [ints .u8 (key), #[.slice a_n nonce.length c_n], #[.slice a_c ctx.length c_c]] [#[.slice a_t text.length c_t]] [] 34 (by rw [cat_cons, cat_cons, cat_cons]; simp only [Array.size_append, cat, ((ints_size _ _).trans hkl)]; rfl) 0 _ rfl) kj) ?_
  refine seq_val (.int .i64 ((text.length : Nat) : Int)) 20 rfl kj kj ?_
  refine seq_val (.bool false) 21 rfl kj (run_eq (u := .bool (decide (((text.length : Nat) : Int) > 500))) kj (congrArg Value.bool (decide_eq_false (by omega)))) ?_
  refine seq_val (.bool false) 22 rfl kj kj ?_
  refine seq_nil ?_
  refine hK8 _ _ ?_
  try clear hK8 K8
  refine cond_false kj ?_
  refine wp_skip ?_
  refine hK7 _ _ ?_
  try clear hK7 K7
  refine wp_seq_k fun K9 hK9 => ?_
  refine region_lit ?_
  refine seq_val (.pointer (some ⟨g4, 0, none⟩)) 24 rfl kj kj ?_
  refine seq_val (.agg (ints .u8 (key))) 25 rfl kj (run_load_part 23 _ g4 0 33 _ _ _ r4_2 rfl kj (cat_part [] [ints .u8 (key)] [#[.slice a_n nonce.length c_n], #[.slice a_c ctx.length c_c], #[.slice a_t text.length c_t]] 0 kj) kj (isz (n := 32) kj ((ints_size _ _).trans hkl))) ?_
  refine seq_val (.pointer (some ⟨g4, 32, none⟩)) 26 rfl kj kj ?_
  refine seq_val (.slice a_n nonce.length c_n) 27 rfl kj (run_loadC1 24 _ g4 32 33 _ (.slice a_n nonce.length c_n) _ r4_2 rfl kj (cat_part [ints .u8 (key)] [#[.slice a_n nonce.length c_n]] [#[.slice a_c ctx.length c_c], #[.slice a_t text.length c_t]] 32 ((ints_size _ _).trans hkl) 0 _ rfl) kj) ?_
  refine seq_val (.pointer (some ⟨g4, 33, none⟩)) 28 rfl kj kj ?_
  refine seq_val (.slice a_c ctx.length c_c) 29 rfl kj (run_loadC1 24 _ g4 33 33 _ (.slice a_c ctx.length c_c) _ r4_2 rfl kj (cat_part [ints .u8 (key), #[.slice a_n nonce.length c_n]] [#[.slice a_c ctx.length c_c]] [#[.slice a_t text.length c_t]] 33 (by rw [cat_cons, cat_cons]; simp only [Array.size_append, cat, ((ints_size _ _).trans hkl)]; rfl) 0 _ rfl) kj) ?_
  refine seq_val (.pointer (some ⟨g4, 34, none⟩)) 30 rfl kj kj ?_
  refine seq_val (.slice a_t text.length c_t) 31 rfl kj (run_loadC1 24 _ g4 34 33 _ (.slice a_t text.length c_t) _ r4_2 rfl kj (cat_part [ints .u8 (key), #[.slice a_n nonce.length c_n], #[.slice a_c ctx.length c_c]] [#[.slice a_t text.length c_t]] [] 34 (by rw [cat_cons, cat_cons, cat_cons]; simp only [Array.size_append, cat, ((ints_size _ _).trans hkl)]; rfl) 0 _ rfl) kj) ?_
  refine seq_call (.tuple #[.slice none 0 0, .int .i64 1]) 16 #[.agg (ints .u8 (key)), .slice a_n nonce.length c_n, .slice a_c ctx.length c_c, .slice a_t text.length c_t] 32 rfl kj kj ((rSeal_A key nonce ctx text _ _ _ _ _ _ _ hkl hkb hnb (RdK.ext hn x2) (RdK.ext hc x2) (RdK.ext ht x2) hcb h)) fun W3 e3 => ?_
  have x3 : Ext w W3 := Ext.tr x2 e3
  refine seq_val (.tuple #[.slice none 0 0, .int .i64 1]) 23 rfl kj kj ?_
  refine seq_val (.slice none 0 0) 33 rfl kj kj ?_
  refine seq_val (.int .i64 1) 34 rfl kj kj ?_
  refine seq_val (.slice none 0 0) 5 rfl kj kj ?_
  refine seq_val (.int .i64 1) 6 rfl kj kj ?_
  refine seq_nil ?_
  refine hK9 _ _ ?_
  try clear hK9 K9
  refine wp_seq_k fun K10 hK10 => ?_
  refine wp_seq_k fun K11 hK11 => ?_
  refine region_lit ?_
  refine seq_val (.int .i64 1) 35 rfl kj kj ?_
  refine seq_val (.bool true) 36 rfl kj kj ?_
  refine seq_nil ?_
  refine hK11 _ _ ?_
  try clear hK11 K11
  refine cond_true kj ?_
  refine wp_seq_k fun K12 hK12 => ?_
  refine region_lit ?_
  refine seq_val (.bool true) 4 rfl kj kj ?_
  refine seq_nil ?_
  refine hK12 _ _ ?_
  try clear hK12 K12
  refine wp_ret ?_
  repeat (first | with_reducible refine goR1 ?_ | with_reducible refine goR2 ?_)
  exact (show bodyPost _ _ _ .ret _ _ from ret1 (.bool true) rfl (res_tmp kj) ⟨rfl, x3⟩)
set_option maxRecDepth 100000 in
set_option maxHeartbeats 4000000 in
theorem lawCuts_S (key nonce ctx text : List Int) (a_n a_c a_t : Option Addr) (c_n c_c c_t : Nat) (th tq : TypeId) (w : World) (hh : w.heap[0]? = some (.cells (ints .u32 [1634760805, 857760878, 2036477234, 1797285236]) th)) (hq : w.heap[1]? = some (.cells (ints .i64 [0, 4, 8, 12, 1, 5, 9, 13, 2, 6, 10, 14, 3, 7, 11, 15, 0, 5, 10, 15, 1, 6, 11, 12, 2, 7, 8, 13, 3, 4, 9, 14]) tq)) (hkl : key.length = 32) (hkb : AreBytes key) (hnb : AreBytes nonce) (hcb : AreBytes ctx) (htb : AreBytes text) (hn : RdK .u8 w.heap.size nonce (.slice a_n nonce.length c_n) w) (hc : RdK .u8 w.heap.size ctx (.slice a_c ctx.length c_c) w) (ht : RdK .u8 w.heap.size text (.slice a_t text.length c_t) w) (cut : Int) (fs : List Int) (es : sealV key nonce ctx text = fs) (lfs : fs.length = text.length + 16) (hfb : AreBytes fs) (k : Nat) (ek : (k : Int) = (cut % 18446744073709551616) % ((text.length + 16 : Nat) : Int)) (hk : k < text.length + 16) (tk : List Int) (et : fs.take k = tk) (h1 : ctx.length ≤ 500) (h2 : text.length ≤ 500) (h : nonce.length = 12) (hsh : (tk).length < 16) : Calls Tryd.prog 8 #[.agg (cat [ints .u8 key, #[.slice a_n nonce.length c_n], #[.slice a_c ctx.length c_c], #[.slice a_t text.length c_t]]), .int .i64 cut] w (Ret w (.bool true)) := by
  have ltk : tk.length = k := by rw [← et, List.length_take]; omega
  have hkf : k ≤ fs.length := by omega
  have htk : AreBytes tk := et ▸ bytes_take hfb k
  refine enter 79 [(0, .agg (cat [ints .u8 (key), #[.slice a_n nonce.length c_n], #[.slice a_c ctx.length c_c], #[.slice a_t text.length c_t]])), (1, .int .i64 cut)] Tryd.func8 rfl rfl kj rfl ?_
  refine wp_seq_k fun K3 hK3 => ?_
  refine region_lit ?_
  refine seq_alloc (cat [ints .u8 (key), #[.slice a_n nonce.length c_n], #[.slice a_c ctx.length c_c], #[.slice a_t text.length c_t]]) 33 2 rfl kj kj fun g4 W1 l4 e1 r4_1 => ?_
  have x1 : Ext w W1 := Ext.tr (Rely.Ext.refl w) e1
  have b4 : w.heap.size ≤ g4 := Nat.le_trans (Rely.Ext.refl w).size l4
  refine seq_val (.bool false) 4 rfl kj kj ?_
  refine seq_nil ?_
  refine hK3 _ _ ?_
  try clear hK3 K3
  refine wp_seq_k fun K5 hK5 => ?_
  refine wp_seq_k fun K6 hK6 => ?_
  refine region_lit ?_
  have r2_1 := (row_ext hh e1)
  have r1_1 := (row_ext hq e1)
  refine seq_call (.bool true) 9 #[] 11 rfl kj kj ((alive04 th tq _ r2_1 r1_1)) fun W2 e2 => ?_
  have x2 : Ext w W2 := Ext.tr x1 e2
  refine seq_val (.bool false) 12 rfl kj kj ?_
  refine seq_nil ?_
  refine hK6 _ _ ?_
  try clear hK6 K6
  refine cond_false kj ?_
  refine wp_skip ?_
  refine hK5 _ _ ?_
  try clear hK5 K5
  refine wp_seq_k fun K7 hK7 => ?_
  refine wp_seq_k fun K8 hK8 => ?_
  refine region_lit ?_
  refine seq_val (.pointer (some ⟨g4, 33, none⟩)) 13 rfl kj kj ?_
  have r4_2 := (row_ext r4_1 e2)
  refine seq_val (.slice a_c ctx.length c_c) 14 rfl kj (run_loadC1 24 _ g4 33 33 _ (.slice a_c ctx.length c_c) _ r4_2 rfl kj (cat_part [ints .u8 (key), #[.slice a_n nonce.length c_n]] [#[.slice a_c ctx.length c_c]] [#[.slice a_t text.length c_t]] 33 (by rw [cat_cons, cat_cons]; simp only [Array.size_append, cat, ((ints_size _ _).trans hkl)]; rfl) 0 _ rfl) kj) ?_
  refine seq_val (.int .i64 ((ctx.length : Nat) : Int)) 15 rfl kj kj ?_
  refine seq_val (.bool false) 16 rfl kj (run_eq (u := .bool (decide (((ctx.length : Nat) : Int) > 500))) kj (congrArg Value.bool (decide_eq_false (by omega)))) ?_
  refine seq_val (.bool false) 17 rfl kj kj ?_
  refine seq_val (.pointer (some ⟨g4, 34, none⟩)) 18 rfl kj kj ?_
  refine seq_val (.slice a_t text.length c_t) 19 rfl kj (run_loadC1 24 _ g4 34 33 _ (.slice a_t text.length c_t) _ r4_2 rfl kj (cat_part [ints .u8 (key), #[.slice a_n nonce.length c_n], #[.slice a_c ctx.length c_c]] [#[.slice a_t text.length c_t]] [] 34 (by rw [cat_cons, cat_cons, cat_cons]; simp only [Array.size_append, cat, ((ints_size _ _).trans hkl)]; rfl) 0 _ rfl) kj) ?_
  refine seq_val (.int .i64 ((text.length : Nat) : Int)) 20 rfl kj kj ?_
  refine seq_val (.bool false) 21 rfl kj (run_eq (u := .bool (decide (((text.length : Nat) : Int) > 500))) kj (congrArg Value.bool (decide_eq_false (by omega)))) ?_
  refine seq_val (.bool false) 22 rfl kj kj ?_
  refine seq_nil ?_
  refine hK8 _ _ ?_
  try clear hK8 K8
  refine cond_false kj ?_
  refine wp_skip ?_
  refine hK7 _ _ ?_
  try clear hK7 K7
  refine wp_seq_k fun K9 hK9 => ?_
  refine region_lit ?_
  refine seq_val (.pointer (some ⟨g4, 0, none⟩)) 24 rfl kj kj ?_
  refine seq_val (.agg (ints .u8 (key))) 25 rfl kj (run_load_part 23 _ g4 0 33 _ _ _ r4_2 rfl kj (cat_part [] [ints .u8 (key)] [#[.slice a_n nonce.length c_n], #[.slice a_c ctx.length c_c], #[.slice a_t text.length c_t]] 0 kj) kj (isz (n := 32) kj ((ints_size _ _).trans hkl))) ?_
  refine seq_val (.pointer (some ⟨g4, 32, none⟩)) 26 rfl kj kj ?_
  refine seq_val (.slice a_n nonce.length c_n) 27 rfl kj (run_loadC1 24 _ g4 32 33 _ (.slice a_n nonce.length c_n) _ r4_2 rfl kj (cat_part [ints .u8 (key)] [#[.slice a_n nonce.length c_n]] [#[.slice a_c ctx.length c_c], #[.slice a_t text.length c_t]] 32 ((ints_size _ _).trans hkl) 0 _ rfl) kj) ?_
  refine seq_val (.pointer (some ⟨g4, 33, none⟩)) 28 rfl kj kj ?_
  refine seq_val (.slice a_c ctx.length c_c) 29 rfl kj (run_loadC1 24 _ g4 33 33 _ (.slice a_c ctx.length c_c) _ r4_2 rfl kj (cat_part [ints .u8 (key), #[.slice a_n nonce.length c_n]] [#[.slice a_c ctx.length c_c]] [#[.slice a_t text.length c_t]] 33 (by rw [cat_cons, cat_cons]; simp only [Array.size_append, cat, ((ints_size _ _).trans hkl)]; rfl) 0 _ rfl) kj) ?_
  refine seq_val (.pointer (some ⟨g4, 34, none⟩)) 30 rfl kj kj ?_
  refine seq_val (.slice a_t text.length c_t) 31 rfl kj (run_loadC1 24 _ g4 34 33 _ (.slice a_t text.length c_t) _ r4_2 rfl kj (cat_part [ints .u8 (key), #[.slice a_n nonce.length c_n], #[.slice a_c ctx.length c_c]] [#[.slice a_t text.length c_t]] [] 34 (by rw [cat_cons, cat_cons, cat_cons]; simp only [Array.size_append, cat, ((ints_size _ _).trans hkl)]; rfl) 0 _ rfl) kj) ?_
  refine seq_callR (fun v W' => (RMixR W2.heap.size fs) v W' ∧ Ext W2 W') 16 #[.agg (ints .u8 (key)), .slice a_n nonce.length c_n, .slice a_c ctx.length c_c, .slice a_t text.length c_t] 32 rfl kj kj ((es ▸ rSeal_D key nonce ctx text _ _ _ _ _ _ _ hkl hkb hnb (RdK.ext hn x2) (RdK.ext hc x2) (RdK.ext ht x2) hcb h (by omega) (by omega)).mono (by rintro e w' ⟨v, rfl, e1, hv⟩; exact ⟨v, rfl, hv, e1⟩)) fun vv10 W3 hh10 => ?_
  obtain ⟨hv10, e3⟩ := hh10
  have x3 : Ext w W3 := Ext.tr x2 e3
  obtain ⟨u11_, rfl, hu11_⟩ := hv10
  obtain ⟨a11_, c11_, rfl, -⟩ := id (OwnN.rd hu11_)
  refine seq_val (.tuple #[.slice a11_ ((fs).length) c11_, .int .i64 0]) 23 rfl kj kj ?_
  refine seq_val (.slice a11_ ((fs).length) c11_) 33 rfl kj kj ?_
  refine seq_val (.int .i64 0) 34 rfl kj kj ?_
  refine seq_val (.slice a11_ ((fs).length) c11_) 5 rfl kj kj ?_
  refine seq_val (.int .i64 0) 6 rfl kj kj ?_
  refine seq_nil ?_
  refine hK9 _ _ ?_
  try clear hK9 K9
  refine wp_seq_k fun K12 hK12 => ?_
  refine wp_seq_k fun K13 hK13 => ?_
  refine region_lit ?_
  refine seq_val (.int .i64 0) 35 rfl kj kj ?_
  refine seq_val (.bool false) 36 rfl kj kj ?_
  refine seq_nil ?_
  refine hK13 _ _ ?_
  try clear hK13 K13
  refine cond_false kj ?_
  refine wp_skip ?_
  refine hK12 _ _ ?_
  try clear hK12 K12
  refine wp_seq_k fun K14 hK14 => ?_
  refine region_lit ?_
  refine seq_val (.int .i64 cut) 37 rfl kj kj ?_
  refine seq_val (.int .u64 (cut % 18446744073709551616)) 38 rfl kj (run_eq (u := .int .u64 (IntKind.u64.wrap (cut))) kj (congrArg (Value.int .u64) rfl)) ?_
  refine seq_val (.slice a11_ ((fs).length) c11_) 39 rfl kj kj ?_
  refine seq_val (.int .i64 (((fs).length : Nat) : Int)) 40 rfl kj kj ?_
  refine seq_val (.int .u64 (((text.length + 16 : Nat) : Int))) 41 rfl kj (run_eq (u := .int .u64 (IntKind.u64.wrap (((fs).length : Nat) : Int))) kj (congrArg (Value.int .u64) (by rw [lfs]; exact u64n _ (by omega)))) ?_
  refine seq_val (.int .u64 ((k : Nat) : Int)) 42 rfl kj (run_bin .rem _ _ _ _ .u64 .u64 _ _ _ rfl kj kj (b_remS _ _ (cut % 18446744073709551616) ((text.length + 16 : Nat) : Int) ((k : Nat) : Int) (by omega) (by rw [Int.tmod_eq_emod_of_nonneg (by omega), ← ek]))) ?_
  refine seq_val (.int .i64 (((k : Nat) : Int))) 43 rfl kj (run_eq (u := .int .i64 (IntKind.i64.wrap ((k : Nat) : Int))) kj (congrArg (Value.int .i64) (IntWalk.i64_in _ (by omega)))) ?_
  refine seq_val (.int .i64 (((k : Nat) : Int))) 7 rfl kj kj ?_
  have ckf : k ≤ c11_ := by
    obtain ⟨_, _, e, q2, _⟩ := OwnN.rd hu11_
    simp only [Value.slice.injEq] at e
    obtain ⟨-, -, rfl⟩ := e
    omega
  refine seq_nil ?_
  refine hK14 _ _ ?_
  try clear hK14 K14
  refine wp_seq_k fun K15 hK15 => ?_
  refine any_regionE 14 [⟨none, [(2, none)]⟩, ⟨none, [(45, some 0)]⟩, ⟨none, [(2, none)]⟩, ⟨none, [(47, some 2)]⟩, ⟨none, [(2, none)]⟩, ⟨none, [(49, some 4)]⟩, ⟨none, [(5, none)]⟩, ⟨none, [(7, none)]⟩, ⟨none, [(51, some 6), (52, some 7)]⟩, ⟨none, [(46, some 1), (48, some 3), (50, some 5), (53, some 8)]⟩, ⟨none, [(54, some 9)]⟩, ⟨none, [(44, some 10)]⟩, ⟨none, [(44, some 10)]⟩, ⟨none, [(55, some 11)]⟩] kj kj fun F hF => ?_
  refine e_val (rl_ext _) (.pointer (some ⟨g4, 0, none⟩)) kj kj (fun W => by kernel_rfl) ?_
  have r4_3 := (row_ext r4_2 e3)
  refine e_read (rl_ext _) (.agg (ints .u8 (key))) kj kj (fun W hR => (run_load_part 23 _ g4 0 33 _ _ _ (row_ext (row_ext r4_3 (ext_drew _)) hR) rfl kj (cat_part [] [ints .u8 (key)] [#[.slice a_n nonce.length c_n], #[.slice a_c ctx.length c_c], #[.slice a_t text.length c_t]] 0 kj) kj (isz (n := 32) kj ((ints_size _ _).trans hkl)))) ?_
  refine e_val (rl_ext _) (.pointer (some ⟨g4, 32, none⟩)) kj kj (fun W => by kernel_rfl) ?_
  refine e_read (rl_ext _) (.slice a_n nonce.length c_n) kj kj (fun W hR => (run_loadC1 24 _ g4 32 33 _ (.slice a_n nonce.length c_n) _ (row_ext (row_ext r4_3 (ext_drew _)) hR) rfl kj (cat_part [ints .u8 (key)] [#[.slice a_n nonce.length c_n]] [#[.slice a_c ctx.length c_c], #[.slice a_t text.length c_t]] 32 ((ints_size _ _).trans hkl) 0 _ rfl) kj)) ?_
  refine e_val (rl_ext _) (.pointer (some ⟨g4, 33, none⟩)) kj kj (fun W => by kernel_rfl) ?_
  refine e_read (rl_ext _) (.slice a_c ctx.length c_c) kj kj (fun W hR => (run_loadC1 24 _ g4 33 33 _ (.slice a_c ctx.length c_c) _ (row_ext (row_ext r4_3 (ext_drew _)) hR) rfl kj (cat_part [ints .u8 (key), #[.slice a_n nonce.length c_n]] [#[.slice a_c ctx.length c_c]] [#[.slice a_t text.length c_t]] 33 (by rw [cat_cons, cat_cons]; simp only [Array.size_append, cat, ((ints_size _ _).trans hkl)]; rfl) 0 _ rfl) kj)) ?_
  refine e_val (rl_ext _) (.slice a11_ ((fs).length) c11_) kj kj (fun W => by kernel_rfl) ?_
  refine e_val (rl_ext _) (.int .i64 (((k : Nat) : Int))) kj kj (fun W => by kernel_rfl) ?_
  refine e_val (rl_ext _) (.slice a11_ k c11_) kj kj (fun W => (run_sliceH (len := (fs).length) 24 _ _ k 5 rfl kj kj kj .i64 kj ckf)) ?_
  have r2_2 := (row_ext r2_1 e2)
  have r2_3 := (row_ext r2_2 e3)
  have r1_2 := (row_ext r1_1 e2)
  have r1_3 := (row_ext r1_2 e3)
  refine e_call (rl_ext _) (.tuple #[.slice none 0 0, .iface 45 (.int .i64 2)]) 20 #[.agg (ints .u8 (key)), .slice a_n nonce.length c_n, .slice a_c ctx.length c_c, .slice a11_ k c11_] kj kj (fun W => by kernel_rfl) (fun W hR => (Open_S key nonce ctx tk _ _ _ _ _ _ th tq W (row_ext (row_ext r2_3 (ext_drew _)) hR) (row_ext (row_ext r1_3 (ext_drew _)) hR) hkl (RdK.ext (RdK.ext hn x3) (Rely.Ext.trans (ext_drew _) hR)) (RdK.ext (RdK.ext hc x3) (Rely.Ext.trans (ext_drew _) hR)) (RdK.ext (rdKT et ltk (OwnN.rd hu11_) hkf) (Rely.Ext.trans (ext_drew _) hR)) hcb htk h (by omega) (by omega) hsh)) ?_
  refine e_val (rl_ext _) (.tuple #[.slice none 0 0, .iface 45 (.int .i64 2)]) kj kj (fun W => by kernel_rfl) ?_
  refine e_val (rl_ext _) (.slice none 0 0) kj kj (fun W => by kernel_rfl) ?_
  refine e_val (rl_ext _) (.iface 45 (.int .i64 2)) kj kj (fun W => by kernel_rfl) ?_
  refine e_val (rl_ext _) (.slice none 0 0) kj kj (fun W => by kernel_rfl) ?_
  refine e_nil (hF _ fun W4 e4 => ?_)
  simp only [List.nil_append, List.cons_append, List.take_succ_cons, List.take_zero, List.drop_succ_cons, List.drop_zero, finE, up]
  clear hF
  have x4 : Ext w W4 := Ext.tr x3 e4
  refine seq_val (.iface 45 (.int .i64 2)) 9 rfl kj kj ?_
  refine seq_nil ?_
  refine hK15 _ _ ?_
  try clear hK15 K15
  refine wp_seq_k fun K16 hK16 => ?_
  refine any_regionE 14 [⟨none, [(2, none)]⟩, ⟨none, [(58, some 0)]⟩, ⟨none, [(2, none)]⟩, ⟨none, [(60, some 2)]⟩, ⟨none, [(2, none)]⟩, ⟨none, [(62, some 4)]⟩, ⟨none, [(5, none)]⟩, ⟨none, [(7, none)]⟩, ⟨none, [(64, some 6), (65, some 7)]⟩, ⟨none, [(59, some 1), (61, some 3), (63, some 5), (66, some 8)]⟩, ⟨none, [(67, some 9)]⟩, ⟨none, [(57, some 10)]⟩, ⟨none, [(57, some 10)]⟩, ⟨none, [(68, some 11)]⟩] kj kj fun F hF => ?_
  refine e_val (rl_ext _) (.pointer (some ⟨g4, 0, none⟩)) kj kj (fun W => by kernel_rfl) ?_
  have r4_4 := (row_ext r4_3 e4)
  refine e_read (rl_ext _) (.agg (ints .u8 (key))) kj kj (fun W hR => (run_load_part 23 _ g4 0 33 _ _ _ (row_ext (row_ext r4_4 (ext_drew _)) hR) rfl kj (cat_part [] [ints .u8 (key)] [#[.slice a_n nonce.length c_n], #[.slice a_c ctx.length c_c], #[.slice a_t text.length c_t]] 0 kj) kj (isz (n := 32) kj ((ints_size _ _).trans hkl)))) ?_
  refine e_val (rl_ext _) (.pointer (some ⟨g4, 32, none⟩)) kj kj (fun W => by kernel_rfl) ?_
  refine e_read (rl_ext _) (.slice a_n nonce.length c_n) kj kj (fun W hR => (run_loadC1 24 _ g4 32 33 _ (.slice a_n nonce.length c_n) _ (row_ext (row_ext r4_4 (ext_drew _)) hR) rfl kj (cat_part [ints .u8 (key)] [#[.slice a_n nonce.length c_n]] [#[.slice a_c ctx.length c_c], #[.slice a_t text.length c_t]] 32 ((ints_size _ _).trans hkl) 0 _ rfl) kj)) ?_
  refine e_val (rl_ext _) (.pointer (some ⟨g4, 33, none⟩)) kj kj (fun W => by kernel_rfl) ?_
  refine e_read (rl_ext _) (.slice a_c ctx.length c_c) kj kj (fun W hR => (run_loadC1 24 _ g4 33 33 _ (.slice a_c ctx.length c_c) _ (row_ext (row_ext r4_4 (ext_drew _)) hR) rfl kj (cat_part [ints .u8 (key), #[.slice a_n nonce.length c_n]] [#[.slice a_c ctx.length c_c]] [#[.slice a_t text.length c_t]] 33 (by rw [cat_cons, cat_cons]; simp only [Array.size_append, cat, ((ints_size _ _).trans hkl)]; rfl) 0 _ rfl) kj)) ?_
  refine e_val (rl_ext _) (.slice a11_ ((fs).length) c11_) kj kj (fun W => by kernel_rfl) ?_
  refine e_val (rl_ext _) (.int .i64 (((k : Nat) : Int))) kj kj (fun W => by kernel_rfl) ?_
  refine e_val (rl_ext _) (.slice a11_ k c11_) kj kj (fun W => (run_sliceH (len := (fs).length) 24 _ _ k 5 rfl kj kj kj .i64 kj ckf)) ?_
  have f17_4 := (hu11_.ext e4)
  refine e_call (rl_ext _) (.tuple #[.slice none 0 0, .int .i64 2]) 21 #[.agg (ints .u8 (key)), .slice a_n nonce.length c_n, .slice a_c ctx.length c_c, .slice a11_ k c11_] kj kj (fun W => by kernel_rfl) (fun W hR => (rOpen_S key nonce ctx tk _ _ _ _ _ _ W hkl hkb hnb (RdK.ext (RdK.ext hn x4) (Rely.Ext.trans (ext_drew _) hR)) (RdK.ext (RdK.ext hc x4) (Rely.Ext.trans (ext_drew _) hR)) (RdK.ext (rdKT et ltk (OwnN.rd f17_4) hkf) (Rely.Ext.trans (ext_drew _) hR)) hcb htk h (by omega) (by omega) hsh)) ?_
  refine e_val (rl_ext _) (.tuple #[.slice none 0 0, .int .i64 2]) kj kj (fun W => by kernel_rfl) ?_
  refine e_val (rl_ext _) (.slice none 0 0) kj kj (fun W => by kernel_rfl) ?_
  refine e_val (rl_ext _) (.int .i64 2) kj kj (fun W => by kernel_rfl) ?_
  refine e_val (rl_ext _) (.slice none 0 0) kj kj (fun W => by kernel_rfl) ?_
  refine e_nil (hF _ fun W5 e5 => ?_)
  simp only [List.nil_append, List.cons_append, List.take_succ_cons, List.take_zero, List.drop_succ_cons, List.drop_zero, finE, up]
  clear hF
  have x5 : Ext w W5 := Ext.tr x4 e5
  refine seq_val (.int .i64 2) 6 rfl kj kj ?_
  refine seq_nil ?_
  refine hK16 _ _ ?_
  try clear hK16 K16
  refine wp_seq_k fun K18 hK18 => ?_
  refine region_lit ?_
  refine seq_val (.slice none 0 0) 70 rfl kj kj ?_
  refine seq_val (.slice none 0 0) 71 rfl kj kj ?_
  refine seq_call (.bool true) 17 #[.slice none 0 0, .slice none 0 0] 72 rfl kj kj ((sameT _ _ _ _ _ rfl (nil_bytes _) (nil_bytes _))) fun W6 e6 => ?_
  have x6 : Ext w W6 := Ext.tr x5 e6
  refine seq_val (.bool true) 73 rfl kj kj ?_
  refine seq_val (.iface 45 (.int .i64 2)) 74 rfl kj kj ?_
  refine seq_call (.int .i64 2) 18 #[.iface 45 (.int .i64 2)] 75 rfl kj kj ((numE 2 (by decide)) _) fun W7 e7 => ?_
  have x7 : Ext w W7 := Ext.tr x6 e7
  refine seq_val (.int .i64 2) 76 rfl kj kj ?_
  refine seq_val (.bool true) 77 rfl kj kj ?_
  refine seq_val (.bool true) 78 rfl kj kj ?_
  refine seq_val (.bool true) 4 rfl kj kj ?_
  refine seq_nil ?_
  refine hK18 _ _ ?_
  try clear hK18 K18
  refine wp_ret ?_
  repeat (first | with_reducible refine goR1 ?_ | with_reducible refine goR2 ?_)
  exact (show bodyPost _ _ _ .ret _ _ from ret1 (.bool true) rfl (res_tmp kj) ⟨rfl, x7⟩)
set_option maxRecDepth 100000 in
set_option maxHeartbeats 4000000 in
theorem lawCuts_X (key nonce ctx text : List Int) (a_n a_c a_t : Option Addr) (c_n c_c c_t : Nat) (th tq : TypeId) (w : World) (hh : w.heap[0]? = some (.cells (ints .u32 [1634760805, 857760878, 2036477234, 1797285236]) th)) (hq : w.heap[1]? = some (.cells (ints .i64 [0, 4, 8, 12, 1, 5, 9, 13, 2, 6, 10, 14, 3, 7, 11, 15, 0, 5, 10, 15, 1, 6, 11, 12, 2, 7, 8, 13, 3, 4, 9, 14]) tq)) (hkl : key.length = 32) (hkb : AreBytes key) (hnb : AreBytes nonce) (hcb : AreBytes ctx) (htb : AreBytes text) (hn : RdK .u8 w.heap.size nonce (.slice a_n nonce.length c_n) w) (hc : RdK .u8 w.heap.size ctx (.slice a_c ctx.length c_c) w) (ht : RdK .u8 w.heap.size text (.slice a_t text.length c_t) w) (cut : Int) (fs : List Int) (es : sealV key nonce ctx text = fs) (lfs : fs.length = text.length + 16) (hfb : AreBytes fs) (k : Nat) (ek : (k : Int) = (cut % 18446744073709551616) % ((text.length + 16 : Nat) : Int)) (hk : k < text.length + 16) (tk : List Int) (et : fs.take k = tk) (h1 : ctx.length ≤ 500) (h2 : text.length ≤ 500) (h : nonce.length = 12) (hsh : 16 ≤ (tk).length) (hne : authV key nonce ctx ((tk).take ((tk).length - 16)) ≠ (tk).drop ((tk).length - 16)) : Calls Tryd.prog 8 #[.agg (cat [ints .u8 key, #[.slice a_n nonce.length c_n], #[.slice a_c ctx.length c_c], #[.slice a_t text.length c_t]]), .int .i64 cut] w (Ret w (.bool true)) := by
  have ltk : tk.length = k := by rw [← et, List.length_take]; omega
  have hkf : k ≤ fs.length := by omega
  have htk : AreBytes tk := et ▸ bytes_take hfb k
  refine enter 79 [(0, .agg (cat [ints .u8 (key), #[.slice a_n nonce.length c_n], #[.slice a_c ctx.length c_c], #[.slice a_t text.length c_t]])), (1, .int .i64 cut)] Tryd.func8 rfl rfl kj rfl ?_
  refine wp_seq_k fun K3 hK3 => ?_
  refine region_lit ?_
  refine seq_alloc (cat [ints .u8 (key), #[.slice a_n nonce.length c_n], #[.slice a_c ctx.length c_c], #[.slice a_t text.length c_t]]) 33 2 rfl kj kj fun g4 W1 l4 e1 r4_1 => ?_
  have x1 : Ext w W1 := Ext.tr (Rely.Ext.refl w) e1
  have b4 : w.heap.size ≤ g4 := Nat.le_trans (Rely.Ext.refl w).size l4
  refine seq_val (.bool false) 4 rfl kj kj ?_
  refine seq_nil ?_
  refine hK3 _ _ ?_
  try clear hK3 K3
  refine wp_seq_k fun K5 hK5 => ?_
  refine wp_seq_k fun K6 hK6 => ?_
  refine region_lit ?_
  have r2_1 := (row_ext hh e1)
  have r1_1 := (row_ext hq e1)
  refine seq_call (.bool true) 9 #[] 11 rfl kj kj ((alive04 th tq _ r2_1 r1_1)) fun W2 e2 => ?_
  have x2 : Ext w W2 := Ext.tr x1 e2
  refine seq_val (.bool false) 12 rfl kj kj ?_
  refine seq_nil ?_
  refine hK6 _ _ ?_
  try clear hK6 K6
  refine cond_false kj ?_
  refine wp_skip ?_
  refine hK5 _ _ ?_
  try clear hK5 K5
  refine wp_seq_k fun K7 hK7 => ?_
  refine wp_seq_k fun K8 hK8 => ?_
  refine region_lit ?_
  refine seq_val (.pointer (some ⟨g4, 33, none⟩)) 13 rfl kj kj ?_
  have r4_2 := (row_ext r4_1 e2)
  refine seq_val (.slice a_c ctx.length c_c) 14 rfl kj (run_loadC1 24 _ g4 33 33 _ (.slice a_c ctx.length c_c) _ r4_2 rfl kj (cat_part [ints .u8 (key), #[.slice a_n nonce.length c_n]] [#[.slice a_c ctx.length c_c]] [#[.slice a_t text.length c_t]] 33 (by rw [cat_cons, cat_cons]; simp only [Array.size_append, cat, ((ints_size _ _).trans hkl)]; rfl) 0 _ rfl) kj) ?_
  refine seq_val (.int .i64 ((ctx.length : Nat) : Int)) 15 rfl kj kj ?_
  refine seq_val (.bool false) 16 rfl kj (run_eq (u := .bool (decide (((ctx.length : Nat) : Int) > 500))) kj (congrArg Value.bool (decide_eq_false (by omega)))) ?_
  refine seq_val (.bool false) 17 rfl kj kj ?_
  refine seq_val (.pointer (some ⟨g4, 34, none⟩)) 18 rfl kj kj ?_
  refine seq_val (.slice a_t text.length c_t) 19 rfl kj (run_loadC1 24 _ g4 34 33 _ (.slice a_t text.length c_t) _ r4_2 rfl kj (cat_part [ints .u8 (key), #[.slice a_n nonce.length c_n], #[.slice a_c ctx.length c_c]] [#[.slice a_t text.length c_t]] [] 34 (by rw [cat_cons, cat_cons, cat_cons]; simp only [Array.size_append, cat, ((ints_size _ _).trans hkl)]; rfl) 0 _ rfl) kj) ?_
  refine seq_val (.int .i64 ((text.length : Nat) : Int)) 20 rfl kj kj ?_
  refine seq_val (.bool false) 21 rfl kj (run_eq (u := .bool (decide (((text.length : Nat) : Int) > 500))) kj (congrArg Value.bool (decide_eq_false (by omega)))) ?_
  refine seq_val (.bool false) 22 rfl kj kj ?_
  refine seq_nil ?_
  refine hK8 _ _ ?_
  try clear hK8 K8
  refine cond_false kj ?_
  refine wp_skip ?_
  refine hK7 _ _ ?_
  try clear hK7 K7
  refine wp_seq_k fun K9 hK9 => ?_
  refine region_lit ?_
  refine seq_val (.pointer (some ⟨g4, 0, none⟩)) 24 rfl kj kj ?_
  refine seq_val (.agg (ints .u8 (key))) 25 rfl kj (run_load_part 23 _ g4 0 33 _ _ _ r4_2 rfl kj (cat_part [] [ints .u8 (key)] [#[.slice a_n nonce.length c_n], #[.slice a_c ctx.length c_c], #[.slice a_t text.length c_t]] 0 kj) kj (isz (n := 32) kj ((ints_size _ _).trans hkl))) ?_
  refine seq_val (.pointer (some ⟨g4, 32, none⟩)) 26 rfl kj kj ?_
  refine seq_val (.slice a_n nonce.length c_n) 27 rfl kj (run_loadC1 24 _ g4 32 33 _ (.slice a_n nonce.length c_n) _ r4_2 rfl kj (cat_part [ints .u8 (key)] [#[.slice a_n nonce.length c_n]] [#[.slice a_c ctx.length c_c], #[.slice a_t text.length c_t]] 32 ((ints_size _ _).trans hkl) 0 _ rfl) kj) ?_
  refine seq_val (.pointer (some ⟨g4, 33, none⟩)) 28 rfl kj kj ?_
  refine seq_val (.slice a_c ctx.length c_c) 29 rfl kj (run_loadC1 24 _ g4 33 33 _ (.slice a_c ctx.length c_c) _ r4_2 rfl kj (cat_part [ints .u8 (key), #[.slice a_n nonce.length c_n]] [#[.slice a_c ctx.length c_c]] [#[.slice a_t text.length c_t]] 33 (by rw [cat_cons, cat_cons]; simp only [Array.size_append, cat, ((ints_size _ _).trans hkl)]; rfl) 0 _ rfl) kj) ?_
  refine seq_val (.pointer (some ⟨g4, 34, none⟩)) 30 rfl kj kj ?_
  refine seq_val (.slice a_t text.length c_t) 31 rfl kj (run_loadC1 24 _ g4 34 33 _ (.slice a_t text.length c_t) _ r4_2 rfl kj (cat_part [ints .u8 (key), #[.slice a_n nonce.length c_n], #[.slice a_c ctx.length c_c]] [#[.slice a_t text.length c_t]] [] 34 (by rw [cat_cons, cat_cons, cat_cons]; simp only [Array.size_append, cat, ((ints_size _ _).trans hkl)]; rfl) 0 _ rfl) kj) ?_
  refine seq_callR (fun v W' => (RMixR W2.heap.size fs) v W' ∧ Ext W2 W') 16 #[.agg (ints .u8 (key)), .slice a_n nonce.length c_n, .slice a_c ctx.length c_c, .slice a_t text.length c_t] 32 rfl kj kj ((es ▸ rSeal_D key nonce ctx text _ _ _ _ _ _ _ hkl hkb hnb (RdK.ext hn x2) (RdK.ext hc x2) (RdK.ext ht x2) hcb h (by omega) (by omega)).mono (by rintro e w' ⟨v, rfl, e1, hv⟩; exact ⟨v, rfl, hv, e1⟩)) fun vv10 W3 hh10 => ?_
  obtain ⟨hv10, e3⟩ := hh10
  have x3 : Ext w W3 := Ext.tr x2 e3
  obtain ⟨u11_, rfl, hu11_⟩ := hv10
  obtain ⟨a11_, c11_, rfl, -⟩ := id (OwnN.rd hu11_)
  refine seq_val (.tuple #[.slice a11_ ((fs).length) c11_, .int .i64 0]) 23 rfl kj kj ?_
  refine seq_val (.slice a11_ ((fs).length) c11_) 33 rfl kj kj ?_
  refine seq_val (.int .i64 0) 34 rfl kj kj ?_
  refine seq_val (.slice a11_ ((fs).length) c11_) 5 rfl kj kj ?_
  refine seq_val (.int .i64 0) 6 rfl kj kj ?_
  refine seq_nil ?_
  refine hK9 _ _ ?_
  try clear hK9 K9
  refine wp_seq_k fun K12 hK12 => ?_
  refine wp_seq_k fun K13 hK13 => ?_
  refine region_lit ?_
  refine seq_val (.int .i64 0) 35 rfl kj kj ?_
  refine seq_val (.bool false) 36 rfl kj kj ?_
  refine seq_nil ?_
  refine hK13 _ _ ?_
  try clear hK13 K13
  refine cond_false kj ?_
  refine wp_skip ?_
  refine hK12 _ _ ?_
  try clear hK12 K12
  refine wp_seq_k fun K14 hK14 => ?_
  refine region_lit ?_
  refine seq_val (.int .i64 cut) 37 rfl kj kj ?_
  refine seq_val (.int .u64 (cut % 18446744073709551616)) 38 rfl kj (run_eq (u := .int .u64 (IntKind.u64.wrap (cut))) kj (congrArg (Value.int .u64) rfl)) ?_
  refine seq_val (.slice a11_ ((fs).length) c11_) 39 rfl kj kj ?_
  refine seq_val (.int .i64 (((fs).length : Nat) : Int)) 40 rfl kj kj ?_
  refine seq_val (.int .u64 (((text.length + 16 : Nat) : Int))) 41 rfl kj (run_eq (u := .int .u64 (IntKind.u64.wrap (((fs).length : Nat) : Int))) kj (congrArg (Value.int .u64) (by rw [lfs]; exact u64n _ (by omega)))) ?_
  refine seq_val (.int .u64 ((k : Nat) : Int)) 42 rfl kj (run_bin .rem _ _ _ _ .u64 .u64 _ _ _ rfl kj kj (b_remS _ _ (cut % 18446744073709551616) ((text.length + 16 : Nat) : Int) ((k : Nat) : Int) (by omega) (by rw [Int.tmod_eq_emod_of_nonneg (by omega), ← ek]))) ?_
  refine seq_val (.int .i64 (((k : Nat) : Int))) 43 rfl kj (run_eq (u := .int .i64 (IntKind.i64.wrap ((k : Nat) : Int))) kj (congrArg (Value.int .i64) (IntWalk.i64_in _ (by omega)))) ?_
  refine seq_val (.int .i64 (((k : Nat) : Int))) 7 rfl kj kj ?_
  have ckf : k ≤ c11_ := by
    obtain ⟨_, _, e, q2, _⟩ := OwnN.rd hu11_
    simp only [Value.slice.injEq] at e
    obtain ⟨-, -, rfl⟩ := e
    omega
  refine seq_nil ?_
  refine hK14 _ _ ?_
  try clear hK14 K14
  refine wp_seq_k fun K15 hK15 => ?_
  refine any_regionE 14 [⟨none, [(2, none)]⟩, ⟨none, [(45, some 0)]⟩, ⟨none, [(2, none)]⟩, ⟨none, [(47, some 2)]⟩, ⟨none, [(2, none)]⟩, ⟨none, [(49, some 4)]⟩, ⟨none, [(5, none)]⟩, ⟨none, [(7, none)]⟩, ⟨none, [(51, some 6), (52, some 7)]⟩, ⟨none, [(46, some 1), (48, some 3), (50, some 5), (53, some 8)]⟩, ⟨none, [(54, some 9)]⟩, ⟨none, [(44, some 10)]⟩, ⟨none, [(44, some 10)]⟩, ⟨none, [(55, some 11)]⟩] kj kj fun F hF => ?_
  refine e_val (rl_ext _) (.pointer (some ⟨g4, 0, none⟩)) kj kj (fun W => by kernel_rfl) ?_
  have r4_3 := (row_ext r4_2 e3)
  refine e_read (rl_ext _) (.agg (ints .u8 (key))) kj kj (fun W hR => (run_load_part 23 _ g4 0 33 _ _ _ (row_ext (row_ext r4_3 (ext_drew _)) hR) rfl kj (cat_part [] [ints .u8 (key)] [#[.slice a_n nonce.length c_n], #[.slice a_c ctx.length c_c], #[.slice a_t text.length c_t]] 0 kj) kj (isz (n := 32) kj ((ints_size _ _).trans hkl)))) ?_
  refine e_val (rl_ext _) (.pointer (some ⟨g4, 32, none⟩)) kj kj (fun W => by kernel_rfl) ?_
  refine e_read (rl_ext _) (.slice a_n nonce.length c_n) kj kj (fun W hR => (run_loadC1 24 _ g4 32 33 _ (.slice a_n nonce.length c_n) _ (row_ext (row_ext r4_3 (ext_drew _)) hR) rfl kj (cat_part [ints .u8 (key)] [#[.slice a_n nonce.length c_n]] [#[.slice a_c ctx.length c_c], #[.slice a_t text.length c_t]] 32 ((ints_size _ _).trans hkl) 0 _ rfl) kj)) ?_
  refine e_val (rl_ext _) (.pointer (some ⟨g4, 33, none⟩)) kj kj (fun W => by kernel_rfl) ?_
  refine e_read (rl_ext _) (.slice a_c ctx.length c_c) kj kj (fun W hR => (run_loadC1 24 _ g4 33 33 _ (.slice a_c ctx.length c_c) _ (row_ext (row_ext r4_3 (ext_drew _)) hR) rfl kj (cat_part [ints .u8 (key), #[.slice a_n nonce.length c_n]] [#[.slice a_c ctx.length c_c]] [#[.slice a_t text.length c_t]] 33 (by rw [cat_cons, cat_cons]; simp only [Array.size_append, cat, ((ints_size _ _).trans hkl)]; rfl) 0 _ rfl) kj)) ?_
  refine e_val (rl_ext _) (.slice a11_ ((fs).length) c11_) kj kj (fun W => by kernel_rfl) ?_
  refine e_val (rl_ext _) (.int .i64 (((k : Nat) : Int))) kj kj (fun W => by kernel_rfl) ?_
  refine e_val (rl_ext _) (.slice a11_ k c11_) kj kj (fun W => (run_sliceH (len := (fs).length) 24 _ _ k 5 rfl kj kj kj .i64 kj ckf)) ?_
  have r2_2 := (row_ext r2_1 e2)
  have r2_3 := (row_ext r2_2 e3)
  have r1_2 := (row_ext r1_1 e2)
  have r1_3 := (row_ext r1_2 e3)
  refine e_call (rl_ext _) (.tuple #[.slice none 0 0, .iface 45 (.int .i64 2)]) 20 #[.agg (ints .u8 (key)), .slice a_n nonce.length c_n, .slice a_c ctx.length c_c, .slice a11_ k c11_] kj kj (fun W => by kernel_rfl) (fun W hR => (Open_N key nonce ctx tk _ _ _ _ _ _ th tq W (row_ext (row_ext r2_3 (ext_drew _)) hR) (row_ext (row_ext r1_3 (ext_drew _)) hR) hkl (RdK.ext (RdK.ext hn x3) (Rely.Ext.trans (ext_drew _) hR)) (RdK.ext (RdK.ext hc x3) (Rely.Ext.trans (ext_drew _) hR)) (RdK.ext (rdKT et ltk (OwnN.rd hu11_) hkf) (Rely.Ext.trans (ext_drew _) hR)) hcb htk h (by omega) (by omega) hsh hne)) ?_
  refine e_val (rl_ext _) (.tuple #[.slice none 0 0, .iface 45 (.int .i64 2)]) kj kj (fun W => by kernel_rfl) ?_
  refine e_val (rl_ext _) (.slice none 0 0) kj kj (fun W => by kernel_rfl) ?_
  refine e_val (rl_ext _) (.iface 45 (.int .i64 2)) kj kj (fun W => by kernel_rfl) ?_
  refine e_val (rl_ext _) (.slice none 0 0) kj kj (fun W => by kernel_rfl) ?_
  refine e_nil (hF _ fun W4 e4 => ?_)
  simp only [List.nil_append, List.cons_append, List.take_succ_cons, List.take_zero, List.drop_succ_cons, List.drop_zero, finE, up]
  clear hF
  have x4 : Ext w W4 := Ext.tr x3 e4
  refine seq_val (.iface 45 (.int .i64 2)) 9 rfl kj kj ?_
  refine seq_nil ?_
  refine hK15 _ _ ?_
  try clear hK15 K15
  refine wp_seq_k fun K16 hK16 => ?_
  refine any_regionE 14 [⟨none, [(2, none)]⟩, ⟨none, [(58, some 0)]⟩, ⟨none, [(2, none)]⟩, ⟨none, [(60, some 2)]⟩, ⟨none, [(2, none)]⟩, ⟨none, [(62, some 4)]⟩, ⟨none, [(5, none)]⟩, ⟨none, [(7, none)]⟩, ⟨none, [(64, some 6), (65, some 7)]⟩, ⟨none, [(59, some 1), (61, some 3), (63, some 5), (66, some 8)]⟩, ⟨none, [(67, some 9)]⟩, ⟨none, [(57, some 10)]⟩, ⟨none, [(57, some 10)]⟩, ⟨none, [(68, some 11)]⟩] kj kj fun F hF => ?_
  refine e_val (rl_ext _) (.pointer (some ⟨g4, 0, none⟩)) kj kj (fun W => by kernel_rfl) ?_
  have r4_4 := (row_ext r4_3 e4)
  refine e_read (rl_ext _) (.agg (ints .u8 (key))) kj kj (fun W hR => (run_load_part 23 _ g4 0 33 _ _ _ (row_ext (row_ext r4_4 (ext_drew _)) hR) rfl kj (cat_part [] [ints .u8 (key)] [#[.slice a_n nonce.length c_n], #[.slice a_c ctx.length c_c], #[.slice a_t text.length c_t]] 0 kj) kj (isz (n := 32) kj ((ints_size _ _).trans hkl)))) ?_
  refine e_val (rl_ext _) (.pointer (some ⟨g4, 32, none⟩)) kj kj (fun W => by kernel_rfl) ?_
  refine e_read (rl_ext _) (.slice a_n nonce.length c_n) kj kj (fun W hR => (run_loadC1 24 _ g4 32 33 _ (.slice a_n nonce.length c_n) _ (row_ext (row_ext r4_4 (ext_drew _)) hR) rfl kj (cat_part [ints .u8 (key)] [#[.slice a_n nonce.length c_n]] [#[.slice a_c ctx.length c_c], #[.slice a_t text.length c_t]] 32 ((ints_size _ _).trans hkl) 0 _ rfl) kj)) ?_
  refine e_val (rl_ext _) (.pointer (some ⟨g4, 33, none⟩)) kj kj (fun W => by kernel_rfl) ?_
  refine e_read (rl_ext _) (.slice a_c ctx.length c_c) kj kj (fun W hR => (run_loadC1 24 _ g4 33 33 _ (.slice a_c ctx.length c_c) _ (row_ext (row_ext r4_4 (ext_drew _)) hR) rfl kj (cat_part [ints .u8 (key), #[.slice a_n nonce.length c_n]] [#[.slice a_c ctx.length c_c]] [#[.slice a_t text.length c_t]] 33 (by rw [cat_cons, cat_cons]; simp only [Array.size_append, cat, ((ints_size _ _).trans hkl)]; rfl) 0 _ rfl) kj)) ?_
  refine e_val (rl_ext _) (.slice a11_ ((fs).length) c11_) kj kj (fun W => by kernel_rfl) ?_
  refine e_val (rl_ext _) (.int .i64 (((k : Nat) : Int))) kj kj (fun W => by kernel_rfl) ?_
  refine e_val (rl_ext _) (.slice a11_ k c11_) kj kj (fun W => (run_sliceH (len := (fs).length) 24 _ _ k 5 rfl kj kj kj .i64 kj ckf)) ?_
  have f17_4 := (hu11_.ext e4)
  refine e_call (rl_ext _) (.tuple #[.slice none 0 0, .int .i64 2]) 21 #[.agg (ints .u8 (key)), .slice a_n nonce.length c_n, .slice a_c ctx.length c_c, .slice a11_ k c11_] kj kj (fun W => by kernel_rfl) (fun W hR => (rOpen_N key nonce ctx tk _ _ _ _ _ _ W hkl hkb hnb (RdK.ext (RdK.ext hn x4) (Rely.Ext.trans (ext_drew _) hR)) (RdK.ext (RdK.ext hc x4) (Rely.Ext.trans (ext_drew _) hR)) (RdK.ext (rdKT et ltk (OwnN.rd f17_4) hkf) (Rely.Ext.trans (ext_drew _) hR)) hcb htk h (by omega) (by omega) hsh hne)) ?_
  refine e_val (rl_ext _) (.tuple #[.slice none 0 0, .int .i64 2]) kj kj (fun W => by kernel_rfl) ?_
  refine e_val (rl_ext _) (.slice none 0 0) kj kj (fun W => by kernel_rfl) ?_
  refine e_val (rl_ext _) (.int .i64 2) kj kj (fun W => by kernel_rfl) ?_
  refine e_val (rl_ext _) (.slice none 0 0) kj kj (fun W => by kernel_rfl) ?_
  refine e_nil (hF _ fun W5 e5 => ?_)
  simp only [List.nil_append, List.cons_append, List.take_succ_cons, List.take_zero, List.drop_succ_cons, List.drop_zero, finE, up]
  clear hF
  have x5 : Ext w W5 := Ext.tr x4 e5
  refine seq_val (.int .i64 2) 6 rfl kj kj ?_
  refine seq_nil ?_
  refine hK16 _ _ ?_
  try clear hK16 K16
  refine wp_seq_k fun K18 hK18 => ?_
  refine region_lit ?_
  refine seq_val (.slice none 0 0) 70 rfl kj kj ?_
  refine seq_val (.slice none 0 0) 71 rfl kj kj ?_
  refine seq_call (.bool true) 17 #[.slice none 0 0, .slice none 0 0] 72 rfl kj kj ((sameT _ _ _ _ _ rfl (nil_bytes _) (nil_bytes _))) fun W6 e6 => ?_
  have x6 : Ext w W6 := Ext.tr x5 e6
  refine seq_val (.bool true) 73 rfl kj kj ?_
  refine seq_val (.iface 45 (.int .i64 2)) 74 rfl kj kj ?_
  refine seq_call (.int .i64 2) 18 #[.iface 45 (.int .i64 2)] 75 rfl kj kj ((numE 2 (by decide)) _) fun W7 e7 => ?_
  have x7 : Ext w W7 := Ext.tr x6 e7
  refine seq_val (.int .i64 2) 76 rfl kj kj ?_
  refine seq_val (.bool true) 77 rfl kj kj ?_
  refine seq_val (.bool true) 78 rfl kj kj ?_
  refine seq_val (.bool true) 4 rfl kj kj ?_
  refine seq_nil ?_
  refine hK18 _ _ ?_
  try clear hK18 K18
  refine wp_ret ?_
  repeat (first | with_reducible refine goR1 ?_ | with_reducible refine goR2 ?_)
  exact (show bodyPost _ _ _ .ret _ _ from ret1 (.bool true) rfl (res_tmp kj) ⟨rfl, x7⟩)
set_option maxRecDepth 100000 in
set_option maxHeartbeats 4000000 in
theorem lawCuts_E (key nonce ctx text : List Int) (a_n a_c a_t : Option Addr) (c_n c_c c_t : Nat) (th tq : TypeId) (w : World) (hh : w.heap[0]? = some (.cells (ints .u32 [1634760805, 857760878, 2036477234, 1797285236]) th)) (hq : w.heap[1]? = some (.cells (ints .i64 [0, 4, 8, 12, 1, 5, 9, 13, 2, 6, 10, 14, 3, 7, 11, 15, 0, 5, 10, 15, 1, 6, 11, 12, 2, 7, 8, 13, 3, 4, 9, 14]) tq)) (hkl : key.length = 32) (hkb : AreBytes key) (hnb : AreBytes nonce) (hcb : AreBytes ctx) (htb : AreBytes text) (hn : RdK .u8 w.heap.size nonce (.slice a_n nonce.length c_n) w) (hc : RdK .u8 w.heap.size ctx (.slice a_c ctx.length c_c) w) (ht : RdK .u8 w.heap.size text (.slice a_t text.length c_t) w) (cut : Int) (fs : List Int) (es : sealV key nonce ctx text = fs) (lfs : fs.length = text.length + 16) (hfb : AreBytes fs) (k : Nat) (ek : (k : Int) = (cut % 18446744073709551616) % ((text.length + 16 : Nat) : Int)) (hk : k < text.length + 16) (tk : List Int) (et : fs.take k = tk) (h1 : ctx.length ≤ 500) (h2 : text.length ≤ 500) (h : nonce.length = 12) (hsh : 16 ≤ (tk).length) (hne : authV key nonce ctx ((tk).take ((tk).length - 16)) = (tk).drop ((tk).length - 16)) : Calls Tryd.prog 8 #[.agg (cat [ints .u8 key, #[.slice a_n nonce.length c_n], #[.slice a_c ctx.length c_c], #[.slice a_t text.length c_t]]), .int .i64 cut] w (Ret w (.bool true)) := by
  have ltk : tk.length = k := by rw [← et, List.length_take]; omega
  have hkf : k ≤ fs.length := by omega
  have htk : AreBytes tk := et ▸ bytes_take hfb k
  have bmm := mixV_bytes (startW key nonce) 1 ((tk).take ((tk).length - 16))
  obtain ⟨fm, em⟩ : ∃ z : List Int, mixV (startW key nonce) 1 ((tk).take ((tk).length - 16)) = z := ⟨_, rfl⟩
  have hmb : AreBytes fm := em ▸ bmm
  refine enter 79 [(0, .agg (cat [ints .u8 (key), #[.slice a_n nonce.length c_n], #[.slice a_c ctx.length c_c], #[.slice a_t text.length c_t]])), (1, .int .i64 cut)] Tryd.func8 rfl rfl kj rfl ?_
  refine wp_seq_k fun K3 hK3 => ?_
  refine region_lit ?_
  refine seq_alloc (cat [ints .u8 (key), #[.slice a_n nonce.length c_n], #[.slice a_c ctx.length c_c], #[.slice a_t text.length c_t]]) 33 2 rfl kj kj fun g4 W1 l4 e1 r4_1 => ?_
  have x1 : Ext w W1 := Ext.tr (Rely.Ext.refl w) e1
  have b4 : w.heap.size ≤ g4 := Nat.le_trans (Rely.Ext.refl w).size l4
  refine seq_val (.bool false) 4 rfl kj kj ?_
  refine seq_nil ?_
  refine hK3 _ _ ?_
  try clear hK3 K3
  refine wp_seq_k fun K5 hK5 => ?_
  refine wp_seq_k fun K6 hK6 => ?_
  refine region_lit ?_
  have r2_1 := (row_ext hh e1)
  have r1_1 := (row_ext hq e1)
  refine seq_call (.bool true) 9 #[] 11 rfl kj kj ((alive04 th tq _ r2_1 r1_1)) fun W2 e2 => ?_
  have x2 : Ext w W2 := Ext.tr x1 e2
  refine seq_val (.bool false) 12 rfl kj kj ?_
  refine seq_nil ?_
  refine hK6 _ _ ?_
  try clear hK6 K6
  refine cond_false kj ?_
  refine wp_skip ?_
  refine hK5 _ _ ?_
  try clear hK5 K5
  refine wp_seq_k fun K7 hK7 => ?_
  refine wp_seq_k fun K8 hK8 => ?_
  refine region_lit ?_
  refine seq_val (.pointer (some ⟨g4, 33, none⟩)) 13 rfl kj kj ?_
  have r4_2 := (row_ext r4_1 e2)
  refine seq_val (.slice a_c ctx.length c_c) 14 rfl kj (run_loadC1 24 _ g4 33 33 _ (.slice a_c ctx.length c_c) _ r4_2 rfl kj (cat_part [ints .u8 (key), #[.slice a_n nonce.length c_n]] [#[.slice a_c ctx.length c_c]] [#[.slice a_t text.length c_t]] 33 (by rw [cat_cons, cat_cons]; simp only [Array.size_append, cat, ((ints_size _ _).trans hkl)]; rfl) 0 _ rfl) kj) ?_
  refine seq_val (.int .i64 ((ctx.length : Nat) : Int)) 15 rfl kj kj ?_
  refine seq_val (.bool false) 16 rfl kj (run_eq (u := .bool (decide (((ctx.length : Nat) : Int) > 500))) kj (congrArg Value.bool (decide_eq_false (by omega)))) ?_
  refine seq_val (.bool false) 17 rfl kj kj ?_
  refine seq_val (.pointer (some ⟨g4, 34, none⟩)) 18 rfl kj kj ?_
  refine seq_val (.slice a_t text.length c_t) 19 rfl kj (run_loadC1 24 _ g4 34 33 _ (.slice a_t text.length c_t) _ r4_2 rfl kj (cat_part [ints .u8 (key), #[.slice a_n nonce.length c_n], #[.slice a_c ctx.length c_c]] [#[.slice a_t text.length c_t]] [] 34 (by rw [cat_cons, cat_cons, cat_cons]; simp only [Array.size_append, cat, ((ints_size _ _).trans hkl)]; rfl) 0 _ rfl) kj) ?_
  refine seq_val (.int .i64 ((text.length : Nat) : Int)) 20 rfl kj kj ?_
  refine seq_val (.bool false) 21 rfl kj (run_eq (u := .bool (decide (((text.length : Nat) : Int) > 500))) kj (congrArg Value.bool (decide_eq_false (by omega)))) ?_
  refine seq_val (.bool false) 22 rfl kj kj ?_
  refine seq_nil ?_
  refine hK8 _ _ ?_
  try clear hK8 K8
  refine cond_false kj ?_
  refine wp_skip ?_
  refine hK7 _ _ ?_
  try clear hK7 K7
  refine wp_seq_k fun K9 hK9 => ?_
  refine region_lit ?_
  refine seq_val (.pointer (some ⟨g4, 0, none⟩)) 24 rfl kj kj ?_
  refine seq_val (.agg (ints .u8 (key))) 25 rfl kj (run_load_part 23 _ g4 0 33 _ _ _ r4_2 rfl kj (cat_part [] [ints .u8 (key)] [#[.slice a_n nonce.length c_n], #[.slice a_c ctx.length c_c], #[.slice a_t text.length c_t]] 0 kj) kj (isz (n := 32) kj ((ints_size _ _).trans hkl))) ?_
  refine seq_val (.pointer (some ⟨g4, 32, none⟩)) 26 rfl kj kj ?_
  refine seq_val (.slice a_n nonce.length c_n) 27 rfl kj (run_loadC1 24 _ g4 32 33 _ (.slice a_n nonce.length c_n) _ r4_2 rfl kj (cat_part [ints .u8 (key)] [#[.slice a_n nonce.length c_n]] [#[.slice a_c ctx.length c_c], #[.slice a_t text.length c_t]] 32 ((ints_size _ _).trans hkl) 0 _ rfl) kj) ?_
  refine seq_val (.pointer (some ⟨g4, 33, none⟩)) 28 rfl kj kj ?_
  refine seq_val (.slice a_c ctx.length c_c) 29 rfl kj (run_loadC1 24 _ g4 33 33 _ (.slice a_c ctx.length c_c) _ r4_2 rfl kj (cat_part [ints .u8 (key), #[.slice a_n nonce.length c_n]] [#[.slice a_c ctx.length c_c]] [#[.slice a_t text.length c_t]] 33 (by rw [cat_cons, cat_cons]; simp only [Array.size_append, cat, ((ints_size _ _).trans hkl)]; rfl) 0 _ rfl) kj) ?_
  refine seq_val (.pointer (some ⟨g4, 34, none⟩)) 30 rfl kj kj ?_
  refine seq_val (.slice a_t text.length c_t) 31 rfl kj (run_loadC1 24 _ g4 34 33 _ (.slice a_t text.length c_t) _ r4_2 rfl kj (cat_part [ints .u8 (key), #[.slice a_n nonce.length c_n], #[.slice a_c ctx.length c_c]] [#[.slice a_t text.length c_t]] [] 34 (by rw [cat_cons, cat_cons, cat_cons]; simp only [Array.size_append, cat, ((ints_size _ _).trans hkl)]; rfl) 0 _ rfl) kj) ?_
  refine seq_callR (fun v W' => (RMixR W2.heap.size fs) v W' ∧ Ext W2 W') 16 #[.agg (ints .u8 (key)), .slice a_n nonce.length c_n, .slice a_c ctx.length c_c, .slice a_t text.length c_t] 32 rfl kj kj ((es ▸ rSeal_D key nonce ctx text _ _ _ _ _ _ _ hkl hkb hnb (RdK.ext hn x2) (RdK.ext hc x2) (RdK.ext ht x2) hcb h (by omega) (by omega)).mono (by rintro e w' ⟨v, rfl, e1, hv⟩; exact ⟨v, rfl, hv, e1⟩)) fun vv10 W3 hh10 => ?_
  obtain ⟨hv10, e3⟩ := hh10
  have x3 : Ext w W3 := Ext.tr x2 e3
  obtain ⟨u11_, rfl, hu11_⟩ := hv10
  obtain ⟨a11_, c11_, rfl, -⟩ := id (OwnN.rd hu11_)
  refine seq_val (.tuple #[.slice a11_ ((fs).length) c11_, .int .i64 0]) 23 rfl kj kj ?_
  refine seq_val (.slice a11_ ((fs).length) c11_) 33 rfl kj kj ?_
  refine seq_val (.int .i64 0) 34 rfl kj kj ?_
  refine seq_val (.slice a11_ ((fs).length) c11_) 5 rfl kj kj ?_
  refine seq_val (.int .i64 0) 6 rfl kj kj ?_
  refine seq_nil ?_
  refine hK9 _ _ ?_
  try clear hK9 K9
  refine wp_seq_k fun K12 hK12 => ?_
  refine wp_seq_k fun K13 hK13 => ?_
  refine region_lit ?_
  refine seq_val (.int .i64 0) 35 rfl kj kj ?_
  refine seq_val (.bool false) 36 rfl kj kj ?_
  refine seq_nil ?_
  refine hK13 _ _ ?_
  try clear hK13 K13
  refine cond_false kj ?_
  refine wp_skip ?_
  refine hK12 _ _ ?_
  try clear hK12 K12
  refine wp_seq_k fun K14 hK14 => ?_
  refine region_lit ?_
  refine seq_val (.int .i64 cut) 37 rfl kj kj ?_
  refine seq_val (.int .u64 (cut % 18446744073709551616)) 38 rfl kj (run_eq (u := .int .u64 (IntKind.u64.wrap (cut))) kj (congrArg (Value.int .u64) rfl)) ?_
  refine seq_val (.slice a11_ ((fs).length) c11_) 39 rfl kj kj ?_
  refine seq_val (.int .i64 (((fs).length : Nat) : Int)) 40 rfl kj kj ?_
  refine seq_val (.int .u64 (((text.length + 16 : Nat) : Int))) 41 rfl kj (run_eq (u := .int .u64 (IntKind.u64.wrap (((fs).length : Nat) : Int))) kj (congrArg (Value.int .u64) (by rw [lfs]; exact u64n _ (by omega)))) ?_
  refine seq_val (.int .u64 ((k : Nat) : Int)) 42 rfl kj (run_bin .rem _ _ _ _ .u64 .u64 _ _ _ rfl kj kj (b_remS _ _ (cut % 18446744073709551616) ((text.length + 16 : Nat) : Int) ((k : Nat) : Int) (by omega) (by rw [Int.tmod_eq_emod_of_nonneg (by omega), ← ek]))) ?_
  refine seq_val (.int .i64 (((k : Nat) : Int))) 43 rfl kj (run_eq (u := .int .i64 (IntKind.i64.wrap ((k : Nat) : Int))) kj (congrArg (Value.int .i64) (IntWalk.i64_in _ (by omega)))) ?_
  refine seq_val (.int .i64 (((k : Nat) : Int))) 7 rfl kj kj ?_
  have ckf : k ≤ c11_ := by
    obtain ⟨_, _, e, q2, _⟩ := OwnN.rd hu11_
    simp only [Value.slice.injEq] at e
    obtain ⟨-, -, rfl⟩ := e
    omega
  refine seq_nil ?_
  refine hK14 _ _ ?_
  try clear hK14 K14
  refine wp_seq_k fun K15 hK15 => ?_
  refine any_regionE 14 [⟨none, [(2, none)]⟩, ⟨none, [(45, some 0)]⟩, ⟨none, [(2, none)]⟩, ⟨none, [(47, some 2)]⟩, ⟨none, [(2, none)]⟩, ⟨none, [(49, some 4)]⟩, ⟨none, [(5, none)]⟩, ⟨none, [(7, none)]⟩, ⟨none, [(51, some 6), (52, some 7)]⟩, ⟨none, [(46, some 1), (48, some 3), (50, some 5), (53, some 8)]⟩, ⟨none, [(54, some 9)]⟩, ⟨none, [(44, some 10)]⟩, ⟨none, [(44, some 10)]⟩, ⟨none, [(55, some 11)]⟩] kj kj fun F hF => ?_
  refine e_val (rl_ext _) (.pointer (some ⟨g4, 0, none⟩)) kj kj (fun W => by kernel_rfl) ?_
  have r4_3 := (row_ext r4_2 e3)
  refine e_read (rl_ext _) (.agg (ints .u8 (key))) kj kj (fun W hR => (run_load_part 23 _ g4 0 33 _ _ _ (row_ext (row_ext r4_3 (ext_drew _)) hR) rfl kj (cat_part [] [ints .u8 (key)] [#[.slice a_n nonce.length c_n], #[.slice a_c ctx.length c_c], #[.slice a_t text.length c_t]] 0 kj) kj (isz (n := 32) kj ((ints_size _ _).trans hkl)))) ?_
  refine e_val (rl_ext _) (.pointer (some ⟨g4, 32, none⟩)) kj kj (fun W => by kernel_rfl) ?_
  refine e_read (rl_ext _) (.slice a_n nonce.length c_n) kj kj (fun W hR => (run_loadC1 24 _ g4 32 33 _ (.slice a_n nonce.length c_n) _ (row_ext (row_ext r4_3 (ext_drew _)) hR) rfl kj (cat_part [ints .u8 (key)] [#[.slice a_n nonce.length c_n]] [#[.slice a_c ctx.length c_c], #[.slice a_t text.length c_t]] 32 ((ints_size _ _).trans hkl) 0 _ rfl) kj)) ?_
  refine e_val (rl_ext _) (.pointer (some ⟨g4, 33, none⟩)) kj kj (fun W => by kernel_rfl) ?_
  refine e_read (rl_ext _) (.slice a_c ctx.length c_c) kj kj (fun W hR => (run_loadC1 24 _ g4 33 33 _ (.slice a_c ctx.length c_c) _ (row_ext (row_ext r4_3 (ext_drew _)) hR) rfl kj (cat_part [ints .u8 (key), #[.slice a_n nonce.length c_n]] [#[.slice a_c ctx.length c_c]] [#[.slice a_t text.length c_t]] 33 (by rw [cat_cons, cat_cons]; simp only [Array.size_append, cat, ((ints_size _ _).trans hkl)]; rfl) 0 _ rfl) kj)) ?_
  refine e_val (rl_ext _) (.slice a11_ ((fs).length) c11_) kj kj (fun W => by kernel_rfl) ?_
  refine e_val (rl_ext _) (.int .i64 (((k : Nat) : Int))) kj kj (fun W => by kernel_rfl) ?_
  refine e_val (rl_ext _) (.slice a11_ k c11_) kj kj (fun W => (run_sliceH (len := (fs).length) 24 _ _ k 5 rfl kj kj kj .i64 kj ckf)) ?_
  have r2_2 := (row_ext r2_1 e2)
  have r2_3 := (row_ext r2_2 e3)
  have r1_2 := (row_ext r1_1 e2)
  have r1_3 := (row_ext r1_2 e3)
  refine e_callG (rl_ext _) (MixR W3.heap.size fm) (mixR_stable _ _) 20 #[.agg (ints .u8 (key)), .slice a_n nonce.length c_n, .slice a_c ctx.length c_c, .slice a11_ k c11_] kj kj (fun W => by kernel_rfl) (fun W hR => ((Open_E key nonce ctx tk _ _ _ _ _ _ th tq W (row_ext (row_ext r2_3 (ext_drew _)) hR) (row_ext (row_ext r1_3 (ext_drew _)) hR) hkl (RdK.ext (RdK.ext hn x3) (Rely.Ext.trans (ext_drew _) hR)) (RdK.ext (RdK.ext hc x3) (Rely.Ext.trans (ext_drew _) hR)) (RdK.ext (rdKT et ltk (OwnN.rd hu11_) hkf) (Rely.Ext.trans (ext_drew _) hR)) hcb htk h (by omega) (by omega) hsh hne).mono fun e W2 hg => by obtain ⟨v2, e1, e2, u, e3, e4⟩ := hg; rw [em] at e4; exact ⟨v2, e1, e2, u, e3, e4.base (Rely.Ext.trans (ext_drew _) hR).size⟩)) ?_
  refine e_runX (rl_ext _) (MixR W3.heap.size fm) (mixR_stable _ _) (fun ρ W hR hh => ⟨ρ 54, W, by kernel_rfl, Rely.Ext.refl _, (show (MixR W3.heap.size fm) (ρ 54) W from hh.1)⟩) ?_
  refine e_runX (rl_ext _) (OwnN .u8 5 W3.heap.size fm) (OwnN.stable _ _ _ _) (fun ρ W hR hh => ?_) ?_
  · obtain ⟨u, e, h⟩ := (show (MixR W3.heap.size fm) (ρ 44) W from hh.1)
    exact ⟨_, W, run_extractT (.tmp 44) 0 #[u, .nilIface] _ rfl e rfl, Rely.Ext.refl _, h⟩
  refine e_runX (rl_ext _) (fun v W => v = .nilIface) (fun _ _ _ _ h => h) (fun ρ W hR hh => ?_) ?_
  · obtain ⟨u, e, h⟩ := (show (MixR W3.heap.size fm) (ρ 44) W from hh.1)
    exact ⟨_, W, run_extractT (.tmp 44) 1 #[u, .nilIface] _ rfl e rfl, Rely.Ext.refl _, rfl⟩
  refine e_runX (rl_ext _) (OwnN .u8 5 W3.heap.size fm) (OwnN.stable _ _ _ _) (fun ρ W hR hh => ⟨ρ 55, W, by kernel_rfl, Rely.Ext.refl _, (show (OwnN .u8 5 W3.heap.size fm) (ρ 55) W from hh.1)⟩) ?_
  refine e_nil (hF _ fun W4 e4 => ?_)
  simp only [List.nil_append, List.cons_append, List.take_succ_cons, List.take_zero, List.drop_succ_cons, List.drop_zero, finE, up]
  intro vv16 hv16 vv17 hv17 vv18 hv18 vv19 hv19 vv20 hv20
  clear hF
  have x4 : Ext w W4 := Ext.tr x3 e4
  obtain ⟨a21_, c21_, rfl, -⟩ := id (OwnN.rd hv18)
  subst hv19
  obtain ⟨a22_, c22_, rfl, -⟩ := id (OwnN.rd hv20)
  refine seq_val (.nilIface) 9 rfl kj kj ?_
  refine seq_nil ?_
  refine hK15 _ _ ?_
  try clear hK15 K15
  refine wp_seq_k fun K23 hK23 => ?_
  refine any_regionE 14 [⟨none, [(2, none)]⟩, ⟨none, [(58, some 0)]⟩, ⟨none, [(2, none)]⟩, ⟨none, [(60, some 2)]⟩, ⟨none, [(2, none)]⟩, ⟨none, [(62, some 4)]⟩, ⟨none, [(5, none)]⟩, ⟨none, [(7, none)]⟩, ⟨none, [(64, some 6), (65, some 7)]⟩, ⟨none, [(59, some 1), (61, some 3), (63, some 5), (66, some 8)]⟩, ⟨none, [(67, some 9)]⟩, ⟨none, [(57, some 10)]⟩, ⟨none, [(57, some 10)]⟩, ⟨none, [(68, some 11)]⟩] kj kj fun F hF => ?_
  refine e_val (rl_ext _) (.pointer (some ⟨g4, 0, none⟩)) kj kj (fun W => by kernel_rfl) ?_
  have r4_4 := (row_ext r4_3 e4)
  refine e_read (rl_ext _) (.agg (ints .u8 (key))) kj kj (fun W hR => (run_load_part 23 _ g4 0 33 _ _ _ (row_ext (row_ext r4_4 (ext_drew _)) hR) rfl kj (cat_part [] [ints .u8 (key)] [#[.slice a_n nonce.length c_n], #[.slice a_c ctx.length c_c], #[.slice a_t text.length c_t]] 0 kj) kj (isz (n := 32) kj ((ints_size _ _).trans hkl)))) ?_
  refine e_val (rl_ext _) (.pointer (some ⟨g4, 32, none⟩)) kj kj (fun W => by kernel_rfl) ?_
  refine e_read (rl_ext _) (.slice a_n nonce.length c_n) kj kj (fun W hR => (run_loadC1 24 _ g4 32 33 _ (.slice a_n nonce.length c_n) _ (row_ext (row_ext r4_4 (ext_drew _)) hR) rfl kj (cat_part [ints .u8 (key)] [#[.slice a_n nonce.length c_n]] [#[.slice a_c ctx.length c_c], #[.slice a_t text.length c_t]] 32 ((ints_size _ _).trans hkl) 0 _ rfl) kj)) ?_
  refine e_val (rl_ext _) (.pointer (some ⟨g4, 33, none⟩)) kj kj (fun W => by kernel_rfl) ?_
  refine e_read (rl_ext _) (.slice a_c ctx.length c_c) kj kj (fun W hR => (run_loadC1 24 _ g4 33 33 _ (.slice a_c ctx.length c_c) _ (row_ext (row_ext r4_4 (ext_drew _)) hR) rfl kj (cat_part [ints .u8 (key), #[.slice a_n nonce.length c_n]] [#[.slice a_c ctx.length c_c]] [#[.slice a_t text.length c_t]] 33 (by rw [cat_cons, cat_cons]; simp only [Array.size_append, cat, ((ints_size _ _).trans hkl)]; rfl) 0 _ rfl) kj)) ?_
  refine e_val (rl_ext _) (.slice a11_ ((fs).length) c11_) kj kj (fun W => by kernel_rfl) ?_
  refine e_val (rl_ext _) (.int .i64 (((k : Nat) : Int))) kj kj (fun W => by kernel_rfl) ?_
  refine e_val (rl_ext _) (.slice a11_ k c11_) kj kj (fun W => (run_sliceH (len := (fs).length) 24 _ _ k 5 rfl kj kj kj .i64 kj ckf)) ?_
  have f24_4 := (hu11_.ext e4)
  refine e_callG (rl_ext _) (RMixR W4.heap.size fm) (rmixR_stable _ _) 21 #[.agg (ints .u8 (key)), .slice a_n nonce.length c_n, .slice a_c ctx.length c_c, .slice a11_ k c11_] kj kj (fun W => by kernel_rfl) (fun W hR => ((rOpen_E key nonce ctx tk _ _ _ _ _ _ W hkl hkb hnb (RdK.ext (RdK.ext hn x4) (Rely.Ext.trans (ext_drew _) hR)) (RdK.ext (RdK.ext hc x4) (Rely.Ext.trans (ext_drew _) hR)) (RdK.ext (rdKT et ltk (OwnN.rd f24_4) hkf) (Rely.Ext.trans (ext_drew _) hR)) hcb htk h (by omega) (by omega) hsh hne).mono fun e W2 hg => by obtain ⟨v2, e1, e2, u, e3, e4⟩ := hg; rw [em] at e4; exact ⟨v2, e1, e2, u, e3, e4.base (Rely.Ext.trans (ext_drew _) hR).size⟩)) ?_
  refine e_runX (rl_ext _) (RMixR W4.heap.size fm) (rmixR_stable _ _) (fun ρ W hR hh => ⟨ρ 67, W, by kernel_rfl, Rely.Ext.refl _, (show (RMixR W4.heap.size fm) (ρ 67) W from hh.1)⟩) ?_
  refine e_runX (rl_ext _) (OwnN .u8 5 W4.heap.size fm) (OwnN.stable _ _ _ _) (fun ρ W hR hh => ?_) ?_
  · obtain ⟨u, e, h⟩ := (show (RMixR W4.heap.size fm) (ρ 57) W from hh.1)
    exact ⟨_, W, run_extractT (.tmp 57) 0 #[u, .int .i64 0] _ rfl e rfl, Rely.Ext.refl _, h⟩
  refine e_runX (rl_ext _) (fun v W => v = .int .i64 0) (fun _ _ _ _ h => h) (fun ρ W hR hh => ?_) ?_
  · obtain ⟨u, e, h⟩ := (show (RMixR W4.heap.size fm) (ρ 57) W from hh.1)
    exact ⟨_, W, run_extractT (.tmp 57) 1 #[u, .int .i64 0] _ rfl e rfl, Rely.Ext.refl _, rfl⟩
  refine e_runX (rl_ext _) (OwnN .u8 5 W4.heap.size fm) (OwnN.stable _ _ _ _) (fun ρ W hR hh => ⟨ρ 68, W, by kernel_rfl, Rely.Ext.refl _, (show (OwnN .u8 5 W4.heap.size fm) (ρ 68) W from hh.1)⟩) ?_
  refine e_nil (hF _ fun W5 e5 => ?_)
  simp only [List.nil_append, List.cons_append, List.take_succ_cons, List.take_zero, List.drop_succ_cons, List.drop_zero, finE, up]
  intro vv25 hv25 vv26 hv26 vv27 hv27 vv28 hv28 vv29 hv29
  clear hF
  have x5 : Ext w W5 := Ext.tr x4 e5
  obtain ⟨a30_, c30_, rfl, -⟩ := id (OwnN.rd hv27)
  subst hv28
  obtain ⟨a31_, c31_, rfl, -⟩ := id (OwnN.rd hv29)
  refine seq_val (.int .i64 0) 6 rfl kj kj ?_
  refine seq_nil ?_
  refine hK23 _ _ ?_
  try clear hK23 K23
  refine wp_seq_k fun K32 hK32 => ?_
  refine region_lit ?_
  refine seq_val (.slice a22_ ((fm).length) c22_) 70 rfl kj kj ?_
  refine seq_val (.slice a31_ ((fm).length) c31_) 71 rfl kj kj ?_
  have f33_5 := (hv20.ext e5)
  refine seq_call (.bool true) 17 #[.slice a22_ ((fm).length) c22_, .slice a31_ ((fm).length) c31_] 72 rfl kj kj ((sameT _ _ _ _ _ rfl (RdK.bytes (OwnN.rd f33_5) hmb) (RdK.bytes (OwnN.rd hv29) hmb))) fun W6 e6 => ?_
  have x6 : Ext w W6 := Ext.tr x5 e6
  refine seq_val (.bool true) 73 rfl kj kj ?_
  refine seq_val (.nilIface) 74 rfl kj kj ?_
  refine seq_call (.int .i64 0) 18 #[.nilIface] 75 rfl kj kj ((numZ) _) fun W7 e7 => ?_
  have x7 : Ext w W7 := Ext.tr x6 e7
  refine seq_val (.int .i64 0) 76 rfl kj kj ?_
  refine seq_val (.bool true) 77 rfl kj kj ?_
  refine seq_val (.bool true) 78 rfl kj kj ?_
  refine seq_val (.bool true) 4 rfl kj kj ?_
  refine seq_nil ?_
  refine hK32 _ _ ?_
  try clear hK32 K32
  refine wp_ret ?_
  repeat (first | with_reducible refine goR1 ?_ | with_reducible refine goR2 ?_)
  exact (show bodyPost _ _ _ .ret _ _ from ret1 (.bool true) rfl (res_tmp kj) ⟨rfl, x7⟩)
theorem lawCuts (key nonce ctx text : List Int) (a_n a_c a_t : Option Addr) (c_n c_c c_t : Nat) (th tq : TypeId) (w : World) (hh : w.heap[0]? = some (.cells (ints .u32 [1634760805, 857760878, 2036477234, 1797285236]) th)) (hq : w.heap[1]? = some (.cells (ints .i64 [0, 4, 8, 12, 1, 5, 9, 13, 2, 6, 10, 14, 3, 7, 11, 15, 0, 5, 10, 15, 1, 6, 11, 12, 2, 7, 8, 13, 3, 4, 9, 14]) tq)) (hkl : key.length = 32) (hkb : AreBytes key) (hnb : AreBytes nonce) (hcb : AreBytes ctx) (htb : AreBytes text) (hn : RdK .u8 w.heap.size nonce (.slice a_n nonce.length c_n) w) (hc : RdK .u8 w.heap.size ctx (.slice a_c ctx.length c_c) w) (ht : RdK .u8 w.heap.size text (.slice a_t text.length c_t) w) (cut : Int) : Calls Tryd.prog 8 #[.agg (cat [ints .u8 key, #[.slice a_n nonce.length c_n], #[.slice a_c ctx.length c_c], #[.slice a_t text.length c_t]]), .int .i64 cut] w (Ret w (.bool true)) := by
  by_cases h1 : 500 < ctx.length
  · exact lawCuts_L key nonce ctx text a_n a_c a_t c_n c_c c_t th tq w hh hq hkl hkb hnb hcb htb hn hc ht cut h1
  by_cases h2 : 500 < text.length
  · exact lawCuts_M key nonce ctx text a_n a_c a_t c_n c_c c_t th tq w hh hq hkl hkb hnb hcb htb hn hc ht cut (by omega) h2
  by_cases h : nonce.length = 12
  · skip
    obtain ⟨k, ek⟩ : ∃ k : Nat, (k : Int) = (cut % 18446744073709551616) % ((text.length + 16 : Nat) : Int) := ⟨((cut % 18446744073709551616) % ((text.length + 16 : Nat) : Int)).toNat, Int.toNat_of_nonneg (Int.emod_nonneg _ (by omega))⟩
    have hk : k < text.length + 16 := by have := Int.emod_lt_of_pos (cut % 18446744073709551616) (show (0 : Int) < ((text.length + 16 : Nat) : Int) by omega); omega
    have lfs0 := sealV_len key nonce ctx text
    have bfs0 := sealV_bytes key nonce ctx text
    obtain ⟨fs, es⟩ : ∃ z : List Int, sealV key nonce ctx text = z := ⟨_, rfl⟩
    have lfs : fs.length = text.length + 16 := es ▸ lfs0
    have hfb : AreBytes fs := es ▸ bfs0
    obtain ⟨tk, et⟩ : ∃ z, fs.take k = z := ⟨_, rfl⟩
    by_cases hsh : tk.length < 16
    · exact lawCuts_S key nonce ctx text a_n a_c a_t c_n c_c c_t th tq w hh hq hkl hkb hnb hcb htb hn hc ht cut fs es lfs hfb k ek hk tk et (by omega) (by omega) h hsh
    by_cases hne : authV key nonce ctx ((tk).take ((tk).length - 16)) = (tk).drop ((tk).length - 16)
    · exact lawCuts_E key nonce ctx text a_n a_c a_t c_n c_c c_t th tq w hh hq hkl hkb hnb hcb htb hn hc ht cut fs es lfs hfb k ek hk tk et (by omega) (by omega) h (by omega) hne
    · exact lawCuts_X key nonce ctx text a_n a_c a_t c_n c_c c_t th tq w hh hq hkl hkb hnb hcb htb hn hc ht cut fs es lfs hfb k ek hk tk et (by omega) (by omega) h (by omega) hne
  · exact lawCuts_A key nonce ctx text a_n a_c a_t c_n c_c c_t th tq w hh hq hkl hkb hnb hcb htb hn hc ht cut (by omega) (by omega) h
theorem lawCutsF (key nonce ctx text : List Int) (a_n a_c a_t : Option Addr) (ln c_n lc c_c lt c_t : Nat) (th tq : TypeId) (w : World) (hh : w.heap[0]? = some (.cells (ints .u32 [1634760805, 857760878, 2036477234, 1797285236]) th)) (hq : w.heap[1]? = some (.cells (ints .i64 [0, 4, 8, 12, 1, 5, 9, 13, 2, 6, 10, 14, 3, 7, 11, 15, 0, 5, 10, 15, 1, 6, 11, 12, 2, 7, 8, 13, 3, 4, 9, 14]) tq)) (hkl : key.length = 32) (hkb : AreBytes key) (hnb : AreBytes nonce) (hcb : AreBytes ctx) (htb : AreBytes text) (hn : RdK .u8 w.heap.size nonce (.slice a_n ln c_n) w) (hc : RdK .u8 w.heap.size ctx (.slice a_c lc c_c) w) (ht : RdK .u8 w.heap.size text (.slice a_t lt c_t) w) (eln : nonce.length = ln) (elc : ctx.length = lc) (elt : text.length = lt) (cut : Int) : Calls Tryd.prog 8 #[.agg ((key.map (Value.int .u8) ++ [Value.slice a_n ln c_n] ++ [Value.slice a_c lc c_c] ++ [Value.slice a_t lt c_t]).toArray), .int .i64 cut] w (Ret w (.bool true)) := by
  subst eln elc elt
  rw [cat_st]
  exact lawCuts key nonce ctx text a_n a_c a_t c_n c_c c_t th tq w hh hq hkl hkb hnb hcb htb hn hc ht cut
end Go.Proofs.YtjldjdlhllgakaaDoor.Ae
end
section
namespace Go.Proofs.YtjldjdlhllgakaaDoor.Auto
open Go Go.RowKit Go.WideShapes
open Go.Proofs.YtjldjdlhllgakaaDoor.Rely
set_option linter.unusedVariables false
section
variable {H : Type} {enc : TypeId × Value → H} {P : Program} {W w : World} {r : Reach} {base b0 : Nat} {sp : Nat → Bool} {held : Bool}
theorem open_raw {n : Nat} {t e : TypeId} {cs : List Value} {fuel : Nat} {x : DataW H × List MemPlace} (ht : P.underlying t = some (.array n e)) (he : P.underlying e = some (.int .u8)) (hce : P.cellsOf e = 1) (hct : P.cellsOf t = n)
    (hf : DataW.trod enc P w b0 sp held fuel t cs = some x) : ∃ xs : List Int, cs = xs.map (Value.int .u8) ∧ xs.length = n ∧ AreBytes xs := by
  obtain ⟨xs, m, -, -, hl, hn, hx⟩ := DataW.trod_array ht hf
  have hcs : cs.length = n := by simpa [hct] using hl
  have each : ∀ i, i < n → ∃ z : Int, cs[i]? = some (.int .u8 z) ∧ (0 ≤ z ∧ z ≤ 255) := by
    intro i hi
    have h1 := hx i hi
    rw [hce, Nat.mul_one] at h1
    have hlt : i < cs.length := by omega
    have h2 : cs.drop i = cs[i] :: cs.drop (i + 1) := List.drop_eq_getElem_cons hlt
    have h1 : DataW.trod enc P w b0 sp held m e ((cs.drop i).take 1) = xs[i]? := h1
    rw [h2] at h1
    simp only [List.take_succ_cons, List.take_zero] at h1
    obtain ⟨y, hy⟩ : ∃ y, xs[i]? = some y := ⟨xs[i], by simp [hn, hi]⟩
    rw [hy] at h1
    obtain ⟨z, hc, -, hw⟩ := DataW.trod_int he h1
    refine ⟨z, ?_, ?_⟩
    · rw [List.getElem?_eq_getElem hlt]
      simp only [List.cons.injEq] at hc
      rw [hc.1]
    · simpa [Lit.wf, IntKind.min, IntKind.max, IntKind.signed, IntKind.bits] using hw
  have all : ∀ (l : List Value), (∀ i, i < l.length → ∃ z : Int, l[i]? = some (.int .u8 z) ∧ (0 ≤ z ∧ z ≤ 255)) → ∃ zs : List Int, l = zs.map (Value.int .u8) ∧ AreBytes zs := by
    intro l
    induction l with
    | nil => exact fun _ => ⟨[], rfl, fun x hx => by simp at hx⟩
    | cons a l ih =>
      intro h
      obtain ⟨zs, h1, h2⟩ := ih fun i hi => by simpa using h (i + 1) (by simp; omega)
      obtain ⟨z, h3, h4⟩ := h 0 (by simp)
      simp only [List.getElem?_cons_zero, Option.some.injEq] at h3
      refine ⟨z :: zs, by rw [h3, h1]; rfl, fun x hx => ?_⟩
      rcases List.mem_cons.1 hx with e | e
      · rw [e]; exact h4
      · exact h2 x e
  obtain ⟨zs, h1, h2⟩ := all cs fun i hi => each i (by omega)
  exact ⟨zs, h1, by rw [← hcs, h1, List.length_map], h2⟩
theorem open_st4 {t : TypeId} {f0 f1 f2 f3 : Field} {v : Value} {d : DataW H} {p : List MemPlace} {n0 n1 n2 n3 : Nat} (hs : P.underlying t = some (.struct #[f0, f1, f2, f3]))
    (ho : f0.offset = 0 ∧ f1.offset = n0 ∧ f2.offset = n0 + n1 ∧ f3.offset = n0 + n1 + n2) (hc : P.cellsOf f0.type = n0 ∧ P.cellsOf f1.type = n1 ∧ P.cellsOf f2.type = n2 ∧ P.cellsOf f3.type = n3) (hC : P.cellsOf t = n0 + n1 + n2 + n3)
    (hv : Value.okWide P W r base t v) (h : DataW.Trod enc P w b0 sp held t v d p) :
    ∃ (A B C D : List Value) (y0 y1 y2 y3 : DataW H × List MemPlace) (n : Nat), v = .agg (A ++ B ++ C ++ D).toArray ∧
      DataW.trod enc P w b0 sp held n f0.type A = some y0 ∧ DataW.trod enc P w b0 sp held n f1.type B = some y1 ∧ DataW.trod enc P w b0 sp held n f2.type C = some y2 ∧ DataW.trod enc P w b0 sp held n f3.type D = some y3 := by
  obtain ⟨cs, rfl, hsz⟩ := okWide_struct hs hv
  obtain ⟨fuel, hf⟩ := h
  obtain ⟨y0, y1, y2, y3, n, -, hlen, h0, h1, h2, h3⟩ := Joins.trod_struct4 hs hf
  obtain ⟨o0, o1, o2, o3⟩ := ho
  obtain ⟨c0, c1, c2, c3⟩ := hc
  rw [o0, c0] at h0
  rw [o1, c1] at h1
  rw [o2, c2] at h2
  rw [o3, c3] at h3
  refine ⟨_, _, _, _, y0, y1, y2, y3, n, ?_, h0, h1, h2, h3⟩
  congr 1
  have hl : cs.toList.length = n0 + n1 + n2 + n3 := by rw [Array.length_toList, hsz, hC]
  apply Array.ext'
  show cs.toList = _
  simp only [Value.cells, List.drop_zero]
  generalize cs.toList = l at hl
  have e1 : l.take n0 ++ (l.drop n0).take n1 = l.take (n0 + n1) := by rw [List.take_add]
  have e2 : l.take (n0 + n1) ++ (l.drop (n0 + n1)).take n2 = l.take (n0 + n1 + n2) := by rw [List.take_add (i := n0 + n1)]
  have e3 : l.take (n0 + n1 + n2) ++ (l.drop (n0 + n1 + n2)).take n3 = l.take (n0 + n1 + n2 + n3) := by rw [List.take_add (i := n0 + n1 + n2)]
  rw [e1, e2, e3, List.take_of_length_le (by omega)]
end
end Go.Proofs.YtjldjdlhllgakaaDoor.Auto
end
section
namespace Go.Proofs.YtjldjdlhllgakaaDoor.Auto
open Go Go.RowKit
open Go.Proofs.YtjldjdlhllgakaaDoor.Rely
set_option linter.unusedVariables false
theorem laidVars_at {P : Program} {w : World} : ∀ (laid : List (String × DataW Unit)) (ps : List MemPlace) (n : String) (d : DataW Unit), DataW.LaidVars P w laid ps → (n, d) ∈ laid →
    ∃ g t cs fuel p, P.globalNamed n = some g ∧ (P.globals[g]?).map (·.type) = some t ∧ w.var? P n = some cs ∧ DataW.trod (fun _ => ()) P w 0 (fun _ => true) false fuel t cs.toList = some (d, p) ∧ ∀ x ∈ MemPlace.row ⟨g, 0, none⟩ cs.size, x ∈ ps
  | [], _, _, _, _, h => by cases h
  | (n0, d0) :: r, ps, n, d, ⟨g, t, cs, fuel, p, q, h1, h2, h3, h4, h5, h6⟩, h => by
    subst h6
    rcases List.mem_cons.1 h with h | h
    · cases h
      exact ⟨g, t, cs, fuel, p, h1, h2, h3, h4, fun x hx => List.mem_append_left _ (List.mem_append_left _ hx)⟩
    · obtain ⟨g', t', cs', fuel', p', a, b, c, e, f⟩ := laidVars_at r q n d h5 h
      exact ⟨g', t', cs', fuel', p', a, b, c, e, fun x hx => List.mem_append_right _ (f x hx)⟩
theorem laid_row {P : Program} {w : World} {laid : List (String × DataW Unit)} {n : String} {k : IntKind} {zs : List Int} {g : Nat} {t e : TypeId} {m : Nat} (h : laidMet P laid w) (hm : (n, Lib.tabData k zs) ∈ laid)
    (hg : P.globalNamed n = some g) (hty : (P.globals[g]?).map (·.type) = some t) (ht : P.underlying t = some (.array m e)) (he : P.underlying e = some (.int k)) (hce : P.cellsOf e = 1) (hct : P.cellsOf t = m) (h0 : 0 < zs.length) :
    ∃ t, w.heap[g]? = some (.cells (ints k zs) t) := by
  obtain ⟨ps, hL, -, hC⟩ := h
  obtain ⟨g', t', cs, fuel, p, hg', ht', hvar, hd, hin⟩ := laidVars_at _ _ _ _ hL hm
  obtain rfl := Option.some.inj (hg.symm.trans hg')
  obtain rfl := Option.some.inj (hty.symm.trans ht')
  have hcs := Lib.cells_of_tab ht he hce hct hd
  have hsz : 0 < cs.size := by rw [← Array.length_toList, hcs, List.length_map]; exact h0
  obtain ⟨⟨c, t2, hc⟩, -⟩ := hC g 0 (hin _ (List.mem_map.2 ⟨0, List.mem_range.2 hsz, rfl⟩))
  unfold World.var? at hvar
  rw [hg] at hvar
  simp only [Option.bind_some, hc, Option.some.injEq] at hvar
  subst hvar
  refine ⟨t2, hc.trans ?_⟩
  rw [show c = ints k zs from by rw [ints, ← hcs]]
theorem bytes_wf {bs : List Int} (h : ∀ n ∈ bs, (Lit.int .u8 n).wf = true) : AreBytes bs := fun n hn => by
  have := h n hn
  simpa [Lit.wf, IntKind.min, IntKind.max, IntKind.signed, IntKind.bits] using this
end Go.Proofs.YtjldjdlhllgakaaDoor.Auto
end
section
namespace Go.Proofs.YtjldjdlhllgakaaDoor.Auto
open Go Go.RowKit
open Go.Proofs.YtjldjdlhllgakaaDoor.Rely
set_option linter.unusedVariables false
theorem chunks {α : Type} (m : Nat) : ∀ (n : Nat) (cs : List α), cs.length = n * m → ((List.range n).map fun i => (cs.drop (i * m)).take m).flatten = cs
  | 0, cs, h => by
    have : cs = [] := List.length_eq_zero_iff.1 (by simpa using h)
    subst this; rfl
  | n + 1, cs, h => by
    have hm : (n + 1) * m = n * m + m := Nat.succ_mul n m
    rw [List.range_succ, List.map_append, List.flatten_append]
    have ih := chunks m n (cs.take (n * m)) (by rw [List.length_take]; omega)
    have e1 : ((List.range n).map fun i => (cs.drop (i * m)).take m) = ((List.range n).map fun i => ((cs.take (n * m)).drop (i * m)).take m) := by
      refine List.map_congr_left fun i hi => ?_
      rw [List.mem_range] at hi
      have h1 : (i + 1) * m ≤ n * m := Nat.mul_le_mul_right m hi
      rw [Nat.succ_mul] at h1
      rw [List.drop_take, List.take_take, Nat.min_eq_left (by omega)]
    rw [e1, ih]
    simp only [List.map_cons, List.map_nil, List.flatten_cons, List.flatten_nil, List.append_nil]
    have e2 : (cs.drop (n * m)).take m = cs.drop (n * m) := List.take_of_length_le (by rw [List.length_drop]; omega)
    rw [e2, List.take_append_drop]
theorem cells_of_tab2 {H : Type} {enc : TypeId × Value → H} {P : Program} {w : World} {base : Nat} {sp : Nat → Bool} {held : Bool} {fuel : Nat} {t e i : TypeId} {n m : Nat} {k : IntKind} {cs : List Value} {zss : List (List Int)} {p : List MemPlace}
    (ht : P.underlying t = some (.array n e)) (he : P.underlying e = some (.array m i)) (hi : P.underlying i = some (.int k)) (hci : P.cellsOf i = 1) (hce : P.cellsOf e = m) (hct : P.cellsOf t = n * m)
    (h : DataW.trod enc P w base sp held fuel t cs = some (.agg (zss.map (Lib.tabData k)), p)) : cs = zss.flatten.map fun z => Value.int k z := by
  cases fuel with
  | zero => simp [DataW.trod] at h
  | succ fuel =>
    simp only [DataW.trod, ht, hce, hct] at h
    split at h
    · rename_i hl
      obtain ⟨xs, hm, hx⟩ := Option.map_eq_some_iff.1 h
      have hxs : xs.map (·.1) = zss.map fun z => (Lib.tabData k z : DataW H) := by
        have := congrArg Prod.fst hx
        simpa using this
      have hxl : xs.length = n := by simpa using Lib.mapM_length hm
      have hzl : zss.length = n := by
        have := congrArg List.length hxs
        simp at this
        omega
      rw [← chunks m n cs (by simpa using hl), List.map_flatten]
      congr 1
      apply List.ext_getElem?
      intro j
      by_cases hj : j < n
      · obtain ⟨b, hb, hf⟩ := Lib.mapM_at hm j j (by simp [hj])
        have h2 : (xs.map (·.1))[j]? = some b.1 := by simp [hb]
        rw [hxs, List.getElem?_map, List.getElem?_eq_getElem (by omega), Option.map_some, Option.some.injEq] at h2
        have h3 := Lib.cells_of_tab he hi hci hce (zs := zss[j]'(by omega)) (p := b.2) (by rw [h2]; exact hf)
        rw [List.getElem?_map, List.getElem?_map, List.getElem?_range hj, List.getElem?_eq_getElem (by omega), Option.map_some, Option.map_some, h3]
      · rw [List.getElem?_eq_none (by simp; omega), List.getElem?_eq_none (by simp; omega)]
    · cases h
theorem laid_row2 {P : Program} {w : World} {laid : List (String × DataW Unit)} {n : String} {k : IntKind} {zss : List (List Int)} {g : Nat} {t e i : TypeId} {m1 m : Nat} (h : laidMet P laid w) (hm : (n, DataW.agg (zss.map (Lib.tabData k))) ∈ laid)
    (hg : P.globalNamed n = some g) (hty : (P.globals[g]?).map (·.type) = some t) (ht : P.underlying t = some (.array m1 e)) (he : P.underlying e = some (.array m i)) (hi : P.underlying i = some (.int k)) (hci : P.cellsOf i = 1) (hce : P.cellsOf e = m) (hct : P.cellsOf t = m1 * m) (h0 : 0 < zss.flatten.length) :
    ∃ t, w.heap[g]? = some (.cells (ints k zss.flatten) t) := by
  obtain ⟨ps, hL, -, hC⟩ := h
  obtain ⟨g', t', cs, fuel, p, hg', ht', hvar, hd, hin⟩ := laidVars_at _ _ _ _ hL hm
  obtain rfl := Option.some.inj (hg.symm.trans hg')
  obtain rfl := Option.some.inj (hty.symm.trans ht')
  have hcs := cells_of_tab2 ht he hi hci hce hct hd
  have hsz : 0 < cs.size := by rw [← Array.length_toList, hcs, List.length_map]; exact h0
  obtain ⟨⟨c, t2, hc⟩, -⟩ := hC g 0 (hin _ (List.mem_map.2 ⟨0, List.mem_range.2 hsz, rfl⟩))
  unfold World.var? at hvar
  rw [hg] at hvar
  simp only [Option.bind_some, hc, Option.some.injEq] at hvar
  subst hvar
  refine ⟨t2, hc.trans ?_⟩
  rw [show c = ints k zss.flatten from by rw [ints, ← hcs]]
end Go.Proofs.YtjldjdlhllgakaaDoor.Auto
end
