/- Texts of this claim, joined (O4). -/
import Derived.Test.YtjldjdlhllgakaaDoorZO3
import Derived.Laws.Externs
import Derived.Shelf.Spec.BitsCarry
import Derived.Shelf.Bits.Mul64
import Derived.Laws.Bits64b

section
namespace Go.Proofs.YtjldjdlhllgakaaDoor.Ae
open Go Go.RowKit
open Rely Auto Own Sha
set_option linter.unusedVariables false
set_option linter.unusedSimpArgs false
open Sha Cha
def Qct (key nonce ctx text : List Int) : List Int := mixV (QaG key nonce) 1 text ++ Qbx key nonce ctx (mixV (QaG key nonce) 1 text)
theorem Qc7 (key nonce ctx text : List Int) : (Qct key nonce ctx text).length = text.length + 16 := by unfold Qct; rw [List.length_append, QbJ, QaT]
theorem Qiv (xs ys : List Int) (v v2 : Value) (B B2 : Nat) (w : World) (e : xs = ys) (hx : RdK .u8 B xs v w) (hy : RdK .u8 B2 ys v2 w) (hxb : Qaj xs) (hyb : Qaj ys) (hl : ys.length = xs.length) (hxl : xs.length ≤ 2000000) : Calls Tryd.prog 36 #[v, v2] w (Ret w (.bool true)) := by
  have h := Qje xs ys v v2 B B2 w hx hy hxb hyb hl hxl
  rw [decide_eq_true e] at h
  exact h
theorem Qj0 (xs ys : List Int) (v v2 : Value) (B B2 : Nat) (w : World) (e : xs ≠ ys) (hx : RdK .u8 B xs v w) (hy : RdK .u8 B2 ys v2 w) (hxb : Qaj xs) (hyb : Qaj ys) (hl : ys.length = xs.length) (hxl : xs.length ≤ 2000000) : Calls Tryd.prog 36 #[v, v2] w (Ret w (.bool false)) := by
  have h := Qje xs ys v v2 B B2 w hx hy hxb hyb hl hxl
  rw [decide_eq_false e] at h
  exact h
theorem Qca (key nonce ctx mixed : List Int) : Qaj (Qbx key nonce ctx mixed) := Qhz _
theorem QeA (key nonce ctx text : List Int) : Qaj (Qct key nonce ctx text) := Qbc (QdY _ _ _) (Qca _ _ _ _)
theorem MixE (key nonce text fm : List Int) (v v2 : Value) (B B2 : Nat) (th tq : TypeId) (w : World) (hh : w.heap[0]? = some (.cells (ints .u32 [1634760805, 857760878, 2036477234, 1797285236]) th)) (hq : w.heap[1]? = some (.cells (ints .i64 [0, 4, 8, 12, 1, 5, 9, 13, 2, 6, 10, 14, 3, 7, 11, 15, 0, 5, 10, 15, 1, 6, 11, 12, 2, 7, 8, 13, 3, 4, 9, 14]) tq)) (hkl : key.length = 32) (hn : RdK .u8 B nonce v w) (ht : RdK .u8 B2 text v2 w) (h : nonce.length = 12) (hl : text.length ≤ 2000000) (em : mixV (QaG key nonce) 1 text = fm) :
    Calls Tryd.prog 32 #[.agg (ints .u8 key), v, .int .i64 1, v2] w (Qcb w (MixR w.heap.size fm)) := by
  subst em
  exact MixG w.heap.size key nonce text v v2 B B2 1 th tq w hh hq hkl hn ht h 4294967295 (by decide) (by decide) (by decide) (by omega) hl (Nat.le_refl _)
set_option maxRecDepth 100000 in
set_option maxHeartbeats 4000000 in
theorem Qku (key nonce ctx text : List Int) (v v2 v3 : Value) (B B2 B3 : Nat) (th tq : TypeId) (w : World) (hh : w.heap[0]? = some (.cells (ints .u32 [1634760805, 857760878, 2036477234, 1797285236]) th)) (hq : w.heap[1]? = some (.cells (ints .i64 [0, 4, 8, 12, 1, 5, 9, 13, 2, 6, 10, 14, 3, 7, 11, 15, 0, 5, 10, 15, 1, 6, 11, 12, 2, 7, 8, 13, 3, 4, 9, 14]) tq)) (hkl : key.length = 32) (hn : RdK .u8 B nonce v w) (hc : RdK .u8 B2 ctx v2 w) (ht : RdK .u8 B3 text v3 w) (hcb : Qaj ctx) (h : nonce.length = 12) (hcl : ctx.length ≤ 1048576) (hxl : text.length ≤ 1048576) :
    Calls Tryd.prog 15 #[.agg (ints .u8 key), v, v2, v3] w (Qcb w (MixR w.heap.size (Qct key nonce ctx text))) := by
  obtain ⟨a_n, c_n, rfl, -⟩ := id hn
  obtain ⟨a_c, c_c, rfl, -⟩ := id hc
  obtain ⟨a_t, c_t, rfl, -⟩ := id ht
  obtain ⟨fm, em⟩ : ∃ z : List Int, mixV (QaG key nonce) 1 text = z := ⟨_, rfl⟩
  have lfm : fm.length = text.length := by rw [← em, QbJ]
  have hfb : Qaj fm := by rw [← em]; exact QdY _ _ _
  refine enter 51 [(0, .agg (ints .u8 (key))), (1, .slice a_n nonce.length c_n), (2, .slice a_c ctx.length c_c), (3, .slice a_t text.length c_t)] Tryd.func15 rfl rfl kj rfl ?_
  refine wp_seq_k fun K3 hK3 => ?_
  refine Qab ?_
  refine Qar (ints .u8 (key)) 23 4 rfl kj kj fun g4 W1 l4 e1 r4_1 => ?_
  have x1 : Ext w W1 := Ext.tr (Rely.Ext.refl w) e1
  have b4 : w.heap.size ≤ g4 := Nat.le_trans (Rely.Ext.refl w).size l4
  refine Qaa (.slice none 0 0) 8 rfl kj kj ?_
  refine Qaa (.nilIface) 9 rfl kj kj ?_
  refine Qac ?_
  refine hK3 _ _ ?_
  refine wp_seq_k fun K5 hK5 => ?_
  refine wp_seq_k fun K6 hK6 => ?_
  refine Qab ?_
  refine Qaa (.slice a_n nonce.length c_n) 13 rfl kj kj ?_
  refine Qaa (.int .i64 ((nonce.length : Nat) : Int)) 14 rfl kj kj ?_
  refine Qaa (.bool false) 15 rfl kj (Qah (u := .bool ((((nonce.length : Nat) : Int) != 12))) kj (congrArg Value.bool (by rw [h]; rfl))) ?_
  refine Qaa (.bool false) 16 rfl kj kj ?_
  refine Qaa (.slice a_c ctx.length c_c) 17 rfl kj kj ?_
  refine Qaa (.int .i64 ((ctx.length : Nat) : Int)) 18 rfl kj kj ?_
  refine Qaa (.bool false) 19 rfl kj (Qah (u := .bool (decide (((ctx.length : Nat) : Int) > 1048576))) kj (congrArg Value.bool (decide_eq_false (by omega)))) ?_
  refine Qaa (.bool false) 20 rfl kj kj ?_
  refine Qaa (.bool false) 21 rfl kj kj ?_
  refine Qaa (.slice a_t text.length c_t) 22 rfl kj kj ?_
  refine Qaa (.int .i64 ((text.length : Nat) : Int)) 23 rfl kj kj ?_
  refine Qaa (.bool false) 24 rfl kj (Qah (u := .bool (decide (((text.length : Nat) : Int) > 1048576))) kj (congrArg Value.bool (decide_eq_false (by omega)))) ?_
  refine Qaa (.bool false) 25 rfl kj kj ?_
  refine Qac ?_
  refine hK6 _ _ ?_
  refine cond_false kj ?_
  refine wp_skip ?_
  refine hK5 _ _ ?_
  refine wp_seq_k fun K7 hK7 => ?_
  refine Qab ?_
  refine Qaa (.agg (ints .u8 (key))) 28 rfl kj (Qau 23 _ g4 23 _ _ r4_1 rfl kj kj (isz (n := 32) kj ((Qaf _ _).trans hkl))) ?_
  refine Qaa (.slice a_n nonce.length c_n) 29 rfl kj kj ?_
  refine Qaa (.slice a_t text.length c_t) 30 rfl kj kj ?_
  have r2_1 := (Qad hh e1)
  have r1_1 := (Qad hq e1)
  refine Qaw (fun v W' => (MixR W1.heap.size (fm)) v W' ∧ Ext W1 W') 32 #[.agg (ints .u8 (key)), .slice a_n nonce.length c_n, .int .i64 1, .slice a_t text.length c_t] 31 rfl kj kj ((MixE key nonce (text) (fm) _ _ _ _ th tq _ r2_1 r1_1 hkl (RdK.ext hn x1) (RdK.ext ht x1) h (by omega) em).mono (by rintro e w' ⟨v, rfl, e1, hv⟩; exact ⟨v, rfl, hv, e1⟩)) fun vv8 W2 hh8 => ?_
  obtain ⟨hv8, e2⟩ := hh8
  have x2 : Ext w W2 := Ext.tr x1 e2
  obtain ⟨u31_, rfl, hu31_⟩ := hv8
  obtain ⟨a31_, c31_, rfl, -⟩ := id (OwnN.rd hu31_)
  refine Qaa (.tuple #[.slice a31_ ((fm).length) c31_, .nilIface]) 27 rfl kj kj ?_
  refine Qaa (.slice a31_ ((fm).length) c31_) 32 rfl kj kj ?_
  refine Qaa (.nilIface) 33 rfl kj kj ?_
  refine Qaa (.slice a31_ ((fm).length) c31_) 10 rfl kj kj ?_
  refine Qaa (.nilIface) 11 rfl kj kj ?_
  refine Qac ?_
  refine hK7 _ _ ?_
  refine wp_seq_k fun K9 hK9 => ?_
  refine wp_seq_k fun K10 hK10 => ?_
  refine Qab ?_
  refine Qaa (.nilIface) 34 rfl kj kj ?_
  refine Qaa (.bool false) 35 rfl kj kj ?_
  refine Qac ?_
  refine hK10 _ _ ?_
  refine cond_false kj ?_
  refine wp_skip ?_
  refine hK9 _ _ ?_
  refine wp_seq_k fun K11 hK11 => ?_
  refine Qab ?_
  have r4_2 := (Qad r4_1 e2)
  refine Qaa (.agg (ints .u8 (key))) 38 rfl kj (Qau 23 _ g4 23 _ _ r4_2 rfl kj kj (isz (n := 32) kj ((Qaf _ _).trans hkl))) ?_
  refine Qaa (.slice a_n nonce.length c_n) 39 rfl kj kj ?_
  refine Qaa (.slice a_c ctx.length c_c) 40 rfl kj kj ?_
  refine Qaa (.slice a31_ ((fm).length) c31_) 41 rfl kj kj ?_
  have r2_2 := (Qad r2_1 e2)
  have r1_2 := (Qad r1_1 e2)
  refine Qa6 (.tuple #[.agg (ints .u8 (Qbx key nonce ctx fm)), .nilIface]) 33 #[.agg (ints .u8 (key)), .slice a_n nonce.length c_n, .slice a_c ctx.length c_c, .slice a31_ ((fm).length) c31_] 42 rfl kj kj ((Qgo key nonce ctx fm _ _ _ _ _ _ th tq _ r2_2 r1_2 hkl (RdK.ext hn x2) (RdK.ext hc x2) (OwnN.rd hu31_) h hcb hfb (by omega) (by omega))) fun W3 e3 => ?_
  have x3 : Ext w W3 := Ext.tr x2 e3
  refine Qaa (.tuple #[.agg (ints .u8 (Qbx key nonce ctx fm)), .nilIface]) 37 rfl kj kj ?_
  refine Qaa (.agg (ints .u8 (Qbx key nonce ctx fm))) 43 rfl kj kj ?_
  refine Qaa (.nilIface) 44 rfl kj kj ?_
  refine Qar (ints .u8 (List.replicate 16 0)) 27 12 rfl kj kj fun g12 W4 l12 e4 r12_4 => ?_
  have x4 : Ext w W4 := Ext.tr x3 e4
  have b12 : w.heap.size ≤ g12 := Nat.le_trans x3.size l12
  refine Qal g12 _ (ints .u8 (Qbx key nonce ctx fm)) 27 r12_4 rfl kj (Qap 27 _ _ g12 27 _ _ r12_4 rfl kj kj (isz (n := 16) kj ((Qaf _ _).trans (QaT _ _ _ _))) (eqsz (n := 16) ((Qaf _ _).trans (List.length_replicate (n := 16))) ((Qaf _ _).trans (QaT _ _ _ _))) (QaB _ _)) fun W5 p5 r12_5 => ?_
  have x5 : Ext w W5 := Puts.ext p5 x4 b12
  refine Qaa (.nilIface) 11 rfl kj kj ?_
  refine Qac ?_
  refine hK11 _ _ ?_
  refine wp_seq_k fun K13 hK13 => ?_
  refine wp_seq_k fun K14 hK14 => ?_
  refine Qab ?_
  refine Qaa (.nilIface) 45 rfl kj kj ?_
  refine Qaa (.bool false) 46 rfl kj kj ?_
  refine Qac ?_
  refine hK14 _ _ ?_
  refine cond_false kj ?_
  refine wp_skip ?_
  refine hK13 _ _ ?_
  refine wp_seq_k fun K15 hK15 => ?_
  refine Qab ?_
  refine Qaa (.slice a31_ ((fm).length) c31_) 48 rfl kj kj ?_
  refine Qaa (.slice (some ⟨g12, 0, none⟩) 16 16) 49 rfl kj kj ?_
  have f16_3 := (hu31_.ext e3)
  have f17_4 := (f16_3.ext e4)
  have f18_5 := (f17_4.puts p5 (Qdh f16_3 l12))
  have y1_2 : Ext W1 W2 := (Rely.Ext.trans (Rely.Ext.refl W1) e2)
  have y1_3 : Ext W1 W3 := (Rely.Ext.trans y1_2 e3)
  have y1_4 : Ext W1 W4 := (Rely.Ext.trans y1_3 e4)
  have y1_5 : Ext W1 W5 := (Puts.ext p5 y1_4 (Nat.le_trans y1_3.size l12))
  refine QaE (k := .u8) (T := 5) (xs := fm) (ys := Qbx key nonce ctx fm) (V := W1) 1 (.tmp 48) (.tmp 49) 24 rfl kj kj (by decide) 50 rfl kj kj kj f18_5 (QaP (xs := Qbx key nonce ctx fm) (n := 16) (QaT _ _ _ _) r12_5 (QaA r12_5) (show 16 ≤ maxLen from by decide)) (by rw [QaT]; omega) y1_5 fun zs W6 f19 y6 l6 => ?_
  have x6 : Ext w W6 := Ext.low x5 l6 x1.size
  refine Qaa (zs) 8 rfl kj kj ?_
  refine Qaa (.nilIface) 9 rfl kj kj ?_
  refine Qac ?_
  refine hK15 _ _ ?_
  refine wp_ret ?_
  repeat (first | with_reducible refine goR1 ?_ | with_reducible refine goR2 ?_)
  exact (show bodyPost _ _ _ .ret _ _ from ret2 (zs) (.nilIface) rfl (QaC kj) (QaC kj) ⟨_, rfl, x6, zs, rfl, by unfold Qct; rw [em]; exact OwnN.base x1.size f19⟩)
end Go.Proofs.YtjldjdlhllgakaaDoor.Ae
end
section
namespace Go.Proofs.YtjldjdlhllgakaaDoor.Ae
open Go Go.RowKit
open Rely Auto Own Sha
set_option linter.unusedVariables false
set_option linter.unusedSimpArgs false
open Sha Cha
theorem QcW (n : Nat) (h : 16 ≤ n) (hm : n ≤ maxLen) : IntKind.i64.wrap (((n : Nat) : Int) - 16) = ((n - 16 : Nat) : Int) := by
  rw [show ((n : Nat) : Int) - 16 = ((n - 16 : Nat) : Int) by omega]
  exact IntWalk.i64_in _ (by rw [maxLen] at hm; omega)
set_option maxRecDepth 100000 in
set_option maxHeartbeats 4000000 in
theorem Qkw (key nonce ctx sl : List Int) (v v2 v3 : Value) (B B2 B3 : Nat) (th tq : TypeId) (w : World) (hh : w.heap[0]? = some (.cells (ints .u32 [1634760805, 857760878, 2036477234, 1797285236]) th)) (hq : w.heap[1]? = some (.cells (ints .i64 [0, 4, 8, 12, 1, 5, 9, 13, 2, 6, 10, 14, 3, 7, 11, 15, 0, 5, 10, 15, 1, 6, 11, 12, 2, 7, 8, 13, 3, 4, 9, 14]) tq)) (hkl : key.length = 32) (hn : RdK .u8 B nonce v w) (hc : RdK .u8 B2 ctx v2 w) (ht : RdK .u8 B3 sl v3 w) (hcb : Qaj ctx) (htb : Qaj sl) (h : nonce.length ≠ 12) :
    Calls Tryd.prog 20 #[.agg (ints .u8 key), v, v2, v3] w (Ret w (.tuple #[.slice none 0 0, .iface 45 (.int .i64 1)])) := by
  obtain ⟨a_n, c_n, rfl, -⟩ := id hn
  obtain ⟨a_c, c_c, rfl, -⟩ := id hc
  obtain ⟨a_t, c_t, rfl, -⟩ := id ht
  have ctk : sl.length ≤ c_t := by
    obtain ⟨_, _, e, q2, _⟩ := id ht
    simp only [Value.slice.injEq] at e
    obtain ⟨-, -, rfl⟩ := e
    exact q2
  have htm : sl.length ≤ maxLen := RdK.len ht
  have hlt_ : (sl.take (sl.length - 16)).length = sl.length - 16 := by rw [List.length_take]; omega
  refine enter 64 [(0, .agg (ints .u8 (key))), (1, .slice a_n nonce.length c_n), (2, .slice a_c ctx.length c_c), (3, .slice a_t sl.length c_t)] Tryd.func20 rfl rfl kj rfl ?_
  refine wp_seq_k fun K3 hK3 => ?_
  refine Qab ?_
  refine Qar (ints .u8 (key)) 23 4 rfl kj kj fun g4 W1 l4 e1 r4_1 => ?_
  have x1 : Ext w W1 := Ext.tr (Rely.Ext.refl w) e1
  have b4 : w.heap.size ≤ g4 := Nat.le_trans (Rely.Ext.refl w).size l4
  refine Qaa (.slice none 0 0) 8 rfl kj kj ?_
  refine Qaa (.nilIface) 9 rfl kj kj ?_
  refine Qac ?_
  refine hK3 _ _ ?_
  refine wp_seq_k fun K5 hK5 => ?_
  refine wp_seq_k fun K6 hK6 => ?_
  refine Qab ?_
  refine Qaa (.slice a_n nonce.length c_n) 14 rfl kj kj ?_
  refine Qaa (.int .i64 ((nonce.length : Nat) : Int)) 15 rfl kj kj ?_
  refine Qaa (.bool true) 16 rfl kj (Qah (u := .bool ((((nonce.length : Nat) : Int) != 12))) kj (congrArg Value.bool (bne_iff_ne.2 (by omega)))) ?_
  refine Qaa (.bool true) 17 rfl kj kj ?_
  refine Qas 18 rfl kj ?_
  refine Qas 19 rfl kj ?_
  refine Qas 20 rfl kj ?_
  refine Qaa (.bool true) 21 rfl kj kj ?_
  refine Qaa (.bool true) 22 rfl kj kj ?_
  refine Qas 23 rfl kj ?_
  refine Qas 24 rfl kj ?_
  refine Qas 25 rfl kj ?_
  refine Qaa (.bool true) 26 rfl kj kj ?_
  refine Qac ?_
  refine hK6 _ _ ?_
  refine cond_true kj ?_
  refine wp_seq_k fun K7 hK7 => ?_
  refine Qab ?_
  refine Qaa (.iface 45 (.int .i64 1)) 27 rfl kj kj ?_
  refine Qaa (.slice none 0 0) 8 rfl kj kj ?_
  refine Qaa (.iface 45 (.int .i64 1)) 9 rfl kj kj ?_
  refine Qac ?_
  refine hK7 _ _ ?_
  refine wp_ret ?_
  repeat (first | with_reducible refine goR1 ?_ | with_reducible refine goR2 ?_)
  exact (show bodyPost _ _ _ .ret _ _ from ret2 (.slice none 0 0) (.iface 45 (.int .i64 1)) rfl (QaC kj) (QaC kj) ⟨rfl, x1⟩)
set_option maxRecDepth 100000 in
set_option maxHeartbeats 4000000 in
theorem Qkv (key nonce ctx sl : List Int) (v v2 v3 : Value) (B B2 B3 : Nat) (th tq : TypeId) (w : World) (hh : w.heap[0]? = some (.cells (ints .u32 [1634760805, 857760878, 2036477234, 1797285236]) th)) (hq : w.heap[1]? = some (.cells (ints .i64 [0, 4, 8, 12, 1, 5, 9, 13, 2, 6, 10, 14, 3, 7, 11, 15, 0, 5, 10, 15, 1, 6, 11, 12, 2, 7, 8, 13, 3, 4, 9, 14]) tq)) (hkl : key.length = 32) (hn : RdK .u8 B nonce v w) (hc : RdK .u8 B2 ctx v2 w) (ht : RdK .u8 B3 sl v3 w) (hcb : Qaj ctx) (htb : Qaj sl) (h : nonce.length = 12) (hcl : ctx.length ≤ 1048592) (hxl : sl.length ≤ 1048592) (hsh : sl.length < 16) :
    Calls Tryd.prog 20 #[.agg (ints .u8 key), v, v2, v3] w (Ret w (.tuple #[.slice none 0 0, .iface 45 (.int .i64 2)])) := by
  obtain ⟨a_n, c_n, rfl, -⟩ := id hn
  obtain ⟨a_c, c_c, rfl, -⟩ := id hc
  obtain ⟨a_t, c_t, rfl, -⟩ := id ht
  have ctk : sl.length ≤ c_t := by
    obtain ⟨_, _, e, q2, _⟩ := id ht
    simp only [Value.slice.injEq] at e
    obtain ⟨-, -, rfl⟩ := e
    exact q2
  have htm : sl.length ≤ maxLen := RdK.len ht
  have hlt_ : (sl.take (sl.length - 16)).length = sl.length - 16 := by rw [List.length_take]; omega
  refine enter 64 [(0, .agg (ints .u8 (key))), (1, .slice a_n nonce.length c_n), (2, .slice a_c ctx.length c_c), (3, .slice a_t sl.length c_t)] Tryd.func20 rfl rfl kj rfl ?_
  refine wp_seq_k fun K3 hK3 => ?_
  refine Qab ?_
  refine Qar (ints .u8 (key)) 23 4 rfl kj kj fun g4 W1 l4 e1 r4_1 => ?_
  have x1 : Ext w W1 := Ext.tr (Rely.Ext.refl w) e1
  have b4 : w.heap.size ≤ g4 := Nat.le_trans (Rely.Ext.refl w).size l4
  refine Qaa (.slice none 0 0) 8 rfl kj kj ?_
  refine Qaa (.nilIface) 9 rfl kj kj ?_
  refine Qac ?_
  refine hK3 _ _ ?_
  refine wp_seq_k fun K5 hK5 => ?_
  refine wp_seq_k fun K6 hK6 => ?_
  refine Qab ?_
  refine Qaa (.slice a_n nonce.length c_n) 14 rfl kj kj ?_
  refine Qaa (.int .i64 ((nonce.length : Nat) : Int)) 15 rfl kj kj ?_
  refine Qaa (.bool false) 16 rfl kj (Qah (u := .bool ((((nonce.length : Nat) : Int) != 12))) kj (congrArg Value.bool (by rw [h]; rfl))) ?_
  refine Qaa (.bool false) 17 rfl kj kj ?_
  refine Qaa (.slice a_c ctx.length c_c) 18 rfl kj kj ?_
  refine Qaa (.int .i64 ((ctx.length : Nat) : Int)) 19 rfl kj kj ?_
  refine Qaa (.bool false) 20 rfl kj (Qah (u := .bool (decide (((ctx.length : Nat) : Int) > 1048592))) kj (congrArg Value.bool (decide_eq_false (by omega)))) ?_
  refine Qaa (.bool false) 21 rfl kj kj ?_
  refine Qaa (.bool false) 22 rfl kj kj ?_
  refine Qaa (.slice a_t sl.length c_t) 23 rfl kj kj ?_
  refine Qaa (.int .i64 ((sl.length : Nat) : Int)) 24 rfl kj kj ?_
  refine Qaa (.bool false) 25 rfl kj (Qah (u := .bool (decide (((sl.length : Nat) : Int) > 1048592))) kj (congrArg Value.bool (decide_eq_false (by omega)))) ?_
  refine Qaa (.bool false) 26 rfl kj kj ?_
  refine Qac ?_
  refine hK6 _ _ ?_
  refine cond_false kj ?_
  refine wp_skip ?_
  refine hK5 _ _ ?_
  refine wp_seq_k fun K7 hK7 => ?_
  refine wp_seq_k fun K8 hK8 => ?_
  refine Qab ?_
  refine Qaa (.slice a_t sl.length c_t) 28 rfl kj kj ?_
  refine Qaa (.int .i64 ((sl.length : Nat) : Int)) 29 rfl kj kj ?_
  refine Qaa (.bool true) 30 rfl kj (Qah (u := .bool (decide (((sl.length : Nat) : Int) < 16))) kj (congrArg Value.bool (decide_eq_true (by omega)))) ?_
  refine Qac ?_
  refine hK8 _ _ ?_
  refine cond_true kj ?_
  refine wp_seq_k fun K9 hK9 => ?_
  refine Qab ?_
  refine Qaa (.iface 45 (.int .i64 2)) 31 rfl kj kj ?_
  refine Qaa (.slice none 0 0) 8 rfl kj kj ?_
  refine Qaa (.iface 45 (.int .i64 2)) 9 rfl kj kj ?_
  refine Qac ?_
  refine hK9 _ _ ?_
  refine wp_ret ?_
  repeat (first | with_reducible refine goR1 ?_ | with_reducible refine goR2 ?_)
  exact (show bodyPost _ _ _ .ret _ _ from ret2 (.slice none 0 0) (.iface 45 (.int .i64 2)) rfl (QaC kj) (QaC kj) ⟨rfl, x1⟩)
set_option maxRecDepth 100000 in
set_option maxHeartbeats 4000000 in
theorem Qju (key nonce ctx sl : List Int) (v v2 v3 : Value) (B B2 B3 : Nat) (th tq : TypeId) (w : World) (hh : w.heap[0]? = some (.cells (ints .u32 [1634760805, 857760878, 2036477234, 1797285236]) th)) (hq : w.heap[1]? = some (.cells (ints .i64 [0, 4, 8, 12, 1, 5, 9, 13, 2, 6, 10, 14, 3, 7, 11, 15, 0, 5, 10, 15, 1, 6, 11, 12, 2, 7, 8, 13, 3, 4, 9, 14]) tq)) (hkl : key.length = 32) (hn : RdK .u8 B nonce v w) (hc : RdK .u8 B2 ctx v2 w) (ht : RdK .u8 B3 sl v3 w) (hcb : Qaj ctx) (htb : Qaj sl) (h : nonce.length = 12) (hcl : ctx.length ≤ 1048592) (hxl : sl.length ≤ 1048592) (hsh : 16 ≤ sl.length) (hne : Qbx key nonce ctx (sl.take (sl.length - 16)) ≠ sl.drop (sl.length - 16)) :
    Calls Tryd.prog 20 #[.agg (ints .u8 key), v, v2, v3] w (Ret w (.tuple #[.slice none 0 0, .iface 45 (.int .i64 2)])) := by
  obtain ⟨a_n, c_n, rfl, -⟩ := id hn
  obtain ⟨a_c, c_c, rfl, -⟩ := id hc
  obtain ⟨a_t, c_t, rfl, -⟩ := id ht
  have ctk : sl.length ≤ c_t := by
    obtain ⟨_, _, e, q2, _⟩ := id ht
    simp only [Value.slice.injEq] at e
    obtain ⟨-, -, rfl⟩ := e
    exact q2
  have htm : sl.length ≤ maxLen := RdK.len ht
  have hlt_ : (sl.take (sl.length - 16)).length = sl.length - 16 := by rw [List.length_take]; omega
  refine enter 64 [(0, .agg (ints .u8 (key))), (1, .slice a_n nonce.length c_n), (2, .slice a_c ctx.length c_c), (3, .slice a_t sl.length c_t)] Tryd.func20 rfl rfl kj rfl ?_
  refine wp_seq_k fun K3 hK3 => ?_
  refine Qab ?_
  refine Qar (ints .u8 (key)) 23 4 rfl kj kj fun g4 W1 l4 e1 r4_1 => ?_
  have x1 : Ext w W1 := Ext.tr (Rely.Ext.refl w) e1
  have b4 : w.heap.size ≤ g4 := Nat.le_trans (Rely.Ext.refl w).size l4
  refine Qaa (.slice none 0 0) 8 rfl kj kj ?_
  refine Qaa (.nilIface) 9 rfl kj kj ?_
  refine Qac ?_
  refine hK3 _ _ ?_
  refine wp_seq_k fun K5 hK5 => ?_
  refine wp_seq_k fun K6 hK6 => ?_
  refine Qab ?_
  refine Qaa (.slice a_n nonce.length c_n) 14 rfl kj kj ?_
  refine Qaa (.int .i64 ((nonce.length : Nat) : Int)) 15 rfl kj kj ?_
  refine Qaa (.bool false) 16 rfl kj (Qah (u := .bool ((((nonce.length : Nat) : Int) != 12))) kj (congrArg Value.bool (by rw [h]; rfl))) ?_
  refine Qaa (.bool false) 17 rfl kj kj ?_
  refine Qaa (.slice a_c ctx.length c_c) 18 rfl kj kj ?_
  refine Qaa (.int .i64 ((ctx.length : Nat) : Int)) 19 rfl kj kj ?_
  refine Qaa (.bool false) 20 rfl kj (Qah (u := .bool (decide (((ctx.length : Nat) : Int) > 1048592))) kj (congrArg Value.bool (decide_eq_false (by omega)))) ?_
  refine Qaa (.bool false) 21 rfl kj kj ?_
  refine Qaa (.bool false) 22 rfl kj kj ?_
  refine Qaa (.slice a_t sl.length c_t) 23 rfl kj kj ?_
  refine Qaa (.int .i64 ((sl.length : Nat) : Int)) 24 rfl kj kj ?_
  refine Qaa (.bool false) 25 rfl kj (Qah (u := .bool (decide (((sl.length : Nat) : Int) > 1048592))) kj (congrArg Value.bool (decide_eq_false (by omega)))) ?_
  refine Qaa (.bool false) 26 rfl kj kj ?_
  refine Qac ?_
  refine hK6 _ _ ?_
  refine cond_false kj ?_
  refine wp_skip ?_
  refine hK5 _ _ ?_
  refine wp_seq_k fun K7 hK7 => ?_
  refine wp_seq_k fun K8 hK8 => ?_
  refine Qab ?_
  refine Qaa (.slice a_t sl.length c_t) 28 rfl kj kj ?_
  refine Qaa (.int .i64 ((sl.length : Nat) : Int)) 29 rfl kj kj ?_
  refine Qaa (.bool false) 30 rfl kj (Qah (u := .bool (decide (((sl.length : Nat) : Int) < 16))) kj (congrArg Value.bool (decide_eq_false (by omega)))) ?_
  refine Qac ?_
  refine hK8 _ _ ?_
  refine cond_false kj ?_
  refine wp_skip ?_
  refine hK7 _ _ ?_
  refine wp_seq_k fun K9 hK9 => ?_
  refine QaX 11 [⟨none, [(3, none)]⟩, ⟨none, [(3, none)]⟩, ⟨none, [(33, some 1)]⟩, ⟨none, [(34, some 2)]⟩, ⟨none, [(32, some 0), (35, some 3)]⟩, ⟨none, [(3, none)]⟩, ⟨none, [(3, none)]⟩, ⟨none, [(38, some 6)]⟩, ⟨none, [(39, some 7)]⟩, ⟨none, [(37, some 5), (40, some 8)]⟩, ⟨none, [(36, some 4)]⟩] kj kj fun F hF => ?_
  refine Qa2 (Qam _) (.slice a_t sl.length c_t) kj kj (fun W => by kernel_rfl) ?_
  refine Qa2 (Qam _) (.slice a_t sl.length c_t) kj kj (fun W => by kernel_rfl) ?_
  refine Qa2 (Qam _) (.int .i64 ((sl.length : Nat) : Int)) kj kj (fun W => by kernel_rfl) ?_
  refine Qa2 (Qam _) (.int .i64 (((sl.length - 16 : Nat) : Int))) kj kj (fun W => (Qah (u := .int .i64 (IntKind.i64.wrap (((sl.length : Nat) : Int) - 16))) kj (congrArg (Value.int .i64) (QcW _ hsh htm)))) ?_
  refine Qa2 (Qam _) (.slice a_t (sl.length - 16) c_t) kj kj (fun W => (Qcc (len := sl.length) 24 _ _ (sl.length - 16) 5 rfl kj kj kj .i64 kj (Nat.le_trans (Nat.sub_le _ _) ctk))) ?_
  refine Qa2 (Qam _) (.slice a_t sl.length c_t) kj kj (fun W => by kernel_rfl) ?_
  refine Qa2 (Qam _) (.slice a_t sl.length c_t) kj kj (fun W => by kernel_rfl) ?_
  refine Qa2 (Qam _) (.int .i64 ((sl.length : Nat) : Int)) kj kj (fun W => by kernel_rfl) ?_
  refine Qa2 (Qam _) (.int .i64 (((sl.length - 16 : Nat) : Int))) kj kj (fun W => (Qah (u := .int .i64 (IntKind.i64.wrap (((sl.length : Nat) : Int) - 16))) kj (congrArg (Value.int .i64) (QcW _ hsh htm)))) ?_
  refine Qa2 (Qam _) (.slice (Qcp a_t c_t (sl.length - 16)) (sl.length - (sl.length - 16)) (c_t - (sl.length - 16))) kj kj (fun W => (Qc3 24 _ _ (sl.length - 16) 5 rfl kj kj kj .i64 kj (Nat.sub_le _ _) ctk)) ?_
  refine Qa2 (Qam _) (.slice a_t (sl.length - 16) c_t) kj kj (fun W => by kernel_rfl) ?_
  refine QcG (hF _ fun W2 e2 => ?_)
  simp only [List.nil_append, List.cons_append, List.take_succ_cons, List.take_zero, List.drop_succ_cons, List.drop_zero, finE, up]
  clear hF
  have x2 : Ext w W2 := Ext.tr x1 e2
  refine Qaa (.slice (Qcp a_t c_t (sl.length - 16)) (sl.length - (sl.length - 16)) (c_t - (sl.length - 16))) 11 rfl kj kj ?_
  refine Qac ?_
  refine hK9 _ _ ?_
  refine wp_seq_k fun K10 hK10 => ?_
  refine Qab ?_
  have r4_2 := (Qad r4_1 e2)
  refine Qaa (.agg (ints .u8 (key))) 43 rfl kj (Qau 23 _ g4 23 _ _ r4_2 rfl kj kj (isz (n := 32) kj ((Qaf _ _).trans hkl))) ?_
  refine Qaa (.slice a_n nonce.length c_n) 44 rfl kj kj ?_
  refine Qaa (.slice a_c ctx.length c_c) 45 rfl kj kj ?_
  refine Qaa (.slice a_t (sl.length - 16) c_t) 46 rfl kj kj ?_
  have r2_1 := (Qad hh e1)
  have r2_2 := (Qad r2_1 e2)
  have r1_1 := (Qad hq e1)
  have r1_2 := (Qad r1_1 e2)
  refine Qa6 (.tuple #[.agg (ints .u8 (Qbx key nonce ctx (sl.take (sl.length - 16)))), .nilIface]) 33 #[.agg (ints .u8 (key)), .slice a_n nonce.length c_n, .slice a_c ctx.length c_c, .slice a_t (sl.length - 16) c_t] 47 rfl kj kj ((Qgo key nonce ctx (sl.take (sl.length - 16)) _ _ _ _ _ _ th tq _ r2_2 r1_2 hkl (RdK.ext hn x2) (RdK.ext hc x2) (QbI (RdK.ext ht x2) (sl.length - 16) (Nat.sub_le _ _)) h hcb (Qa3 htb _) (by omega) (by omega))) fun W3 e3 => ?_
  have x3 : Ext w W3 := Ext.tr x2 e3
  refine Qaa (.tuple #[.agg (ints .u8 (Qbx key nonce ctx (sl.take (sl.length - 16)))), .nilIface]) 42 rfl kj kj ?_
  refine Qaa (.agg (ints .u8 (Qbx key nonce ctx (sl.take (sl.length - 16))))) 48 rfl kj kj ?_
  refine Qaa (.nilIface) 49 rfl kj kj ?_
  refine Qar (ints .u8 (List.replicate 16 0)) 27 12 rfl kj kj fun g11 W4 l11 e4 r11_4 => ?_
  have x4 : Ext w W4 := Ext.tr x3 e4
  have b11 : w.heap.size ≤ g11 := Nat.le_trans x3.size l11
  refine Qal g11 _ (ints .u8 (Qbx key nonce ctx (sl.take (sl.length - 16)))) 27 r11_4 rfl kj (Qap 27 _ _ g11 27 _ _ r11_4 rfl kj kj (isz (n := 16) kj ((Qaf _ _).trans (QaT _ _ _ _))) (eqsz (n := 16) ((Qaf _ _).trans (List.length_replicate (n := 16))) ((Qaf _ _).trans (QaT _ _ _ _))) (QaB _ _)) fun W5 p5 r11_5 => ?_
  have x5 : Ext w W5 := Puts.ext p5 x4 b11
  refine Qaa (.nilIface) 13 rfl kj kj ?_
  refine Qac ?_
  refine hK10 _ _ ?_
  refine wp_seq_k fun K12 hK12 => ?_
  refine wp_seq_k fun K13 hK13 => ?_
  refine Qab ?_
  refine Qaa (.nilIface) 50 rfl kj kj ?_
  refine Qaa (.bool false) 51 rfl kj kj ?_
  refine Qac ?_
  refine hK13 _ _ ?_
  refine cond_false kj ?_
  refine wp_skip ?_
  refine hK12 _ _ ?_
  refine wp_seq_k fun K14 hK14 => ?_
  refine wp_seq_k fun K15 hK15 => ?_
  refine Qab ?_
  refine Qaa (.slice (some ⟨g11, 0, none⟩) 16 16) 53 rfl kj kj ?_
  refine Qaa (.slice (Qcp a_t c_t (sl.length - 16)) (sl.length - (sl.length - 16)) (c_t - (sl.length - 16))) 54 rfl kj kj ?_
  refine Qa6 (.bool false) 36 #[.slice (some ⟨g11, 0, none⟩) 16 16, .slice (Qcp a_t c_t (sl.length - 16)) (sl.length - (sl.length - 16)) (c_t - (sl.length - 16))] 55 rfl kj kj ((Qj0 (Qbx key nonce ctx (sl.take (sl.length - 16))) (sl.drop (sl.length - 16)) _ _ W5.heap.size _ W5 hne (QaP (xs := Qbx key nonce ctx (sl.take (sl.length - 16))) (n := 16) (QaT _ _ _ _) r11_5 (QaA r11_5) (show 16 ≤ maxLen from by decide)) (QcM (RdK.ext ht x5) (sl.length - 16) (Nat.sub_le _ _)) (Qca _ _ _ _) (QaN htb _) (by rw [List.length_drop, QaT]; omega) (by rw [QaT]; decide))) fun W6 e6 => ?_
  have x6 : Ext w W6 := Ext.tr x5 e6
  refine Qaa (.bool true) 56 rfl kj kj ?_
  refine Qac ?_
  refine hK15 _ _ ?_
  refine cond_true kj ?_
  refine wp_seq_k fun K16 hK16 => ?_
  refine Qab ?_
  refine Qaa (.iface 45 (.int .i64 2)) 57 rfl kj kj ?_
  refine Qaa (.slice none 0 0) 8 rfl kj kj ?_
  refine Qaa (.iface 45 (.int .i64 2)) 9 rfl kj kj ?_
  refine Qac ?_
  refine hK16 _ _ ?_
  refine wp_ret ?_
  repeat (first | with_reducible refine goR1 ?_ | with_reducible refine goR2 ?_)
  exact (show bodyPost _ _ _ .ret _ _ from ret2 (.slice none 0 0) (.iface 45 (.int .i64 2)) rfl (QaC kj) (QaC kj) ⟨rfl, x6⟩)
set_option maxRecDepth 100000 in
set_option maxHeartbeats 4000000 in
theorem Qjv (key nonce ctx sl : List Int) (v v2 v3 : Value) (B B2 B3 : Nat) (th tq : TypeId) (w : World) (hh : w.heap[0]? = some (.cells (ints .u32 [1634760805, 857760878, 2036477234, 1797285236]) th)) (hq : w.heap[1]? = some (.cells (ints .i64 [0, 4, 8, 12, 1, 5, 9, 13, 2, 6, 10, 14, 3, 7, 11, 15, 0, 5, 10, 15, 1, 6, 11, 12, 2, 7, 8, 13, 3, 4, 9, 14]) tq)) (hkl : key.length = 32) (hn : RdK .u8 B nonce v w) (hc : RdK .u8 B2 ctx v2 w) (ht : RdK .u8 B3 sl v3 w) (hcb : Qaj ctx) (htb : Qaj sl) (h : nonce.length = 12) (hcl : ctx.length ≤ 1048592) (hxl : sl.length ≤ 1048592) (hsh : 16 ≤ sl.length) (hne : Qbx key nonce ctx (sl.take (sl.length - 16)) = sl.drop (sl.length - 16)) :
    Calls Tryd.prog 20 #[.agg (ints .u8 key), v, v2, v3] w (Qcb w (MixR w.heap.size (mixV (QaG key nonce) 1 (sl.take (sl.length - 16))))) := by
  obtain ⟨a_n, c_n, rfl, -⟩ := id hn
  obtain ⟨a_c, c_c, rfl, -⟩ := id hc
  obtain ⟨a_t, c_t, rfl, -⟩ := id ht
  have ctk : sl.length ≤ c_t := by
    obtain ⟨_, _, e, q2, _⟩ := id ht
    simp only [Value.slice.injEq] at e
    obtain ⟨-, -, rfl⟩ := e
    exact q2
  have htm : sl.length ≤ maxLen := RdK.len ht
  have hlt_ : (sl.take (sl.length - 16)).length = sl.length - 16 := by rw [List.length_take]; omega
  obtain ⟨fm, em⟩ : ∃ z : List Int, mixV (QaG key nonce) 1 (sl.take (sl.length - 16)) = z := ⟨_, rfl⟩
  refine enter 64 [(0, .agg (ints .u8 (key))), (1, .slice a_n nonce.length c_n), (2, .slice a_c ctx.length c_c), (3, .slice a_t sl.length c_t)] Tryd.func20 rfl rfl kj rfl ?_
  refine wp_seq_k fun K3 hK3 => ?_
  refine Qab ?_
  refine Qar (ints .u8 (key)) 23 4 rfl kj kj fun g4 W1 l4 e1 r4_1 => ?_
  have x1 : Ext w W1 := Ext.tr (Rely.Ext.refl w) e1
  have b4 : w.heap.size ≤ g4 := Nat.le_trans (Rely.Ext.refl w).size l4
  refine Qaa (.slice none 0 0) 8 rfl kj kj ?_
  refine Qaa (.nilIface) 9 rfl kj kj ?_
  refine Qac ?_
  refine hK3 _ _ ?_
  refine wp_seq_k fun K5 hK5 => ?_
  refine wp_seq_k fun K6 hK6 => ?_
  refine Qab ?_
  refine Qaa (.slice a_n nonce.length c_n) 14 rfl kj kj ?_
  refine Qaa (.int .i64 ((nonce.length : Nat) : Int)) 15 rfl kj kj ?_
  refine Qaa (.bool false) 16 rfl kj (Qah (u := .bool ((((nonce.length : Nat) : Int) != 12))) kj (congrArg Value.bool (by rw [h]; rfl))) ?_
  refine Qaa (.bool false) 17 rfl kj kj ?_
  refine Qaa (.slice a_c ctx.length c_c) 18 rfl kj kj ?_
  refine Qaa (.int .i64 ((ctx.length : Nat) : Int)) 19 rfl kj kj ?_
  refine Qaa (.bool false) 20 rfl kj (Qah (u := .bool (decide (((ctx.length : Nat) : Int) > 1048592))) kj (congrArg Value.bool (decide_eq_false (by omega)))) ?_
  refine Qaa (.bool false) 21 rfl kj kj ?_
  refine Qaa (.bool false) 22 rfl kj kj ?_
  refine Qaa (.slice a_t sl.length c_t) 23 rfl kj kj ?_
  refine Qaa (.int .i64 ((sl.length : Nat) : Int)) 24 rfl kj kj ?_
  refine Qaa (.bool false) 25 rfl kj (Qah (u := .bool (decide (((sl.length : Nat) : Int) > 1048592))) kj (congrArg Value.bool (decide_eq_false (by omega)))) ?_
  refine Qaa (.bool false) 26 rfl kj kj ?_
  refine Qac ?_
  refine hK6 _ _ ?_
  refine cond_false kj ?_
  refine wp_skip ?_
  refine hK5 _ _ ?_
  refine wp_seq_k fun K7 hK7 => ?_
  refine wp_seq_k fun K8 hK8 => ?_
  refine Qab ?_
  refine Qaa (.slice a_t sl.length c_t) 28 rfl kj kj ?_
  refine Qaa (.int .i64 ((sl.length : Nat) : Int)) 29 rfl kj kj ?_
  refine Qaa (.bool false) 30 rfl kj (Qah (u := .bool (decide (((sl.length : Nat) : Int) < 16))) kj (congrArg Value.bool (decide_eq_false (by omega)))) ?_
  refine Qac ?_
  refine hK8 _ _ ?_
  refine cond_false kj ?_
  refine wp_skip ?_
  refine hK7 _ _ ?_
  refine wp_seq_k fun K9 hK9 => ?_
  refine QaX 11 [⟨none, [(3, none)]⟩, ⟨none, [(3, none)]⟩, ⟨none, [(33, some 1)]⟩, ⟨none, [(34, some 2)]⟩, ⟨none, [(32, some 0), (35, some 3)]⟩, ⟨none, [(3, none)]⟩, ⟨none, [(3, none)]⟩, ⟨none, [(38, some 6)]⟩, ⟨none, [(39, some 7)]⟩, ⟨none, [(37, some 5), (40, some 8)]⟩, ⟨none, [(36, some 4)]⟩] kj kj fun F hF => ?_
  refine Qa2 (Qam _) (.slice a_t sl.length c_t) kj kj (fun W => by kernel_rfl) ?_
  refine Qa2 (Qam _) (.slice a_t sl.length c_t) kj kj (fun W => by kernel_rfl) ?_
  refine Qa2 (Qam _) (.int .i64 ((sl.length : Nat) : Int)) kj kj (fun W => by kernel_rfl) ?_
  refine Qa2 (Qam _) (.int .i64 (((sl.length - 16 : Nat) : Int))) kj kj (fun W => (Qah (u := .int .i64 (IntKind.i64.wrap (((sl.length : Nat) : Int) - 16))) kj (congrArg (Value.int .i64) (QcW _ hsh htm)))) ?_
  refine Qa2 (Qam _) (.slice a_t (sl.length - 16) c_t) kj kj (fun W => (Qcc (len := sl.length) 24 _ _ (sl.length - 16) 5 rfl kj kj kj .i64 kj (Nat.le_trans (Nat.sub_le _ _) ctk))) ?_
  refine Qa2 (Qam _) (.slice a_t sl.length c_t) kj kj (fun W => by kernel_rfl) ?_
  refine Qa2 (Qam _) (.slice a_t sl.length c_t) kj kj (fun W => by kernel_rfl) ?_
  refine Qa2 (Qam _) (.int .i64 ((sl.length : Nat) : Int)) kj kj (fun W => by kernel_rfl) ?_
  refine Qa2 (Qam _) (.int .i64 (((sl.length - 16 : Nat) : Int))) kj kj (fun W => (Qah (u := .int .i64 (IntKind.i64.wrap (((sl.length : Nat) : Int) - 16))) kj (congrArg (Value.int .i64) (QcW _ hsh htm)))) ?_
  refine Qa2 (Qam _) (.slice (Qcp a_t c_t (sl.length - 16)) (sl.length - (sl.length - 16)) (c_t - (sl.length - 16))) kj kj (fun W => (Qc3 24 _ _ (sl.length - 16) 5 rfl kj kj kj .i64 kj (Nat.sub_le _ _) ctk)) ?_
  refine Qa2 (Qam _) (.slice a_t (sl.length - 16) c_t) kj kj (fun W => by kernel_rfl) ?_
  refine QcG (hF _ fun W2 e2 => ?_)
  simp only [List.nil_append, List.cons_append, List.take_succ_cons, List.take_zero, List.drop_succ_cons, List.drop_zero, finE, up]
  clear hF
  have x2 : Ext w W2 := Ext.tr x1 e2
  refine Qaa (.slice (Qcp a_t c_t (sl.length - 16)) (sl.length - (sl.length - 16)) (c_t - (sl.length - 16))) 11 rfl kj kj ?_
  refine Qac ?_
  refine hK9 _ _ ?_
  refine wp_seq_k fun K10 hK10 => ?_
  refine Qab ?_
  have r4_2 := (Qad r4_1 e2)
  refine Qaa (.agg (ints .u8 (key))) 43 rfl kj (Qau 23 _ g4 23 _ _ r4_2 rfl kj kj (isz (n := 32) kj ((Qaf _ _).trans hkl))) ?_
  refine Qaa (.slice a_n nonce.length c_n) 44 rfl kj kj ?_
  refine Qaa (.slice a_c ctx.length c_c) 45 rfl kj kj ?_
  refine Qaa (.slice a_t (sl.length - 16) c_t) 46 rfl kj kj ?_
  have r2_1 := (Qad hh e1)
  have r2_2 := (Qad r2_1 e2)
  have r1_1 := (Qad hq e1)
  have r1_2 := (Qad r1_1 e2)
  refine Qa6 (.tuple #[.agg (ints .u8 (Qbx key nonce ctx (sl.take (sl.length - 16)))), .nilIface]) 33 #[.agg (ints .u8 (key)), .slice a_n nonce.length c_n, .slice a_c ctx.length c_c, .slice a_t (sl.length - 16) c_t] 47 rfl kj kj ((Qgo key nonce ctx (sl.take (sl.length - 16)) _ _ _ _ _ _ th tq _ r2_2 r1_2 hkl (RdK.ext hn x2) (RdK.ext hc x2) (QbI (RdK.ext ht x2) (sl.length - 16) (Nat.sub_le _ _)) h hcb (Qa3 htb _) (by omega) (by omega))) fun W3 e3 => ?_
  have x3 : Ext w W3 := Ext.tr x2 e3
  refine Qaa (.tuple #[.agg (ints .u8 (Qbx key nonce ctx (sl.take (sl.length - 16)))), .nilIface]) 42 rfl kj kj ?_
  refine Qaa (.agg (ints .u8 (Qbx key nonce ctx (sl.take (sl.length - 16))))) 48 rfl kj kj ?_
  refine Qaa (.nilIface) 49 rfl kj kj ?_
  refine Qar (ints .u8 (List.replicate 16 0)) 27 12 rfl kj kj fun g11 W4 l11 e4 r11_4 => ?_
  have x4 : Ext w W4 := Ext.tr x3 e4
  have b11 : w.heap.size ≤ g11 := Nat.le_trans x3.size l11
  refine Qal g11 _ (ints .u8 (Qbx key nonce ctx (sl.take (sl.length - 16)))) 27 r11_4 rfl kj (Qap 27 _ _ g11 27 _ _ r11_4 rfl kj kj (isz (n := 16) kj ((Qaf _ _).trans (QaT _ _ _ _))) (eqsz (n := 16) ((Qaf _ _).trans (List.length_replicate (n := 16))) ((Qaf _ _).trans (QaT _ _ _ _))) (QaB _ _)) fun W5 p5 r11_5 => ?_
  have x5 : Ext w W5 := Puts.ext p5 x4 b11
  refine Qaa (.nilIface) 13 rfl kj kj ?_
  refine Qac ?_
  refine hK10 _ _ ?_
  refine wp_seq_k fun K12 hK12 => ?_
  refine wp_seq_k fun K13 hK13 => ?_
  refine Qab ?_
  refine Qaa (.nilIface) 50 rfl kj kj ?_
  refine Qaa (.bool false) 51 rfl kj kj ?_
  refine Qac ?_
  refine hK13 _ _ ?_
  refine cond_false kj ?_
  refine wp_skip ?_
  refine hK12 _ _ ?_
  refine wp_seq_k fun K14 hK14 => ?_
  refine wp_seq_k fun K15 hK15 => ?_
  refine Qab ?_
  refine Qaa (.slice (some ⟨g11, 0, none⟩) 16 16) 53 rfl kj kj ?_
  refine Qaa (.slice (Qcp a_t c_t (sl.length - 16)) (sl.length - (sl.length - 16)) (c_t - (sl.length - 16))) 54 rfl kj kj ?_
  refine Qa6 (.bool true) 36 #[.slice (some ⟨g11, 0, none⟩) 16 16, .slice (Qcp a_t c_t (sl.length - 16)) (sl.length - (sl.length - 16)) (c_t - (sl.length - 16))] 55 rfl kj kj ((Qiv (Qbx key nonce ctx (sl.take (sl.length - 16))) (sl.drop (sl.length - 16)) _ _ W5.heap.size _ W5 hne (QaP (xs := Qbx key nonce ctx (sl.take (sl.length - 16))) (n := 16) (QaT _ _ _ _) r11_5 (QaA r11_5) (show 16 ≤ maxLen from by decide)) (QcM (RdK.ext ht x5) (sl.length - 16) (Nat.sub_le _ _)) (Qca _ _ _ _) (QaN htb _) (by rw [List.length_drop, QaT]; omega) (by rw [QaT]; decide))) fun W6 e6 => ?_
  have x6 : Ext w W6 := Ext.tr x5 e6
  refine Qaa (.bool false) 56 rfl kj kj ?_
  refine Qac ?_
  refine hK15 _ _ ?_
  refine cond_false kj ?_
  refine wp_skip ?_
  refine hK14 _ _ ?_
  refine wp_seq_k fun K16 hK16 => ?_
  refine Qab ?_
  have r4_3 := (Qad r4_2 e3)
  have r4_4 := (Qad r4_3 e4)
  have r4_5 := (Puts.row p5 r4_4 (Qag r4_3 l11))
  have r4_6 := (Qad r4_5 e6)
  refine Qaa (.agg (ints .u8 (key))) 58 rfl kj (Qau 23 _ g4 23 _ _ r4_6 rfl kj kj (isz (n := 32) kj ((Qaf _ _).trans hkl))) ?_
  refine Qaa (.slice a_n nonce.length c_n) 59 rfl kj kj ?_
  refine Qaa (.slice a_t (sl.length - 16) c_t) 60 rfl kj kj ?_
  have r2_3 := (Qad r2_2 e3)
  have r2_4 := (Qad r2_3 e4)
  have r2_5 := (Puts.row p5 r2_4 (Qag r2_3 l11))
  have r2_6 := (Qad r2_5 e6)
  have r1_3 := (Qad r1_2 e3)
  have r1_4 := (Qad r1_3 e4)
  have r1_5 := (Puts.row p5 r1_4 (Qag r1_3 l11))
  have r1_6 := (Qad r1_5 e6)
  refine Qaw (fun v W' => (MixR W6.heap.size (fm)) v W' ∧ Ext W6 W') 32 #[.agg (ints .u8 (key)), .slice a_n nonce.length c_n, .int .i64 1, .slice a_t (sl.length - 16) c_t] 61 rfl kj kj ((MixE key nonce (sl.take (sl.length - 16)) (fm) _ _ _ _ th tq _ r2_6 r1_6 hkl (RdK.ext hn x6) (QbI (RdK.ext ht x6) (sl.length - 16) (Nat.sub_le _ _)) h (by omega) em).mono (by rintro e w' ⟨v, rfl, e1, hv⟩; exact ⟨v, rfl, hv, e1⟩)) fun vv17 W7 hh17 => ?_
  obtain ⟨hv17, e7⟩ := hh17
  have x7 : Ext w W7 := Ext.tr x6 e7
  obtain ⟨u61_, rfl, hu61_⟩ := hv17
  refine Qaa (u61_) 62 rfl kj kj ?_
  refine Qaa (.nilIface) 63 rfl kj kj ?_
  refine Qaa (u61_) 8 rfl kj kj ?_
  refine Qaa (.nilIface) 9 rfl kj kj ?_
  refine Qac ?_
  refine hK16 _ _ ?_
  refine wp_ret ?_
  repeat (first | with_reducible refine goR1 ?_ | with_reducible refine goR2 ?_)
  exact (show bodyPost _ _ _ .ret _ _ from ret2 (u61_) (.nilIface) rfl (QaC kj) (QaC kj) ⟨_, rfl, x7, u61_, rfl, by rw [em]; exact OwnN.base x6.size hu61_⟩)
end Go.Proofs.YtjldjdlhllgakaaDoor.Ae
end
section
namespace Go.Proofs.YtjldjdlhllgakaaDoor.Ae
open Go Go.RowKit
open Rely Auto Own Sha
set_option linter.unusedVariables false
set_option linter.unusedSimpArgs false
open Sha Cha
set_option maxHeartbeats 4000000 in
theorem QjG (n0 n : Nat) (w : World) (hn0 : n0 ≤ w.heap.size) : Calls Tryd.prog 37 #[.int .i64 ((n : Nat) : Int)] w (Qcb w (OwnN .u8 5 n0 (by8 ((n : Nat) : Int)))) :=
  (Qgr n w).mono fun e W' hg => by
    obtain ⟨v', e1, e2, e3⟩ := hg
    exact ⟨v', e1, e2, e3.base hn0⟩
theorem Qkh (n : Nat) (w : World) : Calls Tryd.prog 23 #[.int .i64 ((n : Nat) : Int)] w (Qcb w (OwnN .u8 5 w.heap.size ([0, 0, 0, 0] ++ by8 ((n : Nat) : Int)))) := by
  refine enter 7 [(0, .int .i64 ((n : Nat) : Int))] Tryd.func23 rfl rfl kj rfl ?_
  refine wp_seq_k fun K1 hK1 => ?_
  refine Qab ?_
  refine Qaa (.slice none 0 0) 2 rfl kj kj ?_
  refine Qac ?_
  refine hK1 _ _ ?_
  refine wp_seq_k fun K2 hK2 => ?_
  refine QaX 3 [⟨none, []⟩, ⟨none, [(0, none)]⟩, ⟨none, [(4, some 1)]⟩] kj kj fun F hF => ?_
  refine QgU (Qam _) (ints .u8 ([0, 0, 0, 0])) 5 4 (NewS.stable _ _ _ _) kj kj (fun W => by kernel_rfl) ?_
  refine Qa2 (Qam _) (.int .i64 ((n : Nat) : Int)) kj kj (fun W => by kernel_rfl) ?_
  refine Qdr (Qam _) (OwnN .u8 5 w.heap.size (by8 ((n : Nat) : Int))) (OwnN.stable _ _ _ _) 37 #[.int .i64 ((n : Nat) : Int)] kj kj (fun W => by kernel_rfl) (fun W hR => (QjG w.heap.size n _ (Rely.Ext.trans (Qai _) hR).size)) ?_
  refine QcG (hF _ fun W1 e1 => ?_)
  simp only [List.nil_append, List.cons_append, List.take_succ_cons, List.take_zero, List.drop_succ_cons, List.drop_zero, finE, up]
  intro vv3 hv3 vv4 hv4
  clear hF
  have x1 : Ext w W1 := Ext.tr (Rely.Ext.refl w) e1
  obtain ⟨g3, rfl, l3, r3_1⟩ := hv3
  have b3 : w.heap.size ≤ g3 := Nat.le_trans (Rely.Ext.refl w).size l3
  obtain ⟨a5_, c5_, rfl, -⟩ := id (OwnN.rd hv4)
  have y0_1 : Ext w W1 := (Rely.Ext.trans (Rely.Ext.refl w) e1)
  refine QaE (k := .u8) (T := 5) (xs := [0, 0, 0, 0]) (ys := by8 ((n : Nat) : Int)) (V := w) 1 (.tmp 3) (.tmp 5) 24 rfl kj kj (by decide) 6 rfl kj kj kj (QcO (xs := [0, 0, 0, 0]) rfl l3 r3_1 (by decide)) (OwnN.rd hv4) (by rw [QbN]; decide) y0_1 fun zn W2 f5 y2 l2 => ?_
  have x2 : Ext w W2 := Ext.low x1 l2 (Rely.Ext.refl w).size
  refine Qaa (zn) 2 rfl kj kj ?_
  refine Qac ?_
  refine hK2 _ _ ?_
  refine wp_ret ?_
  repeat (first | with_reducible refine goR1 ?_ | with_reducible refine goR2 ?_)
  exact (show bodyPost _ _ _ .ret _ _ from ret1 (zn) rfl (QaC kj) ⟨zn, rfl, x2, OwnN.base (Nat.le_refl _) f5⟩)
set_option maxHeartbeats 4000000 in
theorem Qk8 (w : World) : Calls Tryd.prog 18 #[.iface 45 (.int .i64 2)] w (Ret w (.int .i64 2)) := by
  refine enter 19 [(0, .iface 45 (.int .i64 2))] Tryd.func18 rfl rfl kj rfl ?_
  refine wp_seq_k fun K1 hK1 => ?_
  refine Qab ?_
  refine Qaa (.int .i64 0) 2 rfl kj kj ?_
  refine Qac ?_
  refine hK1 _ _ ?_
  refine wp_seq_k fun K2 hK2 => ?_
  refine wp_seq_k fun K3 hK3 => ?_
  refine Qab ?_
  refine Qaa (.iface 45 (.int .i64 2)) 5 rfl kj kj ?_
  refine Qaa (.bool false) 6 rfl kj kj ?_
  refine Qac ?_
  refine hK3 _ _ ?_
  refine cond_false kj ?_
  refine wp_skip ?_
  refine hK2 _ _ ?_
  refine wp_seq_k fun K4 hK4 => ?_
  refine Qab ?_
  refine Qaa (.iface 45 (.int .i64 2)) 8 rfl kj kj ?_
  refine Qaa (.tuple #[.int .i64 2, .bool true]) 9 rfl kj kj ?_
  refine Qaa (.tuple #[.int .i64 2, .bool true]) 7 rfl kj kj ?_
  refine Qaa (.int .i64 2) 10 rfl kj kj ?_
  refine Qaa (.bool true) 11 rfl kj kj ?_
  refine Qaa (.int .i64 2) 3 rfl kj kj ?_
  refine Qaa (.bool true) 4 rfl kj kj ?_
  refine Qac ?_
  refine hK4 _ _ ?_
  refine wp_seq_k fun K5 hK5 => ?_
  refine wp_seq_k fun K6 hK6 => ?_
  refine Qab ?_
  refine Qaa (.bool true) 12 rfl kj kj ?_
  refine Qaa (.bool false) 13 rfl kj kj ?_
  refine Qaa (.bool false) 14 rfl kj kj ?_
  refine Qaa (.int .i64 2) 15 rfl kj kj ?_
  refine Qaa (.bool false) 16 rfl kj kj ?_
  refine Qaa (.bool false) 17 rfl kj kj ?_
  refine Qac ?_
  refine hK6 _ _ ?_
  refine cond_false kj ?_
  refine wp_skip ?_
  refine hK5 _ _ ?_
  refine wp_seq_k fun K7 hK7 => ?_
  refine Qab ?_
  refine Qaa (.int .i64 2) 18 rfl kj kj ?_
  refine Qaa (.int .i64 2) 2 rfl kj kj ?_
  refine Qac ?_
  refine hK7 _ _ ?_
  refine wp_ret ?_
  repeat (first | with_reducible refine goR1 ?_ | with_reducible refine goR2 ?_)
  exact (show bodyPost _ _ _ .ret _ _ from ret1 (.int .i64 2) rfl (QaC kj) ⟨rfl, (Rely.Ext.refl w)⟩)
set_option maxHeartbeats 4000000 in
theorem is2 (w : World) : Calls Tryd.prog 22 #[.iface 45 (.int .i64 2), .int .i64 2] w (Ret w (.bool true)) := by
  refine enter 9 [(0, .iface 45 (.int .i64 2)), (1, .int .i64 2)] Tryd.func22 rfl rfl kj rfl ?_
  refine wp_seq_k fun K1 hK1 => ?_
  refine Qab ?_
  refine Qaa (.bool false) 4 rfl kj kj ?_
  refine Qac ?_
  refine hK1 _ _ ?_
  refine wp_seq_k fun K2 hK2 => ?_
  refine Qab ?_
  refine Qaa (.iface 45 (.int .i64 2)) 5 rfl kj kj ?_
  refine Qa6 (.int .i64 2) 18 #[.iface 45 (.int .i64 2)] 6 rfl kj kj ((Qk8) _) fun W1 e1 => ?_
  have x1 : Ext w W1 := Ext.tr (Rely.Ext.refl w) e1
  refine Qaa (.int .i64 2) 7 rfl kj kj ?_
  refine Qaa (.bool true) 8 rfl kj kj ?_
  refine Qaa (.bool true) 4 rfl kj kj ?_
  refine Qac ?_
  refine hK2 _ _ ?_
  refine wp_ret ?_
  repeat (first | with_reducible refine goR1 ?_ | with_reducible refine goR2 ?_)
  exact (show bodyPost _ _ _ .ret _ _ from ret1 (.bool true) rfl (QaC kj) ⟨rfl, x1⟩)
def k1_ : List Int := 1 :: List.replicate 31 0
def k2_ : List Int := 2 :: List.replicate 31 0
def n7_ : List Int := [0, 0, 0, 0] ++ by8 ((7 : Nat) : Int)
theorem QiV : Qbx k2_ n7_ [99] (mixV (QaG k1_ n7_) 1 [116, 101, 120, 116]) ≠ Qbx k1_ n7_ [99] (mixV (QaG k1_ n7_) 1 [116, 101, 120, 116]) := by decide +kernel
theorem Qe9 (key nonce ctx text : List Int) : (Qct key nonce ctx text).take ((Qct key nonce ctx text).length - 16) = mixV (QaG key nonce) 1 text := by
  rw [Qc7]; unfold Qct
  rw [List.take_append_of_le_length (by rw [QbJ]; omega), List.take_of_length_le (by rw [QbJ]; omega)]
theorem QfG (key nonce ctx text : List Int) : (Qct key nonce ctx text).drop ((Qct key nonce ctx text).length - 16) = Qbx key nonce ctx (mixV (QaG key nonce) 1 text) := by
  rw [Qc7]; unfold Qct
  rw [List.drop_append_of_le_length (by rw [QbJ]; omega), List.drop_of_length_le (by rw [QbJ]; omega), List.nil_append]
theorem QhO : n7_.length = 12 := rfl
theorem Qip (key nonce ctx text : List Int) (v v2 v3 : Value) (B B2 B3 : Nat) (th tq : TypeId) (w : World) (hh : w.heap[0]? = some (.cells (ints .u32 [1634760805, 857760878, 2036477234, 1797285236]) th)) (hq : w.heap[1]? = some (.cells (ints .i64 [0, 4, 8, 12, 1, 5, 9, 13, 2, 6, 10, 14, 3, 7, 11, 15, 0, 5, 10, 15, 1, 6, 11, 12, 2, 7, 8, 13, 3, 4, 9, 14]) tq)) (hkl : key.length = 32) (hn : RdK .u8 B nonce v w) (hc : RdK .u8 B2 ctx v2 w) (ht : RdK .u8 B3 (Qct key nonce ctx text) v3 w) (hcb : Qaj ctx) (htb : Qaj text) (h : nonce.length = 12) (hcl : ctx.length ≤ 1048576) (hxl : text.length ≤ 1048576) :
    Calls Tryd.prog 20 #[.agg (ints .u8 key), v, v2, v3] w (Qcb w (MixR w.heap.size text)) := by
  have h1 := Qjv key nonce ctx (Qct key nonce ctx text) v v2 v3 B B2 B3 th tq w hh hq hkl hn hc ht hcb (QeA _ _ _ _) h (by omega) (by rw [Qc7]; omega) (by rw [Qc7]; omega) (by rw [Qe9, QfG])
  rw [Qe9, QjE _ _ _ htb] at h1
  exact h1
theorem QiU (v v2 v3 : Value) (B B2 B3 : Nat) (th tq : TypeId) (w : World) (hh : w.heap[0]? = some (.cells (ints .u32 [1634760805, 857760878, 2036477234, 1797285236]) th)) (hq : w.heap[1]? = some (.cells (ints .i64 [0, 4, 8, 12, 1, 5, 9, 13, 2, 6, 10, 14, 3, 7, 11, 15, 0, 5, 10, 15, 1, 6, 11, 12, 2, 7, 8, 13, 3, 4, 9, 14]) tq)) (hn : RdK .u8 B n7_ v w) (hc : RdK .u8 B2 [99] v2 w) (ht : RdK .u8 B3 (Qct k1_ n7_ [99] [116, 101, 120, 116]) v3 w) :
    Calls Tryd.prog 20 #[.agg (ints .u8 k2_), v, v2, v3] w (Ret w (.tuple #[.slice none 0 0, .iface 45 (.int .i64 2)])) :=
  Qju k2_ n7_ [99] (Qct k1_ n7_ [99] [116, 101, 120, 116]) v v2 v3 B B2 B3 th tq w hh hq rfl hn hc ht (Qbo (by decide) (by decide)) (QeA _ _ _ _) QhO (by decide) (by rw [Qc7]; decide) (by rw [Qc7]; decide) (by rw [Qe9, QfG]; exact QiV)
theorem QeV : Qaj [116, 101, 120, 116] := fun x hx => by
  simp only [List.mem_cons, List.not_mem_nil, or_false] at hx
  rcases hx with rfl | rfl | rfl | rfl <;> exact ⟨by decide, by decide⟩
set_option maxRecDepth 100000 in
set_option maxHeartbeats 4000000 in
theorem Qg5 (th tq : TypeId) (w : World) (hh : w.heap[0]? = some (.cells (ints .u32 [1634760805, 857760878, 2036477234, 1797285236]) th)) (hq : w.heap[1]? = some (.cells (ints .i64 [0, 4, 8, 12, 1, 5, 9, 13, 2, 6, 10, 14, 3, 7, 11, 15, 0, 5, 10, 15, 1, 6, 11, 12, 2, 7, 8, 13, 3, 4, 9, 14]) tq)) : Calls Tryd.prog 9 #[] w (Ret w (.bool true)) := by
  refine enter 54 [] Tryd.func9 rfl rfl kj rfl ?_
  refine wp_seq_k fun K3 hK3 => ?_
  refine Qab ?_
  refine Qaa (.bool false) 0 rfl kj kj ?_
  refine Qac ?_
  refine hK3 _ _ ?_
  refine wp_seq_k fun K4 hK4 => ?_
  refine Qab ?_
  refine Qaw (fun v W' => (OwnN .u8 5 w.heap.size n7_) v W' ∧ Ext w W') 23 #[.int .i64 7] 7 rfl kj kj ((Qkh 7 _).mono (by rintro e w' ⟨v, rfl, e1, hv⟩; exact ⟨v, rfl, hv, e1⟩)) fun vv5 W1 hh5 => ?_
  obtain ⟨hv5, e1⟩ := hh5
  have x1 : Ext w W1 := Ext.tr (Rely.Ext.refl w) e1
  obtain ⟨a7_, c7_, rfl, -⟩ := id (OwnN.rd hv5)
  refine Qaa (.slice a7_ ((n7_).length) c7_) 1 rfl kj kj ?_
  refine Qac ?_
  refine hK4 _ _ ?_
  refine wp_seq_k fun K6 hK6 => ?_
  refine Qab ?_
  refine Qaa (.agg (ints .u8 (k1_))) 9 rfl kj kj ?_
  refine Qaa (.slice a7_ ((n7_).length) c7_) 10 rfl kj kj ?_
  refine QaD (ints .u8 ([99])) 5 1 11 rfl kj kj fun g7 W2 l7 e2 r7_2 => ?_
  have x2 : Ext w W2 := Ext.tr x1 e2
  have b7 : w.heap.size ≤ g7 := Nat.le_trans x1.size l7
  refine Qdn (xs := [99]) 24 5 (.tmp 11) 12 rfl rfl kj kj kj kj rfl (show 1 ≤ maxLen by decide) r7_2 fun W3 p3 r7_3 rd8 => ?_
  have x3 : Ext w W3 := Puts.ext p3 x2 b7
  refine QaD (ints .u8 ([116, 101, 120, 116])) 5 4 13 rfl kj kj fun g9 W4 l9 e4 r9_4 => ?_
  have x4 : Ext w W4 := Ext.tr x3 e4
  have b9 : w.heap.size ≤ g9 := Nat.le_trans x3.size l9
  refine Qdn (xs := [116, 101, 120, 116]) 24 5 (.tmp 13) 14 rfl rfl kj kj kj kj rfl (show 4 ≤ maxLen by decide) r9_4 fun W5 p5 r9_5 rd10 => ?_
  have x5 : Ext w W5 := Puts.ext p5 x4 b9
  have r2_1 := (Qad hh e1)
  have r2_2 := (Qad r2_1 e2)
  have r2_3 := (Puts.row p3 r2_2 (Qag r2_1 l7))
  have r2_4 := (Qad r2_3 e4)
  have r2_5 := (Puts.row p5 r2_4 (Qag r2_3 l9))
  have r1_1 := (Qad hq e1)
  have r1_2 := (Qad r1_1 e2)
  have r1_3 := (Puts.row p3 r1_2 (Qag r1_1 l7))
  have r1_4 := (Qad r1_3 e4)
  have r1_5 := (Puts.row p5 r1_4 (Qag r1_3 l9))
  have f11_2 := (hv5.ext e2)
  have f12_3 := (f11_2.puts p3 (Qdh hv5 l7))
  have f13_4 := (f12_3.ext e4)
  have f14_5 := (f13_4.puts p5 (Qdh f12_3 l9))
  have f15_4 := (rd8.ext e4)
  have f16_5 := (RdK.putsP f15_4 p5 (.inr (fun e => (Qag r7_3 l9) (Option.some.inj e))))
  refine Qaw (fun v W' => (MixR W5.heap.size (Qct k1_ n7_ [99] [116, 101, 120, 116])) v W' ∧ Ext W5 W') 15 #[.agg (ints .u8 (k1_)), .slice a7_ ((n7_).length) c7_, .slice (some ⟨g7, 0, none⟩) 1 1, .slice (some ⟨g9, 0, none⟩) 4 4] 15 rfl kj kj ((Qku k1_ n7_ [99] [116, 101, 120, 116] _ _ _ _ _ _ th tq _ r2_5 r1_5 rfl (OwnN.rd f14_5) f16_5 rd10 (Qbo (by decide) (by decide)) QhO (by decide) (by decide)).mono (by rintro e w' ⟨v, rfl, e1, hv⟩; exact ⟨v, rfl, hv, e1⟩)) fun vv17 W6 hh17 => ?_
  obtain ⟨hv17, e6⟩ := hh17
  have x6 : Ext w W6 := Ext.tr x5 e6
  obtain ⟨u15_, rfl, hu15_⟩ := hv17
  obtain ⟨a15_, c15_, rfl, -⟩ := id (OwnN.rd hu15_)
  refine Qaa (.tuple #[.slice a15_ ((Qct k1_ n7_ [99] [116, 101, 120, 116]).length) c15_, .nilIface]) 8 rfl kj kj ?_
  refine Qaa (.slice a15_ ((Qct k1_ n7_ [99] [116, 101, 120, 116]).length) c15_) 16 rfl kj kj ?_
  refine Qaa (.nilIface) 17 rfl kj kj ?_
  refine Qaa (.slice a15_ ((Qct k1_ n7_ [99] [116, 101, 120, 116]).length) c15_) 2 rfl kj kj ?_
  refine Qaa (.nilIface) 3 rfl kj kj ?_
  refine Qac ?_
  refine hK6 _ _ ?_
  refine wp_seq_k fun K18 hK18 => ?_
  refine wp_seq_k fun K19 hK19 => ?_
  refine Qab ?_
  refine Qaa (.nilIface) 18 rfl kj kj ?_
  refine Qaa (.bool false) 19 rfl kj kj ?_
  refine Qaa (.bool false) 20 rfl kj kj ?_
  refine Qaa (.slice a15_ ((Qct k1_ n7_ [99] [116, 101, 120, 116]).length) c15_) 21 rfl kj kj ?_
  refine Qaa (.int .i64 (((Qct k1_ n7_ [99] [116, 101, 120, 116]).length : Nat) : Int)) 22 rfl kj kj ?_
  refine Qaa (.bool false) 23 rfl kj (Qah (u := .bool (((((Qct k1_ n7_ [99] [116, 101, 120, 116]).length : Nat) : Int) != 20))) kj (congrArg Value.bool (by rw [Qc7]; rfl))) ?_
  refine Qaa (.bool false) 24 rfl kj kj ?_
  refine Qac ?_
  refine hK19 _ _ ?_
  refine cond_false kj ?_
  refine wp_skip ?_
  refine hK18 _ _ ?_
  refine wp_seq_k fun K20 hK20 => ?_
  refine Qab ?_
  refine Qaa (.agg (ints .u8 (k1_))) 26 rfl kj kj ?_
  refine Qaa (.slice a7_ ((n7_).length) c7_) 27 rfl kj kj ?_
  refine QaD (ints .u8 ([99])) 5 1 28 rfl kj kj fun g21 W7 l21 e7 r21_7 => ?_
  have x7 : Ext w W7 := Ext.tr x6 e7
  have b21 : w.heap.size ≤ g21 := Nat.le_trans x6.size l21
  refine Qdn (xs := [99]) 24 5 (.tmp 28) 29 rfl rfl kj kj kj kj rfl (show 1 ≤ maxLen by decide) r21_7 fun W8 p8 r21_8 rd22 => ?_
  have x8 : Ext w W8 := Puts.ext p8 x7 b21
  refine Qaa (.slice a15_ ((Qct k1_ n7_ [99] [116, 101, 120, 116]).length) c15_) 30 rfl kj kj ?_
  have r2_6 := (Qad r2_5 e6)
  have r2_7 := (Qad r2_6 e7)
  have r2_8 := (Puts.row p8 r2_7 (Qag r2_6 l21))
  have r1_6 := (Qad r1_5 e6)
  have r1_7 := (Qad r1_6 e7)
  have r1_8 := (Puts.row p8 r1_7 (Qag r1_6 l21))
  have f23_6 := (f14_5.ext e6)
  have f24_7 := (f23_6.ext e7)
  have f25_8 := (f24_7.puts p8 (Qdh f23_6 l21))
  have f26_7 := (hu15_.ext e7)
  have f27_8 := (f26_7.puts p8 (Qdh hu15_ l21))
  refine Qaw (fun v W' => (MixR W8.heap.size [116, 101, 120, 116]) v W' ∧ Ext W8 W') 20 #[.agg (ints .u8 (k1_)), .slice a7_ ((n7_).length) c7_, .slice (some ⟨g21, 0, none⟩) 1 1, .slice a15_ ((Qct k1_ n7_ [99] [116, 101, 120, 116]).length) c15_] 31 rfl kj kj ((Qip k1_ n7_ [99] [116, 101, 120, 116] _ _ _ _ _ _ th tq _ r2_8 r1_8 rfl (OwnN.rd f25_8) rd22 (OwnN.rd f27_8) (Qbo (by decide) (by decide)) QeV QhO (by decide) (by decide)).mono (by rintro e w' ⟨v, rfl, e1, hv⟩; exact ⟨v, rfl, hv, e1⟩)) fun vv28 W9 hh28 => ?_
  obtain ⟨hv28, e9⟩ := hh28
  have x9 : Ext w W9 := Ext.tr x8 e9
  obtain ⟨u31_, rfl, hu31_⟩ := hv28
  obtain ⟨a31_, c31_, rfl, -⟩ := id (OwnN.rd hu31_)
  refine Qaa (.tuple #[.slice a31_ (([116, 101, 120, 116]).length) c31_, .nilIface]) 25 rfl kj kj ?_
  refine Qaa (.slice a31_ (([116, 101, 120, 116]).length) c31_) 32 rfl kj kj ?_
  refine Qaa (.nilIface) 33 rfl kj kj ?_
  refine Qaa (.slice a31_ (([116, 101, 120, 116]).length) c31_) 4 rfl kj kj ?_
  refine Qaa (.nilIface) 3 rfl kj kj ?_
  refine Qac ?_
  refine hK20 _ _ ?_
  refine wp_seq_k fun K29 hK29 => ?_
  refine Qab ?_
  refine Qaa (.agg (ints .u8 (k2_))) 35 rfl kj kj ?_
  refine Qaa (.slice a7_ ((n7_).length) c7_) 36 rfl kj kj ?_
  refine QaD (ints .u8 ([99])) 5 1 37 rfl kj kj fun g30 W10 l30 e10 r30_10 => ?_
  have x10 : Ext w W10 := Ext.tr x9 e10
  have b30 : w.heap.size ≤ g30 := Nat.le_trans x9.size l30
  refine Qdn (xs := [99]) 24 5 (.tmp 37) 38 rfl rfl kj kj kj kj rfl (show 1 ≤ maxLen by decide) r30_10 fun W11 p11 r30_11 rd31 => ?_
  have x11 : Ext w W11 := Puts.ext p11 x10 b30
  refine Qaa (.slice a15_ ((Qct k1_ n7_ [99] [116, 101, 120, 116]).length) c15_) 39 rfl kj kj ?_
  have r2_9 := (Qad r2_8 e9)
  have r2_10 := (Qad r2_9 e10)
  have r2_11 := (Puts.row p11 r2_10 (Qag r2_9 l30))
  have r1_9 := (Qad r1_8 e9)
  have r1_10 := (Qad r1_9 e10)
  have r1_11 := (Puts.row p11 r1_10 (Qag r1_9 l30))
  have f32_9 := (f25_8.ext e9)
  have f33_10 := (f32_9.ext e10)
  have f34_11 := (f33_10.puts p11 (Qdh f32_9 l30))
  have f35_9 := (f27_8.ext e9)
  have f36_10 := (f35_9.ext e10)
  have f37_11 := (f36_10.puts p11 (Qdh f35_9 l30))
  refine Qa6 (.tuple #[.slice none 0 0, .iface 45 (.int .i64 2)]) 20 #[.agg (ints .u8 (k2_)), .slice a7_ ((n7_).length) c7_, .slice (some ⟨g30, 0, none⟩) 1 1, .slice a15_ ((Qct k1_ n7_ [99] [116, 101, 120, 116]).length) c15_] 40 rfl kj kj ((QiU _ _ _ _ _ _ th tq _ r2_11 r1_11 (OwnN.rd f34_11) rd31 (OwnN.rd f37_11))) fun W12 e12 => ?_
  have x12 : Ext w W12 := Ext.tr x11 e12
  refine Qaa (.tuple #[.slice none 0 0, .iface 45 (.int .i64 2)]) 34 rfl kj kj ?_
  refine Qaa (.slice none 0 0) 41 rfl kj kj ?_
  refine Qaa (.iface 45 (.int .i64 2)) 42 rfl kj kj ?_
  refine Qaa (.slice none 0 0) 5 rfl kj kj ?_
  refine Qaa (.iface 45 (.int .i64 2)) 6 rfl kj kj ?_
  refine Qac ?_
  refine hK29 _ _ ?_
  refine wp_seq_k fun K38 hK38 => ?_
  refine Qab ?_
  refine Qaa (.nilIface) 43 rfl kj kj ?_
  refine Qaa (.bool true) 44 rfl kj kj ?_
  refine Qaa (.bool true) 45 rfl kj kj ?_
  refine Qaa (.slice a31_ (([116, 101, 120, 116]).length) c31_) 46 rfl kj kj ?_
  have f39_10 := (hu31_.ext e10)
  have f40_11 := (f39_10.puts p11 (Qdh hu31_ l30))
  have f41_12 := (f40_11.ext e12)
  refine Qaa (.string (Qcl [116, 101, 120, 116])) 47 rfl kj (Qch _ _ rfl kj [116, 101, 120, 116] (RdK.bytes (OwnN.rd f41_12) QeV)) ?_
  refine Qaa (.bool true) 48 rfl kj (Qah (u := .bool ((Qcl [116, 101, 120, 116]).toList == (⟨#[116, 101, 120, 116]⟩ : ByteArray).toList)) kj (congrArg Value.bool (by decide +kernel))) ?_
  refine Qaa (.bool true) 49 rfl kj kj ?_
  refine Qaa (.bool true) 50 rfl kj kj ?_
  refine Qaa (.iface 45 (.int .i64 2)) 51 rfl kj kj ?_
  refine Qa6 (.bool true) 22 #[.iface 45 (.int .i64 2), .int .i64 2] 52 rfl kj kj ((is2) _) fun W13 e13 => ?_
  have x13 : Ext w W13 := Ext.tr x12 e13
  refine Qaa (.bool true) 53 rfl kj kj ?_
  refine Qaa (.bool true) 0 rfl kj kj ?_
  refine Qac ?_
  refine hK38 _ _ ?_
  refine wp_ret ?_
  repeat (first | with_reducible refine goR1 ?_ | with_reducible refine goR2 ?_)
  exact (show bodyPost _ _ _ .ret _ _ from ret1 (.bool true) rfl (QaC kj) ⟨rfl, x13⟩)
end Go.Proofs.YtjldjdlhllgakaaDoor.Ae
end
section
namespace Go.Proofs.YtjldjdlhllgakaaDoor.Ae
open Go Go.RowKit
open Rely Auto Own Sha
set_option linter.unusedVariables false
set_option linter.unusedSimpArgs false
open Sha Cha
structure Once (base n : Nat) (ys : List Int) (W W' : World) : Prop where
  os : W'.os = W.os
  tape : W'.tape = W.tape
  output : W'.output = W.output
  size : W.heap.size ≤ W'.heap.size
  block : ∀ g, g < W.heap.size → W'.heap[g]? = W.heap[g]? ∨ (base ≤ g ∧ ∃ cs cs' T, W.heap[g]? = some (.cells cs T) ∧ W'.heap[g]? = some (.cells cs' T) ∧ cs'.size = cs.size ∧ ∀ i, cs'[i]? = cs[i]? ∨ (n ≤ i ∧ cs'[i]? = some (.int .u8 (nth ys (i - n)))))
theorem Once.refl (base n : Nat) (ys : List Int) (W : World) : Once base n ys W W := ⟨rfl, rfl, rfl, Nat.le_refl _, fun _ _ => .inl rfl⟩
theorem Once.trans {base n : Nat} {ys : List Int} {a b c : World} (h : Once base n ys a b) (k : Once base n ys b c) : Once base n ys a c := by
  refine ⟨k.os.trans h.os, k.tape.trans h.tape, k.output.trans h.output, Nat.le_trans h.size k.size, fun g hg => ?_⟩
  rcases k.block g (Nat.lt_of_lt_of_le hg h.size) with h2 | ⟨hb, cs, cs', T, r1, r2, r3, r4⟩
  · rw [h2]; exact h.block g hg
  · rcases h.block g hg with h1 | ⟨_, ds, ds', T', s1, s2, s3, s4⟩
    · exact .inr ⟨hb, cs, cs', T, h1 ▸ r1, r2, r3, r4⟩
    · rw [s2] at r1
      simp only [Option.some.injEq, Obj.cells.injEq] at r1
      obtain ⟨rfl, rfl, -⟩ := r1
      refine .inr ⟨hb, ds, cs', T', s1, r2, r3.trans s3, fun i => ?_⟩
      rcases r4 i with r | ⟨r, r'⟩
      · rw [r]; exact s4 i
      · exact .inr ⟨r, r'⟩
theorem Once.ext {base n : Nat} {ys : List Int} {a b : World} (e : Ext a b) : Once base n ys a b := ⟨e.os, e.tape, e.output, e.size, fun g hg => .inl (e.block g hg)⟩
theorem Once.low {n : Nat} {ys : List Int} {w0 W : World} (h : Once w0.heap.size n ys w0 W) : Ext w0 W :=
  ⟨h.os, h.tape, h.output, h.size, fun g hg => by
    rcases h.block g hg with h | ⟨hb, _⟩
    · exact h
    · omega⟩
theorem Qhd {cs : Array Value} {xs : List Int} {k : IntKind} (h : ∀ i, i < xs.length → cs[i]? = some (.int k (nth xs i))) : cs.toList.take xs.length = xs.map (Value.int k) := by
  apply List.ext_getElem?
  intro i
  rw [List.getElem?_take]
  by_cases hi : i < xs.length
  · rw [if_pos hi, Array.getElem?_toList, h i hi, List.getElem?_map, List.getElem?_eq_getElem hi]
    simp [nth, hi]
  · rw [if_neg hi, List.getElem?_map, List.getElem?_eq_none (by omega)]; rfl
theorem Qi5 {base n : Nat} {ys xs : List Int} {T : TypeId} (hx : ∀ i, i < xs.length → n ≤ i → nth xs i = nth ys (i - n)) : QbA (Once base n ys) (OwnN .u8 T base xs) := fun v W W' hR h => by
  rcases Nat.eq_zero_or_pos xs.length with h0 | h0
  · obtain ⟨⟨h1, h2⟩, hm⟩ := h
    refine ⟨⟨h1, ?_⟩, hm⟩
    rcases h2 with h2 | ⟨g, c, cur, rfl, q2, q3, q4, q5, q6, q7⟩
    · exact .inl h2
    · rcases hR.block g (QaA q3) with h | ⟨hb, cs, cs', T', r1, r2, r3, r4⟩
      · exact .inr ⟨g, c, cur, rfl, q2, h.trans q3, q4, q5, q6, q7⟩
      · rw [q3] at r1
        simp only [Option.some.injEq, Obj.cells.injEq] at r1
        obtain ⟨rfl, rfl, -⟩ := r1
        refine .inr ⟨g, c, cs', rfl, q2, r2, q4, q5, r3.trans q6, ?_⟩
        obtain rfl := List.length_eq_zero_iff.1 h0
        rfl
  · obtain ⟨g, c, cur, rfl, q2, q3, q4, q5, q6, q7⟩ := QdG h h0
    rcases hR.block g (QaA q3) with h2 | ⟨hb, cs, cs', T', r1, r2, r3, r4⟩
    · exact h.keep fun g' hg => by
        obtain rfl : g = g' := Option.some.inj hg
        exact h2
    · rw [q3] at r1
      simp only [Option.some.injEq, Obj.cells.injEq] at r1
      obtain ⟨rfl, rfl, -⟩ := r1
      refine Qgm rfl q2 r2 (r3.trans q4) q5 q6 (Qhd fun i hi => ?_)
      rcases r4 i with r | ⟨r, r'⟩
      · rw [r]; exact QeG q7 hi
      · rw [r', hx i hi r]
theorem QiS {P : Program} {T : TypeId} {b : Nat} {ρ : Operand → Value} {o : Oper} {W : World} (s x : Operand) (t : TypeId) (ho : o.op = .call { callee := .builtin .append, args := #[s, x], argTypes := #[t, t] })
    (ht : P.underlying t = some (.slice T)) (hi : (P.info? T).map (fun i => (i.zero, i.size, i.bytes)) = some (some (.int .u8 0), 1, b)) (hb8 : b ≤ 8) {base B n : Nat} {v y : Value} {xs ys Y : List Int} (hs : ρ s = v) (hx : ρ x = y)
    (h : OwnN .u8 T base xs v W) (hy : RdK .u8 B ys y W) (hn : xs.length + ys.length ≤ 1000000000) (hbase : base ≤ W.heap.size) (hY : (∃ g, v = .slice (some ⟨g, 0, none⟩) 0 0) ∨ (xs.length = n ∧ ys = Y)) :
    ∃ v' W', (execOp ρ o).run P W = .ok (.value v') W' ∧ Once base n Y W W' ∧ OwnN .u8 T base (xs ++ ys) v' W' := by
  obtain ⟨i, hq, hi1, hi2, hi3⟩ := QjH hi
  obtain ⟨v2, W2, r2, o2, g2, -⟩ := Qf0 (ρ := ρ) (o := o) (W := W) s x t ho ht hi hb8 hs hx h hy hn hbase
  refine ⟨v2, W2, r2, ?_, o2⟩
  rcases h.1.2 with ⟨h0, h0'⟩ | ⟨g, c, cur, rfl, q2, q3, q4, q5, q6, q7⟩
  · exact ⟨g2.os, g2.tape, g2.output, g2.size, fun k hk => .inl (g2.block k hk (by rw [h0]; intro e; cases e))⟩
  · have hc0 : (∃ g', (Value.slice (some ⟨g, 0, none⟩) xs.length c) = .slice (some ⟨g', 0, none⟩) 0 0) → c = 0 := fun ⟨g', e'⟩ => by
      simp only [Value.slice.injEq] at e'
      exact e'.2.2
    obtain ⟨a, cap, rfl, y2, y3, y4, y5⟩ := hy
    have hgo : ∀ (v' : Value) (W' : World), (Builtin.append_ #[t, t] o.type #[.slice (some ⟨g, 0, none⟩) xs.length c, .slice a ys.length cap]).run P W = .ok v' W' → (execOp ρ o).run P W = .ok (.value v') W' := fun v' W' hr => by
      unfold execOp
      simp only [ho, resolve, invoke, builtin, Sem.run_bind, Sem.run_pure, Result.andThen_ok, List.map_toArray, List.map_cons, List.map_nil, hs, hx, hr]
    have same : ∀ (v' : Value) (W' : World), (execOp ρ o).run P W = .ok (.value v') W' → W2 = W' := fun v' W' hr => by
      rw [r2] at hr
      injection hr
    refine ⟨g2.os, g2.tape, g2.output, g2.size, fun k hk => ?_⟩
    by_cases hkg : k = g
    · subst hkg
      cases a with
      | none =>
        have hc0 := y4 rfl
        have hy0 : ys = [] := List.length_eq_zero_iff.1 (by omega)
        subst hy0
        subst hc0
        exact .inl (by rw [same _ _ (hgo _ _ (run_append_owned_none (P := P) W base t o.type T i 1 ht hq _ xs.length _ h.1))])
      | some a =>
        have hnews : ∀ j u, (ys.map (Value.int .u8))[j]? = some u → W.cell? (a.add j) = some u := by
          rcases y5 with rfl | ⟨g', o', e1, e2, e3, e4⟩
          · intro j u hu; simp at hu
          · obtain rfl := Option.some.inj e1
            exact Qi6 e4
        by_cases hroom : xs.length + ys.length ≤ c
        · have hr := run_append_room (P := P) W t o.type T i ht hq k xs.length c cur q3 a ys.length cap (ys.map (Value.int .u8)) (by simp [hi2]) hnews (Qi4 _ ys) hroom (by rw [hi2]; simp; omega)
          have hW := same _ _ (hgo _ _ hr)
          rw [hW]
          refine .inr ⟨q2, _, _, _, q3, setRow_heap W k cur _ T _ q3, ?_, fun j => ?_⟩
          · simp only [List.size_toArray, List.length_append, List.length_take, List.length_drop, List.length_map, Array.length_toList, hi2]; omega
          · simp only [List.getElem?_toArray, hi2, Nat.mul_one]
            have hl1 : (List.take xs.length cur.toList).length = xs.length := by
              have e : cur.toList.length = cur.size := Array.length_toList
              rw [List.length_take, e]; omega
            rw [List.append_assoc]
            rcases Nat.lt_or_ge j xs.length with hj | hj
            · left
              rw [List.getElem?_append_left (by omega), List.getElem?_take, if_pos hj, Array.getElem?_toList]
            · rw [List.getElem?_append_right (by omega), hl1]
              rcases Nat.lt_or_ge (j - xs.length) ys.length with hj2 | hj2
              · right
                rcases hY with hY | ⟨rfl, rfl⟩
                · have := hc0 hY; omega
                · refine ⟨hj, ?_⟩
                  rw [List.getElem?_append_left (by rw [List.length_map]; exact hj2), List.getElem?_map, List.getElem?_eq_getElem hj2]
                  simp [nth, hj2]
              · left
                rw [List.getElem?_append_right (by rw [List.length_map]; exact hj2), List.length_map, List.getElem?_drop, Array.getElem?_toList]
                congr 1; omega
        · have holds := h.1.cells (g := k) rfl
          have hr := run_append_grow (P := P) W t o.type T i (.int .u8 0) ht hq hi1 ⟨k, 0, none⟩ xs.length c (xs.map (Value.int .u8)) (by simp [hi2]) (by simpa using holds) a ys.length cap (ys.map (Value.int .u8)) (by simp [hi2]) hnews (by omega) (by omega) (growslice_fits (by omega) (by
            rw [hi3]
            have : (xs.length + ys.length) * b ≤ 1000000000 * 8 := Nat.mul_le_mul hn hb8
            omega))
          have hW := same _ _ (hgo _ _ hr)
          rw [hW]
          exact .inl (heap_alloc_old W.drew _ hk)
    · exact .inl (g2.block k hk (fun e => hkg (Option.some.inj e)))
theorem Qg3 {P : Program} {ds : List Deferred} {id : Nat} {Q : Exit → Act → World → Prop} {N : Nat} {L : Env} {w : World} {l : List Oper} (R : World → World → Prop) (hrf : ∀ W, R W W) (htr : ∀ {a b c : World}, R a b → R b c → R a c) (n : Nat) (S : List Src) (hm : P.follows .mixedOrders = true) (hok : ok l n N S = true)
    (h : ∀ F : List KE → Prop, (∀ C, (∀ W, R w.drew W → finE (fun L W => WL P l.toArray Q (l.drop n) (Qa0 ds N L) W) (l.take n) C L W) → F C) → Qbt P R w.drew N L F (l.take n) S []) :
    (Code.region id l.toArray true).wp P Q (Qa0 ds N L) w := by
  refine QcP R n N S hm hok (Qc2 N L) hrf (fun a b => htr a b) fun F r0 hr hF => ?_
  rw [QbB] at hr
  subst hr
  have := h (fun C => ∀ W, R w.drew W → finE (fun L W => WL P l.toArray Q (l.drop n) (Qa0 ds N L) W) (l.take n) C L W) (fun C h => h)
  exact Qcg (G := F) (fun C h => hF.out fun W hR => Qie (Q := fun a W => wpList P l.toArray Q (l.drop n) a W) _ _ _ (Qdp (fun L W h => h.out) _ _ _ _ (h W hR))) _ _ [] this
theorem Once.below {base n : Nat} {ys : List Int} {W W' : World} (h : Once base n ys W W') (hb : base ≤ W.heap.size) : Below base W W' :=
  ⟨h.os, h.tape, h.output, h.size, fun g hg => by
    rcases h.block g (by omega) with h | ⟨hb, _⟩
    · exact h
    · omega⟩
theorem Once.rd {base n B : Nat} {k : IntKind} {ys zs : List Int} {v : Value} {W W' : World} (h : Once base n ys W W') (hr : RdK k B zs v W) (hB : B ≤ base) : RdK k B zs v W' := hr.keep h.size fun g hg hl => by
  rcases h.block g hl with h | ⟨hb, _⟩
  · exact h
  · omega
structure QcR (g base n : Nat) (ys : List Int) (W W' : World) : Prop where
  once : Once base n ys W W'
  other : ∀ k, k < W.heap.size → k ≠ g → W'.heap[k]? = W.heap[k]?
theorem QcR.refl (g base n : Nat) (ys : List Int) (W : World) : QcR g base n ys W W := ⟨Once.refl _ _ _ _, fun _ _ _ => rfl⟩
theorem QcR.trans {g base n : Nat} {ys : List Int} {a b c : World} (h : QcR g base n ys a b) (k : QcR g base n ys b c) : QcR g base n ys a c := ⟨h.once.trans k.once, fun i hi hn => (k.other i (Nat.lt_of_lt_of_le hi h.once.size) hn).trans (h.other i hi hn)⟩
theorem QcR.ext {g base n : Nat} {ys : List Int} {a b : World} (e : Ext a b) : QcR g base n ys a b := ⟨Once.ext e, fun i hi _ => e.block i hi⟩
theorem QcR.row {g base n : Nat} {ys : List Int} {a b : World} {k : Nat} {ob : Obj} (h : QcR g base n ys a b) (r : a.heap[k]? = some ob) (hn : k ≠ g) : b.heap[k]? = some ob := (h.other k (QaA r) hn).trans r
theorem QeF {g base n : Nat} {ys xs : List Int} {T : TypeId} (hx : ∀ i, i < xs.length → n ≤ i → nth xs i = nth ys (i - n)) : QbA (QcR g base n ys) (OwnN .u8 T base xs) := fun v W W' hR h => Qi5 hx v W W' hR.once h
theorem Qil {P : Program} {T : TypeId} {ρ : Operand → Value} {o : Oper} {W : World} (s x : Operand) (t : TypeId) (ho : o.op = .call { callee := .builtin .append, args := #[s, x], argTypes := #[t, t] })
    (ht : P.underlying t = some (.slice T)) (hi : (P.info? T).map (fun i => (i.zero, i.size, i.bytes)) = some (some (.int .u8 0), 1, 1)) {g c base B : Nat} {y : Value} {xs ys : List Int} (hs : ρ s = .slice (some ⟨g, 0, none⟩) xs.length c) (hx : ρ x = y)
    (h : OwnN .u8 T base xs (.slice (some ⟨g, 0, none⟩) xs.length c) W) (hy : RdK .u8 B ys y W) (hn : xs.length + ys.length ≤ 1000000000) (hbase : base ≤ W.heap.size) :
    ∃ v' W', (execOp ρ o).run P W = .ok (.value v') W' ∧ QcR g base xs.length ys W W' ∧ OwnN .u8 T base (xs ++ ys) v' W' := by
  obtain ⟨v', W', r, q, p⟩ := QiS (ρ := ρ) (o := o) (W := W) (n := xs.length) (Y := ys) (b := 1) s x t ho ht hi (by decide) hs hx h hy hn hbase (.inr ⟨rfl, rfl⟩)
  obtain ⟨v2, W2, r2, o2, g2, -⟩ := Qf0 (ρ := ρ) (o := o) (W := W) (b := 1) s x t ho ht hi (by decide) hs hx h hy hn hbase
  rw [r] at r2
  injection r2 with _ r3
  subst r3
  exact ⟨v', W', r, ⟨q, fun k hk hn => g2.block k hk (fun e => hn (Option.some.inj e))⟩, p⟩
theorem run_extractT {P : Program} {ρ : Operand → Value} {o : Oper} {w : World} (x : Operand) (i : Nat) (vs : Array Value) (u : Value) (ho : o.op = .extract x i) (hx : ρ x = .tuple vs) (hi : vs[i]? = some u) : (execOp ρ o).run P w = .ok (.value u) w := by
  unfold execOp
  simp [ho, hx, Instr.extract, hi]
section
variable {P : Program} {R : World → World → Prop} {w0 : World} {N : Nat} {L : Env} {F : List KE → Prop} {o : Oper} {os : List Oper} {s : Src} {ss : List Src} {C : List KE}
theorem QjU (φ : Fact) (hφ : QbA R φ) {rd : List (Tmp × Option Nat)}
    (h : ∀ (ρ : Tmp → Value) (W : World), R w0 W → Qcs (envN N L) (C.map KE.fact) ρ W rd → ∃ v W', (execOp (Rely.look ρ) o).run P W = .ok (.value v) W' ∧ R W W' ∧ φ v W')
    (hk : Qbt P R w0 N L F os ss (C ++ [.ex φ])) : Qbt P R w0 N L F (o :: os) (⟨none, rd⟩ :: ss) C :=
  ⟨.ex φ, hφ, fun ρ W hR hh => by
    obtain ⟨v, W', h1, h2, h3⟩ := h ρ W hR hh
    show Qci _ _ _ _ _
    rw [h1]
    exact ⟨h2, h3⟩, hk⟩
theorem Qir (hrf : ∀ W, R W W) (hre : ∀ {A B : World}, Ext A B → R A B) (φ : Fact) (hφ : QbA R φ) (f : FuncId) {rd : List (Tmp × Option Nat)}
    (h : ∀ (ρ : Tmp → Value) (W : World), R w0 W → Qcs (envN N L) (C.map KE.fact) ρ W rd → ∃ args, (execOp (Rely.look ρ) o).run P W = .ok (.enter f args) W ∧ Calls P f args W (Qcb W φ))
    (hk : Qbt P R w0 N L F os ss (C ++ [.ex φ])) : Qbt P R w0 N L F (o :: os) (⟨none, rd⟩ :: ss) C :=
  ⟨.ex φ, hφ, fun ρ W hR hh => by
    obtain ⟨args, h1, h2⟩ := h ρ W hR hh
    show Qci _ _ _ _ _
    rw [h1]
    exact ⟨hrf _, h2.mono fun _ _ h => QhD h.fact (fun e => hre e)⟩, hk⟩
end
theorem Qh0 {n : Nat} {W W' : World} (h : Below n W.drew W') (hn : n ≤ W.heap.size) : Below n W W' := Below.trans ((Qai W).mono hn) h
end Go.Proofs.YtjldjdlhllgakaaDoor.Ae
end
section
namespace Go.Proofs.YtjldjdlhllgakaaDoor.Cha
open Go Go.RowKit
open Rely Auto Own Sha
set_option linter.unusedVariables false
set_option linter.unusedSimpArgs false
open Sha
theorem Qkc (x : Wd) (n : Nat) (h : 0 < n) (hn : n < 32) : x <<< n + x >>> (32 - n) = rl x n := by
  have h2 := QjV x (32 - n) (by omega) (by omega)
  rw [show 32 - (32 - n) = n by omega] at h2
  rw [BitVec.add_comm, h2]
  unfold rr rl
  rw [show 32 - (32 - n) = n by omega]
def rs1 (x : List Wd) (a b : Nat) : List Wd := x.set a (wget x a + wget x b)
def rs2 (x : List Wd) (d a n : Nat) : List Wd := x.set d (rl (wget x d ^^^ wget x a) n)
def rqrt (x : List Wd) (a b c d : Nat) : List Wd := rs2 (rs1 (rs2 (rs1 (rs2 (rs1 (rs2 (rs1 x a b) d a 16) c d) b c 12) a b) d a 8) c d) b c 7
theorem Qfq (x : List Wd) (a b : Nat) : (rs1 x a b).length = x.length := List.length_set ..
theorem Qfp (x : List Wd) (d a n : Nat) : (rs2 x d a n).length = x.length := List.length_set ..
theorem mulW (x : Wd) (m : Int) (k : Nat) (hm : m = 2 ^ k) (hk : k ≤ 32) : IntKind.u32.wrap (m * wv x) = wv (x <<< k) := by
  subst hm
  have h := Qha x (k : Int) k rfl hk
  have e : min ((k : Int)).toNat IntKind.u32.bits = k := by show min ((k : Int)).toNat 32 = k; omega
  rw [e] at h
  rw [Int.mul_comm]
  exact h
def rw4 (b : List Int) (i : Nat) : Wd := (BitVec.ofInt 32 (nth b (4 * i)) + BitVec.ofInt 32 (nth b (4 * i + 1)) <<< 8) + BitVec.ofInt 32 (nth b (4 * i + 2)) <<< 16 + BitVec.ofInt 32 (nth b (4 * i + 3)) <<< 24
def rws (b : List Int) (n : Nat) : List Wd := (List.range n).map (rw4 b)
def rwords (b : List Int) : List Wd := rws b (b.length / 4)
theorem QhA (b : List Int) (n : Nat) : (rws b n).length = n := by simp [rws]
theorem Qiw (b : List Int) (n : Nat) : (rws b (n + 1)).map wv = (rws b n).map wv ++ [wv (rw4 b n)] := by simp [rws, List.range_succ]
theorem Qfc (n : Int) (h : 0 ≤ n ∧ n < 256) : (BitVec.ofInt 32 n).toNat = n.toNat := by
  rw [BitVec.toNat_ofInt]
  omega
theorem or4 (x y z t : Nat) (hx : x < 256) (hy : y < 256) (hz : z < 256) : x ||| y <<< 8 ||| z <<< 16 ||| t <<< 24 = x + y <<< 8 + z <<< 16 + t <<< 24 := by
  have h1 : x ||| y <<< 8 = x + y <<< 8 := by
    rw [Nat.or_comm, ← Nat.shiftLeft_add_eq_or_of_lt (show x < 2 ^ 8 by omega), Nat.add_comm]
  have l1 : x + y <<< 8 < 2 ^ 16 := by rw [Nat.shiftLeft_eq]; omega
  have h2 : (x + y <<< 8) ||| z <<< 16 = x + y <<< 8 + z <<< 16 := by
    rw [Nat.or_comm, ← Nat.shiftLeft_add_eq_or_of_lt l1, Nat.add_comm]
  have l2 : x + y <<< 8 + z <<< 16 < 2 ^ 24 := by rw [Nat.shiftLeft_eq, Nat.shiftLeft_eq]; omega
  rw [h1, h2, Nat.or_comm, ← Nat.shiftLeft_add_eq_or_of_lt l2, Nat.add_comm]
theorem Qfm (n : Int) (k : Nat) (h : 0 ≤ n ∧ n < 256) (hk : k ≤ 24) : (BitVec.ofInt 32 n <<< k).toNat = n.toNat <<< k := by
  rw [BitVec.toNat_shiftLeft, Qfc n h, Nat.mod_eq_of_lt]
  rw [Nat.shiftLeft_eq]
  have h1 : n.toNat < 256 := by omega
  have h2 : 2 ^ k ≤ 2 ^ 24 := Nat.pow_le_pow_right (by decide) hk
  exact Nat.lt_of_le_of_lt (Nat.mul_le_mul (Nat.le_of_lt_succ h1) h2) (by decide)
theorem Qjf (b : List Int) (i : Nat) (hb : ∀ j, 0 ≤ nth b j ∧ nth b j < 256) : rw4 b i = le4 (sub4 b i) := by
  unfold rw4 le4
  rw [QdA b i 0 (by decide), QdA b i 1 (by decide), QdA b i 2 (by decide), QdA b i 3 (by decide)]
  simp only [Nat.add_zero]
  have h0 := hb (4 * i)
  have h1 := hb (4 * i + 1)
  have h2 := hb (4 * i + 2)
  have h3 := hb (4 * i + 3)
  apply BitVec.eq_of_toNat_eq
  simp only [BitVec.toNat_add, BitVec.toNat_or, Qfc _ h0, Qfm _ 8 h1 (by decide), Qfm _ 16 h2 (by decide), Qfm _ 24 h3 (by decide)]
  rw [or4 _ _ _ _ (by omega) (by omega) (by omega)]
  simp only [Nat.shiftLeft_eq]
  omega
theorem QfK : ∀ x : List Wd, x.length = 16 → rqrt x 0 4 8 12 = qrt x 0 4 8 12 ∧ rqrt x 1 5 9 13 = qrt x 1 5 9 13 ∧ rqrt x 2 6 10 14 = qrt x 2 6 10 14 ∧ rqrt x 3 7 11 15 = qrt x 3 7 11 15 ∧ rqrt x 0 5 10 15 = qrt x 0 5 10 15 ∧ rqrt x 1 6 11 12 = qrt x 1 6 11 12 ∧ rqrt x 2 7 8 13 = qrt x 2 7 8 13 ∧ rqrt x 3 4 9 14 = qrt x 3 4 9 14
  | [x0, x1, x2, x3, x4, x5, x6, x7, x8, x9, x10, x11, x12, x13, x14, x15], _ => ⟨by kernel_rfl, by kernel_rfl, by kernel_rfl, by kernel_rfl, by kernel_rfl, by kernel_rfl, by kernel_rfl, by kernel_rfl⟩
set_option maxHeartbeats 4000000 in
theorem QgA (x : Wd) (n : Nat) (m : Int) (hm : m = (n : Int)) (h0 : 0 < n) (hn : n < 32) (w : World) : Calls Tryd.prog 59 #[.int .u32 (wv x), .int .u64 m] w (Ret w (.int .u32 (wv (rl x n)))) := by
  subst hm
  refine enter 13 [(0, .int .u32 (wv x)), (1, .int .u64 ((n : Nat) : Int))] Tryd.func59 rfl rfl kj rfl ?_
  refine wp_seq_k fun K1 hK1 => ?_
  refine Qab ?_
  refine Qaa (.int .u32 0) 4 rfl kj kj ?_
  refine Qac ?_
  refine hK1 _ _ ?_
  refine wp_seq_k fun K2 hK2 => ?_
  refine Qab ?_
  refine Qaa (.int .u32 (wv x)) 5 rfl kj kj ?_
  refine Qaa (.int .u64 ((n : Nat) : Int)) 6 rfl kj kj ?_
  refine Qaa (.int .u32 (wv (x <<< n))) 7 rfl kj (QbH .shl _ _ _ _ .u32 .u64 _ _ _ rfl kj kj (Qg1 _ _ _ _ _ _ (by omega) (Qha x _ n rfl (by omega)))) ?_
  refine Qaa (.int .u32 (wv x)) 8 rfl kj kj ?_
  refine Qaa (.int .u64 ((n : Nat) : Int)) 9 rfl kj kj ?_
  refine Qaa (.int .u64 (((32 - n : Nat) : Int))) 10 rfl kj (Qah (u := .int .u64 (IntKind.u64.wrap (32 - ((n : Nat) : Int)))) kj (congrArg (Value.int .u64) (Qg7 n hn))) ?_
  refine Qaa (.int .u32 (wv (x >>> (32 - n)))) 11 rfl kj (QbH .shr _ _ _ _ .u32 .u64 _ _ _ rfl kj kj (QeN _ _ _ _ _ _ (by omega) (Qis x _ (32 - n) rfl (by omega)))) ?_
  refine Qaa (.int .u32 (wv (rl x n))) 12 rfl kj (Qah (u := .int .u32 (IntKind.u32.wrap ((wv (x <<< n)) + (wv (x >>> (32 - n)))))) kj (congrArg (Value.int .u32) ((Qd9 _ _).trans (congrArg wv (Qkc x n h0 hn))))) ?_
  refine Qaa (.int .u32 (wv (rl x n))) 4 rfl kj kj ?_
  refine Qac ?_
  refine hK2 _ _ ?_
  refine wp_ret ?_
  repeat (first | with_reducible refine goR1 ?_ | with_reducible refine goR2 ?_)
  exact (show bodyPost _ _ _ .ret _ _ from ret1 (.int .u32 (wv (rl x n))) rfl (QaC kj) ⟨rfl, (Rely.Ext.refl w)⟩)
set_option maxRecDepth 100000 in
set_option maxHeartbeats 4000000 in
theorem Qcu (g cc : Nat) (rest : Array Value) (x : List Wd) (a b c d : Nat) (ma mb mc md : Int) (w : World) (ea : ma = (a : Int)) (eb : mb = (b : Int)) (ec : mc = (c : Int)) (ed : md = (d : Int)) (hx : x.length = 16) (ha : a < 16) (hb : b < 16) (hc : c < 16) (hd : d < 16) (hg : w.heap[g]? = some (.cells (ints .u32 (x.map wv) ++ rest) 87)) :
    Calls Tryd.prog 54 #[.slice (some ⟨g, 0, none⟩) 16 cc, .int .i64 ma, .int .i64 mb, .int .i64 mc, .int .i64 md] w (fun e W => e = .returned (.tuple #[]) ∧ ExtB g w W ∧ W.heap[g]? = some (.cells (ints .u32 ((rqrt x a b c d).map wv) ++ rest) 87)) := by
  subst ea eb ec ed
  refine enter 76 [(0, .slice (some ⟨g, 0, none⟩) 16 cc), (1, .int .i64 ((a : Nat) : Int)), (2, .int .i64 ((b : Nat) : Int)), (3, .int .i64 ((c : Nat) : Int)), (4, .int .i64 ((d : Nat) : Int))] Tryd.func54 rfl rfl kj rfl ?_
  refine wp_seq_k fun K2 hK2 => ?_
  refine Qab ?_
  refine QaD (ints .u64 ([16, 12, 8, 7])) 46 4 12 rfl kj kj fun g3 W1 l3 e1 r3_1 => ?_
  have x1 : ExtB g w W1 := ExtB.ext (ExtB.refl g w) e1
  have b3 : w.heap.size ≤ g3 := Nat.le_trans (ExtB.refl g w).size l3
  refine Qaa (.slice (some ⟨g3, 0, none⟩) 4 4) 10 rfl kj kj ?_
  refine Qac ?_
  refine hK2 _ _ ?_
  refine wp_seq_k fun K4 hK4 => ?_
  refine Qab ?_
  refine Qaa (.int .i64 0) 11 rfl kj kj ?_
  refine Qac ?_
  refine hK4 _ _ ?_
  refine wp_block ?_
  refine wp_loop_rounds 3 ?_
  show Code.wp _ _ (Exit.then (Code.rounds _ _ _ 2) _) _ _
  refine wp_seq_k fun K5 hK5 => ?_
  refine wp_seq_k fun K6 hK6 => ?_
  refine Qab ?_
  refine Qaa (.int .i64 0) 13 rfl kj kj ?_
  refine Qaa (.bool true) 14 rfl kj kj ?_
  refine Qac ?_
  refine hK6 _ _ ?_
  refine cond_true kj ?_
  refine wp_skip ?_
  refine hK5 _ _ ?_
  refine wp_seq_k fun K7 hK7 => ?_
  refine wp_block ?_
  refine wp_seq_k fun K8 hK8 => ?_
  refine Qbf 12 [⟨none, [(0, none)]⟩, ⟨none, [(1, none)]⟩, ⟨none, [(0, none)]⟩, ⟨none, [(1, none)]⟩, ⟨none, [(19, some 2), (20, some 3)]⟩, ⟨none, [(21, some 4)]⟩, ⟨none, [(0, none)]⟩, ⟨none, [(2, none)]⟩, ⟨none, [(23, some 6), (24, some 7)]⟩, ⟨none, [(25, some 8)]⟩, ⟨none, [(22, some 5), (26, some 9)]⟩, ⟨none, [(17, some 0), (18, some 1)]⟩] kj kj fun F hF => ?_
  refine Qak (.slice (some ⟨g, 0, none⟩) 16 cc) kj kj (fun W => by kernel_rfl) ?_
  refine Qak (.int .i64 ((a : Nat) : Int)) kj kj (fun W => by kernel_rfl) ?_
  refine Qak (.slice (some ⟨g, 0, none⟩) 16 cc) kj kj (fun W => by kernel_rfl) ?_
  refine Qak (.int .i64 ((a : Nat) : Int)) kj kj (fun W => by kernel_rfl) ?_
  refine Qak (.pointer (some ⟨g, a, none⟩)) kj kj (fun W => (Qaq 91 _ _ .i64 (a) g 16 cc 87 rfl kj kj kj kj (by omega))) ?_
  have r1_1 := (Qad hg e1)
  refine QaL (.int .u32 (wv (wget x a))) kj kj (fun W hR => (Qae 87 _ g a 87 _ (.int .u32 (wv (wget x a))) _ (Qad (Qad r1_1 (Qai _)) hR) rfl kj ((Qba (Nat.lt_of_lt_of_eq (by omega) (Qa9 hx).symm)).trans (congrArg (fun z => some (Value.int .u32 z)) (QaM x a))) kj)) ?_
  refine Qak (.slice (some ⟨g, 0, none⟩) 16 cc) kj kj (fun W => by kernel_rfl) ?_
  refine Qak (.int .i64 ((b : Nat) : Int)) kj kj (fun W => by kernel_rfl) ?_
  refine Qak (.pointer (some ⟨g, b, none⟩)) kj kj (fun W => (Qaq 91 _ _ .i64 (b) g 16 cc 87 rfl kj kj kj kj (by omega))) ?_
  refine QaL (.int .u32 (wv (wget x b))) kj kj (fun W hR => (Qae 87 _ g b 87 _ (.int .u32 (wv (wget x b))) _ (Qad (Qad r1_1 (Qai _)) hR) rfl kj ((Qba (Nat.lt_of_lt_of_eq (by omega) (Qa9 hx).symm)).trans (congrArg (fun z => some (Value.int .u32 z)) (QaM x b))) kj)) ?_
  refine Qak (.int .u32 (wv (((wget x a)) + ((wget x b))))) kj kj (fun W => (Qah (u := .int .u32 (IntKind.u32.wrap (wv (wget x a) + wv (wget x b)))) kj (congrArg (Value.int .u32) (Qd9 _ _)))) ?_
  refine Qak (.pointer (some ⟨g, a, none⟩)) kj kj (fun W => (Qaq 91 _ _ .i64 (a) g 16 cc 87 rfl kj kj kj kj (by omega))) ?_
  refine Qbn (hF _ kj fun W2 e2 => ?_)
  simp only [ups, up, Kn.val, List.take_succ_cons, List.take_zero, List.drop_succ_cons, List.drop_zero, List.nil_append, List.cons_append]
  clear hF
  have x2 : ExtB g w W2 := ExtB.ext x1 e2
  have r1_2 := (Qad r1_1 e2)
  refine Qal g _ (ints .u32 (((x).set a ((((wget x a)) + ((wget x b))))).map wv) ++ rest) 87 r1_2 rfl kj (Qb1 87 _ _ g a 87 _ x ((((wget x a)) + ((wget x b)))) r1_2 rfl kj kj kj (Nat.lt_of_lt_of_eq (by omega) (Qa9 hx).symm)) fun W3 p3 r1_3 => ?_
  have x3 : ExtB g w W3 := ExtB.puts x2 p3
  obtain ⟨x1, ex1⟩ : ∃ z : List Wd, z = rs1 x a b := ⟨_, rfl⟩
  have hx1 : x1.length = 16 := by rw [ex1, Qfq, hx]
  have r1_3_9 : W3.heap[g]? = some (.cells (ints .u32 ((x1).map wv) ++ rest) 87) := Qbq r1_3 (by rw [ex1]; rfl)
  refine Qac ?_
  refine hK8 _ _ ?_
  refine wp_seq_k fun K10 hK10 => ?_
  refine Qbf 17 [⟨none, [(0, none)]⟩, ⟨none, [(4, none)]⟩, ⟨none, [(0, none)]⟩, ⟨none, [(4, none)]⟩, ⟨none, [(31, some 2), (32, some 3)]⟩, ⟨none, [(33, some 4)]⟩, ⟨none, [(0, none)]⟩, ⟨none, [(1, none)]⟩, ⟨none, [(35, some 6), (36, some 7)]⟩, ⟨none, [(37, some 8)]⟩, ⟨none, [(34, some 5), (38, some 9)]⟩, ⟨none, [(10, none)]⟩, ⟨none, [(11, none)]⟩, ⟨none, [(40, some 11), (41, some 12)]⟩, ⟨none, [(42, some 13)]⟩, ⟨none, [(39, some 10), (43, some 14)]⟩, ⟨none, [(29, some 0), (30, some 1)]⟩] kj kj fun F hF => ?_
  refine Qak (.slice (some ⟨g, 0, none⟩) 16 cc) kj kj (fun W => by kernel_rfl) ?_
  refine Qak (.int .i64 ((d : Nat) : Int)) kj kj (fun W => by kernel_rfl) ?_
  refine Qak (.slice (some ⟨g, 0, none⟩) 16 cc) kj kj (fun W => by kernel_rfl) ?_
  refine Qak (.int .i64 ((d : Nat) : Int)) kj kj (fun W => by kernel_rfl) ?_
  refine Qak (.pointer (some ⟨g, d, none⟩)) kj kj (fun W => (Qaq 91 _ _ .i64 (d) g 16 cc 87 rfl kj kj kj kj (by omega))) ?_
  refine QaL (.int .u32 (wv (wget x1 d))) kj kj (fun W hR => (Qae 87 _ g d 87 _ (.int .u32 (wv (wget x1 d))) _ (Qad (Qad r1_3_9 (Qai _)) hR) rfl kj ((Qba (Nat.lt_of_lt_of_eq (by omega) (Qa9 hx1).symm)).trans (congrArg (fun z => some (Value.int .u32 z)) (QaM x1 d))) kj)) ?_
  refine Qak (.slice (some ⟨g, 0, none⟩) 16 cc) kj kj (fun W => by kernel_rfl) ?_
  refine Qak (.int .i64 ((a : Nat) : Int)) kj kj (fun W => by kernel_rfl) ?_
  refine Qak (.pointer (some ⟨g, a, none⟩)) kj kj (fun W => (Qaq 91 _ _ .i64 (a) g 16 cc 87 rfl kj kj kj kj (by omega))) ?_
  refine QaL (.int .u32 (wv (wget x1 a))) kj kj (fun W hR => (Qae 87 _ g a 87 _ (.int .u32 (wv (wget x1 a))) _ (Qad (Qad r1_3_9 (Qai _)) hR) rfl kj ((Qba (Nat.lt_of_lt_of_eq (by omega) (Qa9 hx1).symm)).trans (congrArg (fun z => some (Value.int .u32 z)) (QaM x1 a))) kj)) ?_
  refine Qak (.int .u32 (wv (((wget x1 d)) ^^^ ((wget x1 a))))) kj kj (fun W => (Qah (u := .int .u32 (bits .xor .u32 (wv (wget x1 d)) (wv (wget x1 a)))) kj (congrArg (Value.int .u32) (Qf6 _ _)))) ?_
  refine Qak (.slice (some ⟨g3, 0, none⟩) 4 4) kj kj (fun W => by kernel_rfl) ?_
  refine Qak (.int .i64 0) kj kj (fun W => by kernel_rfl) ?_
  refine Qak (.pointer (some ⟨g3, 0, none⟩)) kj kj (fun W => (Qaq 103 _ _ .i64 (0) g3 4 4 46 rfl kj kj kj kj (by decide))) ?_
  have r3_2 := (Qad r3_1 e2)
  have r3_3 := (Puts.row p3 r3_2 (Qat hg l3))
  refine QaL (.int .u64 16) kj kj (fun W hR => (Qae 46 _ g3 0 46 _ (.int .u64 16) _ (Qad (Qad r3_3 (Qai _)) hR) rfl kj kj kj)) ?_
  refine Qck (.int .u32 (wv (rl (((wget x1 d)) ^^^ ((wget x1 a))) 16))) 59 #[.int .u32 (wv (((wget x1 d)) ^^^ ((wget x1 a)))), .int .u64 16] kj kj (fun W => by kernel_rfl) (fun W hR => (QgA (((wget x1 d)) ^^^ ((wget x1 a))) 16 16 rfl (by decide) (by decide)) W) ?_
  refine Qak (.pointer (some ⟨g, d, none⟩)) kj kj (fun W => (Qaq 91 _ _ .i64 (d) g 16 cc 87 rfl kj kj kj kj (by omega))) ?_
  refine Qbn (hF _ kj fun W4 e4 => ?_)
  simp only [ups, up, Kn.val, List.take_succ_cons, List.take_zero, List.drop_succ_cons, List.drop_zero, List.nil_append, List.cons_append]
  clear hF
  have x4 : ExtB g w W4 := ExtB.ext x3 e4
  have r1_4 := (Qad r1_3_9 e4)
  refine Qal g _ (ints .u32 (((x1).set d ((rl (((wget x1 d)) ^^^ ((wget x1 a))) 16))).map wv) ++ rest) 87 r1_4 rfl kj (Qb1 87 _ _ g d 87 _ x1 ((rl (((wget x1 d)) ^^^ ((wget x1 a))) 16)) r1_4 rfl kj kj kj (Nat.lt_of_lt_of_eq (by omega) (Qa9 hx1).symm)) fun W5 p5 r1_5 => ?_
  have x5 : ExtB g w W5 := ExtB.puts x4 p5
  obtain ⟨x2, ex2⟩ : ∃ z : List Wd, z = rs2 x1 d a 16 := ⟨_, rfl⟩
  have hx2 : x2.length = 16 := by rw [ex2, Qfp, hx1]
  have r1_5_11 : W5.heap[g]? = some (.cells (ints .u32 ((x2).map wv) ++ rest) 87) := Qbq r1_5 (by rw [ex2]; rfl)
  refine Qac ?_
  refine hK10 _ _ ?_
  refine wp_seq_k fun K12 hK12 => ?_
  refine Qbf 12 [⟨none, [(0, none)]⟩, ⟨none, [(3, none)]⟩, ⟨none, [(0, none)]⟩, ⟨none, [(3, none)]⟩, ⟨none, [(48, some 2), (49, some 3)]⟩, ⟨none, [(50, some 4)]⟩, ⟨none, [(0, none)]⟩, ⟨none, [(4, none)]⟩, ⟨none, [(52, some 6), (53, some 7)]⟩, ⟨none, [(54, some 8)]⟩, ⟨none, [(51, some 5), (55, some 9)]⟩, ⟨none, [(46, some 0), (47, some 1)]⟩] kj kj fun F hF => ?_
  refine Qak (.slice (some ⟨g, 0, none⟩) 16 cc) kj kj (fun W => by kernel_rfl) ?_
  refine Qak (.int .i64 ((c : Nat) : Int)) kj kj (fun W => by kernel_rfl) ?_
  refine Qak (.slice (some ⟨g, 0, none⟩) 16 cc) kj kj (fun W => by kernel_rfl) ?_
  refine Qak (.int .i64 ((c : Nat) : Int)) kj kj (fun W => by kernel_rfl) ?_
  refine Qak (.pointer (some ⟨g, c, none⟩)) kj kj (fun W => (Qaq 91 _ _ .i64 (c) g 16 cc 87 rfl kj kj kj kj (by omega))) ?_
  refine QaL (.int .u32 (wv (wget x2 c))) kj kj (fun W hR => (Qae 87 _ g c 87 _ (.int .u32 (wv (wget x2 c))) _ (Qad (Qad r1_5_11 (Qai _)) hR) rfl kj ((Qba (Nat.lt_of_lt_of_eq (by omega) (Qa9 hx2).symm)).trans (congrArg (fun z => some (Value.int .u32 z)) (QaM x2 c))) kj)) ?_
  refine Qak (.slice (some ⟨g, 0, none⟩) 16 cc) kj kj (fun W => by kernel_rfl) ?_
  refine Qak (.int .i64 ((d : Nat) : Int)) kj kj (fun W => by kernel_rfl) ?_
  refine Qak (.pointer (some ⟨g, d, none⟩)) kj kj (fun W => (Qaq 91 _ _ .i64 (d) g 16 cc 87 rfl kj kj kj kj (by omega))) ?_
  refine QaL (.int .u32 (wv (wget x2 d))) kj kj (fun W hR => (Qae 87 _ g d 87 _ (.int .u32 (wv (wget x2 d))) _ (Qad (Qad r1_5_11 (Qai _)) hR) rfl kj ((Qba (Nat.lt_of_lt_of_eq (by omega) (Qa9 hx2).symm)).trans (congrArg (fun z => some (Value.int .u32 z)) (QaM x2 d))) kj)) ?_
  refine Qak (.int .u32 (wv (((wget x2 c)) + ((wget x2 d))))) kj kj (fun W => (Qah (u := .int .u32 (IntKind.u32.wrap (wv (wget x2 c) + wv (wget x2 d)))) kj (congrArg (Value.int .u32) (Qd9 _ _)))) ?_
  refine Qak (.pointer (some ⟨g, c, none⟩)) kj kj (fun W => (Qaq 91 _ _ .i64 (c) g 16 cc 87 rfl kj kj kj kj (by omega))) ?_
  refine Qbn (hF _ kj fun W6 e6 => ?_)
  simp only [ups, up, Kn.val, List.take_succ_cons, List.take_zero, List.drop_succ_cons, List.drop_zero, List.nil_append, List.cons_append]
  clear hF
  have x6 : ExtB g w W6 := ExtB.ext x5 e6
  have r1_6 := (Qad r1_5_11 e6)
  refine Qal g _ (ints .u32 (((x2).set c ((((wget x2 c)) + ((wget x2 d))))).map wv) ++ rest) 87 r1_6 rfl kj (Qb1 87 _ _ g c 87 _ x2 ((((wget x2 c)) + ((wget x2 d)))) r1_6 rfl kj kj kj (Nat.lt_of_lt_of_eq (by omega) (Qa9 hx2).symm)) fun W7 p7 r1_7 => ?_
  have x7 : ExtB g w W7 := ExtB.puts x6 p7
  obtain ⟨x3, ex3⟩ : ∃ z : List Wd, z = rs1 x2 c d := ⟨_, rfl⟩
  have hx3 : x3.length = 16 := by rw [ex3, Qfq, hx2]
  have r1_7_13 : W7.heap[g]? = some (.cells (ints .u32 ((x3).map wv) ++ rest) 87) := Qbq r1_7 (by rw [ex3]; rfl)
  refine Qac ?_
  refine hK12 _ _ ?_
  refine Qbf 18 [⟨none, [(0, none)]⟩, ⟨none, [(2, none)]⟩, ⟨none, [(0, none)]⟩, ⟨none, [(2, none)]⟩, ⟨none, [(60, some 2), (61, some 3)]⟩, ⟨none, [(62, some 4)]⟩, ⟨none, [(0, none)]⟩, ⟨none, [(3, none)]⟩, ⟨none, [(64, some 6), (65, some 7)]⟩, ⟨none, [(66, some 8)]⟩, ⟨none, [(63, some 5), (67, some 9)]⟩, ⟨none, [(10, none)]⟩, ⟨none, [(11, none)]⟩, ⟨none, [(70, some 12)]⟩, ⟨none, [(69, some 11), (71, some 13)]⟩, ⟨none, [(72, some 14)]⟩, ⟨none, [(68, some 10), (73, some 15)]⟩, ⟨none, [(58, some 0), (59, some 1)]⟩] kj kj fun F hF => ?_
  refine Qak (.slice (some ⟨g, 0, none⟩) 16 cc) kj kj (fun W => by kernel_rfl) ?_
  refine Qak (.int .i64 ((b : Nat) : Int)) kj kj (fun W => by kernel_rfl) ?_
  refine Qak (.slice (some ⟨g, 0, none⟩) 16 cc) kj kj (fun W => by kernel_rfl) ?_
  refine Qak (.int .i64 ((b : Nat) : Int)) kj kj (fun W => by kernel_rfl) ?_
  refine Qak (.pointer (some ⟨g, b, none⟩)) kj kj (fun W => (Qaq 91 _ _ .i64 (b) g 16 cc 87 rfl kj kj kj kj (by omega))) ?_
  refine QaL (.int .u32 (wv (wget x3 b))) kj kj (fun W hR => (Qae 87 _ g b 87 _ (.int .u32 (wv (wget x3 b))) _ (Qad (Qad r1_7_13 (Qai _)) hR) rfl kj ((Qba (Nat.lt_of_lt_of_eq (by omega) (Qa9 hx3).symm)).trans (congrArg (fun z => some (Value.int .u32 z)) (QaM x3 b))) kj)) ?_
  refine Qak (.slice (some ⟨g, 0, none⟩) 16 cc) kj kj (fun W => by kernel_rfl) ?_
  refine Qak (.int .i64 ((c : Nat) : Int)) kj kj (fun W => by kernel_rfl) ?_
  refine Qak (.pointer (some ⟨g, c, none⟩)) kj kj (fun W => (Qaq 91 _ _ .i64 (c) g 16 cc 87 rfl kj kj kj kj (by omega))) ?_
  refine QaL (.int .u32 (wv (wget x3 c))) kj kj (fun W hR => (Qae 87 _ g c 87 _ (.int .u32 (wv (wget x3 c))) _ (Qad (Qad r1_7_13 (Qai _)) hR) rfl kj ((Qba (Nat.lt_of_lt_of_eq (by omega) (Qa9 hx3).symm)).trans (congrArg (fun z => some (Value.int .u32 z)) (QaM x3 c))) kj)) ?_
  refine Qak (.int .u32 (wv (((wget x3 b)) ^^^ ((wget x3 c))))) kj kj (fun W => (Qah (u := .int .u32 (bits .xor .u32 (wv (wget x3 b)) (wv (wget x3 c)))) kj (congrArg (Value.int .u32) (Qf6 _ _)))) ?_
  refine Qak (.slice (some ⟨g3, 0, none⟩) 4 4) kj kj (fun W => by kernel_rfl) ?_
  refine Qak (.int .i64 0) kj kj (fun W => by kernel_rfl) ?_
  refine Qak (.int .i64 1) kj kj (fun W => by kernel_rfl) ?_
  refine Qak (.pointer (some ⟨g3, 1, none⟩)) kj kj (fun W => (Qaq 103 _ _ .i64 (1) g3 4 4 46 rfl kj kj kj kj (by decide))) ?_
  have r3_4 := (Qad r3_3 e4)
  have r3_5 := (Puts.row p5 r3_4 (Qat hg l3))
  have r3_6 := (Qad r3_5 e6)
  have r3_7 := (Puts.row p7 r3_6 (Qat hg l3))
  refine QaL (.int .u64 12) kj kj (fun W hR => (Qae 46 _ g3 1 46 _ (.int .u64 12) _ (Qad (Qad r3_7 (Qai _)) hR) rfl kj kj kj)) ?_
  refine Qck (.int .u32 (wv (rl (((wget x3 b)) ^^^ ((wget x3 c))) 12))) 59 #[.int .u32 (wv (((wget x3 b)) ^^^ ((wget x3 c)))), .int .u64 12] kj kj (fun W => by kernel_rfl) (fun W hR => (QgA (((wget x3 b)) ^^^ ((wget x3 c))) 12 12 rfl (by decide) (by decide)) W) ?_
  refine Qak (.pointer (some ⟨g, b, none⟩)) kj kj (fun W => (Qaq 91 _ _ .i64 (b) g 16 cc 87 rfl kj kj kj kj (by omega))) ?_
  refine Qbn (hF _ kj fun W8 e8 => ?_)
  simp only [ups, up, Kn.val, List.take_succ_cons, List.take_zero, List.drop_succ_cons, List.drop_zero, List.nil_append, List.cons_append]
  clear hF
  have x8 : ExtB g w W8 := ExtB.ext x7 e8
  have r1_8 := (Qad r1_7_13 e8)
  refine Qal g _ (ints .u32 (((x3).set b ((rl (((wget x3 b)) ^^^ ((wget x3 c))) 12))).map wv) ++ rest) 87 r1_8 rfl kj (Qb1 87 _ _ g b 87 _ x3 ((rl (((wget x3 b)) ^^^ ((wget x3 c))) 12)) r1_8 rfl kj kj kj (Nat.lt_of_lt_of_eq (by omega) (Qa9 hx3).symm)) fun W9 p9 r1_9 => ?_
  have x9 : ExtB g w W9 := ExtB.puts x8 p9
  obtain ⟨x4, ex4⟩ : ∃ z : List Wd, z = rs2 x3 b c 12 := ⟨_, rfl⟩
  have hx4 : x4.length = 16 := by rw [ex4, Qfp, hx3]
  have r1_9_14 : W9.heap[g]? = some (.cells (ints .u32 ((x4).map wv) ++ rest) 87) := Qbq r1_9 (by rw [ex4]; rfl)
  refine Qac ?_
  refine hK7 _ _ ?_
  refine Qab ?_
  refine Qaa (.int .i64 0) 15 rfl kj kj ?_
  refine Qaa (.int .i64 2) 16 rfl kj kj ?_
  refine Qaa (.int .i64 2) 11 rfl kj kj ?_
  refine Qac ?_
  show Code.rounds _ _ _ 2 _ _
  show Code.wp _ _ (Exit.then (Code.rounds _ _ _ 1) _) _ _
  refine wp_seq_k fun K15 hK15 => ?_
  refine wp_seq_k fun K16 hK16 => ?_
  refine Qab ?_
  refine Qaa (.int .i64 2) 13 rfl kj kj ?_
  refine Qaa (.bool true) 14 rfl kj kj ?_
  refine Qac ?_
  refine hK16 _ _ ?_
  refine cond_true kj ?_
  refine wp_skip ?_
  refine hK15 _ _ ?_
  refine wp_seq_k fun K17 hK17 => ?_
  refine wp_block ?_
  refine wp_seq_k fun K18 hK18 => ?_
  refine Qbf 12 [⟨none, [(0, none)]⟩, ⟨none, [(1, none)]⟩, ⟨none, [(0, none)]⟩, ⟨none, [(1, none)]⟩, ⟨none, [(19, some 2), (20, some 3)]⟩, ⟨none, [(21, some 4)]⟩, ⟨none, [(0, none)]⟩, ⟨none, [(2, none)]⟩, ⟨none, [(23, some 6), (24, some 7)]⟩, ⟨none, [(25, some 8)]⟩, ⟨none, [(22, some 5), (26, some 9)]⟩, ⟨none, [(17, some 0), (18, some 1)]⟩] kj kj fun F hF => ?_
  refine Qak (.slice (some ⟨g, 0, none⟩) 16 cc) kj kj (fun W => by kernel_rfl) ?_
  refine Qak (.int .i64 ((a : Nat) : Int)) kj kj (fun W => by kernel_rfl) ?_
  refine Qak (.slice (some ⟨g, 0, none⟩) 16 cc) kj kj (fun W => by kernel_rfl) ?_
  refine Qak (.int .i64 ((a : Nat) : Int)) kj kj (fun W => by kernel_rfl) ?_
  refine Qak (.pointer (some ⟨g, a, none⟩)) kj kj (fun W => (Qaq 91 _ _ .i64 (a) g 16 cc 87 rfl kj kj kj kj (by omega))) ?_
  refine QaL (.int .u32 (wv (wget x4 a))) kj kj (fun W hR => (Qae 87 _ g a 87 _ (.int .u32 (wv (wget x4 a))) _ (Qad (Qad r1_9_14 (Qai _)) hR) rfl kj ((Qba (Nat.lt_of_lt_of_eq (by omega) (Qa9 hx4).symm)).trans (congrArg (fun z => some (Value.int .u32 z)) (QaM x4 a))) kj)) ?_
  refine Qak (.slice (some ⟨g, 0, none⟩) 16 cc) kj kj (fun W => by kernel_rfl) ?_
  refine Qak (.int .i64 ((b : Nat) : Int)) kj kj (fun W => by kernel_rfl) ?_
  refine Qak (.pointer (some ⟨g, b, none⟩)) kj kj (fun W => (Qaq 91 _ _ .i64 (b) g 16 cc 87 rfl kj kj kj kj (by omega))) ?_
  refine QaL (.int .u32 (wv (wget x4 b))) kj kj (fun W hR => (Qae 87 _ g b 87 _ (.int .u32 (wv (wget x4 b))) _ (Qad (Qad r1_9_14 (Qai _)) hR) rfl kj ((Qba (Nat.lt_of_lt_of_eq (by omega) (Qa9 hx4).symm)).trans (congrArg (fun z => some (Value.int .u32 z)) (QaM x4 b))) kj)) ?_
  refine Qak (.int .u32 (wv (((wget x4 a)) + ((wget x4 b))))) kj kj (fun W => (Qah (u := .int .u32 (IntKind.u32.wrap (wv (wget x4 a) + wv (wget x4 b)))) kj (congrArg (Value.int .u32) (Qd9 _ _)))) ?_
  refine Qak (.pointer (some ⟨g, a, none⟩)) kj kj (fun W => (Qaq 91 _ _ .i64 (a) g 16 cc 87 rfl kj kj kj kj (by omega))) ?_
  refine Qbn (hF _ kj fun W10 e10 => ?_)
  simp only [ups, up, Kn.val, List.take_succ_cons, List.take_zero, List.drop_succ_cons, List.drop_zero, List.nil_append, List.cons_append]
  clear hF
  have x10 : ExtB g w W10 := ExtB.ext x9 e10
  have r1_10 := (Qad r1_9_14 e10)
  refine Qal g _ (ints .u32 (((x4).set a ((((wget x4 a)) + ((wget x4 b))))).map wv) ++ rest) 87 r1_10 rfl kj (Qb1 87 _ _ g a 87 _ x4 ((((wget x4 a)) + ((wget x4 b)))) r1_10 rfl kj kj kj (Nat.lt_of_lt_of_eq (by omega) (Qa9 hx4).symm)) fun W11 p11 r1_11 => ?_
  have x11 : ExtB g w W11 := ExtB.puts x10 p11
  obtain ⟨x5, ex5⟩ : ∃ z : List Wd, z = rs1 x4 a b := ⟨_, rfl⟩
  have hx5 : x5.length = 16 := by rw [ex5, Qfq, hx4]
  have r1_11_19 : W11.heap[g]? = some (.cells (ints .u32 ((x5).map wv) ++ rest) 87) := Qbq r1_11 (by rw [ex5]; rfl)
  refine Qac ?_
  refine hK18 _ _ ?_
  refine wp_seq_k fun K20 hK20 => ?_
  refine Qbf 17 [⟨none, [(0, none)]⟩, ⟨none, [(4, none)]⟩, ⟨none, [(0, none)]⟩, ⟨none, [(4, none)]⟩, ⟨none, [(31, some 2), (32, some 3)]⟩, ⟨none, [(33, some 4)]⟩, ⟨none, [(0, none)]⟩, ⟨none, [(1, none)]⟩, ⟨none, [(35, some 6), (36, some 7)]⟩, ⟨none, [(37, some 8)]⟩, ⟨none, [(34, some 5), (38, some 9)]⟩, ⟨none, [(10, none)]⟩, ⟨none, [(11, none)]⟩, ⟨none, [(40, some 11), (41, some 12)]⟩, ⟨none, [(42, some 13)]⟩, ⟨none, [(39, some 10), (43, some 14)]⟩, ⟨none, [(29, some 0), (30, some 1)]⟩] kj kj fun F hF => ?_
  refine Qak (.slice (some ⟨g, 0, none⟩) 16 cc) kj kj (fun W => by kernel_rfl) ?_
  refine Qak (.int .i64 ((d : Nat) : Int)) kj kj (fun W => by kernel_rfl) ?_
  refine Qak (.slice (some ⟨g, 0, none⟩) 16 cc) kj kj (fun W => by kernel_rfl) ?_
  refine Qak (.int .i64 ((d : Nat) : Int)) kj kj (fun W => by kernel_rfl) ?_
  refine Qak (.pointer (some ⟨g, d, none⟩)) kj kj (fun W => (Qaq 91 _ _ .i64 (d) g 16 cc 87 rfl kj kj kj kj (by omega))) ?_
  refine QaL (.int .u32 (wv (wget x5 d))) kj kj (fun W hR => (Qae 87 _ g d 87 _ (.int .u32 (wv (wget x5 d))) _ (Qad (Qad r1_11_19 (Qai _)) hR) rfl kj ((Qba (Nat.lt_of_lt_of_eq (by omega) (Qa9 hx5).symm)).trans (congrArg (fun z => some (Value.int .u32 z)) (QaM x5 d))) kj)) ?_
  refine Qak (.slice (some ⟨g, 0, none⟩) 16 cc) kj kj (fun W => by kernel_rfl) ?_
  refine Qak (.int .i64 ((a : Nat) : Int)) kj kj (fun W => by kernel_rfl) ?_
  refine Qak (.pointer (some ⟨g, a, none⟩)) kj kj (fun W => (Qaq 91 _ _ .i64 (a) g 16 cc 87 rfl kj kj kj kj (by omega))) ?_
  refine QaL (.int .u32 (wv (wget x5 a))) kj kj (fun W hR => (Qae 87 _ g a 87 _ (.int .u32 (wv (wget x5 a))) _ (Qad (Qad r1_11_19 (Qai _)) hR) rfl kj ((Qba (Nat.lt_of_lt_of_eq (by omega) (Qa9 hx5).symm)).trans (congrArg (fun z => some (Value.int .u32 z)) (QaM x5 a))) kj)) ?_
  refine Qak (.int .u32 (wv (((wget x5 d)) ^^^ ((wget x5 a))))) kj kj (fun W => (Qah (u := .int .u32 (bits .xor .u32 (wv (wget x5 d)) (wv (wget x5 a)))) kj (congrArg (Value.int .u32) (Qf6 _ _)))) ?_
  refine Qak (.slice (some ⟨g3, 0, none⟩) 4 4) kj kj (fun W => by kernel_rfl) ?_
  refine Qak (.int .i64 2) kj kj (fun W => by kernel_rfl) ?_
  refine Qak (.pointer (some ⟨g3, 2, none⟩)) kj kj (fun W => (Qaq 103 _ _ .i64 (2) g3 4 4 46 rfl kj kj kj kj (by decide))) ?_
  have r3_8 := (Qad r3_7 e8)
  have r3_9 := (Puts.row p9 r3_8 (Qat hg l3))
  have r3_10 := (Qad r3_9 e10)
  have r3_11 := (Puts.row p11 r3_10 (Qat hg l3))
  refine QaL (.int .u64 8) kj kj (fun W hR => (Qae 46 _ g3 2 46 _ (.int .u64 8) _ (Qad (Qad r3_11 (Qai _)) hR) rfl kj kj kj)) ?_
  refine Qck (.int .u32 (wv (rl (((wget x5 d)) ^^^ ((wget x5 a))) 8))) 59 #[.int .u32 (wv (((wget x5 d)) ^^^ ((wget x5 a)))), .int .u64 8] kj kj (fun W => by kernel_rfl) (fun W hR => (QgA (((wget x5 d)) ^^^ ((wget x5 a))) 8 8 rfl (by decide) (by decide)) W) ?_
  refine Qak (.pointer (some ⟨g, d, none⟩)) kj kj (fun W => (Qaq 91 _ _ .i64 (d) g 16 cc 87 rfl kj kj kj kj (by omega))) ?_
  refine Qbn (hF _ kj fun W12 e12 => ?_)
  simp only [ups, up, Kn.val, List.take_succ_cons, List.take_zero, List.drop_succ_cons, List.drop_zero, List.nil_append, List.cons_append]
  clear hF
  have x12 : ExtB g w W12 := ExtB.ext x11 e12
  have r1_12 := (Qad r1_11_19 e12)
  refine Qal g _ (ints .u32 (((x5).set d ((rl (((wget x5 d)) ^^^ ((wget x5 a))) 8))).map wv) ++ rest) 87 r1_12 rfl kj (Qb1 87 _ _ g d 87 _ x5 ((rl (((wget x5 d)) ^^^ ((wget x5 a))) 8)) r1_12 rfl kj kj kj (Nat.lt_of_lt_of_eq (by omega) (Qa9 hx5).symm)) fun W13 p13 r1_13 => ?_
  have x13 : ExtB g w W13 := ExtB.puts x12 p13
  obtain ⟨x6, ex6⟩ : ∃ z : List Wd, z = rs2 x5 d a 8 := ⟨_, rfl⟩
  have hx6 : x6.length = 16 := by rw [ex6, Qfp, hx5]
  have r1_13_21 : W13.heap[g]? = some (.cells (ints .u32 ((x6).map wv) ++ rest) 87) := Qbq r1_13 (by rw [ex6]; rfl)
  refine Qac ?_
  refine hK20 _ _ ?_
  refine wp_seq_k fun K22 hK22 => ?_
  refine Qbf 12 [⟨none, [(0, none)]⟩, ⟨none, [(3, none)]⟩, ⟨none, [(0, none)]⟩, ⟨none, [(3, none)]⟩, ⟨none, [(48, some 2), (49, some 3)]⟩, ⟨none, [(50, some 4)]⟩, ⟨none, [(0, none)]⟩, ⟨none, [(4, none)]⟩, ⟨none, [(52, some 6), (53, some 7)]⟩, ⟨none, [(54, some 8)]⟩, ⟨none, [(51, some 5), (55, some 9)]⟩, ⟨none, [(46, some 0), (47, some 1)]⟩] kj kj fun F hF => ?_
  refine Qak (.slice (some ⟨g, 0, none⟩) 16 cc) kj kj (fun W => by kernel_rfl) ?_
  refine Qak (.int .i64 ((c : Nat) : Int)) kj kj (fun W => by kernel_rfl) ?_
  refine Qak (.slice (some ⟨g, 0, none⟩) 16 cc) kj kj (fun W => by kernel_rfl) ?_
  refine Qak (.int .i64 ((c : Nat) : Int)) kj kj (fun W => by kernel_rfl) ?_
  refine Qak (.pointer (some ⟨g, c, none⟩)) kj kj (fun W => (Qaq 91 _ _ .i64 (c) g 16 cc 87 rfl kj kj kj kj (by omega))) ?_
  refine QaL (.int .u32 (wv (wget x6 c))) kj kj (fun W hR => (Qae 87 _ g c 87 _ (.int .u32 (wv (wget x6 c))) _ (Qad (Qad r1_13_21 (Qai _)) hR) rfl kj ((Qba (Nat.lt_of_lt_of_eq (by omega) (Qa9 hx6).symm)).trans (congrArg (fun z => some (Value.int .u32 z)) (QaM x6 c))) kj)) ?_
  refine Qak (.slice (some ⟨g, 0, none⟩) 16 cc) kj kj (fun W => by kernel_rfl) ?_
  refine Qak (.int .i64 ((d : Nat) : Int)) kj kj (fun W => by kernel_rfl) ?_
  refine Qak (.pointer (some ⟨g, d, none⟩)) kj kj (fun W => (Qaq 91 _ _ .i64 (d) g 16 cc 87 rfl kj kj kj kj (by omega))) ?_
  refine QaL (.int .u32 (wv (wget x6 d))) kj kj (fun W hR => (Qae 87 _ g d 87 _ (.int .u32 (wv (wget x6 d))) _ (Qad (Qad r1_13_21 (Qai _)) hR) rfl kj ((Qba (Nat.lt_of_lt_of_eq (by omega) (Qa9 hx6).symm)).trans (congrArg (fun z => some (Value.int .u32 z)) (QaM x6 d))) kj)) ?_
  refine Qak (.int .u32 (wv (((wget x6 c)) + ((wget x6 d))))) kj kj (fun W => (Qah (u := .int .u32 (IntKind.u32.wrap (wv (wget x6 c) + wv (wget x6 d)))) kj (congrArg (Value.int .u32) (Qd9 _ _)))) ?_
  refine Qak (.pointer (some ⟨g, c, none⟩)) kj kj (fun W => (Qaq 91 _ _ .i64 (c) g 16 cc 87 rfl kj kj kj kj (by omega))) ?_
  refine Qbn (hF _ kj fun W14 e14 => ?_)
  simp only [ups, up, Kn.val, List.take_succ_cons, List.take_zero, List.drop_succ_cons, List.drop_zero, List.nil_append, List.cons_append]
  clear hF
  have x14 : ExtB g w W14 := ExtB.ext x13 e14
  have r1_14 := (Qad r1_13_21 e14)
  refine Qal g _ (ints .u32 (((x6).set c ((((wget x6 c)) + ((wget x6 d))))).map wv) ++ rest) 87 r1_14 rfl kj (Qb1 87 _ _ g c 87 _ x6 ((((wget x6 c)) + ((wget x6 d)))) r1_14 rfl kj kj kj (Nat.lt_of_lt_of_eq (by omega) (Qa9 hx6).symm)) fun W15 p15 r1_15 => ?_
  have x15 : ExtB g w W15 := ExtB.puts x14 p15
  obtain ⟨x7, ex7⟩ : ∃ z : List Wd, z = rs1 x6 c d := ⟨_, rfl⟩
  have hx7 : x7.length = 16 := by rw [ex7, Qfq, hx6]
  have r1_15_23 : W15.heap[g]? = some (.cells (ints .u32 ((x7).map wv) ++ rest) 87) := Qbq r1_15 (by rw [ex7]; rfl)
  refine Qac ?_
  refine hK22 _ _ ?_
  refine Qbf 18 [⟨none, [(0, none)]⟩, ⟨none, [(2, none)]⟩, ⟨none, [(0, none)]⟩, ⟨none, [(2, none)]⟩, ⟨none, [(60, some 2), (61, some 3)]⟩, ⟨none, [(62, some 4)]⟩, ⟨none, [(0, none)]⟩, ⟨none, [(3, none)]⟩, ⟨none, [(64, some 6), (65, some 7)]⟩, ⟨none, [(66, some 8)]⟩, ⟨none, [(63, some 5), (67, some 9)]⟩, ⟨none, [(10, none)]⟩, ⟨none, [(11, none)]⟩, ⟨none, [(70, some 12)]⟩, ⟨none, [(69, some 11), (71, some 13)]⟩, ⟨none, [(72, some 14)]⟩, ⟨none, [(68, some 10), (73, some 15)]⟩, ⟨none, [(58, some 0), (59, some 1)]⟩] kj kj fun F hF => ?_
  refine Qak (.slice (some ⟨g, 0, none⟩) 16 cc) kj kj (fun W => by kernel_rfl) ?_
  refine Qak (.int .i64 ((b : Nat) : Int)) kj kj (fun W => by kernel_rfl) ?_
  refine Qak (.slice (some ⟨g, 0, none⟩) 16 cc) kj kj (fun W => by kernel_rfl) ?_
  refine Qak (.int .i64 ((b : Nat) : Int)) kj kj (fun W => by kernel_rfl) ?_
  refine Qak (.pointer (some ⟨g, b, none⟩)) kj kj (fun W => (Qaq 91 _ _ .i64 (b) g 16 cc 87 rfl kj kj kj kj (by omega))) ?_
  refine QaL (.int .u32 (wv (wget x7 b))) kj kj (fun W hR => (Qae 87 _ g b 87 _ (.int .u32 (wv (wget x7 b))) _ (Qad (Qad r1_15_23 (Qai _)) hR) rfl kj ((Qba (Nat.lt_of_lt_of_eq (by omega) (Qa9 hx7).symm)).trans (congrArg (fun z => some (Value.int .u32 z)) (QaM x7 b))) kj)) ?_
  refine Qak (.slice (some ⟨g, 0, none⟩) 16 cc) kj kj (fun W => by kernel_rfl) ?_
  refine Qak (.int .i64 ((c : Nat) : Int)) kj kj (fun W => by kernel_rfl) ?_
  refine Qak (.pointer (some ⟨g, c, none⟩)) kj kj (fun W => (Qaq 91 _ _ .i64 (c) g 16 cc 87 rfl kj kj kj kj (by omega))) ?_
  refine QaL (.int .u32 (wv (wget x7 c))) kj kj (fun W hR => (Qae 87 _ g c 87 _ (.int .u32 (wv (wget x7 c))) _ (Qad (Qad r1_15_23 (Qai _)) hR) rfl kj ((Qba (Nat.lt_of_lt_of_eq (by omega) (Qa9 hx7).symm)).trans (congrArg (fun z => some (Value.int .u32 z)) (QaM x7 c))) kj)) ?_
  refine Qak (.int .u32 (wv (((wget x7 b)) ^^^ ((wget x7 c))))) kj kj (fun W => (Qah (u := .int .u32 (bits .xor .u32 (wv (wget x7 b)) (wv (wget x7 c)))) kj (congrArg (Value.int .u32) (Qf6 _ _)))) ?_
  refine Qak (.slice (some ⟨g3, 0, none⟩) 4 4) kj kj (fun W => by kernel_rfl) ?_
  refine Qak (.int .i64 2) kj kj (fun W => by kernel_rfl) ?_
  refine Qak (.int .i64 3) kj kj (fun W => by kernel_rfl) ?_
  refine Qak (.pointer (some ⟨g3, 3, none⟩)) kj kj (fun W => (Qaq 103 _ _ .i64 (3) g3 4 4 46 rfl kj kj kj kj (by decide))) ?_
  have r3_12 := (Qad r3_11 e12)
  have r3_13 := (Puts.row p13 r3_12 (Qat hg l3))
  have r3_14 := (Qad r3_13 e14)
  have r3_15 := (Puts.row p15 r3_14 (Qat hg l3))
  refine QaL (.int .u64 7) kj kj (fun W hR => (Qae 46 _ g3 3 46 _ (.int .u64 7) _ (Qad (Qad r3_15 (Qai _)) hR) rfl kj kj kj)) ?_
  refine Qck (.int .u32 (wv (rl (((wget x7 b)) ^^^ ((wget x7 c))) 7))) 59 #[.int .u32 (wv (((wget x7 b)) ^^^ ((wget x7 c)))), .int .u64 7] kj kj (fun W => by kernel_rfl) (fun W hR => (QgA (((wget x7 b)) ^^^ ((wget x7 c))) 7 7 rfl (by decide) (by decide)) W) ?_
  refine Qak (.pointer (some ⟨g, b, none⟩)) kj kj (fun W => (Qaq 91 _ _ .i64 (b) g 16 cc 87 rfl kj kj kj kj (by omega))) ?_
  refine Qbn (hF _ kj fun W16 e16 => ?_)
  simp only [ups, up, Kn.val, List.take_succ_cons, List.take_zero, List.drop_succ_cons, List.drop_zero, List.nil_append, List.cons_append]
  clear hF
  have x16 : ExtB g w W16 := ExtB.ext x15 e16
  have r1_16 := (Qad r1_15_23 e16)
  refine Qal g _ (ints .u32 (((x7).set b ((rl (((wget x7 b)) ^^^ ((wget x7 c))) 7))).map wv) ++ rest) 87 r1_16 rfl kj (Qb1 87 _ _ g b 87 _ x7 ((rl (((wget x7 b)) ^^^ ((wget x7 c))) 7)) r1_16 rfl kj kj kj (Nat.lt_of_lt_of_eq (by omega) (Qa9 hx7).symm)) fun W17 p17 r1_17 => ?_
  have x17 : ExtB g w W17 := ExtB.puts x16 p17
  obtain ⟨x8, ex8⟩ : ∃ z : List Wd, z = rs2 x7 b c 7 := ⟨_, rfl⟩
  have hx8 : x8.length = 16 := by rw [ex8, Qfp, hx7]
  have r1_17_24 : W17.heap[g]? = some (.cells (ints .u32 ((x8).map wv) ++ rest) 87) := Qbq r1_17 (by rw [ex8]; rfl)
  refine Qac ?_
  refine hK17 _ _ ?_
  refine Qab ?_
  refine Qaa (.int .i64 2) 15 rfl kj kj ?_
  refine Qaa (.int .i64 4) 16 rfl kj kj ?_
  refine Qaa (.int .i64 4) 11 rfl kj kj ?_
  refine Qac ?_
  show Code.rounds _ _ _ 1 _ _
  show Code.wp _ _ (Exit.then (Code.rounds _ _ _ 0) _) _ _
  refine wp_seq_k fun K25 hK25 => ?_
  refine wp_seq_k fun K26 hK26 => ?_
  refine Qab ?_
  refine Qaa (.int .i64 4) 13 rfl kj kj ?_
  refine Qaa (.bool false) 14 rfl kj kj ?_
  refine Qac ?_
  refine hK26 _ _ ?_
  refine cond_false kj ?_
  refine wp_exit ?_
  repeat (first | with_reducible refine goX1 ?_ | with_reducible refine goX2 ?_ | with_reducible refine goX3 ?_)
  exact (show bodyPost _ _ _ .normal _ _ from end0 rfl ⟨rfl, x17, by rw [show rqrt x a b c d = x8 by rw [ex8, ex7, ex6, ex5, ex4, ex3, ex2, ex1]; rfl]; exact r1_17_24⟩)
set_option maxHeartbeats 4000000 in
theorem Qgi (b : List Int) (v : Value) (B : Nat) (w : World) (hb : RdK .u8 B b v w) (hl : b.length ≤ 1000000) : Calls Tryd.prog 53 #[v] w (Qcb w (OwnN .u32 87 w.heap.size ((rwords b).map wv))) := by
 obtain ⟨a_b, c_b, rfl, -⟩ := id hb
 refine enter 45 [(0, .slice a_b b.length c_b)] Tryd.func53 rfl rfl kj rfl ?_
 refine wp_seq_k fun K1 hK1 => ?_
 refine Qab ?_
 refine Qaa (.slice none 0 0) 2 rfl kj kj ?_
 refine Qac ?_
 refine hK1 _ _ ?_
 refine wp_seq_k fun K2 hK2 => ?_
 refine Qab ?_
 refine Qaa (.slice none 0 0) 3 rfl kj kj ?_
 refine Qac ?_
 refine hK2 _ _ ?_
 refine wp_seq_k fun K3 hK3 => ?_
 refine wp_seq_k fun K4 hK4 => ?_
 refine Qab ?_
 refine Qaa (.int .i64 0) 4 rfl kj kj ?_
 refine Qac ?_
 refine hK4 _ _ ?_
 refine wp_block ?_
 refine QaH (fun (s1 : Nat × Value) => [(0, .slice a_b b.length c_b), (3, s1.2), (4, .int .i64 ((4 * s1.1 : Nat) : Int))]) (fun (s1 : Nat × Value) W => (4 * s1.1 ≤ b.length) ∧ (OwnN .u32 87 w.heap.size ((rws b s1.1).map wv) s1.2 W) ∧ (Ext w W)) (fun (s1 : Nat × Value) => b.length - 4 * s1.1) (0, (.slice none 0 0)) ⟨rfl, rfl, rfl, trivial⟩ ⟨(Nat.zero_le _), (QbW _ _ _ _), (Rely.Ext.refl w)⟩ fun s1 X1 V1 hI1 => ?_
 obtain ⟨j, u⟩ := s1
 obtain ⟨hj, hu, xx1⟩ := hI1
 replace hj : 4 * j ≤ b.length := hj
 replace hu : OwnN .u32 87 w.heap.size ((rws b j).map wv) u V1 := hu
 replace xx1 : Ext w V1 := xx1
 refine wp_seq_k fun K5 hK5 => ?_
 refine wp_seq_k fun K6 hK6 => ?_
 refine Qab ?_
 refine Qaa (.int .i64 ((4 * j : Nat) : Int)) 5 rfl kj kj ?_
 refine Qaa (.int .i64 (((4 * j) + 4 : Nat) : Int)) 6 rfl kj (Qah (u := .int .i64 (IntKind.i64.wrap (((4 * j : Nat) : Int) + 4))) kj (congrArg (Value.int .i64) (i64n _ _ (by omega) (by omega)))) ?_
 refine Qaa (.slice a_b b.length c_b) 7 rfl kj kj ?_
 refine Qaa (.int .i64 ((b.length : Nat) : Int)) 8 rfl kj kj ?_
 refine Qaa (.bool (decide ((((4 * j) + 4 : Nat) : Int) ≤ ((b.length : Nat) : Int)))) 9 rfl kj kj ?_
 refine Qac ?_
 refine hK6 _ _ ?_
 refine Qa8 (t := decide ((((4 * j) + 4 : Nat) : Int) ≤ ((b.length : Nat) : Int))) kj (fun c7 => ?_) (fun c7 => ?_)
 ·skip
  have hlt : 4 * j + 4 ≤ b.length := by have := of_decide_eq_true c7; omega
  obtain ⟨gb, ob, hab, -, hlb, hcb⟩ := Qb4 (RdK.ext hb xx1) (by omega)
  refine wp_skip ?_
  refine hK5 _ _ ?_
  refine wp_seq_k fun K9 hK9 => ?_
  refine wp_block ?_
  refine QaX 31 [⟨none, [(3, none)]⟩, ⟨none, [(0, none)]⟩, ⟨none, [(4, none)]⟩, ⟨none, [(13, some 1), (14, some 2)]⟩, ⟨none, [(15, some 3)]⟩, ⟨none, [(16, some 4)]⟩, ⟨none, [(0, none)]⟩, ⟨none, [(4, none)]⟩, ⟨none, [(19, some 7)]⟩, ⟨none, [(18, some 6), (20, some 8)]⟩, ⟨none, [(21, some 9)]⟩, ⟨none, [(22, some 10)]⟩, ⟨none, [(23, some 11)]⟩, ⟨none, [(17, some 5), (24, some 12)]⟩, ⟨none, [(0, none)]⟩, ⟨none, [(4, none)]⟩, ⟨none, [(27, some 15)]⟩, ⟨none, [(26, some 14), (28, some 16)]⟩, ⟨none, [(29, some 17)]⟩, ⟨none, [(30, some 18)]⟩, ⟨none, [(31, some 19)]⟩, ⟨none, [(25, some 13), (32, some 20)]⟩, ⟨none, [(0, none)]⟩, ⟨none, [(4, none)]⟩, ⟨none, [(35, some 23)]⟩, ⟨none, [(34, some 22), (36, some 24)]⟩, ⟨none, [(37, some 25)]⟩, ⟨none, [(38, some 26)]⟩, ⟨none, [(39, some 27)]⟩, ⟨none, [(33, some 21), (40, some 28)]⟩, ⟨none, [(41, some 29)]⟩] kj kj fun F hF => ?_
  refine Qa2 (Qam _) (u) kj kj (fun W => by kernel_rfl) ?_
  refine Qa2 (Qam _) (.slice a_b b.length c_b) kj kj (fun W => by kernel_rfl) ?_
  refine Qa2 (Qam _) (.int .i64 ((4 * j : Nat) : Int)) kj kj (fun W => by kernel_rfl) ?_
  refine Qa2 (Qam _) (.pointer (some ⟨gb, ob + (4 * j), none⟩)) kj kj (fun W => (QaJ 24 _ _ .i64 (4 * j) gb ob b.length c_b 5 a_b _ hab rfl rfl kj kj kj kj (Nat.lt_of_lt_of_eq (show 4 * j < b.length by omega) (rfl : b.length = b.length).symm))) ?_
  refine Qbm (Qam _) (.int .u8 (nth (b) ((4 * j)))) kj kj (fun W hR => (Qav 5 _ _ (.int .u8 (nth (b) ((4 * j)))) ((Below.cell (Rely.Ext.trans (Qai _) hR) hlb).trans (hcb (4 * j) (Nat.lt_of_lt_of_eq (show 4 * j < b.length by omega) (rfl : b.length = b.length).symm))) rfl kj kj)) ?_
  refine Qa2 (Qam _) (.int .u32 (wv (BitVec.ofInt 32 (nth b (4 * j))))) kj kj (fun W => (Qah (u := .int .u32 (IntKind.u32.wrap (nth (b) ((4 * j))))) kj (congrArg (Value.int .u32) (Qgd b (4 * j))))) ?_
  refine Qa2 (Qam _) (.slice a_b b.length c_b) kj kj (fun W => by kernel_rfl) ?_
  refine Qa2 (Qam _) (.int .i64 ((4 * j : Nat) : Int)) kj kj (fun W => by kernel_rfl) ?_
  refine Qa2 (Qam _) (.int .i64 (((4 * j) + 1 : Nat) : Int)) kj kj (fun W => (Qah (u := .int .i64 (IntKind.i64.wrap (((4 * j : Nat) : Int) + 1))) kj (congrArg (Value.int .i64) (i64n _ _ (by omega) (by omega))))) ?_
  refine Qa2 (Qam _) (.pointer (some ⟨gb, ob + ((4 * j) + 1), none⟩)) kj kj (fun W => (QaJ 24 _ _ .i64 ((4 * j) + 1) gb ob b.length c_b 5 a_b _ hab rfl rfl kj kj kj kj (Nat.lt_of_lt_of_eq (show (4 * j) + 1 < b.length by omega) (rfl : b.length = b.length).symm))) ?_
  refine Qbm (Qam _) (.int .u8 (nth (b) (((4 * j) + 1)))) kj kj (fun W hR => (Qav 5 _ _ (.int .u8 (nth (b) (((4 * j) + 1)))) ((Below.cell (Rely.Ext.trans (Qai _) hR) hlb).trans (hcb ((4 * j) + 1) (Nat.lt_of_lt_of_eq (show (4 * j) + 1 < b.length by omega) (rfl : b.length = b.length).symm))) rfl kj kj)) ?_
  refine Qa2 (Qam _) (.int .u32 (wv (BitVec.ofInt 32 (nth b (4 * j + 1))))) kj kj (fun W => (Qah (u := .int .u32 (IntKind.u32.wrap (nth (b) (((4 * j) + 1))))) kj (congrArg (Value.int .u32) (Qgd b (4 * j + 1))))) ?_
  refine Qa2 (Qam _) (.int .u32 (wv (BitVec.ofInt 32 (nth b (4 * j + 1)) <<< 8))) kj kj (fun W => (Qah (u := .int .u32 (IntKind.u32.wrap (256 * (wv (BitVec.ofInt 32 (nth b (4 * j + 1))))))) kj (congrArg (Value.int .u32) (mulW _ 256 8 rfl (by decide))))) ?_
  refine Qa2 (Qam _) (.int .u32 (wv (((BitVec.ofInt 32 (nth b (4 * j)))) + ((BitVec.ofInt 32 (nth b (4 * j + 1)) <<< 8))))) kj kj (fun W => (Qah (u := .int .u32 (IntKind.u32.wrap (wv (BitVec.ofInt 32 (nth b (4 * j))) + wv (BitVec.ofInt 32 (nth b (4 * j + 1)) <<< 8)))) kj (congrArg (Value.int .u32) (Qd9 _ _)))) ?_
  refine Qa2 (Qam _) (.slice a_b b.length c_b) kj kj (fun W => by kernel_rfl) ?_
  refine Qa2 (Qam _) (.int .i64 ((4 * j : Nat) : Int)) kj kj (fun W => by kernel_rfl) ?_
  refine Qa2 (Qam _) (.int .i64 (((4 * j) + 2 : Nat) : Int)) kj kj (fun W => (Qah (u := .int .i64 (IntKind.i64.wrap (((4 * j : Nat) : Int) + 2))) kj (congrArg (Value.int .i64) (i64n _ _ (by omega) (by omega))))) ?_
  refine Qa2 (Qam _) (.pointer (some ⟨gb, ob + ((4 * j) + 2), none⟩)) kj kj (fun W => (QaJ 24 _ _ .i64 ((4 * j) + 2) gb ob b.length c_b 5 a_b _ hab rfl rfl kj kj kj kj (Nat.lt_of_lt_of_eq (show (4 * j) + 2 < b.length by omega) (rfl : b.length = b.length).symm))) ?_
  refine Qbm (Qam _) (.int .u8 (nth (b) (((4 * j) + 2)))) kj kj (fun W hR => (Qav 5 _ _ (.int .u8 (nth (b) (((4 * j) + 2)))) ((Below.cell (Rely.Ext.trans (Qai _) hR) hlb).trans (hcb ((4 * j) + 2) (Nat.lt_of_lt_of_eq (show (4 * j) + 2 < b.length by omega) (rfl : b.length = b.length).symm))) rfl kj kj)) ?_
  refine Qa2 (Qam _) (.int .u32 (wv (BitVec.ofInt 32 (nth b (4 * j + 2))))) kj kj (fun W => (Qah (u := .int .u32 (IntKind.u32.wrap (nth (b) (((4 * j) + 2))))) kj (congrArg (Value.int .u32) (Qgd b (4 * j + 2))))) ?_
  refine Qa2 (Qam _) (.int .u32 (wv (BitVec.ofInt 32 (nth b (4 * j + 2)) <<< 16))) kj kj (fun W => (Qah (u := .int .u32 (IntKind.u32.wrap (65536 * (wv (BitVec.ofInt 32 (nth b (4 * j + 2))))))) kj (congrArg (Value.int .u32) (mulW _ 65536 16 rfl (by decide))))) ?_
  refine Qa2 (Qam _) (.int .u32 (wv (((((BitVec.ofInt 32 (nth b (4 * j)))) + ((BitVec.ofInt 32 (nth b (4 * j + 1)) <<< 8)))) + ((BitVec.ofInt 32 (nth b (4 * j + 2)) <<< 16))))) kj kj (fun W => (Qah (u := .int .u32 (IntKind.u32.wrap (wv (((BitVec.ofInt 32 (nth b (4 * j)))) + ((BitVec.ofInt 32 (nth b (4 * j + 1)) <<< 8))) + wv (BitVec.ofInt 32 (nth b (4 * j + 2)) <<< 16)))) kj (congrArg (Value.int .u32) (Qd9 _ _)))) ?_
  refine Qa2 (Qam _) (.slice a_b b.length c_b) kj kj (fun W => by kernel_rfl) ?_
  refine Qa2 (Qam _) (.int .i64 ((4 * j : Nat) : Int)) kj kj (fun W => by kernel_rfl) ?_
  refine Qa2 (Qam _) (.int .i64 (((4 * j) + 3 : Nat) : Int)) kj kj (fun W => (Qah (u := .int .i64 (IntKind.i64.wrap (((4 * j : Nat) : Int) + 3))) kj (congrArg (Value.int .i64) (i64n _ _ (by omega) (by omega))))) ?_
  refine Qa2 (Qam _) (.pointer (some ⟨gb, ob + ((4 * j) + 3), none⟩)) kj kj (fun W => (QaJ 24 _ _ .i64 ((4 * j) + 3) gb ob b.length c_b 5 a_b _ hab rfl rfl kj kj kj kj (Nat.lt_of_lt_of_eq (show (4 * j) + 3 < b.length by omega) (rfl : b.length = b.length).symm))) ?_
  refine Qbm (Qam _) (.int .u8 (nth (b) (((4 * j) + 3)))) kj kj (fun W hR => (Qav 5 _ _ (.int .u8 (nth (b) (((4 * j) + 3)))) ((Below.cell (Rely.Ext.trans (Qai _) hR) hlb).trans (hcb ((4 * j) + 3) (Nat.lt_of_lt_of_eq (show (4 * j) + 3 < b.length by omega) (rfl : b.length = b.length).symm))) rfl kj kj)) ?_
  refine Qa2 (Qam _) (.int .u32 (wv (BitVec.ofInt 32 (nth b (4 * j + 3))))) kj kj (fun W => (Qah (u := .int .u32 (IntKind.u32.wrap (nth (b) (((4 * j) + 3))))) kj (congrArg (Value.int .u32) (Qgd b (4 * j + 3))))) ?_
  refine Qa2 (Qam _) (.int .u32 (wv (BitVec.ofInt 32 (nth b (4 * j + 3)) <<< 24))) kj kj (fun W => (Qah (u := .int .u32 (IntKind.u32.wrap (16777216 * (wv (BitVec.ofInt 32 (nth b (4 * j + 3))))))) kj (congrArg (Value.int .u32) (mulW _ 16777216 24 rfl (by decide))))) ?_
  refine Qa2 (Qam _) (.int .u32 (wv (rw4 b j))) kj kj (fun W => (Qah (u := .int .u32 (IntKind.u32.wrap ((wv (((((BitVec.ofInt 32 (nth b (4 * j)))) + ((BitVec.ofInt 32 (nth b (4 * j + 1)) <<< 8)))) + ((BitVec.ofInt 32 (nth b (4 * j + 2)) <<< 16)))) + (wv (BitVec.ofInt 32 (nth b (4 * j + 3)) <<< 24))))) kj (congrArg (Value.int .u32) (Qd9 _ _)))) ?_
  refine QgU (Qam _) (ints .u32 ([(wv (rw4 b j))])) 87 1 (NewS.stable _ _ _ _) kj kj (fun W => by kernel_rfl) ?_
  refine QcG (hF _ fun W2 e2 => ?_)
  simp only [List.nil_append, List.cons_append, List.take_succ_cons, List.take_zero, List.drop_succ_cons, List.drop_zero, finE, up]
  intro vv10 hv10
  clear hF
  have x2 : Ext w W2 := Ext.tr xx1 e2
  obtain ⟨g10, rfl, l10, r10_2⟩ := hv10
  have b10 : w.heap.size ≤ g10 := Nat.le_trans xx1.size l10
  have f11_2 := (hu.ext e2)
  have y0_2 : Ext w W2 := (Rely.Ext.trans xx1 e2)
  refine QaE (k := .u32) (T := 87) (xs := (rws b j).map wv) (ys := [(wv (rw4 b j))]) (V := w) 4 (.tmp 12) (.tmp 42) 91 rfl kj kj (by decide) 43 rfl kj kj kj f11_2 (QaP (xs := [(wv (rw4 b j))]) (n := 1) rfl r10_2 (QaA r10_2) (show 1 ≤ maxLen from by decide)) (by simp only [List.length_map, QhA, List.length_cons, List.length_nil]; omega) y0_2 fun z1 W3 f12 y3 l3 => ?_
  have x3 : Ext w W3 := Ext.low x2 l3 (Rely.Ext.refl w).size
  refine Qaa (z1) 3 rfl kj kj ?_
  refine Qac ?_
  refine hK9 _ _ ?_
  refine Qab ?_
  refine Qaa (.int .i64 ((4 * j : Nat) : Int)) 10 rfl kj kj ?_
  refine Qaa (.int .i64 (((4 * j) + 4 : Nat) : Int)) 11 rfl kj (Qah (u := .int .i64 (IntKind.i64.wrap (((4 * j : Nat) : Int) + 4))) kj (congrArg (Value.int .i64) (i64n _ _ (by omega) (by omega)))) ?_
  refine Qaa (.int .i64 (((4 * j) + 4 : Nat) : Int)) 4 rfl kj kj ?_
  refine Qac ?_
  repeat (first | with_reducible refine goX1 ?_ | with_reducible refine goX2 ?_ | with_reducible refine goX3 ?_)
  exact Qaz ((j + 1), z1) ⟨rfl, rfl, rfl, trivial⟩ ⟨(by omega), (by rw [Qiw]; exact f12), x3⟩ (by show b.length - 4 * (j + 1) < b.length - 4 * j; omega)
 ·skip
  have hge : b.length / 4 = j := by have := of_decide_eq_false c7; omega
  refine wp_exit ?_
  refine hK3 _ _ ?_
  refine wp_seq_k fun K14 hK14 => ?_
  refine Qab ?_
  refine Qaa (u) 44 rfl kj kj ?_
  refine Qaa (u) 2 rfl kj kj ?_
  refine Qac ?_
  refine hK14 _ _ ?_
  refine wp_ret ?_
  repeat (first | with_reducible refine goR1 ?_ | with_reducible refine goR2 ?_)
  exact (show bodyPost _ _ _ .ret _ _ from ret1 (u) rfl (QaC kj) ⟨u, rfl, xx1, by unfold rwords; rw [hge]; exact hu⟩)
end Go.Proofs.YtjldjdlhllgakaaDoor.Cha
end
section
namespace Go.Proofs.YtjldjdlhllgakaaDoor.Cha
open Go Go.RowKit
open Rely Auto Own Sha
set_option linter.unusedVariables false
set_option linter.unusedSimpArgs false
open Sha
theorem QeX (b : List Int) (n : Nat) (h : b.length = 4 * n) : (rwords b).length = n := by unfold rwords; rw [QhA]; omega
theorem Qhh : rwords [101, 120, 112, 97, 110, 100, 32, 51, 50, 45, 98, 121, 116, 101, 32, 107] = [1634760805, 857760878, 2036477234, 1797285236] := by decide +kernel
theorem Qix (b : List Int) (h : b.length = 32) (hb : Qaj b) : rwords b = [le4 (sub4 b 0), le4 (sub4 b 1), le4 (sub4 b 2), le4 (sub4 b 3), le4 (sub4 b 4), le4 (sub4 b 5), le4 (sub4 b 6), le4 (sub4 b 7)] := by
  have e : rwords b = [rw4 b 0, rw4 b 1, rw4 b 2, rw4 b 3, rw4 b 4, rw4 b 5, rw4 b 6, rw4 b 7] := by unfold rwords; rw [h]; rfl
  rw [e]; simp only [Qjf b _ (Qa1 hb)]
theorem Qiy (b : List Int) (h : b.length = 12) (hb : Qaj b) : rwords b = [le4 (sub4 b 0), le4 (sub4 b 1), le4 (sub4 b 2)] := by
  have e : rwords b = [rw4 b 0, rw4 b 1, rw4 b 2] := by unfold rwords; rw [h]; rfl
  rw [e]; simp only [Qjf b _ (Qa1 hb)]
theorem rstart (key nonce : List Int) (number : Int) (hk : key.length = 32) (hkb : Qaj key) (hn : nonce.length = 12) (hnb : Qaj nonce) :
    rwords [101, 120, 112, 97, 110, 100, 32, 51, 50, 45, 98, 121, 116, 101, 32, 107] ++ rwords key ++ [BitVec.ofInt 32 number] ++ rwords nonce = (QaG key nonce).set 12 (BitVec.ofInt 32 number) := by
  rw [Qhh, Qix key hk hkb, Qiy nonce hn hnb]; rfl
theorem Qkp (x s : List Wd) (i : Nat) (hi : i < 64) : IntKind.u8.wrap (wv ((wget x (i / 4) + wget s (i / 4)) >>> (8 * (i % 4)))) = nth (Qb7 x s) i := by
  have h := Qkq x s (i / 4) (i % 4) (by omega) (by omega)
  rw [show 4 * (i / 4) + i % 4 = i by omega] at h
  exact h
set_option maxRecDepth 100000 in
set_option maxHeartbeats 4000000 in
theorem Qft (key nonce : List Int) (v : Value) (B : Nat) (number : Int) (w : World) (hkl : key.length = 32) (hn : RdK .u8 B nonce v w) (h : nonce.length = 12) (h1 : 0 ≤ number) (h2 : number ≤ 4294967295) (hkb : Qaj key) (hnb : Qaj nonce) : Calls Tryd.prog 45 #[.agg (ints .u8 key), v, .int .i64 number] w (Ret w (.tuple #[.agg (ints .u8 (QaS (QaG key nonce) number)), .int .i64 0])) := by
 obtain ⟨a_n, c_n, rfl, -⟩ := id hn
 have hlE : (rwords [101, 120, 112, 97, 110, 100, 32, 51, 50, 45, 98, 121, 116, 101, 32, 107]).length = 4 := rfl
 have hlK : (rwords key).length = 8 := QeX key 8 hkl
 have hlN : (rwords nonce).length = 3 := QeX nonce 3 h
 refine enter 105 [(0, .agg (ints .u8 (key))), (1, .slice a_n nonce.length c_n), (2, .int .i64 number)] Tryd.func45 rfl rfl kj rfl ?_
 refine wp_seq_k fun K1 hK1 => ?_
 refine Qab ?_
 refine Qar (ints .u8 (key)) 23 3 rfl kj kj fun g2 W1 l2 e1 r2_1 => ?_
 have x1 : Ext w W1 := Ext.tr (Rely.Ext.refl w) e1
 have b2 : w.heap.size ≤ g2 := Nat.le_trans (Rely.Ext.refl w).size l2
 refine Qar (ints .u8 (List.replicate 64 0)) 78 6 rfl kj kj fun g3 W2 l3 e2 r3_2 => ?_
 have x2 : Ext w W2 := Ext.tr x1 e2
 have b3 : w.heap.size ≤ g3 := Nat.le_trans x1.size l3
 refine Qaa (.int .i64 0) 7 rfl kj kj ?_
 refine Qac ?_
 refine hK1 _ _ ?_
 refine wp_seq_k fun K4 hK4 => ?_
 refine Qab ?_
 refine Qar (ints .u8 (List.replicate 64 0)) 78 8 rfl kj kj fun g5 W3 l5 e3 r5_3 => ?_
 have x3 : Ext w W3 := Ext.tr x2 e3
 have b5 : w.heap.size ≤ g5 := Nat.le_trans x2.size l5
 refine Qac ?_
 refine hK4 _ _ ?_
 refine wp_seq_k fun K6 hK6 => ?_
 refine wp_seq_k fun K7 hK7 => ?_
 refine Qab ?_
 refine Qaa (.slice a_n nonce.length c_n) 15 rfl kj kj ?_
 refine Qaa (.int .i64 ((nonce.length : Nat) : Int)) 16 rfl kj kj ?_
 refine Qaa (.bool false) 17 rfl kj (Qah (u := .bool ((((nonce.length : Nat) : Int) != 12))) kj (congrArg Value.bool (by simp; omega))) ?_
 refine Qac ?_
 refine hK7 _ _ ?_
 refine cond_false kj ?_
 refine wp_skip ?_
 refine hK6 _ _ ?_
 refine wp_seq_k fun K8 hK8 => ?_
 refine wp_seq_k fun K9 hK9 => ?_
 refine Qab ?_
 refine Qaa (.int .i64 number) 19 rfl kj kj ?_
 refine Qaa (.bool false) 20 rfl kj (Qah (u := .bool (decide (number < 0))) kj (congrArg Value.bool (decide_eq_false (by omega)))) ?_
 refine Qaa (.bool false) 21 rfl kj kj ?_
 refine Qaa (.int .i64 number) 22 rfl kj kj ?_
 refine Qaa (.bool false) 23 rfl kj (Qah (u := .bool (decide (number > 4294967295))) kj (congrArg Value.bool (decide_eq_false (by omega)))) ?_
 refine Qaa (.bool false) 24 rfl kj kj ?_
 refine Qac ?_
 refine hK9 _ _ ?_
 refine cond_false kj ?_
 refine wp_skip ?_
 refine hK8 _ _ ?_
 refine wp_seq_k fun K10 hK10 => ?_
 refine Qab ?_
 refine QaD (ints .u8 ([101, 120, 112, 97, 110, 100, 32, 51, 50, 45, 98, 121, 116, 101, 32, 107])) 5 16 26 rfl kj kj fun g11 W4 l11 e4 r11_4 => ?_
 have x4 : Ext w W4 := Ext.tr x3 e4
 have b11 : w.heap.size ≤ g11 := Nat.le_trans x3.size l11
 refine Qdn (xs := [101, 120, 112, 97, 110, 100, 32, 51, 50, 45, 98, 121, 116, 101, 32, 107]) 24 5 (.tmp 26) 27 rfl rfl kj kj kj kj rfl (show 16 ≤ maxLen by decide) r11_4 fun W5 p5 r11_5 rd12 => ?_
 have x5 : Ext w W5 := Puts.ext p5 x4 b11
 refine Qaw (fun v W' => (OwnN .u32 87 W5.heap.size ((rwords ([101, 120, 112, 97, 110, 100, 32, 51, 50, 45, 98, 121, 116, 101, 32, 107])).map wv)) v W' ∧ Ext W5 W') 53 #[.slice (some ⟨g11, 0, none⟩) 16 16] 28 rfl kj kj ((Qgi ([101, 120, 112, 97, 110, 100, 32, 51, 50, 45, 98, 121, 116, 101, 32, 107]) _ _ _ rd12 (by decide)).mono (by rintro e w' ⟨v, rfl, e1, hv⟩; exact ⟨v, rfl, hv, e1⟩)) fun vv13 W6 hh13 => ?_
 obtain ⟨hv13, e6⟩ := hh13
 have x6 : Ext w W6 := Ext.tr x5 e6
 refine Qaa (vv13) 9 rfl kj kj ?_
 refine Qac ?_
 refine hK10 _ _ ?_
 refine wp_seq_k fun K14 hK14 => ?_
 refine Qab ?_
 refine Qaa (vv13) 29 rfl kj kj ?_
 refine Qaa (.slice (some ⟨g2, 0, none⟩) 32 32) 30 rfl kj kj ?_
 have r2_2 := (Qad r2_1 e2)
 have r2_3 := (Qad r2_2 e3)
 have r2_4 := (Qad r2_3 e4)
 have r2_5 := (Puts.row p5 r2_4 (Qag r2_3 l11))
 have r2_6 := (Qad r2_5 e6)
 refine Qaw (fun v W' => (OwnN .u32 87 W6.heap.size ((rwords key).map wv)) v W' ∧ Ext W6 W') 53 #[.slice (some ⟨g2, 0, none⟩) 32 32] 31 rfl kj kj ((Qgi key _ _ _ (QaP (xs := key) (n := 32) hkl r2_6 (QaA r2_6) (show 32 ≤ maxLen from by decide)) (by omega)).mono (by rintro e w' ⟨v, rfl, e1, hv⟩; exact ⟨v, rfl, hv, e1⟩)) fun vv15 W7 hh15 => ?_
 obtain ⟨hv15, e7⟩ := hh15
 have x7 : Ext w W7 := Ext.tr x6 e7
 have y5_6 : Ext W5 W6 := (Rely.Ext.trans (Rely.Ext.refl W5) e6)
 have f16_7 := (hv13.ext e7)
 have y5_7 : Ext W5 W7 := (Rely.Ext.trans y5_6 e7)
 refine QaE (k := .u32) (T := 87) (xs := (rwords ([101, 120, 112, 97, 110, 100, 32, 51, 50, 45, 98, 121, 116, 101, 32, 107])).map wv) (ys := (rwords key).map wv) (V := W5) 4 (.tmp 29) (.tmp 31) 91 rfl kj kj (by decide) 32 rfl kj kj kj f16_7 (OwnN.rd (OwnN.base y5_6.size hv15)) (by simp only [List.length_append, List.length_map, hlE, hlK, hlN, List.length_cons, List.length_nil]; omega) y5_7 fun z1 W8 f17 y8 l8 => ?_
 have x8 : Ext w W8 := Ext.low x7 l8 x5.size
 refine Qaa (z1) 9 rfl kj kj ?_
 refine Qac ?_
 refine hK14 _ _ ?_
 refine wp_seq_k fun K19 hK19 => ?_
 refine Qab ?_
 refine Qaa (z1) 33 rfl kj kj ?_
 refine Qaa (.int .i64 number) 34 rfl kj kj ?_
 refine Qaa (.int .u32 (wv (BitVec.ofInt 32 number))) 35 rfl kj (Qah (u := .int .u32 (IntKind.u32.wrap (number))) kj (congrArg (Value.int .u32) (by rw [Go.Proofs.YtjldjdlhllgakaaDoor.Sha.wrap32, Qfi]))) ?_
 refine QaD (ints .u32 ([(wv (BitVec.ofInt 32 number))])) 87 1 36 rfl kj kj fun g20 W9 l20 e9 r20_9 => ?_
 have x9 : Ext w W9 := Ext.tr x8 e9
 have b20 : w.heap.size ≤ g20 := Nat.le_trans x8.size l20
 have f21_9 := (f17.ext e9)
 have y5_9 : Ext W5 W9 := (Rely.Ext.trans y8 e9)
 refine QaE (k := .u32) (T := 87) (xs := (rwords ([101, 120, 112, 97, 110, 100, 32, 51, 50, 45, 98, 121, 116, 101, 32, 107])).map wv ++ (rwords key).map wv) (ys := [(wv (BitVec.ofInt 32 number))]) (V := W5) 4 (.tmp 33) (.tmp 36) 91 rfl kj kj (by decide) 37 rfl kj kj kj f21_9 (QaP (xs := [(wv (BitVec.ofInt 32 number))]) (n := 1) rfl r20_9 (QaA r20_9) (show 1 ≤ maxLen from by decide)) (by simp only [List.length_append, List.length_map, hlE, hlK, hlN, List.length_cons, List.length_nil]; omega) y5_9 fun z2 W10 f22 y10 l10 => ?_
 have x10 : Ext w W10 := Ext.low x9 l10 x5.size
 refine Qaa (z2) 9 rfl kj kj ?_
 refine Qac ?_
 refine hK19 _ _ ?_
 refine wp_seq_k fun K24 hK24 => ?_
 refine Qab ?_
 refine Qaa (z2) 38 rfl kj kj ?_
 refine Qaa (.slice a_n nonce.length c_n) 39 rfl kj kj ?_
 refine Qaw (fun v W' => (OwnN .u32 87 W10.heap.size ((rwords nonce).map wv)) v W' ∧ Ext W10 W') 53 #[.slice a_n nonce.length c_n] 40 rfl kj kj ((Qgi nonce _ _ _ (RdK.ext hn x10) (by omega)).mono (by rintro e w' ⟨v, rfl, e1, hv⟩; exact ⟨v, rfl, hv, e1⟩)) fun vv25 W11 hh25 => ?_
 obtain ⟨hv25, e11⟩ := hh25
 have x11 : Ext w W11 := Ext.tr x10 e11
 have f26_11 := (f22.ext e11)
 have y5_11 : Ext W5 W11 := (Rely.Ext.trans y10 e11)
 refine QaE (k := .u32) (T := 87) (xs := (rwords ([101, 120, 112, 97, 110, 100, 32, 51, 50, 45, 98, 121, 116, 101, 32, 107])).map wv ++ (rwords key).map wv ++ [(wv (BitVec.ofInt 32 number))]) (ys := (rwords nonce).map wv) (V := W5) 4 (.tmp 38) (.tmp 40) 91 rfl kj kj (by decide) 41 rfl kj kj kj f26_11 (OwnN.rd (OwnN.base y10.size hv25)) (by simp only [List.length_append, List.length_map, hlE, hlK, hlN, List.length_cons, List.length_nil]; omega) y5_11 fun z3 W12 f27 y12 l12 => ?_
 have x12 : Ext w W12 := Ext.low x11 l12 x5.size
 refine Qaa (z3) 9 rfl kj kj ?_
 refine Qac ?_
 refine hK24 _ _ ?_
 refine wp_seq_k fun K29 hK29 => ?_
 refine Qab ?_
 refine QaD (ints .u32 ([])) 87 0 42 rfl kj kj fun g30 W13 l30 e13 r30_13 => ?_
 have x13 : Ext w W13 := Ext.tr x12 e13
 have b30 : w.heap.size ≤ g30 := Nat.le_trans x12.size l30
 refine Qaa (z3) 43 rfl kj kj ?_
 have f31_13 := (f27.ext e13)
 have y12_13 : Ext W12 W13 := (Rely.Ext.trans (Rely.Ext.refl W12) e13)
 refine QaE (k := .u32) (T := 87) (xs := []) (ys := (rwords ([101, 120, 112, 97, 110, 100, 32, 51, 50, 45, 98, 121, 116, 101, 32, 107])).map wv ++ (rwords key).map wv ++ [(wv (BitVec.ofInt 32 number))] ++ (rwords nonce).map wv) (V := W12) 4 (.tmp 42) (.tmp 43) 91 rfl kj kj (by decide) 44 rfl kj kj kj (QcO (xs := []) rfl l30 r30_13 (by decide)) (OwnN.rd f31_13) (by simp only [List.length_append, List.length_map, hlE, hlK, hlN, List.length_cons, List.length_nil]; omega) y12_13 fun z4 W14 f32 y14 l14 => ?_
 have x14 : Ext w W14 := Ext.low x13 l14 x12.size
 refine Qaa (z4) 10 rfl kj kj ?_
 obtain ⟨s, es⟩ : ∃ z : List Wd, z = (QaG key nonce).set 12 (BitVec.ofInt 32 number) := ⟨_, rfl⟩
 have hs : s.length = 16 := by rw [es, List.length_set]; rfl
 have hsE : (rwords ([101, 120, 112, 97, 110, 100, 32, 51, 50, 45, 98, 121, 116, 101, 32, 107])).map wv ++ (rwords key).map wv ++ [(wv (BitVec.ofInt 32 number))] ++ (rwords nonce).map wv = s.map wv := by rw [es, ← rstart key nonce number hkl hkb h hnb]; simp only [List.map_append]; rfl
 have hF9 : OwnN .u32 87 W5.heap.size (s.map wv) z3 W12 := hsE ▸ f27
 have hFx : OwnN .u32 87 W12.heap.size (s.map wv) z4 W14 := by have h1 := f32; rw [List.nil_append, hsE] at h1; exact h1
 obtain ⟨gx, cx, rx, rfl, lx, rowx, hcx⟩ := QdF hFx (Qa9 hs) (by decide)
 have nb9 : (z3).ownBlock ≠ some gx := fun e => by have h1 := OwnN.lt hF9 e; omega
 have r5_4 := (Qad r5_3 e4)
 have r5_5 := (Puts.row p5 r5_4 (Qag r5_3 l11))
 have nb9b : (z3).ownBlock ≠ some g5 := fun e => by have h1 := OwnN.ge hF9 e; have h2 := QaA r5_5; omega
 have r5_6 := (Qad r5_5 e6)
 have r5_7 := (Qad r5_6 e7)
 have r5_8 := (Qb2 l8 r5_7 (QaA r5_5))
 have r5_9 := (Qad r5_8 e9)
 have r5_10 := (Qb2 l10 r5_9 (QaA r5_5))
 have r5_11 := (Qad r5_10 e11)
 have r5_12 := (Qb2 l12 r5_11 (QaA r5_5))
 have nx8 : gx ≠ g5 := (Qat r5_12 lx)
 obtain ⟨a9, c9, rfl, -⟩ := id (OwnN.rd hF9)
 refine Qac ?_
 refine hK29 _ _ ?_
 refine wp_seq_k fun K35 hK35 => ?_
 refine wp_seq_k fun K36 hK36 => ?_
 refine Qab ?_
 refine Qaa (.int .i64 0) 11 rfl kj kj ?_
 refine Qac ?_
 refine hK36 _ _ ?_
 refine wp_block ?_
 refine QaH (fun (s1 : Nat) => [(6, .pointer (some ⟨g3, 0, none⟩)), (8, .pointer (some ⟨g5, 0, none⟩)), (9, .slice a9 ((s.map wv).length) c9), (10, .slice (some ⟨gx, 0, none⟩) 16 cx), (11, .int .i64 ((s1 : Nat) : Int))]) (fun (s1 : Nat) W => (s1 ≤ 10) ∧ (W.heap[gx]? = some (.cells (ints .u32 ((rounds s s1).map wv) ++ rx) 87)) ∧ (Qax [gx] W14 W) ∧ (Ext w W)) (fun (s1 : Nat) => 10 - s1) 0 ⟨rfl, rfl, rfl, rfl, rfl, trivial⟩ ⟨(Nat.zero_le _), rowx, (Qax.refl [gx] W14), x14⟩ fun s1 X1 V1 hI1 => ?_
 obtain ⟨i, hs1⟩ : ∃ z, z = s1 := ⟨_, rfl⟩
 subst hs1
 obtain ⟨hi, q34_1, kk1, xx1⟩ := hI1
 replace hi : i ≤ 10 := hi
 replace q34_1 : V1.heap[gx]? = some (.cells (ints .u32 ((rounds s i).map wv) ++ rx) 87) := q34_1
 replace kk1 : Qax [gx] W14 V1 := kk1
 replace xx1 : Ext w V1 := xx1
 have q15 := kk1
 refine wp_seq_k fun K37 hK37 => ?_
 refine wp_seq_k fun K38 hK38 => ?_
 refine Qab ?_
 refine Qaa (.int .i64 ((i : Nat) : Int)) 45 rfl kj kj ?_
 refine Qaa (.bool (decide (((i : Nat) : Int) < 10))) 46 rfl kj kj ?_
 refine Qac ?_
 refine hK38 _ _ ?_
 refine Qa8 (t := decide (((i : Nat) : Int) < 10)) kj (fun c39 => ?_) (fun c39 => ?_)
 ·skip
  have hlt46 : i < 10 := by have := of_decide_eq_true c39; omega
  obtain ⟨x0_, ex0⟩ : ∃ z : List Wd, z = rounds s i := ⟨_, rfl⟩
  have h0 : x0_.length = 16 := by rw [ex0, QcT, hs]
  have r34_15_40 : V1.heap[gx]? = some (.cells (ints .u32 ((x0_).map wv) ++ rx) 87) := Qbq q34_1 (by rw [ex0])
  refine wp_skip ?_
  refine hK37 _ _ ?_
  refine wp_seq_k fun K41 hK41 => ?_
  refine wp_block ?_
  refine wp_seq_k fun K42 hK42 => ?_
  refine wp_seq_k fun K43 hK43 => ?_
  refine Qab ?_
  refine Qaa (.int .i64 0) 12 rfl kj kj ?_
  refine Qac ?_
  refine hK43 _ _ ?_
  refine wp_block ?_
  refine wp_loop_rounds 5 ?_
  show Code.wp _ _ (Exit.then (Code.rounds _ _ _ 4) _) _ _
  refine wp_seq_k fun K44 hK44 => ?_
  refine wp_seq_k fun K45 hK45 => ?_
  refine Qab ?_
  refine Qaa (.int .i64 0) 49 rfl kj kj ?_
  refine Qaa (.bool true) 50 rfl kj kj ?_
  refine Qac ?_
  refine hK45 _ _ ?_
  refine cond_true kj ?_
  refine wp_skip ?_
  refine hK44 _ _ ?_
  refine wp_seq_k fun K46 hK46 => ?_
  refine wp_block ?_
  refine Qab ?_
  refine Qaa (.slice (some ⟨gx, 0, none⟩) 16 cx) 53 rfl kj kj ?_
  refine Qaa (.int .i64 0) 54 rfl kj kj ?_
  refine Qaa (.int .i64 0) 55 rfl kj kj ?_
  refine Qaa (.int .i64 4) 56 rfl kj kj ?_
  refine Qaa (.int .i64 0) 57 rfl kj kj ?_
  refine Qaa (.int .i64 8) 58 rfl kj kj ?_
  refine Qaa (.int .i64 0) 59 rfl kj kj ?_
  refine Qaa (.int .i64 12) 60 rfl kj kj ?_
  refine Qaw (fun v W' => v = .tuple #[] ∧ ExtB gx V1 W' ∧ W'.heap[gx]? = some (.cells (ints .u32 ((rqrt x0_ 0 4 8 12).map wv) ++ rx) 87)) 54 #[.slice (some ⟨gx, 0, none⟩) 16 cx, .int .i64 0, .int .i64 4, .int .i64 8, .int .i64 12] 61 rfl kj kj ((Qcu gx cx rx x0_ 0 4 8 12 0 4 8 12 _ rfl rfl rfl rfl h0 (by decide) (by decide) (by decide) (by decide) r34_15_40).mono fun e w' h => ⟨_, h.1, rfl, h.2⟩) fun v W16 h => ?_
  obtain ⟨rfl, q16, r34_16⟩ := h
  have x16 : Ext w W16 := ExtB.up xx1 q16 (Nat.le_trans x12.size lx)
  obtain ⟨x1_, ex1⟩ : ∃ z : List Wd, z = qrt x0_ 0 4 8 12 := ⟨_, rfl⟩
  have h1 : x1_.length = 16 := by rw [ex1, QbM, h0]
  have r34_16_47 : W16.heap[gx]? = some (.cells (ints .u32 ((x1_).map wv) ++ rx) 87) := Qbq r34_16 (by rw [ex1, (QfK x0_ h0).1])
  refine Qac ?_
  refine hK46 _ _ ?_
  refine Qab ?_
  refine Qaa (.int .i64 0) 51 rfl kj kj ?_
  refine Qaa (.int .i64 1) 52 rfl kj kj ?_
  refine Qaa (.int .i64 1) 12 rfl kj kj ?_
  refine Qac ?_
  show Code.rounds _ _ _ 4 _ _
  show Code.wp _ _ (Exit.then (Code.rounds _ _ _ 3) _) _ _
  refine wp_seq_k fun K48 hK48 => ?_
  refine wp_seq_k fun K49 hK49 => ?_
  refine Qab ?_
  refine Qaa (.int .i64 1) 49 rfl kj kj ?_
  refine Qaa (.bool true) 50 rfl kj kj ?_
  refine Qac ?_
  refine hK49 _ _ ?_
  refine cond_true kj ?_
  refine wp_skip ?_
  refine hK48 _ _ ?_
  refine wp_seq_k fun K50 hK50 => ?_
  refine wp_block ?_
  refine Qab ?_
  refine Qaa (.slice (some ⟨gx, 0, none⟩) 16 cx) 53 rfl kj kj ?_
  refine Qaa (.int .i64 1) 54 rfl kj kj ?_
  refine Qaa (.int .i64 1) 55 rfl kj kj ?_
  refine Qaa (.int .i64 5) 56 rfl kj kj ?_
  refine Qaa (.int .i64 1) 57 rfl kj kj ?_
  refine Qaa (.int .i64 9) 58 rfl kj kj ?_
  refine Qaa (.int .i64 1) 59 rfl kj kj ?_
  refine Qaa (.int .i64 13) 60 rfl kj kj ?_
  refine Qaw (fun v W' => v = .tuple #[] ∧ ExtB gx W16 W' ∧ W'.heap[gx]? = some (.cells (ints .u32 ((rqrt x1_ 1 5 9 13).map wv) ++ rx) 87)) 54 #[.slice (some ⟨gx, 0, none⟩) 16 cx, .int .i64 1, .int .i64 5, .int .i64 9, .int .i64 13] 61 rfl kj kj ((Qcu gx cx rx x1_ 1 5 9 13 1 5 9 13 _ rfl rfl rfl rfl h1 (by decide) (by decide) (by decide) (by decide) r34_16_47).mono fun e w' h => ⟨_, h.1, rfl, h.2⟩) fun v W17 h => ?_
  obtain ⟨rfl, q17, r34_17⟩ := h
  have x17 : Ext w W17 := ExtB.up x16 q17 (Nat.le_trans x12.size lx)
  obtain ⟨x2_, ex2⟩ : ∃ z : List Wd, z = qrt x1_ 1 5 9 13 := ⟨_, rfl⟩
  have h2 : x2_.length = 16 := by rw [ex2, QbM, h1]
  have r34_17_51 : W17.heap[gx]? = some (.cells (ints .u32 ((x2_).map wv) ++ rx) 87) := Qbq r34_17 (by rw [ex2, (QfK x1_ h1).2.1])
  refine Qac ?_
  refine hK50 _ _ ?_
  refine Qab ?_
  refine Qaa (.int .i64 1) 51 rfl kj kj ?_
  refine Qaa (.int .i64 2) 52 rfl kj kj ?_
  refine Qaa (.int .i64 2) 12 rfl kj kj ?_
  refine Qac ?_
  show Code.rounds _ _ _ 3 _ _
  show Code.wp _ _ (Exit.then (Code.rounds _ _ _ 2) _) _ _
  refine wp_seq_k fun K52 hK52 => ?_
  refine wp_seq_k fun K53 hK53 => ?_
  refine Qab ?_
  refine Qaa (.int .i64 2) 49 rfl kj kj ?_
  refine Qaa (.bool true) 50 rfl kj kj ?_
  refine Qac ?_
  refine hK53 _ _ ?_
  refine cond_true kj ?_
  refine wp_skip ?_
  refine hK52 _ _ ?_
  refine wp_seq_k fun K54 hK54 => ?_
  refine wp_block ?_
  refine Qab ?_
  refine Qaa (.slice (some ⟨gx, 0, none⟩) 16 cx) 53 rfl kj kj ?_
  refine Qaa (.int .i64 2) 54 rfl kj kj ?_
  refine Qaa (.int .i64 2) 55 rfl kj kj ?_
  refine Qaa (.int .i64 6) 56 rfl kj kj ?_
  refine Qaa (.int .i64 2) 57 rfl kj kj ?_
  refine Qaa (.int .i64 10) 58 rfl kj kj ?_
  refine Qaa (.int .i64 2) 59 rfl kj kj ?_
  refine Qaa (.int .i64 14) 60 rfl kj kj ?_
  refine Qaw (fun v W' => v = .tuple #[] ∧ ExtB gx W17 W' ∧ W'.heap[gx]? = some (.cells (ints .u32 ((rqrt x2_ 2 6 10 14).map wv) ++ rx) 87)) 54 #[.slice (some ⟨gx, 0, none⟩) 16 cx, .int .i64 2, .int .i64 6, .int .i64 10, .int .i64 14] 61 rfl kj kj ((Qcu gx cx rx x2_ 2 6 10 14 2 6 10 14 _ rfl rfl rfl rfl h2 (by decide) (by decide) (by decide) (by decide) r34_17_51).mono fun e w' h => ⟨_, h.1, rfl, h.2⟩) fun v W18 h => ?_
  obtain ⟨rfl, q18, r34_18⟩ := h
  have x18 : Ext w W18 := ExtB.up x17 q18 (Nat.le_trans x12.size lx)
  obtain ⟨x3_, ex3⟩ : ∃ z : List Wd, z = qrt x2_ 2 6 10 14 := ⟨_, rfl⟩
  have h3 : x3_.length = 16 := by rw [ex3, QbM, h2]
  have r34_18_55 : W18.heap[gx]? = some (.cells (ints .u32 ((x3_).map wv) ++ rx) 87) := Qbq r34_18 (by rw [ex3, (QfK x2_ h2).2.2.1])
  refine Qac ?_
  refine hK54 _ _ ?_
  refine Qab ?_
  refine Qaa (.int .i64 2) 51 rfl kj kj ?_
  refine Qaa (.int .i64 3) 52 rfl kj kj ?_
  refine Qaa (.int .i64 3) 12 rfl kj kj ?_
  refine Qac ?_
  show Code.rounds _ _ _ 2 _ _
  show Code.wp _ _ (Exit.then (Code.rounds _ _ _ 1) _) _ _
  refine wp_seq_k fun K56 hK56 => ?_
  refine wp_seq_k fun K57 hK57 => ?_
  refine Qab ?_
  refine Qaa (.int .i64 3) 49 rfl kj kj ?_
  refine Qaa (.bool true) 50 rfl kj kj ?_
  refine Qac ?_
  refine hK57 _ _ ?_
  refine cond_true kj ?_
  refine wp_skip ?_
  refine hK56 _ _ ?_
  refine wp_seq_k fun K58 hK58 => ?_
  refine wp_block ?_
  refine Qab ?_
  refine Qaa (.slice (some ⟨gx, 0, none⟩) 16 cx) 53 rfl kj kj ?_
  refine Qaa (.int .i64 3) 54 rfl kj kj ?_
  refine Qaa (.int .i64 3) 55 rfl kj kj ?_
  refine Qaa (.int .i64 7) 56 rfl kj kj ?_
  refine Qaa (.int .i64 3) 57 rfl kj kj ?_
  refine Qaa (.int .i64 11) 58 rfl kj kj ?_
  refine Qaa (.int .i64 3) 59 rfl kj kj ?_
  refine Qaa (.int .i64 15) 60 rfl kj kj ?_
  refine Qaw (fun v W' => v = .tuple #[] ∧ ExtB gx W18 W' ∧ W'.heap[gx]? = some (.cells (ints .u32 ((rqrt x3_ 3 7 11 15).map wv) ++ rx) 87)) 54 #[.slice (some ⟨gx, 0, none⟩) 16 cx, .int .i64 3, .int .i64 7, .int .i64 11, .int .i64 15] 61 rfl kj kj ((Qcu gx cx rx x3_ 3 7 11 15 3 7 11 15 _ rfl rfl rfl rfl h3 (by decide) (by decide) (by decide) (by decide) r34_18_55).mono fun e w' h => ⟨_, h.1, rfl, h.2⟩) fun v W19 h => ?_
  obtain ⟨rfl, q19, r34_19⟩ := h
  have x19 : Ext w W19 := ExtB.up x18 q19 (Nat.le_trans x12.size lx)
  obtain ⟨x4_, ex4⟩ : ∃ z : List Wd, z = qrt x3_ 3 7 11 15 := ⟨_, rfl⟩
  have h4 : x4_.length = 16 := by rw [ex4, QbM, h3]
  have r34_19_59 : W19.heap[gx]? = some (.cells (ints .u32 ((x4_).map wv) ++ rx) 87) := Qbq r34_19 (by rw [ex4, (QfK x3_ h3).2.2.2.1])
  refine Qac ?_
  refine hK58 _ _ ?_
  refine Qab ?_
  refine Qaa (.int .i64 3) 51 rfl kj kj ?_
  refine Qaa (.int .i64 4) 52 rfl kj kj ?_
  refine Qaa (.int .i64 4) 12 rfl kj kj ?_
  refine Qac ?_
  show Code.rounds _ _ _ 1 _ _
  show Code.wp _ _ (Exit.then (Code.rounds _ _ _ 0) _) _ _
  refine wp_seq_k fun K60 hK60 => ?_
  refine wp_seq_k fun K61 hK61 => ?_
  refine Qab ?_
  refine Qaa (.int .i64 4) 49 rfl kj kj ?_
  refine Qaa (.bool false) 50 rfl kj kj ?_
  refine Qac ?_
  refine hK61 _ _ ?_
  refine cond_false kj ?_
  refine wp_exit ?_
  refine hK42 _ _ ?_
  refine wp_seq_k fun K62 hK62 => ?_
  refine Qab ?_
  refine Qaa (.int .i64 0) 13 rfl kj kj ?_
  refine Qac ?_
  refine hK62 _ _ ?_
  refine wp_block ?_
  refine wp_loop_rounds 5 ?_
  show Code.wp _ _ (Exit.then (Code.rounds _ _ _ 4) _) _ _
  refine wp_seq_k fun K63 hK63 => ?_
  refine wp_seq_k fun K64 hK64 => ?_
  refine Qab ?_
  refine Qaa (.int .i64 0) 62 rfl kj kj ?_
  refine Qaa (.bool true) 63 rfl kj kj ?_
  refine Qac ?_
  refine hK64 _ _ ?_
  refine cond_true kj ?_
  refine wp_skip ?_
  refine hK63 _ _ ?_
  refine wp_seq_k fun K65 hK65 => ?_
  refine wp_block ?_
  refine Qab ?_
  refine Qaa (.slice (some ⟨gx, 0, none⟩) 16 cx) 66 rfl kj kj ?_
  refine Qaa (.int .i64 0) 67 rfl kj kj ?_
  refine Qaa (.int .i64 0) 68 rfl kj kj ?_
  refine Qaa (.int .i64 1) 69 rfl kj kj ?_
  refine Qaa (.int .i64 1) 70 rfl kj kj ?_
  refine Qaa (.int .i64 5) 71 rfl kj kj ?_
  refine Qaa (.int .i64 0) 72 rfl kj kj ?_
  refine Qaa (.int .i64 2) 73 rfl kj kj ?_
  refine Qaa (.int .i64 2) 74 rfl kj kj ?_
  refine Qaa (.int .i64 10) 75 rfl kj kj ?_
  refine Qaa (.int .i64 0) 76 rfl kj kj ?_
  refine Qaa (.int .i64 3) 77 rfl kj kj ?_
  refine Qaa (.int .i64 3) 78 rfl kj kj ?_
  refine Qaa (.int .i64 15) 79 rfl kj kj ?_
  refine Qaw (fun v W' => v = .tuple #[] ∧ ExtB gx W19 W' ∧ W'.heap[gx]? = some (.cells (ints .u32 ((rqrt x4_ 0 5 10 15).map wv) ++ rx) 87)) 54 #[.slice (some ⟨gx, 0, none⟩) 16 cx, .int .i64 0, .int .i64 5, .int .i64 10, .int .i64 15] 80 rfl kj kj ((Qcu gx cx rx x4_ 0 5 10 15 0 5 10 15 _ rfl rfl rfl rfl h4 (by decide) (by decide) (by decide) (by decide) r34_19_59).mono fun e w' h => ⟨_, h.1, rfl, h.2⟩) fun v W20 h => ?_
  obtain ⟨rfl, q20, r34_20⟩ := h
  have x20 : Ext w W20 := ExtB.up x19 q20 (Nat.le_trans x12.size lx)
  obtain ⟨x5_, ex5⟩ : ∃ z : List Wd, z = qrt x4_ 0 5 10 15 := ⟨_, rfl⟩
  have h5 : x5_.length = 16 := by rw [ex5, QbM, h4]
  have r34_20_66 : W20.heap[gx]? = some (.cells (ints .u32 ((x5_).map wv) ++ rx) 87) := Qbq r34_20 (by rw [ex5, (QfK x4_ h4).2.2.2.2.1])
  refine Qac ?_
  refine hK65 _ _ ?_
  refine Qab ?_
  refine Qaa (.int .i64 0) 64 rfl kj kj ?_
  refine Qaa (.int .i64 1) 65 rfl kj kj ?_
  refine Qaa (.int .i64 1) 13 rfl kj kj ?_
  refine Qac ?_
  show Code.rounds _ _ _ 4 _ _
  show Code.wp _ _ (Exit.then (Code.rounds _ _ _ 3) _) _ _
  refine wp_seq_k fun K67 hK67 => ?_
  refine wp_seq_k fun K68 hK68 => ?_
  refine Qab ?_
  refine Qaa (.int .i64 1) 62 rfl kj kj ?_
  refine Qaa (.bool true) 63 rfl kj kj ?_
  refine Qac ?_
  refine hK68 _ _ ?_
  refine cond_true kj ?_
  refine wp_skip ?_
  refine hK67 _ _ ?_
  refine wp_seq_k fun K69 hK69 => ?_
  refine wp_block ?_
  refine Qab ?_
  refine Qaa (.slice (some ⟨gx, 0, none⟩) 16 cx) 66 rfl kj kj ?_
  refine Qaa (.int .i64 1) 67 rfl kj kj ?_
  refine Qaa (.int .i64 1) 68 rfl kj kj ?_
  refine Qaa (.int .i64 2) 69 rfl kj kj ?_
  refine Qaa (.int .i64 2) 70 rfl kj kj ?_
  refine Qaa (.int .i64 6) 71 rfl kj kj ?_
  refine Qaa (.int .i64 1) 72 rfl kj kj ?_
  refine Qaa (.int .i64 3) 73 rfl kj kj ?_
  refine Qaa (.int .i64 3) 74 rfl kj kj ?_
  refine Qaa (.int .i64 11) 75 rfl kj kj ?_
  refine Qaa (.int .i64 1) 76 rfl kj kj ?_
  refine Qaa (.int .i64 4) 77 rfl kj kj ?_
  refine Qaa (.int .i64 0) 78 rfl kj kj ?_
  refine Qaa (.int .i64 12) 79 rfl kj kj ?_
  refine Qaw (fun v W' => v = .tuple #[] ∧ ExtB gx W20 W' ∧ W'.heap[gx]? = some (.cells (ints .u32 ((rqrt x5_ 1 6 11 12).map wv) ++ rx) 87)) 54 #[.slice (some ⟨gx, 0, none⟩) 16 cx, .int .i64 1, .int .i64 6, .int .i64 11, .int .i64 12] 80 rfl kj kj ((Qcu gx cx rx x5_ 1 6 11 12 1 6 11 12 _ rfl rfl rfl rfl h5 (by decide) (by decide) (by decide) (by decide) r34_20_66).mono fun e w' h => ⟨_, h.1, rfl, h.2⟩) fun v W21 h => ?_
  obtain ⟨rfl, q21, r34_21⟩ := h
  have x21 : Ext w W21 := ExtB.up x20 q21 (Nat.le_trans x12.size lx)
  obtain ⟨x6_, ex6⟩ : ∃ z : List Wd, z = qrt x5_ 1 6 11 12 := ⟨_, rfl⟩
  have h6 : x6_.length = 16 := by rw [ex6, QbM, h5]
  have r34_21_70 : W21.heap[gx]? = some (.cells (ints .u32 ((x6_).map wv) ++ rx) 87) := Qbq r34_21 (by rw [ex6, (QfK x5_ h5).2.2.2.2.2.1])
  refine Qac ?_
  refine hK69 _ _ ?_
  refine Qab ?_
  refine Qaa (.int .i64 1) 64 rfl kj kj ?_
  refine Qaa (.int .i64 2) 65 rfl kj kj ?_
  refine Qaa (.int .i64 2) 13 rfl kj kj ?_
  refine Qac ?_
  show Code.rounds _ _ _ 3 _ _
  show Code.wp _ _ (Exit.then (Code.rounds _ _ _ 2) _) _ _
  refine wp_seq_k fun K71 hK71 => ?_
  refine wp_seq_k fun K72 hK72 => ?_
  refine Qab ?_
  refine Qaa (.int .i64 2) 62 rfl kj kj ?_
  refine Qaa (.bool true) 63 rfl kj kj ?_
  refine Qac ?_
  refine hK72 _ _ ?_
  refine cond_true kj ?_
  refine wp_skip ?_
  refine hK71 _ _ ?_
  refine wp_seq_k fun K73 hK73 => ?_
  refine wp_block ?_
  refine Qab ?_
  refine Qaa (.slice (some ⟨gx, 0, none⟩) 16 cx) 66 rfl kj kj ?_
  refine Qaa (.int .i64 2) 67 rfl kj kj ?_
  refine Qaa (.int .i64 2) 68 rfl kj kj ?_
  refine Qaa (.int .i64 3) 69 rfl kj kj ?_
  refine Qaa (.int .i64 3) 70 rfl kj kj ?_
  refine Qaa (.int .i64 7) 71 rfl kj kj ?_
  refine Qaa (.int .i64 2) 72 rfl kj kj ?_
  refine Qaa (.int .i64 4) 73 rfl kj kj ?_
  refine Qaa (.int .i64 0) 74 rfl kj kj ?_
  refine Qaa (.int .i64 8) 75 rfl kj kj ?_
  refine Qaa (.int .i64 2) 76 rfl kj kj ?_
  refine Qaa (.int .i64 5) 77 rfl kj kj ?_
  refine Qaa (.int .i64 1) 78 rfl kj kj ?_
  refine Qaa (.int .i64 13) 79 rfl kj kj ?_
  refine Qaw (fun v W' => v = .tuple #[] ∧ ExtB gx W21 W' ∧ W'.heap[gx]? = some (.cells (ints .u32 ((rqrt x6_ 2 7 8 13).map wv) ++ rx) 87)) 54 #[.slice (some ⟨gx, 0, none⟩) 16 cx, .int .i64 2, .int .i64 7, .int .i64 8, .int .i64 13] 80 rfl kj kj ((Qcu gx cx rx x6_ 2 7 8 13 2 7 8 13 _ rfl rfl rfl rfl h6 (by decide) (by decide) (by decide) (by decide) r34_21_70).mono fun e w' h => ⟨_, h.1, rfl, h.2⟩) fun v W22 h => ?_
  obtain ⟨rfl, q22, r34_22⟩ := h
  have x22 : Ext w W22 := ExtB.up x21 q22 (Nat.le_trans x12.size lx)
  obtain ⟨x7_, ex7⟩ : ∃ z : List Wd, z = qrt x6_ 2 7 8 13 := ⟨_, rfl⟩
  have h7 : x7_.length = 16 := by rw [ex7, QbM, h6]
  have r34_22_74 : W22.heap[gx]? = some (.cells (ints .u32 ((x7_).map wv) ++ rx) 87) := Qbq r34_22 (by rw [ex7, (QfK x6_ h6).2.2.2.2.2.2.1])
  refine Qac ?_
  refine hK73 _ _ ?_
  refine Qab ?_
  refine Qaa (.int .i64 2) 64 rfl kj kj ?_
  refine Qaa (.int .i64 3) 65 rfl kj kj ?_
  refine Qaa (.int .i64 3) 13 rfl kj kj ?_
  refine Qac ?_
  show Code.rounds _ _ _ 2 _ _
  show Code.wp _ _ (Exit.then (Code.rounds _ _ _ 1) _) _ _
  refine wp_seq_k fun K75 hK75 => ?_
  refine wp_seq_k fun K76 hK76 => ?_
  refine Qab ?_
  refine Qaa (.int .i64 3) 62 rfl kj kj ?_
  refine Qaa (.bool true) 63 rfl kj kj ?_
  refine Qac ?_
  refine hK76 _ _ ?_
  refine cond_true kj ?_
  refine wp_skip ?_
  refine hK75 _ _ ?_
  refine wp_seq_k fun K77 hK77 => ?_
  refine wp_block ?_
  refine Qab ?_
  refine Qaa (.slice (some ⟨gx, 0, none⟩) 16 cx) 66 rfl kj kj ?_
  refine Qaa (.int .i64 3) 67 rfl kj kj ?_
  refine Qaa (.int .i64 3) 68 rfl kj kj ?_
  refine Qaa (.int .i64 4) 69 rfl kj kj ?_
  refine Qaa (.int .i64 0) 70 rfl kj kj ?_
  refine Qaa (.int .i64 4) 71 rfl kj kj ?_
  refine Qaa (.int .i64 3) 72 rfl kj kj ?_
  refine Qaa (.int .i64 5) 73 rfl kj kj ?_
  refine Qaa (.int .i64 1) 74 rfl kj kj ?_
  refine Qaa (.int .i64 9) 75 rfl kj kj ?_
  refine Qaa (.int .i64 3) 76 rfl kj kj ?_
  refine Qaa (.int .i64 6) 77 rfl kj kj ?_
  refine Qaa (.int .i64 2) 78 rfl kj kj ?_
  refine Qaa (.int .i64 14) 79 rfl kj kj ?_
  refine Qaw (fun v W' => v = .tuple #[] ∧ ExtB gx W22 W' ∧ W'.heap[gx]? = some (.cells (ints .u32 ((rqrt x7_ 3 4 9 14).map wv) ++ rx) 87)) 54 #[.slice (some ⟨gx, 0, none⟩) 16 cx, .int .i64 3, .int .i64 4, .int .i64 9, .int .i64 14] 80 rfl kj kj ((Qcu gx cx rx x7_ 3 4 9 14 3 4 9 14 _ rfl rfl rfl rfl h7 (by decide) (by decide) (by decide) (by decide) r34_22_74).mono fun e w' h => ⟨_, h.1, rfl, h.2⟩) fun v W23 h => ?_
  obtain ⟨rfl, q23, r34_23⟩ := h
  have x23 : Ext w W23 := ExtB.up x22 q23 (Nat.le_trans x12.size lx)
  obtain ⟨x8_, ex8⟩ : ∃ z : List Wd, z = qrt x7_ 3 4 9 14 := ⟨_, rfl⟩
  have h8 : x8_.length = 16 := by rw [ex8, QbM, h7]
  have r34_23_78 : W23.heap[gx]? = some (.cells (ints .u32 ((x8_).map wv) ++ rx) 87) := Qbq r34_23 (by rw [ex8, (QfK x7_ h7).2.2.2.2.2.2.2])
  refine Qac ?_
  refine hK77 _ _ ?_
  refine Qab ?_
  refine Qaa (.int .i64 3) 64 rfl kj kj ?_
  refine Qaa (.int .i64 4) 65 rfl kj kj ?_
  refine Qaa (.int .i64 4) 13 rfl kj kj ?_
  refine Qac ?_
  show Code.rounds _ _ _ 1 _ _
  show Code.wp _ _ (Exit.then (Code.rounds _ _ _ 0) _) _ _
  refine wp_seq_k fun K79 hK79 => ?_
  refine wp_seq_k fun K80 hK80 => ?_
  refine Qab ?_
  refine Qaa (.int .i64 4) 62 rfl kj kj ?_
  refine Qaa (.bool false) 63 rfl kj kj ?_
  refine Qac ?_
  refine hK80 _ _ ?_
  refine cond_false kj ?_
  refine wp_exit ?_
  refine hK41 _ _ ?_
  refine Qab ?_
  refine Qaa (.int .i64 ((i : Nat) : Int)) 47 rfl kj kj ?_
  refine Qaa (.int .i64 ((i + 1 : Nat) : Int)) 48 rfl kj (Qah (u := .int .i64 (IntKind.i64.wrap (((i : Nat) : Int) + 1))) kj (congrArg (Value.int .i64) (i64n _ _ (by omega) (by omega)))) ?_
  refine Qaa (.int .i64 ((i + 1 : Nat) : Int)) 11 rfl kj kj ?_
  refine Qac ?_
  have r34_23_81 : W23.heap[gx]? = some (.cells (ints .u32 ((rounds s (i + 1)).map wv) ++ rx) 87) := Qbq r34_23_78 (by rw [ex8, ex7, ex6, ex5, ex4, ex3, ex2, ex1, ex0]; rfl)
  repeat (first | with_reducible refine goX1 ?_ | with_reducible refine goX2 ?_ | with_reducible refine goX3 ?_)
  exact Qaz (i + 1) ⟨rfl, rfl, rfl, rfl, rfl, trivial⟩ ⟨(by omega), r34_23_81, (Qax.but (Qax.but (Qax.but (Qax.but (Qax.but (Qax.but (Qax.but (Qax.but q15 q16 (.inl (by simp))) q17 (.inl (by simp))) q18 (.inl (by simp))) q19 (.inl (by simp))) q20 (.inl (by simp))) q21 (.inl (by simp))) q22 (.inl (by simp))) q23 (.inl (by simp))), x23⟩ (by omega)
 ·skip
  have heq46 : i = 10 := by have := of_decide_eq_false c39; omega
  obtain ⟨xF, exF⟩ : ∃ z : List Wd, z = rounds s 10 := ⟨_, rfl⟩
  have hxF : xF.length = 16 := by rw [exF, QcT, hs]
  subst heq46
  have r34_15_82 : V1.heap[gx]? = some (.cells (ints .u32 ((xF).map wv) ++ rx) 87) := Qbq q34_1 (by rw [exF])
  refine wp_exit ?_
  refine hK35 _ _ ?_
  refine wp_seq_k fun K83 hK83 => ?_
  refine wp_seq_k fun K84 hK84 => ?_
  refine Qab ?_
  refine Qaa (.int .i64 0) 14 rfl kj kj ?_
  refine Qac ?_
  refine hK84 _ _ ?_
  refine wp_block ?_
  have hP : (Qb7 xF s).length = 64 := QdW _ _
  have r5_13 := (Qad r5_12 e13)
  have r5_14 := (Qb2 l14 r5_13 (QaA r5_12))
  have r5_15 := (Qax.row q15 r5_14 (Qbi (Ne.symm nx8) Qb8))
  refine QaH (fun (s2 : Nat) => [(6, .pointer (some ⟨g3, 0, none⟩)), (8, .pointer (some ⟨g5, 0, none⟩)), (9, .slice a9 ((s.map wv).length) c9), (10, .slice (some ⟨gx, 0, none⟩) 16 cx), (14, .int .i64 ((s2 : Nat) : Int))]) (fun (s2 : Nat) W => (s2 ≤ 64) ∧ (W.heap[g5]? = some (.cells (ints .u8 (Qbs (Qb7 xF s) 64 (s2))) 78)) ∧ (Qax [g5] V1 W) ∧ (Ext w W)) (fun (s2 : Nat) => 64 - s2) 0 ⟨rfl, rfl, rfl, rfl, rfl, trivial⟩ ⟨(Nat.zero_le _), (QaO r5_15 (Qb5 _ 64)), (Qax.refl [g5] V1), xx1⟩ fun s2 X2 V2 hI2 => ?_
  obtain ⟨i, hs2⟩ : ∃ z, z = s2 := ⟨_, rfl⟩
  subst hs2
  obtain ⟨hi, q5_2, kk2, xx2⟩ := hI2
  replace hi : i ≤ 64 := hi
  replace q5_2 : V2.heap[g5]? = some (.cells (ints .u8 (Qbs (Qb7 xF s) 64 (i))) 78) := q5_2
  replace kk2 : Qax [g5] V1 V2 := kk2
  replace xx2 : Ext w V2 := xx2
  have q16 := kk2
  refine wp_seq_k fun K85 hK85 => ?_
  refine wp_seq_k fun K86 hK86 => ?_
  refine Qab ?_
  refine Qaa (.int .i64 ((i : Nat) : Int)) 81 rfl kj kj ?_
  refine Qaa (.bool (decide (((i : Nat) : Int) < 64))) 82 rfl kj kj ?_
  refine Qac ?_
  refine hK86 _ _ ?_
  refine Qa8 (t := decide (((i : Nat) : Int) < 64)) kj (fun c87 => ?_) (fun c87 => ?_)
  ·skip
   have hlt82 : i < 64 := by have := of_decide_eq_true c87; omega
   have f89_13 := (hF9.ext e13)
   have f90_14 := (OwnN.low (n := 0) f89_13 hF9 l14)
   have f91_15 := (OwnN.keepsL f90_14 q15 (QeJ nb9 QfS))
   have f92_16 := (OwnN.keepsL f91_15 q16 (QeJ nb9b QfS))
   have hns_88 : (s.map wv).length = 16 := (Qa9 hs)
   obtain ⟨gcs_88, ocs_88, has_88, hls_88, hcs_88⟩ := QgD (OwnN.rd f92_16) (by rw [hns_88]; omega)
   refine wp_skip ?_
   refine hK85 _ _ ?_
   refine wp_seq_k fun K93 hK93 => ?_
   refine wp_block ?_
   refine QaX 18 [⟨none, [(14, none)]⟩, ⟨none, [(10, none)]⟩, ⟨none, [(14, none)]⟩, ⟨none, [(87, some 2)]⟩, ⟨none, [(86, some 1), (88, some 3)]⟩, ⟨none, [(89, some 4)]⟩, ⟨none, [(9, none)]⟩, ⟨none, [(14, none)]⟩, ⟨none, [(92, some 7)]⟩, ⟨none, [(91, some 6), (93, some 8)]⟩, ⟨none, [(94, some 9)]⟩, ⟨none, [(90, some 5), (95, some 10)]⟩, ⟨none, [(14, none)]⟩, ⟨none, [(97, some 12)]⟩, ⟨none, [(98, some 13)]⟩, ⟨none, [(99, some 14)]⟩, ⟨none, [(96, some 11), (100, some 15)]⟩, ⟨none, [(101, some 16)]⟩] kj kj fun F hF => ?_
   refine Qa2 (Qam _) (.int .i64 ((i : Nat) : Int)) kj kj (fun W => by kernel_rfl) ?_
   refine Qa2 (Qam _) (.slice (some ⟨gx, 0, none⟩) 16 cx) kj kj (fun W => by kernel_rfl) ?_
   refine Qa2 (Qam _) (.int .i64 ((i : Nat) : Int)) kj kj (fun W => by kernel_rfl) ?_
   refine Qa2 (Qam _) (.int .i64 ((i / 4 : Nat) : Int)) kj kj (fun W => (Qah (u := .int .i64 (IntKind.i64.wrap (Int.tdiv (((i : Nat) : Int)) (4)))) kj (congrArg (Value.int .i64) (Qde _ 4 (by omega))))) ?_
   refine Qa2 (Qam _) (.pointer (some ⟨gx, (i / 4), none⟩)) kj kj (fun W => (Qaq 91 _ _ .i64 (i / 4) gx 16 cx 87 rfl kj kj kj kj (by omega))) ?_
   have r34_16 := (Qax.row q16 r34_15_82 (Qbi nx8 Qb8))
   refine Qbm (Qam _) (.int .u32 (wv (wget xF (i / 4)))) kj kj (fun W hR => (Qae 87 _ gx (i / 4) 87 _ (.int .u32 (wv (wget xF (i / 4)))) _ (Qad (Qad r34_16 (Qai _)) hR) rfl kj ((Qba (Nat.lt_of_lt_of_eq (by omega) (Qa9 hxF).symm)).trans (congrArg (fun z => some (Value.int .u32 z)) (QaM xF (i / 4)))) kj)) ?_
   refine Qa2 (Qam _) (.slice a9 ((s.map wv).length) c9) kj kj (fun W => by kernel_rfl) ?_
   refine Qa2 (Qam _) (.int .i64 ((i : Nat) : Int)) kj kj (fun W => by kernel_rfl) ?_
   refine Qa2 (Qam _) (.int .i64 ((i / 4 : Nat) : Int)) kj kj (fun W => (Qah (u := .int .i64 (IntKind.i64.wrap (Int.tdiv (((i : Nat) : Int)) (4)))) kj (congrArg (Value.int .i64) (Qde _ 4 (by omega))))) ?_
   refine Qa2 (Qam _) (.pointer (some ⟨gcs_88, ocs_88 + (i / 4), none⟩)) kj kj (fun W => (QaJ 91 _ _ .i64 (i / 4) gcs_88 ocs_88 ((s.map wv).length) c9 87 a9 _ has_88 rfl rfl kj kj kj kj (Nat.lt_of_lt_of_eq (show i / 4 < 16 by omega) hns_88.symm))) ?_
   refine Qbm (Qam _) (.int .u32 (wv (wget s (i / 4)))) kj kj (fun W hR => (Qav 87 _ _ (.int .u32 (wv (wget s (i / 4)))) (((Below.cell (Rely.Ext.trans (Qai _) hR) hls_88).trans (hcs_88 (i / 4) (Nat.lt_of_lt_of_eq (show i / 4 < 16 by omega) hns_88.symm))).trans (congrArg (fun z => some (Value.int .u32 z)) (QaM s (i / 4)))) rfl kj kj)) ?_
   refine Qa2 (Qam _) (.int .u32 (wv (((wget xF (i / 4))) + ((wget s (i / 4)))))) kj kj (fun W => (Qah (u := .int .u32 (IntKind.u32.wrap (wv (wget xF (i / 4)) + wv (wget s (i / 4))))) kj (congrArg (Value.int .u32) (Qd9 _ _)))) ?_
   refine Qa2 (Qam _) (.int .i64 ((i : Nat) : Int)) kj kj (fun W => by kernel_rfl) ?_
   refine Qa2 (Qam _) (.int .i64 ((i % 4 : Nat) : Int)) kj kj (fun W => (Qah (u := .int .i64 (Int.tmod (((i : Nat) : Int)) (4))) kj (congrArg (Value.int .i64) (QcC _ 4)))) ?_
   refine Qa2 (Qam _) (.int .i64 ((8 * (i % 4) : Nat) : Int)) kj kj (fun W => (Qah (u := .int .i64 (IntKind.i64.wrap (8 * ((i % 4 : Nat) : Int)))) kj (congrArg (Value.int .i64) (i64n _ _ (by omega) (by omega))))) ?_
   refine Qa2 (Qam _) (.int .u64 (((8 * (i % 4) : Nat) : Int))) kj kj (fun W => (Qah (u := .int .u64 (IntKind.u64.wrap ((8 * (i % 4) : Nat) : Int))) kj (congrArg (Value.int .u64) (Qjb _ (by omega))))) ?_
   refine Qa2 (Qam _) (.int .u32 (wv ((wget xF (i / 4) + wget s (i / 4)) >>> (8 * (i % 4))))) kj kj (fun W => (QbH .shr _ _ _ _ .u32 .u64 _ _ _ rfl kj kj (QeN _ _ _ _ _ _ (by omega) (Qis _ _ (8 * (i % 4)) rfl (by omega))))) ?_
   refine Qa2 (Qam _) (.int .u8 (nth (Qb7 xF s) i)) kj kj (fun W => (Qah (u := .int .u8 (IntKind.u8.wrap (wv ((wget xF (i / 4) + wget s (i / 4)) >>> (8 * (i % 4)))))) kj (congrArg (Value.int .u8) (Qkp xF s i hlt82)))) ?_
   refine QcG (hF _ fun W17 e17 => ?_)
   simp only [List.nil_append, List.cons_append, List.take_succ_cons, List.take_zero, List.drop_succ_cons, List.drop_zero, finE, up]
   clear hF
   have x17 : Ext w W17 := Ext.tr xx2 e17
   refine Qaa (.pointer (some ⟨g5, i, none⟩)) 103 rfl kj (QaZ _ _ _ .i64 (i) _ 64 5 rfl kj kj kj kj (by omega)) ?_
   have r5_17 := (Qad q5_2 e17)
   refine Qal g5 _ (ints .u8 ((Qbs (Qb7 xF s) 64 (i)).set i (nth (Qb7 xF s) i))) 78 r5_17 rfl kj (Qan 5 _ _ g5 i 78 _ _ r5_17 rfl kj kj kj (Nat.lt_of_lt_of_eq (by omega) (Qb9 _ 64 _ hP (by omega)).symm)) fun W18 p18 r5_18 => ?_
   have x18 : Ext w W18 := Puts.ext p18 x17 b5
   refine Qac ?_
   refine hK93 _ _ ?_
   refine Qab ?_
   refine Qaa (.int .i64 ((i : Nat) : Int)) 83 rfl kj kj ?_
   refine Qaa (.int .i64 ((i + 1 : Nat) : Int)) 84 rfl kj (Qah (u := .int .i64 (IntKind.i64.wrap (((i : Nat) : Int) + 1))) kj (congrArg (Value.int .i64) (i64n _ _ (by omega) (by omega)))) ?_
   refine Qaa (.int .i64 ((i + 1 : Nat) : Int)) 14 rfl kj kj ?_
   refine Qac ?_
   repeat (first | with_reducible refine goX1 ?_ | with_reducible refine goX2 ?_ | with_reducible refine goX3 ?_)
   exact Qaz (i + 1) ⟨rfl, rfl, rfl, rfl, rfl, trivial⟩ ⟨(by omega), (QaO r5_18 (Qb6 _ 64 i hP (by omega))), (Qax.puts (Qax.step q16 e17) p18 (.inl (by simp))), x18⟩ (by omega)
  ·skip
   have heq82 : i = 64 := by have := of_decide_eq_false c87; omega
   subst heq82
   have r5_16_94 : V2.heap[g5]? = some (.cells (ints .u8 (Qb7 xF s)) 78) := QaO q5_2 (QbG _ 64 hP)
   refine wp_exit ?_
   refine hK83 _ _ ?_
   refine wp_seq_k fun K95 hK95 => ?_
   refine Qab ?_
   refine Qaa (.agg (ints .u8 (Qb7 xF s))) 104 rfl kj (Qau 78 _ g5 78 _ _ r5_16_94 rfl kj kj (isz (n := 64) kj ((Qaf _ _).trans hP))) ?_
   have r3_3 := (Qad r3_2 e3)
   have r3_4 := (Qad r3_3 e4)
   have r3_5 := (Puts.row p5 r3_4 (Qag r3_3 l11))
   have r3_6 := (Qad r3_5 e6)
   have r3_7 := (Qad r3_6 e7)
   have r3_8 := (Qb2 l8 r3_7 (QaA r3_5))
   have r3_9 := (Qad r3_8 e9)
   have r3_10 := (Qb2 l10 r3_9 (QaA r3_5))
   have r3_11 := (Qad r3_10 e11)
   have r3_12 := (Qb2 l12 r3_11 (QaA r3_5))
   have r3_13 := (Qad r3_12 e13)
   have r3_14 := (Qb2 l14 r3_13 (QaA r3_12))
   have r3_15 := (Qax.row q15 r3_14 (Qbi (Qag r3_12 lx) Qb8))
   have r3_16 := (Qax.row q16 r3_15 (Qbi (Qag r3_2 l5) Qb8))
   refine Qal g3 _ (ints .u8 (Qb7 xF s)) 78 r3_16 rfl kj (Qap 78 _ _ g3 78 _ _ r3_16 rfl kj kj (isz (n := 64) kj ((Qaf _ _).trans hP)) (eqsz (n := 64) ((Qaf _ _).trans (List.length_replicate (n := 64))) ((Qaf _ _).trans hP)) (QaB _ _)) fun W17 p17 r3_17 => ?_
   have x17 : Ext w W17 := Puts.ext p17 xx2 b3
   refine Qaa (.int .i64 0) 7 rfl kj kj ?_
   refine Qac ?_
   refine hK95 _ _ ?_
   refine wp_ret ?_
   repeat (first | with_reducible refine goR1 ?_ | with_reducible refine goR2 ?_)
   exact (show bodyPost _ _ _ .ret _ _ from ret2 (.agg (ints .u8 (Qb7 xF s))) (.int .i64 0) rfl (Qbw g3 78 _ r3_17 kj kj (isz (n := 64) kj ((Qaf _ _).trans hP))) (QaC kj) ⟨by unfold QaS; rw [exF, es], x17⟩)
end Go.Proofs.YtjldjdlhllgakaaDoor.Cha
end
section
namespace Go.Proofs.YtjldjdlhllgakaaDoor.Cha
open Go Go.RowKit
open Rely Auto Own Sha
set_option linter.unusedVariables false
set_option linter.unusedSimpArgs false
open Sha
set_option maxRecDepth 100000 in
set_option maxHeartbeats 4000000 in
theorem Qkf (key nonce text : List Int) (v v2 : Value) (B B2 : Nat) (number : Int) (w : World) (hkl : key.length = 32) (hkb : Qaj key) (hnb : Qaj nonce) (hn : RdK .u8 B nonce v w) (ht : RdK .u8 B2 text v2 w) (h : nonce.length = 12) (r : Nat) (hr : number + (r : Int) = 4294967296) (h1 : 0 ≤ number) (h2 : number ≤ 4294967295) (hfit : text.length ≤ 64 * r) (htl : text.length ≤ 2000000) : Calls Tryd.prog 34 #[.agg (ints .u8 key), v, .int .i64 number, v2] w (Qcb w (fun v W => ∃ u, v = .tuple #[u, .int .i64 0] ∧ OwnN .u8 5 w.heap.size (mixV (QaG key nonce) number text) u W)) := by
 obtain ⟨a_n, c_n, rfl, -⟩ := id hn
 obtain ⟨a_t, c_t, rfl, -⟩ := id ht
 refine enter 58 [(0, .agg (ints .u8 (key))), (1, .slice a_n nonce.length c_n), (2, .int .i64 number), (3, .slice a_t text.length c_t)] Tryd.func34 rfl rfl kj rfl ?_
 refine wp_seq_k fun K1 hK1 => ?_
 refine Qab ?_
 refine Qar (ints .u8 (key)) 23 4 rfl kj kj fun g2 W1 l2 e1 r2_1 => ?_
 have x1 : Ext w W1 := Ext.tr (Rely.Ext.refl w) e1
 have b2 : w.heap.size ≤ g2 := Nat.le_trans (Rely.Ext.refl w).size l2
 refine Qaa (.slice none 0 0) 8 rfl kj kj ?_
 refine Qaa (.int .i64 0) 9 rfl kj kj ?_
 refine Qac ?_
 refine hK1 _ _ ?_
 refine wp_seq_k fun K3 hK3 => ?_
 refine wp_seq_k fun K4 hK4 => ?_
 refine Qab ?_
 refine Qaa (.agg (ints .u8 (key))) 17 rfl kj (Qau 23 _ g2 23 _ _ r2_1 rfl kj kj (isz (n := 32) kj ((Qaf _ _).trans hkl))) ?_
 refine Qaa (.slice a_n nonce.length c_n) 18 rfl kj kj ?_
 refine Qaa (.int .i64 number) 19 rfl kj kj ?_
 refine Qa6 (.tuple #[.agg (ints .u8 (QaS (QaG key nonce) (number))), .int .i64 0]) 45 #[.agg (ints .u8 (key)), .slice a_n nonce.length c_n, .int .i64 number] 20 rfl kj kj ((Qft key nonce _ _ number _ hkl (RdK.ext hn x1) h (by omega) (by omega) hkb hnb)) fun W2 e2 => ?_
 have x2 : Ext w W2 := Ext.tr x1 e2
 refine Qaa (.tuple #[.agg (ints .u8 (QaS (QaG key nonce) (number))), .int .i64 0]) 16 rfl kj kj ?_
 refine Qaa (.agg (ints .u8 (QaS (QaG key nonce) (number)))) 21 rfl kj kj ?_
 refine Qaa (.int .i64 0) 22 rfl kj kj ?_
 refine Qar (ints .u8 (List.replicate 64 0)) 78 10 rfl kj kj fun g5 W3 l5 e3 r5_3 => ?_
 have x3 : Ext w W3 := Ext.tr x2 e3
 have b5 : w.heap.size ≤ g5 := Nat.le_trans x2.size l5
 refine Qal g5 _ (ints .u8 (QaS (QaG key nonce) (number))) 78 r5_3 rfl kj (Qap 78 _ _ g5 78 _ _ r5_3 rfl kj kj (isz (n := 64) kj ((Qaf _ _).trans (Qbe _ _))) (eqsz (n := 64) ((Qaf _ _).trans (List.length_replicate (n := 64))) ((Qaf _ _).trans (Qbe _ _))) (QaB _ _)) fun W4 p4 r5_4 => ?_
 have x4 : Ext w W4 := Puts.ext p4 x3 b5
 refine Qaa (.int .i64 0) 11 rfl kj kj ?_
 refine Qac ?_
 refine hK4 _ _ ?_
 refine wp_seq_k fun K6 hK6 => ?_
 refine Qab ?_
 refine Qaa (.int .i64 0) 23 rfl kj kj ?_
 refine Qaa (.bool false) 24 rfl kj kj ?_
 refine Qac ?_
 refine hK6 _ _ ?_
 refine cond_false kj ?_
 refine wp_skip ?_
 refine hK3 _ _ ?_
 refine wp_seq_k fun K7 hK7 => ?_
 refine Qab ?_
 refine Qaa (.slice none 0 0) 12 rfl kj kj ?_
 refine Qac ?_
 refine hK7 _ _ ?_
 refine wp_seq_k fun K8 hK8 => ?_
 refine wp_seq_k fun K9 hK9 => ?_
 refine Qab ?_
 refine Qaa (.int .i64 0) 13 rfl kj kj ?_
 refine Qac ?_
 refine hK9 _ _ ?_
 refine wp_block ?_
 refine QaH (fun (s1 : Nat × Value) => [(1, .slice a_n nonce.length c_n), (2, .int .i64 number), (3, .slice a_t text.length c_t), (4, .pointer (some ⟨g2, 0, none⟩)), (12, s1.2), (13, .int .i64 ((s1.1 : Nat) : Int))]) (fun (s1 : Nat × Value) W => (s1.1 ≤ text.length) ∧ (OwnN .u8 5 W4.heap.size (mxv text (QaG key nonce) number id s1.1) s1.2 W) ∧ (Ext W4 W) ∧ (Ext w W)) (fun (s1 : Nat × Value) => text.length - s1.1) (0, (.slice none 0 0)) ⟨rfl, rfl, rfl, rfl, rfl, rfl, trivial⟩ ⟨(Nat.zero_le _), (QbW _ _ _ _), (Rely.Ext.refl W4), x4⟩ fun s1 X1 V1 hI1 => ?_
 obtain ⟨i, u⟩ := s1
 obtain ⟨hi, hu, kk1, xx1⟩ := hI1
 replace hi : i ≤ text.length := hi
 replace hu : OwnN .u8 5 W4.heap.size (mxv text (QaG key nonce) number id i) u V1 := hu
 replace kk1 : Ext W4 V1 := kk1
 replace xx1 : Ext w V1 := xx1
 have e5 := kk1
 refine wp_seq_k fun K10 hK10 => ?_
 refine wp_seq_k fun K11 hK11 => ?_
 refine Qab ?_
 refine Qaa (.int .i64 ((i : Nat) : Int)) 26 rfl kj kj ?_
 refine Qaa (.slice a_t text.length c_t) 27 rfl kj kj ?_
 refine Qaa (.int .i64 ((text.length : Nat) : Int)) 28 rfl kj kj ?_
 refine Qaa (.bool (decide (((i : Nat) : Int) < ((text.length : Nat) : Int)))) 29 rfl kj kj ?_
 refine Qac ?_
 refine hK11 _ _ ?_
 refine Qa8 (t := decide (((i : Nat) : Int) < ((text.length : Nat) : Int))) kj (fun c12 => ?_) (fun c12 => ?_)
 ·skip
  have hlt : i < text.length := by have := of_decide_eq_true c12; omega
  obtain ⟨gt, ot, hat, -, hlt_, hct⟩ := Qb4 (RdK.ext ht xx1) (by omega)
  refine wp_skip ?_
  refine hK10 _ _ ?_
  refine wp_seq_k fun K13 hK13 => ?_
  refine wp_block ?_
  refine wp_seq_k fun K14 hK14 => ?_
  refine Qab ?_
  have r2_2 := (Qad r2_1 e2)
  have r2_3 := (Qad r2_2 e3)
  have r2_4 := (Puts.row p4 r2_3 (Qag r2_2 l5))
  have r2_5 := (Qad r2_4 e5)
  refine Qaa (.agg (ints .u8 (key))) 33 rfl kj (Qau 23 _ g2 23 _ _ r2_5 rfl kj kj (isz (n := 32) kj ((Qaf _ _).trans hkl))) ?_
  refine Qaa (.slice a_n nonce.length c_n) 34 rfl kj kj ?_
  refine Qaa (.int .i64 number) 35 rfl kj kj ?_
  refine Qaa (.int .i64 ((i : Nat) : Int)) 36 rfl kj kj ?_
  refine Qaa (.int .i64 ((i / 64 : Nat) : Int)) 37 rfl kj (Qah (u := .int .i64 (IntKind.i64.wrap (Int.tdiv (((i : Nat) : Int)) (64)))) kj (congrArg (Value.int .i64) (Qde _ 64 (by omega)))) ?_
  refine Qaa (.int .i64 (number + ((i / 64 : Nat) : Int))) 38 rfl kj (Qah (u := .int .i64 (IntKind.i64.wrap (number + ((i / 64 : Nat) : Int)))) kj (congrArg (Value.int .i64) (IntWalk.i64_in _ (by omega)))) ?_
  refine Qa6 (.tuple #[.agg (ints .u8 (QaS (QaG key nonce) (number + ((i / 64 : Nat) : Int)))), .int .i64 0]) 45 #[.agg (ints .u8 (key)), .slice a_n nonce.length c_n, .int .i64 (number + ((i / 64 : Nat) : Int))] 39 rfl kj kj ((Qft key nonce _ _ (number + ((i / 64 : Nat) : Int)) _ hkl (RdK.ext hn xx1) h (by omega) (by omega) hkb hnb)) fun W6 e6 => ?_
  have x6 : Ext w W6 := Ext.tr xx1 e6
  refine Qaa (.tuple #[.agg (ints .u8 (QaS (QaG key nonce) (number + ((i / 64 : Nat) : Int)))), .int .i64 0]) 32 rfl kj kj ?_
  refine Qaa (.agg (ints .u8 (QaS (QaG key nonce) (number + ((i / 64 : Nat) : Int))))) 40 rfl kj kj ?_
  refine Qaa (.int .i64 0) 41 rfl kj kj ?_
  refine Qar (ints .u8 (List.replicate 64 0)) 78 14 rfl kj kj fun g15 W7 l15 e7 r15_7 => ?_
  have x7 : Ext w W7 := Ext.tr x6 e7
  have b15 : w.heap.size ≤ g15 := Nat.le_trans x6.size l15
  refine Qal g15 _ (ints .u8 (QaS (QaG key nonce) (number + ((i / 64 : Nat) : Int)))) 78 r15_7 rfl kj (Qap 78 _ _ g15 78 _ _ r15_7 rfl kj kj (isz (n := 64) kj ((Qaf _ _).trans (Qbe _ _))) (eqsz (n := 64) ((Qaf _ _).trans (List.length_replicate (n := 64))) ((Qaf _ _).trans (Qbe _ _))) (QaB _ _)) fun W8 p8 r15_8 => ?_
  have x8 : Ext w W8 := Puts.ext p8 x7 b15
  refine Qaa (.int .i64 0) 15 rfl kj kj ?_
  refine Qac ?_
  refine hK14 _ _ ?_
  refine wp_seq_k fun K16 hK16 => ?_
  refine wp_seq_k fun K17 hK17 => ?_
  refine Qab ?_
  refine Qaa (.int .i64 0) 42 rfl kj kj ?_
  refine Qaa (.bool false) 43 rfl kj kj ?_
  refine Qac ?_
  refine hK17 _ _ ?_
  refine cond_false kj ?_
  refine wp_skip ?_
  refine hK16 _ _ ?_
  refine QaX 11 [⟨none, [(12, none)]⟩, ⟨none, [(3, none)]⟩, ⟨none, [(13, none)]⟩, ⟨none, [(46, some 1), (47, some 2)]⟩, ⟨none, [(48, some 3)]⟩, ⟨none, [(13, none)]⟩, ⟨none, [(50, some 5)]⟩, ⟨none, [(14, none), (51, some 6)]⟩, ⟨none, [(52, some 7)]⟩, ⟨none, [(49, some 4), (53, some 8)]⟩, ⟨none, [(54, some 9)]⟩] kj kj fun F hF => ?_
  refine Qa2 (Qam _) (u) kj kj (fun W => by kernel_rfl) ?_
  refine Qa2 (Qam _) (.slice a_t text.length c_t) kj kj (fun W => by kernel_rfl) ?_
  refine Qa2 (Qam _) (.int .i64 ((i : Nat) : Int)) kj kj (fun W => by kernel_rfl) ?_
  refine Qa2 (Qam _) (.pointer (some ⟨gt, ot + i, none⟩)) kj kj (fun W => (QaJ 24 _ _ .i64 i gt ot text.length c_t 5 a_t _ hat rfl rfl kj kj kj kj (Nat.lt_of_lt_of_eq (show i < text.length by omega) (rfl : text.length = text.length).symm))) ?_
  have y5_6 : Ext V1 W6 := (Rely.Ext.trans (Rely.Ext.refl V1) e6)
  have y5_7 : Ext V1 W7 := (Rely.Ext.trans y5_6 e7)
  have y5_8 : Ext V1 W8 := (Puts.ext p8 y5_7 (Nat.le_trans y5_6.size l15))
  refine Qbm (Qam _) (.int .u8 (nth (text) (i))) kj kj (fun W hR => (Qav 5 _ _ (.int .u8 (nth (text) (i))) ((Below.cell (Rely.Ext.trans (Rely.Ext.trans y5_8 (Qai _)) hR) hlt_).trans (hct i (Nat.lt_of_lt_of_eq (show i < text.length by omega) (rfl : text.length = text.length).symm))) rfl kj kj)) ?_
  refine Qa2 (Qam _) (.int .i64 ((i : Nat) : Int)) kj kj (fun W => by kernel_rfl) ?_
  refine Qa2 (Qam _) (.int .i64 ((i % 64 : Nat) : Int)) kj kj (fun W => (Qah (u := .int .i64 (Int.tmod (((i : Nat) : Int)) (64))) kj (congrArg (Value.int .i64) (QcC _ 64)))) ?_
  refine Qa2 (Qam _) (.pointer (some ⟨g15, i % 64, none⟩)) kj kj (fun W => (QaZ _ _ _ .i64 (i % 64) _ 64 5 rfl kj kj kj kj (by omega))) ?_
  refine Qbm (Qam _) (.int .u8 (nth (QaS (QaG key nonce) (number + ((i / 64 : Nat) : Int))) (i % 64))) kj kj (fun W hR => (Qae 5 _ g15 (i % 64) 78 _ (.int .u8 (nth (QaS (QaG key nonce) (number + ((i / 64 : Nat) : Int))) (i % 64))) _ (Qad (Qad r15_8 (Qai _)) hR) rfl kj (Qa7 _ _ _ (Nat.lt_of_lt_of_eq (by omega) (Qbe _ _).symm)) kj)) ?_
  refine Qa2 (Qam _) (.int .u8 (bits .xor .u8 ((nth (text) (i))) ((nth (QaS (QaG key nonce) (number + ((i / 64 : Nat) : Int))) (i % 64))))) kj kj (fun W => by kernel_rfl) ?_
  refine QgU (Qam _) (ints .u8 ([(bits .xor .u8 ((nth (text) (i))) ((nth (QaS (QaG key nonce) (number + ((i / 64 : Nat) : Int))) (i % 64))))])) 5 1 (NewS.stable _ _ _ _) kj kj (fun W => by kernel_rfl) ?_
  refine QcG (hF _ fun W9 e9 => ?_)
  simp only [List.nil_append, List.cons_append, List.take_succ_cons, List.take_zero, List.drop_succ_cons, List.drop_zero, finE, up]
  intro vv18 hv18
  clear hF
  have x9 : Ext w W9 := Ext.tr x8 e9
  obtain ⟨g18, rfl, l18, r18_9⟩ := hv18
  have b18 : w.heap.size ≤ g18 := Nat.le_trans x8.size l18
  have f19_6 := (hu.ext e6)
  have f20_7 := (f19_6.ext e7)
  have f21_8 := (f20_7.puts p8 (Qdh f19_6 l15))
  have f22_9 := (f21_8.ext e9)
  have y4_6 : Ext W4 W6 := (Rely.Ext.trans e5 e6)
  have y4_7 : Ext W4 W7 := (Rely.Ext.trans y4_6 e7)
  have y4_8 : Ext W4 W8 := (Puts.ext p8 y4_7 (Nat.le_trans y4_6.size l15))
  have y4_9 : Ext W4 W9 := (Rely.Ext.trans y4_8 e9)
  refine QaE (k := .u8) (T := 5) (xs := mxv text (QaG key nonce) number id i) (ys := [(bits .xor .u8 ((nth (text) (i))) ((nth (QaS (QaG key nonce) (number + ((i / 64 : Nat) : Int))) (i % 64))))]) (V := W4) 1 (.tmp 45) (.tmp 55) 24 rfl kj kj (by decide) 56 rfl kj kj kj f22_9 (QaP (xs := [(bits .xor .u8 ((nth (text) (i))) ((nth (QaS (QaG key nonce) (number + ((i / 64 : Nat) : Int))) (i % 64))))]) (n := 1) rfl r18_9 (QaA r18_9) (show 1 ≤ maxLen from by decide)) (by rw [Qdo]; show _ + 1 ≤ _; omega) y4_9 fun z1 W10 f23 y10 l10 => ?_
  have x10 : Ext w W10 := Ext.low x9 l10 x4.size
  refine Qaa (z1) 12 rfl kj kj ?_
  refine Qac ?_
  refine hK13 _ _ ?_
  refine Qab ?_
  refine Qaa (.int .i64 ((i : Nat) : Int)) 30 rfl kj kj ?_
  refine Qaa (.int .i64 ((i + 1 : Nat) : Int)) 31 rfl kj (Qah (u := .int .i64 (IntKind.i64.wrap (((i : Nat) : Int) + 1))) kj (congrArg (Value.int .i64) (i64n _ _ (by omega) (by omega)))) ?_
  refine Qaa (.int .i64 ((i + 1 : Nat) : Int)) 13 rfl kj kj ?_
  refine Qac ?_
  repeat (first | with_reducible refine goX1 ?_ | with_reducible refine goX2 ?_ | with_reducible refine goX3 ?_)
  exact Qaz ((i + 1), z1) ⟨rfl, rfl, rfl, rfl, rfl, rfl, trivial⟩ ⟨(by omega), (by rw [Qi7]; exact f23), y10, x10⟩ (by show text.length - (i + 1) < text.length - i; omega)
 ·skip
  have hge : text.length = i := by have := of_decide_eq_false c12; omega
  refine wp_exit ?_
  refine hK8 _ _ ?_
  refine wp_seq_k fun K25 hK25 => ?_
  refine Qab ?_
  refine Qaa (u) 57 rfl kj kj ?_
  refine Qaa (u) 8 rfl kj kj ?_
  refine Qaa (.int .i64 0) 9 rfl kj kj ?_
  refine Qac ?_
  refine hK25 _ _ ?_
  refine wp_ret ?_
  repeat (first | with_reducible refine goR1 ?_ | with_reducible refine goR2 ?_)
  exact (show bodyPost _ _ _ .ret _ _ from ret2 (u) (.int .i64 0) rfl (QaC kj) (QaC kj) ⟨_, rfl, xx1, u, rfl, by unfold mixV; rw [hge]; exact OwnN.base x4.size hu⟩)
end Go.Proofs.YtjldjdlhllgakaaDoor.Cha
end
section
namespace Go.Proofs.YtjldjdlhllgakaaDoor.Ae
open Go Go.RowKit
open Rely Auto Own Sha
set_option linter.unusedVariables false
set_option linter.unusedSimpArgs false
open Sha Cha
theorem QiP (n : Int) (i : Nat) (h : i < 8) : (by8 n).take (i + 1) = (by8 n).take i ++ [nth (by8 n) i] := QcS (by8 n) i (by rw [QbN]; exact h)
theorem QjN (n : Int) (i : Nat) : n / p256 i / 256 = n / p256 (i + 1) := by
  rw [QbF, Int.mul_comm, Int.ediv_ediv_of_nonneg (by have := QbR i; omega)]
theorem Qge (n : Int) (i : Nat) (h : 0 ≤ n) (hn : n ≤ 5000000000) : 0 ≤ n / p256 i ∧ n / p256 i ≤ 5000000000 := by
  have h1 := Int.ediv_nonneg h (Int.le_of_lt (QbR i))
  have h2 := Int.ediv_le_self (p256 i) h
  omega
theorem QiQ (n : Int) (i : Nat) (h : i < 8) : IntKind.u8.wrap (n / p256 i % 256) = nth (by8 n) i := by
  have h3 : ∀ z : Int, IntKind.u8.wrap z = z % 256 := fun _ => rfl
  rw [h3, Qij n i h]; omega
theorem QhI (n j : Nat) (h : j ≤ (16 - n % 16) % 16) (h0 : (n + j) % 16 = 0) : j = (16 - n % 16) % 16 := by omega
theorem QgH (n j : Nat) (h : j ≤ (16 - n % 16) % 16) (h0 : (n + j) % 16 ≠ 0) : j + 1 ≤ (16 - n % 16) % 16 := by omega
theorem QgC (j : Nat) : List.replicate j (0 : Int) ++ [0] = List.replicate (j + 1) 0 := (List.replicate_succ' ..).symm
set_option maxHeartbeats 4000000 in
theorem Qjq (n : Nat) (w : World) (hn : n ≤ 5000000000) : Calls Tryd.prog 46 #[.int .i64 ((n : Nat) : Int)] w (Qcb w (OwnN .u8 5 w.heap.size (by8 ((n : Nat) : Int)))) := by
 refine enter 18 [(0, .int .i64 ((n : Nat) : Int))] Tryd.func46 rfl rfl kj rfl ?_
 refine wp_seq_k fun K1 hK1 => ?_
 refine Qab ?_
 refine Qaa (.slice none 0 0) 2 rfl kj kj ?_
 refine Qac ?_
 refine hK1 _ _ ?_
 refine wp_seq_k fun K2 hK2 => ?_
 refine Qab ?_
 refine Qaa (.slice none 0 0) 3 rfl kj kj ?_
 refine Qac ?_
 refine hK2 _ _ ?_
 refine wp_seq_k fun K3 hK3 => ?_
 refine wp_seq_k fun K4 hK4 => ?_
 refine Qab ?_
 refine Qaa (.int .i64 0) 4 rfl kj kj ?_
 refine Qac ?_
 refine hK4 _ _ ?_
 refine wp_block ?_
 refine QaH (fun (s1 : Nat × Value) => [(0, .int .i64 (((n : Nat) : Int) / p256 s1.1)), (2, .slice none 0 0), (3, s1.2), (4, .int .i64 ((s1.1 : Nat) : Int))]) (fun (s1 : Nat × Value) W => (s1.1 ≤ 8) ∧ (OwnN .u8 5 w.heap.size ((by8 ((n : Nat) : Int)).take s1.1) s1.2 W) ∧ (Ext w W) ∧ (Ext w W)) (fun (s1 : Nat × Value) => 8 - s1.1) (0, (.slice none 0 0)) ⟨(show Value.int .i64 ((n : Nat) : Int) = Value.int .i64 (((n : Nat) : Int) / p256 0) from by rw [QfP, Int.ediv_one]), rfl, rfl, rfl, trivial⟩ ⟨(Nat.zero_le _), (by rw [List.take_zero]; exact QbW _ _ _ _), (Rely.Ext.refl w), (Rely.Ext.refl w)⟩ fun s1 X1 V1 hI1 => ?_
 obtain ⟨i, u⟩ := s1
 obtain ⟨hi, hu, kk1, xx1⟩ := hI1
 replace hi : i ≤ 8 := hi
 replace hu : OwnN .u8 5 w.heap.size ((by8 ((n : Nat) : Int)).take i) u V1 := hu
 replace kk1 : Ext w V1 := kk1
 replace xx1 : Ext w V1 := xx1
 have e1 := kk1
 refine wp_seq_k fun K5 hK5 => ?_
 refine wp_seq_k fun K6 hK6 => ?_
 refine Qab ?_
 refine Qaa (.int .i64 ((i : Nat) : Int)) 5 rfl kj kj ?_
 refine Qaa (.bool (decide (((i : Nat) : Int) < 8))) 6 rfl kj kj ?_
 refine Qac ?_
 refine hK6 _ _ ?_
 refine Qa8 (t := decide (((i : Nat) : Int) < 8)) kj (fun c7 => ?_) (fun c7 => ?_)
 ·skip
  have hlt6 : i < 8 := by have := of_decide_eq_true c7; omega
  have hrg := Qge ((n : Nat) : Int) i (by omega) (by omega)
  refine wp_skip ?_
  refine hK5 _ _ ?_
  refine wp_seq_k fun K8 hK8 => ?_
  refine wp_block ?_
  refine wp_seq_k fun K9 hK9 => ?_
  refine Qab ?_
  refine Qaa (u) 9 rfl kj kj ?_
  refine Qaa (.int .i64 (((n : Nat) : Int) / p256 i)) 10 rfl kj kj ?_
  refine Qaa (.int .i64 (((n : Nat) : Int) / p256 i % 256)) 11 rfl kj (Qah (u := .int .i64 (Int.tmod ((((n : Nat) : Int) / p256 i)) (256))) kj (congrArg (Value.int .i64) (show Int.tmod (((n : Nat) : Int) / p256 i) 256 = ((n : Nat) : Int) / p256 i % 256 from Int.tmod_eq_emod_of_nonneg hrg.1))) ?_
  refine Qaa (.int .u8 (nth (by8 ((n : Nat) : Int)) i)) 12 rfl kj (Qah (u := .int .u8 (IntKind.u8.wrap (((n : Nat) : Int) / p256 i % 256))) kj (congrArg (Value.int .u8) (QiQ _ i hlt6))) ?_
  refine QaD (ints .u8 ([(nth (by8 ((n : Nat) : Int)) i)])) 5 1 13 rfl kj kj fun g10 W2 l10 e2 r10_2 => ?_
  have x2 : Ext w W2 := Ext.tr xx1 e2
  have b10 : w.heap.size ≤ g10 := Nat.le_trans xx1.size l10
  have f11_2 := (hu.ext e2)
  have y0_2 : Ext w W2 := (Rely.Ext.trans e1 e2)
  refine QaE (k := .u8) (T := 5) (xs := (by8 ((n : Nat) : Int)).take i) (ys := [(nth (by8 ((n : Nat) : Int)) i)]) (V := w) 1 (.tmp 9) (.tmp 13) 24 rfl kj kj (by decide) 14 rfl kj kj kj f11_2 (QaP (xs := [(nth (by8 ((n : Nat) : Int)) i)]) (n := 1) rfl r10_2 (QaA r10_2) (show 1 ≤ maxLen from by decide)) (by rw [List.length_take, QbN]; show _ + 1 ≤ _; omega) y0_2 fun z1 W3 f12 y3 l3 => ?_
  have x3 : Ext w W3 := Ext.low x2 l3 (Rely.Ext.refl w).size
  refine Qaa (z1) 3 rfl kj kj ?_
  refine Qac ?_
  refine hK9 _ _ ?_
  refine Qab ?_
  refine Qaa (.int .i64 (((n : Nat) : Int) / p256 i)) 15 rfl kj kj ?_
  refine Qaa (.int .i64 (((n : Nat) : Int) / p256 (i + 1))) 16 rfl kj (Qah (u := .int .i64 (IntKind.i64.wrap (Int.tdiv ((((n : Nat) : Int) / p256 i)) (256)))) kj (congrArg (Value.int .i64) (by rw [show Int.tdiv (((n : Nat) : Int) / p256 i) 256 = ((n : Nat) : Int) / p256 i / 256 from Int.tdiv_eq_ediv_of_nonneg hrg.1, QjN]; exact IntWalk.i64_in _ (by have := Qge ((n : Nat) : Int) (i + 1) (by omega) (by omega); omega)))) ?_
  refine Qaa (.int .i64 (((n : Nat) : Int) / p256 (i + 1))) 0 rfl kj kj ?_
  refine Qac ?_
  refine hK8 _ _ ?_
  refine Qab ?_
  refine Qaa (.int .i64 ((i : Nat) : Int)) 7 rfl kj kj ?_
  refine Qaa (.int .i64 ((i + 1 : Nat) : Int)) 8 rfl kj (Qah (u := .int .i64 (IntKind.i64.wrap (((i : Nat) : Int) + 1))) kj (congrArg (Value.int .i64) (i64n _ _ (by omega) (by omega)))) ?_
  refine Qaa (.int .i64 ((i + 1 : Nat) : Int)) 4 rfl kj kj ?_
  refine Qac ?_
  repeat (first | with_reducible refine goX1 ?_ | with_reducible refine goX2 ?_ | with_reducible refine goX3 ?_)
  exact Qaz ((i + 1), z1) ⟨rfl, rfl, rfl, rfl, trivial⟩ ⟨(show i + 1 ≤ 8 by omega), (by rw [QiP _ i hlt6]; exact f12), y3, x3⟩ (by show 8 - (i + 1) < 8 - i; omega)
 ·skip
  have heq6 : i = 8 := by have := of_decide_eq_false c7; omega
  refine wp_exit ?_
  refine hK3 _ _ ?_
  refine wp_seq_k fun K14 hK14 => ?_
  refine Qab ?_
  refine Qaa (u) 17 rfl kj kj ?_
  refine Qaa (u) 2 rfl kj kj ?_
  refine Qac ?_
  refine hK14 _ _ ?_
  refine wp_ret ?_
  repeat (first | with_reducible refine goR1 ?_ | with_reducible refine goR2 ?_)
  exact (show bodyPost _ _ _ .ret _ _ from ret1 (u) rfl (QaC kj) ⟨u, rfl, xx1, OwnN.base (Rely.Ext.refl w).size (by have h9 := hu; rw [heq6, List.take_of_length_le (by rw [QbN]; decide)] at h9; exact h9)⟩)
set_option maxRecDepth 100000 in
set_option maxHeartbeats 4000000 in
theorem QgB (key nonce ctx mixed : List Int) (v v2 v3 : Value) (B B2 B3 : Nat) (w : World) (hkl : key.length = 32) (hkb : Qaj key) (hnb : Qaj nonce) (hn : RdK .u8 B nonce v w) (hc : RdK .u8 B2 ctx v2 w) (hm : RdK .u8 B3 mixed v3 w) (h : nonce.length = 12) (hcb : Qaj ctx) (hmb : Qaj mixed) (hcl : ctx.length ≤ 1200000) (hml : mixed.length ≤ 1200000) :
  Calls Tryd.prog 35 #[.agg (ints .u8 key), v, v2, v3] w (Ret w (.agg (ints .u8 (Qbx key nonce ctx mixed)))) := by
 obtain ⟨a_n, c_n, rfl, -⟩ := id hn
 obtain ⟨a_c, c_c, rfl, -⟩ := id hc
 obtain ⟨a_m, c_m, rfl, -⟩ := id hm
 refine enter 61 [(0, .agg (ints .u8 (key))), (1, .slice a_n nonce.length c_n), (2, .slice a_c ctx.length c_c), (3, .slice a_m mixed.length c_m)] Tryd.func35 rfl rfl kj rfl ?_
 refine wp_seq_k fun K1 hK1 => ?_
 refine Qab ?_
 refine Qar (ints .u8 (key)) 23 4 rfl kj kj fun g2 W1 l2 e1 r2_1 => ?_
 have x1 : Ext w W1 := Ext.tr (Rely.Ext.refl w) e1
 have b2 : w.heap.size ≤ g2 := Nat.le_trans (Rely.Ext.refl w).size l2
 refine Qar (ints .u8 (List.replicate 16 0)) 27 8 rfl kj kj fun g3 W2 l3 e2 r3_2 => ?_
 have x2 : Ext w W2 := Ext.tr x1 e2
 have b3 : w.heap.size ≤ g3 := Nat.le_trans x1.size l3
 refine Qac ?_
 refine hK1 _ _ ?_
 refine wp_seq_k fun K4 hK4 => ?_
 refine Qab ?_
 have r2_2 := (Qad r2_1 e2)
 refine Qaa (.agg (ints .u8 (key))) 15 rfl kj (Qau 23 _ g2 23 _ _ r2_2 rfl kj kj (isz (n := 32) kj ((Qaf _ _).trans hkl))) ?_
 refine Qaa (.slice a_n nonce.length c_n) 16 rfl kj kj ?_
 refine Qa6 (.tuple #[.agg (ints .u8 (QaS (QaG key nonce) (0))), .int .i64 0]) 45 #[.agg (ints .u8 (key)), .slice a_n nonce.length c_n, .int .i64 0] 17 rfl kj kj ((Qft key nonce _ _ 0 _ hkl (RdK.ext hn x2) h (by decide) (by decide) hkb hnb)) fun W3 e3 => ?_
 have x3 : Ext w W3 := Ext.tr x2 e3
 refine Qaa (.tuple #[.agg (ints .u8 (QaS (QaG key nonce) (0))), .int .i64 0]) 14 rfl kj kj ?_
 refine Qaa (.agg (ints .u8 (QaS (QaG key nonce) (0)))) 18 rfl kj kj ?_
 refine Qaa (.int .i64 0) 19 rfl kj kj ?_
 refine Qar (ints .u8 (List.replicate 64 0)) 78 9 rfl kj kj fun g5 W4 l5 e4 r5_4 => ?_
 have x4 : Ext w W4 := Ext.tr x3 e4
 have b5 : w.heap.size ≤ g5 := Nat.le_trans x3.size l5
 refine Qal g5 _ (ints .u8 (QaS (QaG key nonce) (0))) 78 r5_4 rfl kj (Qap 78 _ _ g5 78 _ _ r5_4 rfl kj kj (isz (n := 64) kj ((Qaf _ _).trans (Qbe _ _))) (eqsz (n := 64) ((Qaf _ _).trans (List.length_replicate (n := 64))) ((Qaf _ _).trans (Qbe _ _))) (QaB _ _)) fun W5 p5 r5_5 => ?_
 have x5 : Ext w W5 := Puts.ext p5 x4 b5
 refine Qaa (.int .i64 0) 10 rfl kj kj ?_
 refine Qac ?_
 refine hK4 _ _ ?_
 refine wp_seq_k fun K6 hK6 => ?_
 refine Qab ?_
 refine Qar (ints .u8 (List.replicate 32 0)) 23 11 rfl kj kj fun g7 W6 l7 e6 r7_6 => ?_
 have x6 : Ext w W6 := Ext.tr x5 e6
 have b7 : w.heap.size ≤ g7 := Nat.le_trans x5.size l7
 refine Qac ?_
 refine hK6 _ _ ?_
 refine wp_seq_k fun K8 hK8 => ?_
 refine wp_seq_k fun K9 hK9 => ?_
 refine Qab ?_
 refine Qaa (.int .i64 0) 12 rfl kj kj ?_
 refine Qac ?_
 refine hK9 _ _ ?_
 refine wp_block ?_
 refine QaH (fun (s1 : Nat) => [(1, .slice a_n nonce.length c_n), (2, .slice a_c ctx.length c_c), (3, .slice a_m mixed.length c_m), (8, .pointer (some ⟨g3, 0, none⟩)), (9, .pointer (some ⟨g5, 0, none⟩)), (11, .pointer (some ⟨g7, 0, none⟩)), (12, .int .i64 ((s1 : Nat) : Int))]) (fun (s1 : Nat) W => (s1 ≤ 32) ∧ (W.heap[g7]? = some (.cells (ints .u8 (Qbs (otk key nonce) 32 s1)) 23)) ∧ (Qax [g7] W6 W) ∧ (Ext w W)) (fun (s1 : Nat) => 32 - s1) 0 ⟨rfl, rfl, rfl, rfl, rfl, rfl, rfl, trivial⟩ ⟨(Nat.zero_le _), (QaO r7_6 (Qb5 _ 32)), (Qax.refl [g7] W6), x6⟩ fun s1 X1 V1 hI1 => ?_
 obtain ⟨i, hs1⟩ : ∃ z, z = s1 := ⟨_, rfl⟩
 subst hs1
 obtain ⟨hi, q7_1, kk1, xx1⟩ := hI1
 replace hi : i ≤ 32 := hi
 replace q7_1 : V1.heap[g7]? = some (.cells (ints .u8 (Qbs (otk key nonce) 32 i)) 23) := q7_1
 replace kk1 : Qax [g7] W6 V1 := kk1
 replace xx1 : Ext w V1 := xx1
 have q7 := kk1
 refine wp_seq_k fun K10 hK10 => ?_
 refine wp_seq_k fun K11 hK11 => ?_
 refine Qab ?_
 refine Qaa (.int .i64 ((i : Nat) : Int)) 20 rfl kj kj ?_
 refine Qaa (.bool (decide (((i : Nat) : Int) < 32))) 21 rfl kj kj ?_
 refine Qac ?_
 refine hK11 _ _ ?_
 refine Qa8 (t := decide (((i : Nat) : Int) < 32)) kj (fun c12 => ?_) (fun c12 => ?_)
 ·skip
  have hlt21 : i < 32 := by have := of_decide_eq_true c12; omega
  refine wp_skip ?_
  refine hK10 _ _ ?_
  refine wp_seq_k fun K13 hK13 => ?_
  refine wp_block ?_
  refine Qab ?_
  refine Qaa (.int .i64 ((i : Nat) : Int)) 24 rfl kj kj ?_
  refine Qaa (.int .i64 ((i : Nat) : Int)) 25 rfl kj kj ?_
  refine Qaa (.pointer (some ⟨g5, i, none⟩)) 26 rfl kj (QaZ _ _ _ .i64 (i) _ 64 5 rfl kj kj kj kj (by omega)) ?_
  have r5_6 := (Qad r5_5 e6)
  have r5_7 := (Qax.row q7 r5_6 (Qbi (Qag r5_5 l7) Qb8))
  refine Qaa (.int .u8 (nth (otk key nonce) i)) 27 rfl kj (Qae 5 _ g5 i 78 _ (.int .u8 (nth (otk key nonce) i)) _ r5_7 rfl kj ((Qa7 _ _ _ (Nat.lt_of_lt_of_eq (by omega) (Qbe _ _).symm)).trans (congrArg (fun z => some (Value.int .u8 z)) (by unfold otk; exact (Qd0 _ _ _ hlt21).symm))) kj) ?_
  refine Qaa (.pointer (some ⟨g7, i, none⟩)) 28 rfl kj (QaZ _ _ _ .i64 (i) _ 32 5 rfl kj kj kj kj (by omega)) ?_
  refine Qal g7 _ (ints .u8 ((Qbs (otk key nonce) 32 i).set i (nth (otk key nonce) i))) 23 q7_1 rfl kj (Qan 5 _ _ g7 i 23 _ _ q7_1 rfl kj kj kj (Nat.lt_of_lt_of_eq (by omega) (Qb9 _ 32 _ (Qd4 _ _) hi).symm)) fun W8 p8 r7_8 => ?_
  have x8 : Ext w W8 := Puts.ext p8 xx1 b7
  refine Qac ?_
  refine hK13 _ _ ?_
  refine Qab ?_
  refine Qaa (.int .i64 ((i : Nat) : Int)) 22 rfl kj kj ?_
  refine Qaa (.int .i64 ((i + 1 : Nat) : Int)) 23 rfl kj (Qah (u := .int .i64 (IntKind.i64.wrap (((i : Nat) : Int) + 1))) kj (congrArg (Value.int .i64) (i64n _ _ (by omega) (by omega)))) ?_
  refine Qaa (.int .i64 ((i + 1 : Nat) : Int)) 12 rfl kj kj ?_
  refine Qac ?_
  repeat (first | with_reducible refine goX1 ?_ | with_reducible refine goX2 ?_ | with_reducible refine goX3 ?_)
  exact Qaz (i + 1) ⟨rfl, rfl, rfl, rfl, rfl, rfl, rfl, trivial⟩ ⟨(show i + 1 ≤ 32 by omega), (QaO r7_8 (Qb6 _ 32 i (Qd4 _ _) hlt21)), (Qax.puts q7 p8 (.inl (by simp))), x8⟩ (by show 32 - (i + 1) < 32 - i; omega)
 ·skip
  have heq21 : i = 32 := by have := of_decide_eq_false c12; omega
  subst heq21
  have r7_7_14 : V1.heap[g7]? = some (.cells (ints .u8 (otk key nonce)) 23) := QaO q7_1 (QbG _ 32 (Qd4 _ _))
  refine wp_exit ?_
  refine hK8 _ _ ?_
  refine wp_seq_k fun K15 hK15 => ?_
  refine Qab ?_
  refine QaD (ints .u8 ([])) 5 0 29 rfl kj kj fun g16 W8 l16 e8 r16_8 => ?_
  have x8 : Ext w W8 := Ext.tr xx1 e8
  have b16 : w.heap.size ≤ g16 := Nat.le_trans xx1.size l16
  refine Qaa (.slice a_c ctx.length c_c) 30 rfl kj kj ?_
  have y7_8 : Ext V1 W8 := (Rely.Ext.trans (Rely.Ext.refl V1) e8)
  refine QaE (k := .u8) (T := 5) (xs := []) (ys := ctx) (V := V1) 1 (.tmp 29) (.tmp 30) 24 rfl kj kj (by decide) 31 rfl kj kj kj (QcO (xs := []) rfl l16 r16_8 (by decide)) (RdK.ext hc x8) (by show 0 + _ ≤ _; omega) y7_8 fun z1 W9 f17 y9 l9 => ?_
  have x9 : Ext w W9 := Ext.low x8 l9 xx1.size
  refine Qaa (z1) 13 rfl kj kj ?_
  refine Qac ?_
  have ho_0 : OwnN .u8 5 V1.heap.size ctx (z1) W9 := by have h9 := f17; rw [List.nil_append] at h9; exact h9
  refine hK15 _ _ ?_
  refine wp_seq_k fun K19 hK19 => ?_
  refine wp_block ?_
  refine QaH (fun (s2 : Nat × Value) => [(2, .slice a_c ctx.length c_c), (3, .slice a_m mixed.length c_m), (8, .pointer (some ⟨g3, 0, none⟩)), (11, .pointer (some ⟨g7, 0, none⟩)), (13, s2.2)]) (fun (s2 : Nat × Value) W => (s2.1 ≤ ((16 - ctx.length % 16) % 16)) ∧ (OwnN .u8 5 V1.heap.size (ctx ++ List.replicate s2.1 0) s2.2 W) ∧ (Below V1.heap.size W9 W) ∧ (Ext w W)) (fun (s2 : Nat × Value) => ((16 - ctx.length % 16) % 16) - s2.1) (0, z1) ⟨rfl, rfl, rfl, rfl, rfl, trivial⟩ ⟨(Nat.zero_le _), (by rw [List.replicate_zero, List.append_nil]; exact ho_0), (RowKit.Below.refl _ W9), x9⟩ fun s2 X2 V2 hI2 => ?_
  obtain ⟨j35, u35⟩ := s2
  obtain ⟨hj35, hu35, kk2, xx2⟩ := hI2
  replace hj35 : j35 ≤ ((16 - ctx.length % 16) % 16) := hj35
  replace hu35 : OwnN .u8 5 V1.heap.size (ctx ++ List.replicate j35 0) u35 V2 := hu35
  replace kk2 : Below V1.heap.size W9 V2 := kk2
  replace xx2 : Ext w V2 := xx2
  have l10 := kk2
  obtain ⟨aj35, cj35, hvj35, -⟩ := id (OwnN.rd hu35)
  subst hvj35
  have hlj35 : (ctx ++ List.replicate j35 0).length = ctx.length + j35 := by rw [List.length_append, List.length_replicate]
  refine wp_seq_k fun K20 hK20 => ?_
  refine wp_seq_k fun K21 hK21 => ?_
  refine Qab ?_
  refine Qaa (.slice aj35 ((ctx ++ List.replicate j35 0).length) cj35) 32 rfl kj kj ?_
  refine Qaa (.int .i64 (((ctx ++ List.replicate j35 0).length : Nat) : Int)) 33 rfl kj kj ?_
  refine Qaa (.int .i64 ((((ctx.length + j35) % 16 : Nat) : Int))) 34 rfl kj (Qah (u := .int .i64 (Int.tmod ((((ctx ++ List.replicate j35 0).length : Nat) : Int)) (16))) kj (congrArg (Value.int .i64) (by rw [hlj35]; exact QcC _ 16))) ?_
  refine Qaa (.bool (((((ctx.length + j35) % 16 : Nat) : Int) != 0))) 35 rfl kj kj ?_
  refine Qac ?_
  refine hK21 _ _ ?_
  refine Qa8 (t := ((((ctx.length + j35) % 16 : Nat) : Int) != 0)) kj (fun c22 => ?_) (fun c22 => ?_)
  ·skip
   have hne35 : (ctx.length + j35) % 16 ≠ 0 := by have h9 := bne_iff_ne.1 c22; omega
   have hmo35 := QgH _ _ hj35 hne35
   refine wp_skip ?_
   refine hK20 _ _ ?_
   refine wp_block ?_
   refine Qab ?_
   refine Qaa (.slice aj35 ((ctx ++ List.replicate j35 0).length) cj35) 36 rfl kj kj ?_
   refine QaD (ints .u8 ([0])) 5 1 37 rfl kj kj fun g23 W11 l23 e11 r23_11 => ?_
   have x11 : Ext w W11 := Ext.tr xx2 e11
   have b23 : w.heap.size ≤ g23 := Nat.le_trans xx2.size l23
   have f24_11 := (hu35.ext e11)
   have y7_10 : Ext V1 V2 := (Ext.low y9 l10 (Rely.Ext.refl V1).size)
   have y7_11 : Ext V1 W11 := (Rely.Ext.trans y7_10 e11)
   refine QaE (k := .u8) (T := 5) (xs := ctx ++ List.replicate j35 0) (ys := [0]) (V := V1) 1 (.tmp 36) (.tmp 37) 24 rfl kj kj (by decide) 38 rfl kj kj kj f24_11 (QaP (xs := [0]) (n := 1) rfl r23_11 (QaA r23_11) (show 1 ≤ maxLen from by decide)) (by rw [hlj35]; show _ + 1 ≤ _; omega) y7_11 fun z2 W12 f25 y12 l12 => ?_
   have x12 : Ext w W12 := Ext.low x11 l12 xx1.size
   refine Qaa (z2) 13 rfl kj kj ?_
   refine Qac ?_
   repeat (first | with_reducible refine goX1 ?_ | with_reducible refine goX2 ?_ | with_reducible refine goX3 ?_)
   exact Qaz ((j35 + 1), z2) ⟨rfl, rfl, rfl, rfl, rfl, trivial⟩ ⟨hmo35, (by have h9 := f25; rw [List.append_assoc, QgC] at h9; exact h9), (RowKit.Below.trans (RowKit.Below.trans l10 (RowKit.Below.mono e11 y7_10.size)) l12), x12⟩ (by show ((16 - ctx.length % 16) % 16) - (j35 + 1) < ((16 - ctx.length % 16) % 16) - j35; omega)
  ·skip
   have hen35 : j35 = ((16 - ctx.length % 16) % 16) := QhI _ _ hj35 (by have h9 := bne_eq_false_iff_eq.1 c22; omega)
   obtain ⟨t1, et1⟩ : ∃ z : List Int, z = ctx ++ padV ctx := ⟨_, rfl⟩
   have ho_t1 : OwnN .u8 5 V1.heap.size t1 (.slice aj35 ((ctx ++ List.replicate j35 0).length) cj35) V2 := by rw [et1]; have h9 := hu35; generalize (.slice aj35 ((ctx ++ List.replicate j35 0).length) cj35 : Value) = gv at h9 ⊢; rw [hen35] at h9; exact h9
   have lt1 : t1.length = ctx.length + (16 - ctx.length % 16) % 16 := by rw [et1, List.length_append, Qeu]
   refine wp_exit ?_
   refine hK19 _ _ ?_
   refine wp_seq_k fun K27 hK27 => ?_
   refine Qab ?_
   refine Qaa (.slice aj35 ((ctx ++ List.replicate j35 0).length) cj35) 39 rfl kj kj ?_
   refine Qaa (.slice a_m mixed.length c_m) 40 rfl kj kj ?_
   have y7_10 : Ext V1 V2 := (Ext.low y9 l10 (Rely.Ext.refl V1).size)
   refine QaE (k := .u8) (T := 5) (xs := t1) (ys := mixed) (V := V1) 1 (.tmp 39) (.tmp 40) 24 rfl kj kj (by decide) 41 rfl kj kj kj ho_t1 (RdK.ext hm xx2) (by omega) y7_10 fun z3 W11 f28 y11 l11 => ?_
   have x11 : Ext w W11 := Ext.low xx2 l11 xx1.size
   refine Qaa (z3) 13 rfl kj kj ?_
   refine Qac ?_
   obtain ⟨t2, et2⟩ : ∃ z : List Int, z = t1 ++ mixed := ⟨_, rfl⟩
   have ho_t2 : OwnN .u8 5 V1.heap.size t2 (z3) W11 := by rw [et2]; have h9 := f28; generalize (z3 : Value) = gv at h9 ⊢; skip; exact h9
   have lt2 : t2.length = t1.length + mixed.length := by rw [et2, List.length_append]
   have hx2 : t2.length % 16 = mixed.length % 16 := by omega
   have lt2b : t2.length ≤ 2450000 := by omega
   refine hK27 _ _ ?_
   refine wp_seq_k fun K30 hK30 => ?_
   refine wp_block ?_
   refine QaH (fun (s3 : Nat × Value) => [(2, .slice a_c ctx.length c_c), (3, .slice a_m mixed.length c_m), (8, .pointer (some ⟨g3, 0, none⟩)), (11, .pointer (some ⟨g7, 0, none⟩)), (13, s3.2)]) (fun (s3 : Nat × Value) W => (s3.1 ≤ ((16 - t2.length % 16) % 16)) ∧ (OwnN .u8 5 V1.heap.size (t2 ++ List.replicate s3.1 0) s3.2 W) ∧ (Below V1.heap.size W11 W) ∧ (Ext w W)) (fun (s3 : Nat × Value) => ((16 - t2.length % 16) % 16) - s3.1) (0, z3) ⟨rfl, rfl, rfl, rfl, rfl, trivial⟩ ⟨(Nat.zero_le _), (by rw [List.replicate_zero, List.append_nil]; exact ho_t2), (RowKit.Below.refl _ W11), x11⟩ fun s3 X3 V3 hI3 => ?_
   obtain ⟨j45, u45⟩ := s3
   obtain ⟨hj45, hu45, kk3, xx3⟩ := hI3
   replace hj45 : j45 ≤ ((16 - t2.length % 16) % 16) := hj45
   replace hu45 : OwnN .u8 5 V1.heap.size (t2 ++ List.replicate j45 0) u45 V3 := hu45
   replace kk3 : Below V1.heap.size W11 V3 := kk3
   replace xx3 : Ext w V3 := xx3
   have l12 := kk3
   obtain ⟨aj45, cj45, hvj45, -⟩ := id (OwnN.rd hu45)
   subst hvj45
   have hlj45 : (t2 ++ List.replicate j45 0).length = t2.length + j45 := by rw [List.length_append, List.length_replicate]
   refine wp_seq_k fun K31 hK31 => ?_
   refine wp_seq_k fun K32 hK32 => ?_
   refine Qab ?_
   refine Qaa (.slice aj45 ((t2 ++ List.replicate j45 0).length) cj45) 42 rfl kj kj ?_
   refine Qaa (.int .i64 (((t2 ++ List.replicate j45 0).length : Nat) : Int)) 43 rfl kj kj ?_
   refine Qaa (.int .i64 ((((t2.length + j45) % 16 : Nat) : Int))) 44 rfl kj (Qah (u := .int .i64 (Int.tmod ((((t2 ++ List.replicate j45 0).length : Nat) : Int)) (16))) kj (congrArg (Value.int .i64) (by rw [hlj45]; exact QcC _ 16))) ?_
   refine Qaa (.bool (((((t2.length + j45) % 16 : Nat) : Int) != 0))) 45 rfl kj kj ?_
   refine Qac ?_
   refine hK32 _ _ ?_
   refine Qa8 (t := ((((t2.length + j45) % 16 : Nat) : Int) != 0)) kj (fun c33 => ?_) (fun c33 => ?_)
   ·skip
    have hne45 : (t2.length + j45) % 16 ≠ 0 := by have h9 := bne_iff_ne.1 c33; omega
    have hmo45 := QgH _ _ hj45 hne45
    refine wp_skip ?_
    refine hK31 _ _ ?_
    refine wp_block ?_
    refine Qab ?_
    refine Qaa (.slice aj45 ((t2 ++ List.replicate j45 0).length) cj45) 46 rfl kj kj ?_
    refine QaD (ints .u8 ([0])) 5 1 47 rfl kj kj fun g34 W13 l34 e13 r34_13 => ?_
    have x13 : Ext w W13 := Ext.tr xx3 e13
    have b34 : w.heap.size ≤ g34 := Nat.le_trans xx3.size l34
    have f35_13 := (hu45.ext e13)
    have y7_12 : Ext V1 V3 := (Ext.low y11 l12 (Rely.Ext.refl V1).size)
    have y7_13 : Ext V1 W13 := (Rely.Ext.trans y7_12 e13)
    refine QaE (k := .u8) (T := 5) (xs := t2 ++ List.replicate j45 0) (ys := [0]) (V := V1) 1 (.tmp 46) (.tmp 47) 24 rfl kj kj (by decide) 48 rfl kj kj kj f35_13 (QaP (xs := [0]) (n := 1) rfl r34_13 (QaA r34_13) (show 1 ≤ maxLen from by decide)) (by rw [hlj45]; show _ + 1 ≤ _; omega) y7_13 fun z4 W14 f36 y14 l14 => ?_
    have x14 : Ext w W14 := Ext.low x13 l14 xx1.size
    refine Qaa (z4) 13 rfl kj kj ?_
    refine Qac ?_
    repeat (first | with_reducible refine goX1 ?_ | with_reducible refine goX2 ?_ | with_reducible refine goX3 ?_)
    exact Qaz ((j45 + 1), z4) ⟨rfl, rfl, rfl, rfl, rfl, trivial⟩ ⟨hmo45, (by have h9 := f36; rw [List.append_assoc, QgC] at h9; exact h9), (RowKit.Below.trans (RowKit.Below.trans l12 (RowKit.Below.mono e13 y7_12.size)) l14), x14⟩ (by show ((16 - t2.length % 16) % 16) - (j45 + 1) < ((16 - t2.length % 16) % 16) - j45; omega)
   ·skip
    have hen45 : j45 = ((16 - t2.length % 16) % 16) := QhI _ _ hj45 (by have h9 := bne_eq_false_iff_eq.1 c33; omega)
    obtain ⟨t3, et3⟩ : ∃ z : List Int, z = ctx ++ padV ctx ++ mixed ++ padV mixed := ⟨_, rfl⟩
    have ho_t3 : OwnN .u8 5 V1.heap.size t3 (.slice aj45 ((t2 ++ List.replicate j45 0).length) cj45) V3 := by rw [et3]; have h9 := hu45; generalize (.slice aj45 ((t2 ++ List.replicate j45 0).length) cj45 : Value) = gv at h9 ⊢; rw [hen45, et2, et1] at h9; rw [show (16 - (ctx ++ padV ctx ++ mixed).length % 16) % 16 = (16 - mixed.length % 16) % 16 by rw [← et1, ← et2, hx2]] at h9; exact h9
    have lt3 : t3.length ≤ 2500000 := by rw [et3, List.length_append, List.length_append, ← et1, Qeu, lt1]; omega
    refine wp_exit ?_
    refine hK30 _ _ ?_
    refine wp_seq_k fun K38 hK38 => ?_
    refine Qab ?_
    refine Qaa (.slice aj45 ((t2 ++ List.replicate j45 0).length) cj45) 49 rfl kj kj ?_
    refine Qaa (.slice a_c ctx.length c_c) 50 rfl kj kj ?_
    refine Qaa (.int .i64 ((ctx.length : Nat) : Int)) 51 rfl kj kj ?_
    refine Qaw (fun v W' => (OwnN .u8 5 V3.heap.size (by8 ((ctx.length : Nat) : Int))) v W' ∧ Ext V3 W') 46 #[.int .i64 ((ctx.length : Nat) : Int)] 52 rfl kj kj ((Qjq (ctx.length) _ (by omega)).mono (by rintro e w' ⟨v, rfl, e1, hv⟩; exact ⟨v, rfl, hv, e1⟩)) fun vv39 W13 hh39 => ?_
    obtain ⟨hv39, e13⟩ := hh39
    have x13 : Ext w W13 := Ext.tr xx3 e13
    obtain ⟨a52_, c52_, rfl, -⟩ := id (OwnN.rd hv39)
    have f40_13 := (ho_t3.ext e13)
    have y7_12 : Ext V1 V3 := (Ext.low y11 l12 (Rely.Ext.refl V1).size)
    have y7_13 : Ext V1 W13 := (Rely.Ext.trans y7_12 e13)
    refine QaE (k := .u8) (T := 5) (xs := t3) (ys := by8 ((ctx.length : Nat) : Int)) (V := V1) 1 (.tmp 49) (.tmp 52) 24 rfl kj kj (by decide) 53 rfl kj kj kj f40_13 (OwnN.rd hv39) (by rw [QbN]; omega) y7_13 fun z5 W14 f41 y14 l14 => ?_
    have x14 : Ext w W14 := Ext.low x13 l14 xx1.size
    refine Qaa (z5) 13 rfl kj kj ?_
    refine Qac ?_
    obtain ⟨t4, et4⟩ : ∃ z : List Int, z = t3 ++ by8 ((ctx.length : Nat) : Int) := ⟨_, rfl⟩
    have ho_t4 : OwnN .u8 5 V1.heap.size t4 (z5) W14 := by rw [et4]; have h9 := f41; generalize (z5 : Value) = gv at h9 ⊢; skip; exact h9
    have lt4 : t4.length = t3.length + 8 := by rw [et4, List.length_append, QbN]
    refine hK38 _ _ ?_
    refine wp_seq_k fun K43 hK43 => ?_
    have r7_8 := (Qad r7_7_14 e8)
    have r7_9 := (Qb2 l9 r7_8 (QaA r7_7_14))
    have r7_10 := (Qb2 l10 r7_9 (QaA r7_7_14))
    have r7_11 := (Qb2 l11 r7_10 (QaA r7_7_14))
    have r7_12 := (Qb2 l12 r7_11 (QaA r7_7_14))
    have r7_13 := (Qad r7_12 e13)
    have r7_14 := (Qb2 l14 r7_13 (QaA r7_7_14))
    have hbW : V1.heap.size ≤ W14.heap.size := y14.size
    obtain ⟨gz, cz, curz, hze, hz1, hz2, -, -, -, -⟩ := QdG ho_t4 (by omega)
    have hgz := QaA hz2
    have hv4 : OwnN .u8 5 V1.heap.size t4 (.slice (some ⟨gz, 0, none⟩) t4.length cz) W14 := hze ▸ ho_t4
    have hn11 : g7 ≠ gz := by have h1 := QaA r7_7_14; omega
    refine Qg3 (QcR gz V1.heap.size t4.length (by8 ((mixed.length : Nat) : Int))) (QcR.refl _ _ _ _) (fun h k => QcR.trans h k) 6 [⟨none, [(11, none)]⟩, ⟨none, [(13, none)]⟩, ⟨none, [(3, none)]⟩, ⟨none, [(56, some 2)]⟩, ⟨none, [(57, some 3)]⟩, ⟨none, [(55, some 1), (58, some 4)]⟩] kj kj fun F hF => ?_
    refine Qiq (QcR.refl _ _ _ _) (.agg (ints .u8 (otk key nonce))) kj kj (fun W hR => (Qau 23 _ g7 23 _ _ (hR.row (Qad r7_14 (Qai _)) hn11) rfl kj kj (isz (n := 32) kj ((Qaf _ _).trans (Qd4 _ _))))) ?_
    refine Qiq (QcR.refl _ _ _ _) (z5) kj kj (fun W hR => by kernel_rfl) ?_
    refine Qiq (QcR.refl _ _ _ _) (.slice a_m mixed.length c_m) kj kj (fun W hR => by kernel_rfl) ?_
    refine Qiq (QcR.refl _ _ _ _) (.int .i64 ((mixed.length : Nat) : Int)) kj kj (fun W hR => by kernel_rfl) ?_
    refine Qir (fun W => QcR.refl _ _ _ _ W) (fun e => QcR.ext e) (OwnN .u8 5 V1.heap.size (by8 ((mixed.length : Nat) : Int))) (QeF (fun i hi h => absurd hi (by rw [QbN]; omega))) 46 (fun ρ W hR hh => ?_) ?_
    ·skip
     have e57 : ρ 57 = .int .i64 ((mixed.length : Nat) : Int) := hh.1
     refine ⟨#[.int .i64 ((mixed.length : Nat) : Int)], Eq.trans (b := Result.ok (Next.enter 46 #[ρ 57]) W) kj (by rw [e57]), ?_⟩
     exact (Qjq mixed.length W (by omega)).mono fun e W2 h => by
      obtain ⟨u, h1, h2, h3⟩ := h
      exact ⟨u, h1, h2, h3.base (Nat.le_trans hbW (Nat.le_trans (Qai W14).size hR.once.size))⟩
    refine QjU (OwnN .u8 5 V1.heap.size (t4 ++ by8 ((mixed.length : Nat) : Int))) (QeF (fun i hi h => by unfold nth; rw [List.getD_eq_getElem?_getD, List.getD_eq_getElem?_getD, List.getElem?_append_right h])) (fun ρ W hR hh => ?_) ?_
    ·skip
     have e55 : ρ 55 = .slice (some ⟨gz, 0, none⟩) t4.length cz := (show ρ 55 = z5 from hh.1).trans hze
     have h58 : OwnN .u8 5 V1.heap.size (by8 ((mixed.length : Nat) : Int)) (ρ 58) W := hh.2.1
     exact Qil (ρ := Rely.look ρ) (.tmp 55) (.tmp 58) 24 rfl kj kj e55 rfl (QeF (fun i hi h => absurd hi (by omega)) _ _ _ hR (hv4.ext (Qai _))) (OwnN.rd h58) (by rw [QbN]; omega) (Nat.le_trans hbW (Nat.le_trans (Qai W14).size hR.once.size))
    refine QcG (hF _ fun W15 hR => ?_)
    simp only [List.nil_append, List.cons_append, List.take_succ_cons, List.take_zero, List.drop_succ_cons, List.drop_zero, finE, up]
    intro z58 hz58 z59 hz59
    clear hF
    have l15 : Below V1.heap.size W14 W15 := Qh0 (hR.once.below (Nat.le_trans hbW (Qai _).size)) hbW
    have x15 : Ext w W15 := Ext.low x14 l15 xx1.size
    obtain ⟨t5, et5⟩ : ∃ z : List Int, z = Qkr ctx mixed := ⟨_, rfl⟩
    have eq5 : t4 ++ by8 ((mixed.length : Nat) : Int) = t5 := by rw [et5, et4, et3, List.append_assoc]; rfl
    have hz5 : OwnN .u8 5 V1.heap.size t5 z59 W15 := eq5 ▸ hz59
    obtain ⟨a59, c59, rfl, -⟩ := id (OwnN.rd hz5)
    have lt5 : t5.length ≤ 3000000 := by rw [← eq5, List.length_append, QbN]; omega
    have bt5 : Qaj t5 := by rw [et5]; exact Qbc (Qbc (Qbc (Qbc hcb (Qdx _)) hmb) (Qdx _)) (Qbc (QdQ _) (QdQ _))
    refine Qa6 (.agg (ints .u8 (Qbx key nonce ctx mixed))) 12 #[.agg (ints .u8 (otk key nonce)), .slice a59 t5.length c59] 60 rfl kj kj ((by unfold Qbx; rw [← et5]; exact Qkb (otk key nonce) t5 _ _ _ (Qd4 _ _) (QfQ _ _) bt5 (OwnN.rd hz5) lt5)) fun W16 e16 => ?_
    have x16 : Ext w W16 := Ext.tr x15 e16
    have r3_3 := (Qad r3_2 e3)
    have r3_4 := (Qad r3_3 e4)
    have r3_5 := (Puts.row p5 r3_4 (Qag r3_3 l5))
    have r3_6 := (Qad r3_5 e6)
    have r3_7 := (Qax.row q7 r3_6 (Qbi (Qag r3_5 l7) Qb8))
    have r3_8 := (Qad r3_7 e8)
    have r3_9 := (Qb2 l9 r3_8 (QaA r3_7))
    have r3_10 := (Qb2 l10 r3_9 (QaA r3_7))
    have r3_11 := (Qb2 l11 r3_10 (QaA r3_7))
    have r3_12 := (Qb2 l12 r3_11 (QaA r3_7))
    have r3_13 := (Qad r3_12 e13)
    have r3_14 := (Qb2 l14 r3_13 (QaA r3_7))
    have r3_15 := (Qb2 l15 r3_14 (QaA r3_7))
    have r3_16 := (Qad r3_15 e16)
    refine Qal g3 _ (ints .u8 (Qbx key nonce ctx mixed)) 27 r3_16 rfl kj (Qap 27 _ _ g3 27 _ _ r3_16 rfl kj kj (isz (n := 16) kj ((Qaf _ _).trans (QaT _ _ _ _))) (eqsz (n := 16) ((Qaf _ _).trans (List.length_replicate (n := 16))) ((Qaf _ _).trans (QaT _ _ _ _))) (QaB _ _)) fun W17 p17 r3_17 => ?_
    have x17 : Ext w W17 := Puts.ext p17 x16 b3
    refine Qac ?_
    refine hK43 _ _ ?_
    refine wp_ret ?_
    repeat (first | with_reducible refine goR1 ?_ | with_reducible refine goR2 ?_)
    exact (show bodyPost _ _ _ .ret _ _ from ret1 (.agg (ints .u8 (Qbx key nonce ctx mixed))) rfl (Qbw g3 27 _ r3_17 kj kj (isz (n := 16) kj ((Qaf _ _).trans (QaT _ _ _ _)))) ⟨rfl, x17⟩)
end Go.Proofs.YtjldjdlhllgakaaDoor.Ae
end
section
namespace Go.Proofs.YtjldjdlhllgakaaDoor.Ae
open Go Go.RowKit
open Rely Auto Own Sha
set_option linter.unusedVariables false
set_option linter.unusedSimpArgs false
open Sha Cha
def Qf1 (base : Nat) (xs : List Int) : Value → World → Prop := fun v W => ∃ u, v = .tuple #[u, .int .i64 0] ∧ OwnN .u8 5 base xs u W
theorem Qel (base : Nat) (xs : List Int) : QbA Ext (Qf1 base xs) := fun _ _ _ hR ⟨u, e, h⟩ => ⟨u, e, h.ext hR⟩
theorem Qk5 (n0 : Nat) (key nonce text fm : List Int) (v v2 : Value) (B B2 : Nat) (w : World) (hkl : key.length = 32) (hkb : Qaj key) (hnb : Qaj nonce) (hn : RdK .u8 B nonce v w) (ht : RdK .u8 B2 text v2 w) (h : nonce.length = 12) (hl : text.length ≤ 2000000) (em : mixV (QaG key nonce) 1 text = fm) (hn0 : n0 ≤ w.heap.size) :
    Calls Tryd.prog 34 #[.agg (ints .u8 key), v, .int .i64 1, v2] w (Qcb w (Qf1 n0 fm)) := by
  subst em
  exact (Qkf key nonce text v v2 B B2 1 w hkl hkb hnb hn ht h 4294967295 (by decide) (by decide) (by decide) (by omega) hl).mono fun e W' hg => by
    obtain ⟨v', e1, e2, u, e3, e4⟩ := hg
    exact ⟨v', e1, e2, u, e3, e4.base hn0⟩
end Go.Proofs.YtjldjdlhllgakaaDoor.Ae
end
section
namespace Go.Proofs.YtjldjdlhllgakaaDoor.Ae
open Go Go.RowKit
open Rely Auto Own Sha
set_option linter.unusedVariables false
set_option linter.unusedSimpArgs false
open Sha Cha
set_option maxRecDepth 100000 in
set_option maxHeartbeats 4000000 in
theorem Qj6 (key nonce ctx sl : List Int) (v v2 v3 : Value) (B B2 B3 : Nat) (w : World) (hkl : key.length = 32) (hkb : Qaj key) (hnb : Qaj nonce) (hn : RdK .u8 B nonce v w) (hc : RdK .u8 B2 ctx v2 w) (ht : RdK .u8 B3 sl v3 w) (hcb : Qaj ctx) (htb : Qaj sl) (h : nonce.length ≠ 12) :
    Calls Tryd.prog 21 #[.agg (ints .u8 key), v, v2, v3] w (Ret w (.tuple #[.slice none 0 0, .int .i64 1])) := by
  obtain ⟨a_n, c_n, rfl, -⟩ := id hn
  obtain ⟨a_c, c_c, rfl, -⟩ := id hc
  obtain ⟨a_t, c_t, rfl, -⟩ := id ht
  have ctk : sl.length ≤ c_t := by
    obtain ⟨_, _, e, q2, _⟩ := id ht
    simp only [Value.slice.injEq] at e
    obtain ⟨-, -, rfl⟩ := e
    exact q2
  have htm : sl.length ≤ maxLen := RdK.len ht
  have hlt_ : (sl.take (sl.length - 16)).length = sl.length - 16 := by rw [List.length_take]; omega
  refine enter 56 [(0, .agg (ints .u8 (key))), (1, .slice a_n nonce.length c_n), (2, .slice a_c ctx.length c_c), (3, .slice a_t sl.length c_t)] Tryd.func21 rfl rfl kj rfl ?_
  refine wp_seq_k fun K1 hK1 => ?_
  refine Qab ?_
  refine Qar (ints .u8 (key)) 23 4 rfl kj kj fun g2 W1 l2 e1 r2_1 => ?_
  have x1 : Ext w W1 := Ext.tr (Rely.Ext.refl w) e1
  have b2 : w.heap.size ≤ g2 := Nat.le_trans (Rely.Ext.refl w).size l2
  refine Qaa (.slice none 0 0) 8 rfl kj kj ?_
  refine Qaa (.int .i64 0) 9 rfl kj kj ?_
  refine Qac ?_
  refine hK1 _ _ ?_
  refine wp_seq_k fun K3 hK3 => ?_
  refine wp_seq_k fun K4 hK4 => ?_
  refine Qab ?_
  refine Qaa (.slice a_n nonce.length c_n) 14 rfl kj kj ?_
  refine Qaa (.int .i64 ((nonce.length : Nat) : Int)) 15 rfl kj kj ?_
  refine Qaa (.bool true) 16 rfl kj (Qah (u := .bool ((((nonce.length : Nat) : Int) != 12))) kj (congrArg Value.bool (bne_iff_ne.2 (by omega)))) ?_
  refine Qaa (.bool true) 17 rfl kj kj ?_
  refine Qas 18 rfl kj ?_
  refine Qas 19 rfl kj ?_
  refine Qas 20 rfl kj ?_
  refine Qaa (.bool true) 21 rfl kj kj ?_
  refine Qaa (.bool true) 22 rfl kj kj ?_
  refine Qas 23 rfl kj ?_
  refine Qas 24 rfl kj ?_
  refine Qas 25 rfl kj ?_
  refine Qaa (.bool true) 26 rfl kj kj ?_
  refine Qac ?_
  refine hK4 _ _ ?_
  refine cond_true kj ?_
  refine wp_seq_k fun K5 hK5 => ?_
  refine Qab ?_
  refine Qaa (.slice none 0 0) 8 rfl kj kj ?_
  refine Qaa (.int .i64 1) 9 rfl kj kj ?_
  refine Qac ?_
  refine hK5 _ _ ?_
  refine wp_ret ?_
  repeat (first | with_reducible refine goR1 ?_ | with_reducible refine goR2 ?_)
  exact (show bodyPost _ _ _ .ret _ _ from ret2 (.slice none 0 0) (.int .i64 1) rfl (QaC kj) (QaC kj) ⟨rfl, x1⟩)
set_option maxRecDepth 100000 in
set_option maxHeartbeats 4000000 in
theorem Qj3 (key nonce ctx sl : List Int) (v v2 v3 : Value) (B B2 B3 : Nat) (w : World) (hkl : key.length = 32) (hkb : Qaj key) (hnb : Qaj nonce) (hn : RdK .u8 B nonce v w) (hc : RdK .u8 B2 ctx v2 w) (ht : RdK .u8 B3 sl v3 w) (hcb : Qaj ctx) (htb : Qaj sl) (h : nonce.length = 12) (hcl : ctx.length ≤ 1048592) (hxl : sl.length ≤ 1048592) (hsh : sl.length < 16) :
    Calls Tryd.prog 21 #[.agg (ints .u8 key), v, v2, v3] w (Ret w (.tuple #[.slice none 0 0, .int .i64 2])) := by
  obtain ⟨a_n, c_n, rfl, -⟩ := id hn
  obtain ⟨a_c, c_c, rfl, -⟩ := id hc
  obtain ⟨a_t, c_t, rfl, -⟩ := id ht
  have ctk : sl.length ≤ c_t := by
    obtain ⟨_, _, e, q2, _⟩ := id ht
    simp only [Value.slice.injEq] at e
    obtain ⟨-, -, rfl⟩ := e
    exact q2
  have htm : sl.length ≤ maxLen := RdK.len ht
  have hlt_ : (sl.take (sl.length - 16)).length = sl.length - 16 := by rw [List.length_take]; omega
  refine enter 56 [(0, .agg (ints .u8 (key))), (1, .slice a_n nonce.length c_n), (2, .slice a_c ctx.length c_c), (3, .slice a_t sl.length c_t)] Tryd.func21 rfl rfl kj rfl ?_
  refine wp_seq_k fun K1 hK1 => ?_
  refine Qab ?_
  refine Qar (ints .u8 (key)) 23 4 rfl kj kj fun g2 W1 l2 e1 r2_1 => ?_
  have x1 : Ext w W1 := Ext.tr (Rely.Ext.refl w) e1
  have b2 : w.heap.size ≤ g2 := Nat.le_trans (Rely.Ext.refl w).size l2
  refine Qaa (.slice none 0 0) 8 rfl kj kj ?_
  refine Qaa (.int .i64 0) 9 rfl kj kj ?_
  refine Qac ?_
  refine hK1 _ _ ?_
  refine wp_seq_k fun K3 hK3 => ?_
  refine wp_seq_k fun K4 hK4 => ?_
  refine Qab ?_
  refine Qaa (.slice a_n nonce.length c_n) 14 rfl kj kj ?_
  refine Qaa (.int .i64 ((nonce.length : Nat) : Int)) 15 rfl kj kj ?_
  refine Qaa (.bool false) 16 rfl kj (Qah (u := .bool ((((nonce.length : Nat) : Int) != 12))) kj (congrArg Value.bool (by rw [h]; rfl))) ?_
  refine Qaa (.bool false) 17 rfl kj kj ?_
  refine Qaa (.slice a_c ctx.length c_c) 18 rfl kj kj ?_
  refine Qaa (.int .i64 ((ctx.length : Nat) : Int)) 19 rfl kj kj ?_
  refine Qaa (.bool false) 20 rfl kj (Qah (u := .bool (decide (((ctx.length : Nat) : Int) > 1048592))) kj (congrArg Value.bool (decide_eq_false (by omega)))) ?_
  refine Qaa (.bool false) 21 rfl kj kj ?_
  refine Qaa (.bool false) 22 rfl kj kj ?_
  refine Qaa (.slice a_t sl.length c_t) 23 rfl kj kj ?_
  refine Qaa (.int .i64 ((sl.length : Nat) : Int)) 24 rfl kj kj ?_
  refine Qaa (.bool false) 25 rfl kj (Qah (u := .bool (decide (((sl.length : Nat) : Int) > 1048592))) kj (congrArg Value.bool (decide_eq_false (by omega)))) ?_
  refine Qaa (.bool false) 26 rfl kj kj ?_
  refine Qac ?_
  refine hK4 _ _ ?_
  refine cond_false kj ?_
  refine wp_skip ?_
  refine hK3 _ _ ?_
  refine wp_seq_k fun K5 hK5 => ?_
  refine Qab ?_
  refine Qaa (.slice a_t sl.length c_t) 27 rfl kj kj ?_
  refine Qaa (.int .i64 ((sl.length : Nat) : Int)) 28 rfl kj kj ?_
  refine Qaa (.int .i64 (((sl.length : Nat) : Int) - 16)) 29 rfl kj (Qah (u := .int .i64 (IntKind.i64.wrap (((sl.length : Nat) : Int) - 16))) kj (congrArg (Value.int .i64) (IntWalk.i64_in _ (by rw [maxLen] at htm; omega)))) ?_
  refine Qaa (.int .i64 (((sl.length : Nat) : Int) - 16)) 10 rfl kj kj ?_
  refine Qac ?_
  refine hK5 _ _ ?_
  refine wp_seq_k fun K6 hK6 => ?_
  refine wp_seq_k fun K7 hK7 => ?_
  refine Qab ?_
  refine Qaa (.int .i64 (((sl.length : Nat) : Int) - 16)) 30 rfl kj kj ?_
  refine Qaa (.bool true) 31 rfl kj (Qah (u := .bool (decide ((((sl.length : Nat) : Int) - 16) < 0))) kj (congrArg Value.bool (decide_eq_true (by omega)))) ?_
  refine Qac ?_
  refine hK7 _ _ ?_
  refine cond_true kj ?_
  refine wp_seq_k fun K8 hK8 => ?_
  refine Qab ?_
  refine Qaa (.slice none 0 0) 8 rfl kj kj ?_
  refine Qaa (.int .i64 2) 9 rfl kj kj ?_
  refine Qac ?_
  refine hK8 _ _ ?_
  refine wp_ret ?_
  repeat (first | with_reducible refine goR1 ?_ | with_reducible refine goR2 ?_)
  exact (show bodyPost _ _ _ .ret _ _ from ret2 (.slice none 0 0) (.int .i64 2) rfl (QaC kj) (QaC kj) ⟨rfl, x1⟩)
set_option maxRecDepth 100000 in
set_option maxHeartbeats 4000000 in
theorem Qj4 (key nonce ctx sl : List Int) (v v2 v3 : Value) (B B2 B3 : Nat) (w : World) (hkl : key.length = 32) (hkb : Qaj key) (hnb : Qaj nonce) (hn : RdK .u8 B nonce v w) (hc : RdK .u8 B2 ctx v2 w) (ht : RdK .u8 B3 sl v3 w) (hcb : Qaj ctx) (htb : Qaj sl) (h : nonce.length = 12) (hcl : ctx.length ≤ 1048592) (hxl : sl.length ≤ 1048592) (hsh : 16 ≤ sl.length) (hne : Qbx key nonce ctx (sl.take (sl.length - 16)) ≠ sl.drop (sl.length - 16)) :
    Calls Tryd.prog 21 #[.agg (ints .u8 key), v, v2, v3] w (Ret w (.tuple #[.slice none 0 0, .int .i64 2])) := by
  obtain ⟨a_n, c_n, rfl, -⟩ := id hn
  obtain ⟨a_c, c_c, rfl, -⟩ := id hc
  obtain ⟨a_t, c_t, rfl, -⟩ := id ht
  have ctk : sl.length ≤ c_t := by
    obtain ⟨_, _, e, q2, _⟩ := id ht
    simp only [Value.slice.injEq] at e
    obtain ⟨-, -, rfl⟩ := e
    exact q2
  have htm : sl.length ≤ maxLen := RdK.len ht
  have hlt_ : (sl.take (sl.length - 16)).length = sl.length - 16 := by rw [List.length_take]; omega
  refine enter 56 [(0, .agg (ints .u8 (key))), (1, .slice a_n nonce.length c_n), (2, .slice a_c ctx.length c_c), (3, .slice a_t sl.length c_t)] Tryd.func21 rfl rfl kj rfl ?_
  refine wp_seq_k fun K1 hK1 => ?_
  refine Qab ?_
  refine Qar (ints .u8 (key)) 23 4 rfl kj kj fun g2 W1 l2 e1 r2_1 => ?_
  have x1 : Ext w W1 := Ext.tr (Rely.Ext.refl w) e1
  have b2 : w.heap.size ≤ g2 := Nat.le_trans (Rely.Ext.refl w).size l2
  refine Qaa (.slice none 0 0) 8 rfl kj kj ?_
  refine Qaa (.int .i64 0) 9 rfl kj kj ?_
  refine Qac ?_
  refine hK1 _ _ ?_
  refine wp_seq_k fun K3 hK3 => ?_
  refine wp_seq_k fun K4 hK4 => ?_
  refine Qab ?_
  refine Qaa (.slice a_n nonce.length c_n) 14 rfl kj kj ?_
  refine Qaa (.int .i64 ((nonce.length : Nat) : Int)) 15 rfl kj kj ?_
  refine Qaa (.bool false) 16 rfl kj (Qah (u := .bool ((((nonce.length : Nat) : Int) != 12))) kj (congrArg Value.bool (by rw [h]; rfl))) ?_
  refine Qaa (.bool false) 17 rfl kj kj ?_
  refine Qaa (.slice a_c ctx.length c_c) 18 rfl kj kj ?_
  refine Qaa (.int .i64 ((ctx.length : Nat) : Int)) 19 rfl kj kj ?_
  refine Qaa (.bool false) 20 rfl kj (Qah (u := .bool (decide (((ctx.length : Nat) : Int) > 1048592))) kj (congrArg Value.bool (decide_eq_false (by omega)))) ?_
  refine Qaa (.bool false) 21 rfl kj kj ?_
  refine Qaa (.bool false) 22 rfl kj kj ?_
  refine Qaa (.slice a_t sl.length c_t) 23 rfl kj kj ?_
  refine Qaa (.int .i64 ((sl.length : Nat) : Int)) 24 rfl kj kj ?_
  refine Qaa (.bool false) 25 rfl kj (Qah (u := .bool (decide (((sl.length : Nat) : Int) > 1048592))) kj (congrArg Value.bool (decide_eq_false (by omega)))) ?_
  refine Qaa (.bool false) 26 rfl kj kj ?_
  refine Qac ?_
  refine hK4 _ _ ?_
  refine cond_false kj ?_
  refine wp_skip ?_
  refine hK3 _ _ ?_
  refine wp_seq_k fun K5 hK5 => ?_
  refine Qab ?_
  refine Qaa (.slice a_t sl.length c_t) 27 rfl kj kj ?_
  refine Qaa (.int .i64 ((sl.length : Nat) : Int)) 28 rfl kj kj ?_
  refine Qaa (.int .i64 (((sl.length - 16 : Nat) : Int))) 29 rfl kj (Qah (u := .int .i64 (IntKind.i64.wrap (((sl.length : Nat) : Int) - 16))) kj (congrArg (Value.int .i64) (QcW _ hsh htm))) ?_
  refine Qaa (.int .i64 (((sl.length - 16 : Nat) : Int))) 10 rfl kj kj ?_
  refine Qac ?_
  refine hK5 _ _ ?_
  refine wp_seq_k fun K6 hK6 => ?_
  refine wp_seq_k fun K7 hK7 => ?_
  refine Qab ?_
  refine Qaa (.int .i64 (((sl.length - 16 : Nat) : Int))) 30 rfl kj kj ?_
  refine Qaa (.bool false) 31 rfl kj (Qah (u := .bool (decide (((sl.length - 16 : Nat) : Int) < 0))) kj (congrArg Value.bool (decide_eq_false (by omega)))) ?_
  refine Qac ?_
  refine hK7 _ _ ?_
  refine cond_false kj ?_
  refine wp_skip ?_
  refine hK6 _ _ ?_
  refine wp_seq_k fun K8 hK8 => ?_
  refine QaX 8 [⟨none, [(4, none)]⟩, ⟨none, [(1, none)]⟩, ⟨none, [(2, none)]⟩, ⟨none, [(3, none)]⟩, ⟨none, [(10, none)]⟩, ⟨none, [(35, some 3), (36, some 4)]⟩, ⟨none, [(32, some 0), (33, some 1), (34, some 2), (37, some 5)]⟩, ⟨none, []⟩] kj kj fun F hF => ?_
  refine Qbm (Qam _) (.agg (ints .u8 (key))) kj kj (fun W hR => (Qau 23 _ g2 23 _ _ (Qad (Qad r2_1 (Qai _)) hR) rfl kj kj (isz (n := 32) kj ((Qaf _ _).trans hkl)))) ?_
  refine Qa2 (Qam _) (.slice a_n nonce.length c_n) kj kj (fun W => by kernel_rfl) ?_
  refine Qa2 (Qam _) (.slice a_c ctx.length c_c) kj kj (fun W => by kernel_rfl) ?_
  refine Qa2 (Qam _) (.slice a_t sl.length c_t) kj kj (fun W => by kernel_rfl) ?_
  refine Qa2 (Qam _) (.int .i64 (((sl.length - 16 : Nat) : Int))) kj kj (fun W => by kernel_rfl) ?_
  refine Qa2 (Qam _) (.slice a_t (sl.length - 16) c_t) kj kj (fun W => (Qcc (len := sl.length) 24 _ _ (sl.length - 16) 5 rfl kj kj kj .i64 kj (Nat.le_trans (Nat.sub_le _ _) ctk))) ?_
  refine Qih (Qam _) (.agg (ints .u8 (Qbx key nonce ctx (sl.take (sl.length - 16))))) 35 #[.agg (ints .u8 (key)), .slice a_n nonce.length c_n, .slice a_c ctx.length c_c, .slice a_t (sl.length - 16) c_t] kj kj (fun W => by kernel_rfl) (fun W hR => (QgB key nonce ctx (sl.take (sl.length - 16)) _ _ _ _ _ _ W hkl hkb hnb (RdK.ext (RdK.ext hn x1) (Rely.Ext.trans (Qai _) hR)) (RdK.ext (RdK.ext hc x1) (Rely.Ext.trans (Qai _) hR)) (RdK.ext (QbI (RdK.ext ht x1) (sl.length - 16) (Nat.sub_le _ _)) (Rely.Ext.trans (Qai _) hR)) h hcb (Qa3 htb _) (by omega) (by omega))) ?_
  refine Qjr (Qam _) (ints .u8 (List.replicate 16 0)) 27 (NewP.stable _ _ _) kj kj (fun W => by kernel_rfl) ?_
  refine QcG (hF _ fun W2 e2 => ?_)
  simp only [List.nil_append, List.cons_append, List.take_succ_cons, List.take_zero, List.drop_succ_cons, List.drop_zero, finE, up]
  intro vv9 hv9
  clear hF
  have x2 : Ext w W2 := Ext.tr x1 e2
  obtain ⟨g9, rfl, l9, r9_2⟩ := hv9
  have b9 : w.heap.size ≤ g9 := Nat.le_trans x1.size l9
  refine Qal g9 _ (ints .u8 (Qbx key nonce ctx (sl.take (sl.length - 16)))) 27 r9_2 rfl kj (Qap 27 _ _ g9 27 _ _ r9_2 rfl kj kj (isz (n := 16) kj ((Qaf _ _).trans (QaT _ _ _ _))) (eqsz (n := 16) ((Qaf _ _).trans (List.length_replicate (n := 16))) ((Qaf _ _).trans (QaT _ _ _ _))) (QaB _ _)) fun W3 p3 r9_3 => ?_
  have x3 : Ext w W3 := Puts.ext p3 x2 b9
  refine Qac ?_
  refine hK8 _ _ ?_
  refine wp_seq_k fun K10 hK10 => ?_
  refine wp_seq_k fun K11 hK11 => ?_
  refine QaX 6 [⟨none, [(11, none)]⟩, ⟨none, [(39, some 0)]⟩, ⟨none, [(3, none)]⟩, ⟨none, [(10, none)]⟩, ⟨none, [(41, some 2), (42, some 3)]⟩, ⟨none, [(43, some 4)]⟩] kj kj fun F hF => ?_
  refine Qa2 (Qam _) (.slice (some ⟨g9, 0, none⟩) 16 16) kj kj (fun W => by kernel_rfl) ?_
  refine Qbm (Qam _) (.string (Qcl (Qbx key nonce ctx (sl.take (sl.length - 16))))) kj kj (fun W hR => (Qch _ _ rfl kj (Qbx key nonce ctx (sl.take (sl.length - 16))) (RdK.bytes (RdK.ext (QaP (xs := Qbx key nonce ctx (sl.take (sl.length - 16))) (n := 16) (QaT _ _ _ _) r9_3 (QaA r9_3) (show 16 ≤ maxLen from by decide)) (Rely.Ext.trans (Qai _) hR)) (Qca _ _ _ _)))) ?_
  refine Qa2 (Qam _) (.slice a_t sl.length c_t) kj kj (fun W => by kernel_rfl) ?_
  refine Qa2 (Qam _) (.int .i64 (((sl.length - 16 : Nat) : Int))) kj kj (fun W => by kernel_rfl) ?_
  refine Qa2 (Qam _) (.slice (Qcp a_t c_t (sl.length - 16)) (sl.length - (sl.length - 16)) (c_t - (sl.length - 16))) kj kj (fun W => (Qc3 24 _ _ (sl.length - 16) 5 rfl kj kj kj .i64 kj (Nat.sub_le _ _) ctk)) ?_
  refine Qbm (Qam _) (.string (Qcl (sl.drop (sl.length - 16)))) kj kj (fun W hR => (Qch _ _ rfl kj (sl.drop (sl.length - 16)) (RdK.bytes (RdK.ext (QcM (RdK.ext ht x3) (sl.length - 16) (Nat.sub_le _ _)) (Rely.Ext.trans (Qai _) hR)) (QaN htb _)))) ?_
  refine QcG (hF _ fun W4 e4 => ?_)
  simp only [List.nil_append, List.cons_append, List.take_succ_cons, List.take_zero, List.drop_succ_cons, List.drop_zero, finE, up]
  clear hF
  have x4 : Ext w W4 := Ext.tr x3 e4
  refine Qaa (.bool true) 45 rfl kj (Qah (u := .bool (!((Qcl (Qbx key nonce ctx (sl.take (sl.length - 16)))).toList == (Qcl (sl.drop (sl.length - 16))).toList))) kj (congrArg Value.bool (by rw [Qe6 (Qca _ _ _ _) (QaN htb _), decide_eq_false hne]; rfl))) ?_
  refine Qac ?_
  refine hK11 _ _ ?_
  refine cond_true kj ?_
  refine wp_seq_k fun K12 hK12 => ?_
  refine Qab ?_
  refine Qaa (.slice none 0 0) 8 rfl kj kj ?_
  refine Qaa (.int .i64 2) 9 rfl kj kj ?_
  refine Qac ?_
  refine hK12 _ _ ?_
  refine wp_ret ?_
  repeat (first | with_reducible refine goR1 ?_ | with_reducible refine goR2 ?_)
  exact (show bodyPost _ _ _ .ret _ _ from ret2 (.slice none 0 0) (.int .i64 2) rfl (QaC kj) (QaC kj) ⟨rfl, x4⟩)
set_option maxRecDepth 100000 in
set_option maxHeartbeats 4000000 in
theorem Qj5 (key nonce ctx sl : List Int) (v v2 v3 : Value) (B B2 B3 : Nat) (w : World) (hkl : key.length = 32) (hkb : Qaj key) (hnb : Qaj nonce) (hn : RdK .u8 B nonce v w) (hc : RdK .u8 B2 ctx v2 w) (ht : RdK .u8 B3 sl v3 w) (hcb : Qaj ctx) (htb : Qaj sl) (h : nonce.length = 12) (hcl : ctx.length ≤ 1048592) (hxl : sl.length ≤ 1048592) (hsh : 16 ≤ sl.length) (hne : Qbx key nonce ctx (sl.take (sl.length - 16)) = sl.drop (sl.length - 16)) :
    Calls Tryd.prog 21 #[.agg (ints .u8 key), v, v2, v3] w (Qcb w (Qf1 w.heap.size (mixV (QaG key nonce) 1 (sl.take (sl.length - 16))))) := by
  obtain ⟨a_n, c_n, rfl, -⟩ := id hn
  obtain ⟨a_c, c_c, rfl, -⟩ := id hc
  obtain ⟨a_t, c_t, rfl, -⟩ := id ht
  have ctk : sl.length ≤ c_t := by
    obtain ⟨_, _, e, q2, _⟩ := id ht
    simp only [Value.slice.injEq] at e
    obtain ⟨-, -, rfl⟩ := e
    exact q2
  have htm : sl.length ≤ maxLen := RdK.len ht
  have hlt_ : (sl.take (sl.length - 16)).length = sl.length - 16 := by rw [List.length_take]; omega
  obtain ⟨fm, em⟩ : ∃ z : List Int, mixV (QaG key nonce) 1 (sl.take (sl.length - 16)) = z := ⟨_, rfl⟩
  refine enter 56 [(0, .agg (ints .u8 (key))), (1, .slice a_n nonce.length c_n), (2, .slice a_c ctx.length c_c), (3, .slice a_t sl.length c_t)] Tryd.func21 rfl rfl kj rfl ?_
  refine wp_seq_k fun K1 hK1 => ?_
  refine Qab ?_
  refine Qar (ints .u8 (key)) 23 4 rfl kj kj fun g2 W1 l2 e1 r2_1 => ?_
  have x1 : Ext w W1 := Ext.tr (Rely.Ext.refl w) e1
  have b2 : w.heap.size ≤ g2 := Nat.le_trans (Rely.Ext.refl w).size l2
  refine Qaa (.slice none 0 0) 8 rfl kj kj ?_
  refine Qaa (.int .i64 0) 9 rfl kj kj ?_
  refine Qac ?_
  refine hK1 _ _ ?_
  refine wp_seq_k fun K3 hK3 => ?_
  refine wp_seq_k fun K4 hK4 => ?_
  refine Qab ?_
  refine Qaa (.slice a_n nonce.length c_n) 14 rfl kj kj ?_
  refine Qaa (.int .i64 ((nonce.length : Nat) : Int)) 15 rfl kj kj ?_
  refine Qaa (.bool false) 16 rfl kj (Qah (u := .bool ((((nonce.length : Nat) : Int) != 12))) kj (congrArg Value.bool (by rw [h]; rfl))) ?_
  refine Qaa (.bool false) 17 rfl kj kj ?_
  refine Qaa (.slice a_c ctx.length c_c) 18 rfl kj kj ?_
  refine Qaa (.int .i64 ((ctx.length : Nat) : Int)) 19 rfl kj kj ?_
  refine Qaa (.bool false) 20 rfl kj (Qah (u := .bool (decide (((ctx.length : Nat) : Int) > 1048592))) kj (congrArg Value.bool (decide_eq_false (by omega)))) ?_
  refine Qaa (.bool false) 21 rfl kj kj ?_
  refine Qaa (.bool false) 22 rfl kj kj ?_
  refine Qaa (.slice a_t sl.length c_t) 23 rfl kj kj ?_
  refine Qaa (.int .i64 ((sl.length : Nat) : Int)) 24 rfl kj kj ?_
  refine Qaa (.bool false) 25 rfl kj (Qah (u := .bool (decide (((sl.length : Nat) : Int) > 1048592))) kj (congrArg Value.bool (decide_eq_false (by omega)))) ?_
  refine Qaa (.bool false) 26 rfl kj kj ?_
  refine Qac ?_
  refine hK4 _ _ ?_
  refine cond_false kj ?_
  refine wp_skip ?_
  refine hK3 _ _ ?_
  refine wp_seq_k fun K5 hK5 => ?_
  refine Qab ?_
  refine Qaa (.slice a_t sl.length c_t) 27 rfl kj kj ?_
  refine Qaa (.int .i64 ((sl.length : Nat) : Int)) 28 rfl kj kj ?_
  refine Qaa (.int .i64 (((sl.length - 16 : Nat) : Int))) 29 rfl kj (Qah (u := .int .i64 (IntKind.i64.wrap (((sl.length : Nat) : Int) - 16))) kj (congrArg (Value.int .i64) (QcW _ hsh htm))) ?_
  refine Qaa (.int .i64 (((sl.length - 16 : Nat) : Int))) 10 rfl kj kj ?_
  refine Qac ?_
  refine hK5 _ _ ?_
  refine wp_seq_k fun K6 hK6 => ?_
  refine wp_seq_k fun K7 hK7 => ?_
  refine Qab ?_
  refine Qaa (.int .i64 (((sl.length - 16 : Nat) : Int))) 30 rfl kj kj ?_
  refine Qaa (.bool false) 31 rfl kj (Qah (u := .bool (decide (((sl.length - 16 : Nat) : Int) < 0))) kj (congrArg Value.bool (decide_eq_false (by omega)))) ?_
  refine Qac ?_
  refine hK7 _ _ ?_
  refine cond_false kj ?_
  refine wp_skip ?_
  refine hK6 _ _ ?_
  refine wp_seq_k fun K8 hK8 => ?_
  refine QaX 8 [⟨none, [(4, none)]⟩, ⟨none, [(1, none)]⟩, ⟨none, [(2, none)]⟩, ⟨none, [(3, none)]⟩, ⟨none, [(10, none)]⟩, ⟨none, [(35, some 3), (36, some 4)]⟩, ⟨none, [(32, some 0), (33, some 1), (34, some 2), (37, some 5)]⟩, ⟨none, []⟩] kj kj fun F hF => ?_
  refine Qbm (Qam _) (.agg (ints .u8 (key))) kj kj (fun W hR => (Qau 23 _ g2 23 _ _ (Qad (Qad r2_1 (Qai _)) hR) rfl kj kj (isz (n := 32) kj ((Qaf _ _).trans hkl)))) ?_
  refine Qa2 (Qam _) (.slice a_n nonce.length c_n) kj kj (fun W => by kernel_rfl) ?_
  refine Qa2 (Qam _) (.slice a_c ctx.length c_c) kj kj (fun W => by kernel_rfl) ?_
  refine Qa2 (Qam _) (.slice a_t sl.length c_t) kj kj (fun W => by kernel_rfl) ?_
  refine Qa2 (Qam _) (.int .i64 (((sl.length - 16 : Nat) : Int))) kj kj (fun W => by kernel_rfl) ?_
  refine Qa2 (Qam _) (.slice a_t (sl.length - 16) c_t) kj kj (fun W => (Qcc (len := sl.length) 24 _ _ (sl.length - 16) 5 rfl kj kj kj .i64 kj (Nat.le_trans (Nat.sub_le _ _) ctk))) ?_
  refine Qih (Qam _) (.agg (ints .u8 (Qbx key nonce ctx (sl.take (sl.length - 16))))) 35 #[.agg (ints .u8 (key)), .slice a_n nonce.length c_n, .slice a_c ctx.length c_c, .slice a_t (sl.length - 16) c_t] kj kj (fun W => by kernel_rfl) (fun W hR => (QgB key nonce ctx (sl.take (sl.length - 16)) _ _ _ _ _ _ W hkl hkb hnb (RdK.ext (RdK.ext hn x1) (Rely.Ext.trans (Qai _) hR)) (RdK.ext (RdK.ext hc x1) (Rely.Ext.trans (Qai _) hR)) (RdK.ext (QbI (RdK.ext ht x1) (sl.length - 16) (Nat.sub_le _ _)) (Rely.Ext.trans (Qai _) hR)) h hcb (Qa3 htb _) (by omega) (by omega))) ?_
  refine Qjr (Qam _) (ints .u8 (List.replicate 16 0)) 27 (NewP.stable _ _ _) kj kj (fun W => by kernel_rfl) ?_
  refine QcG (hF _ fun W2 e2 => ?_)
  simp only [List.nil_append, List.cons_append, List.take_succ_cons, List.take_zero, List.drop_succ_cons, List.drop_zero, finE, up]
  intro vv9 hv9
  clear hF
  have x2 : Ext w W2 := Ext.tr x1 e2
  obtain ⟨g9, rfl, l9, r9_2⟩ := hv9
  have b9 : w.heap.size ≤ g9 := Nat.le_trans x1.size l9
  refine Qal g9 _ (ints .u8 (Qbx key nonce ctx (sl.take (sl.length - 16)))) 27 r9_2 rfl kj (Qap 27 _ _ g9 27 _ _ r9_2 rfl kj kj (isz (n := 16) kj ((Qaf _ _).trans (QaT _ _ _ _))) (eqsz (n := 16) ((Qaf _ _).trans (List.length_replicate (n := 16))) ((Qaf _ _).trans (QaT _ _ _ _))) (QaB _ _)) fun W3 p3 r9_3 => ?_
  have x3 : Ext w W3 := Puts.ext p3 x2 b9
  refine Qac ?_
  refine hK8 _ _ ?_
  refine wp_seq_k fun K10 hK10 => ?_
  refine wp_seq_k fun K11 hK11 => ?_
  refine QaX 6 [⟨none, [(11, none)]⟩, ⟨none, [(39, some 0)]⟩, ⟨none, [(3, none)]⟩, ⟨none, [(10, none)]⟩, ⟨none, [(41, some 2), (42, some 3)]⟩, ⟨none, [(43, some 4)]⟩] kj kj fun F hF => ?_
  refine Qa2 (Qam _) (.slice (some ⟨g9, 0, none⟩) 16 16) kj kj (fun W => by kernel_rfl) ?_
  refine Qbm (Qam _) (.string (Qcl (Qbx key nonce ctx (sl.take (sl.length - 16))))) kj kj (fun W hR => (Qch _ _ rfl kj (Qbx key nonce ctx (sl.take (sl.length - 16))) (RdK.bytes (RdK.ext (QaP (xs := Qbx key nonce ctx (sl.take (sl.length - 16))) (n := 16) (QaT _ _ _ _) r9_3 (QaA r9_3) (show 16 ≤ maxLen from by decide)) (Rely.Ext.trans (Qai _) hR)) (Qca _ _ _ _)))) ?_
  refine Qa2 (Qam _) (.slice a_t sl.length c_t) kj kj (fun W => by kernel_rfl) ?_
  refine Qa2 (Qam _) (.int .i64 (((sl.length - 16 : Nat) : Int))) kj kj (fun W => by kernel_rfl) ?_
  refine Qa2 (Qam _) (.slice (Qcp a_t c_t (sl.length - 16)) (sl.length - (sl.length - 16)) (c_t - (sl.length - 16))) kj kj (fun W => (Qc3 24 _ _ (sl.length - 16) 5 rfl kj kj kj .i64 kj (Nat.sub_le _ _) ctk)) ?_
  refine Qbm (Qam _) (.string (Qcl (sl.drop (sl.length - 16)))) kj kj (fun W hR => (Qch _ _ rfl kj (sl.drop (sl.length - 16)) (RdK.bytes (RdK.ext (QcM (RdK.ext ht x3) (sl.length - 16) (Nat.sub_le _ _)) (Rely.Ext.trans (Qai _) hR)) (QaN htb _)))) ?_
  refine QcG (hF _ fun W4 e4 => ?_)
  simp only [List.nil_append, List.cons_append, List.take_succ_cons, List.take_zero, List.drop_succ_cons, List.drop_zero, finE, up]
  clear hF
  have x4 : Ext w W4 := Ext.tr x3 e4
  refine Qaa (.bool false) 45 rfl kj (Qah (u := .bool (!((Qcl (Qbx key nonce ctx (sl.take (sl.length - 16)))).toList == (Qcl (sl.drop (sl.length - 16))).toList))) kj (congrArg Value.bool (by rw [Qe6 (Qca _ _ _ _) (QaN htb _), decide_eq_true hne]; rfl))) ?_
  refine Qac ?_
  refine hK11 _ _ ?_
  refine cond_false kj ?_
  refine wp_skip ?_
  refine hK10 _ _ ?_
  refine wp_seq_k fun K12 hK12 => ?_
  refine QaX 10 [⟨none, [(4, none)]⟩, ⟨none, [(1, none)]⟩, ⟨none, [(3, none)]⟩, ⟨none, [(10, none)]⟩, ⟨none, [(49, some 2), (50, some 3)]⟩, ⟨none, [(47, some 0), (48, some 1), (51, some 4)]⟩, ⟨none, [(52, some 5)]⟩, ⟨none, [(46, some 6)]⟩, ⟨none, [(46, some 6)]⟩, ⟨none, [(53, some 7)]⟩] kj kj fun F hF => ?_
  have r2_2 := (Qad r2_1 e2)
  have r2_3 := (Puts.row p3 r2_2 (Qag r2_1 l9))
  have r2_4 := (Qad r2_3 e4)
  refine Qbm (Qam _) (.agg (ints .u8 (key))) kj kj (fun W hR => (Qau 23 _ g2 23 _ _ (Qad (Qad r2_4 (Qai _)) hR) rfl kj kj (isz (n := 32) kj ((Qaf _ _).trans hkl)))) ?_
  refine Qa2 (Qam _) (.slice a_n nonce.length c_n) kj kj (fun W => by kernel_rfl) ?_
  refine Qa2 (Qam _) (.slice a_t sl.length c_t) kj kj (fun W => by kernel_rfl) ?_
  refine Qa2 (Qam _) (.int .i64 (((sl.length - 16 : Nat) : Int))) kj kj (fun W => by kernel_rfl) ?_
  refine Qa2 (Qam _) (.slice a_t (sl.length - 16) c_t) kj kj (fun W => (Qcc (len := sl.length) 24 _ _ (sl.length - 16) 5 rfl kj kj kj .i64 kj (Nat.le_trans (Nat.sub_le _ _) ctk))) ?_
  refine Qdr (Qam _) (Qf1 W4.heap.size fm) (Qel _ _) 34 #[.agg (ints .u8 (key)), .slice a_n nonce.length c_n, .int .i64 1, .slice a_t (sl.length - 16) c_t] kj kj (fun W => by kernel_rfl) (fun W hR => (Qk5 W4.heap.size key nonce (sl.take (sl.length - 16)) fm _ _ _ _ W hkl hkb hnb (RdK.ext (RdK.ext hn x4) (Rely.Ext.trans (Qai _) hR)) (RdK.ext (QbI (RdK.ext ht x4) (sl.length - 16) (Nat.sub_le _ _)) (Rely.Ext.trans (Qai _) hR)) h (by omega) em (Rely.Ext.trans (Qai _) hR).size)) ?_
  refine Qgc (Qam _) (Qf1 W4.heap.size fm) (Qel _ _) (fun ρ W hR hh => ⟨ρ 52, W, by kernel_rfl, Rely.Ext.refl _, (show (Qf1 W4.heap.size fm) (ρ 52) W from hh.1)⟩) ?_
  refine Qgc (Qam _) (OwnN .u8 5 W4.heap.size fm) (OwnN.stable _ _ _ _) (fun ρ W hR hh => ?_) ?_
  · obtain ⟨u, e, h⟩ := (show (Qf1 W4.heap.size fm) (ρ 46) W from hh.1)
    exact ⟨_, W, run_extractT (.tmp 46) 0 #[u, .int .i64 0] _ rfl e rfl, Rely.Ext.refl _, h⟩
  refine Qgc (Qam _) (fun v W => v = .int .i64 0) (fun _ _ _ _ h => h) (fun ρ W hR hh => ?_) ?_
  · obtain ⟨u, e, h⟩ := (show (Qf1 W4.heap.size fm) (ρ 46) W from hh.1)
    exact ⟨_, W, run_extractT (.tmp 46) 1 #[u, .int .i64 0] _ rfl e rfl, Rely.Ext.refl _, rfl⟩
  refine Qgc (Qam _) (OwnN .u8 5 W4.heap.size fm) (OwnN.stable _ _ _ _) (fun ρ W hR hh => ⟨ρ 53, W, by kernel_rfl, Rely.Ext.refl _, (show (OwnN .u8 5 W4.heap.size fm) (ρ 53) W from hh.1)⟩) ?_
  refine QcG (hF _ fun W5 e5 => ?_)
  simp only [List.nil_append, List.cons_append, List.take_succ_cons, List.take_zero, List.drop_succ_cons, List.drop_zero, finE, up]
  intro vv13 hv13 vv14 hv14 vv15 hv15 vv16 hv16 vv17 hv17
  clear hF
  have x5 : Ext w W5 := Ext.tr x4 e5
  subst hv16
  refine Qaa (.int .i64 0) 13 rfl kj kj ?_
  refine Qac ?_
  refine hK12 _ _ ?_
  refine wp_seq_k fun K18 hK18 => ?_
  refine Qab ?_
  refine Qaa (vv17) 55 rfl kj kj ?_
  refine Qaa (vv17) 8 rfl kj kj ?_
  refine Qaa (.int .i64 0) 9 rfl kj kj ?_
  refine Qac ?_
  refine hK18 _ _ ?_
  refine wp_ret ?_
  repeat (first | with_reducible refine goR1 ?_ | with_reducible refine goR2 ?_)
  exact (show bodyPost _ _ _ .ret _ _ from ret2 (vv17) (.int .i64 0) rfl (QaC kj) (QaC kj) ⟨_, rfl, x5, _, rfl, by rw [em]; exact OwnN.base x4.size hv17⟩)
end Go.Proofs.YtjldjdlhllgakaaDoor.Ae
end
section
namespace Go.Proofs.YtjldjdlhllgakaaDoor.Ad
open Go Go.RowKit
open Rely Auto Own
set_option linter.unusedVariables false
def pat (k j : Nat) : Int := ((29 * k + 5 * j + 3 : Nat) : Int) % 256
def patL (k n : Nat) : List Int := (List.range n).map (pat k)
theorem Qbr (k n : Nat) : (patL k n).length = n := by simp [patL]
theorem QfO (k n : Nat) : patL k (n + 1) = patL k n ++ [pat k n] := by simp [patL, List.range_succ]
theorem QhG (k n m : Nat) (h : n ≤ m) : (patL k m).take n = patL k n := by
  unfold patL
  rw [← List.map_take, List.take_range, Nat.min_eq_left h]
theorem QgG (k n j : Nat) (h : j < n) : nth (patL k n) j = pat k j := by simp [nth, patL, h]
def gv (G : List Value) (i : Nat) : Value := G.getD i (.slice none 0 0)
theorem Qjn {G : List Value} {u : Value} {i : Nat} (h : i < G.length) : gv (G ++ [u]) i = gv G i := by simp [gv, List.getElem?_append_left h]
theorem Qjo (G : List Value) (u : Value) : gv (G ++ [u]) G.length = u := by simp [gv]
def Full (base L : Nat) (V : Nat → Value) (N : Nat → Nat) (W : World) : Prop := ∀ i, i < L → OwnV base (patL i (N i)) (V i) W
def Qes (base k : Nat) (N : Nat → Nat) (G : List Value) (W : World) : Prop := ∀ i, i < k → OwnB base (patL i (N i + 10)) (gv G i) W
def Gd (L k : Nat) (V : Nat → Value) (G : List Value) : Prop := ∀ i j, i < k → j < L → i ≠ j → (gv G i).ownBlock ≠ (V j).ownBlock
def Ap (L k : Nat) (V : Nat → Value) (G : List Value) (u : Value) : Prop :=
  (∀ j, j < L → j ≠ k → (V j).ownBlock = u.ownBlock → (V j).ownBlock = none) ∧ (∀ i, i < k → (gv G i).ownBlock ≠ u.ownBlock) ∧
    ((V k).ownBlock = none ∨ (V k).ownBlock ≠ u.ownBlock ∨ ∃ g n n' c, u = .slice (some ⟨g, 0, none⟩) n c ∧ V k = .slice (some ⟨g, 0, none⟩) n' c)
def Mid (base L k m : Nat) (V : Nat → Value) (N : Nat → Nat) (G : List Value) (u : Value) (W : World) : Prop :=
  OwnV base (patL k m) u W ∧ Full base L V N W ∧ Qes base k N G W ∧ Ap L k V G u
theorem OwnV.ext {base : Nat} {bs : List Int} {v : Value} {W W' : World} (h : OwnV base bs v W) (e : Ext W W') : OwnV base bs v W' := h.imp id fun h => h.ext e
theorem OwnB.v {base : Nat} {bs : List Int} {v : Value} {W : World} (h : OwnB base bs v W) : OwnV base bs v W := .inr h
theorem Full.ext {base L : Nat} {V : Nat → Value} {N : Nat → Nat} {W W' : World} (h : Full base L V N W) (e : Ext W W') : Full base L V N W' := fun i hi => OwnV.ext (h i hi) e
theorem Qes.ext {base k : Nat} {N : Nat → Nat} {G : List Value} {W W' : World} (h : Qes base k N G W) (e : Ext W W') : Qes base k N G W' := fun i hi => (h i hi).ext e
theorem Mid.ext {base L k m : Nat} {V : Nat → Value} {N : Nat → Nat} {G : List Value} {u : Value} {W W' : World} (h : Mid base L k m V N G u W) (e : Ext W W') : Mid base L k m V N G u W' :=
  ⟨OwnV.ext h.1 e, h.2.1.ext e, h.2.2.1.ext e, h.2.2.2⟩
theorem QhJ {base : Nat} {bs : List Int} {v : Value} {W : World} (h : OwnB base bs v W) : ∃ g, v.ownBlock = some g := by
  obtain ⟨g, c, cur, rfl, _⟩ := h
  exact ⟨g, rfl⟩
theorem QdE {base : Nat} {bs : List Int} {v : Value} {W : World} (h : OwnV base bs v W) (hn : 0 < bs.length) : OwnB base bs v W := by
  rcases h with ⟨_, rfl⟩ | h
  · simp at hn
  · exact h
theorem Mid.start {base L k : Nat} {V : Nat → Value} {N : Nat → Nat} {G : List Value} {W : World} (hF : Full base L V N W) (hG : Qes base k N G W) (hd : ∀ i j, i < L → j < L → i ≠ j → (V i).ownBlock = (V j).ownBlock → (V i).ownBlock = none) (hg : Gd L k V G) (hk : k < L) : Mid base L k (N k) V N G (V k) W := by
  refine ⟨hF k hk, hF, hG, fun j hj hn => hd j k hj hk hn, fun i hi => hg i k hi hk (by omega), ?_⟩
  rcases hF k hk with ⟨e, _⟩ | ⟨g, c, cur, e, _⟩
  · exact .inl (by rw [e]; rfl)
  · exact .inr (.inr ⟨g, _, _, c, e, e⟩)
theorem Mid.append {base L k m : Nat} {V : Nat → Value} {N : Nat → Nat} {G : List Value} {u u' : Value} {W W' : World} (h : Mid base L k m V N G u W) (hk : k < L) (hm : N k ≤ m) (hw : Went u u' W W') (ho : OwnB base (patL k m ++ [pat k m]) u' W') : Mid base L k (m + 1) V N G u' W' := by
  obtain ⟨h1, hF, hG, hA1, hA2, hA3⟩ := h
  rw [← QfO] at ho
  have hVk : OwnV base (patL k (N k)) (V k) W' := by
    rcases hA3 with h0 | h0 | ⟨g, n, n', c, e1, e2⟩
    · exact hw.other (hF k hk) (fun _ => h0)
    · exact hw.other (hF k hk) (fun e => absurd e h0)
    · have hv := hF k hk
      rw [e2] at hv ⊢
      rcases hv with ⟨e, _⟩ | hv
      · cases e
      · have hn' : n' = N k := by
          obtain ⟨_, _, _, e, _⟩ := hv
          rw [Qbr] at e
          injection e
        exact .inr (hw.same ho hv ⟨n, e1⟩ (by rw [hn', QhG _ _ _ (by omega)]))
  have hF' : Full base L V N W' := fun i hi => by
    by_cases e : i = k
    · subst e; exact hVk
    · exact hw.other (hF i hi) (hA1 i hi e)
  have hG' : Qes base k N G W' := fun i hi => by
    have hh := hw.other (OwnB.v (hG i hi)) (fun e => absurd e (hA2 i hi))
    exact QdE hh (by rw [Qbr]; omega)
  refine ⟨.inr ho, hF', hG', ?_⟩
  rcases hw with ⟨g, n, c, e1, ⟨n', e2⟩, he⟩ | ⟨⟨g, hg, hl⟩, he⟩
  · have hb : u'.ownBlock = u.ownBlock := by rw [e1, e2]; rfl
    refine ⟨by rw [hb]; exact hA1, by rw [hb]; exact hA2, ?_⟩
    rcases hA3 with h0 | h0 | ⟨g', a, b, c', q1, q2⟩
    · exact .inl h0
    · exact .inr (.inl (by rw [hb]; exact h0))
    · refine .inr (.inr ⟨g', n', b, c', ?_, q2⟩)
      rw [e1] at q1
      simp only [Value.slice.injEq, Option.some.injEq, Addr.mk.injEq] at q1
      rw [e2, q1.1.1, q1.2.2]
  · have hne : ∀ {bs : List Int} {v : Value}, OwnV base bs v W → v.ownBlock ≠ u'.ownBlock := fun hv e => by
      have := hv.lt (e.trans hg)
      omega
    exact ⟨fun j hj _ e => absurd e (hne (hF j hj)), fun i hi => hne (OwnB.v (hG i hi)), .inr (.inl (hne (hF k hk)))⟩
def OwnL (base g c : Nat) (cur : Array Value) (G : List Value) (W : World) : Prop := base ≤ g ∧ W.heap[g]? = some (.cells cur 24) ∧ cur.size = c ∧ G.length ≤ c ∧ c ≤ maxLen ∧ cur.toList.take G.length = G
theorem OwnL.ext {base g c : Nat} {cur : Array Value} {G : List Value} {W W' : World} (h : OwnL base g c cur G W) (e : Ext W W') : OwnL base g c cur G W' := ⟨h.1, Qad h.2.1 e, h.2.2⟩
theorem Qew {W : World} {a b : Nat} {ca cb : Array Value} {ta tb : TypeId} (h : W.heap[a]? = some (.cells ca ta)) (k : W.heap[b]? = some (.cells cb tb)) (hne : ta ≠ tb) : a ≠ b := fun e => by
  subst e
  rw [h] at k
  injection k with k
  injection k with _ k2
  exact hne k2
theorem OwnV.extB {base g : Nat} {bs : List Int} {v : Value} {cur : Array Value} {W W' : World} (h : OwnV base bs v W) (r : W.heap[g]? = some (.cells cur 24)) (e : ExtB g W W') : OwnV base bs v W' := by
  refine h.below fun g' hg' => e.2.2.2.2 g' (h.lt hg') ?_
  rcases h with ⟨rfl, _⟩ | ⟨g2, c, cur2, rfl, h1, h2, h3⟩
  · cases hg'
  · obtain rfl : g2 = g' := Option.some.inj hg'
    exact Qew h2 r (by decide)
theorem OwnL.went {base b2 g c : Nat} {cur : Array Value} {G : List Value} {v v' : Value} {bs : List Int} {W W' : World} (h : OwnL base g c cur G W) (hv : OwnV b2 bs v W) (hw : Went v v' W W') : OwnL base g c cur G W' := by
  refine ⟨h.1, ?_, h.2.2⟩
  rcases hw with ⟨g', n, c', rfl, _, he⟩ | ⟨_, he⟩
  · refine (he.2.2.2.2 g (QaA h.2.1) ?_).trans h.2.1
    rcases hv with ⟨e, _⟩ | ⟨g2, _, _, e, _, h2, _⟩
    · cases e
    · simp only [Value.slice.injEq, Option.some.injEq, Addr.mk.injEq] at e
      rw [e.1.1]
      exact (Qew h2 h.2.1 (by decide)).symm
  · exact Qad h.2.1 he
theorem Mid.done {base L k : Nat} {V : Nat → Value} {N : Nat → Nat} {G : List Value} {u : Value} {g : Nat} {cur : Array Value} {W W' : World} (h : Mid base L k (N k + 10) V N G u W) (hk : k < L) (hl : G.length = k) (hg : Gd L k V G) (r : W.heap[g]? = some (.cells cur 24)) (e : ExtB g W W') :
    Full base L V N W' ∧ Qes base (k + 1) N (G ++ [u]) W' ∧ Gd L (k + 1) V (G ++ [u]) := by
  obtain ⟨h1, hF, hG, hA1, hA2, hA3⟩ := h
  subst hl
  refine ⟨fun i hi => OwnV.extB (hF i hi) r e, fun i hi => ?_, fun i j hi hj hn => ?_⟩
  · by_cases q : i = G.length
    · subst q; rw [Qjo]; exact QdE (OwnV.extB h1 r e) (by rw [Qbr]; omega)
    · rw [Qjn (by omega)]
      exact QdE (OwnV.extB (OwnB.v (hG i (by omega))) r e) (by rw [Qbr]; omega)
  · by_cases q : i = G.length
    · subst q; rw [Qjo]
      obtain ⟨g', hg'⟩ := QhJ (QdE h1 (by rw [Qbr]; omega))
      intro q2
      have := hA1 j hj (Ne.symm hn) q2.symm
      rw [← q2, hg'] at this; cases this
    · rw [Qjn (by omega)]; exact hg i j (by omega) hj hn
end Go.Proofs.YtjldjdlhllgakaaDoor.Ad
end
