/- Texts of this claim, joined (B3). -/
import Derived.Test.YtoiendjhplbjjaaDoorZB2
import Derived.Laws.Externs
import Derived.Shelf.Spec.BitsCarry
import Derived.Shelf.Bits.Mul64
import Derived.Laws.Bits64b
import Derived.Laws.BitsAll
import Derived.Test.YtoiendjhplbjjaaDoorProg
import Derived.Lib.SmallJoins
import Derived.Lib.LaidTab

section
namespace Go.Proofs.YtoiendjhplbjjaaDoor.Ae
open Go Go.RowKit
open Rely Auto Own Sha
set_option linter.unusedVariables false
set_option linter.unusedSimpArgs false
open Sha Cha
def Qcu (key nonce ctx text : List Int) : List Int := mixV (QaB key nonce) 1 text ++ QbX key nonce ctx (mixV (QaB key nonce) 1 text)
theorem Qca (key nonce ctx text : List Int) : (Qcu key nonce ctx text).length = text.length + 16 := by unfold Qcu; rw [List.length_append, Qbs, Qbd]
theorem Qg4 (xs ys : List Int) (v v2 : Value) (B B2 : Nat) (w : World) (e : xs = ys) (hx : RdK .u8 B xs v w) (hy : RdK .u8 B2 ys v2 w) (hxb : Qam xs) (hyb : Qam ys) (hl : ys.length = xs.length) (hxl : xs.length ≤ 2000000) : Calls Tryd.prog 107 #[v, v2] w (Ret w (.bool true)) := by
  have h := QhG xs ys v v2 B B2 w hx hy hxb hyb hl hxl
  rw [decide_eq_true e] at h
  exact h
theorem QdE (key nonce ctx mixed : List Int) : Qam (QbX key nonce ctx mixed) := QfB _
theorem QeH (key nonce ctx text : List Int) : Qam (Qcu key nonce ctx text) := QbP (QdP _ _ _) (QdE _ _ _ _)
theorem MixE (key nonce text fm : List Int) (v v2 : Value) (B B2 : Nat) (th tq : TypeId) (w : World) (hh : w.heap[2]? = some (.cells (ints .u32 [1634760805, 857760878, 2036477234, 1797285236]) th)) (hq : w.heap[3]? = some (.cells (ints .i64 [0, 4, 8, 12, 1, 5, 9, 13, 2, 6, 10, 14, 3, 7, 11, 15, 0, 5, 10, 15, 1, 6, 11, 12, 2, 7, 8, 13, 3, 4, 9, 14]) tq)) (hkl : key.length = 32) (hn : RdK .u8 B nonce v w) (ht : RdK .u8 B2 text v2 w) (h : nonce.length = 12) (hl : text.length ≤ 2000000) (em : mixV (QaB key nonce) 1 text = fm) :
    Calls Tryd.prog 103 #[.agg (ints .u8 key), v, .int .i64 1, v2] w (QbY w (MixR w.heap.size fm)) := by
  subst em
  exact MixG w.heap.size key nonce text v v2 B B2 1 th tq w hh hq hkl hn ht h 4294967295 (by decide) (by decide) (by decide) (by omega) hl (Nat.le_refl _)
set_option maxRecDepth 100000 in
set_option maxHeartbeats 4000000 in
theorem QhZ (key nonce ctx text : List Int) (v v2 v3 : Value) (B B2 B3 : Nat) (th tq : TypeId) (w : World) (hh : w.heap[2]? = some (.cells (ints .u32 [1634760805, 857760878, 2036477234, 1797285236]) th)) (hq : w.heap[3]? = some (.cells (ints .i64 [0, 4, 8, 12, 1, 5, 9, 13, 2, 6, 10, 14, 3, 7, 11, 15, 0, 5, 10, 15, 1, 6, 11, 12, 2, 7, 8, 13, 3, 4, 9, 14]) tq)) (hkl : key.length = 32) (hn : RdK .u8 B nonce v w) (hc : RdK .u8 B2 ctx v2 w) (ht : RdK .u8 B3 text v3 w) (hcb : Qam ctx) (h : nonce.length = 12) (hcl : ctx.length ≤ 1048576) (hxl : text.length ≤ 1048576) :
    Calls Tryd.prog 71 #[.agg (ints .u8 key), v, v2, v3] w (QbY w (MixR w.heap.size (Qcu key nonce ctx text))) := by
  obtain ⟨a_n, c_n, rfl, -⟩ := id hn
  obtain ⟨a_c, c_c, rfl, -⟩ := id hc
  obtain ⟨a_t, c_t, rfl, -⟩ := id ht
  obtain ⟨fm, em⟩ : ∃ z : List Int, mixV (QaB key nonce) 1 text = z := ⟨_, rfl⟩
  have lfm : fm.length = text.length := by rw [← em, Qbs]
  have hfb : Qam fm := by rw [← em]; exact QdP _ _ _
  refine enter 51 [(0, .agg (ints .u8 (key))), (1, .slice a_n nonce.length c_n), (2, .slice a_c ctx.length c_c), (3, .slice a_t text.length c_t)] Tryd.func71 rfl rfl kj rfl ?_
  refine wp_seq_k fun K3 hK3 => ?_
  refine Qab ?_
  refine Qas (ints .u8 (key)) 23 4 rfl kj kj fun g4 W1 l4 e1 r4_1 => ?_
  have x1 : Ext w W1 := Ext.tr (Rely.Ext.refl w) e1
  have b4 : w.heap.size ≤ g4 := Nat.le_trans (Rely.Ext.refl w).size l4
  refine Qaa (.slice none 0 0) 8 rfl kj kj ?_
  refine Qaa (.nilIface) 9 rfl kj kj ?_
  refine Qac ?_
  refine hK3 _ _ ?_
  refine wp_seq_k fun K5 hK5 => ?_
  refine wp_seq_k fun K6 hK6 => ?_
  refine Qab ?_
  refine Qaa (.slice a_n nonce.length c_n) 13 rfl kj kj ?_
  refine Qaa (.int .i64 ((nonce.length : Nat) : Int)) 14 rfl kj kj ?_
  refine Qaa (.bool false) 15 rfl kj (Qai (u := .bool ((((nonce.length : Nat) : Int) != 12))) kj (congrArg Value.bool (by rw [h]; rfl))) ?_
  refine Qaa (.bool false) 16 rfl kj kj ?_
  refine Qaa (.slice a_c ctx.length c_c) 17 rfl kj kj ?_
  refine Qaa (.int .i64 ((ctx.length : Nat) : Int)) 18 rfl kj kj ?_
  refine Qaa (.bool false) 19 rfl kj (Qai (u := .bool (decide (((ctx.length : Nat) : Int) > 1048576))) kj (congrArg Value.bool (decide_eq_false (by omega)))) ?_
  refine Qaa (.bool false) 20 rfl kj kj ?_
  refine Qaa (.bool false) 21 rfl kj kj ?_
  refine Qaa (.slice a_t text.length c_t) 22 rfl kj kj ?_
  refine Qaa (.int .i64 ((text.length : Nat) : Int)) 23 rfl kj kj ?_
  refine Qaa (.bool false) 24 rfl kj (Qai (u := .bool (decide (((text.length : Nat) : Int) > 1048576))) kj (congrArg Value.bool (decide_eq_false (by omega)))) ?_
  refine Qaa (.bool false) 25 rfl kj kj ?_
  refine Qac ?_
  refine hK6 _ _ ?_
  refine cond_false kj ?_
  refine wp_skip ?_
  refine hK5 _ _ ?_
  refine wp_seq_k fun K7 hK7 => ?_
  refine Qab ?_
  refine Qaa (.agg (ints .u8 (key))) 28 rfl kj (Qar 23 _ g4 23 _ _ r4_1 rfl kj kj (isz (n := 32) kj ((Qaf _ _).trans hkl))) ?_
  refine Qaa (.slice a_n nonce.length c_n) 29 rfl kj kj ?_
  refine Qaa (.slice a_t text.length c_t) 30 rfl kj kj ?_
  have r2_1 := (Qad hh e1)
  have r1_1 := (Qad hq e1)
  refine Qa5 (fun v W' => (MixR W1.heap.size (fm)) v W' ∧ Ext W1 W') 103 #[.agg (ints .u8 (key)), .slice a_n nonce.length c_n, .int .i64 1, .slice a_t text.length c_t] 31 rfl kj kj ((MixE key nonce (text) (fm) _ _ _ _ th tq _ r2_1 r1_1 hkl (RdK.ext hn x1) (RdK.ext ht x1) h (by omega) em).mono (by rintro e w' ⟨v, rfl, e1, hv⟩; exact ⟨v, rfl, hv, e1⟩)) fun vv8 W2 hh8 => ?_
  obtain ⟨hv8, e2⟩ := hh8
  have x2 : Ext w W2 := Ext.tr x1 e2
  obtain ⟨u31_, rfl, hu31_⟩ := hv8
  obtain ⟨a31_, c31_, rfl, -⟩ := id (OwnN.rd hu31_)
  refine Qaa (.tuple #[.slice a31_ ((fm).length) c31_, .nilIface]) 27 rfl kj kj ?_
  refine Qaa (.slice a31_ ((fm).length) c31_) 32 rfl kj kj ?_
  refine Qaa (.nilIface) 33 rfl kj kj ?_
  refine Qaa (.slice a31_ ((fm).length) c31_) 10 rfl kj kj ?_
  refine Qaa (.nilIface) 11 rfl kj kj ?_
  refine Qac ?_
  refine hK7 _ _ ?_
  refine wp_seq_k fun K9 hK9 => ?_
  refine wp_seq_k fun K10 hK10 => ?_
  refine Qab ?_
  refine Qaa (.nilIface) 34 rfl kj kj ?_
  refine Qaa (.bool false) 35 rfl kj kj ?_
  refine Qac ?_
  refine hK10 _ _ ?_
  refine cond_false kj ?_
  refine wp_skip ?_
  refine hK9 _ _ ?_
  refine wp_seq_k fun K11 hK11 => ?_
  refine Qab ?_
  have r4_2 := (Qad r4_1 e2)
  refine Qaa (.agg (ints .u8 (key))) 38 rfl kj (Qar 23 _ g4 23 _ _ r4_2 rfl kj kj (isz (n := 32) kj ((Qaf _ _).trans hkl))) ?_
  refine Qaa (.slice a_n nonce.length c_n) 39 rfl kj kj ?_
  refine Qaa (.slice a_c ctx.length c_c) 40 rfl kj kj ?_
  refine Qaa (.slice a31_ ((fm).length) c31_) 41 rfl kj kj ?_
  have r2_2 := (Qad r2_1 e2)
  have r1_2 := (Qad r1_1 e2)
  refine Qat (.tuple #[.agg (ints .u8 (QbX key nonce ctx fm)), .nilIface]) 104 #[.agg (ints .u8 (key)), .slice a_n nonce.length c_n, .slice a_c ctx.length c_c, .slice a31_ ((fm).length) c31_] 42 rfl kj kj ((QfZ key nonce ctx fm _ _ _ _ _ _ th tq _ r2_2 r1_2 hkl (RdK.ext hn x2) (RdK.ext hc x2) (OwnN.rd hu31_) h hcb hfb (by omega) (by omega))) fun W3 e3 => ?_
  have x3 : Ext w W3 := Ext.tr x2 e3
  refine Qaa (.tuple #[.agg (ints .u8 (QbX key nonce ctx fm)), .nilIface]) 37 rfl kj kj ?_
  refine Qaa (.agg (ints .u8 (QbX key nonce ctx fm))) 43 rfl kj kj ?_
  refine Qaa (.nilIface) 44 rfl kj kj ?_
  refine Qas (ints .u8 (List.replicate 16 0)) 157 12 rfl kj kj fun g12 W4 l12 e4 r12_4 => ?_
  have x4 : Ext w W4 := Ext.tr x3 e4
  have b12 : w.heap.size ≤ g12 := Nat.le_trans x3.size l12
  refine Qaj g12 _ (ints .u8 (QbX key nonce ctx fm)) 157 r12_4 rfl kj (Qap 157 _ _ g12 157 _ _ r12_4 rfl kj kj (isz (n := 16) kj ((Qaf _ _).trans (Qbd _ _ _ _))) (eqsz (n := 16) ((Qaf _ _).trans (List.length_replicate (n := 16))) ((Qaf _ _).trans (Qbd _ _ _ _))) (Qa6 _ _)) fun W5 p5 r12_5 => ?_
  have x5 : Ext w W5 := Puts.ext p5 x4 b12
  refine Qaa (.nilIface) 11 rfl kj kj ?_
  refine Qac ?_
  refine hK11 _ _ ?_
  refine wp_seq_k fun K13 hK13 => ?_
  refine wp_seq_k fun K14 hK14 => ?_
  refine Qab ?_
  refine Qaa (.nilIface) 45 rfl kj kj ?_
  refine Qaa (.bool false) 46 rfl kj kj ?_
  refine Qac ?_
  refine hK14 _ _ ?_
  refine cond_false kj ?_
  refine wp_skip ?_
  refine hK13 _ _ ?_
  refine wp_seq_k fun K15 hK15 => ?_
  refine Qab ?_
  refine Qaa (.slice a31_ ((fm).length) c31_) 48 rfl kj kj ?_
  refine Qaa (.slice (some ⟨g12, 0, none⟩) 16 16) 49 rfl kj kj ?_
  have f16_3 := (hu31_.ext e3)
  have f17_4 := (f16_3.ext e4)
  have f18_5 := (f17_4.puts p5 (QhP f16_3 l12))
  have y1_2 : Ext W1 W2 := (Rely.Ext.trans (Rely.Ext.refl W1) e2)
  have y1_3 : Ext W1 W3 := (Rely.Ext.trans y1_2 e3)
  have y1_4 : Ext W1 W4 := (Rely.Ext.trans y1_3 e4)
  have y1_5 : Ext W1 W5 := (Puts.ext p5 y1_4 (Nat.le_trans y1_3.size l12))
  refine Qci (k := .u8) (T := 5) (xs := fm) (ys := QbX key nonce ctx fm) (V := W1) 1 (.tmp 48) (.tmp 49) 33 rfl kj kj (by decide) 50 rfl kj kj kj f18_5 (Qb2 (xs := QbX key nonce ctx fm) (n := 16) (Qbd _ _ _ _) r12_5 (Qa9 r12_5) (show 16 ≤ maxLen from by decide)) (by rw [Qbd]; omega) y1_5 fun zs W6 f19 y6 l6 => ?_
  have x6 : Ext w W6 := Ext.low x5 l6 x1.size
  refine Qaa (zs) 8 rfl kj kj ?_
  refine Qaa (.nilIface) 9 rfl kj kj ?_
  refine Qac ?_
  refine hK15 _ _ ?_
  refine wp_ret ?_
  repeat (first | with_reducible refine goR1 ?_ | with_reducible refine goR2 ?_)
  exact (show bodyPost _ _ _ .ret _ _ from ret2 (zs) (.nilIface) rfl (Qaz kj) (Qaz kj) ⟨_, rfl, x6, zs, rfl, by unfold Qcu; rw [em]; exact OwnN.base x1.size f19⟩)
end Go.Proofs.YtoiendjhplbjjaaDoor.Ae
end
section
namespace Go.Proofs.YtoiendjhplbjjaaDoor.Ae
open Go Go.RowKit
open Rely Auto Own Sha
set_option linter.unusedVariables false
set_option linter.unusedSimpArgs false
open Sha Cha
theorem QeA (n : Nat) (h : 16 ≤ n) (hm : n ≤ maxLen) : IntKind.i64.wrap (((n : Nat) : Int) - 16) = ((n - 16 : Nat) : Int) := by
  rw [show ((n : Nat) : Int) - 16 = ((n - 16 : Nat) : Int) by omega]
  exact IntWalk.i64_in _ (by rw [maxLen] at hm; omega)
set_option maxRecDepth 100000 in
set_option maxHeartbeats 4000000 in
theorem Qia (key nonce ctx sl : List Int) (v v2 v3 : Value) (B B2 B3 : Nat) (th tq : TypeId) (w : World) (hh : w.heap[2]? = some (.cells (ints .u32 [1634760805, 857760878, 2036477234, 1797285236]) th)) (hq : w.heap[3]? = some (.cells (ints .i64 [0, 4, 8, 12, 1, 5, 9, 13, 2, 6, 10, 14, 3, 7, 11, 15, 0, 5, 10, 15, 1, 6, 11, 12, 2, 7, 8, 13, 3, 4, 9, 14]) tq)) (hkl : key.length = 32) (hn : RdK .u8 B nonce v w) (hc : RdK .u8 B2 ctx v2 w) (ht : RdK .u8 B3 sl v3 w) (hcb : Qam ctx) (htb : Qam sl) (h : nonce.length = 12) (hcl : ctx.length ≤ 1048592) (hxl : sl.length ≤ 1048592) (hsh : 16 ≤ sl.length) (hne : QbX key nonce ctx (sl.take (sl.length - 16)) = sl.drop (sl.length - 16)) :
    Calls Tryd.prog 74 #[.agg (ints .u8 key), v, v2, v3] w (QbY w (MixR w.heap.size (mixV (QaB key nonce) 1 (sl.take (sl.length - 16))))) := by
  obtain ⟨a_n, c_n, rfl, -⟩ := id hn
  obtain ⟨a_c, c_c, rfl, -⟩ := id hc
  obtain ⟨a_t, c_t, rfl, -⟩ := id ht
  have ctk : sl.length ≤ c_t := by
    obtain ⟨_, _, e, q2, _⟩ := id ht
    simp only [Value.slice.injEq] at e
    obtain ⟨-, -, rfl⟩ := e
    exact q2
  have htm : sl.length ≤ maxLen := RdK.len ht
  have hlt_ : (sl.take (sl.length - 16)).length = sl.length - 16 := by rw [List.length_take]; omega
  obtain ⟨fm, em⟩ : ∃ z : List Int, mixV (QaB key nonce) 1 (sl.take (sl.length - 16)) = z := ⟨_, rfl⟩
  refine enter 64 [(0, .agg (ints .u8 (key))), (1, .slice a_n nonce.length c_n), (2, .slice a_c ctx.length c_c), (3, .slice a_t sl.length c_t)] Tryd.func74 rfl rfl kj rfl ?_
  refine wp_seq_k fun K3 hK3 => ?_
  refine Qab ?_
  refine Qas (ints .u8 (key)) 23 4 rfl kj kj fun g4 W1 l4 e1 r4_1 => ?_
  have x1 : Ext w W1 := Ext.tr (Rely.Ext.refl w) e1
  have b4 : w.heap.size ≤ g4 := Nat.le_trans (Rely.Ext.refl w).size l4
  refine Qaa (.slice none 0 0) 8 rfl kj kj ?_
  refine Qaa (.nilIface) 9 rfl kj kj ?_
  refine Qac ?_
  refine hK3 _ _ ?_
  refine wp_seq_k fun K5 hK5 => ?_
  refine wp_seq_k fun K6 hK6 => ?_
  refine Qab ?_
  refine Qaa (.slice a_n nonce.length c_n) 14 rfl kj kj ?_
  refine Qaa (.int .i64 ((nonce.length : Nat) : Int)) 15 rfl kj kj ?_
  refine Qaa (.bool false) 16 rfl kj (Qai (u := .bool ((((nonce.length : Nat) : Int) != 12))) kj (congrArg Value.bool (by rw [h]; rfl))) ?_
  refine Qaa (.bool false) 17 rfl kj kj ?_
  refine Qaa (.slice a_c ctx.length c_c) 18 rfl kj kj ?_
  refine Qaa (.int .i64 ((ctx.length : Nat) : Int)) 19 rfl kj kj ?_
  refine Qaa (.bool false) 20 rfl kj (Qai (u := .bool (decide (((ctx.length : Nat) : Int) > 1048592))) kj (congrArg Value.bool (decide_eq_false (by omega)))) ?_
  refine Qaa (.bool false) 21 rfl kj kj ?_
  refine Qaa (.bool false) 22 rfl kj kj ?_
  refine Qaa (.slice a_t sl.length c_t) 23 rfl kj kj ?_
  refine Qaa (.int .i64 ((sl.length : Nat) : Int)) 24 rfl kj kj ?_
  refine Qaa (.bool false) 25 rfl kj (Qai (u := .bool (decide (((sl.length : Nat) : Int) > 1048592))) kj (congrArg Value.bool (decide_eq_false (by omega)))) ?_
  refine Qaa (.bool false) 26 rfl kj kj ?_
  refine Qac ?_
  refine hK6 _ _ ?_
  refine cond_false kj ?_
  refine wp_skip ?_
  refine hK5 _ _ ?_
  refine wp_seq_k fun K7 hK7 => ?_
  refine wp_seq_k fun K8 hK8 => ?_
  refine Qab ?_
  refine Qaa (.slice a_t sl.length c_t) 28 rfl kj kj ?_
  refine Qaa (.int .i64 ((sl.length : Nat) : Int)) 29 rfl kj kj ?_
  refine Qaa (.bool false) 30 rfl kj (Qai (u := .bool (decide (((sl.length : Nat) : Int) < 16))) kj (congrArg Value.bool (decide_eq_false (by omega)))) ?_
  refine Qac ?_
  refine hK8 _ _ ?_
  refine cond_false kj ?_
  refine wp_skip ?_
  refine hK7 _ _ ?_
  refine wp_seq_k fun K9 hK9 => ?_
  refine QaS 11 [⟨none, [(3, none)]⟩, ⟨none, [(3, none)]⟩, ⟨none, [(33, some 1)]⟩, ⟨none, [(34, some 2)]⟩, ⟨none, [(32, some 0), (35, some 3)]⟩, ⟨none, [(3, none)]⟩, ⟨none, [(3, none)]⟩, ⟨none, [(38, some 6)]⟩, ⟨none, [(39, some 7)]⟩, ⟨none, [(37, some 5), (40, some 8)]⟩, ⟨none, [(36, some 4)]⟩] kj kj fun F hF => ?_
  refine Qa8 (Qaq _) (.slice a_t sl.length c_t) kj kj (fun W => by kernel_rfl) ?_
  refine Qa8 (Qaq _) (.slice a_t sl.length c_t) kj kj (fun W => by kernel_rfl) ?_
  refine Qa8 (Qaq _) (.int .i64 ((sl.length : Nat) : Int)) kj kj (fun W => by kernel_rfl) ?_
  refine Qa8 (Qaq _) (.int .i64 (((sl.length - 16 : Nat) : Int))) kj kj (fun W => (Qai (u := .int .i64 (IntKind.i64.wrap (((sl.length : Nat) : Int) - 16))) kj (congrArg (Value.int .i64) (QeA _ hsh htm)))) ?_
  refine Qa8 (Qaq _) (.slice a_t (sl.length - 16) c_t) kj kj (fun W => (Qde (len := sl.length) 33 _ _ (sl.length - 16) 5 rfl kj kj kj .i64 kj (Nat.le_trans (Nat.sub_le _ _) ctk))) ?_
  refine Qa8 (Qaq _) (.slice a_t sl.length c_t) kj kj (fun W => by kernel_rfl) ?_
  refine Qa8 (Qaq _) (.slice a_t sl.length c_t) kj kj (fun W => by kernel_rfl) ?_
  refine Qa8 (Qaq _) (.int .i64 ((sl.length : Nat) : Int)) kj kj (fun W => by kernel_rfl) ?_
  refine Qa8 (Qaq _) (.int .i64 (((sl.length - 16 : Nat) : Int))) kj kj (fun W => (Qai (u := .int .i64 (IntKind.i64.wrap (((sl.length : Nat) : Int) - 16))) kj (congrArg (Value.int .i64) (QeA _ hsh htm)))) ?_
  refine Qa8 (Qaq _) (.slice (Qck a_t c_t (sl.length - 16)) (sl.length - (sl.length - 16)) (c_t - (sl.length - 16))) kj kj (fun W => (Qc6 33 _ _ (sl.length - 16) 5 rfl kj kj kj .i64 kj (Nat.sub_le _ _) ctk)) ?_
  refine Qa8 (Qaq _) (.slice a_t (sl.length - 16) c_t) kj kj (fun W => by kernel_rfl) ?_
  refine Qdi (hF _ fun W2 e2 => ?_)
  simp only [List.nil_append, List.cons_append, List.take_succ_cons, List.take_zero, List.drop_succ_cons, List.drop_zero, finE, up]
  clear hF
  have x2 : Ext w W2 := Ext.tr x1 e2
  refine Qaa (.slice (Qck a_t c_t (sl.length - 16)) (sl.length - (sl.length - 16)) (c_t - (sl.length - 16))) 11 rfl kj kj ?_
  refine Qac ?_
  refine hK9 _ _ ?_
  refine wp_seq_k fun K10 hK10 => ?_
  refine Qab ?_
  have r4_2 := (Qad r4_1 e2)
  refine Qaa (.agg (ints .u8 (key))) 43 rfl kj (Qar 23 _ g4 23 _ _ r4_2 rfl kj kj (isz (n := 32) kj ((Qaf _ _).trans hkl))) ?_
  refine Qaa (.slice a_n nonce.length c_n) 44 rfl kj kj ?_
  refine Qaa (.slice a_c ctx.length c_c) 45 rfl kj kj ?_
  refine Qaa (.slice a_t (sl.length - 16) c_t) 46 rfl kj kj ?_
  have r2_1 := (Qad hh e1)
  have r2_2 := (Qad r2_1 e2)
  have r1_1 := (Qad hq e1)
  have r1_2 := (Qad r1_1 e2)
  refine Qat (.tuple #[.agg (ints .u8 (QbX key nonce ctx (sl.take (sl.length - 16)))), .nilIface]) 104 #[.agg (ints .u8 (key)), .slice a_n nonce.length c_n, .slice a_c ctx.length c_c, .slice a_t (sl.length - 16) c_t] 47 rfl kj kj ((QfZ key nonce ctx (sl.take (sl.length - 16)) _ _ _ _ _ _ th tq _ r2_2 r1_2 hkl (RdK.ext hn x2) (RdK.ext hc x2) (QdZ (RdK.ext ht x2) (sl.length - 16) (Nat.sub_le _ _)) h hcb (QaI htb _) (by omega) (by omega))) fun W3 e3 => ?_
  have x3 : Ext w W3 := Ext.tr x2 e3
  refine Qaa (.tuple #[.agg (ints .u8 (QbX key nonce ctx (sl.take (sl.length - 16)))), .nilIface]) 42 rfl kj kj ?_
  refine Qaa (.agg (ints .u8 (QbX key nonce ctx (sl.take (sl.length - 16))))) 48 rfl kj kj ?_
  refine Qaa (.nilIface) 49 rfl kj kj ?_
  refine Qas (ints .u8 (List.replicate 16 0)) 157 12 rfl kj kj fun g11 W4 l11 e4 r11_4 => ?_
  have x4 : Ext w W4 := Ext.tr x3 e4
  have b11 : w.heap.size ≤ g11 := Nat.le_trans x3.size l11
  refine Qaj g11 _ (ints .u8 (QbX key nonce ctx (sl.take (sl.length - 16)))) 157 r11_4 rfl kj (Qap 157 _ _ g11 157 _ _ r11_4 rfl kj kj (isz (n := 16) kj ((Qaf _ _).trans (Qbd _ _ _ _))) (eqsz (n := 16) ((Qaf _ _).trans (List.length_replicate (n := 16))) ((Qaf _ _).trans (Qbd _ _ _ _))) (Qa6 _ _)) fun W5 p5 r11_5 => ?_
  have x5 : Ext w W5 := Puts.ext p5 x4 b11
  refine Qaa (.nilIface) 13 rfl kj kj ?_
  refine Qac ?_
  refine hK10 _ _ ?_
  refine wp_seq_k fun K12 hK12 => ?_
  refine wp_seq_k fun K13 hK13 => ?_
  refine Qab ?_
  refine Qaa (.nilIface) 50 rfl kj kj ?_
  refine Qaa (.bool false) 51 rfl kj kj ?_
  refine Qac ?_
  refine hK13 _ _ ?_
  refine cond_false kj ?_
  refine wp_skip ?_
  refine hK12 _ _ ?_
  refine wp_seq_k fun K14 hK14 => ?_
  refine wp_seq_k fun K15 hK15 => ?_
  refine Qab ?_
  refine Qaa (.slice (some ⟨g11, 0, none⟩) 16 16) 53 rfl kj kj ?_
  refine Qaa (.slice (Qck a_t c_t (sl.length - 16)) (sl.length - (sl.length - 16)) (c_t - (sl.length - 16))) 54 rfl kj kj ?_
  refine Qat (.bool true) 107 #[.slice (some ⟨g11, 0, none⟩) 16 16, .slice (Qck a_t c_t (sl.length - 16)) (sl.length - (sl.length - 16)) (c_t - (sl.length - 16))] 55 rfl kj kj ((Qg4 (QbX key nonce ctx (sl.take (sl.length - 16))) (sl.drop (sl.length - 16)) _ _ W5.heap.size _ W5 hne (Qb2 (xs := QbX key nonce ctx (sl.take (sl.length - 16))) (n := 16) (Qbd _ _ _ _) r11_5 (Qa9 r11_5) (show 16 ≤ maxLen from by decide)) (Qd0 (RdK.ext ht x5) (sl.length - 16) (Nat.sub_le _ _)) (QdE _ _ _ _) (Qbc htb _) (by rw [List.length_drop, Qbd]; omega) (by rw [Qbd]; decide))) fun W6 e6 => ?_
  have x6 : Ext w W6 := Ext.tr x5 e6
  refine Qaa (.bool false) 56 rfl kj kj ?_
  refine Qac ?_
  refine hK15 _ _ ?_
  refine cond_false kj ?_
  refine wp_skip ?_
  refine hK14 _ _ ?_
  refine wp_seq_k fun K16 hK16 => ?_
  refine Qab ?_
  have r4_3 := (Qad r4_2 e3)
  have r4_4 := (Qad r4_3 e4)
  have r4_5 := (Puts.row p5 r4_4 (Qag r4_3 l11))
  have r4_6 := (Qad r4_5 e6)
  refine Qaa (.agg (ints .u8 (key))) 58 rfl kj (Qar 23 _ g4 23 _ _ r4_6 rfl kj kj (isz (n := 32) kj ((Qaf _ _).trans hkl))) ?_
  refine Qaa (.slice a_n nonce.length c_n) 59 rfl kj kj ?_
  refine Qaa (.slice a_t (sl.length - 16) c_t) 60 rfl kj kj ?_
  have r2_3 := (Qad r2_2 e3)
  have r2_4 := (Qad r2_3 e4)
  have r2_5 := (Puts.row p5 r2_4 (Qag r2_3 l11))
  have r2_6 := (Qad r2_5 e6)
  have r1_3 := (Qad r1_2 e3)
  have r1_4 := (Qad r1_3 e4)
  have r1_5 := (Puts.row p5 r1_4 (Qag r1_3 l11))
  have r1_6 := (Qad r1_5 e6)
  refine Qa5 (fun v W' => (MixR W6.heap.size (fm)) v W' ∧ Ext W6 W') 103 #[.agg (ints .u8 (key)), .slice a_n nonce.length c_n, .int .i64 1, .slice a_t (sl.length - 16) c_t] 61 rfl kj kj ((MixE key nonce (sl.take (sl.length - 16)) (fm) _ _ _ _ th tq _ r2_6 r1_6 hkl (RdK.ext hn x6) (QdZ (RdK.ext ht x6) (sl.length - 16) (Nat.sub_le _ _)) h (by omega) em).mono (by rintro e w' ⟨v, rfl, e1, hv⟩; exact ⟨v, rfl, hv, e1⟩)) fun vv17 W7 hh17 => ?_
  obtain ⟨hv17, e7⟩ := hh17
  have x7 : Ext w W7 := Ext.tr x6 e7
  obtain ⟨u61_, rfl, hu61_⟩ := hv17
  refine Qaa (u61_) 62 rfl kj kj ?_
  refine Qaa (.nilIface) 63 rfl kj kj ?_
  refine Qaa (u61_) 8 rfl kj kj ?_
  refine Qaa (.nilIface) 9 rfl kj kj ?_
  refine Qac ?_
  refine hK16 _ _ ?_
  refine wp_ret ?_
  repeat (first | with_reducible refine goR1 ?_ | with_reducible refine goR2 ?_)
  exact (show bodyPost _ _ _ .ret _ _ from ret2 (u61_) (.nilIface) rfl (Qaz kj) (Qaz kj) ⟨_, rfl, x7, u61_, rfl, by rw [em]; exact OwnN.base x6.size hu61_⟩)
end Go.Proofs.YtoiendjhplbjjaaDoor.Ae
end
section
namespace Go.Proofs.YtoiendjhplbjjaaDoor.Ae
open Go Go.RowKit
open Rely Auto Own Sha
set_option linter.unusedVariables false
set_option linter.unusedSimpArgs false
open Sha Cha
set_option maxHeartbeats 4000000 in
theorem Qhx (n0 n : Nat) (w : World) (hn0 : n0 ≤ w.heap.size) : Calls Tryd.prog 112 #[.int .i64 ((n : Nat) : Int)] w (QbY w (OwnN .u8 5 n0 (by8 ((n : Nat) : Int)))) :=
  (QeQ n w).mono fun e W' hg => by
    obtain ⟨v', e1, e2, e3⟩ := hg
    exact ⟨v', e1, e2, e3.base hn0⟩
theorem QhO (n : Nat) (w : World) : Calls Tryd.prog 86 #[.int .i64 ((n : Nat) : Int)] w (QbY w (OwnN .u8 5 w.heap.size ([0, 0, 0, 0] ++ by8 ((n : Nat) : Int)))) := by
  refine enter 7 [(0, .int .i64 ((n : Nat) : Int))] Tryd.func86 rfl rfl kj rfl ?_
  refine wp_seq_k fun K1 hK1 => ?_
  refine Qab ?_
  refine Qaa (.slice none 0 0) 2 rfl kj kj ?_
  refine Qac ?_
  refine hK1 _ _ ?_
  refine wp_seq_k fun K2 hK2 => ?_
  refine QaS 3 [⟨none, []⟩, ⟨none, [(0, none)]⟩, ⟨none, [(4, some 1)]⟩] kj kj fun F hF => ?_
  refine Qhc (Qaq _) (ints .u8 ([0, 0, 0, 0])) 5 4 (NewS.stable _ _ _ _) kj kj (fun W => by kernel_rfl) ?_
  refine Qa8 (Qaq _) (.int .i64 ((n : Nat) : Int)) kj kj (fun W => by kernel_rfl) ?_
  refine Qdj (Qaq _) (OwnN .u8 5 w.heap.size (by8 ((n : Nat) : Int))) (OwnN.stable _ _ _ _) 112 #[.int .i64 ((n : Nat) : Int)] kj kj (fun W => by kernel_rfl) (fun W hR => (Qhx w.heap.size n _ (Rely.Ext.trans (Qah _) hR).size)) ?_
  refine Qdi (hF _ fun W1 e1 => ?_)
  simp only [List.nil_append, List.cons_append, List.take_succ_cons, List.take_zero, List.drop_succ_cons, List.drop_zero, finE, up]
  intro vv3 hv3 vv4 hv4
  clear hF
  have x1 : Ext w W1 := Ext.tr (Rely.Ext.refl w) e1
  obtain ⟨g3, rfl, l3, r3_1⟩ := hv3
  have b3 : w.heap.size ≤ g3 := Nat.le_trans (Rely.Ext.refl w).size l3
  obtain ⟨a5_, c5_, rfl, -⟩ := id (OwnN.rd hv4)
  have y0_1 : Ext w W1 := (Rely.Ext.trans (Rely.Ext.refl w) e1)
  refine Qci (k := .u8) (T := 5) (xs := [0, 0, 0, 0]) (ys := by8 ((n : Nat) : Int)) (V := w) 1 (.tmp 3) (.tmp 5) 33 rfl kj kj (by decide) 6 rfl kj kj kj (Qcn (xs := [0, 0, 0, 0]) rfl l3 r3_1 (by decide)) (OwnN.rd hv4) (by rw [QbW]; decide) y0_1 fun zn W2 f5 y2 l2 => ?_
  have x2 : Ext w W2 := Ext.low x1 l2 (Rely.Ext.refl w).size
  refine Qaa (zn) 2 rfl kj kj ?_
  refine Qac ?_
  refine hK2 _ _ ?_
  refine wp_ret ?_
  repeat (first | with_reducible refine goR1 ?_ | with_reducible refine goR2 ?_)
  exact (show bodyPost _ _ _ .ret _ _ from ret1 (zn) rfl (Qaz kj) ⟨zn, rfl, x2, OwnN.base (Nat.le_refl _) f5⟩)
theorem Qes (key nonce ctx text : List Int) : (Qcu key nonce ctx text).take ((Qcu key nonce ctx text).length - 16) = mixV (QaB key nonce) 1 text := by
  rw [Qca]; unfold Qcu
  rw [List.take_append_of_le_length (by rw [Qbs]; omega), List.take_of_length_le (by rw [Qbs]; omega)]
theorem QfL (key nonce ctx text : List Int) : (Qcu key nonce ctx text).drop ((Qcu key nonce ctx text).length - 16) = QbX key nonce ctx (mixV (QaB key nonce) 1 text) := by
  rw [Qca]; unfold Qcu
  rw [List.drop_append_of_le_length (by rw [Qbs]; omega), List.drop_of_length_le (by rw [Qbs]; omega), List.nil_append]
theorem Qgv (key nonce ctx text : List Int) (v v2 v3 : Value) (B B2 B3 : Nat) (th tq : TypeId) (w : World) (hh : w.heap[2]? = some (.cells (ints .u32 [1634760805, 857760878, 2036477234, 1797285236]) th)) (hq : w.heap[3]? = some (.cells (ints .i64 [0, 4, 8, 12, 1, 5, 9, 13, 2, 6, 10, 14, 3, 7, 11, 15, 0, 5, 10, 15, 1, 6, 11, 12, 2, 7, 8, 13, 3, 4, 9, 14]) tq)) (hkl : key.length = 32) (hn : RdK .u8 B nonce v w) (hc : RdK .u8 B2 ctx v2 w) (ht : RdK .u8 B3 (Qcu key nonce ctx text) v3 w) (hcb : Qam ctx) (htb : Qam text) (h : nonce.length = 12) (hcl : ctx.length ≤ 1048576) (hxl : text.length ≤ 1048576) :
    Calls Tryd.prog 74 #[.agg (ints .u8 key), v, v2, v3] w (QbY w (MixR w.heap.size text)) := by
  have h1 := Qia key nonce ctx (Qcu key nonce ctx text) v v2 v3 B B2 B3 th tq w hh hq hkl hn hc ht hcb (QeH _ _ _ _) h (by omega) (by rw [Qca]; omega) (by rw [Qca]; omega) (by rw [Qes, QfL])
  rw [Qes, Qhv _ _ _ htb] at h1
  exact h1
end Go.Proofs.YtoiendjhplbjjaaDoor.Ae
end
section
namespace Go.Proofs.YtoiendjhplbjjaaDoor.Ll
open Go Go.RowKit
open Rely Auto Own Sha Sha
set_option linter.unusedVariables false
set_option linter.unusedSimpArgs false
open Cha Ae
theorem Qdr {k : IntKind} {T : TypeId} {base g : Nat} {xs : List Int} {v : Value} {W : World} (h : OwnN k T base xs v W) (hg : g < base) : v.ownBlock ≠ some g := fun e => by
  have := h.ge e
  omega
theorem Qco {k : IntKind} {T : TypeId} {b g : Nat} {xs : List Int} {v : Value} {W W' : World} (h : OwnN k T b xs v W) (q : ExtB g W W') (hn : v.ownBlock ≠ some g) : OwnN k T b xs v W' := h.keep fun k hk => q.2.2.2.2 k (h.lt hk) (fun e => hn (by rw [hk, e]))
theorem run_storeQ {P : Program} {ρ : Operand → Value} {o : Oper} {w : World} (ty : TypeId) (x y : Operand) (g off : Nat) (t : TypeId) (pre post : List (Array Value)) (u v : Value) (hg : w.heap[g]? = some (.cells (cat (pre ++ ([#[u]] ++ post))) t))
    (ho : o.op = .store ty x y) (hx : ρ x = .pointer (some ⟨g, off, none⟩)) (hy : ρ y = v) (hi : (P.info? ty).map (·.size) = some 1) (hp : (cat pre).size = off) (h1 : v.oneCell' = true) (hcs : v.cells = #[v]) :
    (execOp ρ o).run P w = .ok .skip (w.setRow g (cat (pre ++ ([#[v]] ++ post)))) := by
  subst hp
  have hs : Nat.blt (cat pre).size (cat (pre ++ ([#[u]] ++ post))).size = true := by
    have : (cat pre).size < (cat (pre ++ ([#[u]] ++ post))).size := by
      rw [Qa3, Qa3, Array.size_append, Array.size_append]
      have e1 : (cat [#[u]]).size = 1 := rfl
      omega
    simpa using this
  have e : (cat (pre ++ ([#[u]] ++ post))).setIfInBounds (cat pre).size v = cat (pre ++ ([#[v]] ++ post)) := by
    rw [Qa3, Qa3, Qa3, Qa3]
    have e1 : ∀ z, cat [#[z]] = #[z] := fun z => rfl
    rw [e1, e1, Array.setIfInBounds_append_right (Nat.le_refl _), Nat.sub_self, Array.setIfInBounds_append_left (by simp)]
    rfl
  rw [← e]
  exact Qbf ty x y g _ t _ v hg ho hx hy hi hs h1 hcs
theorem i64_w (v : Int) (h : -5000000000 ≤ v ∧ v ≤ 5000000000) : IntKind.i64.wrap v = v := IntWalk.i64_in _ (by omega)
theorem shrB (B j : Nat) (hj : j < 64) : ((B : Nat) : Int).fdiv (2 ^ min ((j : Nat) : Int).toNat IntKind.u64.bits) = ((B / 2 ^ j : Nat) : Int) := by
  rw [show min (((j : Nat) : Int).toNat) IntKind.u64.bits = j by show min (((j : Nat) : Int).toNat) 64 = j; omega]
  rw [Int.fdiv_eq_ediv_of_nonneg _ (Int.le_of_lt (Int.pow_pos (by decide))), Int.natCast_ediv, Int.natCast_pow]
  rfl
theorem andB (m : Nat) (h : m < 18446744073709551616) : bits .and .u64 ((m : Nat) : Int) 1 = ((m % 2 : Nat) : Int) := by
  rw [show (1 : Int) = ((1 : Nat) : Int) from rfl, bits_and_u64_nat m 1 h (by omega), Nat.and_one_is_mod]
theorem orB (a b : Nat) (ha : a < 18446744073709551616) (hb : b < 18446744073709551616) : bits .or .u64 ((a : Nat) : Int) ((b : Nat) : Int) = ((a ||| b : Nat) : Int) := by
  have h := u64_or (a : Int) b (by omega) (by omega) (by omega) (by omega)
  simpa using h
theorem wrapN (m : Nat) : IntKind.u64.wrap ((m : Nat) : Int) = ((m % 18446744073709551616 : Nat) : Int) := by rw [IntKind.wrap_u64]; omega
theorem pow_big (B a : Nat) (h : 64 ≤ a) : B * 2 ^ a % 18446744073709551616 = 0 := by
  obtain ⟨c, rfl⟩ : ∃ c, a = 64 + c := ⟨a - 64, by omega⟩
  rw [Nat.pow_add, ← Nat.mul_assoc, Nat.mul_comm B, Nat.mul_assoc]
  exact Nat.mul_mod_right _ _
theorem shlB (B a : Nat) : IntKind.u64.wrap (((B : Nat) : Int) * 2 ^ min ((a : Nat) : Int).toNat IntKind.u64.bits) = ((B * 2 ^ a % 18446744073709551616 : Nat) : Int) := by
  have e : ∀ c : Nat, ((B : Nat) : Int) * 2 ^ c = ((B * 2 ^ c : Nat) : Int) := fun c => by rw [Int.natCast_mul, Int.natCast_pow]; rfl
  rw [e, wrapN]
  have hm : min (((a : Nat) : Int).toNat) IntKind.u64.bits = min a 64 := by show min (((a : Nat) : Int).toNat) 64 = min a 64; rw [Int.toNat_natCast]
  rw [hm]
  rcases Nat.lt_or_ge a 64 with h | h
  · rw [show min a 64 = a by omega]
  · rw [show min a 64 = 64 by omega, pow_big B 64 (by omega), pow_big B a h]
def chkW (nx : Int) (B : Nat) (n : Int) : Int := if n < 0 ∨ 4294967295 ≤ n then 8 else if 64 < nx - 1 - n then 11 else if nx - 1 - n = 0 ∨ (0 < nx - 1 - n ∧ B / 2 ^ (nx - 1 - n - 1).toNat % 2 = 1) then 7 else 0
def errV (e : Int) : Value := if e = 0 then .nilIface else .iface 60 (.int .i64 e)
set_option maxHeartbeats 4000000 in
theorem highestC (g : Nat) (nx : Int) (B : Nat) (hnx : 0 ≤ nx ∧ nx ≤ 4294967295) (hB : B < 18446744073709551616) (sk rk : List Int) (next : Nat) (hsk : sk.length = 32) (hrk : rk.length = 32) (w : World) (hg : w.heap[g]? = some (.cells (cat [#[.int .i64 nx], #[.int .u64 ((B : Nat) : Int)], ints .u8 (sk), ints .u8 (rk), #[.int .i64 ((next : Nat) : Int)]]) 136)) : Calls Tryd.prog 85 #[.pointer (some ⟨g, 0, none⟩)] w (Ret w (.int .i64 (nx - 1))) := by
  refine enter 8 [(0, .pointer (some ⟨g, 0, none⟩))] Tryd.func85 rfl rfl kj rfl ?_
  refine wp_seq_k fun K2 hK2 => ?_
  refine Qab ?_
  refine Qaa (.int .i64 0) 2 rfl kj kj ?_
  refine Qac ?_
  refine hK2 _ _ ?_
  refine wp_seq_k fun K3 hK3 => ?_
  refine Qab ?_
  refine Qaa (.pointer (some ⟨g, 0, none⟩)) 3 rfl kj kj ?_
  refine Qaa (.pointer (some ⟨g, 0, none⟩)) 4 rfl kj kj ?_
  refine Qaa (.pointer (some ⟨g, 0, none⟩)) 5 rfl kj kj ?_
  refine Qaa (.int .i64 nx) 6 rfl kj (Qae 3 _ g 0 136 _ (.int .i64 nx) _ hg rfl kj (QaD [] [#[.int .i64 nx]] [#[.int .u64 ((B : Nat) : Int)], ints .u8 (sk), ints .u8 (rk), #[.int .i64 ((next : Nat) : Int)]] 0 kj 0 _ rfl) kj) ?_
  refine Qaa (.int .i64 (nx - 1)) 7 rfl kj (Qai (u := .int .i64 (IntKind.i64.wrap (nx - 1))) kj (congrArg (Value.int .i64) (i64_w _ (by omega)))) ?_
  refine Qaa (.int .i64 (nx - 1)) 2 rfl kj kj ?_
  refine Qac ?_
  refine hK3 _ _ ?_
  refine wp_ret ?_
  repeat (first | with_reducible refine goR1 ?_ | with_reducible refine goR2 ?_)
  exact (show bodyPost _ _ _ .ret _ _ from ret1 (.int .i64 (nx - 1)) rfl (Qaz kj) ⟨rfl, (Rely.Ext.refl w)⟩)
set_option maxHeartbeats 4000000 in
theorem check_A (g : Nat) (nx : Int) (B : Nat) (n : Int) (hnx : 0 ≤ nx ∧ nx ≤ 4294967295) (hB : B < 18446744073709551616) (sk rk : List Int) (next : Nat) (hsk : sk.length = 32) (hrk : rk.length = 32) (w : World) (hg : w.heap[g]? = some (.cells (cat [#[.int .i64 nx], #[.int .u64 ((B : Nat) : Int)], ints .u8 (sk), ints .u8 (rk), #[.int .i64 ((next : Nat) : Int)]]) 136)) (hc : n < 0) : Calls Tryd.prog 88 #[.pointer (some ⟨g, 0, none⟩), .int .i64 n] w (Ret w (.iface 60 (.int .i64 8))) := by
  refine enter 38 [(0, .pointer (some ⟨g, 0, none⟩)), (1, .int .i64 n)] Tryd.func88 rfl rfl kj rfl ?_
  refine wp_seq_k fun K2 hK2 => ?_
  refine Qab ?_
  refine Qaa (.nilIface) 4 rfl kj kj ?_
  refine Qac ?_
  refine hK2 _ _ ?_
  refine wp_seq_k fun K3 hK3 => ?_
  refine wp_seq_k fun K4 hK4 => ?_
  refine Qab ?_
  refine Qaa (.int .i64 n) 6 rfl kj kj ?_
  refine Qaa (.bool true) 7 rfl kj (Qai (u := .bool (decide (n < 0))) kj (congrArg Value.bool (decide_eq_true (by omega)))) ?_
  refine Qaa (.bool true) 8 rfl kj kj ?_
  refine Qa0 9 rfl kj ?_
  refine Qa0 10 rfl kj ?_
  refine Qaa (.bool true) 11 rfl kj kj ?_
  refine Qac ?_
  refine hK4 _ _ ?_
  refine cond_true kj ?_
  refine wp_seq_k fun K5 hK5 => ?_
  refine Qab ?_
  refine Qaa (.iface 60 (.int .i64 8)) 12 rfl kj kj ?_
  refine Qaa (.iface 60 (.int .i64 8)) 4 rfl kj kj ?_
  refine Qac ?_
  refine hK5 _ _ ?_
  refine wp_ret ?_
  repeat (first | with_reducible refine goR1 ?_ | with_reducible refine goR2 ?_)
  exact (show bodyPost _ _ _ .ret _ _ from ret1 (.iface 60 (.int .i64 8)) rfl (Qaz kj) ⟨rfl, (Rely.Ext.refl w)⟩)
set_option maxHeartbeats 4000000 in
theorem check_B (g : Nat) (nx : Int) (B : Nat) (n : Int) (hnx : 0 ≤ nx ∧ nx ≤ 4294967295) (hB : B < 18446744073709551616) (sk rk : List Int) (next : Nat) (hsk : sk.length = 32) (hrk : rk.length = 32) (w : World) (hg : w.heap[g]? = some (.cells (cat [#[.int .i64 nx], #[.int .u64 ((B : Nat) : Int)], ints .u8 (sk), ints .u8 (rk), #[.int .i64 ((next : Nat) : Int)]]) 136)) (hc : 4294967295 ≤ n) : Calls Tryd.prog 88 #[.pointer (some ⟨g, 0, none⟩), .int .i64 n] w (Ret w (.iface 60 (.int .i64 8))) := by
  refine enter 38 [(0, .pointer (some ⟨g, 0, none⟩)), (1, .int .i64 n)] Tryd.func88 rfl rfl kj rfl ?_
  refine wp_seq_k fun K2 hK2 => ?_
  refine Qab ?_
  refine Qaa (.nilIface) 4 rfl kj kj ?_
  refine Qac ?_
  refine hK2 _ _ ?_
  refine wp_seq_k fun K3 hK3 => ?_
  refine wp_seq_k fun K4 hK4 => ?_
  refine Qab ?_
  refine Qaa (.int .i64 n) 6 rfl kj kj ?_
  refine Qaa (.bool false) 7 rfl kj (Qai (u := .bool (decide (n < 0))) kj (congrArg Value.bool (decide_eq_false (by omega)))) ?_
  refine Qaa (.bool false) 8 rfl kj kj ?_
  refine Qaa (.int .i64 n) 9 rfl kj kj ?_
  refine Qaa (.bool true) 10 rfl kj (Qai (u := .bool (decide (n ≥ 4294967295))) kj (congrArg Value.bool (decide_eq_true (by omega)))) ?_
  refine Qaa (.bool true) 11 rfl kj kj ?_
  refine Qac ?_
  refine hK4 _ _ ?_
  refine cond_true kj ?_
  refine wp_seq_k fun K5 hK5 => ?_
  refine Qab ?_
  refine Qaa (.iface 60 (.int .i64 8)) 12 rfl kj kj ?_
  refine Qaa (.iface 60 (.int .i64 8)) 4 rfl kj kj ?_
  refine Qac ?_
  refine hK5 _ _ ?_
  refine wp_ret ?_
  repeat (first | with_reducible refine goR1 ?_ | with_reducible refine goR2 ?_)
  exact (show bodyPost _ _ _ .ret _ _ from ret1 (.iface 60 (.int .i64 8)) rfl (Qaz kj) ⟨rfl, (Rely.Ext.refl w)⟩)
set_option maxHeartbeats 4000000 in
theorem check_C (g : Nat) (nx : Int) (B : Nat) (n : Int) (hnx : 0 ≤ nx ∧ nx ≤ 4294967295) (hB : B < 18446744073709551616) (sk rk : List Int) (next : Nat) (hsk : sk.length = 32) (hrk : rk.length = 32) (w : World) (hg : w.heap[g]? = some (.cells (cat [#[.int .i64 nx], #[.int .u64 ((B : Nat) : Int)], ints .u8 (sk), ints .u8 (rk), #[.int .i64 ((next : Nat) : Int)]]) 136)) (hn : 0 ≤ n ∧ n < 4294967295) (hc : 64 < nx - 1 - n) : Calls Tryd.prog 88 #[.pointer (some ⟨g, 0, none⟩), .int .i64 n] w (Ret w (.iface 60 (.int .i64 11))) := by
  refine enter 38 [(0, .pointer (some ⟨g, 0, none⟩)), (1, .int .i64 n)] Tryd.func88 rfl rfl kj rfl ?_
  refine wp_seq_k fun K2 hK2 => ?_
  refine Qab ?_
  refine Qaa (.nilIface) 4 rfl kj kj ?_
  refine Qac ?_
  refine hK2 _ _ ?_
  refine wp_seq_k fun K3 hK3 => ?_
  refine wp_seq_k fun K4 hK4 => ?_
  refine Qab ?_
  refine Qaa (.int .i64 n) 6 rfl kj kj ?_
  refine Qaa (.bool false) 7 rfl kj (Qai (u := .bool (decide (n < 0))) kj (congrArg Value.bool (decide_eq_false (by omega)))) ?_
  refine Qaa (.bool false) 8 rfl kj kj ?_
  refine Qaa (.int .i64 n) 9 rfl kj kj ?_
  refine Qaa (.bool false) 10 rfl kj (Qai (u := .bool (decide (n ≥ 4294967295))) kj (congrArg Value.bool (decide_eq_false (by omega)))) ?_
  refine Qaa (.bool false) 11 rfl kj kj ?_
  refine Qac ?_
  refine hK4 _ _ ?_
  refine cond_false kj ?_
  refine wp_skip ?_
  refine hK3 _ _ ?_
  refine wp_seq_k fun K5 hK5 => ?_
  refine Qab ?_
  refine Qaa (.pointer (some ⟨g, 0, none⟩)) 13 rfl kj kj ?_
  refine Qat (.int .i64 (nx - 1)) 85 #[.pointer (some ⟨g, 0, none⟩)] 14 rfl kj kj (highestC g nx B hnx hB sk rk next hsk hrk _ hg) fun W1 e1 => ?_
  have x1 : Ext w W1 := Ext.tr (Rely.Ext.refl w) e1
  refine Qaa (.int .i64 n) 15 rfl kj kj ?_
  refine Qaa (.int .i64 (nx - 1 - n)) 16 rfl kj (Qai (u := .int .i64 (IntKind.i64.wrap ((nx - 1) - n))) kj (congrArg (Value.int .i64) (i64_w _ (by omega)))) ?_
  refine Qaa (.int .i64 (nx - 1 - n)) 5 rfl kj kj ?_
  refine Qac ?_
  refine hK5 _ _ ?_
  refine wp_seq_k fun K6 hK6 => ?_
  refine wp_seq_k fun K7 hK7 => ?_
  refine Qab ?_
  refine Qaa (.int .i64 (nx - 1 - n)) 17 rfl kj kj ?_
  refine Qaa (.bool true) 18 rfl kj (Qai (u := .bool (decide ((nx - 1 - n) > 64))) kj (congrArg Value.bool (decide_eq_true (by omega)))) ?_
  refine Qac ?_
  refine hK7 _ _ ?_
  refine cond_true kj ?_
  refine wp_seq_k fun K8 hK8 => ?_
  refine Qab ?_
  refine Qaa (.iface 60 (.int .i64 11)) 19 rfl kj kj ?_
  refine Qaa (.iface 60 (.int .i64 11)) 4 rfl kj kj ?_
  refine Qac ?_
  refine hK8 _ _ ?_
  refine wp_ret ?_
  repeat (first | with_reducible refine goR1 ?_ | with_reducible refine goR2 ?_)
  exact (show bodyPost _ _ _ .ret _ _ from ret1 (.iface 60 (.int .i64 11)) rfl (Qaz kj) ⟨rfl, x1⟩)
set_option maxHeartbeats 4000000 in
theorem check_D (g : Nat) (nx : Int) (B : Nat) (n : Int) (hnx : 0 ≤ nx ∧ nx ≤ 4294967295) (hB : B < 18446744073709551616) (sk rk : List Int) (next : Nat) (hsk : sk.length = 32) (hrk : rk.length = 32) (w : World) (hg : w.heap[g]? = some (.cells (cat [#[.int .i64 nx], #[.int .u64 ((B : Nat) : Int)], ints .u8 (sk), ints .u8 (rk), #[.int .i64 ((next : Nat) : Int)]]) 136)) (hn : 0 ≤ n ∧ n < 4294967295) (hc : nx - 1 - n = 0) : Calls Tryd.prog 88 #[.pointer (some ⟨g, 0, none⟩), .int .i64 n] w (Ret w (.iface 60 (.int .i64 7))) := by
  refine enter 38 [(0, .pointer (some ⟨g, 0, none⟩)), (1, .int .i64 n)] Tryd.func88 rfl rfl kj rfl ?_
  refine wp_seq_k fun K2 hK2 => ?_
  refine Qab ?_
  refine Qaa (.nilIface) 4 rfl kj kj ?_
  refine Qac ?_
  refine hK2 _ _ ?_
  refine wp_seq_k fun K3 hK3 => ?_
  refine wp_seq_k fun K4 hK4 => ?_
  refine Qab ?_
  refine Qaa (.int .i64 n) 6 rfl kj kj ?_
  refine Qaa (.bool false) 7 rfl kj (Qai (u := .bool (decide (n < 0))) kj (congrArg Value.bool (decide_eq_false (by omega)))) ?_
  refine Qaa (.bool false) 8 rfl kj kj ?_
  refine Qaa (.int .i64 n) 9 rfl kj kj ?_
  refine Qaa (.bool false) 10 rfl kj (Qai (u := .bool (decide (n ≥ 4294967295))) kj (congrArg Value.bool (decide_eq_false (by omega)))) ?_
  refine Qaa (.bool false) 11 rfl kj kj ?_
  refine Qac ?_
  refine hK4 _ _ ?_
  refine cond_false kj ?_
  refine wp_skip ?_
  refine hK3 _ _ ?_
  refine wp_seq_k fun K5 hK5 => ?_
  refine Qab ?_
  refine Qaa (.pointer (some ⟨g, 0, none⟩)) 13 rfl kj kj ?_
  refine Qat (.int .i64 (nx - 1)) 85 #[.pointer (some ⟨g, 0, none⟩)] 14 rfl kj kj (highestC g nx B hnx hB sk rk next hsk hrk _ hg) fun W1 e1 => ?_
  have x1 : Ext w W1 := Ext.tr (Rely.Ext.refl w) e1
  refine Qaa (.int .i64 n) 15 rfl kj kj ?_
  refine Qaa (.int .i64 (nx - 1 - n)) 16 rfl kj (Qai (u := .int .i64 (IntKind.i64.wrap ((nx - 1) - n))) kj (congrArg (Value.int .i64) (i64_w _ (by omega)))) ?_
  refine Qaa (.int .i64 (nx - 1 - n)) 5 rfl kj kj ?_
  refine Qac ?_
  refine hK5 _ _ ?_
  refine wp_seq_k fun K6 hK6 => ?_
  refine wp_seq_k fun K7 hK7 => ?_
  refine Qab ?_
  refine Qaa (.int .i64 (nx - 1 - n)) 17 rfl kj kj ?_
  refine Qaa (.bool false) 18 rfl kj (Qai (u := .bool (decide ((nx - 1 - n) > 64))) kj (congrArg Value.bool (decide_eq_false (by omega)))) ?_
  refine Qac ?_
  refine hK7 _ _ ?_
  refine cond_false kj ?_
  refine wp_skip ?_
  refine hK6 _ _ ?_
  refine wp_seq_k fun K8 hK8 => ?_
  refine wp_seq_k fun K9 hK9 => ?_
  refine Qab ?_
  refine Qaa (.int .i64 (nx - 1 - n)) 20 rfl kj kj ?_
  refine Qaa (.bool true) 21 rfl kj (Qai (u := .bool (((nx - 1 - n) == 0))) kj (congrArg Value.bool (by simp; omega))) ?_
  refine Qaa (.bool true) 22 rfl kj kj ?_
  refine Qa0 23 rfl kj ?_
  refine Qa0 24 rfl kj ?_
  refine Qa0 25 rfl kj ?_
  refine Qa0 26 rfl kj ?_
  refine Qa0 27 rfl kj ?_
  refine Qa0 28 rfl kj ?_
  refine Qa0 29 rfl kj ?_
  refine Qa0 30 rfl kj ?_
  refine Qa0 31 rfl kj ?_
  refine Qa0 32 rfl kj ?_
  refine Qa0 33 rfl kj ?_
  refine Qa0 34 rfl kj ?_
  refine Qa0 35 rfl kj ?_
  refine Qaa (.bool true) 36 rfl kj kj ?_
  refine Qac ?_
  refine hK9 _ _ ?_
  refine cond_true kj ?_
  refine wp_seq_k fun K10 hK10 => ?_
  refine Qab ?_
  refine Qaa (.iface 60 (.int .i64 7)) 37 rfl kj kj ?_
  refine Qaa (.iface 60 (.int .i64 7)) 4 rfl kj kj ?_
  refine Qac ?_
  refine hK10 _ _ ?_
  refine wp_ret ?_
  repeat (first | with_reducible refine goR1 ?_ | with_reducible refine goR2 ?_)
  exact (show bodyPost _ _ _ .ret _ _ from ret1 (.iface 60 (.int .i64 7)) rfl (Qaz kj) ⟨rfl, x1⟩)
set_option maxHeartbeats 4000000 in
theorem check_E (g : Nat) (nx : Int) (B : Nat) (n : Int) (hnx : 0 ≤ nx ∧ nx ≤ 4294967295) (hB : B < 18446744073709551616) (sk rk : List Int) (next : Nat) (hsk : sk.length = 32) (hrk : rk.length = 32) (w : World) (hg : w.heap[g]? = some (.cells (cat [#[.int .i64 nx], #[.int .u64 ((B : Nat) : Int)], ints .u8 (sk), ints .u8 (rk), #[.int .i64 ((next : Nat) : Int)]]) 136)) (hn : 0 ≤ n ∧ n < 4294967295) (j : Nat) (hj : nx - 1 - n - 1 = (j : Int)) (hj2 : j < 64) (hc : B / 2 ^ j % 2 = 1) : Calls Tryd.prog 88 #[.pointer (some ⟨g, 0, none⟩), .int .i64 n] w (Ret w (.iface 60 (.int .i64 7))) := by
  refine enter 38 [(0, .pointer (some ⟨g, 0, none⟩)), (1, .int .i64 n)] Tryd.func88 rfl rfl kj rfl ?_
  refine wp_seq_k fun K2 hK2 => ?_
  refine Qab ?_
  refine Qaa (.nilIface) 4 rfl kj kj ?_
  refine Qac ?_
  refine hK2 _ _ ?_
  refine wp_seq_k fun K3 hK3 => ?_
  refine wp_seq_k fun K4 hK4 => ?_
  refine Qab ?_
  refine Qaa (.int .i64 n) 6 rfl kj kj ?_
  refine Qaa (.bool false) 7 rfl kj (Qai (u := .bool (decide (n < 0))) kj (congrArg Value.bool (decide_eq_false (by omega)))) ?_
  refine Qaa (.bool false) 8 rfl kj kj ?_
  refine Qaa (.int .i64 n) 9 rfl kj kj ?_
  refine Qaa (.bool false) 10 rfl kj (Qai (u := .bool (decide (n ≥ 4294967295))) kj (congrArg Value.bool (decide_eq_false (by omega)))) ?_
  refine Qaa (.bool false) 11 rfl kj kj ?_
  refine Qac ?_
  refine hK4 _ _ ?_
  refine cond_false kj ?_
  refine wp_skip ?_
  refine hK3 _ _ ?_
  refine wp_seq_k fun K5 hK5 => ?_
  refine Qab ?_
  refine Qaa (.pointer (some ⟨g, 0, none⟩)) 13 rfl kj kj ?_
  refine Qat (.int .i64 (nx - 1)) 85 #[.pointer (some ⟨g, 0, none⟩)] 14 rfl kj kj (highestC g nx B hnx hB sk rk next hsk hrk _ hg) fun W1 e1 => ?_
  have x1 : Ext w W1 := Ext.tr (Rely.Ext.refl w) e1
  refine Qaa (.int .i64 n) 15 rfl kj kj ?_
  refine Qaa (.int .i64 (nx - 1 - n)) 16 rfl kj (Qai (u := .int .i64 (IntKind.i64.wrap ((nx - 1) - n))) kj (congrArg (Value.int .i64) (i64_w _ (by omega)))) ?_
  refine Qaa (.int .i64 (nx - 1 - n)) 5 rfl kj kj ?_
  refine Qac ?_
  refine hK5 _ _ ?_
  refine wp_seq_k fun K6 hK6 => ?_
  refine wp_seq_k fun K7 hK7 => ?_
  refine Qab ?_
  refine Qaa (.int .i64 (nx - 1 - n)) 17 rfl kj kj ?_
  refine Qaa (.bool false) 18 rfl kj (Qai (u := .bool (decide ((nx - 1 - n) > 64))) kj (congrArg Value.bool (decide_eq_false (by omega)))) ?_
  refine Qac ?_
  refine hK7 _ _ ?_
  refine cond_false kj ?_
  refine wp_skip ?_
  refine hK6 _ _ ?_
  refine wp_seq_k fun K8 hK8 => ?_
  refine wp_seq_k fun K9 hK9 => ?_
  refine Qab ?_
  refine Qaa (.int .i64 (nx - 1 - n)) 20 rfl kj kj ?_
  refine Qaa (.bool false) 21 rfl kj (Qai (u := .bool (((nx - 1 - n) == 0))) kj (congrArg Value.bool (by simp; omega))) ?_
  refine Qaa (.bool false) 22 rfl kj kj ?_
  refine Qaa (.int .i64 (nx - 1 - n)) 23 rfl kj kj ?_
  refine Qaa (.bool true) 24 rfl kj (Qai (u := .bool (decide ((nx - 1 - n) > 0))) kj (congrArg Value.bool (decide_eq_true (by omega)))) ?_
  refine Qaa (.bool true) 25 rfl kj kj ?_
  refine Qaa (.pointer (some ⟨g, 0, none⟩)) 26 rfl kj kj ?_
  refine Qaa (.pointer (some ⟨g, 0, none⟩)) 27 rfl kj kj ?_
  refine Qaa (.pointer (some ⟨g, 1, none⟩)) 28 rfl kj kj ?_
  have r1_1 := (Qad hg e1)
  refine Qaa (.int .u64 ((B : Nat) : Int)) 29 rfl kj (Qae 129 _ g 1 136 _ (.int .u64 ((B : Nat) : Int)) _ r1_1 rfl kj (QaD [#[.int .i64 nx]] [#[.int .u64 ((B : Nat) : Int)]] [ints .u8 (sk), ints .u8 (rk), #[.int .i64 ((next : Nat) : Int)]] 1 kj 0 _ rfl) kj) ?_
  refine Qaa (.int .i64 (nx - 1 - n)) 30 rfl kj kj ?_
  refine Qaa (.int .i64 (((j : Nat) : Int))) 31 rfl kj (Qai (u := .int .i64 (IntKind.i64.wrap ((nx - 1 - n) - 1))) kj (congrArg (Value.int .i64) (by rw [hj]; exact i64_w _ (by omega)))) ?_
  refine Qaa (.int .u64 (((B / 2 ^ j : Nat) : Int))) 32 rfl kj (QaJ .shr _ _ _ _ .u64 .i64 _ _ _ rfl kj kj (QcB _ _ _ _ _ _ (by omega) (shrB B j hj2))) ?_
  refine Qaa (.int .u64 (((B / 2 ^ j % 2 : Nat) : Int))) 33 rfl kj (Qai (u := .int .u64 (bits .and .u64 (((B / 2 ^ j : Nat) : Int)) (1))) kj (congrArg (Value.int .u64) (andB _ (Nat.lt_of_le_of_lt (Nat.div_le_self _ _) hB)))) ?_
  refine Qaa (.bool true) 34 rfl kj (Qai (u := .bool ((((B / 2 ^ j % 2 : Nat) : Int) == 1))) kj (congrArg Value.bool (by rw [hc]; rfl))) ?_
  refine Qaa (.bool true) 35 rfl kj kj ?_
  refine Qaa (.bool true) 36 rfl kj kj ?_
  refine Qac ?_
  refine hK9 _ _ ?_
  refine cond_true kj ?_
  refine wp_seq_k fun K10 hK10 => ?_
  refine Qab ?_
  refine Qaa (.iface 60 (.int .i64 7)) 37 rfl kj kj ?_
  refine Qaa (.iface 60 (.int .i64 7)) 4 rfl kj kj ?_
  refine Qac ?_
  refine hK10 _ _ ?_
  refine wp_ret ?_
  repeat (first | with_reducible refine goR1 ?_ | with_reducible refine goR2 ?_)
  exact (show bodyPost _ _ _ .ret _ _ from ret1 (.iface 60 (.int .i64 7)) rfl (Qaz kj) ⟨rfl, x1⟩)
set_option maxHeartbeats 4000000 in
theorem check_F (g : Nat) (nx : Int) (B : Nat) (n : Int) (hnx : 0 ≤ nx ∧ nx ≤ 4294967295) (hB : B < 18446744073709551616) (sk rk : List Int) (next : Nat) (hsk : sk.length = 32) (hrk : rk.length = 32) (w : World) (hg : w.heap[g]? = some (.cells (cat [#[.int .i64 nx], #[.int .u64 ((B : Nat) : Int)], ints .u8 (sk), ints .u8 (rk), #[.int .i64 ((next : Nat) : Int)]]) 136)) (hn : 0 ≤ n ∧ n < 4294967295) (j : Nat) (hj : nx - 1 - n - 1 = (j : Int)) (hj2 : j < 64) (hc : B / 2 ^ j % 2 = 0) : Calls Tryd.prog 88 #[.pointer (some ⟨g, 0, none⟩), .int .i64 n] w (Ret w (.nilIface)) := by
  refine enter 38 [(0, .pointer (some ⟨g, 0, none⟩)), (1, .int .i64 n)] Tryd.func88 rfl rfl kj rfl ?_
  refine wp_seq_k fun K2 hK2 => ?_
  refine Qab ?_
  refine Qaa (.nilIface) 4 rfl kj kj ?_
  refine Qac ?_
  refine hK2 _ _ ?_
  refine wp_seq_k fun K3 hK3 => ?_
  refine wp_seq_k fun K4 hK4 => ?_
  refine Qab ?_
  refine Qaa (.int .i64 n) 6 rfl kj kj ?_
  refine Qaa (.bool false) 7 rfl kj (Qai (u := .bool (decide (n < 0))) kj (congrArg Value.bool (decide_eq_false (by omega)))) ?_
  refine Qaa (.bool false) 8 rfl kj kj ?_
  refine Qaa (.int .i64 n) 9 rfl kj kj ?_
  refine Qaa (.bool false) 10 rfl kj (Qai (u := .bool (decide (n ≥ 4294967295))) kj (congrArg Value.bool (decide_eq_false (by omega)))) ?_
  refine Qaa (.bool false) 11 rfl kj kj ?_
  refine Qac ?_
  refine hK4 _ _ ?_
  refine cond_false kj ?_
  refine wp_skip ?_
  refine hK3 _ _ ?_
  refine wp_seq_k fun K5 hK5 => ?_
  refine Qab ?_
  refine Qaa (.pointer (some ⟨g, 0, none⟩)) 13 rfl kj kj ?_
  refine Qat (.int .i64 (nx - 1)) 85 #[.pointer (some ⟨g, 0, none⟩)] 14 rfl kj kj (highestC g nx B hnx hB sk rk next hsk hrk _ hg) fun W1 e1 => ?_
  have x1 : Ext w W1 := Ext.tr (Rely.Ext.refl w) e1
  refine Qaa (.int .i64 n) 15 rfl kj kj ?_
  refine Qaa (.int .i64 (nx - 1 - n)) 16 rfl kj (Qai (u := .int .i64 (IntKind.i64.wrap ((nx - 1) - n))) kj (congrArg (Value.int .i64) (i64_w _ (by omega)))) ?_
  refine Qaa (.int .i64 (nx - 1 - n)) 5 rfl kj kj ?_
  refine Qac ?_
  refine hK5 _ _ ?_
  refine wp_seq_k fun K6 hK6 => ?_
  refine wp_seq_k fun K7 hK7 => ?_
  refine Qab ?_
  refine Qaa (.int .i64 (nx - 1 - n)) 17 rfl kj kj ?_
  refine Qaa (.bool false) 18 rfl kj (Qai (u := .bool (decide ((nx - 1 - n) > 64))) kj (congrArg Value.bool (decide_eq_false (by omega)))) ?_
  refine Qac ?_
  refine hK7 _ _ ?_
  refine cond_false kj ?_
  refine wp_skip ?_
  refine hK6 _ _ ?_
  refine wp_seq_k fun K8 hK8 => ?_
  refine wp_seq_k fun K9 hK9 => ?_
  refine Qab ?_
  refine Qaa (.int .i64 (nx - 1 - n)) 20 rfl kj kj ?_
  refine Qaa (.bool false) 21 rfl kj (Qai (u := .bool (((nx - 1 - n) == 0))) kj (congrArg Value.bool (by simp; omega))) ?_
  refine Qaa (.bool false) 22 rfl kj kj ?_
  refine Qaa (.int .i64 (nx - 1 - n)) 23 rfl kj kj ?_
  refine Qaa (.bool true) 24 rfl kj (Qai (u := .bool (decide ((nx - 1 - n) > 0))) kj (congrArg Value.bool (decide_eq_true (by omega)))) ?_
  refine Qaa (.bool true) 25 rfl kj kj ?_
  refine Qaa (.pointer (some ⟨g, 0, none⟩)) 26 rfl kj kj ?_
  refine Qaa (.pointer (some ⟨g, 0, none⟩)) 27 rfl kj kj ?_
  refine Qaa (.pointer (some ⟨g, 1, none⟩)) 28 rfl kj kj ?_
  have r1_1 := (Qad hg e1)
  refine Qaa (.int .u64 ((B : Nat) : Int)) 29 rfl kj (Qae 129 _ g 1 136 _ (.int .u64 ((B : Nat) : Int)) _ r1_1 rfl kj (QaD [#[.int .i64 nx]] [#[.int .u64 ((B : Nat) : Int)]] [ints .u8 (sk), ints .u8 (rk), #[.int .i64 ((next : Nat) : Int)]] 1 kj 0 _ rfl) kj) ?_
  refine Qaa (.int .i64 (nx - 1 - n)) 30 rfl kj kj ?_
  refine Qaa (.int .i64 (((j : Nat) : Int))) 31 rfl kj (Qai (u := .int .i64 (IntKind.i64.wrap ((nx - 1 - n) - 1))) kj (congrArg (Value.int .i64) (by rw [hj]; exact i64_w _ (by omega)))) ?_
  refine Qaa (.int .u64 (((B / 2 ^ j : Nat) : Int))) 32 rfl kj (QaJ .shr _ _ _ _ .u64 .i64 _ _ _ rfl kj kj (QcB _ _ _ _ _ _ (by omega) (shrB B j hj2))) ?_
  refine Qaa (.int .u64 (((B / 2 ^ j % 2 : Nat) : Int))) 33 rfl kj (Qai (u := .int .u64 (bits .and .u64 (((B / 2 ^ j : Nat) : Int)) (1))) kj (congrArg (Value.int .u64) (andB _ (Nat.lt_of_le_of_lt (Nat.div_le_self _ _) hB)))) ?_
  refine Qaa (.bool false) 34 rfl kj (Qai (u := .bool ((((B / 2 ^ j % 2 : Nat) : Int) == 1))) kj (congrArg Value.bool (by rw [hc]; rfl))) ?_
  refine Qaa (.bool false) 35 rfl kj kj ?_
  refine Qaa (.bool false) 36 rfl kj kj ?_
  refine Qac ?_
  refine hK9 _ _ ?_
  refine cond_false kj ?_
  refine wp_skip ?_
  refine hK8 _ _ ?_
  refine wp_seq_k fun K10 hK10 => ?_
  refine Qab ?_
  refine Qaa (.nilIface) 4 rfl kj kj ?_
  refine Qac ?_
  refine hK10 _ _ ?_
  refine wp_ret ?_
  repeat (first | with_reducible refine goR1 ?_ | with_reducible refine goR2 ?_)
  exact (show bodyPost _ _ _ .ret _ _ from ret1 (.nilIface) rfl (Qaz kj) ⟨rfl, x1⟩)
set_option maxHeartbeats 4000000 in
theorem check_G (g : Nat) (nx : Int) (B : Nat) (n : Int) (hnx : 0 ≤ nx ∧ nx ≤ 4294967295) (hB : B < 18446744073709551616) (sk rk : List Int) (next : Nat) (hsk : sk.length = 32) (hrk : rk.length = 32) (w : World) (hg : w.heap[g]? = some (.cells (cat [#[.int .i64 nx], #[.int .u64 ((B : Nat) : Int)], ints .u8 (sk), ints .u8 (rk), #[.int .i64 ((next : Nat) : Int)]]) 136)) (hn : 0 ≤ n ∧ n < 4294967295) (hc : nx - 1 - n < 0) : Calls Tryd.prog 88 #[.pointer (some ⟨g, 0, none⟩), .int .i64 n] w (Ret w (.nilIface)) := by
  refine enter 38 [(0, .pointer (some ⟨g, 0, none⟩)), (1, .int .i64 n)] Tryd.func88 rfl rfl kj rfl ?_
  refine wp_seq_k fun K2 hK2 => ?_
  refine Qab ?_
  refine Qaa (.nilIface) 4 rfl kj kj ?_
  refine Qac ?_
  refine hK2 _ _ ?_
  refine wp_seq_k fun K3 hK3 => ?_
  refine wp_seq_k fun K4 hK4 => ?_
  refine Qab ?_
  refine Qaa (.int .i64 n) 6 rfl kj kj ?_
  refine Qaa (.bool false) 7 rfl kj (Qai (u := .bool (decide (n < 0))) kj (congrArg Value.bool (decide_eq_false (by omega)))) ?_
  refine Qaa (.bool false) 8 rfl kj kj ?_
  refine Qaa (.int .i64 n) 9 rfl kj kj ?_
  refine Qaa (.bool false) 10 rfl kj (Qai (u := .bool (decide (n ≥ 4294967295))) kj (congrArg Value.bool (decide_eq_false (by omega)))) ?_
  refine Qaa (.bool false) 11 rfl kj kj ?_
  refine Qac ?_
  refine hK4 _ _ ?_
  refine cond_false kj ?_
  refine wp_skip ?_
  refine hK3 _ _ ?_
  refine wp_seq_k fun K5 hK5 => ?_
  refine Qab ?_
  refine Qaa (.pointer (some ⟨g, 0, none⟩)) 13 rfl kj kj ?_
  refine Qat (.int .i64 (nx - 1)) 85 #[.pointer (some ⟨g, 0, none⟩)] 14 rfl kj kj (highestC g nx B hnx hB sk rk next hsk hrk _ hg) fun W1 e1 => ?_
  have x1 : Ext w W1 := Ext.tr (Rely.Ext.refl w) e1
  refine Qaa (.int .i64 n) 15 rfl kj kj ?_
  refine Qaa (.int .i64 (nx - 1 - n)) 16 rfl kj (Qai (u := .int .i64 (IntKind.i64.wrap ((nx - 1) - n))) kj (congrArg (Value.int .i64) (i64_w _ (by omega)))) ?_
  refine Qaa (.int .i64 (nx - 1 - n)) 5 rfl kj kj ?_
  refine Qac ?_
  refine hK5 _ _ ?_
  refine wp_seq_k fun K6 hK6 => ?_
  refine wp_seq_k fun K7 hK7 => ?_
  refine Qab ?_
  refine Qaa (.int .i64 (nx - 1 - n)) 17 rfl kj kj ?_
  refine Qaa (.bool false) 18 rfl kj (Qai (u := .bool (decide ((nx - 1 - n) > 64))) kj (congrArg Value.bool (decide_eq_false (by omega)))) ?_
  refine Qac ?_
  refine hK7 _ _ ?_
  refine cond_false kj ?_
  refine wp_skip ?_
  refine hK6 _ _ ?_
  refine wp_seq_k fun K8 hK8 => ?_
  refine wp_seq_k fun K9 hK9 => ?_
  refine Qab ?_
  refine Qaa (.int .i64 (nx - 1 - n)) 20 rfl kj kj ?_
  refine Qaa (.bool false) 21 rfl kj (Qai (u := .bool (((nx - 1 - n) == 0))) kj (congrArg Value.bool (by simp; omega))) ?_
  refine Qaa (.bool false) 22 rfl kj kj ?_
  refine Qaa (.int .i64 (nx - 1 - n)) 23 rfl kj kj ?_
  refine Qaa (.bool false) 24 rfl kj (Qai (u := .bool (decide ((nx - 1 - n) > 0))) kj (congrArg Value.bool (decide_eq_false (by omega)))) ?_
  refine Qaa (.bool false) 25 rfl kj kj ?_
  refine Qa0 26 rfl kj ?_
  refine Qa0 27 rfl kj ?_
  refine Qa0 28 rfl kj ?_
  refine Qa0 29 rfl kj ?_
  refine Qa0 30 rfl kj ?_
  refine Qa0 31 rfl kj ?_
  refine Qa0 32 rfl kj ?_
  refine Qa0 33 rfl kj ?_
  refine Qa0 34 rfl kj ?_
  refine Qaa (.bool false) 35 rfl kj kj ?_
  refine Qaa (.bool false) 36 rfl kj kj ?_
  refine Qac ?_
  refine hK9 _ _ ?_
  refine cond_false kj ?_
  refine wp_skip ?_
  refine hK8 _ _ ?_
  refine wp_seq_k fun K10 hK10 => ?_
  refine Qab ?_
  refine Qaa (.nilIface) 4 rfl kj kj ?_
  refine Qac ?_
  refine hK10 _ _ ?_
  refine wp_ret ?_
  repeat (first | with_reducible refine goR1 ?_ | with_reducible refine goR2 ?_)
  exact (show bodyPost _ _ _ .ret _ _ from ret1 (.nilIface) rfl (Qaz kj) ⟨rfl, x1⟩)
theorem checkC (g : Nat) (nx : Int) (B : Nat) (n : Int) (hnx : 0 ≤ nx ∧ nx ≤ 4294967295) (hB : B < 18446744073709551616) (sk rk : List Int) (next : Nat) (hsk : sk.length = 32) (hrk : rk.length = 32) (w : World) (hg : w.heap[g]? = some (.cells (cat [#[.int .i64 nx], #[.int .u64 ((B : Nat) : Int)], ints .u8 (sk), ints .u8 (rk), #[.int .i64 ((next : Nat) : Int)]]) 136)) : Calls Tryd.prog 88 #[.pointer (some ⟨g, 0, none⟩), .int .i64 n] w (Ret w (errV (chkW nx B n))) := by
  unfold chkW
  by_cases h1 : n < 0
  · rw [if_pos (.inl h1)]; exact check_A g nx B n hnx hB sk rk next hsk hrk w hg h1
  by_cases h2 : 4294967295 ≤ n
  · rw [if_pos (.inr h2)]; exact check_B g nx B n hnx hB sk rk next hsk hrk w hg h2
  rw [if_neg (by omega)]
  have hn : 0 ≤ n ∧ n < 4294967295 := by omega
  by_cases h3 : 64 < nx - 1 - n
  · rw [if_pos h3]; exact check_C g nx B n hnx hB sk rk next hsk hrk w hg hn h3
  rw [if_neg h3]
  by_cases h4 : nx - 1 - n = 0
  · rw [if_pos (.inl h4)]; exact check_D g nx B n hnx hB sk rk next hsk hrk w hg hn h4
  by_cases h5 : 0 < nx - 1 - n
  · obtain ⟨j, hj⟩ := Int.eq_ofNat_of_zero_le (show 0 ≤ nx - 1 - n - 1 by omega)
    have hj2 : j < 64 := by omega
    rw [hj, Int.toNat_natCast]
    have hm : B / 2 ^ j % 2 < 2 := Nat.mod_lt _ (by decide)
    by_cases h6 : B / 2 ^ j % 2 = 1
    · rw [if_pos (.inr ⟨h5, h6⟩)]; exact check_E g nx B n hnx hB sk rk next hsk hrk w hg hn j hj hj2 h6
    · rw [if_neg (by rintro (h | h); exact h4 h; exact h6 h.2)]; exact check_F g nx B n hnx hB sk rk next hsk hrk w hg hn j hj hj2 (by omega)
  · rw [if_neg (by rintro (h | h); exact h4 h; exact h5 h.1)]; exact check_G g nx B n hnx hB sk rk next hsk hrk w hg hn (by omega)
theorem errV_ne {e : Int} (h : e ≠ 0) : errV e = .iface 60 (.int .i64 e) := by unfold errV; rw [if_neg h]
theorem errV_nil {e : Int} (h : e = 0) : errV e = .nilIface := by unfold errV; rw [if_pos h]
theorem i64_neg (a b : Int) (h : -5000000000 ≤ a ∧ a ≤ 5000000000) (e : 0 - a = b) : IntKind.i64.wrap (0 - a) = b := by rw [e]; exact i64_w _ (by omega)
theorem pow_lt (j : Nat) (h : j < 64) : 2 ^ j < 18446744073709551616 := Nat.pow_lt_pow_right (by decide) h
theorem shl1 (j : Nat) (h : j < 64) : IntKind.u64.wrap (1 * 2 ^ min ((j : Nat) : Int).toNat IntKind.u64.bits) = ((2 ^ j : Nat) : Int) := by
  have := shlB 1 j
  rw [Nat.one_mul, Nat.mod_eq_of_lt (pow_lt j h)] at this
  exact this
set_option maxHeartbeats 4000000 in
theorem mark_F (g : Nat) (nx : Int) (B : Nat) (n : Int) (hnx : 0 ≤ nx ∧ nx ≤ 4294967295) (hB : B < 18446744073709551616) (sk rk : List Int) (next : Nat) (hsk : sk.length = 32) (hrk : rk.length = 32) (w : World) (hg : w.heap[g]? = some (.cells (cat [#[.int .i64 nx], #[.int .u64 ((B : Nat) : Int)], ints .u8 (sk), ints .u8 (rk), #[.int .i64 ((next : Nat) : Int)]]) 136)) (hc : chkW nx B n = 0) (j : Nat) (hj : nx - 1 - n - 1 = (j : Int)) (hj2 : j < 64) : Calls Tryd.prog 89 #[.pointer (some ⟨g, 0, none⟩), .int .i64 n] w (fun e w' => e = .returned .nilIface ∧ ExtB g w w' ∧ w'.heap[g]? = some (.cells (cat [#[.int .i64 nx], #[.int .u64 ((B ||| 2 ^ j : Nat) : Int)], ints .u8 (sk), ints .u8 (rk), #[.int .i64 ((next : Nat) : Int)]]) 136)) := by
  refine enter 48 [(0, .pointer (some ⟨g, 0, none⟩)), (1, .int .i64 n)] Tryd.func89 rfl rfl kj rfl ?_
  refine wp_seq_k fun K2 hK2 => ?_
  refine Qab ?_
  refine Qaa (.nilIface) 4 rfl kj kj ?_
  refine Qac ?_
  refine hK2 _ _ ?_
  refine wp_seq_k fun K3 hK3 => ?_
  refine wp_seq_k fun K4 hK4 => ?_
  refine Qab ?_
  refine Qaa (.pointer (some ⟨g, 0, none⟩)) 7 rfl kj kj ?_
  refine Qaa (.int .i64 n) 8 rfl kj kj ?_
  refine Qat (.nilIface) 88 #[.pointer (some ⟨g, 0, none⟩), .int .i64 n] 9 rfl kj kj (errV_nil hc ▸ checkC g nx B n hnx hB sk rk next hsk hrk _ hg) fun W1 e1 => ?_
  have x1 : ExtB g w W1 := ExtB.ext (ExtB.refl g w) e1
  refine Qaa (.nilIface) 5 rfl kj kj ?_
  refine Qac ?_
  refine hK4 _ _ ?_
  refine wp_seq_k fun K5 hK5 => ?_
  refine Qab ?_
  refine Qaa (.nilIface) 10 rfl kj kj ?_
  refine Qaa (.bool false) 11 rfl kj kj ?_
  refine Qac ?_
  refine hK5 _ _ ?_
  refine cond_false kj ?_
  refine wp_skip ?_
  refine hK3 _ _ ?_
  refine wp_seq_k fun K6 hK6 => ?_
  refine Qab ?_
  refine Qaa (.int .i64 n) 13 rfl kj kj ?_
  refine Qaa (.pointer (some ⟨g, 0, none⟩)) 14 rfl kj kj ?_
  have r1_1 := (Qad hg e1)
  refine Qat (.int .i64 (nx - 1)) 85 #[.pointer (some ⟨g, 0, none⟩)] 15 rfl kj kj (highestC g nx B hnx hB sk rk next hsk hrk _ r1_1) fun W2 e2 => ?_
  have x2 : ExtB g w W2 := ExtB.ext x1 e2
  refine Qaa (.int .i64 (n - (nx - 1))) 16 rfl kj (Qai (u := .int .i64 (IntKind.i64.wrap (n - (nx - 1)))) kj (congrArg (Value.int .i64) (i64_w _ (by omega)))) ?_
  refine Qaa (.int .i64 (n - (nx - 1))) 6 rfl kj kj ?_
  refine Qac ?_
  refine hK6 _ _ ?_
  refine wp_seq_k fun K7 hK7 => ?_
  refine wp_seq_k fun K8 hK8 => ?_
  refine Qab ?_
  refine Qaa (.int .i64 (n - (nx - 1))) 17 rfl kj kj ?_
  refine Qaa (.bool true) 18 rfl kj (Qai (u := .bool (decide ((n - (nx - 1)) < 0))) kj (congrArg Value.bool (decide_eq_true (by omega)))) ?_
  refine Qac ?_
  refine hK8 _ _ ?_
  refine cond_true kj ?_
  refine wp_seq_k fun K9 hK9 => ?_
  refine Qbe 11 [⟨none, [(0, none)]⟩, ⟨none, [(19, some 0)]⟩, ⟨none, [(20, some 1)]⟩, ⟨none, [(21, some 2)]⟩, ⟨none, [(6, none)]⟩, ⟨none, [(23, some 4)]⟩, ⟨none, [(24, some 5)]⟩, ⟨none, [(25, some 6)]⟩, ⟨none, [(22, some 3), (26, some 7)]⟩, ⟨none, [(19, some 0)]⟩, ⟨none, [(28, some 9)]⟩] kj kj fun F hF => ?_
  refine Qau (.pointer (some ⟨g, 0, none⟩)) kj kj (fun W => by kernel_rfl) ?_
  refine Qau (.pointer (some ⟨g, 0, none⟩)) kj kj (fun W => by kernel_rfl) ?_
  refine Qau (.pointer (some ⟨g, 1, none⟩)) kj kj (fun W => by kernel_rfl) ?_
  have r1_2 := (Qad r1_1 e2)
  refine QaY (.int .u64 ((B : Nat) : Int)) kj kj (fun W hR => (Qae 129 _ g 1 136 _ (.int .u64 ((B : Nat) : Int)) _ (Qad (Qad r1_2 (Qah _)) hR) rfl kj (QaD [#[.int .i64 nx]] [#[.int .u64 ((B : Nat) : Int)]] [ints .u8 (sk), ints .u8 (rk), #[.int .i64 ((next : Nat) : Int)]] 1 kj 0 _ rfl) kj)) ?_
  refine Qau (.int .i64 (n - (nx - 1))) kj kj (fun W => by kernel_rfl) ?_
  refine Qau (.int .i64 (nx - 1 - n)) kj kj (fun W => (Qai (u := .int .i64 (IntKind.i64.wrap (0 - (n - (nx - 1))))) kj (congrArg (Value.int .i64) (i64_neg _ _ (by omega) (by omega))))) ?_
  refine Qau (.int .i64 (((j : Nat) : Int))) kj kj (fun W => (Qai (u := .int .i64 (IntKind.i64.wrap ((nx - 1 - n) - 1))) kj (congrArg (Value.int .i64) (by rw [hj]; exact i64_w _ (by omega))))) ?_
  refine Qau (.int .u64 (((2 ^ j : Nat) : Int))) kj kj (fun W => (QaJ .shl _ _ _ _ .u64 .i64 _ _ _ rfl kj kj (QcC _ _ _ _ _ _ (by omega) (shl1 j hj2)))) ?_
  refine Qau (.int .u64 (((B ||| 2 ^ j : Nat) : Int))) kj kj (fun W => (Qai (u := .int .u64 (bits .or .u64 (((B : Nat) : Int)) (((2 ^ j : Nat) : Int)))) kj (congrArg (Value.int .u64) (orB _ _ hB (pow_lt j hj2))))) ?_
  refine Qau (.pointer (some ⟨g, 0, none⟩)) kj kj (fun W => by kernel_rfl) ?_
  refine Qau (.pointer (some ⟨g, 1, none⟩)) kj kj (fun W => by kernel_rfl) ?_
  refine Qbl (hF _ kj fun W3 e3 => ?_)
  simp only [ups, up, Kn.val, List.take_succ_cons, List.take_zero, List.drop_succ_cons, List.drop_zero, List.nil_append, List.cons_append]
  clear hF
  have x3 : ExtB g w W3 := ExtB.ext x2 e3
  have r1_3 := (Qad r1_2 e3)
  refine Qaj g _ (cat [#[.int .i64 nx], #[.int .u64 (((B ||| 2 ^ j : Nat) : Int))], ints .u8 (sk), ints .u8 (rk), #[.int .i64 ((next : Nat) : Int)]]) 136 r1_3 rfl kj (run_storeQ 129 _ _ g 1 136 [#[.int .i64 nx]] [ints .u8 (sk), ints .u8 (rk), #[.int .i64 ((next : Nat) : Int)]] _ (.int .u64 (((B ||| 2 ^ j : Nat) : Int))) r1_3 rfl kj kj kj kj rfl rfl) fun W4 p4 r1_4 => ?_
  have x4 : ExtB g w W4 := ExtB.puts x3 p4
  refine Qac ?_
  refine hK9 _ _ ?_
  refine wp_seq_k fun K10 hK10 => ?_
  refine Qab ?_
  refine Qaa (.nilIface) 4 rfl kj kj ?_
  refine Qac ?_
  refine hK10 _ _ ?_
  refine wp_ret ?_
  repeat (first | with_reducible refine goR1 ?_ | with_reducible refine goR2 ?_)
  exact (show bodyPost _ _ _ .ret _ _ from ret1 (.nilIface) rfl (Qaz kj) ⟨rfl, x4, r1_4⟩)
set_option maxHeartbeats 4000000 in
theorem mark_G (g : Nat) (nx : Int) (B : Nat) (n : Int) (hnx : 0 ≤ nx ∧ nx ≤ 4294967295) (hB : B < 18446744073709551616) (sk rk : List Int) (next : Nat) (hsk : sk.length = 32) (hrk : rk.length = 32) (w : World) (hg : w.heap[g]? = some (.cells (cat [#[.int .i64 nx], #[.int .u64 ((B : Nat) : Int)], ints .u8 (sk), ints .u8 (rk), #[.int .i64 ((next : Nat) : Int)]]) 136)) (hc : chkW nx B n = 0) (hn : 0 ≤ n ∧ n < 4294967295) (a : Nat) (ha : n - (nx - 1) = (a : Int)) (ha1 : 1 ≤ a) : Calls Tryd.prog 89 #[.pointer (some ⟨g, 0, none⟩), .int .i64 n] w (fun e w' => e = .returned .nilIface ∧ ExtB g w w' ∧ w'.heap[g]? = some (.cells (cat [#[.int .i64 (n + 1)], #[.int .u64 ((B * 2 ^ a % 18446744073709551616 ||| 1 * 2 ^ (a - 1) % 18446744073709551616 : Nat) : Int)], ints .u8 (sk), ints .u8 (rk), #[.int .i64 ((next : Nat) : Int)]]) 136)) := by
  refine enter 48 [(0, .pointer (some ⟨g, 0, none⟩)), (1, .int .i64 n)] Tryd.func89 rfl rfl kj rfl ?_
  refine wp_seq_k fun K2 hK2 => ?_
  refine Qab ?_
  refine Qaa (.nilIface) 4 rfl kj kj ?_
  refine Qac ?_
  refine hK2 _ _ ?_
  refine wp_seq_k fun K3 hK3 => ?_
  refine wp_seq_k fun K4 hK4 => ?_
  refine Qab ?_
  refine Qaa (.pointer (some ⟨g, 0, none⟩)) 7 rfl kj kj ?_
  refine Qaa (.int .i64 n) 8 rfl kj kj ?_
  refine Qat (.nilIface) 88 #[.pointer (some ⟨g, 0, none⟩), .int .i64 n] 9 rfl kj kj (errV_nil hc ▸ checkC g nx B n hnx hB sk rk next hsk hrk _ hg) fun W1 e1 => ?_
  have x1 : ExtB g w W1 := ExtB.ext (ExtB.refl g w) e1
  refine Qaa (.nilIface) 5 rfl kj kj ?_
  refine Qac ?_
  refine hK4 _ _ ?_
  refine wp_seq_k fun K5 hK5 => ?_
  refine Qab ?_
  refine Qaa (.nilIface) 10 rfl kj kj ?_
  refine Qaa (.bool false) 11 rfl kj kj ?_
  refine Qac ?_
  refine hK5 _ _ ?_
  refine cond_false kj ?_
  refine wp_skip ?_
  refine hK3 _ _ ?_
  refine wp_seq_k fun K6 hK6 => ?_
  refine Qab ?_
  refine Qaa (.int .i64 n) 13 rfl kj kj ?_
  refine Qaa (.pointer (some ⟨g, 0, none⟩)) 14 rfl kj kj ?_
  have r1_1 := (Qad hg e1)
  refine Qat (.int .i64 (nx - 1)) 85 #[.pointer (some ⟨g, 0, none⟩)] 15 rfl kj kj (highestC g nx B hnx hB sk rk next hsk hrk _ r1_1) fun W2 e2 => ?_
  have x2 : ExtB g w W2 := ExtB.ext x1 e2
  refine Qaa (.int .i64 (((a : Nat) : Int))) 16 rfl kj (Qai (u := .int .i64 (IntKind.i64.wrap (n - (nx - 1)))) kj (congrArg (Value.int .i64) (by rw [ha]; exact i64_w _ (by omega)))) ?_
  refine Qaa (.int .i64 (((a : Nat) : Int))) 6 rfl kj kj ?_
  refine Qac ?_
  refine hK6 _ _ ?_
  refine wp_seq_k fun K7 hK7 => ?_
  refine wp_seq_k fun K8 hK8 => ?_
  refine Qab ?_
  refine Qaa (.int .i64 (((a : Nat) : Int))) 17 rfl kj kj ?_
  refine Qaa (.bool false) 18 rfl kj (Qai (u := .bool (decide (((a : Nat) : Int) < 0))) kj (congrArg Value.bool (decide_eq_false (by omega)))) ?_
  refine Qac ?_
  refine hK8 _ _ ?_
  refine cond_false kj ?_
  refine wp_skip ?_
  refine hK7 _ _ ?_
  refine wp_seq_k fun K9 hK9 => ?_
  refine Qbe 13 [⟨none, [(0, none)]⟩, ⟨none, [(0, none)]⟩, ⟨none, [(31, some 1)]⟩, ⟨none, [(32, some 2)]⟩, ⟨none, [(33, some 3)]⟩, ⟨none, [(6, none)]⟩, ⟨none, [(34, some 4), (35, some 5)]⟩, ⟨none, [(6, none)]⟩, ⟨none, [(37, some 7)]⟩, ⟨none, [(38, some 8)]⟩, ⟨none, [(36, some 6), (39, some 9)]⟩, ⟨none, [(30, some 0)]⟩, ⟨none, [(41, some 11)]⟩] kj kj fun F hF => ?_
  refine Qau (.pointer (some ⟨g, 0, none⟩)) kj kj (fun W => by kernel_rfl) ?_
  refine Qau (.pointer (some ⟨g, 0, none⟩)) kj kj (fun W => by kernel_rfl) ?_
  refine Qau (.pointer (some ⟨g, 0, none⟩)) kj kj (fun W => by kernel_rfl) ?_
  refine Qau (.pointer (some ⟨g, 1, none⟩)) kj kj (fun W => by kernel_rfl) ?_
  have r1_2 := (Qad r1_1 e2)
  refine QaY (.int .u64 ((B : Nat) : Int)) kj kj (fun W hR => (Qae 129 _ g 1 136 _ (.int .u64 ((B : Nat) : Int)) _ (Qad (Qad r1_2 (Qah _)) hR) rfl kj (QaD [#[.int .i64 nx]] [#[.int .u64 ((B : Nat) : Int)]] [ints .u8 (sk), ints .u8 (rk), #[.int .i64 ((next : Nat) : Int)]] 1 kj 0 _ rfl) kj)) ?_
  refine Qau (.int .i64 (((a : Nat) : Int))) kj kj (fun W => by kernel_rfl) ?_
  refine Qau (.int .u64 (((B * 2 ^ a % 18446744073709551616 : Nat) : Int))) kj kj (fun W => (QaJ .shl _ _ _ _ .u64 .i64 _ _ _ rfl kj kj (QcC _ _ _ _ _ _ (by omega) (shlB B a)))) ?_
  refine Qau (.int .i64 (((a : Nat) : Int))) kj kj (fun W => by kernel_rfl) ?_
  refine Qau (.int .i64 (((a - 1 : Nat) : Int))) kj kj (fun W => (Qai (u := .int .i64 (IntKind.i64.wrap (((a : Nat) : Int) - 1))) kj (congrArg (Value.int .i64) (by rw [show ((a - 1 : Nat) : Int) = (a : Int) - 1 by omega]; exact i64_w _ (by omega))))) ?_
  refine Qau (.int .u64 (((1 * 2 ^ (a - 1) % 18446744073709551616 : Nat) : Int))) kj kj (fun W => (QaJ .shl _ _ _ _ .u64 .i64 _ _ _ rfl kj kj (QcC _ _ _ _ _ _ (by omega) (shlB 1 (a - 1))))) ?_
  refine Qau (.int .u64 (((B * 2 ^ a % 18446744073709551616 ||| 1 * 2 ^ (a - 1) % 18446744073709551616 : Nat) : Int))) kj kj (fun W => (Qai (u := .int .u64 (bits .or .u64 (((B * 2 ^ a % 18446744073709551616 : Nat) : Int)) (((1 * 2 ^ (a - 1) % 18446744073709551616 : Nat) : Int)))) kj (congrArg (Value.int .u64) (orB _ _ (Nat.mod_lt _ (by decide)) (Nat.mod_lt _ (by decide)))))) ?_
  refine Qau (.pointer (some ⟨g, 0, none⟩)) kj kj (fun W => by kernel_rfl) ?_
  refine Qau (.pointer (some ⟨g, 1, none⟩)) kj kj (fun W => by kernel_rfl) ?_
  refine Qbl (hF _ kj fun W3 e3 => ?_)
  simp only [ups, up, Kn.val, List.take_succ_cons, List.take_zero, List.drop_succ_cons, List.drop_zero, List.nil_append, List.cons_append]
  clear hF
  have x3 : ExtB g w W3 := ExtB.ext x2 e3
  have r1_3 := (Qad r1_2 e3)
  refine Qaj g _ (cat [#[.int .i64 nx], #[.int .u64 (((B * 2 ^ a % 18446744073709551616 ||| 1 * 2 ^ (a - 1) % 18446744073709551616 : Nat) : Int))], ints .u8 (sk), ints .u8 (rk), #[.int .i64 ((next : Nat) : Int)]]) 136 r1_3 rfl kj (run_storeQ 129 _ _ g 1 136 [#[.int .i64 nx]] [ints .u8 (sk), ints .u8 (rk), #[.int .i64 ((next : Nat) : Int)]] _ (.int .u64 (((B * 2 ^ a % 18446744073709551616 ||| 1 * 2 ^ (a - 1) % 18446744073709551616 : Nat) : Int))) r1_3 rfl kj kj kj kj rfl rfl) fun W4 p4 r1_4 => ?_
  have x4 : ExtB g w W4 := ExtB.puts x3 p4
  refine Qac ?_
  refine hK9 _ _ ?_
  refine wp_seq_k fun K10 hK10 => ?_
  refine Qab ?_
  refine Qaa (.pointer (some ⟨g, 0, none⟩)) 43 rfl kj kj ?_
  refine Qaa (.int .i64 n) 44 rfl kj kj ?_
  refine Qaa (.int .i64 (n + 1)) 45 rfl kj (Qai (u := .int .i64 (IntKind.i64.wrap (n + 1))) kj (congrArg (Value.int .i64) (i64_w _ (by omega)))) ?_
  refine Qaa (.pointer (some ⟨g, 0, none⟩)) 46 rfl kj kj ?_
  refine Qaa (.pointer (some ⟨g, 0, none⟩)) 47 rfl kj kj ?_
  refine Qaj g _ (cat [#[.int .i64 (n + 1)], #[.int .u64 (((B * 2 ^ a % 18446744073709551616 ||| 1 * 2 ^ (a - 1) % 18446744073709551616 : Nat) : Int))], ints .u8 (sk), ints .u8 (rk), #[.int .i64 ((next : Nat) : Int)]]) 136 r1_4 rfl kj (run_storeQ 3 _ _ g 0 136 [] [#[.int .u64 (((B * 2 ^ a % 18446744073709551616 ||| 1 * 2 ^ (a - 1) % 18446744073709551616 : Nat) : Int))], ints .u8 (sk), ints .u8 (rk), #[.int .i64 ((next : Nat) : Int)]] _ (.int .i64 (n + 1)) r1_4 rfl kj kj kj kj rfl rfl) fun W5 p5 r1_5 => ?_
  have x5 : ExtB g w W5 := ExtB.puts x4 p5
  refine Qac ?_
  refine hK10 _ _ ?_
  refine wp_seq_k fun K11 hK11 => ?_
  refine Qab ?_
  refine Qaa (.nilIface) 4 rfl kj kj ?_
  refine Qac ?_
  refine hK11 _ _ ?_
  refine wp_ret ?_
  repeat (first | with_reducible refine goR1 ?_ | with_reducible refine goR2 ?_)
  exact (show bodyPost _ _ _ .ret _ _ from ret1 (.nilIface) rfl (Qaz kj) ⟨rfl, x5, r1_5⟩)
end Go.Proofs.YtoiendjhplbjjaaDoor.Ll
end
section
namespace Go.Proofs.YtoiendjhplbjjaaDoor.Ll
open Go Go.RowKit
open Rely Auto Own Sha Sha
set_option linter.unusedVariables false
set_option linter.unusedSimpArgs false
def hiT (ts : List Int) : Int := ts.foldl (fun a x => if x > a then x else a) (-1)
theorem QcW (ts : List Int) (m : Int) : hiT (ts ++ [m]) = if m > hiT ts then m else hiT ts := by unfold hiT; rw [List.foldl_append]; rfl
theorem Qhb (ts : List Int) : ∀ m ∈ ts, m ≤ hiT ts := by
  suffices h : ∀ (r : List Int), (∀ m ∈ r.reverse, m ≤ hiT r.reverse) by have := h ts.reverse; rwa [List.reverse_reverse] at this
  intro r
  induction r with
  | nil => intro m h; cases h
  | cons x r ih =>
    intro m h
    rw [List.reverse_cons] at h ⊢
    rw [QcW]
    rcases List.mem_append.1 h with h | h
    · have := ih m h; split <;> omega
    · have : m = x := by simpa using h
      subst this; split <;> omega
theorem Qgl (ts : List Int) : hiT ts = -1 ∨ hiT ts ∈ ts := by
  suffices h : ∀ (r : List Int), (hiT r.reverse = -1 ∨ hiT r.reverse ∈ r.reverse) by have := h ts.reverse; rwa [List.reverse_reverse] at this
  intro r
  induction r with
  | nil => exact .inl rfl
  | cons x r ih =>
    rw [List.reverse_cons, QcW]
    split
    · exact .inr (by simp)
    · rcases ih with h | h
      · exact .inl h
      · exact .inr (List.mem_append_left _ h)
def chkT (ts : List Int) (n : Int) : Int := if n < 0 ∨ 4294967294 < n then 8 else if n < hiT ts - 64 then 11 else if n ∈ ts then 7 else 0
structure WInv (nx : Int) (B : Nat) (ts : List Int) : Prop where
  hnx : 0 ≤ nx ∧ nx ≤ 4294967295
  hB : B < 18446744073709551616
  hhi : hiT ts = nx - 1
  hrng : ∀ m ∈ ts, 0 ≤ m ∧ m < 4294967295
  hbits : ∀ k : Nat, k < 64 → 0 ≤ nx - 2 - k → (B.testBit k = true ↔ (nx - 2 - k) ∈ ts)
theorem Qe8 : WInv 0 0 [] := ⟨by omega, by decide, rfl, (fun m h => by cases h), (fun k hk h => by omega)⟩
theorem Qhd (B k : Nat) : B / 2 ^ k % 2 = 1 ↔ B.testBit k = true := by rw [Nat.testBit_eq_decide_div_mod_eq]; simp
theorem Qei {nx : Int} {B : Nat} {ts : List Int} (h : WInv nx B ts) (n : Int) : chkW nx B n = chkT ts n := by
  have hh := h.hhi
  unfold chkW chkT
  by_cases h1 : n < 0 ∨ 4294967295 ≤ n
  · rw [if_pos h1, if_pos (by omega)]
  · rw [if_neg h1, if_neg (show ¬ (n < 0 ∨ 4294967294 < n) by omega), hh]
    by_cases h2 : 64 < nx - 1 - n
    · rw [if_pos h2, if_pos (by omega)]
    · rw [if_neg h2, if_neg (show ¬ n < nx - 1 - 64 by omega)]
      by_cases h3 : n ∈ ts
      · have hle := Qhb ts n h3
        rw [if_pos h3, if_pos ?_]
        by_cases h4 : nx - 1 - n = 0
        · exact .inl h4
        · refine .inr ⟨by omega, ?_⟩
          obtain ⟨j, hj⟩ := Int.eq_ofNat_of_zero_le (show 0 ≤ nx - 1 - n - 1 by omega)
          rw [hj, Int.toNat_natCast, Qhd, h.hbits j (by omega) (by omega), show nx - 2 - (j : Int) = n by omega]
          exact h3
      · rw [if_neg h3, if_neg ?_]
        rintro (h4 | ⟨h4, h5⟩)
        · rcases Qgl ts with h6 | h6
          · omega
          · exact h3 (by rw [show n = hiT ts by omega]; exact h6)
        · obtain ⟨j, hj⟩ := Int.eq_ofNat_of_zero_le (show 0 ≤ nx - 1 - n - 1 by omega)
          rw [hj, Int.toNat_natCast, Qhd, h.hbits j (by omega) (by omega), show nx - 2 - (j : Int) = n by omega] at h5
          exact h3 h5
theorem Qeh {ts : List Int} {n : Int} (h : chkT ts n = 0) : 0 ≤ n ∧ n < 4294967295 ∧ hiT ts - 64 ≤ n ∧ n ∉ ts := by
  unfold chkT at h
  split at h
  · omega
  · split at h
    · omega
    · split at h
      · omega
      · exact ⟨by omega, by omega, by omega, by assumption⟩
theorem QhL (a b : Nat) (ha : a < 18446744073709551616) (hb : b < 18446744073709551616) : a ||| b < 18446744073709551616 := Nat.or_lt_two_pow (n := 64) ha hb
theorem Qio {nx : Int} {B : Nat} {ts : List Int} (h : WInv nx B ts) {n : Int} (hc : chkT ts n = 0) (j : Nat) (hj : nx - 1 - n - 1 = (j : Int)) (hj2 : j < 64) : WInv nx (B ||| 2 ^ j) (ts ++ [n]) := by
  obtain ⟨h0, h1, h2, h3⟩ := Qeh hc
  have hh := h.hhi
  refine ⟨h.hnx, QhL _ _ h.hB (pow_lt j hj2), by rw [QcW, if_neg (by omega)]; exact hh, fun m hm => ?_, fun k hk hp => ?_⟩
  · rcases List.mem_append.1 hm with hm | hm
    · exact h.hrng m hm
    · have : m = n := by simpa using hm
      omega
  · rw [Nat.testBit_or, Nat.testBit_two_pow, Bool.or_eq_true, h.hbits k hk hp, List.mem_append]
    constructor
    · rintro (e | e)
      · exact .inl e
      · have : j = k := by simpa using e
        exact .inr (by simp; omega)
    · rintro (e | e)
      · exact .inl e
      · have : nx - 2 - (k : Int) = n := by simpa using e
        exact .inr (by simp; omega)
theorem Qin {nx : Int} {B : Nat} {ts : List Int} (h : WInv nx B ts) {n : Int} (hc : chkT ts n = 0) (a : Nat) (ha : n - (nx - 1) = (a : Int)) (ha1 : 1 ≤ a) :
    WInv (n + 1) (B * 2 ^ a % 18446744073709551616 ||| 1 * 2 ^ (a - 1) % 18446744073709551616) (ts ++ [n]) := by
  obtain ⟨h0, h1, h2, h3⟩ := Qeh hc
  have hh := h.hhi
  have hn := h.hnx
  refine ⟨by omega, QhL _ _ (Nat.mod_lt _ (by decide)) (Nat.mod_lt _ (by decide)), by rw [QcW, if_pos (by omega)]; omega, fun m hm => ?_, fun k hk hp => ?_⟩
  · rcases List.mem_append.1 hm with hm | hm
    · exact h.hrng m hm
    · have : m = n := by simpa using hm
      omega
  · have e64 : (18446744073709551616 : Nat) = 2 ^ 64 := by decide
    rw [Nat.testBit_or, e64, Nat.testBit_mod_two_pow, Nat.testBit_mod_two_pow, Nat.one_mul, Nat.testBit_two_pow, Nat.mul_comm B, Nat.testBit_two_pow_mul, List.mem_append]
    simp only [hk, decide_true, Bool.true_and, Bool.or_eq_true, Bool.and_eq_true, decide_eq_true_eq, List.mem_singleton, ge_iff_le]
    have hne : ¬ (n + 1 - 2 - (k : Int) = n) := by omega
    constructor
    · rintro (⟨e1, e2⟩ | e)
      · left
        rw [h.hbits (k - a) (by omega) (by omega)] at e2
        rwa [show n + 1 - 2 - (k : Int) = nx - 2 - ((k - a : Nat) : Int) by omega]
      · left
        have : n + 1 - 2 - (k : Int) = hiT ts := by omega
        rw [this]
        exact (Qgl ts).resolve_left (by omega)
    · rintro (e | e)
      · have hle := Qhb ts _ e
        by_cases hk2 : a ≤ k
        · left
          refine ⟨hk2, ?_⟩
          rw [h.hbits (k - a) (by omega) (by omega)]
          rwa [show nx - 2 - ((k - a : Nat) : Int) = n + 1 - 2 - (k : Int) by omega]
        · right; omega
      · exact absurd e hne
end Go.Proofs.YtoiendjhplbjjaaDoor.Ll
end
section
namespace Go.Proofs.YtoiendjhplbjjaaDoor.Ll
open Go Go.RowKit
open Rely Auto Own Sha Sha
set_option linter.unusedVariables false
set_option linter.unusedSimpArgs false
open Cha Ae
theorem Qfo (pl : Nat → Option (Nat × Nat)) : ∀ (ps : List (Nat × Nat × Value × Array Value)) (pre : List (Array Value)) (rest : Array Value) (off : Nat), (cat pre).size = off → okPl pl off ps → tot ps ≤ rest.size →
    Instr.fill pl (cat pre ++ rest) (ps.map fun x => (x.1, x.2.2.1)) = some (cat (pre ++ ps.map fun x => x.2.2.2) ++ rest.extract (tot ps) rest.size)
  | [], pre, rest, off, _, _, ht => by
    simp [Instr.fill, tot]
  | (i, n, v, p) :: r, pre, rest, off, hoff, ⟨h1, h2, h3, h4⟩, ht => by
    subst h2
    have hn : n ≤ rest.size := by rw [tot] at ht; omega
    simp only [List.map_cons, Instr.fill, h1, h3]
    rw [if_neg (by simp; omega)]
    have hz : (v.cells.zipIdx.foldl (fun cs (x : Value × Nat) => cs.setIfInBounds (off + x.2) x.1) (cat pre ++ rest)) = cat (pre ++ [v.cells]) ++ rest.extract n rest.size := by
      have e1 : v.cells.zipIdx = (v.cells.toList.zipIdx 0).toArray := by
        apply Array.ext'
        simp
      rw [e1, List.foldl_toArray', Qdt]
      · have e2 : rest = rest.extract 0 n ++ rest.extract n rest.size := by
          rw [Array.extract_append_extract, Nat.max_eq_right hn]
          simp
        have e3 : (cat pre ++ rest) = cat (pre ++ ([rest.extract 0 n] ++ [rest.extract n rest.size])) := by
          rw [Qa3]
          congr 1
        rw [Nat.add_zero, e3]
        have := QdS pre [rest.extract 0 n] [v.cells] [rest.extract n rest.size] off hoff (by show v.cells.size = (rest.extract 0 n).size; simp; omega)
        rw [show (cat [v.cells]).toList = v.cells.toList from rfl] at this
        rw [this, ← List.append_assoc, Qa3 (pre ++ [v.cells])]
        rfl
      · rfl
    have key := Qfo pl r (pre ++ [v.cells]) (rest.extract n rest.size) (off + n) (by rw [Qa3]; show (cat pre ++ v.cells).size = _; simp; omega) h4 (by rw [tot] at ht; simp; omega)
    rw [← hz] at key
    rw [List.append_assoc] at key
    rw [key, tot]
    congr 2
    rw [Array.extract_extract]
    simp
    congr 1
    rw [tot] at ht
    omega
theorem Qf0 {P : Program} {ρ : Operand → Value} {o : Oper} {w : World} (t : TypeId) (parts : Array (Nat × Operand)) (z : Value) (places : Array (Nat × Nat)) (off : Nat) (pre : List (Array Value)) (rest0 : Array Value) (ps : List (Nat × Nat × Value × Array Value)) (rest : List (Array Value))
    (ho : o.op = .build t parts) (hv : (parts.map fun (i, x) => (i, ρ x)).toList = ps.map fun x => (x.1, x.2.2.1)) (hoff : (cat pre).size = off) (hp : okPl (fun i => places[i]?) off ps) (hz0 : z.cells = cat pre ++ rest0) (ht : tot ps ≤ rest0.size) (hr : rest0.extract (tot ps) rest0.size = cat rest)
    (hz : (zeroValue t).run P w = .ok z w) (hu : P.underlying t = some (.struct (P.fieldsOf t))) (hm : ((P.fieldsOf t).mapM fun f => do pure (f.offset, ← sizeOf f.type) : Sem (Array (Nat × Nat))).run P w = .ok places w) :
    (execOp ρ o).run P w = .ok (.value (.agg (cat (pre ++ (ps.map fun x => x.2.2.2) ++ rest)))) w := by
  have := Qfo (fun i => places[i]?) ps pre rest0 off hoff hp ht
  rw [← hz0, hr, ← Qa3] at this
  rw [← hv] at this
  have hB : (Instr.build t (parts.map fun (i, x) => (i, ρ x))).run P w = .ok (.agg (cat (pre ++ (ps.map fun x => x.2.2.2) ++ rest))) w := by
    unfold Instr.build
    rw [Sem.run_bind, hz, Result.andThen_ok, Sem.run_bind, run_underlying hu w, Result.andThen_ok]
    show (Sem.run P _ w) = _
    rw [Sem.run_bind, hm, Result.andThen_ok]
    simp only [this]
    rfl
  unfold execOp
  simp only [ho, Sem.run_bind, hB, Result.andThen_ok, Sem.run_pure]
theorem shrN (a : Nat) (s : Int) (c : Nat) (h : (2 : Int) ^ min s.toNat IntKind.i64.bits = (c : Int)) : ((a : Nat) : Int).fdiv (2 ^ min s.toNat IntKind.i64.bits) = ((a / c : Nat) : Int) := by
  rw [h, Int.fdiv_eq_ediv_of_nonneg _ (Int.natCast_nonneg _), Int.natCast_ediv]
theorem QgK (a : Nat) : IntKind.u8.wrap ((a : Nat) : Int) = ((a % 256 : Nat) : Int) := by
  have h3 : ∀ z : Int, IntKind.u8.wrap z = z % 256 := fun _ => rfl
  rw [h3]; omega
def hdV (n : Nat) : List Int := [((n / 16777216 % 256 : Nat) : Int), ((n / 65536 % 256 : Nat) : Int), ((n / 256 % 256 : Nat) : Int), ((n % 256 : Nat) : Int)]
theorem QcK (n : Nat) : (hdV n).length = 4 := rfl
theorem QeB (n : Nat) : Qam (hdV n) := fun x hx => by
  unfold hdV at hx
  simp only [List.mem_cons, List.not_mem_nil, or_false] at hx
  rcases hx with rfl | rfl | rfl | rfl <;> omega
def nonV (n : Nat) : List Int := [0, 0, 0, 0] ++ by8 ((n : Nat) : Int)
theorem Qfe (n : Nat) : (nonV n).length = 12 := by unfold nonV; rw [List.length_append, QbW]; rfl
def msgV (k : List Int) (n : Nat) (text : List Int) : List Int := hdV n ++ Qcu k (nonV n) (hdV n) text
theorem Qed (k : List Int) (n : Nat) (text : List Int) : (msgV k n text).length = text.length + 20 := by unfold msgV; rw [List.length_append, Qca, QcK]; omega
theorem QgY (n0 n : Nat) (w : World) (h0 : n0 ≤ w.heap.size) : Calls Tryd.prog 86 #[.int .i64 ((n : Nat) : Int)] w (QbY w (OwnN .u8 5 n0 (nonV n))) :=
  (QhO n w).mono fun e W' hg => by
    obtain ⟨v', e1, e2, e3⟩ := hg
    exact ⟨v', e1, e2, e3.base h0⟩
theorem Qea (a b c : Nat) (hb : b < 256) (hc : a * 256 + b = c) (hs : c < 4611686018427387904) : bits .or .i64 ((a * 256 : Nat) : Int) ((b : Nat) : Int) = ((c : Nat) : Int) := by
  have h : bits .or .i64 ((a * 256 : Nat) : Int) ((b : Nat) : Int) = IntKind.i64.wrap (((BitVec.ofInt 64 ((a * 256 : Nat) : Int)) ||| (BitVec.ofInt 64 ((b : Nat) : Int))).toNat : Int) := rfl
  rw [h, BitVec.toNat_or, BitVec.toNat_ofInt, BitVec.toNat_ofInt]
  have e1 : (((a * 256 : Nat) : Int) % ((2 ^ 64 : Nat) : Int)).toNat = 2 ^ 8 * a := by omega
  have e2 : (((b : Nat) : Int) % ((2 ^ 64 : Nat) : Int)).toNat = b := by omega
  rw [e1, e2, ← Nat.two_pow_add_eq_or_of_lt (i := 8) (by omega) a, show 2 ^ 8 * a + b = c by omega]
  exact IntWalk.i64_in _ (by omega)
theorem QcO (a : Nat) (h : a * 256 < 4611686018427387904) : IntKind.i64.wrap (((a : Nat) : Int) * 2 ^ min (8 : Int).toNat IntKind.i64.bits) = ((a * 256 : Nat) : Int) := by
  rw [show (2 : Int) ^ min (8 : Int).toNat IntKind.i64.bits = 256 by decide]
  exact (IntWalk.i64_in _ (by omega)).trans (by omega)
theorem rdKT {k : IntKind} {B n c l : Nat} {ys tk : List Int} {a : Option Addr} {W : World} (et : ys.take l = tk) (h : RdK k B ys (.slice a n c) W) (hl : l ≤ ys.length) : RdK k B tk (.slice a l c) W := et ▸ QdZ h l hl
theorem rdKD {k : IntKind} {B n c l : Nat} {ys tk : List Int} {a : Option Addr} {W : World} (et : ys.drop l = tk) (h : RdK k B ys (.slice a n c) W) (hl : l ≤ ys.length) : RdK k B tk (.slice (Qck a c l) (n - l) (c - l)) W := et ▸ Qd0 h l hl
section
variable {ds : List Deferred} {P : Program} {ops : Array Oper} {Q : Exit → Act → World → Prop} {rest : List Oper} {o : Oper} {N : Nat} {L : Env} {W : World}
theorem QeG {k : IntKind} {T : TypeId} (base b : Nat) (s x : Operand) (t : TypeId) (ho : o.op = .call { callee := .builtin .append, args := #[s, x], argTypes := #[t, t] })
    (ht : P.underlying t = some (.slice T)) (hi : (P.info? T).map (fun i => (i.zero, i.size, i.bytes)) = some (some (.int k 0), 1, b)) (hb8 : b ≤ 8) (d : Nat) (hd : o.dst = some d) (hg : QbH ops o N L = some true) {B : Nat} {v y : Value} {xs ys : List Int}
    (hs : Rely.look (envN N L) s = v) (hx : Rely.look (envN N L) x = y)
    (h : OwnN k T base xs v W) (hy : RdK k B ys y W) (hn : xs.length + ys.length ≤ 1000000000) (hV : base ≤ W.heap.size)
    (kk : ∀ (u : Value) (W' : World), OwnN k T base (xs ++ ys) u W' → Below base W W' → WL P ops Q rest (Qax ds N ((d, u) :: L)) W') : WL P ops Q (o :: rest) (Qax ds N L) W := by
  obtain ⟨v', W', h1, h2, h3, h4⟩ := Qfs (ρ := Rely.look (envN N L)) (o := o) (W := W) s x t ho ht hi hb8 hs hx h hy hn hV
  exact Qc5 _ _ d hd hg h1 (kk v' W' h2 ⟨h3.os, h3.tape, h3.output, h3.size, fun i hi => h3.block i (Nat.lt_of_lt_of_le hi hV) (fun q => by have := h.ge q.symm; omega)⟩)
end
theorem Qh8 (key nonce ctx text fs : List Int) (es : Qcu key nonce ctx text = fs) (v v2 v3 : Value) (B B2 B3 : Nat) (th tq : TypeId) (w : World) (hh : w.heap[2]? = some (.cells (ints .u32 [1634760805, 857760878, 2036477234, 1797285236]) th)) (hq : w.heap[3]? = some (.cells (ints .i64 [0, 4, 8, 12, 1, 5, 9, 13, 2, 6, 10, 14, 3, 7, 11, 15, 0, 5, 10, 15, 1, 6, 11, 12, 2, 7, 8, 13, 3, 4, 9, 14]) tq)) (hkl : key.length = 32) (hn : RdK .u8 B nonce v w) (hc : RdK .u8 B2 ctx v2 w) (ht : RdK .u8 B3 fs v3 w) (hcb : Qam ctx) (htb : Qam text) (h : nonce.length = 12) (hcl : ctx.length ≤ 1048576) (hxl : text.length ≤ 1048576) :
    Calls Tryd.prog 74 #[.agg (ints .u8 key), v, v2, v3] w (QbY w (MixR w.heap.size text)) := by
  subst es
  exact Qgv key nonce ctx text v v2 v3 B B2 B3 th tq w hh hq hkl hn hc ht hcb htb h hcl hxl
set_option maxHeartbeats 4000000 in
def NewL (base : Nat) (sk rk : List Int) : Value → World → Prop := fun v W => ∃ g, v = .pointer (some ⟨g, 0, none⟩) ∧ base ≤ g ∧ W.heap[g]? = some (.cells (cat [#[.int .i64 0], #[.int .u64 0], ints .u8 (sk), ints .u8 (rk), #[.int .i64 0]]) 136)
set_option maxHeartbeats 4000000 in
theorem newC (sk rk : List Int) (w : World) (hsk : sk.length = 32) (hrk : rk.length = 32) : Calls Tryd.prog 43 #[.agg (ints .u8 sk), .agg (ints .u8 rk)] w (QbY w (NewL w.heap.size sk rk)) := by
  refine enter 9 [(0, .agg (ints .u8 (sk))), (1, .agg (ints .u8 (rk)))] Tryd.func43 rfl rfl kj rfl ?_
  refine wp_seq_k fun K1 hK1 => ?_
  refine Qab ?_
  refine Qas (ints .u8 (sk)) 23 2 rfl kj kj fun g2 W1 l2 e1 r2_1 => ?_
  have x1 : Ext w W1 := Ext.tr (Rely.Ext.refl w) e1
  have b2 : w.heap.size ≤ g2 := Nat.le_trans (Rely.Ext.refl w).size l2
  refine Qas (ints .u8 (rk)) 23 3 rfl kj kj fun g3 W2 l3 e2 r3_2 => ?_
  have x2 : Ext w W2 := Ext.tr x1 e2
  have b3 : w.heap.size ≤ g3 := Nat.le_trans x1.size l3
  refine Qaa (.pointer none) 4 rfl kj kj ?_
  refine Qac ?_
  refine hK1 _ _ ?_
  refine wp_seq_k fun K4 hK4 => ?_
  refine Qab ?_
  have r2_2 := (Qad r2_1 e2)
  refine Qaa (.agg (ints .u8 (sk))) 5 rfl kj (Qar 23 _ g2 23 _ _ r2_2 rfl kj kj (isz (n := 32) kj ((Qaf _ _).trans hsk))) ?_
  refine Qaa (.agg (ints .u8 (rk))) 6 rfl kj (Qar 23 _ g3 23 _ _ r3_2 rfl kj kj (isz (n := 32) kj ((Qaf _ _).trans hrk))) ?_
  refine Qaa (.agg (cat [#[.int .i64 0], #[.int .u64 0], ints .u8 (sk), ints .u8 (rk), #[.int .i64 0]])) 7 rfl kj (Qf0 136 _ (.agg (cat [#[.int .i64 0], #[.int .u64 0], ints .u8 (List.replicate 32 0), ints .u8 (List.replicate 32 0), #[.int .i64 0]])) #[(0, 2), (2, 32), (34, 32), (66, 1)] 2 [#[.int .i64 0], #[.int .u64 0]] (cat [ints .u8 (List.replicate 32 0), ints .u8 (List.replicate 32 0), #[.int .i64 0]]) [(1, 32, .agg (ints .u8 (sk)), ints .u8 (sk)), (2, 32, .agg (ints .u8 (rk)), ints .u8 (rk))] [#[.int .i64 0]] rfl kj rfl ⟨kj, rfl, ((Qaf _ _).trans hsk), kj, rfl, ((Qaf _ _).trans hrk), trivial⟩ kj (Nat.le_of_ble_eq_true kj) kj kj kj kj) ?_
  refine Qas (cat [#[.int .i64 0], #[.int .u64 0], ints .u8 (sk), ints .u8 (rk), #[.int .i64 0]]) 136 8 rfl kj kj fun g5 W3 l5 e3 r5_3 => ?_
  have x3 : Ext w W3 := Ext.tr x2 e3
  have b5 : w.heap.size ≤ g5 := Nat.le_trans x2.size l5
  refine Qaa (.pointer (some ⟨g5, 0, none⟩)) 4 rfl kj kj ?_
  refine Qac ?_
  refine hK4 _ _ ?_
  refine wp_ret ?_
  repeat (first | with_reducible refine goR1 ?_ | with_reducible refine goR2 ?_)
  exact (show bodyPost _ _ _ .ret _ _ from ret1 (.pointer (some ⟨g5, 0, none⟩)) rfl (Qaz kj) ⟨_, rfl, x3, g5, rfl, b5, r5_3⟩)
set_option maxRecDepth 100000 in
set_option maxHeartbeats 4000000 in
theorem QhF (text : List Int) (v : Value) (th tq : TypeId) (g : Nat) (nx : Int) (B : Nat) (hnx : 0 ≤ nx ∧ nx ≤ 4294967295) (hB : B < 18446744073709551616) (sk rk : List Int) (next : Nat) (hsk : sk.length = 32) (hrk : rk.length = 32) (w : World) (hg : w.heap[g]? = some (.cells (cat [#[.int .i64 nx], #[.int .u64 ((B : Nat) : Int)], ints .u8 (sk), ints .u8 (rk), #[.int .i64 ((next : Nat) : Int)]]) 136)) (hh : w.heap[2]? = some (.cells (ints .u32 [1634760805, 857760878, 2036477234, 1797285236]) th)) (hq : w.heap[3]? = some (.cells (ints .i64 [0, 4, 8, 12, 1, 5, 9, 13, 2, 6, 10, 14, 3, 7, 11, 15, 0, 5, 10, 15, 1, 6, 11, 12, 2, 7, 8, 13, 3, 4, 9, 14]) tq)) (hnh : 2 ≠ g) (hnq : 3 ≠ g) (hst : ∀ W, ExtB g w W → RdK .u8 W.heap.size text v W) (hnx2 : next < 4294967295) (htl : text.length ≤ 65536) :
  Calls Tryd.prog 46 #[.pointer (some ⟨g, 0, none⟩), v] w (fun e W => ∃ u, e = .returned (.tuple #[u, .nilIface]) ∧ OwnN .u8 5 w.heap.size (msgV sk next text) u W ∧ ExtB g w W ∧ W.heap[g]? = some (.cells (cat [#[.int .i64 nx], #[.int .u64 ((B : Nat) : Int)], ints .u8 (sk), ints .u8 (rk), #[.int .i64 ((next + 1 : Nat) : Int)]]) 136)) := by
 obtain ⟨a_t, c_t, rfl, -⟩ := id (hst _ (ExtB.refl g w))
 have lfs0 := Qca sk (nonV next) (hdV next) text
 obtain ⟨fs, es⟩ : ∃ z : List Int, Qcu sk (nonV next) (hdV next) text = z := ⟨_, rfl⟩
 have lfs : fs.length = text.length + 16 := es ▸ lfs0
 refine enter 64 [(0, .pointer (some ⟨g, 0, none⟩)), (1, .slice a_t text.length c_t)] Tryd.func46 rfl rfl kj rfl ?_
 refine wp_seq_k fun K4 hK4 => ?_
 refine Qab ?_
 refine Qaa (.slice none 0 0) 4 rfl kj kj ?_
 refine Qaa (.nilIface) 5 rfl kj kj ?_
 refine Qac ?_
 refine hK4 _ _ ?_
 refine wp_seq_k fun K5 hK5 => ?_
 refine wp_seq_k fun K6 hK6 => ?_
 refine Qab ?_
 refine Qaa (.pointer (some ⟨g, 0, none⟩)) 10 rfl kj kj ?_
 refine Qaa (.bool false) 11 rfl kj kj ?_
 refine Qac ?_
 refine hK6 _ _ ?_
 refine cond_false kj ?_
 refine wp_skip ?_
 refine hK5 _ _ ?_
 refine wp_seq_k fun K7 hK7 => ?_
 refine wp_seq_k fun K8 hK8 => ?_
 refine Qab ?_
 refine Qaa (.slice a_t text.length c_t) 13 rfl kj kj ?_
 refine Qaa (.int .i64 ((text.length : Nat) : Int)) 14 rfl kj kj ?_
 refine Qaa (.bool false) 15 rfl kj (Qai (u := .bool (decide (((text.length : Nat) : Int) > 65536))) kj (congrArg Value.bool (decide_eq_false (by omega)))) ?_
 refine Qac ?_
 refine hK8 _ _ ?_
 refine cond_false kj ?_
 refine wp_skip ?_
 refine hK7 _ _ ?_
 refine wp_seq_k fun K9 hK9 => ?_
 refine wp_seq_k fun K10 hK10 => ?_
 refine Qab ?_
 refine Qaa (.pointer (some ⟨g, 0, none⟩)) 17 rfl kj kj ?_
 refine Qaa (.pointer (some ⟨g, 0, none⟩)) 18 rfl kj kj ?_
 refine Qaa (.pointer (some ⟨g, 66, none⟩)) 19 rfl kj kj ?_
 refine Qaa (.int .i64 ((next : Nat) : Int)) 20 rfl kj (Qae 3 _ g 66 136 _ (.int .i64 ((next : Nat) : Int)) _ hg rfl kj (QaD [#[.int .i64 nx], #[.int .u64 ((B : Nat) : Int)], ints .u8 (sk), ints .u8 (rk)] [#[.int .i64 ((next : Nat) : Int)]] [] 66 (by rw [Qan, Qan, Qan, Qan]; simp only [Array.size_append, cat, ((Qaf _ _).trans hrk), ((Qaf _ _).trans hsk)]; rfl) 0 _ rfl) kj) ?_
 refine Qaa (.bool false) 21 rfl kj (Qai (u := .bool ((((next : Nat) : Int) == 4294967295))) kj (congrArg Value.bool (beq_eq_false_iff_ne.2 (by omega)))) ?_
 refine Qac ?_
 refine hK10 _ _ ?_
 refine cond_false kj ?_
 refine wp_skip ?_
 refine hK9 _ _ ?_
 refine wp_seq_k fun K11 hK11 => ?_
 refine Qab ?_
 refine Qaa (.pointer (some ⟨g, 0, none⟩)) 23 rfl kj kj ?_
 refine Qaa (.pointer (some ⟨g, 0, none⟩)) 24 rfl kj kj ?_
 refine Qaa (.pointer (some ⟨g, 66, none⟩)) 25 rfl kj kj ?_
 refine Qaa (.int .i64 ((next : Nat) : Int)) 26 rfl kj (Qae 3 _ g 66 136 _ (.int .i64 ((next : Nat) : Int)) _ hg rfl kj (QaD [#[.int .i64 nx], #[.int .u64 ((B : Nat) : Int)], ints .u8 (sk), ints .u8 (rk)] [#[.int .i64 ((next : Nat) : Int)]] [] 66 (by rw [Qan, Qan, Qan, Qan]; simp only [Array.size_append, cat, ((Qaf _ _).trans hrk), ((Qaf _ _).trans hsk)]; rfl) 0 _ rfl) kj) ?_
 refine Qaa (.int .i64 ((next : Nat) : Int)) 6 rfl kj kj ?_
 refine Qac ?_
 refine hK11 _ _ ?_
 refine wp_seq_k fun K12 hK12 => ?_
 refine Qab ?_
 refine Qaa (.int .i64 ((next : Nat) : Int)) 27 rfl kj kj ?_
 refine Qaa (.int .i64 (((next / 16777216 : Nat) : Int))) 28 rfl kj (QaJ .shr _ _ _ _ .i64 .u64 _ _ _ rfl kj kj (QcB _ _ _ _ _ _ (by omega) (shrN next 24 16777216 (by decide)))) ?_
 refine Qaa (.int .u8 (((next / 16777216 % 256 : Nat) : Int))) 29 rfl kj (Qai (u := .int .u8 (IntKind.u8.wrap (((next / 16777216 : Nat) : Int)))) kj (congrArg (Value.int .u8) (QgK _))) ?_
 refine Qaa (.int .i64 ((next : Nat) : Int)) 30 rfl kj kj ?_
 refine Qaa (.int .i64 (((next / 65536 : Nat) : Int))) 31 rfl kj (QaJ .shr _ _ _ _ .i64 .u64 _ _ _ rfl kj kj (QcB _ _ _ _ _ _ (by omega) (shrN next 16 65536 (by decide)))) ?_
 refine Qaa (.int .u8 (((next / 65536 % 256 : Nat) : Int))) 32 rfl kj (Qai (u := .int .u8 (IntKind.u8.wrap (((next / 65536 : Nat) : Int)))) kj (congrArg (Value.int .u8) (QgK _))) ?_
 refine Qaa (.int .i64 ((next : Nat) : Int)) 33 rfl kj kj ?_
 refine Qaa (.int .i64 (((next / 256 : Nat) : Int))) 34 rfl kj (QaJ .shr _ _ _ _ .i64 .u64 _ _ _ rfl kj kj (QcB _ _ _ _ _ _ (by omega) (shrN next 8 256 (by decide)))) ?_
 refine Qaa (.int .u8 (((next / 256 % 256 : Nat) : Int))) 35 rfl kj (Qai (u := .int .u8 (IntKind.u8.wrap (((next / 256 : Nat) : Int)))) kj (congrArg (Value.int .u8) (QgK _))) ?_
 refine Qaa (.int .i64 ((next : Nat) : Int)) 36 rfl kj kj ?_
 refine Qaa (.int .u8 (((next % 256 : Nat) : Int))) 37 rfl kj (Qai (u := .int .u8 (IntKind.u8.wrap ((next : Nat) : Int))) kj (congrArg (Value.int .u8) (QgK _))) ?_
 refine Qcx (ints .u8 ([(((next / 16777216 % 256 : Nat) : Int)), (((next / 65536 % 256 : Nat) : Int)), (((next / 256 % 256 : Nat) : Int)), (((next % 256 : Nat) : Int))])) 5 4 38 rfl kj kj fun g13 W1 l13 e1 r13_1 => ?_
 have x1 : ExtB g w W1 := ExtB.ext (ExtB.refl g w) e1
 have b13 : w.heap.size ≤ g13 := Nat.le_trans (ExtB.refl g w).size l13
 refine Qaa (.slice (some ⟨g13, 0, none⟩) 4 4) 7 rfl kj kj ?_
 have r13_1_14 : W1.heap[g13]? = some (.cells (ints .u8 (hdV next)) 5) := QaC r13_1 rfl
 refine Qac ?_
 refine hK12 _ _ ?_
 refine wp_seq_k fun K15 hK15 => ?_
 refine QaS 13 [⟨none, [(0, none)]⟩, ⟨none, [(40, some 0)]⟩, ⟨none, [(41, some 1)]⟩, ⟨none, [(42, some 2)]⟩, ⟨none, [(6, none)]⟩, ⟨none, [(44, some 4)]⟩, ⟨none, [(7, none)]⟩, ⟨none, [(1, none)]⟩, ⟨none, [(43, some 3), (45, some 5), (46, some 6), (47, some 7)]⟩, ⟨none, [(48, some 8)]⟩, ⟨none, [(39, some 9)]⟩, ⟨none, [(39, some 9)]⟩, ⟨none, [(49, some 10)]⟩] kj kj fun F hF => ?_
 refine Qa8 (Qaq _) (.pointer (some ⟨g, 0, none⟩)) kj kj (fun W => by kernel_rfl) ?_
 refine Qa8 (Qaq _) (.pointer (some ⟨g, 0, none⟩)) kj kj (fun W => by kernel_rfl) ?_
 refine Qa8 (Qaq _) (.pointer (some ⟨g, 2, none⟩)) kj kj (fun W => by kernel_rfl) ?_
 have r1_1 := (Qad hg e1)
 refine Qbu (Qaq _) (.agg (ints .u8 (sk))) kj kj (fun W hR => (QaK 23 _ g 2 136 _ _ _ (Qad (Qad r1_1 (Qah _)) hR) rfl kj (QaD [#[.int .i64 nx], #[.int .u64 ((B : Nat) : Int)]] [ints .u8 (sk)] [ints .u8 (rk), #[.int .i64 ((next : Nat) : Int)]] 2 kj) kj (isz (n := 32) kj ((Qaf _ _).trans hsk)))) ?_
 refine Qa8 (Qaq _) (.int .i64 ((next : Nat) : Int)) kj kj (fun W => by kernel_rfl) ?_
 refine Qdj (Qaq _) (OwnN .u8 5 W1.heap.size (nonV next)) (OwnN.stable _ _ _ _) 86 #[.int .i64 ((next : Nat) : Int)] kj kj (fun W => by kernel_rfl) (fun W hR => (QgY W1.heap.size next _ (Rely.Ext.trans (Qah _) hR).size)) ?_
 refine Qa8 (Qaq _) (.slice (some ⟨g13, 0, none⟩) 4 4) kj kj (fun W => by kernel_rfl) ?_
 refine Qa8 (Qaq _) (.slice a_t text.length c_t) kj kj (fun W => by kernel_rfl) ?_
 have r3_1 := (Qad hh e1)
 have r2_1 := (Qad hq e1)
 refine Qfp (Qaq _) (MixR W1.heap.size fs) (Qcp _ _) 71 (fun ρ W hR hX => ?_) ?_
 ·skip
  have e43_ : ρ 43 = .agg (ints .u8 (sk)) := hX.1
  have q45_ : (OwnN .u8 5 W1.heap.size (nonV next)) (ρ 45) W := hX.2.1
  obtain ⟨ar45, cr45, e45_, -⟩ := id (OwnN.rd q45_)
  have rd45_ := OwnN.rd q45_
  rw [e45_] at rd45_
  have e46_ : ρ 46 = .slice (some ⟨g13, 0, none⟩) 4 4 := hX.2.2.1
  have e47_ : ρ 47 = .slice a_t text.length c_t := hX.2.2.2.1
  refine ⟨#[.agg (ints .u8 (sk)), .slice ar45 ((nonV next).length) cr45, .slice (some ⟨g13, 0, none⟩) 4 4, .slice a_t text.length c_t], Eq.trans (b := Result.ok (Next.enter 71 #[ρ 43, ρ 45, ρ 46, ρ 47]) W) kj (by rw [e43_, e45_, e46_, e47_]), ?_⟩
  exact ((QhZ sk (nonV next) (hdV next) text _ _ _ _ _ _ th tq W (Qad (Qad r3_1 (Qah _)) hR) (Qad (Qad r2_1 (Qah _)) hR) hsk rd45_ (RdK.ext (Qb2 (xs := hdV next) (n := 4) (QcK _) r13_1_14 (Qa9 r13_1_14) (show 4 ≤ maxLen from by decide)) (Rely.Ext.trans (Qah _) hR)) (RdK.ext (hst _ x1) (Rely.Ext.trans (Qah _) hR)) (QeB _) (Qfe _) (by rw [QcK]; decide) (by omega)).mono fun e W2 hg => by obtain ⟨v2, e1, e2, u, e3, e4⟩ := hg; rw [es] at e4; exact ⟨v2, e1, e2, u, e3, e4.base (Rely.Ext.trans (Qah _) hR).size⟩)
 refine QcZ (Qaq _) (MixR W1.heap.size fs) (Qcp _ _) (fun ρ W hR hh => ⟨ρ 48, W, by kernel_rfl, Rely.Ext.refl _, (show (MixR W1.heap.size fs) (ρ 48) W from hh.1)⟩) ?_
 refine QcZ (Qaq _) (OwnN .u8 5 W1.heap.size fs) (OwnN.stable _ _ _ _) (fun ρ W hR hh => ?_) ?_
 ·obtain ⟨u, e, h⟩ := (show (MixR W1.heap.size fs) (ρ 39) W from hh.1)
  exact ⟨_, W, QbU (.tmp 39) 0 #[u, .nilIface] _ rfl e rfl, Rely.Ext.refl _, h⟩
 refine QcZ (Qaq _) (fun v W => v = .nilIface) (fun _ _ _ _ h => h) (fun ρ W hR hh => ?_) ?_
 ·obtain ⟨u, e, h⟩ := (show (MixR W1.heap.size fs) (ρ 39) W from hh.1)
  exact ⟨_, W, QbU (.tmp 39) 1 #[u, .nilIface] _ rfl e rfl, Rely.Ext.refl _, rfl⟩
 refine QcZ (Qaq _) (OwnN .u8 5 W1.heap.size fs) (OwnN.stable _ _ _ _) (fun ρ W hR hh => ⟨ρ 49, W, by kernel_rfl, Rely.Ext.refl _, (show (OwnN .u8 5 W1.heap.size fs) (ρ 49) W from hh.1)⟩) ?_
 refine Qdi (hF _ fun W2 e2 => ?_)
 simp only [List.nil_append, List.cons_append, List.take_succ_cons, List.take_zero, List.drop_succ_cons, List.drop_zero, finE, up]
 intro vv16 hv16 vv17 hv17 vv18 hv18 vv19 hv19 vv20 hv20 vv21 hv21
 clear hF
 have x2 : ExtB g w W2 := ExtB.ext x1 e2
 obtain ⟨a22_, c22_, rfl, -⟩ := id (OwnN.rd hv16)
 obtain ⟨a23_, c23_, rfl, -⟩ := id (OwnN.rd hv19)
 subst hv20
 obtain ⟨a24_, c24_, rfl, -⟩ := id (OwnN.rd hv21)
 refine Qaa (.nilIface) 9 rfl kj kj ?_
 refine Qac ?_
 refine hK15 _ _ ?_
 refine wp_seq_k fun K25 hK25 => ?_
 refine wp_seq_k fun K26 hK26 => ?_
 refine Qab ?_
 refine Qaa (.nilIface) 51 rfl kj kj ?_
 refine Qaa (.bool false) 52 rfl kj kj ?_
 refine Qac ?_
 refine hK26 _ _ ?_
 refine cond_false kj ?_
 refine wp_skip ?_
 refine hK25 _ _ ?_
 refine wp_seq_k fun K27 hK27 => ?_
 refine Qab ?_
 refine Qaa (.pointer (some ⟨g, 0, none⟩)) 54 rfl kj kj ?_
 refine Qaa (.pointer (some ⟨g, 0, none⟩)) 55 rfl kj kj ?_
 refine Qaa (.pointer (some ⟨g, 66, none⟩)) 56 rfl kj kj ?_
 have r1_2 := (Qad r1_1 e2)
 refine Qaa (.int .i64 ((next : Nat) : Int)) 57 rfl kj (Qae 3 _ g 66 136 _ (.int .i64 ((next : Nat) : Int)) _ r1_2 rfl kj (QaD [#[.int .i64 nx], #[.int .u64 ((B : Nat) : Int)], ints .u8 (sk), ints .u8 (rk)] [#[.int .i64 ((next : Nat) : Int)]] [] 66 (by rw [Qan, Qan, Qan, Qan]; simp only [Array.size_append, cat, ((Qaf _ _).trans hrk), ((Qaf _ _).trans hsk)]; rfl) 0 _ rfl) kj) ?_
 refine Qaa (.int .i64 ((next + 1 : Nat) : Int)) 58 rfl kj (Qai (u := .int .i64 (IntKind.i64.wrap (((next : Nat) : Int) + 1))) kj (congrArg (Value.int .i64) (i64n _ _ (by omega) (by omega)))) ?_
 refine Qaa (.pointer (some ⟨g, 0, none⟩)) 59 rfl kj kj ?_
 refine Qaa (.pointer (some ⟨g, 66, none⟩)) 60 rfl kj kj ?_
 refine Qaj g _ (cat [#[.int .i64 nx], #[.int .u64 ((B : Nat) : Int)], ints .u8 (sk), ints .u8 (rk), #[.int .i64 ((next + 1 : Nat) : Int)]]) 136 r1_2 rfl kj (run_storeQ 3 _ _ g 66 136 [#[.int .i64 nx], #[.int .u64 ((B : Nat) : Int)], ints .u8 (sk), ints .u8 (rk)] [] _ (.int .i64 ((next + 1 : Nat) : Int)) r1_2 rfl kj kj kj (by rw [Qan, Qan, Qan, Qan]; simp only [Array.size_append, cat, ((Qaf _ _).trans hrk), ((Qaf _ _).trans hsk)]; rfl) rfl rfl) fun W3 p3 r1_3 => ?_
 have x3 : ExtB g w W3 := ExtB.puts x2 p3
 refine Qac ?_
 refine hK27 _ _ ?_
 refine wp_seq_k fun K28 hK28 => ?_
 refine Qab ?_
 refine Qaa (.slice (some ⟨g13, 0, none⟩) 4 4) 61 rfl kj kj ?_
 refine Qaa (.slice a24_ ((fs).length) c24_) 62 rfl kj kj ?_
 have f29_3 := (hv21.puts p3 (Qdr hv21 (Qa9 r1_1)))
 have r13_2 := (Qad r13_1_14 e2)
 have r13_3 := (Puts.row p3 r13_2 (Qal hg l13))
 refine QeG (k := .u8) (T := 5) (xs := hdV next) (ys := fs) (w.heap.size) 1 (.tmp 61) (.tmp 62) 33 rfl kj kj (by decide) 63 rfl kj kj kj (Qcn (xs := hdV next) (QcK _) l13 r13_3 (by decide)) (OwnN.rd f29_3) (by rw [QcK, lfs]; omega) (Nat.le_trans (Nat.le_trans (Nat.le_trans (Nat.le_refl _) e1.size) e2.size) (Nat.le_of_eq p3.2.2.2.1.symm)) fun zs W4 f30 l4 => ?_
 have x4 : ExtB g w W4 := ExtB.low x3 l4 (ExtB.refl g w).2.2.2.1
 refine Qaa (zs) 4 rfl kj kj ?_
 refine Qaa (.nilIface) 5 rfl kj kj ?_
 refine Qac ?_
 refine hK28 _ _ ?_
 refine wp_ret ?_
 repeat (first | with_reducible refine goR1 ?_ | with_reducible refine goR2 ?_)
 have r1_4 := (QcI l4 r1_3 (Qa9 hg))
 exact (show bodyPost _ _ _ .ret _ _ from ret2 (zs) (.nilIface) rfl (Qaz kj) (Qaz kj) ⟨zs, rfl, by unfold msgV; rw [es]; exact OwnN.base (ExtB.refl g w).2.2.2.1 f30, x4, r1_4⟩)
end Go.Proofs.YtoiendjhplbjjaaDoor.Ll
end
section
namespace Go.Proofs.YtoiendjhplbjjaaDoor.Ll
open Go Go.RowKit
open Rely Auto Own Sha Sha
set_option linter.unusedVariables false
set_option linter.unusedSimpArgs false
open Cha Ae
set_option maxRecDepth 100000 in
set_option maxHeartbeats 4000000 in
theorem QgR (m : Nat) (text : List Int) (v : Value) (th tq : TypeId) (g : Nat) (nx : Int) (B : Nat) (hnx : 0 ≤ nx ∧ nx ≤ 4294967295) (hB : B < 18446744073709551616) (sk rk : List Int) (next : Nat) (hsk : sk.length = 32) (hrk : rk.length = 32) (w : World) (hg : w.heap[g]? = some (.cells (cat [#[.int .i64 nx], #[.int .u64 ((B : Nat) : Int)], ints .u8 (sk), ints .u8 (rk), #[.int .i64 ((next : Nat) : Int)]]) 136)) (hh : w.heap[2]? = some (.cells (ints .u32 [1634760805, 857760878, 2036477234, 1797285236]) th)) (hq : w.heap[3]? = some (.cells (ints .i64 [0, 4, 8, 12, 1, 5, 9, 13, 2, 6, 10, 14, 3, 7, 11, 15, 0, 5, 10, 15, 1, 6, 11, 12, 2, 7, 8, 13, 3, 4, 9, 14]) tq)) (hnh : 2 ≠ g) (hnq : 3 ≠ g) (hst : ∀ W, ExtB g w W → RdK .u8 W.heap.size (msgV rk m text) v W) (hm : m < 4294967295) (htl : text.length ≤ 65536) (htb : Qam text) (hc : chkW nx B ((m : Nat) : Int) = 0) (nx2 : Int) (B2 : Nat) (hmk : ∀ W : World, W.heap[g]? = some (.cells (cat [#[.int .i64 nx], #[.int .u64 ((B : Nat) : Int)], ints .u8 (sk), ints .u8 (rk), #[.int .i64 ((next : Nat) : Int)]]) 136) → Calls Tryd.prog 89 #[.pointer (some ⟨g, 0, none⟩), .int .i64 ((m : Nat) : Int)] W (fun e W2 => e = .returned .nilIface ∧ ExtB g W W2 ∧ W2.heap[g]? = some (.cells (cat [#[.int .i64 nx2], #[.int .u64 ((B2 : Nat) : Int)], ints .u8 (sk), ints .u8 (rk), #[.int .i64 ((next : Nat) : Int)]]) 136))) :
  Calls Tryd.prog 49 #[.pointer (some ⟨g, 0, none⟩), v] w (fun e W => ∃ u, e = .returned (.tuple #[u, .nilIface]) ∧ OwnN .u8 5 w.heap.size text u W ∧ ExtB g w W ∧ W.heap[g]? = some (.cells (cat [#[.int .i64 nx2], #[.int .u64 ((B2 : Nat) : Int)], ints .u8 (sk), ints .u8 (rk), #[.int .i64 ((next : Nat) : Int)]]) 136)) := by
 have lms := Qed rk m text
 have e4s : (msgV rk m text).take 4 = hdV m := rfl
 have e5s : (msgV rk m text).drop 4 = Qcu rk (nonV m) (hdV m) text := rfl
 obtain ⟨sl, esl⟩ : ∃ z : List Int, msgV rk m text = z := ⟨_, rfl⟩
 obtain ⟨fs, es⟩ : ∃ z : List Int, Qcu rk (nonV m) (hdV m) text = z := ⟨_, rfl⟩
 rw [esl] at hst lms e4s e5s
 rw [es] at e5s
 have e4 : sl.take 4 = hdV m := e4s
 have e5 : sl.drop 4 = fs := e5s
 have h4 : 4 ≤ sl.length := by omega
 obtain ⟨a_t, c_t, rfl, -⟩ := id (hst _ (ExtB.refl g w))
 have ctk : sl.length ≤ c_t := by
  obtain ⟨_, _, e, q2, _⟩ := id (hst _ (ExtB.refl g w))
  simp only [Value.slice.injEq] at e
  obtain ⟨-, -, rfl⟩ := e
  exact q2
 refine enter 72 [(0, .pointer (some ⟨g, 0, none⟩)), (1, .slice a_t sl.length c_t)] Tryd.func49 rfl rfl kj rfl ?_
 refine wp_seq_k fun K4 hK4 => ?_
 refine Qab ?_
 refine Qaa (.slice none 0 0) 4 rfl kj kj ?_
 refine Qaa (.nilIface) 5 rfl kj kj ?_
 refine Qac ?_
 refine hK4 _ _ ?_
 refine wp_seq_k fun K5 hK5 => ?_
 refine wp_seq_k fun K6 hK6 => ?_
 refine Qab ?_
 refine Qaa (.pointer (some ⟨g, 0, none⟩)) 13 rfl kj kj ?_
 refine Qaa (.bool false) 14 rfl kj kj ?_
 refine Qac ?_
 refine hK6 _ _ ?_
 refine cond_false kj ?_
 refine wp_skip ?_
 refine hK5 _ _ ?_
 refine wp_seq_k fun K7 hK7 => ?_
 refine wp_seq_k fun K8 hK8 => ?_
 refine Qab ?_
 refine Qaa (.slice a_t sl.length c_t) 16 rfl kj kj ?_
 refine Qaa (.int .i64 ((sl.length : Nat) : Int)) 17 rfl kj kj ?_
 refine Qaa (.bool false) 18 rfl kj (Qai (u := .bool (decide (((sl.length : Nat) : Int) < 20))) kj (congrArg Value.bool (decide_eq_false (by omega)))) ?_
 refine Qaa (.bool false) 19 rfl kj kj ?_
 refine Qaa (.slice a_t sl.length c_t) 20 rfl kj kj ?_
 refine Qaa (.int .i64 ((sl.length : Nat) : Int)) 21 rfl kj kj ?_
 refine Qaa (.bool false) 22 rfl kj (Qai (u := .bool (decide (((sl.length : Nat) : Int) > 65556))) kj (congrArg Value.bool (decide_eq_false (by omega)))) ?_
 refine Qaa (.bool false) 23 rfl kj kj ?_
 refine Qac ?_
 refine hK8 _ _ ?_
 refine cond_false kj ?_
 refine wp_skip ?_
 refine hK7 _ _ ?_
 refine wp_seq_k fun K9 hK9 => ?_
 refine Qab ?_
 refine Qaa (.int .i64 ((0 : Nat) : Int)) 6 rfl kj kj ?_
 refine Qac ?_
 refine hK9 _ _ ?_
 refine wp_seq_k fun K10 hK10 => ?_
 refine wp_seq_k fun K11 hK11 => ?_
 refine Qab ?_
 refine Qaa (.slice a_t sl.length c_t) 25 rfl kj kj ?_
 refine Qaa (.slice a_t 4 c_t) 26 rfl kj (Qde (len := sl.length) 33 _ _ 4 5 rfl kj kj kj .i64 kj (Nat.le_trans h4 ctk)) ?_
 refine Qaa (.int .i64 4) 27 rfl kj kj ?_
 refine Qaa (.int .i64 0) 28 rfl kj kj ?_
 refine Qac ?_
 refine hK11 _ _ ?_
 refine wp_block ?_
 have hnh_12 : (hdV m).length = 4 := (QcK m)
 obtain ⟨gch_12, och_12, hah_12, hlh_12, hch_12⟩ := Qg5 (rdKT e4 (hst _ (ExtB.refl g w)) h4) (by rw [hnh_12]; omega)
 refine wp_loop_rounds 5 ?_
 show Code.wp _ _ (Exit.then (Code.rounds _ _ _ 4) _) _ _
 refine wp_seq_k fun K13 hK13 => ?_
 refine Qab ?_
 refine Qaa (.bool true) 29 rfl kj kj ?_
 refine Qac ?_
 refine hK13 _ _ ?_
 refine wp_seq_k fun K14 hK14 => ?_
 refine cond_true kj ?_
 refine wp_skip ?_
 refine hK14 _ _ ?_
 refine wp_seq_k fun K15 hK15 => ?_
 refine wp_block ?_
 refine wp_seq_k fun K16 hK16 => ?_
 refine Qab ?_
 refine Qaa (.pointer (some ⟨gch_12, och_12 + 0, none⟩)) 30 rfl kj (Qbp 33 _ _ .i64 0 gch_12 och_12 4 c_t 5 a_t _ hah_12 rfl rfl kj kj kj kj (Nat.lt_of_lt_of_eq (show 0 < 4 by omega) hnh_12.symm)) ?_
 refine Qaa (.int .u8 ((((m / 16777216 % 256) : Nat) : Int))) 31 rfl kj (QaL 5 _ _ (.int .u8 ((((m / 16777216 % 256) : Nat) : Int))) ((hch_12 0 (Nat.lt_of_lt_of_eq (show 0 < 4 by omega) hnh_12.symm)).trans (congrArg (fun z => some (Value.int .u8 z)) rfl)) rfl kj kj) ?_
 refine Qaa (.int .u8 ((((m / 16777216 % 256) : Nat) : Int))) 8 rfl kj kj ?_
 refine Qac ?_
 refine hK16 _ _ ?_
 refine Qab ?_
 refine Qaa (.int .i64 ((0 : Nat) : Int)) 32 rfl kj kj ?_
 refine Qaa (.int .i64 (((0 * 256 : Nat) : Int))) 33 rfl kj (QaJ .shl _ _ _ _ .i64 .u64 _ _ _ rfl kj kj (QcC _ _ _ _ _ _ (by decide) (QcO _ (by omega)))) ?_
 refine Qaa (.int .u8 ((((m / 16777216 % 256) : Nat) : Int))) 34 rfl kj kj ?_
 refine Qaa (.int .i64 ((((m / 16777216 % 256) : Nat) : Int))) 35 rfl kj (Qai (u := .int .i64 (IntKind.i64.wrap ((((m / 16777216 % 256) : Nat) : Int)))) kj (congrArg (Value.int .i64) (IntWalk.i64_in _ (by omega)))) ?_
 refine Qaa (.int .i64 ((((m / 16777216) : Nat) : Int))) 36 rfl kj (Qai (u := .int .i64 (bits .or .i64 (((0 * 256 : Nat) : Int)) ((((m / 16777216 % 256) : Nat) : Int)))) kj (congrArg (Value.int .i64) (Qea 0 (m / 16777216 % 256) (m / 16777216) (by omega) (by omega) (by omega)))) ?_
 refine Qaa (.int .i64 ((((m / 16777216) : Nat) : Int))) 6 rfl kj kj ?_
 refine Qac ?_
 refine hK15 _ _ ?_
 refine Qab ?_
 refine Qaa (.int .i64 1) 37 rfl kj kj ?_
 refine Qaa (.int .i64 1) 28 rfl kj kj ?_
 refine Qac ?_
 show Code.rounds _ _ _ 4 _ _
 show Code.wp _ _ (Exit.then (Code.rounds _ _ _ 3) _) _ _
 refine wp_seq_k fun K17 hK17 => ?_
 refine Qab ?_
 refine Qaa (.bool true) 29 rfl kj kj ?_
 refine Qac ?_
 refine hK17 _ _ ?_
 refine wp_seq_k fun K18 hK18 => ?_
 refine cond_true kj ?_
 refine wp_skip ?_
 refine hK18 _ _ ?_
 refine wp_seq_k fun K19 hK19 => ?_
 refine wp_block ?_
 refine wp_seq_k fun K20 hK20 => ?_
 refine Qab ?_
 refine Qaa (.pointer (some ⟨gch_12, och_12 + 1, none⟩)) 30 rfl kj (Qbp 33 _ _ .i64 1 gch_12 och_12 4 c_t 5 a_t _ hah_12 rfl rfl kj kj kj kj (Nat.lt_of_lt_of_eq (show 1 < 4 by omega) hnh_12.symm)) ?_
 refine Qaa (.int .u8 ((((m / 65536 % 256) : Nat) : Int))) 31 rfl kj (QaL 5 _ _ (.int .u8 ((((m / 65536 % 256) : Nat) : Int))) ((hch_12 1 (Nat.lt_of_lt_of_eq (show 1 < 4 by omega) hnh_12.symm)).trans (congrArg (fun z => some (Value.int .u8 z)) rfl)) rfl kj kj) ?_
 refine Qaa (.int .u8 ((((m / 65536 % 256) : Nat) : Int))) 8 rfl kj kj ?_
 refine Qac ?_
 refine hK20 _ _ ?_
 refine Qab ?_
 refine Qaa (.int .i64 ((((m / 16777216) : Nat) : Int))) 32 rfl kj kj ?_
 refine Qaa (.int .i64 ((((m / 16777216) * 256 : Nat) : Int))) 33 rfl kj (QaJ .shl _ _ _ _ .i64 .u64 _ _ _ rfl kj kj (QcC _ _ _ _ _ _ (by decide) (QcO _ (by omega)))) ?_
 refine Qaa (.int .u8 ((((m / 65536 % 256) : Nat) : Int))) 34 rfl kj kj ?_
 refine Qaa (.int .i64 ((((m / 65536 % 256) : Nat) : Int))) 35 rfl kj (Qai (u := .int .i64 (IntKind.i64.wrap ((((m / 65536 % 256) : Nat) : Int)))) kj (congrArg (Value.int .i64) (IntWalk.i64_in _ (by omega)))) ?_
 refine Qaa (.int .i64 ((((m / 65536) : Nat) : Int))) 36 rfl kj (Qai (u := .int .i64 (bits .or .i64 ((((m / 16777216) * 256 : Nat) : Int)) ((((m / 65536 % 256) : Nat) : Int)))) kj (congrArg (Value.int .i64) (Qea (m / 16777216) (m / 65536 % 256) (m / 65536) (by omega) (by omega) (by omega)))) ?_
 refine Qaa (.int .i64 ((((m / 65536) : Nat) : Int))) 6 rfl kj kj ?_
 refine Qac ?_
 refine hK19 _ _ ?_
 refine Qab ?_
 refine Qaa (.int .i64 2) 37 rfl kj kj ?_
 refine Qaa (.int .i64 2) 28 rfl kj kj ?_
 refine Qac ?_
 show Code.rounds _ _ _ 3 _ _
 show Code.wp _ _ (Exit.then (Code.rounds _ _ _ 2) _) _ _
 refine wp_seq_k fun K21 hK21 => ?_
 refine Qab ?_
 refine Qaa (.bool true) 29 rfl kj kj ?_
 refine Qac ?_
 refine hK21 _ _ ?_
 refine wp_seq_k fun K22 hK22 => ?_
 refine cond_true kj ?_
 refine wp_skip ?_
 refine hK22 _ _ ?_
 refine wp_seq_k fun K23 hK23 => ?_
 refine wp_block ?_
 refine wp_seq_k fun K24 hK24 => ?_
 refine Qab ?_
 refine Qaa (.pointer (some ⟨gch_12, och_12 + 2, none⟩)) 30 rfl kj (Qbp 33 _ _ .i64 2 gch_12 och_12 4 c_t 5 a_t _ hah_12 rfl rfl kj kj kj kj (Nat.lt_of_lt_of_eq (show 2 < 4 by omega) hnh_12.symm)) ?_
 refine Qaa (.int .u8 ((((m / 256 % 256) : Nat) : Int))) 31 rfl kj (QaL 5 _ _ (.int .u8 ((((m / 256 % 256) : Nat) : Int))) ((hch_12 2 (Nat.lt_of_lt_of_eq (show 2 < 4 by omega) hnh_12.symm)).trans (congrArg (fun z => some (Value.int .u8 z)) rfl)) rfl kj kj) ?_
 refine Qaa (.int .u8 ((((m / 256 % 256) : Nat) : Int))) 8 rfl kj kj ?_
 refine Qac ?_
 refine hK24 _ _ ?_
 refine Qab ?_
 refine Qaa (.int .i64 ((((m / 65536) : Nat) : Int))) 32 rfl kj kj ?_
 refine Qaa (.int .i64 ((((m / 65536) * 256 : Nat) : Int))) 33 rfl kj (QaJ .shl _ _ _ _ .i64 .u64 _ _ _ rfl kj kj (QcC _ _ _ _ _ _ (by decide) (QcO _ (by omega)))) ?_
 refine Qaa (.int .u8 ((((m / 256 % 256) : Nat) : Int))) 34 rfl kj kj ?_
 refine Qaa (.int .i64 ((((m / 256 % 256) : Nat) : Int))) 35 rfl kj (Qai (u := .int .i64 (IntKind.i64.wrap ((((m / 256 % 256) : Nat) : Int)))) kj (congrArg (Value.int .i64) (IntWalk.i64_in _ (by omega)))) ?_
 refine Qaa (.int .i64 ((((m / 256) : Nat) : Int))) 36 rfl kj (Qai (u := .int .i64 (bits .or .i64 ((((m / 65536) * 256 : Nat) : Int)) ((((m / 256 % 256) : Nat) : Int)))) kj (congrArg (Value.int .i64) (Qea (m / 65536) (m / 256 % 256) (m / 256) (by omega) (by omega) (by omega)))) ?_
 refine Qaa (.int .i64 ((((m / 256) : Nat) : Int))) 6 rfl kj kj ?_
 refine Qac ?_
 refine hK23 _ _ ?_
 refine Qab ?_
 refine Qaa (.int .i64 3) 37 rfl kj kj ?_
 refine Qaa (.int .i64 3) 28 rfl kj kj ?_
 refine Qac ?_
 show Code.rounds _ _ _ 2 _ _
 show Code.wp _ _ (Exit.then (Code.rounds _ _ _ 1) _) _ _
 refine wp_seq_k fun K25 hK25 => ?_
 refine Qab ?_
 refine Qaa (.bool true) 29 rfl kj kj ?_
 refine Qac ?_
 refine hK25 _ _ ?_
 refine wp_seq_k fun K26 hK26 => ?_
 refine cond_true kj ?_
 refine wp_skip ?_
 refine hK26 _ _ ?_
 refine wp_seq_k fun K27 hK27 => ?_
 refine wp_block ?_
 refine wp_seq_k fun K28 hK28 => ?_
 refine Qab ?_
 refine Qaa (.pointer (some ⟨gch_12, och_12 + 3, none⟩)) 30 rfl kj (Qbp 33 _ _ .i64 3 gch_12 och_12 4 c_t 5 a_t _ hah_12 rfl rfl kj kj kj kj (Nat.lt_of_lt_of_eq (show 3 < 4 by omega) hnh_12.symm)) ?_
 refine Qaa (.int .u8 ((((m % 256) : Nat) : Int))) 31 rfl kj (QaL 5 _ _ (.int .u8 ((((m % 256) : Nat) : Int))) ((hch_12 3 (Nat.lt_of_lt_of_eq (show 3 < 4 by omega) hnh_12.symm)).trans (congrArg (fun z => some (Value.int .u8 z)) rfl)) rfl kj kj) ?_
 refine Qaa (.int .u8 ((((m % 256) : Nat) : Int))) 8 rfl kj kj ?_
 refine Qac ?_
 refine hK28 _ _ ?_
 refine Qab ?_
 refine Qaa (.int .i64 ((((m / 256) : Nat) : Int))) 32 rfl kj kj ?_
 refine Qaa (.int .i64 ((((m / 256) * 256 : Nat) : Int))) 33 rfl kj (QaJ .shl _ _ _ _ .i64 .u64 _ _ _ rfl kj kj (QcC _ _ _ _ _ _ (by decide) (QcO _ (by omega)))) ?_
 refine Qaa (.int .u8 ((((m % 256) : Nat) : Int))) 34 rfl kj kj ?_
 refine Qaa (.int .i64 ((((m % 256) : Nat) : Int))) 35 rfl kj (Qai (u := .int .i64 (IntKind.i64.wrap ((((m % 256) : Nat) : Int)))) kj (congrArg (Value.int .i64) (IntWalk.i64_in _ (by omega)))) ?_
 refine Qaa (.int .i64 (((m : Nat) : Int))) 36 rfl kj (Qai (u := .int .i64 (bits .or .i64 ((((m / 256) * 256 : Nat) : Int)) ((((m % 256) : Nat) : Int)))) kj (congrArg (Value.int .i64) (Qea (m / 256) (m % 256) m (by omega) (by omega) (by omega)))) ?_
 refine Qaa (.int .i64 (((m : Nat) : Int))) 6 rfl kj kj ?_
 refine Qac ?_
 refine hK27 _ _ ?_
 refine Qab ?_
 refine Qaa (.int .i64 4) 37 rfl kj kj ?_
 refine Qaa (.int .i64 4) 28 rfl kj kj ?_
 refine Qac ?_
 show Code.rounds _ _ _ 1 _ _
 show Code.wp _ _ (Exit.then (Code.rounds _ _ _ 0) _) _ _
 refine wp_seq_k fun K29 hK29 => ?_
 refine Qab ?_
 refine Qaa (.bool false) 29 rfl kj kj ?_
 refine Qac ?_
 refine hK29 _ _ ?_
 refine wp_seq_k fun K30 hK30 => ?_
 refine cond_false kj ?_
 refine wp_exit ?_
 refine hK10 _ _ ?_
 refine wp_seq_k fun K31 hK31 => ?_
 refine wp_seq_k fun K32 hK32 => ?_
 refine Qab ?_
 refine Qaa (.pointer (some ⟨g, 0, none⟩)) 38 rfl kj kj ?_
 refine Qaa (.pointer (some ⟨g, 0, none⟩)) 39 rfl kj kj ?_
 refine Qaa (.pointer (some ⟨g, 0, none⟩)) 40 rfl kj kj ?_
 refine Qaa (.int .i64 (((m : Nat) : Int))) 41 rfl kj kj ?_
 refine Qat (.nilIface) 88 #[.pointer (some ⟨g, 0, none⟩), .int .i64 (((m : Nat) : Int))] 42 rfl kj kj (errV_nil hc ▸ checkC g nx B ((m : Nat) : Int) hnx hB sk rk next hsk hrk _ hg) fun W1 e1 => ?_
 have x1 : ExtB g w W1 := ExtB.ext (ExtB.refl g w) e1
 refine Qaa (.nilIface) 9 rfl kj kj ?_
 refine Qac ?_
 refine hK32 _ _ ?_
 refine wp_seq_k fun K33 hK33 => ?_
 refine Qab ?_
 refine Qaa (.nilIface) 43 rfl kj kj ?_
 refine Qaa (.bool false) 44 rfl kj kj ?_
 refine Qac ?_
 refine hK33 _ _ ?_
 refine cond_false kj ?_
 refine wp_skip ?_
 refine hK31 _ _ ?_
 refine wp_seq_k fun K34 hK34 => ?_
 refine QaS 15 [⟨none, [(0, none)]⟩, ⟨none, [(47, some 0)]⟩, ⟨none, [(48, some 1)]⟩, ⟨none, [(49, some 2)]⟩, ⟨none, [(6, none)]⟩, ⟨none, [(51, some 4)]⟩, ⟨none, [(1, none)]⟩, ⟨none, [(53, some 6)]⟩, ⟨none, [(1, none)]⟩, ⟨none, [(55, some 8)]⟩, ⟨none, [(50, some 3), (52, some 5), (54, some 7), (56, some 9)]⟩, ⟨none, [(57, some 10)]⟩, ⟨none, [(46, some 11)]⟩, ⟨none, [(46, some 11)]⟩, ⟨none, [(58, some 12)]⟩] kj kj fun F hF => ?_
 refine Qa8 (Qaq _) (.pointer (some ⟨g, 0, none⟩)) kj kj (fun W => by kernel_rfl) ?_
 refine Qa8 (Qaq _) (.pointer (some ⟨g, 0, none⟩)) kj kj (fun W => by kernel_rfl) ?_
 refine Qa8 (Qaq _) (.pointer (some ⟨g, 34, none⟩)) kj kj (fun W => by kernel_rfl) ?_
 have r1_1 := (Qad hg e1)
 refine Qbu (Qaq _) (.agg (ints .u8 (rk))) kj kj (fun W hR => (QaK 23 _ g 34 136 _ _ _ (Qad (Qad r1_1 (Qah _)) hR) rfl kj (QaD [#[.int .i64 nx], #[.int .u64 ((B : Nat) : Int)], ints .u8 (sk)] [ints .u8 (rk)] [#[.int .i64 ((next : Nat) : Int)]] 34 (by rw [Qan, Qan, Qan]; simp only [Array.size_append, cat, ((Qaf _ _).trans hsk)]; rfl)) kj (isz (n := 32) kj ((Qaf _ _).trans hrk)))) ?_
 refine Qa8 (Qaq _) (.int .i64 (((m : Nat) : Int))) kj kj (fun W => by kernel_rfl) ?_
 refine Qdj (Qaq _) (OwnN .u8 5 W1.heap.size (nonV m)) (OwnN.stable _ _ _ _) 86 #[.int .i64 (((m : Nat) : Int))] kj kj (fun W => by kernel_rfl) (fun W hR => (QgY W1.heap.size m _ (Rely.Ext.trans (Qah _) hR).size)) ?_
 refine Qa8 (Qaq _) (.slice a_t sl.length c_t) kj kj (fun W => by kernel_rfl) ?_
 refine Qa8 (Qaq _) (.slice a_t 4 c_t) kj kj (fun W => (Qde (len := sl.length) 33 _ _ 4 5 rfl kj kj kj .i64 kj (Nat.le_trans h4 ctk))) ?_
 refine Qa8 (Qaq _) (.slice a_t sl.length c_t) kj kj (fun W => by kernel_rfl) ?_
 refine Qa8 (Qaq _) (.slice (Qck a_t c_t 4) (sl.length - 4) (c_t - 4)) kj kj (fun W => (Qc6 33 _ _ 4 5 rfl kj kj kj .i64 kj h4 ctk)) ?_
 have r3_1 := (Qad hh e1)
 have r2_1 := (Qad hq e1)
 refine Qfp (Qaq _) (MixR W1.heap.size text) (Qcp _ _) 74 (fun ρ W hR hX => ?_) ?_
 ·skip
  have e50_ : ρ 50 = .agg (ints .u8 (rk)) := hX.1
  have q52_ : (OwnN .u8 5 W1.heap.size (nonV m)) (ρ 52) W := hX.2.1
  obtain ⟨ar52, cr52, e52_, -⟩ := id (OwnN.rd q52_)
  have rd52_ := OwnN.rd q52_
  rw [e52_] at rd52_
  have e54_ : ρ 54 = .slice a_t 4 c_t := hX.2.2.1
  have e56_ : ρ 56 = .slice (Qck a_t c_t 4) (sl.length - 4) (c_t - 4) := hX.2.2.2.1
  refine ⟨#[.agg (ints .u8 (rk)), .slice ar52 ((nonV m).length) cr52, .slice a_t 4 c_t, .slice (Qck a_t c_t 4) (sl.length - 4) (c_t - 4)], Eq.trans (b := Result.ok (Next.enter 74 #[ρ 50, ρ 52, ρ 54, ρ 56]) W) kj (by rw [e50_, e52_, e54_, e56_]), ?_⟩
  exact ((Qh8 rk (nonV m) (hdV m) text fs es _ _ _ _ _ _ th tq W (Qad (Qad r3_1 (Qah _)) hR) (Qad (Qad r2_1 (Qah _)) hR) hrk rd52_ (RdK.ext (rdKT e4 (hst _ x1) h4) (Rely.Ext.trans (Qah _) hR)) (RdK.ext (rdKD e5 (hst _ x1) h4) (Rely.Ext.trans (Qah _) hR)) (QeB _) htb (Qfe _) (by rw [QcK]; decide) (by omega)).mono fun e W2 hg => by obtain ⟨v2, e1, e2, u, e3, e4⟩ := hg; exact ⟨v2, e1, e2, u, e3, e4.base (Rely.Ext.trans (Qah _) hR).size⟩)
 refine QcZ (Qaq _) (MixR W1.heap.size text) (Qcp _ _) (fun ρ W hR hh => ⟨ρ 57, W, by kernel_rfl, Rely.Ext.refl _, (show (MixR W1.heap.size text) (ρ 57) W from hh.1)⟩) ?_
 refine QcZ (Qaq _) (OwnN .u8 5 W1.heap.size text) (OwnN.stable _ _ _ _) (fun ρ W hR hh => ?_) ?_
 ·obtain ⟨u, e, h⟩ := (show (MixR W1.heap.size text) (ρ 46) W from hh.1)
  exact ⟨_, W, QbU (.tmp 46) 0 #[u, .nilIface] _ rfl e rfl, Rely.Ext.refl _, h⟩
 refine QcZ (Qaq _) (fun v W => v = .nilIface) (fun _ _ _ _ h => h) (fun ρ W hR hh => ?_) ?_
 ·obtain ⟨u, e, h⟩ := (show (MixR W1.heap.size text) (ρ 46) W from hh.1)
  exact ⟨_, W, QbU (.tmp 46) 1 #[u, .nilIface] _ rfl e rfl, Rely.Ext.refl _, rfl⟩
 refine QcZ (Qaq _) (OwnN .u8 5 W1.heap.size text) (OwnN.stable _ _ _ _) (fun ρ W hR hh => ⟨ρ 58, W, by kernel_rfl, Rely.Ext.refl _, (show (OwnN .u8 5 W1.heap.size text) (ρ 58) W from hh.1)⟩) ?_
 refine Qdi (hF _ fun W2 e2 => ?_)
 simp only [List.nil_append, List.cons_append, List.take_succ_cons, List.take_zero, List.drop_succ_cons, List.drop_zero, finE, up]
 intro vv35 hv35 vv36 hv36 vv37 hv37 vv38 hv38 vv39 hv39 vv40 hv40
 clear hF
 have x2 : ExtB g w W2 := ExtB.ext x1 e2
 obtain ⟨a41_, c41_, rfl, -⟩ := id (OwnN.rd hv35)
 obtain ⟨a42_, c42_, rfl, -⟩ := id (OwnN.rd hv38)
 subst hv39
 obtain ⟨a43_, c43_, rfl, -⟩ := id (OwnN.rd hv40)
 refine Qaa (.nilIface) 11 rfl kj kj ?_
 refine Qac ?_
 refine hK34 _ _ ?_
 refine wp_seq_k fun K44 hK44 => ?_
 refine wp_seq_k fun K45 hK45 => ?_
 refine Qab ?_
 refine Qaa (.nilIface) 60 rfl kj kj ?_
 refine Qaa (.bool false) 61 rfl kj kj ?_
 refine Qac ?_
 refine hK45 _ _ ?_
 refine cond_false kj ?_
 refine wp_skip ?_
 refine hK44 _ _ ?_
 refine wp_seq_k fun K46 hK46 => ?_
 refine wp_seq_k fun K47 hK47 => ?_
 refine Qab ?_
 refine Qaa (.pointer (some ⟨g, 0, none⟩)) 63 rfl kj kj ?_
 refine Qaa (.pointer (some ⟨g, 0, none⟩)) 64 rfl kj kj ?_
 refine Qaa (.pointer (some ⟨g, 0, none⟩)) 65 rfl kj kj ?_
 refine Qaa (.int .i64 (((m : Nat) : Int))) 66 rfl kj kj ?_
 have r1_2 := (Qad r1_1 e2)
 refine Qa5 (fun v W' => v = .nilIface ∧ ExtB g W2 W' ∧ W'.heap[g]? = some (.cells (cat [#[.int .i64 nx2], #[.int .u64 ((B2 : Nat) : Int)], ints .u8 (sk), ints .u8 (rk), #[.int .i64 ((next : Nat) : Int)]]) 136)) 89 #[.pointer (some ⟨g, 0, none⟩), .int .i64 (((m : Nat) : Int))] 67 rfl kj kj ((hmk _ r1_2).mono fun e w' ⟨h1, h2, h3⟩ => ⟨_, h1, rfl, h2, h3⟩) fun v W3 h => ?_
 obtain ⟨rfl, q3, r1_3⟩ := h
 have x3 : ExtB g w W3 := ExtB.trans x2 q3
 refine Qaa (.nilIface) 12 rfl kj kj ?_
 refine Qac ?_
 refine hK47 _ _ ?_
 refine wp_seq_k fun K48 hK48 => ?_
 refine Qab ?_
 refine Qaa (.nilIface) 68 rfl kj kj ?_
 refine Qaa (.bool false) 69 rfl kj kj ?_
 refine Qac ?_
 refine hK48 _ _ ?_
 refine cond_false kj ?_
 refine wp_skip ?_
 refine hK46 _ _ ?_
 refine wp_seq_k fun K49 hK49 => ?_
 refine Qab ?_
 refine Qaa (.slice a43_ ((text).length) c43_) 71 rfl kj kj ?_
 refine Qaa (.slice a43_ ((text).length) c43_) 4 rfl kj kj ?_
 refine Qaa (.nilIface) 5 rfl kj kj ?_
 refine Qac ?_
 refine hK49 _ _ ?_
 refine wp_ret ?_
 repeat (first | with_reducible refine goR1 ?_ | with_reducible refine goR2 ?_)
 have f50_3 := (Qco hv40 q3 (Qdr hv40 (Qa9 r1_1)))
 exact (show bodyPost _ _ _ .ret _ _ from ret2 (.slice a43_ ((text).length) c43_) (.nilIface) rfl (Qaz kj) (Qaz kj) ⟨_, rfl, OwnN.base x1.2.2.2.1 f50_3, x3, r1_3⟩)
set_option maxHeartbeats 4000000 in
theorem Qim (g : Nat) (nx : Int) (B : Nat) (hnx : 0 ≤ nx ∧ nx ≤ 4294967295) (hB : B < 18446744073709551616) (sk rk : List Int) (next : Nat) (hsk : sk.length = 32) (hrk : rk.length = 32) (w : World) (hg : w.heap[g]? = some (.cells (cat [#[.int .i64 nx], #[.int .u64 ((B : Nat) : Int)], ints .u8 (sk), ints .u8 (rk), #[.int .i64 ((next : Nat) : Int)]]) 136)) : Calls Tryd.prog 45 #[.pointer (some ⟨g, 0, none⟩)] w (Ret w (.int .i64 ((next : Nat) : Int))) := by
  refine enter 9 [(0, .pointer (some ⟨g, 0, none⟩))] Tryd.func45 rfl rfl kj rfl ?_
  refine wp_seq_k fun K2 hK2 => ?_
  refine Qab ?_
  refine Qaa (.int .i64 0) 2 rfl kj kj ?_
  refine Qac ?_
  refine hK2 _ _ ?_
  refine wp_seq_k fun K3 hK3 => ?_
  refine wp_seq_k fun K4 hK4 => ?_
  refine Qab ?_
  refine Qaa (.pointer (some ⟨g, 0, none⟩)) 3 rfl kj kj ?_
  refine Qaa (.bool false) 4 rfl kj kj ?_
  refine Qac ?_
  refine hK4 _ _ ?_
  refine cond_false kj ?_
  refine wp_skip ?_
  refine hK3 _ _ ?_
  refine wp_seq_k fun K5 hK5 => ?_
  refine Qab ?_
  refine Qaa (.pointer (some ⟨g, 0, none⟩)) 5 rfl kj kj ?_
  refine Qaa (.pointer (some ⟨g, 0, none⟩)) 6 rfl kj kj ?_
  refine Qaa (.pointer (some ⟨g, 66, none⟩)) 7 rfl kj kj ?_
  refine Qaa (.int .i64 ((next : Nat) : Int)) 8 rfl kj (Qae 3 _ g 66 136 _ (.int .i64 ((next : Nat) : Int)) _ hg rfl kj (QaD [#[.int .i64 nx], #[.int .u64 ((B : Nat) : Int)], ints .u8 (sk), ints .u8 (rk)] [#[.int .i64 ((next : Nat) : Int)]] [] 66 (by rw [Qan, Qan, Qan, Qan]; simp only [Array.size_append, cat, ((Qaf _ _).trans hrk), ((Qaf _ _).trans hsk)]; rfl) 0 _ rfl) kj) ?_
  refine Qaa (.int .i64 ((next : Nat) : Int)) 2 rfl kj kj ?_
  refine Qac ?_
  refine hK5 _ _ ?_
  refine wp_ret ?_
  repeat (first | with_reducible refine goR1 ?_ | with_reducible refine goR2 ?_)
  exact (show bodyPost _ _ _ .ret _ _ from ret1 (.int .i64 ((next : Nat) : Int)) rfl (Qaz kj) ⟨rfl, (Rely.Ext.refl w)⟩)
set_option maxHeartbeats 4000000 in
theorem HighestC (g : Nat) (nx : Int) (B : Nat) (hnx : 0 ≤ nx ∧ nx ≤ 4294967295) (hB : B < 18446744073709551616) (sk rk : List Int) (next : Nat) (hsk : sk.length = 32) (hrk : rk.length = 32) (w : World) (hg : w.heap[g]? = some (.cells (cat [#[.int .i64 nx], #[.int .u64 ((B : Nat) : Int)], ints .u8 (sk), ints .u8 (rk), #[.int .i64 ((next : Nat) : Int)]]) 136)) : Calls Tryd.prog 44 #[.pointer (some ⟨g, 0, none⟩)] w (Ret w (.int .i64 (nx - 1))) := by
  refine enter 9 [(0, .pointer (some ⟨g, 0, none⟩))] Tryd.func44 rfl rfl kj rfl ?_
  refine wp_seq_k fun K2 hK2 => ?_
  refine Qab ?_
  refine Qaa (.int .i64 0) 2 rfl kj kj ?_
  refine Qac ?_
  refine hK2 _ _ ?_
  refine wp_seq_k fun K3 hK3 => ?_
  refine wp_seq_k fun K4 hK4 => ?_
  refine Qab ?_
  refine Qaa (.pointer (some ⟨g, 0, none⟩)) 3 rfl kj kj ?_
  refine Qaa (.bool false) 4 rfl kj kj ?_
  refine Qac ?_
  refine hK4 _ _ ?_
  refine cond_false kj ?_
  refine wp_skip ?_
  refine hK3 _ _ ?_
  refine wp_seq_k fun K5 hK5 => ?_
  refine Qab ?_
  refine Qaa (.pointer (some ⟨g, 0, none⟩)) 5 rfl kj kj ?_
  refine Qaa (.pointer (some ⟨g, 0, none⟩)) 6 rfl kj kj ?_
  refine Qaa (.pointer (some ⟨g, 0, none⟩)) 7 rfl kj kj ?_
  refine Qat (.int .i64 (nx - 1)) 85 #[.pointer (some ⟨g, 0, none⟩)] 8 rfl kj kj (highestC g nx B hnx hB sk rk next hsk hrk _ hg) fun W1 e1 => ?_
  have x1 : Ext w W1 := Ext.tr (Rely.Ext.refl w) e1
  refine Qaa (.int .i64 (nx - 1)) 2 rfl kj kj ?_
  refine Qac ?_
  refine hK5 _ _ ?_
  refine wp_ret ?_
  repeat (first | with_reducible refine goR1 ?_ | with_reducible refine goR2 ?_)
  exact (show bodyPost _ _ _ .ret _ _ from ret1 (.int .i64 (nx - 1)) rfl (Qaz kj) ⟨rfl, x1⟩)
end Go.Proofs.YtoiendjhplbjjaaDoor.Ll
end
section
namespace Go.Proofs.YtoiendjhplbjjaaDoor.Ll
open Go Go.RowKit
open Rely Auto Own Sha Sha
set_option linter.unusedVariables false
set_option linter.unusedSimpArgs false
def rng (n : Nat) : List Int := (List.range n).map fun i => ((i : Nat) : Int)
theorem QdY (n : Nat) : rng (n + 1) = rng n ++ [((n : Nat) : Int)] := by simp [rng, List.range_succ]
theorem Qgk : ∀ n : Nat, hiT (rng n) = ((n : Nat) : Int) - 1
  | 0 => rfl
  | n + 1 => by rw [QdY, QcW, Qgk n]; split <;> omega
theorem Qej (n : Nat) (h : n < 4294967295) : chkT (rng n) ((n : Nat) : Int) = 0 := by
  unfold chkT
  rw [if_neg (by omega), Qgk, if_neg (by omega), if_neg]
  intro hm
  obtain ⟨i, hi, e⟩ := List.mem_map.1 hm
  have := List.mem_range.1 hi
  omega
theorem QhR {nx : Int} {B : Nat} {ts : List Int} (h : WInv nx B ts) {n : Int} (hc : chkT ts n = 0) : ∃ (nx2 : Int) (B2 : Nat), WInv nx2 B2 (ts ++ [n]) ∧
    ∀ (g : Nat) (sk rk : List Int) (next : Nat) (hsk : sk.length = 32) (hrk : rk.length = 32) (w : World) (hg : w.heap[g]? = some (.cells (cat [#[.int .i64 nx], #[.int .u64 ((B : Nat) : Int)], ints .u8 (sk), ints .u8 (rk), #[.int .i64 ((next : Nat) : Int)]]) 136)), Calls Tryd.prog 89 #[.pointer (some ⟨g, 0, none⟩), .int .i64 n] w (fun e W2 => e = .returned .nilIface ∧ ExtB g w W2 ∧ W2.heap[g]? = some (.cells (cat [#[.int .i64 nx2], #[.int .u64 ((B2 : Nat) : Int)], ints .u8 (sk), ints .u8 (rk), #[.int .i64 ((next : Nat) : Int)]]) 136)) := by
  obtain ⟨h0, h1, h2, h3⟩ := Qeh hc
  have hcw : chkW nx B n = 0 := (Qei h n).trans hc
  have hh := h.hhi
  have hn := h.hnx
  by_cases hlt : n < nx - 1
  · obtain ⟨j, hj⟩ := Int.eq_ofNat_of_zero_le (show 0 ≤ nx - 1 - n - 1 by omega)
    have hj2 : j < 64 := by omega
    exact ⟨_, _, Qio h hc j hj hj2, fun g sk rk next hsk hrk w hg => mark_F g nx B n h.hnx h.hB sk rk next hsk hrk w hg hcw j hj hj2⟩
  · have hne : n ≠ nx - 1 := fun e => by
      rcases Qgl ts with h4 | h4
      · omega
      · exact h3 (by rw [e, ← hh]; exact h4)
    obtain ⟨a, ha⟩ := Int.eq_ofNat_of_zero_le (show 0 ≤ n - (nx - 1) by omega)
    exact ⟨_, _, Qin h hc a ha (by omega), fun g sk rk next hsk hrk w hg => mark_G g nx B n h.hnx h.hB sk rk next hsk hrk w hg hcw ⟨h0, by omega⟩ a ha (by omega)⟩
end Go.Proofs.YtoiendjhplbjjaaDoor.Ll
end
section
namespace Go.Proofs.YtoiendjhplbjjaaDoor.Lk
open Go Go.RowKit
open Rely Auto
set_option linter.unusedVariables false
def ExtB (g : Nat) (w W : World) : Prop := W.os = w.os ∧ W.tape = w.tape ∧ W.output = w.output ∧ w.heap.size ≤ W.heap.size ∧ ∀ k, k < w.heap.size → k ≠ g → W.heap[k]? = w.heap[k]?
theorem ExtB.refl (g : Nat) (w : World) : ExtB g w w := ⟨rfl, rfl, rfl, Nat.le_refl _, fun _ _ _ => rfl⟩
theorem ExtB.ext {g : Nat} {w W W' : World} (h : ExtB g w W) (e : Ext W W') : ExtB g w W' :=
  ⟨e.os.trans h.1, e.tape.trans h.2.1, e.output.trans h.2.2.1, Nat.le_trans h.2.2.2.1 e.size, fun k hk hn => (e.block k (Nat.lt_of_lt_of_le hk h.2.2.2.1)).trans (h.2.2.2.2 k hk hn)⟩
theorem ExtB.puts {g : Nat} {w W W' : World} (h : ExtB g w W) (p : Puts W g W') : ExtB g w W' :=
  ⟨p.1.trans h.1, p.2.1.trans h.2.1, p.2.2.1.trans h.2.2.1, by have := h.2.2.2.1; have := p.2.2.2.1; omega, fun k hk hn => (p.2.2.2.2 k hn).trans (h.2.2.2.2 k hk hn)⟩
theorem ExtB.row {g : Nat} {w W : World} {k : Nat} {ob : Obj} (h : ExtB g w W) (r : w.heap[k]? = some ob) (hn : k ≠ g) : W.heap[k]? = some ob := (h.2.2.2.2 k (by
  rcases Nat.lt_or_ge k w.heap.size with hl | hl
  · exact hl
  · rw [Array.getElem?_eq_none hl] at r; cases r) hn).trans r
theorem ExtB.up {g : Nat} {w0 w W : World} (h : Ext w0 w) (k : ExtB g w W) (lo : w0.heap.size ≤ g) : Ext w0 W :=
  ⟨k.1.trans h.os, k.2.1.trans h.tape, k.2.2.1.trans h.output, Nat.le_trans h.size k.2.2.2.1, fun i hi => (k.2.2.2.2 i (Nat.lt_of_lt_of_le hi h.size) (by omega)).trans (h.block i hi)⟩
theorem i64_w (v : Int) (h : -5000000000 ≤ v ∧ v ≤ 5000000000) : IntKind.i64.wrap v = v := IntWalk.i64_in _ (by omega)
theorem shrB (B j : Nat) (hj : j < 64) : ((B : Nat) : Int).fdiv (2 ^ min ((j : Nat) : Int).toNat IntKind.u64.bits) = ((B / 2 ^ j : Nat) : Int) := by
  rw [show min (((j : Nat) : Int).toNat) IntKind.u64.bits = j by show min (((j : Nat) : Int).toNat) 64 = j; omega]
  rw [Int.fdiv_eq_ediv_of_nonneg _ (Int.le_of_lt (Int.pow_pos (by decide))), Int.natCast_ediv, Int.natCast_pow]
  rfl
theorem andB (m : Nat) (h : m < 18446744073709551616) : bits .and .u64 ((m : Nat) : Int) 1 = ((m % 2 : Nat) : Int) := by
  rw [show (1 : Int) = ((1 : Nat) : Int) from rfl, bits_and_u64_nat m 1 h (by omega), Nat.and_one_is_mod]
theorem orB (a b : Nat) (ha : a < 18446744073709551616) (hb : b < 18446744073709551616) : bits .or .u64 ((a : Nat) : Int) ((b : Nat) : Int) = ((a ||| b : Nat) : Int) := by
  have h := u64_or (a : Int) b (by omega) (by omega) (by omega) (by omega)
  simpa using h
theorem wrapN (m : Nat) : IntKind.u64.wrap ((m : Nat) : Int) = ((m % 18446744073709551616 : Nat) : Int) := by rw [IntKind.wrap_u64]; omega
theorem pow_big (B a : Nat) (h : 64 ≤ a) : B * 2 ^ a % 18446744073709551616 = 0 := by
  obtain ⟨c, rfl⟩ : ∃ c, a = 64 + c := ⟨a - 64, by omega⟩
  rw [Nat.pow_add, ← Nat.mul_assoc, Nat.mul_comm B, Nat.mul_assoc]
  exact Nat.mul_mod_right _ _
theorem shlB (B a : Nat) : IntKind.u64.wrap (((B : Nat) : Int) * 2 ^ min ((a : Nat) : Int).toNat IntKind.u64.bits) = ((B * 2 ^ a % 18446744073709551616 : Nat) : Int) := by
  have e : ∀ c : Nat, ((B : Nat) : Int) * 2 ^ c = ((B * 2 ^ c : Nat) : Int) := fun c => by rw [Int.natCast_mul, Int.natCast_pow]; rfl
  rw [e, wrapN]
  have hm : min (((a : Nat) : Int).toNat) IntKind.u64.bits = min a 64 := by show min (((a : Nat) : Int).toNat) 64 = min a 64; rw [Int.toNat_natCast]
  rw [hm]
  rcases Nat.lt_or_ge a 64 with h | h
  · rw [show min a 64 = a by omega]
  · rw [show min a 64 = 64 by omega, pow_big B 64 (by omega), pow_big B a h]
def chkW (nx : Int) (B : Nat) (n : Int) : Int := if n < 0 ∨ 4294967295 ≤ n then 8 else if 64 < nx - 1 - n then 11 else if nx - 1 - n = 0 ∨ (0 < nx - 1 - n ∧ B / 2 ^ (nx - 1 - n - 1).toNat % 2 = 1) then 7 else 0
def errV (e : Int) : Value := if e = 0 then .nilIface else .iface 60 (.int .i64 e)
set_option maxHeartbeats 4000000 in
theorem highestC (g : Nat) (nx : Int) (B : Nat) (hnx : 0 ≤ nx ∧ nx ≤ 4294967295) (hB : B < 18446744073709551616) (w : World) (hg : w.heap[g]? = some (.cells (cat [#[.int .i64 nx], #[.int .u64 ((B : Nat) : Int)]]) 133)) : Calls Tryd.prog 85 #[.pointer (some ⟨g, 0, none⟩)] w (Ret w (.int .i64 (nx - 1))) := by
  refine enter 8 [(0, .pointer (some ⟨g, 0, none⟩))] Tryd.func85 rfl rfl (by kernel_rfl) rfl ?_
  refine wp_seq_k fun K2 hK2 => ?_
  refine Qab ?_
  refine Qaa (.int .i64 0) 2 rfl (by kernel_rfl) (by kernel_rfl) ?_
  refine Qac ?_
  refine hK2 _ _ ?_
  refine wp_seq_k fun K3 hK3 => ?_
  refine Qab ?_
  refine Qaa (.pointer (some ⟨g, 0, none⟩)) 3 rfl (by kernel_rfl) (by kernel_rfl) ?_
  refine Qaa (.pointer (some ⟨g, 0, none⟩)) 4 rfl (by kernel_rfl) (by kernel_rfl) ?_
  refine Qaa (.pointer (some ⟨g, 0, none⟩)) 5 rfl (by kernel_rfl) (by kernel_rfl) ?_
  refine Qaa (.int .i64 nx) 6 rfl (by kernel_rfl) (Qae 3 _ g 0 133 _ (.int .i64 nx) _ hg rfl (by kernel_rfl) (by kernel_rfl) (by kernel_rfl)) ?_
  refine Qaa (.int .i64 (nx - 1)) 7 rfl (by kernel_rfl) (Qai (u := .int .i64 (IntKind.i64.wrap (nx - 1))) (by kernel_rfl) (congrArg (Value.int .i64) (i64_w _ (by omega)))) ?_
  refine Qaa (.int .i64 (nx - 1)) 2 rfl (by kernel_rfl) (by kernel_rfl) ?_
  refine Qac ?_
  refine hK3 _ _ ?_
  refine wp_ret ?_
  repeat (first | with_reducible refine goR1 ?_ | with_reducible refine goR2 ?_)
  exact (show bodyPost _ _ _ .ret _ _ from ret1 (.int .i64 (nx - 1)) rfl (Qaz (by kernel_rfl)) ⟨rfl, (Rely.Ext.refl w)⟩)
set_option maxHeartbeats 4000000 in
theorem HighestC (g : Nat) (nx : Int) (B : Nat) (hnx : 0 ≤ nx ∧ nx ≤ 4294967295) (hB : B < 18446744073709551616) (w : World) (hg : w.heap[g]? = some (.cells (cat [#[.int .i64 nx], #[.int .u64 ((B : Nat) : Int)]]) 133)) : Calls Tryd.prog 84 #[.pointer (some ⟨g, 0, none⟩)] w (Ret w (.int .i64 (nx - 1))) := by
  refine enter 9 [(0, .pointer (some ⟨g, 0, none⟩))] Tryd.func84 rfl rfl (by kernel_rfl) rfl ?_
  refine wp_seq_k fun K2 hK2 => ?_
  refine Qab ?_
  refine Qaa (.int .i64 0) 2 rfl (by kernel_rfl) (by kernel_rfl) ?_
  refine Qac ?_
  refine hK2 _ _ ?_
  refine wp_seq_k fun K3 hK3 => ?_
  refine wp_seq_k fun K4 hK4 => ?_
  refine Qab ?_
  refine Qaa (.pointer (some ⟨g, 0, none⟩)) 3 rfl (by kernel_rfl) (by kernel_rfl) ?_
  refine Qaa (.bool false) 4 rfl (by kernel_rfl) (by kernel_rfl) ?_
  refine Qac ?_
  refine hK4 _ _ ?_
  refine cond_false (by kernel_rfl) ?_
  refine wp_skip ?_
  refine hK3 _ _ ?_
  refine wp_seq_k fun K5 hK5 => ?_
  refine Qab ?_
  refine Qaa (.pointer (some ⟨g, 0, none⟩)) 5 rfl (by kernel_rfl) (by kernel_rfl) ?_
  refine Qaa (.pointer (some ⟨g, 0, none⟩)) 6 rfl (by kernel_rfl) (by kernel_rfl) ?_
  refine Qaa (.pointer (some ⟨g, 0, none⟩)) 7 rfl (by kernel_rfl) (by kernel_rfl) ?_
  refine Qat (.int .i64 (nx - 1)) 85 #[.pointer (some ⟨g, 0, none⟩)] 8 rfl (by kernel_rfl) (by kernel_rfl) (highestC g nx B hnx hB _ hg) fun W1 e1 => ?_
  have x1 : Ext w W1 := Ext.tr (Rely.Ext.refl w) e1
  refine Qaa (.int .i64 (nx - 1)) 2 rfl (by kernel_rfl) (by kernel_rfl) ?_
  refine Qac ?_
  refine hK5 _ _ ?_
  refine wp_ret ?_
  repeat (first | with_reducible refine goR1 ?_ | with_reducible refine goR2 ?_)
  exact (show bodyPost _ _ _ .ret _ _ from ret1 (.int .i64 (nx - 1)) rfl (Qaz (by kernel_rfl)) ⟨rfl, x1⟩)
set_option maxHeartbeats 4000000 in
theorem check_A (g : Nat) (nx : Int) (B : Nat) (n : Int) (hnx : 0 ≤ nx ∧ nx ≤ 4294967295) (hB : B < 18446744073709551616) (w : World) (hg : w.heap[g]? = some (.cells (cat [#[.int .i64 nx], #[.int .u64 ((B : Nat) : Int)]]) 133)) (hc : n < 0) : Calls Tryd.prog 88 #[.pointer (some ⟨g, 0, none⟩), .int .i64 n] w (Ret w (.iface 60 (.int .i64 8))) := by
  refine enter 38 [(0, .pointer (some ⟨g, 0, none⟩)), (1, .int .i64 n)] Tryd.func88 rfl rfl (by kernel_rfl) rfl ?_
  refine wp_seq_k fun K2 hK2 => ?_
  refine Qab ?_
  refine Qaa (.nilIface) 4 rfl (by kernel_rfl) (by kernel_rfl) ?_
  refine Qac ?_
  refine hK2 _ _ ?_
  refine wp_seq_k fun K3 hK3 => ?_
  refine wp_seq_k fun K4 hK4 => ?_
  refine Qab ?_
  refine Qaa (.int .i64 n) 6 rfl (by kernel_rfl) (by kernel_rfl) ?_
  refine Qaa (.bool true) 7 rfl (by kernel_rfl) (Qai (u := .bool (decide (n < 0))) (by kernel_rfl) (congrArg Value.bool (decide_eq_true (by omega)))) ?_
  refine Qaa (.bool true) 8 rfl (by kernel_rfl) (by kernel_rfl) ?_
  refine Qa0 9 rfl (by kernel_rfl) ?_
  refine Qa0 10 rfl (by kernel_rfl) ?_
  refine Qaa (.bool true) 11 rfl (by kernel_rfl) (by kernel_rfl) ?_
  refine Qac ?_
  refine hK4 _ _ ?_
  refine cond_true (by kernel_rfl) ?_
  refine wp_seq_k fun K5 hK5 => ?_
  refine Qab ?_
  refine Qaa (.iface 60 (.int .i64 8)) 12 rfl (by kernel_rfl) (by kernel_rfl) ?_
  refine Qaa (.iface 60 (.int .i64 8)) 4 rfl (by kernel_rfl) (by kernel_rfl) ?_
  refine Qac ?_
  refine hK5 _ _ ?_
  refine wp_ret ?_
  repeat (first | with_reducible refine goR1 ?_ | with_reducible refine goR2 ?_)
  exact (show bodyPost _ _ _ .ret _ _ from ret1 (.iface 60 (.int .i64 8)) rfl (Qaz (by kernel_rfl)) ⟨rfl, (Rely.Ext.refl w)⟩)
set_option maxHeartbeats 4000000 in
theorem check_B (g : Nat) (nx : Int) (B : Nat) (n : Int) (hnx : 0 ≤ nx ∧ nx ≤ 4294967295) (hB : B < 18446744073709551616) (w : World) (hg : w.heap[g]? = some (.cells (cat [#[.int .i64 nx], #[.int .u64 ((B : Nat) : Int)]]) 133)) (hc : 4294967295 ≤ n) : Calls Tryd.prog 88 #[.pointer (some ⟨g, 0, none⟩), .int .i64 n] w (Ret w (.iface 60 (.int .i64 8))) := by
  refine enter 38 [(0, .pointer (some ⟨g, 0, none⟩)), (1, .int .i64 n)] Tryd.func88 rfl rfl (by kernel_rfl) rfl ?_
  refine wp_seq_k fun K2 hK2 => ?_
  refine Qab ?_
  refine Qaa (.nilIface) 4 rfl (by kernel_rfl) (by kernel_rfl) ?_
  refine Qac ?_
  refine hK2 _ _ ?_
  refine wp_seq_k fun K3 hK3 => ?_
  refine wp_seq_k fun K4 hK4 => ?_
  refine Qab ?_
  refine Qaa (.int .i64 n) 6 rfl (by kernel_rfl) (by kernel_rfl) ?_
  refine Qaa (.bool false) 7 rfl (by kernel_rfl) (Qai (u := .bool (decide (n < 0))) (by kernel_rfl) (congrArg Value.bool (decide_eq_false (by omega)))) ?_
  refine Qaa (.bool false) 8 rfl (by kernel_rfl) (by kernel_rfl) ?_
  refine Qaa (.int .i64 n) 9 rfl (by kernel_rfl) (by kernel_rfl) ?_
  refine Qaa (.bool true) 10 rfl (by kernel_rfl) (Qai (u := .bool (decide (n ≥ 4294967295))) (by kernel_rfl) (congrArg Value.bool (decide_eq_true (by omega)))) ?_
  refine Qaa (.bool true) 11 rfl (by kernel_rfl) (by kernel_rfl) ?_
  refine Qac ?_
  refine hK4 _ _ ?_
  refine cond_true (by kernel_rfl) ?_
  refine wp_seq_k fun K5 hK5 => ?_
  refine Qab ?_
  refine Qaa (.iface 60 (.int .i64 8)) 12 rfl (by kernel_rfl) (by kernel_rfl) ?_
  refine Qaa (.iface 60 (.int .i64 8)) 4 rfl (by kernel_rfl) (by kernel_rfl) ?_
  refine Qac ?_
  refine hK5 _ _ ?_
  refine wp_ret ?_
  repeat (first | with_reducible refine goR1 ?_ | with_reducible refine goR2 ?_)
  exact (show bodyPost _ _ _ .ret _ _ from ret1 (.iface 60 (.int .i64 8)) rfl (Qaz (by kernel_rfl)) ⟨rfl, (Rely.Ext.refl w)⟩)
set_option maxHeartbeats 4000000 in
theorem check_C (g : Nat) (nx : Int) (B : Nat) (n : Int) (hnx : 0 ≤ nx ∧ nx ≤ 4294967295) (hB : B < 18446744073709551616) (w : World) (hg : w.heap[g]? = some (.cells (cat [#[.int .i64 nx], #[.int .u64 ((B : Nat) : Int)]]) 133)) (hn : 0 ≤ n ∧ n < 4294967295) (hc : 64 < nx - 1 - n) : Calls Tryd.prog 88 #[.pointer (some ⟨g, 0, none⟩), .int .i64 n] w (Ret w (.iface 60 (.int .i64 11))) := by
  refine enter 38 [(0, .pointer (some ⟨g, 0, none⟩)), (1, .int .i64 n)] Tryd.func88 rfl rfl (by kernel_rfl) rfl ?_
  refine wp_seq_k fun K2 hK2 => ?_
  refine Qab ?_
  refine Qaa (.nilIface) 4 rfl (by kernel_rfl) (by kernel_rfl) ?_
  refine Qac ?_
  refine hK2 _ _ ?_
  refine wp_seq_k fun K3 hK3 => ?_
  refine wp_seq_k fun K4 hK4 => ?_
  refine Qab ?_
  refine Qaa (.int .i64 n) 6 rfl (by kernel_rfl) (by kernel_rfl) ?_
  refine Qaa (.bool false) 7 rfl (by kernel_rfl) (Qai (u := .bool (decide (n < 0))) (by kernel_rfl) (congrArg Value.bool (decide_eq_false (by omega)))) ?_
  refine Qaa (.bool false) 8 rfl (by kernel_rfl) (by kernel_rfl) ?_
  refine Qaa (.int .i64 n) 9 rfl (by kernel_rfl) (by kernel_rfl) ?_
  refine Qaa (.bool false) 10 rfl (by kernel_rfl) (Qai (u := .bool (decide (n ≥ 4294967295))) (by kernel_rfl) (congrArg Value.bool (decide_eq_false (by omega)))) ?_
  refine Qaa (.bool false) 11 rfl (by kernel_rfl) (by kernel_rfl) ?_
  refine Qac ?_
  refine hK4 _ _ ?_
  refine cond_false (by kernel_rfl) ?_
  refine wp_skip ?_
  refine hK3 _ _ ?_
  refine wp_seq_k fun K5 hK5 => ?_
  refine Qab ?_
  refine Qaa (.pointer (some ⟨g, 0, none⟩)) 13 rfl (by kernel_rfl) (by kernel_rfl) ?_
  refine Qat (.int .i64 (nx - 1)) 85 #[.pointer (some ⟨g, 0, none⟩)] 14 rfl (by kernel_rfl) (by kernel_rfl) (highestC g nx B hnx hB _ hg) fun W1 e1 => ?_
  have x1 : Ext w W1 := Ext.tr (Rely.Ext.refl w) e1
  refine Qaa (.int .i64 n) 15 rfl (by kernel_rfl) (by kernel_rfl) ?_
  refine Qaa (.int .i64 (nx - 1 - n)) 16 rfl (by kernel_rfl) (Qai (u := .int .i64 (IntKind.i64.wrap ((nx - 1) - n))) (by kernel_rfl) (congrArg (Value.int .i64) (i64_w _ (by omega)))) ?_
  refine Qaa (.int .i64 (nx - 1 - n)) 5 rfl (by kernel_rfl) (by kernel_rfl) ?_
  refine Qac ?_
  refine hK5 _ _ ?_
  refine wp_seq_k fun K6 hK6 => ?_
  refine wp_seq_k fun K7 hK7 => ?_
  refine Qab ?_
  refine Qaa (.int .i64 (nx - 1 - n)) 17 rfl (by kernel_rfl) (by kernel_rfl) ?_
  refine Qaa (.bool true) 18 rfl (by kernel_rfl) (Qai (u := .bool (decide ((nx - 1 - n) > 64))) (by kernel_rfl) (congrArg Value.bool (decide_eq_true (by omega)))) ?_
  refine Qac ?_
  refine hK7 _ _ ?_
  refine cond_true (by kernel_rfl) ?_
  refine wp_seq_k fun K8 hK8 => ?_
  refine Qab ?_
  refine Qaa (.iface 60 (.int .i64 11)) 19 rfl (by kernel_rfl) (by kernel_rfl) ?_
  refine Qaa (.iface 60 (.int .i64 11)) 4 rfl (by kernel_rfl) (by kernel_rfl) ?_
  refine Qac ?_
  refine hK8 _ _ ?_
  refine wp_ret ?_
  repeat (first | with_reducible refine goR1 ?_ | with_reducible refine goR2 ?_)
  exact (show bodyPost _ _ _ .ret _ _ from ret1 (.iface 60 (.int .i64 11)) rfl (Qaz (by kernel_rfl)) ⟨rfl, x1⟩)
set_option maxHeartbeats 4000000 in
theorem check_D (g : Nat) (nx : Int) (B : Nat) (n : Int) (hnx : 0 ≤ nx ∧ nx ≤ 4294967295) (hB : B < 18446744073709551616) (w : World) (hg : w.heap[g]? = some (.cells (cat [#[.int .i64 nx], #[.int .u64 ((B : Nat) : Int)]]) 133)) (hn : 0 ≤ n ∧ n < 4294967295) (hc : nx - 1 - n = 0) : Calls Tryd.prog 88 #[.pointer (some ⟨g, 0, none⟩), .int .i64 n] w (Ret w (.iface 60 (.int .i64 7))) := by
  refine enter 38 [(0, .pointer (some ⟨g, 0, none⟩)), (1, .int .i64 n)] Tryd.func88 rfl rfl (by kernel_rfl) rfl ?_
  refine wp_seq_k fun K2 hK2 => ?_
  refine Qab ?_
  refine Qaa (.nilIface) 4 rfl (by kernel_rfl) (by kernel_rfl) ?_
  refine Qac ?_
  refine hK2 _ _ ?_
  refine wp_seq_k fun K3 hK3 => ?_
  refine wp_seq_k fun K4 hK4 => ?_
  refine Qab ?_
  refine Qaa (.int .i64 n) 6 rfl (by kernel_rfl) (by kernel_rfl) ?_
  refine Qaa (.bool false) 7 rfl (by kernel_rfl) (Qai (u := .bool (decide (n < 0))) (by kernel_rfl) (congrArg Value.bool (decide_eq_false (by omega)))) ?_
  refine Qaa (.bool false) 8 rfl (by kernel_rfl) (by kernel_rfl) ?_
  refine Qaa (.int .i64 n) 9 rfl (by kernel_rfl) (by kernel_rfl) ?_
  refine Qaa (.bool false) 10 rfl (by kernel_rfl) (Qai (u := .bool (decide (n ≥ 4294967295))) (by kernel_rfl) (congrArg Value.bool (decide_eq_false (by omega)))) ?_
  refine Qaa (.bool false) 11 rfl (by kernel_rfl) (by kernel_rfl) ?_
  refine Qac ?_
  refine hK4 _ _ ?_
  refine cond_false (by kernel_rfl) ?_
  refine wp_skip ?_
  refine hK3 _ _ ?_
  refine wp_seq_k fun K5 hK5 => ?_
  refine Qab ?_
  refine Qaa (.pointer (some ⟨g, 0, none⟩)) 13 rfl (by kernel_rfl) (by kernel_rfl) ?_
  refine Qat (.int .i64 (nx - 1)) 85 #[.pointer (some ⟨g, 0, none⟩)] 14 rfl (by kernel_rfl) (by kernel_rfl) (highestC g nx B hnx hB _ hg) fun W1 e1 => ?_
  have x1 : Ext w W1 := Ext.tr (Rely.Ext.refl w) e1
  refine Qaa (.int .i64 n) 15 rfl (by kernel_rfl) (by kernel_rfl) ?_
  refine Qaa (.int .i64 (nx - 1 - n)) 16 rfl (by kernel_rfl) (Qai (u := .int .i64 (IntKind.i64.wrap ((nx - 1) - n))) (by kernel_rfl) (congrArg (Value.int .i64) (i64_w _ (by omega)))) ?_
  refine Qaa (.int .i64 (nx - 1 - n)) 5 rfl (by kernel_rfl) (by kernel_rfl) ?_
  refine Qac ?_
  refine hK5 _ _ ?_
  refine wp_seq_k fun K6 hK6 => ?_
  refine wp_seq_k fun K7 hK7 => ?_
  refine Qab ?_
  refine Qaa (.int .i64 (nx - 1 - n)) 17 rfl (by kernel_rfl) (by kernel_rfl) ?_
  refine Qaa (.bool false) 18 rfl (by kernel_rfl) (Qai (u := .bool (decide ((nx - 1 - n) > 64))) (by kernel_rfl) (congrArg Value.bool (decide_eq_false (by omega)))) ?_
  refine Qac ?_
  refine hK7 _ _ ?_
  refine cond_false (by kernel_rfl) ?_
  refine wp_skip ?_
  refine hK6 _ _ ?_
  refine wp_seq_k fun K8 hK8 => ?_
  refine wp_seq_k fun K9 hK9 => ?_
  refine Qab ?_
  refine Qaa (.int .i64 (nx - 1 - n)) 20 rfl (by kernel_rfl) (by kernel_rfl) ?_
  refine Qaa (.bool true) 21 rfl (by kernel_rfl) (Qai (u := .bool (((nx - 1 - n) == 0))) (by kernel_rfl) (congrArg Value.bool (by simp; omega))) ?_
  refine Qaa (.bool true) 22 rfl (by kernel_rfl) (by kernel_rfl) ?_
  refine Qa0 23 rfl (by kernel_rfl) ?_
  refine Qa0 24 rfl (by kernel_rfl) ?_
  refine Qa0 25 rfl (by kernel_rfl) ?_
  refine Qa0 26 rfl (by kernel_rfl) ?_
  refine Qa0 27 rfl (by kernel_rfl) ?_
  refine Qa0 28 rfl (by kernel_rfl) ?_
  refine Qa0 29 rfl (by kernel_rfl) ?_
  refine Qa0 30 rfl (by kernel_rfl) ?_
  refine Qa0 31 rfl (by kernel_rfl) ?_
  refine Qa0 32 rfl (by kernel_rfl) ?_
  refine Qa0 33 rfl (by kernel_rfl) ?_
  refine Qa0 34 rfl (by kernel_rfl) ?_
  refine Qa0 35 rfl (by kernel_rfl) ?_
  refine Qaa (.bool true) 36 rfl (by kernel_rfl) (by kernel_rfl) ?_
  refine Qac ?_
  refine hK9 _ _ ?_
  refine cond_true (by kernel_rfl) ?_
  refine wp_seq_k fun K10 hK10 => ?_
  refine Qab ?_
  refine Qaa (.iface 60 (.int .i64 7)) 37 rfl (by kernel_rfl) (by kernel_rfl) ?_
  refine Qaa (.iface 60 (.int .i64 7)) 4 rfl (by kernel_rfl) (by kernel_rfl) ?_
  refine Qac ?_
  refine hK10 _ _ ?_
  refine wp_ret ?_
  repeat (first | with_reducible refine goR1 ?_ | with_reducible refine goR2 ?_)
  exact (show bodyPost _ _ _ .ret _ _ from ret1 (.iface 60 (.int .i64 7)) rfl (Qaz (by kernel_rfl)) ⟨rfl, x1⟩)
set_option maxHeartbeats 4000000 in
theorem check_E (g : Nat) (nx : Int) (B : Nat) (n : Int) (hnx : 0 ≤ nx ∧ nx ≤ 4294967295) (hB : B < 18446744073709551616) (w : World) (hg : w.heap[g]? = some (.cells (cat [#[.int .i64 nx], #[.int .u64 ((B : Nat) : Int)]]) 133)) (hn : 0 ≤ n ∧ n < 4294967295) (j : Nat) (hj : nx - 1 - n - 1 = (j : Int)) (hj2 : j < 64) (hc : B / 2 ^ j % 2 = 1) : Calls Tryd.prog 88 #[.pointer (some ⟨g, 0, none⟩), .int .i64 n] w (Ret w (.iface 60 (.int .i64 7))) := by
  refine enter 38 [(0, .pointer (some ⟨g, 0, none⟩)), (1, .int .i64 n)] Tryd.func88 rfl rfl (by kernel_rfl) rfl ?_
  refine wp_seq_k fun K2 hK2 => ?_
  refine Qab ?_
  refine Qaa (.nilIface) 4 rfl (by kernel_rfl) (by kernel_rfl) ?_
  refine Qac ?_
  refine hK2 _ _ ?_
  refine wp_seq_k fun K3 hK3 => ?_
  refine wp_seq_k fun K4 hK4 => ?_
  refine Qab ?_
  refine Qaa (.int .i64 n) 6 rfl (by kernel_rfl) (by kernel_rfl) ?_
  refine Qaa (.bool false) 7 rfl (by kernel_rfl) (Qai (u := .bool (decide (n < 0))) (by kernel_rfl) (congrArg Value.bool (decide_eq_false (by omega)))) ?_
  refine Qaa (.bool false) 8 rfl (by kernel_rfl) (by kernel_rfl) ?_
  refine Qaa (.int .i64 n) 9 rfl (by kernel_rfl) (by kernel_rfl) ?_
  refine Qaa (.bool false) 10 rfl (by kernel_rfl) (Qai (u := .bool (decide (n ≥ 4294967295))) (by kernel_rfl) (congrArg Value.bool (decide_eq_false (by omega)))) ?_
  refine Qaa (.bool false) 11 rfl (by kernel_rfl) (by kernel_rfl) ?_
  refine Qac ?_
  refine hK4 _ _ ?_
  refine cond_false (by kernel_rfl) ?_
  refine wp_skip ?_
  refine hK3 _ _ ?_
  refine wp_seq_k fun K5 hK5 => ?_
  refine Qab ?_
  refine Qaa (.pointer (some ⟨g, 0, none⟩)) 13 rfl (by kernel_rfl) (by kernel_rfl) ?_
  refine Qat (.int .i64 (nx - 1)) 85 #[.pointer (some ⟨g, 0, none⟩)] 14 rfl (by kernel_rfl) (by kernel_rfl) (highestC g nx B hnx hB _ hg) fun W1 e1 => ?_
  have x1 : Ext w W1 := Ext.tr (Rely.Ext.refl w) e1
  refine Qaa (.int .i64 n) 15 rfl (by kernel_rfl) (by kernel_rfl) ?_
  refine Qaa (.int .i64 (nx - 1 - n)) 16 rfl (by kernel_rfl) (Qai (u := .int .i64 (IntKind.i64.wrap ((nx - 1) - n))) (by kernel_rfl) (congrArg (Value.int .i64) (i64_w _ (by omega)))) ?_
  refine Qaa (.int .i64 (nx - 1 - n)) 5 rfl (by kernel_rfl) (by kernel_rfl) ?_
  refine Qac ?_
  refine hK5 _ _ ?_
  refine wp_seq_k fun K6 hK6 => ?_
  refine wp_seq_k fun K7 hK7 => ?_
  refine Qab ?_
  refine Qaa (.int .i64 (nx - 1 - n)) 17 rfl (by kernel_rfl) (by kernel_rfl) ?_
  refine Qaa (.bool false) 18 rfl (by kernel_rfl) (Qai (u := .bool (decide ((nx - 1 - n) > 64))) (by kernel_rfl) (congrArg Value.bool (decide_eq_false (by omega)))) ?_
  refine Qac ?_
  refine hK7 _ _ ?_
  refine cond_false (by kernel_rfl) ?_
  refine wp_skip ?_
  refine hK6 _ _ ?_
  refine wp_seq_k fun K8 hK8 => ?_
  refine wp_seq_k fun K9 hK9 => ?_
  refine Qab ?_
  refine Qaa (.int .i64 (nx - 1 - n)) 20 rfl (by kernel_rfl) (by kernel_rfl) ?_
  refine Qaa (.bool false) 21 rfl (by kernel_rfl) (Qai (u := .bool (((nx - 1 - n) == 0))) (by kernel_rfl) (congrArg Value.bool (by simp; omega))) ?_
  refine Qaa (.bool false) 22 rfl (by kernel_rfl) (by kernel_rfl) ?_
  refine Qaa (.int .i64 (nx - 1 - n)) 23 rfl (by kernel_rfl) (by kernel_rfl) ?_
  refine Qaa (.bool true) 24 rfl (by kernel_rfl) (Qai (u := .bool (decide ((nx - 1 - n) > 0))) (by kernel_rfl) (congrArg Value.bool (decide_eq_true (by omega)))) ?_
  refine Qaa (.bool true) 25 rfl (by kernel_rfl) (by kernel_rfl) ?_
  refine Qaa (.pointer (some ⟨g, 0, none⟩)) 26 rfl (by kernel_rfl) (by kernel_rfl) ?_
  refine Qaa (.pointer (some ⟨g, 0, none⟩)) 27 rfl (by kernel_rfl) (by kernel_rfl) ?_
  refine Qaa (.pointer (some ⟨g, 1, none⟩)) 28 rfl (by kernel_rfl) (by kernel_rfl) ?_
  have r1_1 := (Qad hg e1)
  refine Qaa (.int .u64 ((B : Nat) : Int)) 29 rfl (by kernel_rfl) (Qae 129 _ g 1 133 _ (.int .u64 ((B : Nat) : Int)) _ r1_1 rfl (by kernel_rfl) (by kernel_rfl) (by kernel_rfl)) ?_
  refine Qaa (.int .i64 (nx - 1 - n)) 30 rfl (by kernel_rfl) (by kernel_rfl) ?_
  refine Qaa (.int .i64 (((j : Nat) : Int))) 31 rfl (by kernel_rfl) (Qai (u := .int .i64 (IntKind.i64.wrap ((nx - 1 - n) - 1))) (by kernel_rfl) (congrArg (Value.int .i64) (by rw [hj]; exact i64_w _ (by omega)))) ?_
  refine Qaa (.int .u64 (((B / 2 ^ j : Nat) : Int))) 32 rfl (by kernel_rfl) (QaJ .shr _ _ _ _ .u64 .i64 _ _ _ rfl (by kernel_rfl) (by kernel_rfl) (QcB _ _ _ _ _ _ (by omega) (shrB B j hj2))) ?_
  refine Qaa (.int .u64 (((B / 2 ^ j % 2 : Nat) : Int))) 33 rfl (by kernel_rfl) (Qai (u := .int .u64 (bits .and .u64 (((B / 2 ^ j : Nat) : Int)) (1))) (by kernel_rfl) (congrArg (Value.int .u64) (andB _ (Nat.lt_of_le_of_lt (Nat.div_le_self _ _) hB)))) ?_
  refine Qaa (.bool true) 34 rfl (by kernel_rfl) (Qai (u := .bool ((((B / 2 ^ j % 2 : Nat) : Int) == 1))) (by kernel_rfl) (congrArg Value.bool (by rw [hc]; rfl))) ?_
  refine Qaa (.bool true) 35 rfl (by kernel_rfl) (by kernel_rfl) ?_
  refine Qaa (.bool true) 36 rfl (by kernel_rfl) (by kernel_rfl) ?_
  refine Qac ?_
  refine hK9 _ _ ?_
  refine cond_true (by kernel_rfl) ?_
  refine wp_seq_k fun K10 hK10 => ?_
  refine Qab ?_
  refine Qaa (.iface 60 (.int .i64 7)) 37 rfl (by kernel_rfl) (by kernel_rfl) ?_
  refine Qaa (.iface 60 (.int .i64 7)) 4 rfl (by kernel_rfl) (by kernel_rfl) ?_
  refine Qac ?_
  refine hK10 _ _ ?_
  refine wp_ret ?_
  repeat (first | with_reducible refine goR1 ?_ | with_reducible refine goR2 ?_)
  exact (show bodyPost _ _ _ .ret _ _ from ret1 (.iface 60 (.int .i64 7)) rfl (Qaz (by kernel_rfl)) ⟨rfl, x1⟩)
set_option maxHeartbeats 4000000 in
theorem check_F (g : Nat) (nx : Int) (B : Nat) (n : Int) (hnx : 0 ≤ nx ∧ nx ≤ 4294967295) (hB : B < 18446744073709551616) (w : World) (hg : w.heap[g]? = some (.cells (cat [#[.int .i64 nx], #[.int .u64 ((B : Nat) : Int)]]) 133)) (hn : 0 ≤ n ∧ n < 4294967295) (j : Nat) (hj : nx - 1 - n - 1 = (j : Int)) (hj2 : j < 64) (hc : B / 2 ^ j % 2 = 0) : Calls Tryd.prog 88 #[.pointer (some ⟨g, 0, none⟩), .int .i64 n] w (Ret w (.nilIface)) := by
  refine enter 38 [(0, .pointer (some ⟨g, 0, none⟩)), (1, .int .i64 n)] Tryd.func88 rfl rfl (by kernel_rfl) rfl ?_
  refine wp_seq_k fun K2 hK2 => ?_
  refine Qab ?_
  refine Qaa (.nilIface) 4 rfl (by kernel_rfl) (by kernel_rfl) ?_
  refine Qac ?_
  refine hK2 _ _ ?_
  refine wp_seq_k fun K3 hK3 => ?_
  refine wp_seq_k fun K4 hK4 => ?_
  refine Qab ?_
  refine Qaa (.int .i64 n) 6 rfl (by kernel_rfl) (by kernel_rfl) ?_
  refine Qaa (.bool false) 7 rfl (by kernel_rfl) (Qai (u := .bool (decide (n < 0))) (by kernel_rfl) (congrArg Value.bool (decide_eq_false (by omega)))) ?_
  refine Qaa (.bool false) 8 rfl (by kernel_rfl) (by kernel_rfl) ?_
  refine Qaa (.int .i64 n) 9 rfl (by kernel_rfl) (by kernel_rfl) ?_
  refine Qaa (.bool false) 10 rfl (by kernel_rfl) (Qai (u := .bool (decide (n ≥ 4294967295))) (by kernel_rfl) (congrArg Value.bool (decide_eq_false (by omega)))) ?_
  refine Qaa (.bool false) 11 rfl (by kernel_rfl) (by kernel_rfl) ?_
  refine Qac ?_
  refine hK4 _ _ ?_
  refine cond_false (by kernel_rfl) ?_
  refine wp_skip ?_
  refine hK3 _ _ ?_
  refine wp_seq_k fun K5 hK5 => ?_
  refine Qab ?_
  refine Qaa (.pointer (some ⟨g, 0, none⟩)) 13 rfl (by kernel_rfl) (by kernel_rfl) ?_
  refine Qat (.int .i64 (nx - 1)) 85 #[.pointer (some ⟨g, 0, none⟩)] 14 rfl (by kernel_rfl) (by kernel_rfl) (highestC g nx B hnx hB _ hg) fun W1 e1 => ?_
  have x1 : Ext w W1 := Ext.tr (Rely.Ext.refl w) e1
  refine Qaa (.int .i64 n) 15 rfl (by kernel_rfl) (by kernel_rfl) ?_
  refine Qaa (.int .i64 (nx - 1 - n)) 16 rfl (by kernel_rfl) (Qai (u := .int .i64 (IntKind.i64.wrap ((nx - 1) - n))) (by kernel_rfl) (congrArg (Value.int .i64) (i64_w _ (by omega)))) ?_
  refine Qaa (.int .i64 (nx - 1 - n)) 5 rfl (by kernel_rfl) (by kernel_rfl) ?_
  refine Qac ?_
  refine hK5 _ _ ?_
  refine wp_seq_k fun K6 hK6 => ?_
  refine wp_seq_k fun K7 hK7 => ?_
  refine Qab ?_
  refine Qaa (.int .i64 (nx - 1 - n)) 17 rfl (by kernel_rfl) (by kernel_rfl) ?_
  refine Qaa (.bool false) 18 rfl (by kernel_rfl) (Qai (u := .bool (decide ((nx - 1 - n) > 64))) (by kernel_rfl) (congrArg Value.bool (decide_eq_false (by omega)))) ?_
  refine Qac ?_
  refine hK7 _ _ ?_
  refine cond_false (by kernel_rfl) ?_
  refine wp_skip ?_
  refine hK6 _ _ ?_
  refine wp_seq_k fun K8 hK8 => ?_
  refine wp_seq_k fun K9 hK9 => ?_
  refine Qab ?_
  refine Qaa (.int .i64 (nx - 1 - n)) 20 rfl (by kernel_rfl) (by kernel_rfl) ?_
  refine Qaa (.bool false) 21 rfl (by kernel_rfl) (Qai (u := .bool (((nx - 1 - n) == 0))) (by kernel_rfl) (congrArg Value.bool (by simp; omega))) ?_
  refine Qaa (.bool false) 22 rfl (by kernel_rfl) (by kernel_rfl) ?_
  refine Qaa (.int .i64 (nx - 1 - n)) 23 rfl (by kernel_rfl) (by kernel_rfl) ?_
  refine Qaa (.bool true) 24 rfl (by kernel_rfl) (Qai (u := .bool (decide ((nx - 1 - n) > 0))) (by kernel_rfl) (congrArg Value.bool (decide_eq_true (by omega)))) ?_
  refine Qaa (.bool true) 25 rfl (by kernel_rfl) (by kernel_rfl) ?_
  refine Qaa (.pointer (some ⟨g, 0, none⟩)) 26 rfl (by kernel_rfl) (by kernel_rfl) ?_
  refine Qaa (.pointer (some ⟨g, 0, none⟩)) 27 rfl (by kernel_rfl) (by kernel_rfl) ?_
  refine Qaa (.pointer (some ⟨g, 1, none⟩)) 28 rfl (by kernel_rfl) (by kernel_rfl) ?_
  have r1_1 := (Qad hg e1)
  refine Qaa (.int .u64 ((B : Nat) : Int)) 29 rfl (by kernel_rfl) (Qae 129 _ g 1 133 _ (.int .u64 ((B : Nat) : Int)) _ r1_1 rfl (by kernel_rfl) (by kernel_rfl) (by kernel_rfl)) ?_
  refine Qaa (.int .i64 (nx - 1 - n)) 30 rfl (by kernel_rfl) (by kernel_rfl) ?_
  refine Qaa (.int .i64 (((j : Nat) : Int))) 31 rfl (by kernel_rfl) (Qai (u := .int .i64 (IntKind.i64.wrap ((nx - 1 - n) - 1))) (by kernel_rfl) (congrArg (Value.int .i64) (by rw [hj]; exact i64_w _ (by omega)))) ?_
  refine Qaa (.int .u64 (((B / 2 ^ j : Nat) : Int))) 32 rfl (by kernel_rfl) (QaJ .shr _ _ _ _ .u64 .i64 _ _ _ rfl (by kernel_rfl) (by kernel_rfl) (QcB _ _ _ _ _ _ (by omega) (shrB B j hj2))) ?_
  refine Qaa (.int .u64 (((B / 2 ^ j % 2 : Nat) : Int))) 33 rfl (by kernel_rfl) (Qai (u := .int .u64 (bits .and .u64 (((B / 2 ^ j : Nat) : Int)) (1))) (by kernel_rfl) (congrArg (Value.int .u64) (andB _ (Nat.lt_of_le_of_lt (Nat.div_le_self _ _) hB)))) ?_
  refine Qaa (.bool false) 34 rfl (by kernel_rfl) (Qai (u := .bool ((((B / 2 ^ j % 2 : Nat) : Int) == 1))) (by kernel_rfl) (congrArg Value.bool (by rw [hc]; rfl))) ?_
  refine Qaa (.bool false) 35 rfl (by kernel_rfl) (by kernel_rfl) ?_
  refine Qaa (.bool false) 36 rfl (by kernel_rfl) (by kernel_rfl) ?_
  refine Qac ?_
  refine hK9 _ _ ?_
  refine cond_false (by kernel_rfl) ?_
  refine wp_skip ?_
  refine hK8 _ _ ?_
  refine wp_seq_k fun K10 hK10 => ?_
  refine Qab ?_
  refine Qaa (.nilIface) 4 rfl (by kernel_rfl) (by kernel_rfl) ?_
  refine Qac ?_
  refine hK10 _ _ ?_
  refine wp_ret ?_
  repeat (first | with_reducible refine goR1 ?_ | with_reducible refine goR2 ?_)
  exact (show bodyPost _ _ _ .ret _ _ from ret1 (.nilIface) rfl (Qaz (by kernel_rfl)) ⟨rfl, x1⟩)
set_option maxHeartbeats 4000000 in
theorem check_G (g : Nat) (nx : Int) (B : Nat) (n : Int) (hnx : 0 ≤ nx ∧ nx ≤ 4294967295) (hB : B < 18446744073709551616) (w : World) (hg : w.heap[g]? = some (.cells (cat [#[.int .i64 nx], #[.int .u64 ((B : Nat) : Int)]]) 133)) (hn : 0 ≤ n ∧ n < 4294967295) (hc : nx - 1 - n < 0) : Calls Tryd.prog 88 #[.pointer (some ⟨g, 0, none⟩), .int .i64 n] w (Ret w (.nilIface)) := by
  refine enter 38 [(0, .pointer (some ⟨g, 0, none⟩)), (1, .int .i64 n)] Tryd.func88 rfl rfl (by kernel_rfl) rfl ?_
  refine wp_seq_k fun K2 hK2 => ?_
  refine Qab ?_
  refine Qaa (.nilIface) 4 rfl (by kernel_rfl) (by kernel_rfl) ?_
  refine Qac ?_
  refine hK2 _ _ ?_
  refine wp_seq_k fun K3 hK3 => ?_
  refine wp_seq_k fun K4 hK4 => ?_
  refine Qab ?_
  refine Qaa (.int .i64 n) 6 rfl (by kernel_rfl) (by kernel_rfl) ?_
  refine Qaa (.bool false) 7 rfl (by kernel_rfl) (Qai (u := .bool (decide (n < 0))) (by kernel_rfl) (congrArg Value.bool (decide_eq_false (by omega)))) ?_
  refine Qaa (.bool false) 8 rfl (by kernel_rfl) (by kernel_rfl) ?_
  refine Qaa (.int .i64 n) 9 rfl (by kernel_rfl) (by kernel_rfl) ?_
  refine Qaa (.bool false) 10 rfl (by kernel_rfl) (Qai (u := .bool (decide (n ≥ 4294967295))) (by kernel_rfl) (congrArg Value.bool (decide_eq_false (by omega)))) ?_
  refine Qaa (.bool false) 11 rfl (by kernel_rfl) (by kernel_rfl) ?_
  refine Qac ?_
  refine hK4 _ _ ?_
  refine cond_false (by kernel_rfl) ?_
  refine wp_skip ?_
  refine hK3 _ _ ?_
  refine wp_seq_k fun K5 hK5 => ?_
  refine Qab ?_
  refine Qaa (.pointer (some ⟨g, 0, none⟩)) 13 rfl (by kernel_rfl) (by kernel_rfl) ?_
  refine Qat (.int .i64 (nx - 1)) 85 #[.pointer (some ⟨g, 0, none⟩)] 14 rfl (by kernel_rfl) (by kernel_rfl) (highestC g nx B hnx hB _ hg) fun W1 e1 => ?_
  have x1 : Ext w W1 := Ext.tr (Rely.Ext.refl w) e1
  refine Qaa (.int .i64 n) 15 rfl (by kernel_rfl) (by kernel_rfl) ?_
  refine Qaa (.int .i64 (nx - 1 - n)) 16 rfl (by kernel_rfl) (Qai (u := .int .i64 (IntKind.i64.wrap ((nx - 1) - n))) (by kernel_rfl) (congrArg (Value.int .i64) (i64_w _ (by omega)))) ?_
  refine Qaa (.int .i64 (nx - 1 - n)) 5 rfl (by kernel_rfl) (by kernel_rfl) ?_
  refine Qac ?_
  refine hK5 _ _ ?_
  refine wp_seq_k fun K6 hK6 => ?_
  refine wp_seq_k fun K7 hK7 => ?_
  refine Qab ?_
  refine Qaa (.int .i64 (nx - 1 - n)) 17 rfl (by kernel_rfl) (by kernel_rfl) ?_
  refine Qaa (.bool false) 18 rfl (by kernel_rfl) (Qai (u := .bool (decide ((nx - 1 - n) > 64))) (by kernel_rfl) (congrArg Value.bool (decide_eq_false (by omega)))) ?_
  refine Qac ?_
  refine hK7 _ _ ?_
  refine cond_false (by kernel_rfl) ?_
  refine wp_skip ?_
  refine hK6 _ _ ?_
  refine wp_seq_k fun K8 hK8 => ?_
  refine wp_seq_k fun K9 hK9 => ?_
  refine Qab ?_
  refine Qaa (.int .i64 (nx - 1 - n)) 20 rfl (by kernel_rfl) (by kernel_rfl) ?_
  refine Qaa (.bool false) 21 rfl (by kernel_rfl) (Qai (u := .bool (((nx - 1 - n) == 0))) (by kernel_rfl) (congrArg Value.bool (by simp; omega))) ?_
  refine Qaa (.bool false) 22 rfl (by kernel_rfl) (by kernel_rfl) ?_
  refine Qaa (.int .i64 (nx - 1 - n)) 23 rfl (by kernel_rfl) (by kernel_rfl) ?_
  refine Qaa (.bool false) 24 rfl (by kernel_rfl) (Qai (u := .bool (decide ((nx - 1 - n) > 0))) (by kernel_rfl) (congrArg Value.bool (decide_eq_false (by omega)))) ?_
  refine Qaa (.bool false) 25 rfl (by kernel_rfl) (by kernel_rfl) ?_
  refine Qa0 26 rfl (by kernel_rfl) ?_
  refine Qa0 27 rfl (by kernel_rfl) ?_
  refine Qa0 28 rfl (by kernel_rfl) ?_
  refine Qa0 29 rfl (by kernel_rfl) ?_
  refine Qa0 30 rfl (by kernel_rfl) ?_
  refine Qa0 31 rfl (by kernel_rfl) ?_
  refine Qa0 32 rfl (by kernel_rfl) ?_
  refine Qa0 33 rfl (by kernel_rfl) ?_
  refine Qa0 34 rfl (by kernel_rfl) ?_
  refine Qaa (.bool false) 35 rfl (by kernel_rfl) (by kernel_rfl) ?_
  refine Qaa (.bool false) 36 rfl (by kernel_rfl) (by kernel_rfl) ?_
  refine Qac ?_
  refine hK9 _ _ ?_
  refine cond_false (by kernel_rfl) ?_
  refine wp_skip ?_
  refine hK8 _ _ ?_
  refine wp_seq_k fun K10 hK10 => ?_
  refine Qab ?_
  refine Qaa (.nilIface) 4 rfl (by kernel_rfl) (by kernel_rfl) ?_
  refine Qac ?_
  refine hK10 _ _ ?_
  refine wp_ret ?_
  repeat (first | with_reducible refine goR1 ?_ | with_reducible refine goR2 ?_)
  exact (show bodyPost _ _ _ .ret _ _ from ret1 (.nilIface) rfl (Qaz (by kernel_rfl)) ⟨rfl, x1⟩)
theorem checkC (g : Nat) (nx : Int) (B : Nat) (n : Int) (hnx : 0 ≤ nx ∧ nx ≤ 4294967295) (hB : B < 18446744073709551616) (w : World) (hg : w.heap[g]? = some (.cells (cat [#[.int .i64 nx], #[.int .u64 ((B : Nat) : Int)]]) 133)) : Calls Tryd.prog 88 #[.pointer (some ⟨g, 0, none⟩), .int .i64 n] w (Ret w (errV (chkW nx B n))) := by
  unfold chkW
  by_cases h1 : n < 0
  · rw [if_pos (.inl h1)]; exact check_A g nx B n hnx hB w hg h1
  by_cases h2 : 4294967295 ≤ n
  · rw [if_pos (.inr h2)]; exact check_B g nx B n hnx hB w hg h2
  rw [if_neg (by omega)]
  have hn : 0 ≤ n ∧ n < 4294967295 := by omega
  by_cases h3 : 64 < nx - 1 - n
  · rw [if_pos h3]; exact check_C g nx B n hnx hB w hg hn h3
  rw [if_neg h3]
  by_cases h4 : nx - 1 - n = 0
  · rw [if_pos (.inl h4)]; exact check_D g nx B n hnx hB w hg hn h4
  by_cases h5 : 0 < nx - 1 - n
  · obtain ⟨j, hj⟩ := Int.eq_ofNat_of_zero_le (show 0 ≤ nx - 1 - n - 1 by omega)
    have hj2 : j < 64 := by omega
    rw [hj, Int.toNat_natCast]
    have hm : B / 2 ^ j % 2 < 2 := Nat.mod_lt _ (by decide)
    by_cases h6 : B / 2 ^ j % 2 = 1
    · rw [if_pos (.inr ⟨h5, h6⟩)]; exact check_E g nx B n hnx hB w hg hn j hj hj2 h6
    · rw [if_neg (by rintro (h | h); exact h4 h; exact h6 h.2)]; exact check_F g nx B n hnx hB w hg hn j hj hj2 (by omega)
  · rw [if_neg (by rintro (h | h); exact h4 h; exact h5 h.1)]; exact check_G g nx B n hnx hB w hg hn (by omega)
set_option maxHeartbeats 4000000 in
theorem Qhf (g : Nat) (nx : Int) (B : Nat) (n : Int) (hnx : 0 ≤ nx ∧ nx ≤ 4294967295) (hB : B < 18446744073709551616) (w : World) (hg : w.heap[g]? = some (.cells (cat [#[.int .i64 nx], #[.int .u64 ((B : Nat) : Int)]]) 133)) : Calls Tryd.prog 82 #[.pointer (some ⟨g, 0, none⟩), .int .i64 n] w (Ret w (errV (chkW nx B n))) := by
  refine enter 13 [(0, .pointer (some ⟨g, 0, none⟩)), (1, .int .i64 n)] Tryd.func82 rfl rfl (by kernel_rfl) rfl ?_
  refine wp_seq_k fun K2 hK2 => ?_
  refine Qab ?_
  refine Qaa (.nilIface) 4 rfl (by kernel_rfl) (by kernel_rfl) ?_
  refine Qac ?_
  refine hK2 _ _ ?_
  refine wp_seq_k fun K3 hK3 => ?_
  refine wp_seq_k fun K4 hK4 => ?_
  refine Qab ?_
  refine Qaa (.pointer (some ⟨g, 0, none⟩)) 5 rfl (by kernel_rfl) (by kernel_rfl) ?_
  refine Qaa (.bool false) 6 rfl (by kernel_rfl) (by kernel_rfl) ?_
  refine Qac ?_
  refine hK4 _ _ ?_
  refine cond_false (by kernel_rfl) ?_
  refine wp_skip ?_
  refine hK3 _ _ ?_
  refine wp_seq_k fun K5 hK5 => ?_
  refine Qab ?_
  refine Qaa (.pointer (some ⟨g, 0, none⟩)) 8 rfl (by kernel_rfl) (by kernel_rfl) ?_
  refine Qaa (.pointer (some ⟨g, 0, none⟩)) 9 rfl (by kernel_rfl) (by kernel_rfl) ?_
  refine Qaa (.pointer (some ⟨g, 0, none⟩)) 10 rfl (by kernel_rfl) (by kernel_rfl) ?_
  refine Qaa (.int .i64 n) 11 rfl (by kernel_rfl) (by kernel_rfl) ?_
  refine Qat (errV (chkW nx B n)) 88 #[.pointer (some ⟨g, 0, none⟩), .int .i64 n] 12 rfl (by kernel_rfl) (by kernel_rfl) (checkC g nx B n hnx hB _ hg) fun W1 e1 => ?_
  have x1 : Ext w W1 := Ext.tr (Rely.Ext.refl w) e1
  refine Qaa (errV (chkW nx B n)) 4 rfl (by kernel_rfl) (by kernel_rfl) ?_
  refine Qac ?_
  refine hK5 _ _ ?_
  refine wp_ret ?_
  repeat (first | with_reducible refine goR1 ?_ | with_reducible refine goR2 ?_)
  exact (show bodyPost _ _ _ .ret _ _ from ret1 (errV (chkW nx B n)) rfl (Qaz (by kernel_rfl)) ⟨rfl, x1⟩)
end Go.Proofs.YtoiendjhplbjjaaDoor.Lk
end
section
namespace Go.Proofs.YtoiendjhplbjjaaDoor.Lk
open Go Go.RowKit
open Rely Auto
set_option linter.unusedVariables false
theorem errV_ne {e : Int} (h : e ≠ 0) : errV e = .iface 60 (.int .i64 e) := by unfold errV; rw [if_neg h]
theorem errV_nil {e : Int} (h : e = 0) : errV e = .nilIface := by unfold errV; rw [if_pos h]
theorem i64_neg (a b : Int) (h : -5000000000 ≤ a ∧ a ≤ 5000000000) (e : 0 - a = b) : IntKind.i64.wrap (0 - a) = b := by rw [e]; exact i64_w _ (by omega)
theorem pow_lt (j : Nat) (h : j < 64) : 2 ^ j < 18446744073709551616 := Nat.pow_lt_pow_right (by decide) h
theorem shl1 (j : Nat) (h : j < 64) : IntKind.u64.wrap (1 * 2 ^ min ((j : Nat) : Int).toNat IntKind.u64.bits) = ((2 ^ j : Nat) : Int) := by
  have := shlB 1 j
  rw [Nat.one_mul, Nat.mod_eq_of_lt (pow_lt j h)] at this
  exact this
set_option maxHeartbeats 4000000 in
theorem mark_F (g : Nat) (nx : Int) (B : Nat) (n : Int) (hnx : 0 ≤ nx ∧ nx ≤ 4294967295) (hB : B < 18446744073709551616) (w : World) (hg : w.heap[g]? = some (.cells (cat [#[.int .i64 nx], #[.int .u64 ((B : Nat) : Int)]]) 133)) (hc : chkW nx B n = 0) (j : Nat) (hj : nx - 1 - n - 1 = (j : Int)) (hj2 : j < 64) : Calls Tryd.prog 89 #[.pointer (some ⟨g, 0, none⟩), .int .i64 n] w (fun e w' => e = .returned .nilIface ∧ ExtB g w w' ∧ w'.heap[g]? = some (.cells (cat [#[.int .i64 nx], #[.int .u64 ((B ||| 2 ^ j : Nat) : Int)]]) 133)) := by
  refine enter 48 [(0, .pointer (some ⟨g, 0, none⟩)), (1, .int .i64 n)] Tryd.func89 rfl rfl (by kernel_rfl) rfl ?_
  refine wp_seq_k fun K2 hK2 => ?_
  refine Qab ?_
  refine Qaa (.nilIface) 4 rfl (by kernel_rfl) (by kernel_rfl) ?_
  refine Qac ?_
  refine hK2 _ _ ?_
  refine wp_seq_k fun K3 hK3 => ?_
  refine wp_seq_k fun K4 hK4 => ?_
  refine Qab ?_
  refine Qaa (.pointer (some ⟨g, 0, none⟩)) 7 rfl (by kernel_rfl) (by kernel_rfl) ?_
  refine Qaa (.int .i64 n) 8 rfl (by kernel_rfl) (by kernel_rfl) ?_
  refine Qat (.nilIface) 88 #[.pointer (some ⟨g, 0, none⟩), .int .i64 n] 9 rfl (by kernel_rfl) (by kernel_rfl) (errV_nil hc ▸ checkC g nx B n hnx hB _ hg) fun W1 e1 => ?_
  have x1 : ExtB g w W1 := ExtB.ext (ExtB.refl g w) e1
  refine Qaa (.nilIface) 5 rfl (by kernel_rfl) (by kernel_rfl) ?_
  refine Qac ?_
  refine hK4 _ _ ?_
  refine wp_seq_k fun K5 hK5 => ?_
  refine Qab ?_
  refine Qaa (.nilIface) 10 rfl (by kernel_rfl) (by kernel_rfl) ?_
  refine Qaa (.bool false) 11 rfl (by kernel_rfl) (by kernel_rfl) ?_
  refine Qac ?_
  refine hK5 _ _ ?_
  refine cond_false (by kernel_rfl) ?_
  refine wp_skip ?_
  refine hK3 _ _ ?_
  refine wp_seq_k fun K6 hK6 => ?_
  refine Qab ?_
  refine Qaa (.int .i64 n) 13 rfl (by kernel_rfl) (by kernel_rfl) ?_
  refine Qaa (.pointer (some ⟨g, 0, none⟩)) 14 rfl (by kernel_rfl) (by kernel_rfl) ?_
  have r1_1 := (Qad hg e1)
  refine Qat (.int .i64 (nx - 1)) 85 #[.pointer (some ⟨g, 0, none⟩)] 15 rfl (by kernel_rfl) (by kernel_rfl) (highestC g nx B hnx hB _ r1_1) fun W2 e2 => ?_
  have x2 : ExtB g w W2 := ExtB.ext x1 e2
  refine Qaa (.int .i64 (n - (nx - 1))) 16 rfl (by kernel_rfl) (Qai (u := .int .i64 (IntKind.i64.wrap (n - (nx - 1)))) (by kernel_rfl) (congrArg (Value.int .i64) (i64_w _ (by omega)))) ?_
  refine Qaa (.int .i64 (n - (nx - 1))) 6 rfl (by kernel_rfl) (by kernel_rfl) ?_
  refine Qac ?_
  refine hK6 _ _ ?_
  refine wp_seq_k fun K7 hK7 => ?_
  refine wp_seq_k fun K8 hK8 => ?_
  refine Qab ?_
  refine Qaa (.int .i64 (n - (nx - 1))) 17 rfl (by kernel_rfl) (by kernel_rfl) ?_
  refine Qaa (.bool true) 18 rfl (by kernel_rfl) (Qai (u := .bool (decide ((n - (nx - 1)) < 0))) (by kernel_rfl) (congrArg Value.bool (decide_eq_true (by omega)))) ?_
  refine Qac ?_
  refine hK8 _ _ ?_
  refine cond_true (by kernel_rfl) ?_
  refine wp_seq_k fun K9 hK9 => ?_
  refine Qbe 11 [⟨none, [(0, none)]⟩, ⟨none, [(19, some 0)]⟩, ⟨none, [(20, some 1)]⟩, ⟨none, [(21, some 2)]⟩, ⟨none, [(6, none)]⟩, ⟨none, [(23, some 4)]⟩, ⟨none, [(24, some 5)]⟩, ⟨none, [(25, some 6)]⟩, ⟨none, [(22, some 3), (26, some 7)]⟩, ⟨none, [(19, some 0)]⟩, ⟨none, [(28, some 9)]⟩] (by kernel_rfl) (by kernel_rfl) fun F hF => ?_
  refine Qau (.pointer (some ⟨g, 0, none⟩)) (by kernel_rfl) (by kernel_rfl) (fun W => by kernel_rfl) ?_
  refine Qau (.pointer (some ⟨g, 0, none⟩)) (by kernel_rfl) (by kernel_rfl) (fun W => by kernel_rfl) ?_
  refine Qau (.pointer (some ⟨g, 1, none⟩)) (by kernel_rfl) (by kernel_rfl) (fun W => by kernel_rfl) ?_
  have r1_2 := (Qad r1_1 e2)
  refine QaY (.int .u64 ((B : Nat) : Int)) (by kernel_rfl) (by kernel_rfl) (fun W hR => (Qae 129 _ g 1 133 _ (.int .u64 ((B : Nat) : Int)) _ (Qad (Qad r1_2 (Qah _)) hR) rfl (by kernel_rfl) (by kernel_rfl) (by kernel_rfl))) ?_
  refine Qau (.int .i64 (n - (nx - 1))) (by kernel_rfl) (by kernel_rfl) (fun W => by kernel_rfl) ?_
  refine Qau (.int .i64 (nx - 1 - n)) (by kernel_rfl) (by kernel_rfl) (fun W => (Qai (u := .int .i64 (IntKind.i64.wrap (0 - (n - (nx - 1))))) (by kernel_rfl) (congrArg (Value.int .i64) (i64_neg _ _ (by omega) (by omega))))) ?_
  refine Qau (.int .i64 (((j : Nat) : Int))) (by kernel_rfl) (by kernel_rfl) (fun W => (Qai (u := .int .i64 (IntKind.i64.wrap ((nx - 1 - n) - 1))) (by kernel_rfl) (congrArg (Value.int .i64) (by rw [hj]; exact i64_w _ (by omega))))) ?_
  refine Qau (.int .u64 (((2 ^ j : Nat) : Int))) (by kernel_rfl) (by kernel_rfl) (fun W => (QaJ .shl _ _ _ _ .u64 .i64 _ _ _ rfl (by kernel_rfl) (by kernel_rfl) (QcC _ _ _ _ _ _ (by omega) (shl1 j hj2)))) ?_
  refine Qau (.int .u64 (((B ||| 2 ^ j : Nat) : Int))) (by kernel_rfl) (by kernel_rfl) (fun W => (Qai (u := .int .u64 (bits .or .u64 (((B : Nat) : Int)) (((2 ^ j : Nat) : Int)))) (by kernel_rfl) (congrArg (Value.int .u64) (orB _ _ hB (pow_lt j hj2))))) ?_
  refine Qau (.pointer (some ⟨g, 0, none⟩)) (by kernel_rfl) (by kernel_rfl) (fun W => by kernel_rfl) ?_
  refine Qau (.pointer (some ⟨g, 1, none⟩)) (by kernel_rfl) (by kernel_rfl) (fun W => by kernel_rfl) ?_
  refine Qbl (hF _ (by kernel_rfl) fun W3 e3 => ?_)
  simp only [ups, up, Kn.val, List.take_succ_cons, List.take_zero, List.drop_succ_cons, List.drop_zero, List.nil_append, List.cons_append]
  clear hF
  have x3 : ExtB g w W3 := ExtB.ext x2 e3
  have r1_3 := (Qad r1_2 e3)
  refine Qaj g _ (cat [#[.int .i64 nx], #[.int .u64 (((B ||| 2 ^ j : Nat) : Int))]]) 133 r1_3 rfl (by kernel_rfl) (Qbf 129 _ _ g 1 133 _ (.int .u64 (((B ||| 2 ^ j : Nat) : Int))) r1_3 rfl (by kernel_rfl) (by kernel_rfl) (by kernel_rfl) (by kernel_rfl) (by kernel_rfl) rfl) fun W4 p4 r1_4 => ?_
  have x4 : ExtB g w W4 := ExtB.puts x3 p4
  refine Qac ?_
  refine hK9 _ _ ?_
  refine wp_seq_k fun K10 hK10 => ?_
  refine Qab ?_
  refine Qaa (.nilIface) 4 rfl (by kernel_rfl) (by kernel_rfl) ?_
  refine Qac ?_
  refine hK10 _ _ ?_
  refine wp_ret ?_
  repeat (first | with_reducible refine goR1 ?_ | with_reducible refine goR2 ?_)
  exact (show bodyPost _ _ _ .ret _ _ from ret1 (.nilIface) rfl (Qaz (by kernel_rfl)) ⟨rfl, x4, r1_4⟩)
set_option maxHeartbeats 4000000 in
theorem mark_G (g : Nat) (nx : Int) (B : Nat) (n : Int) (hnx : 0 ≤ nx ∧ nx ≤ 4294967295) (hB : B < 18446744073709551616) (w : World) (hg : w.heap[g]? = some (.cells (cat [#[.int .i64 nx], #[.int .u64 ((B : Nat) : Int)]]) 133)) (hc : chkW nx B n = 0) (hn : 0 ≤ n ∧ n < 4294967295) (a : Nat) (ha : n - (nx - 1) = (a : Int)) (ha1 : 1 ≤ a) : Calls Tryd.prog 89 #[.pointer (some ⟨g, 0, none⟩), .int .i64 n] w (fun e w' => e = .returned .nilIface ∧ ExtB g w w' ∧ w'.heap[g]? = some (.cells (cat [#[.int .i64 (n + 1)], #[.int .u64 ((B * 2 ^ a % 18446744073709551616 ||| 1 * 2 ^ (a - 1) % 18446744073709551616 : Nat) : Int)]]) 133)) := by
  refine enter 48 [(0, .pointer (some ⟨g, 0, none⟩)), (1, .int .i64 n)] Tryd.func89 rfl rfl (by kernel_rfl) rfl ?_
  refine wp_seq_k fun K2 hK2 => ?_
  refine Qab ?_
  refine Qaa (.nilIface) 4 rfl (by kernel_rfl) (by kernel_rfl) ?_
  refine Qac ?_
  refine hK2 _ _ ?_
  refine wp_seq_k fun K3 hK3 => ?_
  refine wp_seq_k fun K4 hK4 => ?_
  refine Qab ?_
  refine Qaa (.pointer (some ⟨g, 0, none⟩)) 7 rfl (by kernel_rfl) (by kernel_rfl) ?_
  refine Qaa (.int .i64 n) 8 rfl (by kernel_rfl) (by kernel_rfl) ?_
  refine Qat (.nilIface) 88 #[.pointer (some ⟨g, 0, none⟩), .int .i64 n] 9 rfl (by kernel_rfl) (by kernel_rfl) (errV_nil hc ▸ checkC g nx B n hnx hB _ hg) fun W1 e1 => ?_
  have x1 : ExtB g w W1 := ExtB.ext (ExtB.refl g w) e1
  refine Qaa (.nilIface) 5 rfl (by kernel_rfl) (by kernel_rfl) ?_
  refine Qac ?_
  refine hK4 _ _ ?_
  refine wp_seq_k fun K5 hK5 => ?_
  refine Qab ?_
  refine Qaa (.nilIface) 10 rfl (by kernel_rfl) (by kernel_rfl) ?_
  refine Qaa (.bool false) 11 rfl (by kernel_rfl) (by kernel_rfl) ?_
  refine Qac ?_
  refine hK5 _ _ ?_
  refine cond_false (by kernel_rfl) ?_
  refine wp_skip ?_
  refine hK3 _ _ ?_
  refine wp_seq_k fun K6 hK6 => ?_
  refine Qab ?_
  refine Qaa (.int .i64 n) 13 rfl (by kernel_rfl) (by kernel_rfl) ?_
  refine Qaa (.pointer (some ⟨g, 0, none⟩)) 14 rfl (by kernel_rfl) (by kernel_rfl) ?_
  have r1_1 := (Qad hg e1)
  refine Qat (.int .i64 (nx - 1)) 85 #[.pointer (some ⟨g, 0, none⟩)] 15 rfl (by kernel_rfl) (by kernel_rfl) (highestC g nx B hnx hB _ r1_1) fun W2 e2 => ?_
  have x2 : ExtB g w W2 := ExtB.ext x1 e2
  refine Qaa (.int .i64 (((a : Nat) : Int))) 16 rfl (by kernel_rfl) (Qai (u := .int .i64 (IntKind.i64.wrap (n - (nx - 1)))) (by kernel_rfl) (congrArg (Value.int .i64) (by rw [ha]; exact i64_w _ (by omega)))) ?_
  refine Qaa (.int .i64 (((a : Nat) : Int))) 6 rfl (by kernel_rfl) (by kernel_rfl) ?_
  refine Qac ?_
  refine hK6 _ _ ?_
  refine wp_seq_k fun K7 hK7 => ?_
  refine wp_seq_k fun K8 hK8 => ?_
  refine Qab ?_
  refine Qaa (.int .i64 (((a : Nat) : Int))) 17 rfl (by kernel_rfl) (by kernel_rfl) ?_
  refine Qaa (.bool false) 18 rfl (by kernel_rfl) (Qai (u := .bool (decide (((a : Nat) : Int) < 0))) (by kernel_rfl) (congrArg Value.bool (decide_eq_false (by omega)))) ?_
  refine Qac ?_
  refine hK8 _ _ ?_
  refine cond_false (by kernel_rfl) ?_
  refine wp_skip ?_
  refine hK7 _ _ ?_
  refine wp_seq_k fun K9 hK9 => ?_
  refine Qbe 13 [⟨none, [(0, none)]⟩, ⟨none, [(0, none)]⟩, ⟨none, [(31, some 1)]⟩, ⟨none, [(32, some 2)]⟩, ⟨none, [(33, some 3)]⟩, ⟨none, [(6, none)]⟩, ⟨none, [(34, some 4), (35, some 5)]⟩, ⟨none, [(6, none)]⟩, ⟨none, [(37, some 7)]⟩, ⟨none, [(38, some 8)]⟩, ⟨none, [(36, some 6), (39, some 9)]⟩, ⟨none, [(30, some 0)]⟩, ⟨none, [(41, some 11)]⟩] (by kernel_rfl) (by kernel_rfl) fun F hF => ?_
  refine Qau (.pointer (some ⟨g, 0, none⟩)) (by kernel_rfl) (by kernel_rfl) (fun W => by kernel_rfl) ?_
  refine Qau (.pointer (some ⟨g, 0, none⟩)) (by kernel_rfl) (by kernel_rfl) (fun W => by kernel_rfl) ?_
  refine Qau (.pointer (some ⟨g, 0, none⟩)) (by kernel_rfl) (by kernel_rfl) (fun W => by kernel_rfl) ?_
  refine Qau (.pointer (some ⟨g, 1, none⟩)) (by kernel_rfl) (by kernel_rfl) (fun W => by kernel_rfl) ?_
  have r1_2 := (Qad r1_1 e2)
  refine QaY (.int .u64 ((B : Nat) : Int)) (by kernel_rfl) (by kernel_rfl) (fun W hR => (Qae 129 _ g 1 133 _ (.int .u64 ((B : Nat) : Int)) _ (Qad (Qad r1_2 (Qah _)) hR) rfl (by kernel_rfl) (by kernel_rfl) (by kernel_rfl))) ?_
  refine Qau (.int .i64 (((a : Nat) : Int))) (by kernel_rfl) (by kernel_rfl) (fun W => by kernel_rfl) ?_
  refine Qau (.int .u64 (((B * 2 ^ a % 18446744073709551616 : Nat) : Int))) (by kernel_rfl) (by kernel_rfl) (fun W => (QaJ .shl _ _ _ _ .u64 .i64 _ _ _ rfl (by kernel_rfl) (by kernel_rfl) (QcC _ _ _ _ _ _ (by omega) (shlB B a)))) ?_
  refine Qau (.int .i64 (((a : Nat) : Int))) (by kernel_rfl) (by kernel_rfl) (fun W => by kernel_rfl) ?_
  refine Qau (.int .i64 (((a - 1 : Nat) : Int))) (by kernel_rfl) (by kernel_rfl) (fun W => (Qai (u := .int .i64 (IntKind.i64.wrap (((a : Nat) : Int) - 1))) (by kernel_rfl) (congrArg (Value.int .i64) (by rw [show ((a - 1 : Nat) : Int) = (a : Int) - 1 by omega]; exact i64_w _ (by omega))))) ?_
  refine Qau (.int .u64 (((1 * 2 ^ (a - 1) % 18446744073709551616 : Nat) : Int))) (by kernel_rfl) (by kernel_rfl) (fun W => (QaJ .shl _ _ _ _ .u64 .i64 _ _ _ rfl (by kernel_rfl) (by kernel_rfl) (QcC _ _ _ _ _ _ (by omega) (shlB 1 (a - 1))))) ?_
  refine Qau (.int .u64 (((B * 2 ^ a % 18446744073709551616 ||| 1 * 2 ^ (a - 1) % 18446744073709551616 : Nat) : Int))) (by kernel_rfl) (by kernel_rfl) (fun W => (Qai (u := .int .u64 (bits .or .u64 (((B * 2 ^ a % 18446744073709551616 : Nat) : Int)) (((1 * 2 ^ (a - 1) % 18446744073709551616 : Nat) : Int)))) (by kernel_rfl) (congrArg (Value.int .u64) (orB _ _ (Nat.mod_lt _ (by decide)) (Nat.mod_lt _ (by decide)))))) ?_
  refine Qau (.pointer (some ⟨g, 0, none⟩)) (by kernel_rfl) (by kernel_rfl) (fun W => by kernel_rfl) ?_
  refine Qau (.pointer (some ⟨g, 1, none⟩)) (by kernel_rfl) (by kernel_rfl) (fun W => by kernel_rfl) ?_
  refine Qbl (hF _ (by kernel_rfl) fun W3 e3 => ?_)
  simp only [ups, up, Kn.val, List.take_succ_cons, List.take_zero, List.drop_succ_cons, List.drop_zero, List.nil_append, List.cons_append]
  clear hF
  have x3 : ExtB g w W3 := ExtB.ext x2 e3
  have r1_3 := (Qad r1_2 e3)
  refine Qaj g _ (cat [#[.int .i64 nx], #[.int .u64 (((B * 2 ^ a % 18446744073709551616 ||| 1 * 2 ^ (a - 1) % 18446744073709551616 : Nat) : Int))]]) 133 r1_3 rfl (by kernel_rfl) (Qbf 129 _ _ g 1 133 _ (.int .u64 (((B * 2 ^ a % 18446744073709551616 ||| 1 * 2 ^ (a - 1) % 18446744073709551616 : Nat) : Int))) r1_3 rfl (by kernel_rfl) (by kernel_rfl) (by kernel_rfl) (by kernel_rfl) (by kernel_rfl) rfl) fun W4 p4 r1_4 => ?_
  have x4 : ExtB g w W4 := ExtB.puts x3 p4
  refine Qac ?_
  refine hK9 _ _ ?_
  refine wp_seq_k fun K10 hK10 => ?_
  refine Qab ?_
  refine Qaa (.pointer (some ⟨g, 0, none⟩)) 43 rfl (by kernel_rfl) (by kernel_rfl) ?_
  refine Qaa (.int .i64 n) 44 rfl (by kernel_rfl) (by kernel_rfl) ?_
  refine Qaa (.int .i64 (n + 1)) 45 rfl (by kernel_rfl) (Qai (u := .int .i64 (IntKind.i64.wrap (n + 1))) (by kernel_rfl) (congrArg (Value.int .i64) (i64_w _ (by omega)))) ?_
  refine Qaa (.pointer (some ⟨g, 0, none⟩)) 46 rfl (by kernel_rfl) (by kernel_rfl) ?_
  refine Qaa (.pointer (some ⟨g, 0, none⟩)) 47 rfl (by kernel_rfl) (by kernel_rfl) ?_
  refine Qaj g _ (cat [#[.int .i64 (n + 1)], #[.int .u64 (((B * 2 ^ a % 18446744073709551616 ||| 1 * 2 ^ (a - 1) % 18446744073709551616 : Nat) : Int))]]) 133 r1_4 rfl (by kernel_rfl) (Qbf 3 _ _ g 0 133 _ (.int .i64 (n + 1)) r1_4 rfl (by kernel_rfl) (by kernel_rfl) (by kernel_rfl) (by kernel_rfl) (by kernel_rfl) rfl) fun W5 p5 r1_5 => ?_
  have x5 : ExtB g w W5 := ExtB.puts x4 p5
  refine Qac ?_
  refine hK10 _ _ ?_
  refine wp_seq_k fun K11 hK11 => ?_
  refine Qab ?_
  refine Qaa (.nilIface) 4 rfl (by kernel_rfl) (by kernel_rfl) ?_
  refine Qac ?_
  refine hK11 _ _ ?_
  refine wp_ret ?_
  repeat (first | with_reducible refine goR1 ?_ | with_reducible refine goR2 ?_)
  exact (show bodyPost _ _ _ .ret _ _ from ret1 (.nilIface) rfl (Qaz (by kernel_rfl)) ⟨rfl, x5, r1_5⟩)
set_option maxHeartbeats 4000000 in
theorem NumZ (w : World) : Calls Tryd.prog 25 #[.nilIface] w (Ret w (.int .i64 0)) := by
  refine enter 19 [(0, .nilIface)] Tryd.func25 rfl rfl (by kernel_rfl) rfl ?_
  refine wp_seq_k fun K1 hK1 => ?_
  refine Qab ?_
  refine Qaa (.int .i64 0) 2 rfl (by kernel_rfl) (by kernel_rfl) ?_
  refine Qac ?_
  refine hK1 _ _ ?_
  refine wp_seq_k fun K2 hK2 => ?_
  refine wp_seq_k fun K3 hK3 => ?_
  refine Qab ?_
  refine Qaa (.nilIface) 5 rfl (by kernel_rfl) (by kernel_rfl) ?_
  refine Qaa (.bool true) 6 rfl (by kernel_rfl) (by kernel_rfl) ?_
  refine Qac ?_
  refine hK3 _ _ ?_
  refine cond_true (by kernel_rfl) ?_
  refine wp_seq_k fun K4 hK4 => ?_
  refine Qab ?_
  refine Qaa (.int .i64 0) 2 rfl (by kernel_rfl) (by kernel_rfl) ?_
  refine Qac ?_
  refine hK4 _ _ ?_
  refine wp_ret ?_
  repeat (first | with_reducible refine goR1 ?_ | with_reducible refine goR2 ?_)
  exact (show bodyPost _ _ _ .ret _ _ from ret1 (.int .i64 0) rfl (Qaz (by kernel_rfl)) ⟨rfl, (Rely.Ext.refl w)⟩)
set_option maxHeartbeats 4000000 in
theorem NumE (e : Int) (h0 : e ≠ 0) (w : World) : Calls Tryd.prog 25 #[.iface 60 (.int .i64 e)] w (Ret w (.int .i64 e)) := by
  refine enter 19 [(0, .iface 60 (.int .i64 e))] Tryd.func25 rfl rfl (by kernel_rfl) rfl ?_
  refine wp_seq_k fun K1 hK1 => ?_
  refine Qab ?_
  refine Qaa (.int .i64 0) 2 rfl (by kernel_rfl) (by kernel_rfl) ?_
  refine Qac ?_
  refine hK1 _ _ ?_
  refine wp_seq_k fun K2 hK2 => ?_
  refine wp_seq_k fun K3 hK3 => ?_
  refine Qab ?_
  refine Qaa (.iface 60 (.int .i64 e)) 5 rfl (by kernel_rfl) (by kernel_rfl) ?_
  refine Qaa (.bool false) 6 rfl (by kernel_rfl) (by kernel_rfl) ?_
  refine Qac ?_
  refine hK3 _ _ ?_
  refine cond_false (by kernel_rfl) ?_
  refine wp_skip ?_
  refine hK2 _ _ ?_
  refine wp_seq_k fun K4 hK4 => ?_
  refine Qab ?_
  refine Qaa (.iface 60 (.int .i64 e)) 8 rfl (by kernel_rfl) (by kernel_rfl) ?_
  refine Qaa (.tuple #[.int .i64 e, .bool true]) 9 rfl (by kernel_rfl) (by kernel_rfl) ?_
  refine Qaa (.tuple #[.int .i64 e, .bool true]) 7 rfl (by kernel_rfl) (by kernel_rfl) ?_
  refine Qaa (.int .i64 e) 10 rfl (by kernel_rfl) (by kernel_rfl) ?_
  refine Qaa (.bool true) 11 rfl (by kernel_rfl) (by kernel_rfl) ?_
  refine Qaa (.int .i64 e) 3 rfl (by kernel_rfl) (by kernel_rfl) ?_
  refine Qaa (.bool true) 4 rfl (by kernel_rfl) (by kernel_rfl) ?_
  refine Qac ?_
  refine hK4 _ _ ?_
  refine wp_seq_k fun K5 hK5 => ?_
  refine wp_seq_k fun K6 hK6 => ?_
  refine Qab ?_
  refine Qaa (.bool true) 12 rfl (by kernel_rfl) (by kernel_rfl) ?_
  refine Qaa (.bool false) 13 rfl (by kernel_rfl) (by kernel_rfl) ?_
  refine Qaa (.bool false) 14 rfl (by kernel_rfl) (by kernel_rfl) ?_
  refine Qaa (.int .i64 e) 15 rfl (by kernel_rfl) (by kernel_rfl) ?_
  refine Qaa (.bool false) 16 rfl (by kernel_rfl) (Qai (u := .bool ((e == 0))) (by kernel_rfl) (congrArg Value.bool (by simpa using h0))) ?_
  refine Qaa (.bool false) 17 rfl (by kernel_rfl) (by kernel_rfl) ?_
  refine Qac ?_
  refine hK6 _ _ ?_
  refine cond_false (by kernel_rfl) ?_
  refine wp_skip ?_
  refine hK5 _ _ ?_
  refine wp_seq_k fun K7 hK7 => ?_
  refine Qab ?_
  refine Qaa (.int .i64 e) 18 rfl (by kernel_rfl) (by kernel_rfl) ?_
  refine Qaa (.int .i64 e) 2 rfl (by kernel_rfl) (by kernel_rfl) ?_
  refine Qac ?_
  refine hK7 _ _ ?_
  refine wp_ret ?_
  repeat (first | with_reducible refine goR1 ?_ | with_reducible refine goR2 ?_)
  exact (show bodyPost _ _ _ .ret _ _ from ret1 (.int .i64 e) rfl (Qaz (by kernel_rfl)) ⟨rfl, (Rely.Ext.refl w)⟩)
theorem NumV (e : Int) (w : World) : Calls Tryd.prog 25 #[errV e] w (Ret w (.int .i64 e)) := by
  by_cases h : e = 0
  · rw [errV_nil h, h]; exact NumZ w
  · rw [errV_ne h]; exact NumE e h w
set_option maxHeartbeats 4000000 in
theorem IsV (e k : Int) (w : World) : Calls Tryd.prog 38 #[errV e, .int .i64 k] w (Ret w (.bool (e == k))) := by
  refine enter 9 [(0, errV e), (1, .int .i64 k)] Tryd.func38 rfl rfl (by kernel_rfl) rfl ?_
  refine wp_seq_k fun K1 hK1 => ?_
  refine Qab ?_
  refine Qaa (.bool false) 4 rfl (by kernel_rfl) (by kernel_rfl) ?_
  refine Qac ?_
  refine hK1 _ _ ?_
  refine wp_seq_k fun K2 hK2 => ?_
  refine Qab ?_
  refine Qaa (errV e) 5 rfl (by kernel_rfl) (by kernel_rfl) ?_
  refine Qat (.int .i64 e) 25 #[errV e] 6 rfl (by kernel_rfl) (by kernel_rfl) ((NumV e) _) fun W1 e1 => ?_
  have x1 : Ext w W1 := Ext.tr (Rely.Ext.refl w) e1
  refine Qaa (.int .i64 k) 7 rfl (by kernel_rfl) (by kernel_rfl) ?_
  refine Qaa (.bool (e == k)) 8 rfl (by kernel_rfl) (Qai (u := .bool ((e == k))) (by kernel_rfl) (congrArg Value.bool rfl)) ?_
  refine Qaa (.bool (e == k)) 4 rfl (by kernel_rfl) (by kernel_rfl) ?_
  refine Qac ?_
  refine hK2 _ _ ?_
  refine wp_ret ?_
  repeat (first | with_reducible refine goR1 ?_ | with_reducible refine goR2 ?_)
  exact (show bodyPost _ _ _ .ret _ _ from ret1 (.bool (e == k)) rfl (Qaz (by kernel_rfl)) ⟨rfl, x1⟩)
theorem IsT (e : Int) (v : Value) (hv : errV e = v) (w : World) : Calls Tryd.prog 38 #[v, .int .i64 e] w (Ret w (.bool true)) := by
  have h := IsV e e w
  rw [hv, beq_self_eq_true] at h
  exact h
theorem ExtB.trans {g : Nat} {a b c : World} (h : ExtB g a b) (k : ExtB g b c) : ExtB g a c := ⟨k.1.trans h.1, k.2.1.trans h.2.1, k.2.2.1.trans h.2.2.1, Nat.le_trans h.2.2.2.1 k.2.2.2.1, fun i hi hn => (k.2.2.2.2 i (Nat.lt_of_lt_of_le hi h.2.2.2.1) hn).trans (h.2.2.2.2 i hi hn)⟩
set_option maxHeartbeats 4000000 in
theorem Qit (g : Nat) (nx : Int) (B : Nat) (n : Int) (hnx : 0 ≤ nx ∧ nx ≤ 4294967295) (hB : B < 18446744073709551616) (w : World) (hg : w.heap[g]? = some (.cells (cat [#[.int .i64 nx], #[.int .u64 ((B : Nat) : Int)]]) 133)) (hc : chkW nx B n = 0) (hn : 0 ≤ n ∧ n < 4294967295) (a : Nat) (ha : n - (nx - 1) = (a : Int)) (ha1 : 1 ≤ a) : Calls Tryd.prog 83 #[.pointer (some ⟨g, 0, none⟩), .int .i64 n] w (fun e w' => e = .returned .nilIface ∧ ExtB g w w' ∧ w'.heap[g]? = some (.cells (cat [#[.int .i64 (n + 1)], #[.int .u64 ((B * 2 ^ a % 18446744073709551616 ||| 1 * 2 ^ (a - 1) % 18446744073709551616 : Nat) : Int)]]) 133)) := by
  refine enter 13 [(0, .pointer (some ⟨g, 0, none⟩)), (1, .int .i64 n)] Tryd.func83 rfl rfl (by kernel_rfl) rfl ?_
  refine wp_seq_k fun K2 hK2 => ?_
  refine Qab ?_
  refine Qaa (.nilIface) 4 rfl (by kernel_rfl) (by kernel_rfl) ?_
  refine Qac ?_
  refine hK2 _ _ ?_
  refine wp_seq_k fun K3 hK3 => ?_
  refine wp_seq_k fun K4 hK4 => ?_
  refine Qab ?_
  refine Qaa (.pointer (some ⟨g, 0, none⟩)) 5 rfl (by kernel_rfl) (by kernel_rfl) ?_
  refine Qaa (.bool false) 6 rfl (by kernel_rfl) (by kernel_rfl) ?_
  refine Qac ?_
  refine hK4 _ _ ?_
  refine cond_false (by kernel_rfl) ?_
  refine wp_skip ?_
  refine hK3 _ _ ?_
  refine wp_seq_k fun K5 hK5 => ?_
  refine Qab ?_
  refine Qaa (.pointer (some ⟨g, 0, none⟩)) 8 rfl (by kernel_rfl) (by kernel_rfl) ?_
  refine Qaa (.pointer (some ⟨g, 0, none⟩)) 9 rfl (by kernel_rfl) (by kernel_rfl) ?_
  refine Qaa (.pointer (some ⟨g, 0, none⟩)) 10 rfl (by kernel_rfl) (by kernel_rfl) ?_
  refine Qaa (.int .i64 n) 11 rfl (by kernel_rfl) (by kernel_rfl) ?_
  refine Qa5 (fun v W' => v = .nilIface ∧ ExtB g w W' ∧ W'.heap[g]? = some (.cells (cat [#[.int .i64 (n + 1)], #[.int .u64 ((B * 2 ^ a % 18446744073709551616 ||| 1 * 2 ^ (a - 1) % 18446744073709551616 : Nat) : Int)]]) 133)) 89 #[.pointer (some ⟨g, 0, none⟩), .int .i64 n] 12 rfl (by kernel_rfl) (by kernel_rfl) ((mark_G g nx B n hnx hB _ hg hc hn a ha ha1).mono fun e w' ⟨h1, h2, h3⟩ => ⟨_, h1, rfl, h2, h3⟩) fun v W1 h => ?_
  obtain ⟨rfl, q1, r1_1⟩ := h
  have x1 : ExtB g w W1 := ExtB.trans (ExtB.refl g w) q1
  refine Qaa (.nilIface) 4 rfl (by kernel_rfl) (by kernel_rfl) ?_
  refine Qac ?_
  refine hK5 _ _ ?_
  refine wp_ret ?_
  repeat (first | with_reducible refine goR1 ?_ | with_reducible refine goR2 ?_)
  exact (show bodyPost _ _ _ .ret _ _ from ret1 (.nilIface) rfl (Qaz (by kernel_rfl)) ⟨rfl, x1, r1_1⟩)
theorem Qgw (g : Nat) (nx : Int) (B : Nat) (n : Int) (hnx : 0 ≤ nx ∧ nx ≤ 4294967295) (hB : B < 18446744073709551616) (w : World) (hg : w.heap[g]? = some (.cells (cat [#[.int .i64 nx], #[.int .u64 ((B : Nat) : Int)]]) 133)) (hc : chkW nx B n = 0) (hn : 0 ≤ n ∧ n < 4294967295) (a : Nat) (ha : n - (nx - 1) = (a : Int)) (ha1 : 1 ≤ a) (nx2 : Int) (B2 : Nat) (e1 : n + 1 = nx2) (e2 : B * 2 ^ a % 18446744073709551616 ||| 1 * 2 ^ (a - 1) % 18446744073709551616 = B2) :
    Calls Tryd.prog 83 #[.pointer (some ⟨g, 0, none⟩), .int .i64 n] w (fun e w' => e = .returned .nilIface ∧ ExtB g w w' ∧ w'.heap[g]? = some (.cells (cat [#[.int .i64 nx2], #[.int .u64 ((B2 : Nat) : Int)]]) 133)) := by
  have h := Qit g nx B n hnx hB w hg hc hn a ha ha1
  rw [e1, e2] at h
  exact h
theorem Qhe (g : Nat) (nx : Int) (B : Nat) (n : Int) (hnx : 0 ≤ nx ∧ nx ≤ 4294967295) (hB : B < 18446744073709551616) (w : World) (hg : w.heap[g]? = some (.cells (cat [#[.int .i64 nx], #[.int .u64 ((B : Nat) : Int)]]) 133)) (e : Int) (he : chkW nx B n = e) (h0 : e ≠ 0) : Calls Tryd.prog 82 #[.pointer (some ⟨g, 0, none⟩), .int .i64 n] w (Ret w (.iface 60 (.int .i64 e))) := by
  have h := Qhf g nx B n hnx hB w hg
  rw [he, errV_ne h0] at h
  exact h
theorem Qft (g : Nat) (nx : Int) (B : Nat) (n : Int) (hnx : 0 ≤ nx ∧ nx ≤ 4294967295) (hB : B < 18446744073709551616) (w : World) (hg : w.heap[g]? = some (.cells (cat [#[.int .i64 nx], #[.int .u64 ((B : Nat) : Int)]]) 133)) (he : chkW nx B n = 0) : Calls Tryd.prog 82 #[.pointer (some ⟨g, 0, none⟩), .int .i64 n] w (Ret w .nilIface) := by
  have h := Qhf g nx B n hnx hB w hg
  rw [errV_nil he] at h
  exact h
end Go.Proofs.YtoiendjhplbjjaaDoor.Lk
end
section
namespace Go.Proofs.YtoiendjhplbjjaaDoor.Lk
open Go Go.RowKit
open Rely Auto
set_option linter.unusedVariables false
set_option maxHeartbeats 4000000 in
theorem alive12 (w : World) : Calls Tryd.prog 41 #[] w (Ret w (.bool true)) := by
  refine enter 41 [] Tryd.func41 rfl rfl (by kernel_rfl) rfl ?_
  refine wp_seq_k fun K1 hK1 => ?_
  refine Qab ?_
  refine Qaa (.bool false) 0 rfl (by kernel_rfl) (by kernel_rfl) ?_
  refine Qac ?_
  refine hK1 _ _ ?_
  refine wp_seq_k fun K2 hK2 => ?_
  refine Qab ?_
  refine Qaa (.agg (cat [#[.int .i64 0], #[.int .u64 0]])) 4 rfl (by kernel_rfl) (by kernel_rfl) ?_
  refine Qas (cat [#[.int .i64 0], #[.int .u64 0]]) 133 5 rfl (by kernel_rfl) (by kernel_rfl) fun g3 W1 l3 e1 r3_1 => ?_
  have x1 : Ext w W1 := Ext.tr (Rely.Ext.refl w) e1
  have b3 : w.heap.size ≤ g3 := Nat.le_trans (Rely.Ext.refl w).size l3
  refine Qaa (.pointer (some ⟨g3, 0, none⟩)) 1 rfl (by kernel_rfl) (by kernel_rfl) ?_
  refine Qac ?_
  refine hK2 _ _ ?_
  refine wp_seq_k fun K4 hK4 => ?_
  refine wp_seq_k fun K5 hK5 => ?_
  refine Qab ?_
  refine Qcx (ints .i64 ([0, 64, 65])) 3 3 6 rfl (by kernel_rfl) (by kernel_rfl) fun g6 W2 l6 e2 r6_2 => ?_
  have x2 : Ext w W2 := Ext.tr x1 e2
  have b6 : w.heap.size ≤ g6 := Nat.le_trans x1.size l6
  refine Qaa (.int .i64 3) 7 rfl (by kernel_rfl) (by kernel_rfl) ?_
  refine Qaa (.int .i64 0) 8 rfl (by kernel_rfl) (by kernel_rfl) ?_
  refine Qac ?_
  refine hK5 _ _ ?_
  refine wp_block ?_
  refine wp_loop_rounds 4 ?_
  show Code.wp _ _ (Exit.then (Code.rounds _ _ _ 3) _) _ _
  refine wp_seq_k fun K7 hK7 => ?_
  refine Qab ?_
  refine Qaa (.bool true) 9 rfl (by kernel_rfl) (by kernel_rfl) ?_
  refine Qac ?_
  refine hK7 _ _ ?_
  refine wp_seq_k fun K8 hK8 => ?_
  refine cond_true (by kernel_rfl) ?_
  refine wp_skip ?_
  refine hK8 _ _ ?_
  refine wp_seq_k fun K9 hK9 => ?_
  refine wp_block ?_
  refine wp_seq_k fun K10 hK10 => ?_
  refine Qab ?_
  refine Qaa (.pointer (some ⟨g6, 0, none⟩)) 10 rfl (by kernel_rfl) (Qbg 66 _ _ .i64 (0) g6 3 3 3 rfl (by kernel_rfl) (by kernel_rfl) (by kernel_rfl) (by kernel_rfl) (by decide)) ?_
  refine Qaa (.int .i64 0) 11 rfl (by kernel_rfl) (Qae 3 _ g6 0 3 _ (.int .i64 0) _ r6_2 rfl (by kernel_rfl) (by kernel_rfl) (by kernel_rfl)) ?_
  refine Qaa (.int .i64 0) 3 rfl (by kernel_rfl) (by kernel_rfl) ?_
  refine Qac ?_
  refine hK10 _ _ ?_
  refine wp_seq_k fun K11 hK11 => ?_
  refine Qab ?_
  refine Qaa (.pointer (some ⟨g3, 0, none⟩)) 12 rfl (by kernel_rfl) (by kernel_rfl) ?_
  refine Qaa (.int .i64 0) 13 rfl (by kernel_rfl) (by kernel_rfl) ?_
  have r3_2 := (Qad r3_1 e2)
  refine Qat (.nilIface) 82 #[.pointer (some ⟨g3, 0, none⟩), .int .i64 0] 14 rfl (by kernel_rfl) (by kernel_rfl) (Qft g3 0 0 0 (by omega) (by decide) _ r3_2 (by decide +kernel)) fun W3 e3 => ?_
  have x3 : Ext w W3 := Ext.tr x2 e3
  refine Qaa (.bool false) 15 rfl (by kernel_rfl) (by kernel_rfl) ?_
  refine Qaa (.bool false) 16 rfl (by kernel_rfl) (by kernel_rfl) ?_
  refine Qaa (.pointer (some ⟨g3, 0, none⟩)) 17 rfl (by kernel_rfl) (by kernel_rfl) ?_
  refine Qaa (.int .i64 0) 18 rfl (by kernel_rfl) (by kernel_rfl) ?_
  have r3_3 := (Qad r3_2 e3)
  refine Qa5 (fun v W' => v = .nilIface ∧ ExtB g3 W3 W' ∧ W'.heap[g3]? = some (.cells (cat [#[.int .i64 1], #[.int .u64 ((1 : Nat) : Int)]]) 133)) 83 #[.pointer (some ⟨g3, 0, none⟩), .int .i64 0] 19 rfl (by kernel_rfl) (by kernel_rfl) ((Qgw g3 0 0 0 (by omega) (by decide) _ r3_3 (by decide +kernel) (by omega) 1 (by decide) (by decide) 1 1 (by decide) (by decide +kernel)).mono fun e w' ⟨h1, h2, h3⟩ => ⟨_, h1, rfl, h2, h3⟩) fun v W4 h => ?_
  obtain ⟨rfl, q4, r3_4⟩ := h
  have x4 : Ext w W4 := ExtB.up x3 q4 b3
  refine Qaa (.bool false) 20 rfl (by kernel_rfl) (by kernel_rfl) ?_
  refine Qaa (.bool false) 21 rfl (by kernel_rfl) (by kernel_rfl) ?_
  refine Qac ?_
  refine hK11 _ _ ?_
  refine cond_false (by kernel_rfl) ?_
  refine wp_skip ?_
  refine hK9 _ _ ?_
  refine Qab ?_
  refine Qaa (.int .i64 1) 22 rfl (by kernel_rfl) (by kernel_rfl) ?_
  refine Qaa (.int .i64 1) 8 rfl (by kernel_rfl) (by kernel_rfl) ?_
  refine Qac ?_
  show Code.rounds _ _ _ 3 _ _
  show Code.wp _ _ (Exit.then (Code.rounds _ _ _ 2) _) _ _
  refine wp_seq_k fun K12 hK12 => ?_
  refine Qab ?_
  refine Qaa (.bool true) 9 rfl (by kernel_rfl) (by kernel_rfl) ?_
  refine Qac ?_
  refine hK12 _ _ ?_
  refine wp_seq_k fun K13 hK13 => ?_
  refine cond_true (by kernel_rfl) ?_
  refine wp_skip ?_
  refine hK13 _ _ ?_
  refine wp_seq_k fun K14 hK14 => ?_
  refine wp_block ?_
  refine wp_seq_k fun K15 hK15 => ?_
  refine Qab ?_
  refine Qaa (.pointer (some ⟨g6, 1, none⟩)) 10 rfl (by kernel_rfl) (Qbg 66 _ _ .i64 (1) g6 3 3 3 rfl (by kernel_rfl) (by kernel_rfl) (by kernel_rfl) (by kernel_rfl) (by decide)) ?_
  have r6_4 := (ExtB.row q4 (Qad r6_2 e3) (Qal r3_1 l6))
  refine Qaa (.int .i64 64) 11 rfl (by kernel_rfl) (Qae 3 _ g6 1 3 _ (.int .i64 64) _ r6_4 rfl (by kernel_rfl) (by kernel_rfl) (by kernel_rfl)) ?_
  refine Qaa (.int .i64 64) 3 rfl (by kernel_rfl) (by kernel_rfl) ?_
  refine Qac ?_
  refine hK15 _ _ ?_
  refine wp_seq_k fun K16 hK16 => ?_
  refine Qab ?_
  refine Qaa (.pointer (some ⟨g3, 0, none⟩)) 12 rfl (by kernel_rfl) (by kernel_rfl) ?_
  refine Qaa (.int .i64 64) 13 rfl (by kernel_rfl) (by kernel_rfl) ?_
  refine Qat (.nilIface) 82 #[.pointer (some ⟨g3, 0, none⟩), .int .i64 64] 14 rfl (by kernel_rfl) (by kernel_rfl) (Qft g3 1 1 64 (by omega) (by decide) _ r3_4 (by decide +kernel)) fun W5 e5 => ?_
  have x5 : Ext w W5 := Ext.tr x4 e5
  refine Qaa (.bool false) 15 rfl (by kernel_rfl) (by kernel_rfl) ?_
  refine Qaa (.bool false) 16 rfl (by kernel_rfl) (by kernel_rfl) ?_
  refine Qaa (.pointer (some ⟨g3, 0, none⟩)) 17 rfl (by kernel_rfl) (by kernel_rfl) ?_
  refine Qaa (.int .i64 64) 18 rfl (by kernel_rfl) (by kernel_rfl) ?_
  have r3_5 := (Qad r3_4 e5)
  refine Qa5 (fun v W' => v = .nilIface ∧ ExtB g3 W5 W' ∧ W'.heap[g3]? = some (.cells (cat [#[.int .i64 65], #[.int .u64 ((9223372036854775808 : Nat) : Int)]]) 133)) 83 #[.pointer (some ⟨g3, 0, none⟩), .int .i64 64] 19 rfl (by kernel_rfl) (by kernel_rfl) ((Qgw g3 1 1 64 (by omega) (by decide) _ r3_5 (by decide +kernel) (by omega) 64 (by decide) (by decide) 65 9223372036854775808 (by decide) (by decide +kernel)).mono fun e w' ⟨h1, h2, h3⟩ => ⟨_, h1, rfl, h2, h3⟩) fun v W6 h => ?_
  obtain ⟨rfl, q6, r3_6⟩ := h
  have x6 : Ext w W6 := ExtB.up x5 q6 b3
  refine Qaa (.bool false) 20 rfl (by kernel_rfl) (by kernel_rfl) ?_
  refine Qaa (.bool false) 21 rfl (by kernel_rfl) (by kernel_rfl) ?_
  refine Qac ?_
  refine hK16 _ _ ?_
  refine cond_false (by kernel_rfl) ?_
  refine wp_skip ?_
  refine hK14 _ _ ?_
  refine Qab ?_
  refine Qaa (.int .i64 2) 22 rfl (by kernel_rfl) (by kernel_rfl) ?_
  refine Qaa (.int .i64 2) 8 rfl (by kernel_rfl) (by kernel_rfl) ?_
  refine Qac ?_
  show Code.rounds _ _ _ 2 _ _
  show Code.wp _ _ (Exit.then (Code.rounds _ _ _ 1) _) _ _
  refine wp_seq_k fun K17 hK17 => ?_
  refine Qab ?_
  refine Qaa (.bool true) 9 rfl (by kernel_rfl) (by kernel_rfl) ?_
  refine Qac ?_
  refine hK17 _ _ ?_
  refine wp_seq_k fun K18 hK18 => ?_
  refine cond_true (by kernel_rfl) ?_
  refine wp_skip ?_
  refine hK18 _ _ ?_
  refine wp_seq_k fun K19 hK19 => ?_
  refine wp_block ?_
  refine wp_seq_k fun K20 hK20 => ?_
  refine Qab ?_
  refine Qaa (.pointer (some ⟨g6, 2, none⟩)) 10 rfl (by kernel_rfl) (Qbg 66 _ _ .i64 (2) g6 3 3 3 rfl (by kernel_rfl) (by kernel_rfl) (by kernel_rfl) (by kernel_rfl) (by decide)) ?_
  have r6_6 := (ExtB.row q6 (Qad r6_4 e5) (Qal r3_1 l6))
  refine Qaa (.int .i64 65) 11 rfl (by kernel_rfl) (Qae 3 _ g6 2 3 _ (.int .i64 65) _ r6_6 rfl (by kernel_rfl) (by kernel_rfl) (by kernel_rfl)) ?_
  refine Qaa (.int .i64 65) 3 rfl (by kernel_rfl) (by kernel_rfl) ?_
  refine Qac ?_
  refine hK20 _ _ ?_
  refine wp_seq_k fun K21 hK21 => ?_
  refine Qab ?_
  refine Qaa (.pointer (some ⟨g3, 0, none⟩)) 12 rfl (by kernel_rfl) (by kernel_rfl) ?_
  refine Qaa (.int .i64 65) 13 rfl (by kernel_rfl) (by kernel_rfl) ?_
  refine Qat (.nilIface) 82 #[.pointer (some ⟨g3, 0, none⟩), .int .i64 65] 14 rfl (by kernel_rfl) (by kernel_rfl) (Qft g3 65 9223372036854775808 65 (by omega) (by decide) _ r3_6 (by decide +kernel)) fun W7 e7 => ?_
  have x7 : Ext w W7 := Ext.tr x6 e7
  refine Qaa (.bool false) 15 rfl (by kernel_rfl) (by kernel_rfl) ?_
  refine Qaa (.bool false) 16 rfl (by kernel_rfl) (by kernel_rfl) ?_
  refine Qaa (.pointer (some ⟨g3, 0, none⟩)) 17 rfl (by kernel_rfl) (by kernel_rfl) ?_
  refine Qaa (.int .i64 65) 18 rfl (by kernel_rfl) (by kernel_rfl) ?_
  have r3_7 := (Qad r3_6 e7)
  refine Qa5 (fun v W' => v = .nilIface ∧ ExtB g3 W7 W' ∧ W'.heap[g3]? = some (.cells (cat [#[.int .i64 66], #[.int .u64 ((1 : Nat) : Int)]]) 133)) 83 #[.pointer (some ⟨g3, 0, none⟩), .int .i64 65] 19 rfl (by kernel_rfl) (by kernel_rfl) ((Qgw g3 65 9223372036854775808 65 (by omega) (by decide) _ r3_7 (by decide +kernel) (by omega) 1 (by decide) (by decide) 66 1 (by decide) (by decide +kernel)).mono fun e w' ⟨h1, h2, h3⟩ => ⟨_, h1, rfl, h2, h3⟩) fun v W8 h => ?_
  obtain ⟨rfl, q8, r3_8⟩ := h
  have x8 : Ext w W8 := ExtB.up x7 q8 b3
  refine Qaa (.bool false) 20 rfl (by kernel_rfl) (by kernel_rfl) ?_
  refine Qaa (.bool false) 21 rfl (by kernel_rfl) (by kernel_rfl) ?_
  refine Qac ?_
  refine hK21 _ _ ?_
  refine cond_false (by kernel_rfl) ?_
  refine wp_skip ?_
  refine hK19 _ _ ?_
  refine Qab ?_
  refine Qaa (.int .i64 3) 22 rfl (by kernel_rfl) (by kernel_rfl) ?_
  refine Qaa (.int .i64 3) 8 rfl (by kernel_rfl) (by kernel_rfl) ?_
  refine Qac ?_
  show Code.rounds _ _ _ 1 _ _
  show Code.wp _ _ (Exit.then (Code.rounds _ _ _ 0) _) _ _
  refine wp_seq_k fun K22 hK22 => ?_
  refine Qab ?_
  refine Qaa (.bool false) 9 rfl (by kernel_rfl) (by kernel_rfl) ?_
  refine Qac ?_
  refine hK22 _ _ ?_
  refine wp_seq_k fun K23 hK23 => ?_
  refine cond_false (by kernel_rfl) ?_
  refine wp_exit ?_
  refine hK4 _ _ ?_
  refine wp_seq_k fun K24 hK24 => ?_
  refine Qab ?_
  refine Qaa (.pointer (some ⟨g3, 0, none⟩)) 23 rfl (by kernel_rfl) (by kernel_rfl) ?_
  refine Qat (.iface 60 (.int .i64 7)) 82 #[.pointer (some ⟨g3, 0, none⟩), .int .i64 64] 24 rfl (by kernel_rfl) (by kernel_rfl) (Qhe g3 66 1 64 (by omega) (by decide) _ r3_8 7 (by decide +kernel) (by decide)) fun W9 e9 => ?_
  have x9 : Ext w W9 := Ext.tr x8 e9
  refine Qat (.bool true) 38 #[.iface 60 (.int .i64 7), .int .i64 7] 25 rfl (by kernel_rfl) (by kernel_rfl) ((IsT 7 (.iface 60 (.int .i64 7)) rfl) _) fun W10 e10 => ?_
  have x10 : Ext w W10 := Ext.tr x9 e10
  refine Qaa (.bool true) 26 rfl (by kernel_rfl) (by kernel_rfl) ?_
  refine Qaa (.pointer (some ⟨g3, 0, none⟩)) 27 rfl (by kernel_rfl) (by kernel_rfl) ?_
  have r3_10 := (Qad (Qad r3_8 e9) e10)
  refine Qat (.iface 60 (.int .i64 11)) 82 #[.pointer (some ⟨g3, 0, none⟩), .int .i64 0] 28 rfl (by kernel_rfl) (by kernel_rfl) (Qhe g3 66 1 0 (by omega) (by decide) _ r3_10 11 (by decide +kernel) (by decide)) fun W11 e11 => ?_
  have x11 : Ext w W11 := Ext.tr x10 e11
  refine Qat (.bool true) 38 #[.iface 60 (.int .i64 11), .int .i64 11] 29 rfl (by kernel_rfl) (by kernel_rfl) ((IsT 11 (.iface 60 (.int .i64 11)) rfl) _) fun W12 e12 => ?_
  have x12 : Ext w W12 := Ext.tr x11 e12
  refine Qaa (.bool true) 30 rfl (by kernel_rfl) (by kernel_rfl) ?_
  refine Qaa (.bool true) 31 rfl (by kernel_rfl) (by kernel_rfl) ?_
  refine Qaa (.pointer (some ⟨g3, 0, none⟩)) 32 rfl (by kernel_rfl) (by kernel_rfl) ?_
  have r3_12 := (Qad (Qad r3_10 e11) e12)
  refine Qat (.nilIface) 82 #[.pointer (some ⟨g3, 0, none⟩), .int .i64 1] 33 rfl (by kernel_rfl) (by kernel_rfl) (Qft g3 66 1 1 (by omega) (by decide) _ r3_12 (by decide +kernel)) fun W13 e13 => ?_
  have x13 : Ext w W13 := Ext.tr x12 e13
  refine Qaa (.bool true) 34 rfl (by kernel_rfl) (by kernel_rfl) ?_
  refine Qaa (.bool true) 35 rfl (by kernel_rfl) (by kernel_rfl) ?_
  refine Qaa (.bool true) 36 rfl (by kernel_rfl) (by kernel_rfl) ?_
  refine Qaa (.pointer (some ⟨g3, 0, none⟩)) 37 rfl (by kernel_rfl) (by kernel_rfl) ?_
  have r3_13 := (Qad r3_12 e13)
  refine Qat (.int .i64 65) 84 #[.pointer (some ⟨g3, 0, none⟩)] 38 rfl (by kernel_rfl) (by kernel_rfl) (HighestC g3 66 1 (by omega) (by decide) _ r3_13) fun W14 e14 => ?_
  have x14 : Ext w W14 := Ext.tr x13 e14
  refine Qaa (.bool true) 39 rfl (by kernel_rfl) (by kernel_rfl) ?_
  refine Qaa (.bool true) 40 rfl (by kernel_rfl) (by kernel_rfl) ?_
  refine Qaa (.bool true) 0 rfl (by kernel_rfl) (by kernel_rfl) ?_
  refine Qac ?_
  refine hK24 _ _ ?_
  refine wp_ret ?_
  repeat (first | with_reducible refine goR1 ?_ | with_reducible refine goR2 ?_)
  exact (show bodyPost _ _ _ .ret _ _ from ret1 (.bool true) rfl (Qaz (by kernel_rfl)) ⟨rfl, x14⟩)
end Go.Proofs.YtoiendjhplbjjaaDoor.Lk
end
section
namespace Go.Proofs.YtoiendjhplbjjaaDoor.Ll
open Go Go.RowKit
open Rely Auto Own Sha Sha
set_option linter.unusedVariables false
set_option linter.unusedSimpArgs false
open Cha Ae
theorem QeN (base : Nat) (sk rk : List Int) : Qbo Ext (NewL base sk rk) := fun _ _ _ hR ⟨g, e, h1, h2⟩ => ⟨g, e, h1, Qad h2 hR⟩
theorem newG (n0 : Nat) (sk rk : List Int) (w : World) (hsk : sk.length = 32) (hrk : rk.length = 32) (h0 : n0 ≤ w.heap.size) : Calls Tryd.prog 43 #[.agg (ints .u8 sk), .agg (ints .u8 rk)] w (QbY w (NewL n0 sk rk)) :=
  (newC sk rk w hsk hrk).mono fun e W' h => by
    obtain ⟨v, e1, e2, g, e3, e4, e5⟩ := h
    exact ⟨v, e1, e2, g, e3, Nat.le_trans h0 e4, e5⟩
set_option maxRecDepth 100000 in
set_option maxHeartbeats 4000000 in
theorem Qgd (ka kb : List Int) (n cT : Nat) (aT : Option Addr) (gT oT : Nat) (th tq : TypeId) (w : World) (hh : w.heap[2]? = some (.cells (ints .u32 [1634760805, 857760878, 2036477234, 1797285236]) th)) (hq : w.heap[3]? = some (.cells (ints .i64 [0, 4, 8, 12, 1, 5, 9, 13, 2, 6, 10, 14, 3, 7, 11, 15, 0, 5, 10, 15, 1, 6, 11, 12, 2, 7, 8, 13, 3, 4, 9, 14]) tq)) (hka : ka.length = 32) (hkb : kb.length = 32) (hbig : 40 < n) : Calls Tryd.prog 9 #[.agg (ints .u8 ka), .agg (ints .u8 kb), .slice aT n cT] w (Ret w (.bool true)) := by
  refine enter 110 [(0, .agg (ints .u8 (ka))), (1, .agg (ints .u8 (kb))), (2, .slice aT n cT)] Tryd.func9 rfl rfl kj rfl ?_
  refine wp_seq_k fun K3 hK3 => ?_
  refine Qab ?_
  refine Qas (ints .u8 (ka)) 23 3 rfl kj kj fun g4 W1 l4 e1 r4_1 => ?_
  have x1 : Ext w W1 := Ext.tr (Rely.Ext.refl w) e1
  have b4 : w.heap.size ≤ g4 := Nat.le_trans (Rely.Ext.refl w).size l4
  refine Qas (ints .u8 (kb)) 23 4 rfl kj kj fun g5 W2 l5 e2 r5_2 => ?_
  have x2 : Ext w W2 := Ext.tr x1 e2
  have b5 : w.heap.size ≤ g5 := Nat.le_trans x1.size l5
  refine Qaa (.bool false) 6 rfl kj kj ?_
  refine Qac ?_
  refine hK3 _ _ ?_
  refine wp_seq_k fun K6 hK6 => ?_
  refine wp_seq_k fun K7 hK7 => ?_
  refine Qab ?_
  refine Qat (.bool true) 41 #[] 17 rfl kj kj ((Lk.alive12) _) fun W3 e3 => ?_
  have x3 : Ext w W3 := Ext.tr x2 e3
  refine Qaa (.bool false) 18 rfl kj kj ?_
  refine Qac ?_
  refine hK7 _ _ ?_
  refine cond_false kj ?_
  refine wp_skip ?_
  refine hK6 _ _ ?_
  refine wp_seq_k fun K8 hK8 => ?_
  refine wp_seq_k fun K9 hK9 => ?_
  refine Qab ?_
  refine Qaa (.slice aT n cT) 19 rfl kj kj ?_
  refine Qaa (.int .i64 ((n : Nat) : Int)) 20 rfl kj kj ?_
  refine Qaa (.bool true) 21 rfl kj (Qai (u := .bool (decide (((n : Nat) : Int) > 40))) kj (congrArg Value.bool (decide_eq_true (by omega)))) ?_
  refine Qac ?_
  refine hK9 _ _ ?_
  refine cond_true kj ?_
  refine wp_seq_k fun K10 hK10 => ?_
  refine Qab ?_
  refine Qaa (.bool true) 6 rfl kj kj ?_
  refine Qac ?_
  refine hK10 _ _ ?_
  refine wp_ret ?_
  repeat (first | with_reducible refine goR1 ?_ | with_reducible refine goR2 ?_)
  exact (show bodyPost _ _ _ .ret _ _ from ret1 (.bool true) rfl (Qaz kj) ⟨rfl, x3⟩)
set_option maxRecDepth 100000 in
set_option maxHeartbeats 4000000 in
theorem Qgc (ka kb : List Int) (n cT : Nat) (aT : Option Addr) (gT oT : Nat) (th tq : TypeId) (w : World) (hh : w.heap[2]? = some (.cells (ints .u32 [1634760805, 857760878, 2036477234, 1797285236]) th)) (hq : w.heap[3]? = some (.cells (ints .i64 [0, 4, 8, 12, 1, 5, 9, 13, 2, 6, 10, 14, 3, 7, 11, 15, 0, 5, 10, 15, 1, 6, 11, 12, 2, 7, 8, 13, 3, 4, 9, 14]) tq)) (hka : ka.length = 32) (hkb : kb.length = 32) (hT : 0 < n → aT = some ⟨gT, oT, none⟩ ∧ gT < w.heap.size) (hC : ∀ i, i < n → ∃ a c xs, w.cell? ⟨gT, oT + i, none⟩ = some (.slice a xs.length c) ∧ RdK .u8 w.heap.size xs (.slice a xs.length c) w ∧ Qam xs) (hsm : n ≤ 40) : Calls Tryd.prog 9 #[.agg (ints .u8 ka), .agg (ints .u8 kb), .slice aT n cT] w (Ret w (.bool true)) := by
 refine enter 110 [(0, .agg (ints .u8 (ka))), (1, .agg (ints .u8 (kb))), (2, .slice aT n cT)] Tryd.func9 rfl rfl kj rfl ?_
 refine wp_seq_k fun K3 hK3 => ?_
 refine Qab ?_
 refine Qas (ints .u8 (ka)) 23 3 rfl kj kj fun g4 W1 l4 e1 r4_1 => ?_
 have x1 : Ext w W1 := Ext.tr (Rely.Ext.refl w) e1
 have b4 : w.heap.size ≤ g4 := Nat.le_trans (Rely.Ext.refl w).size l4
 refine Qas (ints .u8 (kb)) 23 4 rfl kj kj fun g5 W2 l5 e2 r5_2 => ?_
 have x2 : Ext w W2 := Ext.tr x1 e2
 have b5 : w.heap.size ≤ g5 := Nat.le_trans x1.size l5
 refine Qaa (.bool false) 6 rfl kj kj ?_
 refine Qac ?_
 refine hK3 _ _ ?_
 refine wp_seq_k fun K6 hK6 => ?_
 refine wp_seq_k fun K7 hK7 => ?_
 refine Qab ?_
 refine Qat (.bool true) 41 #[] 17 rfl kj kj ((Lk.alive12) _) fun W3 e3 => ?_
 have x3 : Ext w W3 := Ext.tr x2 e3
 refine Qaa (.bool false) 18 rfl kj kj ?_
 refine Qac ?_
 refine hK7 _ _ ?_
 refine cond_false kj ?_
 refine wp_skip ?_
 refine hK6 _ _ ?_
 refine wp_seq_k fun K8 hK8 => ?_
 refine wp_seq_k fun K9 hK9 => ?_
 refine Qab ?_
 refine Qaa (.slice aT n cT) 19 rfl kj kj ?_
 refine Qaa (.int .i64 ((n : Nat) : Int)) 20 rfl kj kj ?_
 refine Qaa (.bool false) 21 rfl kj (Qai (u := .bool (decide (((n : Nat) : Int) > 40))) kj (congrArg Value.bool (decide_eq_false (by omega)))) ?_
 refine Qac ?_
 refine hK9 _ _ ?_
 refine cond_false kj ?_
 refine wp_skip ?_
 refine hK8 _ _ ?_
 refine wp_seq_k fun K10 hK10 => ?_
 refine QaS 5 [⟨none, [(3, none)]⟩, ⟨none, [(4, none)]⟩, ⟨none, [(22, some 0), (23, some 1)]⟩, ⟨none, [(4, none)]⟩, ⟨none, [(3, none)]⟩] kj kj fun F hF => ?_
 have r4_2 := (Qad r4_1 e2)
 have r4_3 := (Qad r4_2 e3)
 refine Qbu (Qaq _) (.agg (ints .u8 (ka))) kj kj (fun W hR => (Qar 23 _ g4 23 _ _ (Qad (Qad r4_3 (Qah _)) hR) rfl kj kj (isz (n := 32) kj ((Qaf _ _).trans hka)))) ?_
 have r5_3 := (Qad r5_2 e3)
 refine Qbu (Qaq _) (.agg (ints .u8 (kb))) kj kj (fun W hR => (Qar 23 _ g5 23 _ _ (Qad (Qad r5_3 (Qah _)) hR) rfl kj kj (isz (n := 32) kj ((Qaf _ _).trans hkb)))) ?_
 refine Qdj (Qaq _) (NewL W3.heap.size ka kb) (QeN _ _ _) 43 #[.agg (ints .u8 (ka)), .agg (ints .u8 (kb))] kj kj (fun W => by kernel_rfl) (fun W hR => (newG W3.heap.size ka kb _ hka hkb (Rely.Ext.trans (Qah _) hR).size)) ?_
 refine Qbu (Qaq _) (.agg (ints .u8 (kb))) kj kj (fun W hR => (Qar 23 _ g5 23 _ _ (Qad (Qad r5_3 (Qah _)) hR) rfl kj kj (isz (n := 32) kj ((Qaf _ _).trans hkb)))) ?_
 refine Qbu (Qaq _) (.agg (ints .u8 (ka))) kj kj (fun W hR => (Qar 23 _ g4 23 _ _ (Qad (Qad r4_3 (Qah _)) hR) rfl kj kj (isz (n := 32) kj ((Qaf _ _).trans hka)))) ?_
 refine Qdi (hF _ fun W4 e4 => ?_)
 simp only [List.nil_append, List.cons_append, List.take_succ_cons, List.take_zero, List.drop_succ_cons, List.drop_zero, finE, up]
 intro vv11 hv11
 clear hF
 have x4 : Ext w W4 := Ext.tr x3 e4
 obtain ⟨gl13, rfl, ll13, rl13⟩ := hv11
 have b13 : w.heap.size ≤ gl13 := Nat.le_trans x3.size ll13
 refine Qa5 (fun v W' => (NewL W4.heap.size kb ka) v W' ∧ Ext W4 W') 43 #[.agg (ints .u8 (kb)), .agg (ints .u8 (ka))] 27 rfl kj kj ((newC kb ka _ hkb hka).mono (by rintro e w' ⟨v, rfl, e1, hv⟩; exact ⟨v, rfl, hv, e1⟩)) fun vv14 W5 hh14 => ?_
 obtain ⟨hv14, e5⟩ := hh14
 have x5 : Ext w W5 := Ext.tr x4 e5
 obtain ⟨gl16, rfl, ll16, rl16⟩ := hv14
 have b16 : w.heap.size ≤ gl16 := Nat.le_trans x4.size ll16
 refine Qaa (.pointer (some ⟨gl13, 0, none⟩)) 7 rfl kj kj ?_
 refine Qaa (.pointer (some ⟨gl16, 0, none⟩)) 8 rfl kj kj ?_
 refine Qac ?_
 refine hK10 _ _ ?_
 refine wp_seq_k fun K17 hK17 => ?_
 refine wp_seq_k fun K18 hK18 => ?_
 refine Qab ?_
 refine Qaa (.slice aT n cT) 28 rfl kj kj ?_
 refine Qaa (.int .i64 ((n : Nat) : Int)) 29 rfl kj kj ?_
 refine Qaa (.int .i64 0) 30 rfl kj kj ?_
 refine Qac ?_
 refine hK18 _ _ ?_
 refine wp_block ?_
 have n_13_16 : gl13 ≠ gl16 := (Qag rl13 ll16)
 have n_16_13 : gl16 ≠ gl13 := (Qal rl13 ll16)
 have r13_5 := (Qad rl13 e5)
 refine Qbb (fun (s1 : Nat × Int × Nat × Int × Nat) => [(2, .slice aT n cT), (6, .bool false), (7, .pointer (some ⟨gl13, 0, none⟩)), (8, .pointer (some ⟨gl16, 0, none⟩)), (28, .slice aT n cT), (29, .int .i64 ((n : Nat) : Int)), (30, .int .i64 ((s1.1 : Nat) : Int))]) (fun (s1 : Nat × Int × Nat × Int × Nat) W => (s1.1 ≤ n) ∧ (WInv s1.2.1 s1.2.2.1 (rng s1.1)) ∧ (WInv s1.2.2.2.1 s1.2.2.2.2 (rng s1.1)) ∧ (W.heap[gl13]? = some (.cells (cat [#[.int .i64 s1.2.1], #[.int .u64 ((s1.2.2.1 : Nat) : Int)], ints .u8 (ka), ints .u8 (kb), #[.int .i64 ((s1.1 : Nat) : Int)]]) 136)) ∧ (W.heap[gl16]? = some (.cells (cat [#[.int .i64 s1.2.2.2.1], #[.int .u64 ((s1.2.2.2.2 : Nat) : Int)], ints .u8 (kb), ints .u8 (ka), #[.int .i64 ((s1.1 : Nat) : Int)]]) 136)) ∧ (Ext w W)) (fun (s1 : Nat × Int × Nat × Int × Nat) => n - s1.1) (0, 0, 0, 0, 0) ⟨rfl, rfl, rfl, rfl, rfl, rfl, rfl, trivial⟩ ⟨(Nat.zero_le _), Qe8, Qe8, r13_5, rl16, x5⟩ fun s1 X1 V1 hI1 => ?_
 obtain ⟨i, p1, q1, p2, q2⟩ := s1
 obtain ⟨hi, hw1, hw2, q13_1, q16_1, xx1⟩ := hI1
 replace hi : i ≤ n := hi
 replace hw1 : WInv p1 q1 (rng i) := hw1
 replace hw2 : WInv p2 q2 (rng i) := hw2
 replace q13_1 : V1.heap[gl13]? = some (.cells (cat [#[.int .i64 p1], #[.int .u64 ((q1 : Nat) : Int)], ints .u8 (ka), ints .u8 (kb), #[.int .i64 ((i : Nat) : Int)]]) 136) := q13_1
 replace q16_1 : V1.heap[gl16]? = some (.cells (cat [#[.int .i64 p2], #[.int .u64 ((q2 : Nat) : Int)], ints .u8 (kb), ints .u8 (ka), #[.int .i64 ((i : Nat) : Int)]]) 136) := q16_1
 replace xx1 : Ext w V1 := xx1
 refine wp_seq_k fun K19 hK19 => ?_
 refine Qab ?_
 refine Qaa (.bool (decide (((i : Nat) : Int) < ((n : Nat) : Int)))) 31 rfl kj kj ?_
 refine Qac ?_
 refine hK19 _ _ ?_
 refine wp_seq_k fun K20 hK20 => ?_
 refine QaM (t := decide (((i : Nat) : Int) < ((n : Nat) : Int))) kj (fun c21 => ?_) (fun c21 => ?_)
 ·skip
  have hlt31 : i < n := by have := of_decide_eq_true c21; omega
  obtain ⟨ax, cx, xs, hcx, hrx, hbx⟩ := hC i hlt31
  obtain ⟨eaT, hgT⟩ := hT (by omega)
  have hcv : V1.cell? ⟨gT, oT + i, none⟩ = some (.slice ax xs.length cx) := (Below.cell xx1 hgT).trans hcx
  refine wp_skip ?_
  refine hK20 _ _ ?_
  refine wp_seq_k fun K22 hK22 => ?_
  refine wp_block ?_
  refine wp_seq_k fun K23 hK23 => ?_
  refine Qab ?_
  refine Qaa (.pointer (some ⟨gT, oT + i, none⟩)) 32 rfl kj (Qbp 47 _ _ .i64 i gT oT n cT 33 aT _ eaT rfl rfl kj kj kj kj hlt31) ?_
  refine Qaa (.slice ax xs.length cx) 33 rfl kj (QaL 33 _ _ (.slice ax xs.length cx) hcv rfl kj kj) ?_
  refine Qaa (.slice ax xs.length cx) 10 rfl kj kj ?_
  refine Qac ?_
  refine hK23 _ _ ?_
  refine wp_seq_k fun K24 hK24 => ?_
  refine wp_seq_k fun K25 hK25 => ?_
  refine Qab ?_
  refine Qaa (.slice ax xs.length cx) 34 rfl kj kj ?_
  refine Qaa (.int .i64 ((xs.length : Nat) : Int)) 35 rfl kj kj ?_
  refine Qaa (.bool (decide (((xs.length : Nat) : Int) > 300))) 36 rfl kj kj ?_
  refine Qac ?_
  refine hK25 _ _ ?_
  refine QaM (t := decide (((xs.length : Nat) : Int) > 300)) kj (fun c26 => ?_) (fun c26 => ?_)
  ·skip
   refine wp_seq_k fun K27 hK27 => ?_
   refine Qab ?_
   refine Qaa (.bool true) 6 rfl kj kj ?_
   refine Qac ?_
   refine hK27 _ _ ?_
   refine wp_ret ?_
   repeat (first | with_reducible refine goR1 ?_ | with_reducible refine goR2 ?_)
   exact (show bodyPost _ _ _ .ret _ _ from ret1 (.bool true) rfl (Qaz kj) ⟨rfl, xx1⟩)
  ·skip
   have hxl : xs.length ≤ 300 := by have := of_decide_eq_false c26; omega
   refine wp_skip ?_
   refine hK24 _ _ ?_
   refine wp_seq_k fun K28 hK28 => ?_
   refine Qab ?_
   refine Qaa (.pointer (some ⟨gl13, 0, none⟩)) 38 rfl kj kj ?_
   refine Qaa (.slice ax xs.length cx) 39 rfl kj kj ?_
   obtain ⟨m1, em1⟩ : ∃ z : List Int, msgV ka i xs = z := ⟨_, rfl⟩
   have lm1 := Qed ka i xs
   rw [em1] at lm1
   refine Qa5 (fun v W' => ∃ u, v = .tuple #[u, .nilIface] ∧ OwnN .u8 5 V1.heap.size (m1) u W' ∧ ExtB gl13 V1 W' ∧ W'.heap[gl13]? = some (.cells (cat [#[.int .i64 p1], #[.int .u64 ((q1 : Nat) : Int)], ints .u8 (ka), ints .u8 (kb), #[.int .i64 ((i + 1 : Nat) : Int)]]) 136)) 46 #[.pointer (some ⟨gl13, 0, none⟩), .slice ax xs.length cx] 40 rfl kj kj ((QhF xs _ th tq gl13 p1 q1 hw1.hnx hw1.hB ka kb i hka hkb _ q13_1 (Qad hh xx1) (Qad hq xx1) (Nat.ne_of_lt (Nat.lt_of_lt_of_le (Qa9 hh) b13)) (Nat.ne_of_lt (Nat.lt_of_lt_of_le (Qa9 hq) b13)) (fun W e => RdK.here (RdK.extB (RdK.ext hrx xx1) e b13)) (by omega) (by omega)).mono (by rintro e w' ⟨u, rfl, h1, h2, h3⟩; rw [em1] at h1; exact ⟨_, rfl, u, rfl, h1, h2, h3⟩)) fun v29 W7 h29 => ?_
   obtain ⟨u29_, rfl, hu29_, q7, r13_7⟩ := h29
   have x7 : Ext w W7 := ExtB.up xx1 q7 b13
   obtain ⟨a29_, c29_, rfl, -⟩ := id (OwnN.rd hu29_)
   refine Qaa (.tuple #[.slice a29_ ((m1).length) c29_, .nilIface]) 37 rfl kj kj ?_
   refine Qaa (.slice a29_ ((m1).length) c29_) 41 rfl kj kj ?_
   refine Qaa (.nilIface) 42 rfl kj kj ?_
   refine Qaa (.slice a29_ ((m1).length) c29_) 11 rfl kj kj ?_
   refine Qaa (.nilIface) 12 rfl kj kj ?_
   refine Qac ?_
   refine hK28 _ _ ?_
   refine wp_seq_k fun K30 hK30 => ?_
   refine Qab ?_
   refine Qaa (.pointer (some ⟨gl16, 0, none⟩)) 44 rfl kj kj ?_
   refine Qcx (ints .u8 ([1])) 5 1 45 rfl kj kj fun g31 W8 l31 e8 r31_8 => ?_
   have x8 : Ext w W8 := Ext.tr x7 e8
   have b31 : w.heap.size ≤ g31 := Nat.le_trans x7.size l31
   refine Qaa (.slice ax xs.length cx) 46 rfl kj kj ?_
   have y7_8 : Ext W7 W8 := (Rely.Ext.trans (Rely.Ext.refl W7) e8)
   refine Qci (k := .u8) (T := 5) (xs := [1]) (ys := xs) (V := W7) 1 (.tmp 45) (.tmp 46) 33 rfl kj kj (by decide) 47 rfl kj kj kj (Qcn (xs := [1]) rfl l31 r31_8 (by decide)) (RdK.here (RdK.ext hrx x8)) (by show 1 + _ ≤ _; omega) y7_8 fun zy W9 f32 y9 l9 => ?_
   have x9 : Ext w W9 := Ext.low x8 l9 x7.size
   obtain ⟨ys, eys⟩ : ∃ z : List Int, z = [1] ++ xs := ⟨_, rfl⟩
   have lys : ys.length = xs.length + 1 := by rw [eys, List.length_append, Nat.add_comm]; rfl
   have hby : Qam ys := eys ▸ QbP (Qgr (by decide) (by decide)) hbx
   have hoy : OwnN .u8 5 W7.heap.size ys zy W9 := eys ▸ f32
   obtain ⟨ay, cy, rfl, -⟩ := id (OwnN.rd hoy)
   obtain ⟨m2, em2⟩ : ∃ z : List Int, msgV kb i ys = z := ⟨_, rfl⟩
   have lm2 := Qed kb i ys
   rw [em2] at lm2
   have r16_7 := (ExtB.row q7 q16_1 n_16_13)
   have r2_1 := (Qad hh e1)
   have r2_2 := (Qad r2_1 e2)
   have r2_3 := (Qad r2_2 e3)
   have r2_7 := (ExtB.row q7 (Qad hh xx1) (Qag r2_3 ll13))
   have r2_8 := (Qad r2_7 e8)
   have r2_9 := (QcI l9 r2_8 (Qa9 r2_7))
   have r1_1 := (Qad hq e1)
   have r1_2 := (Qad r1_1 e2)
   have r1_3 := (Qad r1_2 e3)
   have r1_7 := (ExtB.row q7 (Qad hq xx1) (Qag r1_3 ll13))
   have r1_8 := (Qad r1_7 e8)
   have r1_9 := (QcI l9 r1_8 (Qa9 r1_7))
   have r16_8 := (Qad r16_7 e8)
   have r16_9 := (QcI l9 r16_8 (Qa9 r16_7))
   refine Qa5 (fun v W' => ∃ u, v = .tuple #[u, .nilIface] ∧ OwnN .u8 5 W9.heap.size (m2) u W' ∧ ExtB gl16 W9 W' ∧ W'.heap[gl16]? = some (.cells (cat [#[.int .i64 p2], #[.int .u64 ((q2 : Nat) : Int)], ints .u8 (kb), ints .u8 (ka), #[.int .i64 ((i + 1 : Nat) : Int)]]) 136)) 46 #[.pointer (some ⟨gl16, 0, none⟩), .slice ay ys.length cy] 48 rfl kj kj ((QhF ys _ th tq gl16 p2 q2 hw2.hnx hw2.hB kb ka i hkb hka _ r16_9 r2_9 r1_9 (Nat.ne_of_lt (Nat.lt_of_lt_of_le (Qa9 hh) b16)) (Nat.ne_of_lt (Nat.lt_of_lt_of_le (Qa9 hq) b16)) (fun W e => OwnN.rd (Qco hoy e (Qdr hoy (Qa9 r16_7)))) (by omega) (by rw [lys]; omega)).mono (by rintro e w' ⟨u, rfl, h1, h2, h3⟩; rw [em2] at h1; exact ⟨_, rfl, u, rfl, h1, h2, h3⟩)) fun v34 W10 h34 => ?_
   obtain ⟨u34_, rfl, hu34_, q10, r16_10⟩ := h34
   have x10 : Ext w W10 := ExtB.up x9 q10 b16
   obtain ⟨a34_, c34_, rfl, -⟩ := id (OwnN.rd hu34_)
   refine Qaa (.tuple #[.slice a34_ ((m2).length) c34_, .nilIface]) 43 rfl kj kj ?_
   refine Qaa (.slice a34_ ((m2).length) c34_) 49 rfl kj kj ?_
   refine Qaa (.nilIface) 50 rfl kj kj ?_
   refine Qaa (.slice a34_ ((m2).length) c34_) 13 rfl kj kj ?_
   refine Qaa (.nilIface) 14 rfl kj kj ?_
   refine Qac ?_
   refine hK30 _ _ ?_
   refine wp_seq_k fun K35 hK35 => ?_
   refine wp_seq_k fun K36 hK36 => ?_
   refine Qab ?_
   refine Qaa (.nilIface) 51 rfl kj kj ?_
   refine Qaa (.bool false) 52 rfl kj kj ?_
   refine Qaa (.bool false) 53 rfl kj kj ?_
   refine Qaa (.nilIface) 54 rfl kj kj ?_
   refine Qaa (.bool false) 55 rfl kj kj ?_
   refine Qaa (.bool false) 56 rfl kj kj ?_
   refine Qac ?_
   refine hK36 _ _ ?_
   refine cond_false kj ?_
   refine wp_skip ?_
   refine hK35 _ _ ?_
   refine wp_seq_k fun K37 hK37 => ?_
   refine Qab ?_
   refine Qaa (.pointer (some ⟨gl16, 0, none⟩)) 58 rfl kj kj ?_
   refine Qaa (.slice a29_ ((m1).length) c29_) 59 rfl kj kj ?_
   obtain ⟨ny2, Bz2, hw2n, hmk2⟩ := QhR hw2 (Qej i (by omega))
   have f38_8 := (hu29_.ext e8)
   have f39_9 := (OwnN.low (n := 0) f38_8 hu29_ l9)
   have f40_10 := (Qco f39_9 q10 (Qdr hu29_ (Qa9 q16_1)))
   have r2_4 := (Qad r2_3 e4)
   have r2_10 := (ExtB.row q10 r2_9 (Qag r2_4 ll16))
   have r1_4 := (Qad r1_3 e4)
   have r1_10 := (ExtB.row q10 r1_9 (Qag r1_4 ll16))
   refine Qa5 (fun v W' => ∃ u, v = .tuple #[u, .nilIface] ∧ OwnN .u8 5 W10.heap.size (xs) u W' ∧ ExtB gl16 W10 W' ∧ W'.heap[gl16]? = some (.cells (cat [#[.int .i64 ny2], #[.int .u64 ((Bz2 : Nat) : Int)], ints .u8 (kb), ints .u8 (ka), #[.int .i64 ((i + 1 : Nat) : Int)]]) 136)) 49 #[.pointer (some ⟨gl16, 0, none⟩), .slice a29_ ((m1).length) c29_] 60 rfl kj kj ((QgR i xs _ th tq gl16 p2 q2 hw2.hnx hw2.hB kb ka (i + 1) hkb hka _ r16_10 r2_10 r1_10 (Nat.ne_of_lt (Nat.lt_of_lt_of_le (Qa9 hh) b16)) (Nat.ne_of_lt (Nat.lt_of_lt_of_le (Qa9 hq) b16)) (fun W e => by rw [em1]; exact OwnN.rd (Qco f40_10 e (Qdr hu29_ (Qa9 q16_1)))) (by omega) (by omega) hbx ((Qei hw2 _).trans (Qej i (by omega))) ny2 Bz2 (fun W r => hmk2 gl16 kb ka (i + 1) hkb hka W r)).mono (by rintro e w' ⟨u, rfl, h1, h2, h3⟩; exact ⟨_, rfl, u, rfl, h1, h2, h3⟩)) fun v41 W11 h41 => ?_
   obtain ⟨u41_, rfl, hu41_, q11, r16_11⟩ := h41
   have x11 : Ext w W11 := ExtB.up x10 q11 b16
   obtain ⟨a41_, c41_, rfl, -⟩ := id (OwnN.rd hu41_)
   refine Qaa (.tuple #[.slice a41_ ((xs).length) c41_, .nilIface]) 57 rfl kj kj ?_
   refine Qaa (.slice a41_ ((xs).length) c41_) 61 rfl kj kj ?_
   refine Qaa (.nilIface) 62 rfl kj kj ?_
   refine Qaa (.slice a41_ ((xs).length) c41_) 15 rfl kj kj ?_
   refine Qaa (.nilIface) 12 rfl kj kj ?_
   refine Qac ?_
   refine hK37 _ _ ?_
   refine wp_seq_k fun K42 hK42 => ?_
   refine Qab ?_
   refine Qaa (.pointer (some ⟨gl13, 0, none⟩)) 64 rfl kj kj ?_
   refine Qaa (.slice a34_ ((m2).length) c34_) 65 rfl kj kj ?_
   obtain ⟨ny1, Bz1, hw1n, hmk1⟩ := QhR hw1 (Qej i (by omega))
   have f43_11 := (Qco hu34_ q11 (Qdr hu34_ (Qa9 r16_9)))
   have r13_8 := (Qad r13_7 e8)
   have r13_9 := (QcI l9 r13_8 (Qa9 r13_7))
   have r2_11 := (ExtB.row q11 r2_10 (Qag r2_4 ll16))
   have r1_11 := (ExtB.row q11 r1_10 (Qag r1_4 ll16))
   have r13_10 := (ExtB.row q10 r13_9 n_13_16)
   have r13_11 := (ExtB.row q11 r13_10 n_13_16)
   refine Qa5 (fun v W' => ∃ u, v = .tuple #[u, .nilIface] ∧ OwnN .u8 5 W11.heap.size (ys) u W' ∧ ExtB gl13 W11 W' ∧ W'.heap[gl13]? = some (.cells (cat [#[.int .i64 ny1], #[.int .u64 ((Bz1 : Nat) : Int)], ints .u8 (ka), ints .u8 (kb), #[.int .i64 ((i + 1 : Nat) : Int)]]) 136)) 49 #[.pointer (some ⟨gl13, 0, none⟩), .slice a34_ ((m2).length) c34_] 66 rfl kj kj ((QgR i ys _ th tq gl13 p1 q1 hw1.hnx hw1.hB ka kb (i + 1) hka hkb _ r13_11 r2_11 r1_11 (Nat.ne_of_lt (Nat.lt_of_lt_of_le (Qa9 hh) b13)) (Nat.ne_of_lt (Nat.lt_of_lt_of_le (Qa9 hq) b13)) (fun W e => by rw [em2]; exact OwnN.rd (Qco f43_11 e (Qdr hu34_ (Qa9 r13_9)))) (by omega) (by rw [lys]; omega) hby ((Qei hw1 _).trans (Qej i (by omega))) ny1 Bz1 (fun W r => hmk1 gl13 ka kb (i + 1) hka hkb W r)).mono (by rintro e w' ⟨u, rfl, h1, h2, h3⟩; exact ⟨_, rfl, u, rfl, h1, h2, h3⟩)) fun v44 W12 h44 => ?_
   obtain ⟨u44_, rfl, hu44_, q12, r13_12⟩ := h44
   have x12 : Ext w W12 := ExtB.up x11 q12 b13
   obtain ⟨a44_, c44_, rfl, -⟩ := id (OwnN.rd hu44_)
   refine Qaa (.tuple #[.slice a44_ ((ys).length) c44_, .nilIface]) 63 rfl kj kj ?_
   refine Qaa (.slice a44_ ((ys).length) c44_) 67 rfl kj kj ?_
   refine Qaa (.nilIface) 68 rfl kj kj ?_
   refine Qaa (.slice a44_ ((ys).length) c44_) 16 rfl kj kj ?_
   refine Qaa (.nilIface) 14 rfl kj kj ?_
   refine Qac ?_
   refine hK42 _ _ ?_
   refine wp_seq_k fun K45 hK45 => ?_
   refine Qab ?_
   refine Qaa (.nilIface) 69 rfl kj kj ?_
   refine Qaa (.bool false) 70 rfl kj kj ?_
   refine Qaa (.bool false) 71 rfl kj kj ?_
   refine Qaa (.nilIface) 72 rfl kj kj ?_
   refine Qaa (.bool false) 73 rfl kj kj ?_
   refine Qaa (.bool false) 74 rfl kj kj ?_
   refine Qaa (.bool false) 75 rfl kj kj ?_
   refine Qaa (.slice a41_ ((xs).length) c41_) 76 rfl kj kj ?_
   refine Qaa (.slice ax xs.length cx) 77 rfl kj kj ?_
   have f46_12 := (Qco hu41_ q12 (Qdr hu41_ (Qa9 r13_10)))
   refine Qat (.bool true) 26 #[.slice a41_ ((xs).length) c41_, .slice ax xs.length cx] 78 rfl kj kj ((Qii _ _ _ _ _ rfl (RdK.bytes (OwnN.rd f46_12) hbx) (RdK.bytes (RdK.here (RdK.ext hrx x12)) hbx))) fun W13 e13 => ?_
   have x13 : Ext w W13 := Ext.tr x12 e13
   refine Qaa (.bool false) 79 rfl kj kj ?_
   refine Qaa (.bool false) 80 rfl kj kj ?_
   refine Qaa (.bool false) 81 rfl kj kj ?_
   refine Qaa (.slice a44_ ((ys).length) c44_) 82 rfl kj kj ?_
   refine Qaa (.int .i64 (((ys).length : Nat) : Int)) 83 rfl kj kj ?_
   refine Qaa (.slice ax xs.length cx) 84 rfl kj kj ?_
   refine Qaa (.int .i64 ((xs.length : Nat) : Int)) 85 rfl kj kj ?_
   refine Qaa (.int .i64 ((xs.length + 1 : Nat) : Int)) 86 rfl kj (Qai (u := .int .i64 (IntKind.i64.wrap (((xs.length : Nat) : Int) + 1))) kj (congrArg (Value.int .i64) (i64n _ _ (by omega) (by omega)))) ?_
   refine Qaa (.bool false) 87 rfl kj (Qai (u := .bool (((((ys).length : Nat) : Int) != ((xs.length + 1 : Nat) : Int)))) kj (congrArg Value.bool (bne_eq_false_iff_eq.2 (by rw [lys])))) ?_
   refine Qaa (.bool false) 88 rfl kj kj ?_
   refine Qac ?_
   refine hK45 _ _ ?_
   refine cond_false kj ?_
   refine wp_skip ?_
   refine hK22 _ _ ?_
   refine Qab ?_
   refine Qaa (.int .i64 ((i + 1 : Nat) : Int)) 89 rfl kj (Qai (u := .int .i64 (IntKind.i64.wrap (((i : Nat) : Int) + 1))) kj (congrArg (Value.int .i64) (i64n _ _ (by omega) (by omega)))) ?_
   refine Qaa (.int .i64 ((i + 1 : Nat) : Int)) 30 rfl kj kj ?_
   refine Qac ?_
   have r13_13 := (Qad r13_12 e13)
   have r16_12 := (ExtB.row q12 r16_11 n_16_13)
   have r16_13 := (Qad r16_12 e13)
   repeat (first | with_reducible refine goX1 ?_ | with_reducible refine goX2 ?_ | with_reducible refine goX3 ?_)
   exact QaW ((i + 1), ny1, Bz1, ny2, Bz2) ⟨rfl, rfl, rfl, rfl, rfl, rfl, rfl, trivial⟩ ⟨(show i + 1 ≤ n by omega), (by rw [QdY]; exact hw1n), (by rw [QdY]; exact hw2n), r13_13, r16_13, x13⟩ (by show n - (i + 1) < n - i; omega)
 ·skip
  have heq31 : i = n := by have := of_decide_eq_false c21; omega
  have hh1 := hw1.hhi
  have hh2 := hw2.hhi
  rw [Qgk] at hh1 hh2
  refine wp_exit ?_
  refine hK17 _ _ ?_
  refine wp_seq_k fun K47 hK47 => ?_
  refine Qab ?_
  refine Qaa (.pointer (some ⟨gl13, 0, none⟩)) 90 rfl kj kj ?_
  refine Qat (.int .i64 ((i : Nat) : Int)) 45 #[.pointer (some ⟨gl13, 0, none⟩)] 91 rfl kj kj ((Qim gl13 p1 q1 hw1.hnx hw1.hB ka kb i hka hkb _ q13_1)) fun W7 e7 => ?_
  have x7 : Ext w W7 := Ext.tr xx1 e7
  refine Qaa (.slice aT n cT) 92 rfl kj kj ?_
  refine Qaa (.int .i64 ((n : Nat) : Int)) 93 rfl kj kj ?_
  refine Qaa (.bool true) 94 rfl kj (Qai (u := .bool ((((i : Nat) : Int) == ((n : Nat) : Int)))) kj (congrArg Value.bool (beq_iff_eq.2 (by omega)))) ?_
  refine Qaa (.bool true) 95 rfl kj kj ?_
  refine Qaa (.pointer (some ⟨gl16, 0, none⟩)) 96 rfl kj kj ?_
  have r16_7 := (Qad q16_1 e7)
  refine Qat (.int .i64 (p2 - 1)) 44 #[.pointer (some ⟨gl16, 0, none⟩)] 97 rfl kj kj ((HighestC gl16 p2 q2 hw2.hnx hw2.hB kb ka i hkb hka _ r16_7)) fun W8 e8 => ?_
  have x8 : Ext w W8 := Ext.tr x7 e8
  refine Qaa (.slice aT n cT) 98 rfl kj kj ?_
  refine Qaa (.int .i64 ((n : Nat) : Int)) 99 rfl kj kj ?_
  refine Qaa (.int .i64 (((n : Nat) : Int) - 1)) 100 rfl kj (Qai (u := .int .i64 (IntKind.i64.wrap (((n : Nat) : Int) - 1))) kj (congrArg (Value.int .i64) (IntWalk.i64_in _ (by omega)))) ?_
  refine Qaa (.bool true) 101 rfl kj (Qai (u := .bool (((p2 - 1) == (((n : Nat) : Int) - 1)))) kj (congrArg Value.bool (beq_iff_eq.2 (by omega)))) ?_
  refine Qaa (.bool true) 102 rfl kj kj ?_
  refine Qaa (.bool true) 103 rfl kj kj ?_
  refine Qaa (.pointer (some ⟨gl13, 0, none⟩)) 104 rfl kj kj ?_
  have r13_7 := (Qad q13_1 e7)
  have r13_8 := (Qad r13_7 e8)
  refine Qat (.int .i64 (p1 - 1)) 44 #[.pointer (some ⟨gl13, 0, none⟩)] 105 rfl kj kj ((HighestC gl13 p1 q1 hw1.hnx hw1.hB ka kb i hka hkb _ r13_8)) fun W9 e9 => ?_
  have x9 : Ext w W9 := Ext.tr x8 e9
  refine Qaa (.pointer (some ⟨gl16, 0, none⟩)) 106 rfl kj kj ?_
  have r16_8 := (Qad r16_7 e8)
  have r16_9 := (Qad r16_8 e9)
  refine Qat (.int .i64 (p2 - 1)) 44 #[.pointer (some ⟨gl16, 0, none⟩)] 107 rfl kj kj ((HighestC gl16 p2 q2 hw2.hnx hw2.hB kb ka i hkb hka _ r16_9)) fun W10 e10 => ?_
  have x10 : Ext w W10 := Ext.tr x9 e10
  refine Qaa (.bool true) 108 rfl kj (Qai (u := .bool (((p1 - 1) == (p2 - 1)))) kj (congrArg Value.bool (beq_iff_eq.2 (by omega)))) ?_
  refine Qaa (.bool true) 109 rfl kj kj ?_
  refine Qaa (.bool true) 6 rfl kj kj ?_
  refine Qac ?_
  refine hK47 _ _ ?_
  refine wp_ret ?_
  repeat (first | with_reducible refine goR1 ?_ | with_reducible refine goR2 ?_)
  exact (show bodyPost _ _ _ .ret _ _ from ret1 (.bool true) rfl (Qaz kj) ⟨rfl, x10⟩)
theorem lawBoth (ka kb : List Int) (n cT : Nat) (aT : Option Addr) (gT oT : Nat) (th tq : TypeId) (w : World) (hh : w.heap[2]? = some (.cells (ints .u32 [1634760805, 857760878, 2036477234, 1797285236]) th)) (hq : w.heap[3]? = some (.cells (ints .i64 [0, 4, 8, 12, 1, 5, 9, 13, 2, 6, 10, 14, 3, 7, 11, 15, 0, 5, 10, 15, 1, 6, 11, 12, 2, 7, 8, 13, 3, 4, 9, 14]) tq)) (hka : ka.length = 32) (hkb : kb.length = 32) (hT : 0 < n → aT = some ⟨gT, oT, none⟩ ∧ gT < w.heap.size) (hC : ∀ i, i < n → ∃ a c xs, w.cell? ⟨gT, oT + i, none⟩ = some (.slice a xs.length c) ∧ RdK .u8 w.heap.size xs (.slice a xs.length c) w ∧ Qam xs) : Calls Tryd.prog 9 #[.agg (ints .u8 ka), .agg (ints .u8 kb), .slice aT n cT] w (Ret w (.bool true)) := by
  by_cases h : 40 < n
  · exact Qgd ka kb n cT aT gT oT th tq w hh hq hka hkb h
  · exact Qgc ka kb n cT aT gT oT th tq w hh hq hka hkb hT hC (by omega)
end Go.Proofs.YtoiendjhplbjjaaDoor.Ll
end
section
namespace Go.Proofs.YtoiendjhplbjjaaDoor.Auto
open Go Go.RowKit Go.WideShapes
open Rely
set_option linter.unusedVariables false
section
variable {H : Type} {enc : TypeId × Value → H} {P : Program} {W w : World} {r : Reach} {base b0 : Nat} {sp : Nat → Bool} {held : Bool}
end
end Go.Proofs.YtoiendjhplbjjaaDoor.Auto
end
section
namespace Go.Proofs.YtoiendjhplbjjaaDoor.Auto
open Go Go.RowKit
open Rely
set_option linter.unusedVariables false
theorem QcJ {P : Program} {w : World} : ∀ (laid : List (String × DataW Unit)) (ps : List MemPlace) (n : String) (d : DataW Unit), DataW.LaidVars P w laid ps → (n, d) ∈ laid →
    ∃ g t cs fuel p, P.globalNamed n = some g ∧ (P.globals[g]?).map (·.type) = some t ∧ w.var? P n = some cs ∧ DataW.trod (fun _ => ()) P w 0 (fun _ => true) false fuel t cs.toList = some (d, p) ∧ ∀ x ∈ MemPlace.row ⟨g, 0, none⟩ cs.size, x ∈ ps
  | [], _, _, _, _, h => by cases h
  | (n0, d0) :: r, ps, n, d, ⟨g, t, cs, fuel, p, q, h1, h2, h3, h4, h5, h6⟩, h => by
    subst h6
    rcases List.mem_cons.1 h with h | h
    · cases h
      exact ⟨g, t, cs, fuel, p, h1, h2, h3, h4, fun x hx => List.mem_append_left _ (List.mem_append_left _ hx)⟩
    · obtain ⟨g', t', cs', fuel', p', a, b, c, e, f⟩ := QcJ r q n d h5 h
      exact ⟨g', t', cs', fuel', p', a, b, c, e, fun x hx => List.mem_append_right _ (f x hx)⟩
theorem Qg9 {P : Program} {w : World} {laid : List (String × DataW Unit)} {n : String} {k : IntKind} {zs : List Int} {g : Nat} {t e : TypeId} {m : Nat} (h : laidMet P laid w) (hm : (n, Lib.tabData k zs) ∈ laid)
    (hg : P.globalNamed n = some g) (hty : (P.globals[g]?).map (·.type) = some t) (ht : P.underlying t = some (.array m e)) (he : P.underlying e = some (.int k)) (hce : P.cellsOf e = 1) (hct : P.cellsOf t = m) (h0 : 0 < zs.length) :
    ∃ t, w.heap[g]? = some (.cells (ints k zs) t) := by
  obtain ⟨ps, hL, -, hC⟩ := h
  obtain ⟨g', t', cs, fuel, p, hg', ht', hvar, hd, hin⟩ := QcJ _ _ _ _ hL hm
  obtain rfl := Option.some.inj (hg.symm.trans hg')
  obtain rfl := Option.some.inj (hty.symm.trans ht')
  have hcs := Lib.cells_of_tab ht he hce hct hd
  have hsz : 0 < cs.size := by rw [← Array.length_toList, hcs, List.length_map]; exact h0
  obtain ⟨⟨c, t2, hc⟩, -⟩ := hC g 0 (hin _ (List.mem_map.2 ⟨0, List.mem_range.2 hsz, rfl⟩))
  unfold World.var? at hvar
  rw [hg] at hvar
  simp only [Option.bind_some, hc, Option.some.injEq] at hvar
  subst hvar
  refine ⟨t2, hc.trans ?_⟩
  rw [show c = ints k zs from by rw [ints, ← hcs]]
theorem QgJ {bs : List Int} (h : ∀ n ∈ bs, (Lit.int .u8 n).wf = true) : Qam bs := fun n hn => by
  have := h n hn
  simpa [Lit.wf, IntKind.min, IntKind.max, IntKind.signed, IntKind.bits] using this
end Go.Proofs.YtoiendjhplbjjaaDoor.Auto
end
section
namespace Go.Proofs.YtoiendjhplbjjaaDoor.Auto
open Go Go.RowKit Go.WideShapes Go.ChangeShapes Go.ChangeAt
open Rely
set_option linter.unusedVariables false
section
variable {H : Type} {enc : TypeId × Value → H} {P : Program} {w : World} {b0 : Nat} {held : Bool}
theorem open_slcs {t s e : TypeId} {ad : Option Addr} {len cap : Nat} {d : DataW H} {p : List MemPlace} (hs : P.underlying t = some (.slice s)) (hss : P.underlying s = some (.slice e)) (he : P.underlying e = some (.int .u8)) (hce : P.cellsOf e = 1) (hcs : P.cellsOf s = 1)
    (h : DataW.Trod enc P w b0 (fun _ => true) held t (.slice ad len cap) d p) :
    ∃ gT oT : Nat, (0 < len → ad = some ⟨gT, oT, none⟩ ∧ gT < w.heap.size) ∧ ∀ i, i < len → ∃ a c xs, w.cell? ⟨gT, oT + i, none⟩ = some (.slice a xs.length c) ∧ RdK .u8 w.heap.size xs (.slice a xs.length c) w ∧ Qam xs := by
  obtain ⟨fuel, hf⟩ := h
  rcases DataW.trod_slice hs hf with ⟨hcs', -⟩ | ⟨x, l, c, elems, rest, n, -, hcs', -, hb, hl, hmx, hlen, hel, -, -⟩
  · simp [Value.cells] at hcs'
    obtain ⟨rfl, rfl, rfl⟩ := hcs'
    exact ⟨0, 0, fun h => absurd h (by omega), fun i hi => absurd hi (by omega)⟩
  · simp [Value.cells] at hcs'
    obtain ⟨rfl, rfl, rfl⟩ := hcs'
    have key : ∀ i, i < len → ∃ a c xs, w.cell? (x.add i) = some (.slice a xs.length c) ∧ RdK .u8 w.heap.size xs (.slice a xs.length c) w ∧ Qam xs := fun i hi => by
      have h4 := hel i hi
      rw [hcs, List.getElem?_eq_getElem (by omega), Nat.mul_one] at h4
      obtain ⟨cs, hc1, hc2⟩ := Option.bind_eq_some_iff.1 h4
      obtain ⟨hn, q1, q2⟩ := World.cells?_some hc1
      have q3 := q2 0 (by omega)
      have q4 : (x.add i).add 0 = x.add i := by
        obtain ⟨b, o, sp⟩ := x
        cases sp <;> simp [Addr.add]
      rw [q4] at q3
      rcases open_ints hss he hce hc2 with ⟨hcv, -⟩ | ⟨y, l, c2, zs, hcv, -, hl2, hm2, hz2, -, hcell, hwz⟩
      · rw [hcv] at q3
        exact ⟨none, 0, [], q3, ⟨none, 0, rfl, Nat.le_refl _, Nat.zero_le _, fun _ => rfl, .inl rfl⟩, fun x hx => by cases hx⟩
      · rw [hcv] at q3
        obtain ⟨r, rl, rf⟩ := Qf2 (k := .u8) (w := w) (a := some y) (len := l) (cap := c2) (zs := zs) (.inr ⟨y, rfl, hl2, hm2, by simpa using hz2, hcell, hwz⟩)
        refine ⟨some y, c2, zs.take l, ?_, ?_, QgJ rf⟩
        · rw [rl]; exact q3
        · rw [rl]; exact r
    rcases Nat.eq_zero_or_pos len with h0 | h0
    · exact ⟨0, 0, fun h => absurd h (by omega), fun i hi => absurd hi (by omega)⟩
    obtain ⟨b, off, spot⟩ := x
    have hspot : spot = none := by
      obtain ⟨_, _, _, hq, -⟩ := key 0 h0
      simpa [Addr.add] using World.cell?_spot hq
    subst hspot
    obtain ⟨_, _, _, hq0, -⟩ := key 0 h0
    rw [WideShapes.add_plain, Nat.add_zero] at hq0
    refine ⟨b, off, fun _ => ⟨rfl, QdQ hq0⟩, fun i hi => ?_⟩
    obtain ⟨a, c, xs, k1, k2, k3⟩ := key i hi
    exact ⟨a, c, xs, by rw [← WideShapes.add_plain]; exact k1, k2, k3⟩
end
end Go.Proofs.YtoiendjhplbjjaaDoor.Auto
end
section
namespace Go.Proofs.YtoiendjhplbjjaaDoor.Auto
open Go Go.RowKit
open Rely
set_option linter.unusedVariables false
theorem chunks {α : Type} (m : Nat) : ∀ (n : Nat) (cs : List α), cs.length = n * m → ((List.range n).map fun i => (cs.drop (i * m)).take m).flatten = cs
  | 0, cs, h => by
    have : cs = [] := List.length_eq_zero_iff.1 (by simpa using h)
    subst this; rfl
  | n + 1, cs, h => by
    have hm : (n + 1) * m = n * m + m := Nat.succ_mul n m
    rw [List.range_succ, List.map_append, List.flatten_append]
    have ih := chunks m n (cs.take (n * m)) (by rw [List.length_take]; omega)
    have e1 : ((List.range n).map fun i => (cs.drop (i * m)).take m) = ((List.range n).map fun i => ((cs.take (n * m)).drop (i * m)).take m) := by
      refine List.map_congr_left fun i hi => ?_
      rw [List.mem_range] at hi
      have h1 : (i + 1) * m ≤ n * m := Nat.mul_le_mul_right m hi
      rw [Nat.succ_mul] at h1
      rw [List.drop_take, List.take_take, Nat.min_eq_left (by omega)]
    rw [e1, ih]
    simp only [List.map_cons, List.map_nil, List.flatten_cons, List.flatten_nil, List.append_nil]
    have e2 : (cs.drop (n * m)).take m = cs.drop (n * m) := List.take_of_length_le (by rw [List.length_drop]; omega)
    rw [e2, List.take_append_drop]
theorem Qek {H : Type} {enc : TypeId × Value → H} {P : Program} {w : World} {base : Nat} {sp : Nat → Bool} {held : Bool} {fuel : Nat} {t e i : TypeId} {n m : Nat} {k : IntKind} {cs : List Value} {zss : List (List Int)} {p : List MemPlace}
    (ht : P.underlying t = some (.array n e)) (he : P.underlying e = some (.array m i)) (hi : P.underlying i = some (.int k)) (hci : P.cellsOf i = 1) (hce : P.cellsOf e = m) (hct : P.cellsOf t = n * m)
    (h : DataW.trod enc P w base sp held fuel t cs = some (.agg (zss.map (Lib.tabData k)), p)) : cs = zss.flatten.map fun z => Value.int k z := by
  cases fuel with
  | zero => simp [DataW.trod] at h
  | succ fuel =>
    simp only [DataW.trod, ht, hce, hct] at h
    split at h
    · rename_i hl
      obtain ⟨xs, hm, hx⟩ := Option.map_eq_some_iff.1 h
      have hxs : xs.map (·.1) = zss.map fun z => (Lib.tabData k z : DataW H) := by
        have := congrArg Prod.fst hx
        simpa using this
      have hxl : xs.length = n := by simpa using Lib.mapM_length hm
      have hzl : zss.length = n := by
        have := congrArg List.length hxs
        simp at this
        omega
      rw [← chunks m n cs (by simpa using hl), List.map_flatten]
      congr 1
      apply List.ext_getElem?
      intro j
      by_cases hj : j < n
      · obtain ⟨b, hb, hf⟩ := Lib.mapM_at hm j j (by simp [hj])
        have h2 : (xs.map (·.1))[j]? = some b.1 := by simp [hb]
        rw [hxs, List.getElem?_map, List.getElem?_eq_getElem (by omega), Option.map_some, Option.some.injEq] at h2
        have h3 := Lib.cells_of_tab he hi hci hce (zs := zss[j]'(by omega)) (p := b.2) (by rw [h2]; exact hf)
        rw [List.getElem?_map, List.getElem?_map, List.getElem?_range hj, List.getElem?_eq_getElem (by omega), Option.map_some, Option.map_some, h3]
      · rw [List.getElem?_eq_none (by simp; omega), List.getElem?_eq_none (by simp; omega)]
    · cases h
theorem Qge {P : Program} {w : World} {laid : List (String × DataW Unit)} {n : String} {k : IntKind} {zss : List (List Int)} {g : Nat} {t e i : TypeId} {m1 m : Nat} (h : laidMet P laid w) (hm : (n, DataW.agg (zss.map (Lib.tabData k))) ∈ laid)
    (hg : P.globalNamed n = some g) (hty : (P.globals[g]?).map (·.type) = some t) (ht : P.underlying t = some (.array m1 e)) (he : P.underlying e = some (.array m i)) (hi : P.underlying i = some (.int k)) (hci : P.cellsOf i = 1) (hce : P.cellsOf e = m) (hct : P.cellsOf t = m1 * m) (h0 : 0 < zss.flatten.length) :
    ∃ t, w.heap[g]? = some (.cells (ints k zss.flatten) t) := by
  obtain ⟨ps, hL, -, hC⟩ := h
  obtain ⟨g', t', cs, fuel, p, hg', ht', hvar, hd, hin⟩ := QcJ _ _ _ _ hL hm
  obtain rfl := Option.some.inj (hg.symm.trans hg')
  obtain rfl := Option.some.inj (hty.symm.trans ht')
  have hcs := Qek ht he hi hci hce hct hd
  have hsz : 0 < cs.size := by rw [← Array.length_toList, hcs, List.length_map]; exact h0
  obtain ⟨⟨c, t2, hc⟩, -⟩ := hC g 0 (hin _ (List.mem_map.2 ⟨0, List.mem_range.2 hsz, rfl⟩))
  unfold World.var? at hvar
  rw [hg] at hvar
  simp only [Option.bind_some, hc, Option.some.injEq] at hvar
  subst hvar
  refine ⟨t2, hc.trans ?_⟩
  rw [show c = ints k zss.flatten from by rw [ints, ← hcs]]
end Go.Proofs.YtoiendjhplbjjaaDoor.Auto
end
