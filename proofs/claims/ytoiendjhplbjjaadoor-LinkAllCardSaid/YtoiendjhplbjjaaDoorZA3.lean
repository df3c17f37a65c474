/- Texts of this claim, joined (A3). -/
import Derived.Test.YtoiendjhplbjjaaDoorZA2
import Derived.Laws.Externs
import Derived.Shelf.Spec.BitsCarry
import Derived.Shelf.Bits.Mul64
import Derived.Laws.Bits64b
import Derived.Laws.BitsAll
import Derived.Test.YtoiendjhplbjjaaDoorProg

section
namespace Go.Proofs.YtoiendjhplbjjaaDoor.Ae
open Go Go.RowKit
open Rely Auto Own Sha
set_option linter.unusedVariables false
set_option linter.unusedSimpArgs false
open Sha Cha
def Qcd (key nonce ctx text : List Int) : List Int := mixV (QaE key nonce) 1 text ++ QbZ key nonce ctx (mixV (QaE key nonce) 1 text)
theorem Qcc (key nonce ctx text : List Int) : (Qcd key nonce ctx text).length = text.length + 16 := by unfold Qcd; rw [List.length_append, Qbu, Qbf]
theorem Qg0 (xs ys : List Int) (v v2 : Value) (B B2 : Nat) (w : World) (e : xs = ys) (hx : RdK .u8 B xs v w) (hy : RdK .u8 B2 ys v2 w) (hxb : Qan xs) (hyb : Qan ys) (hl : ys.length = xs.length) (hxl : xs.length ≤ 2000000) : Calls Tryd.prog 107 #[v, v2] w (Ret w (.bool true)) := by
  have h := QhF xs ys v v2 B B2 w hx hy hxb hyb hl hxl
  rw [decide_eq_true e] at h
  exact h
theorem QdI (key nonce ctx mixed : List Int) : Qan (QbZ key nonce ctx mixed) := Qf9 _
theorem QeD (key nonce ctx text : List Int) : Qan (Qcd key nonce ctx text) := Qci (QdT _ _ _) (QdI _ _ _ _)
theorem MixE (key nonce text fm : List Int) (v v2 : Value) (B B2 : Nat) (th tq : TypeId) (w : World) (hh : w.heap[2]? = some (.cells (ints .u32 [1634760805, 857760878, 2036477234, 1797285236]) th)) (hq : w.heap[3]? = some (.cells (ints .i64 [0, 4, 8, 12, 1, 5, 9, 13, 2, 6, 10, 14, 3, 7, 11, 15, 0, 5, 10, 15, 1, 6, 11, 12, 2, 7, 8, 13, 3, 4, 9, 14]) tq)) (hkl : key.length = 32) (hn : RdK .u8 B nonce v w) (ht : RdK .u8 B2 text v2 w) (h : nonce.length = 12) (hl : text.length ≤ 2000000) (em : mixV (QaE key nonce) 1 text = fm) :
    Calls Tryd.prog 103 #[.agg (ints .u8 key), v, .int .i64 1, v2] w (Qca w (MixR w.heap.size fm)) := by
  subst em
  exact MixG w.heap.size key nonce text v v2 B B2 1 th tq w hh hq hkl hn ht h 4294967295 (by decide) (by decide) (by decide) (by omega) hl (Nat.le_refl _)
set_option maxRecDepth 100000 in
set_option maxHeartbeats 4000000 in
theorem Qid (key nonce ctx text : List Int) (v v2 v3 : Value) (B B2 B3 : Nat) (th tq : TypeId) (w : World) (hh : w.heap[2]? = some (.cells (ints .u32 [1634760805, 857760878, 2036477234, 1797285236]) th)) (hq : w.heap[3]? = some (.cells (ints .i64 [0, 4, 8, 12, 1, 5, 9, 13, 2, 6, 10, 14, 3, 7, 11, 15, 0, 5, 10, 15, 1, 6, 11, 12, 2, 7, 8, 13, 3, 4, 9, 14]) tq)) (hkl : key.length = 32) (hn : RdK .u8 B nonce v w) (hc : RdK .u8 B2 ctx v2 w) (ht : RdK .u8 B3 text v3 w) (hcb : Qan ctx) (h : nonce.length = 12) (hcl : ctx.length ≤ 1048576) (hxl : text.length ≤ 1048576) :
    Calls Tryd.prog 71 #[.agg (ints .u8 key), v, v2, v3] w (Qca w (MixR w.heap.size (Qcd key nonce ctx text))) := by
  obtain ⟨a_n, c_n, rfl, -⟩ := id hn
  obtain ⟨a_c, c_c, rfl, -⟩ := id hc
  obtain ⟨a_t, c_t, rfl, -⟩ := id ht
  obtain ⟨fm, em⟩ : ∃ z : List Int, mixV (QaE key nonce) 1 text = z := ⟨_, rfl⟩
  have lfm : fm.length = text.length := by rw [← em, Qbu]
  have hfb : Qan fm := by rw [← em]; exact QdT _ _ _
  refine enter 51 [(0, .agg (ints .u8 (key))), (1, .slice a_n nonce.length c_n), (2, .slice a_c ctx.length c_c), (3, .slice a_t text.length c_t)] Tryd.func71 rfl rfl kj rfl ?_
  refine wp_seq_k fun K3 hK3 => ?_
  refine Qab ?_
  refine Qas (ints .u8 (key)) 23 4 rfl kj kj fun g4 W1 l4 e1 r4_1 => ?_
  have x1 : Ext w W1 := Ext.tr (Rely.Ext.refl w) e1
  have b4 : w.heap.size ≤ g4 := Nat.le_trans (Rely.Ext.refl w).size l4
  refine Qaa (.slice none 0 0) 8 rfl kj kj ?_
  refine Qaa (.nilIface) 9 rfl kj kj ?_
  refine Qac ?_
  refine hK3 _ _ ?_
  refine wp_seq_k fun K5 hK5 => ?_
  refine wp_seq_k fun K6 hK6 => ?_
  refine Qab ?_
  refine Qaa (.slice a_n nonce.length c_n) 13 rfl kj kj ?_
  refine Qaa (.int .i64 ((nonce.length : Nat) : Int)) 14 rfl kj kj ?_
  refine Qaa (.bool false) 15 rfl kj (Qah (u := .bool ((((nonce.length : Nat) : Int) != 12))) kj (congrArg Value.bool (by rw [h]; rfl))) ?_
  refine Qaa (.bool false) 16 rfl kj kj ?_
  refine Qaa (.slice a_c ctx.length c_c) 17 rfl kj kj ?_
  refine Qaa (.int .i64 ((ctx.length : Nat) : Int)) 18 rfl kj kj ?_
  refine Qaa (.bool false) 19 rfl kj (Qah (u := .bool (decide (((ctx.length : Nat) : Int) > 1048576))) kj (congrArg Value.bool (decide_eq_false (by omega)))) ?_
  refine Qaa (.bool false) 20 rfl kj kj ?_
  refine Qaa (.bool false) 21 rfl kj kj ?_
  refine Qaa (.slice a_t text.length c_t) 22 rfl kj kj ?_
  refine Qaa (.int .i64 ((text.length : Nat) : Int)) 23 rfl kj kj ?_
  refine Qaa (.bool false) 24 rfl kj (Qah (u := .bool (decide (((text.length : Nat) : Int) > 1048576))) kj (congrArg Value.bool (decide_eq_false (by omega)))) ?_
  refine Qaa (.bool false) 25 rfl kj kj ?_
  refine Qac ?_
  refine hK6 _ _ ?_
  refine cond_false kj ?_
  refine wp_skip ?_
  refine hK5 _ _ ?_
  refine wp_seq_k fun K7 hK7 => ?_
  refine Qab ?_
  refine Qaa (.agg (ints .u8 (key))) 28 rfl kj (Qar 23 _ g4 23 _ _ r4_1 rfl kj kj (isz (n := 32) kj ((Qaf _ _).trans hkl))) ?_
  refine Qaa (.slice a_n nonce.length c_n) 29 rfl kj kj ?_
  refine Qaa (.slice a_t text.length c_t) 30 rfl kj kj ?_
  have r2_1 := (Qad hh e1)
  have r1_1 := (Qad hq e1)
  refine Qa8 (fun v W' => (MixR W1.heap.size (fm)) v W' ∧ Ext W1 W') 103 #[.agg (ints .u8 (key)), .slice a_n nonce.length c_n, .int .i64 1, .slice a_t text.length c_t] 31 rfl kj kj ((MixE key nonce (text) (fm) _ _ _ _ th tq _ r2_1 r1_1 hkl (RdK.ext hn x1) (RdK.ext ht x1) h (by omega) em).mono (by rintro e w' ⟨v, rfl, e1, hv⟩; exact ⟨v, rfl, hv, e1⟩)) fun vv8 W2 hh8 => ?_
  obtain ⟨hv8, e2⟩ := hh8
  have x2 : Ext w W2 := Ext.tr x1 e2
  obtain ⟨u31_, rfl, hu31_⟩ := hv8
  obtain ⟨a31_, c31_, rfl, -⟩ := id (OwnN.rd hu31_)
  refine Qaa (.tuple #[.slice a31_ ((fm).length) c31_, .nilIface]) 27 rfl kj kj ?_
  refine Qaa (.slice a31_ ((fm).length) c31_) 32 rfl kj kj ?_
  refine Qaa (.nilIface) 33 rfl kj kj ?_
  refine Qaa (.slice a31_ ((fm).length) c31_) 10 rfl kj kj ?_
  refine Qaa (.nilIface) 11 rfl kj kj ?_
  refine Qac ?_
  refine hK7 _ _ ?_
  refine wp_seq_k fun K9 hK9 => ?_
  refine wp_seq_k fun K10 hK10 => ?_
  refine Qab ?_
  refine Qaa (.nilIface) 34 rfl kj kj ?_
  refine Qaa (.bool false) 35 rfl kj kj ?_
  refine Qac ?_
  refine hK10 _ _ ?_
  refine cond_false kj ?_
  refine wp_skip ?_
  refine hK9 _ _ ?_
  refine wp_seq_k fun K11 hK11 => ?_
  refine Qab ?_
  have r4_2 := (Qad r4_1 e2)
  refine Qaa (.agg (ints .u8 (key))) 38 rfl kj (Qar 23 _ g4 23 _ _ r4_2 rfl kj kj (isz (n := 32) kj ((Qaf _ _).trans hkl))) ?_
  refine Qaa (.slice a_n nonce.length c_n) 39 rfl kj kj ?_
  refine Qaa (.slice a_c ctx.length c_c) 40 rfl kj kj ?_
  refine Qaa (.slice a31_ ((fm).length) c31_) 41 rfl kj kj ?_
  have r2_2 := (Qad r2_1 e2)
  have r1_2 := (Qad r1_1 e2)
  refine Qat (.tuple #[.agg (ints .u8 (QbZ key nonce ctx fm)), .nilIface]) 104 #[.agg (ints .u8 (key)), .slice a_n nonce.length c_n, .slice a_c ctx.length c_c, .slice a31_ ((fm).length) c31_] 42 rfl kj kj ((QfX key nonce ctx fm _ _ _ _ _ _ th tq _ r2_2 r1_2 hkl (RdK.ext hn x2) (RdK.ext hc x2) (OwnN.rd hu31_) h hcb hfb (by omega) (by omega))) fun W3 e3 => ?_
  have x3 : Ext w W3 := Ext.tr x2 e3
  refine Qaa (.tuple #[.agg (ints .u8 (QbZ key nonce ctx fm)), .nilIface]) 37 rfl kj kj ?_
  refine Qaa (.agg (ints .u8 (QbZ key nonce ctx fm))) 43 rfl kj kj ?_
  refine Qaa (.nilIface) 44 rfl kj kj ?_
  refine Qas (ints .u8 (List.replicate 16 0)) 157 12 rfl kj kj fun g12 W4 l12 e4 r12_4 => ?_
  have x4 : Ext w W4 := Ext.tr x3 e4
  have b12 : w.heap.size ≤ g12 := Nat.le_trans x3.size l12
  refine Qaj g12 _ (ints .u8 (QbZ key nonce ctx fm)) 157 r12_4 rfl kj (Qaq 157 _ _ g12 157 _ _ r12_4 rfl kj kj (isz (n := 16) kj ((Qaf _ _).trans (Qbf _ _ _ _))) (eqsz (n := 16) ((Qaf _ _).trans (List.length_replicate (n := 16))) ((Qaf _ _).trans (Qbf _ _ _ _))) (Qa7 _ _)) fun W5 p5 r12_5 => ?_
  have x5 : Ext w W5 := Puts.ext p5 x4 b12
  refine Qaa (.nilIface) 11 rfl kj kj ?_
  refine Qac ?_
  refine hK11 _ _ ?_
  refine wp_seq_k fun K13 hK13 => ?_
  refine wp_seq_k fun K14 hK14 => ?_
  refine Qab ?_
  refine Qaa (.nilIface) 45 rfl kj kj ?_
  refine Qaa (.bool false) 46 rfl kj kj ?_
  refine Qac ?_
  refine hK14 _ _ ?_
  refine cond_false kj ?_
  refine wp_skip ?_
  refine hK13 _ _ ?_
  refine wp_seq_k fun K15 hK15 => ?_
  refine Qab ?_
  refine Qaa (.slice a31_ ((fm).length) c31_) 48 rfl kj kj ?_
  refine Qaa (.slice (some ⟨g12, 0, none⟩) 16 16) 49 rfl kj kj ?_
  have f16_3 := (hu31_.ext e3)
  have f17_4 := (f16_3.ext e4)
  have f18_5 := (f17_4.puts p5 (QhR f16_3 l12))
  have y1_2 : Ext W1 W2 := (Rely.Ext.trans (Rely.Ext.refl W1) e2)
  have y1_3 : Ext W1 W3 := (Rely.Ext.trans y1_2 e3)
  have y1_4 : Ext W1 W4 := (Rely.Ext.trans y1_3 e4)
  have y1_5 : Ext W1 W5 := (Puts.ext p5 y1_4 (Nat.le_trans y1_3.size l12))
  refine QcI (k := .u8) (T := 5) (xs := fm) (ys := QbZ key nonce ctx fm) (V := W1) 1 (.tmp 48) (.tmp 49) 33 rfl kj kj (by decide) 50 rfl kj kj kj f18_5 (Qby (xs := QbZ key nonce ctx fm) (n := 16) (Qbf _ _ _ _) r12_5 (QaA r12_5) (show 16 ≤ maxLen from by decide)) (by rw [Qbf]; omega) y1_5 fun zs W6 f19 y6 l6 => ?_
  have x6 : Ext w W6 := Ext.low x5 l6 x1.size
  refine Qaa (zs) 8 rfl kj kj ?_
  refine Qaa (.nilIface) 9 rfl kj kj ?_
  refine Qac ?_
  refine hK15 _ _ ?_
  refine wp_ret ?_
  repeat (first | with_reducible refine goR1 ?_ | with_reducible refine goR2 ?_)
  exact (show bodyPost _ _ _ .ret _ _ from ret2 (zs) (.nilIface) rfl (Qa0 kj) (Qa0 kj) ⟨_, rfl, x6, zs, rfl, by unfold Qcd; rw [em]; exact OwnN.base x1.size f19⟩)
end Go.Proofs.YtoiendjhplbjjaaDoor.Ae
end
section
namespace Go.Proofs.YtoiendjhplbjjaaDoor.Ae
open Go Go.RowKit
open Rely Auto Own Sha
set_option linter.unusedVariables false
set_option linter.unusedSimpArgs false
open Sha Cha
theorem Qe5 (n : Nat) (h : 16 ≤ n) (hm : n ≤ maxLen) : IntKind.i64.wrap (((n : Nat) : Int) - 16) = ((n - 16 : Nat) : Int) := by
  rw [show ((n : Nat) : Int) - 16 = ((n - 16 : Nat) : Int) by omega]
  exact IntWalk.i64_in _ (by rw [maxLen] at hm; omega)
set_option maxRecDepth 100000 in
set_option maxHeartbeats 4000000 in
theorem Qie (key nonce ctx sl : List Int) (v v2 v3 : Value) (B B2 B3 : Nat) (th tq : TypeId) (w : World) (hh : w.heap[2]? = some (.cells (ints .u32 [1634760805, 857760878, 2036477234, 1797285236]) th)) (hq : w.heap[3]? = some (.cells (ints .i64 [0, 4, 8, 12, 1, 5, 9, 13, 2, 6, 10, 14, 3, 7, 11, 15, 0, 5, 10, 15, 1, 6, 11, 12, 2, 7, 8, 13, 3, 4, 9, 14]) tq)) (hkl : key.length = 32) (hn : RdK .u8 B nonce v w) (hc : RdK .u8 B2 ctx v2 w) (ht : RdK .u8 B3 sl v3 w) (hcb : Qan ctx) (htb : Qan sl) (h : nonce.length = 12) (hcl : ctx.length ≤ 1048592) (hxl : sl.length ≤ 1048592) (hsh : 16 ≤ sl.length) (hne : QbZ key nonce ctx (sl.take (sl.length - 16)) = sl.drop (sl.length - 16)) :
    Calls Tryd.prog 74 #[.agg (ints .u8 key), v, v2, v3] w (Qca w (MixR w.heap.size (mixV (QaE key nonce) 1 (sl.take (sl.length - 16))))) := by
  obtain ⟨a_n, c_n, rfl, -⟩ := id hn
  obtain ⟨a_c, c_c, rfl, -⟩ := id hc
  obtain ⟨a_t, c_t, rfl, -⟩ := id ht
  have ctk : sl.length ≤ c_t := by
    obtain ⟨_, _, e, q2, _⟩ := id ht
    simp only [Value.slice.injEq] at e
    obtain ⟨-, -, rfl⟩ := e
    exact q2
  have htm : sl.length ≤ maxLen := RdK.len ht
  have hlt_ : (sl.take (sl.length - 16)).length = sl.length - 16 := by rw [List.length_take]; omega
  obtain ⟨fm, em⟩ : ∃ z : List Int, mixV (QaE key nonce) 1 (sl.take (sl.length - 16)) = z := ⟨_, rfl⟩
  refine enter 64 [(0, .agg (ints .u8 (key))), (1, .slice a_n nonce.length c_n), (2, .slice a_c ctx.length c_c), (3, .slice a_t sl.length c_t)] Tryd.func74 rfl rfl kj rfl ?_
  refine wp_seq_k fun K3 hK3 => ?_
  refine Qab ?_
  refine Qas (ints .u8 (key)) 23 4 rfl kj kj fun g4 W1 l4 e1 r4_1 => ?_
  have x1 : Ext w W1 := Ext.tr (Rely.Ext.refl w) e1
  have b4 : w.heap.size ≤ g4 := Nat.le_trans (Rely.Ext.refl w).size l4
  refine Qaa (.slice none 0 0) 8 rfl kj kj ?_
  refine Qaa (.nilIface) 9 rfl kj kj ?_
  refine Qac ?_
  refine hK3 _ _ ?_
  refine wp_seq_k fun K5 hK5 => ?_
  refine wp_seq_k fun K6 hK6 => ?_
  refine Qab ?_
  refine Qaa (.slice a_n nonce.length c_n) 14 rfl kj kj ?_
  refine Qaa (.int .i64 ((nonce.length : Nat) : Int)) 15 rfl kj kj ?_
  refine Qaa (.bool false) 16 rfl kj (Qah (u := .bool ((((nonce.length : Nat) : Int) != 12))) kj (congrArg Value.bool (by rw [h]; rfl))) ?_
  refine Qaa (.bool false) 17 rfl kj kj ?_
  refine Qaa (.slice a_c ctx.length c_c) 18 rfl kj kj ?_
  refine Qaa (.int .i64 ((ctx.length : Nat) : Int)) 19 rfl kj kj ?_
  refine Qaa (.bool false) 20 rfl kj (Qah (u := .bool (decide (((ctx.length : Nat) : Int) > 1048592))) kj (congrArg Value.bool (decide_eq_false (by omega)))) ?_
  refine Qaa (.bool false) 21 rfl kj kj ?_
  refine Qaa (.bool false) 22 rfl kj kj ?_
  refine Qaa (.slice a_t sl.length c_t) 23 rfl kj kj ?_
  refine Qaa (.int .i64 ((sl.length : Nat) : Int)) 24 rfl kj kj ?_
  refine Qaa (.bool false) 25 rfl kj (Qah (u := .bool (decide (((sl.length : Nat) : Int) > 1048592))) kj (congrArg Value.bool (decide_eq_false (by omega)))) ?_
  refine Qaa (.bool false) 26 rfl kj kj ?_
  refine Qac ?_
  refine hK6 _ _ ?_
  refine cond_false kj ?_
  refine wp_skip ?_
  refine hK5 _ _ ?_
  refine wp_seq_k fun K7 hK7 => ?_
  refine wp_seq_k fun K8 hK8 => ?_
  refine Qab ?_
  refine Qaa (.slice a_t sl.length c_t) 28 rfl kj kj ?_
  refine Qaa (.int .i64 ((sl.length : Nat) : Int)) 29 rfl kj kj ?_
  refine Qaa (.bool false) 30 rfl kj (Qah (u := .bool (decide (((sl.length : Nat) : Int) < 16))) kj (congrArg Value.bool (decide_eq_false (by omega)))) ?_
  refine Qac ?_
  refine hK8 _ _ ?_
  refine cond_false kj ?_
  refine wp_skip ?_
  refine hK7 _ _ ?_
  refine wp_seq_k fun K9 hK9 => ?_
  refine QaS 11 [⟨none, [(3, none)]⟩, ⟨none, [(3, none)]⟩, ⟨none, [(33, some 1)]⟩, ⟨none, [(34, some 2)]⟩, ⟨none, [(32, some 0), (35, some 3)]⟩, ⟨none, [(3, none)]⟩, ⟨none, [(3, none)]⟩, ⟨none, [(38, some 6)]⟩, ⟨none, [(39, some 7)]⟩, ⟨none, [(37, some 5), (40, some 8)]⟩, ⟨none, [(36, some 4)]⟩] kj kj fun F hF => ?_
  refine Qa5 (Qam _) (.slice a_t sl.length c_t) kj kj (fun W => by kernel_rfl) ?_
  refine Qa5 (Qam _) (.slice a_t sl.length c_t) kj kj (fun W => by kernel_rfl) ?_
  refine Qa5 (Qam _) (.int .i64 ((sl.length : Nat) : Int)) kj kj (fun W => by kernel_rfl) ?_
  refine Qa5 (Qam _) (.int .i64 (((sl.length - 16 : Nat) : Int))) kj kj (fun W => (Qah (u := .int .i64 (IntKind.i64.wrap (((sl.length : Nat) : Int) - 16))) kj (congrArg (Value.int .i64) (Qe5 _ hsh htm)))) ?_
  refine Qa5 (Qam _) (.slice a_t (sl.length - 16) c_t) kj kj (fun W => (Qc9 (len := sl.length) 33 _ _ (sl.length - 16) 5 rfl kj kj kj .i64 kj (Nat.le_trans (Nat.sub_le _ _) ctk))) ?_
  refine Qa5 (Qam _) (.slice a_t sl.length c_t) kj kj (fun W => by kernel_rfl) ?_
  refine Qa5 (Qam _) (.slice a_t sl.length c_t) kj kj (fun W => by kernel_rfl) ?_
  refine Qa5 (Qam _) (.int .i64 ((sl.length : Nat) : Int)) kj kj (fun W => by kernel_rfl) ?_
  refine Qa5 (Qam _) (.int .i64 (((sl.length - 16 : Nat) : Int))) kj kj (fun W => (Qah (u := .int .i64 (IntKind.i64.wrap (((sl.length : Nat) : Int) - 16))) kj (congrArg (Value.int .i64) (Qe5 _ hsh htm)))) ?_
  refine Qa5 (Qam _) (.slice (Qco a_t c_t (sl.length - 16)) (sl.length - (sl.length - 16)) (c_t - (sl.length - 16))) kj kj (fun W => (QcA 33 _ _ (sl.length - 16) 5 rfl kj kj kj .i64 kj (Nat.sub_le _ _) ctk)) ?_
  refine Qa5 (Qam _) (.slice a_t (sl.length - 16) c_t) kj kj (fun W => by kernel_rfl) ?_
  refine QcZ (hF _ fun W2 e2 => ?_)
  simp only [List.nil_append, List.cons_append, List.take_succ_cons, List.take_zero, List.drop_succ_cons, List.drop_zero, finE, up]
  clear hF
  have x2 : Ext w W2 := Ext.tr x1 e2
  refine Qaa (.slice (Qco a_t c_t (sl.length - 16)) (sl.length - (sl.length - 16)) (c_t - (sl.length - 16))) 11 rfl kj kj ?_
  refine Qac ?_
  refine hK9 _ _ ?_
  refine wp_seq_k fun K10 hK10 => ?_
  refine Qab ?_
  have r4_2 := (Qad r4_1 e2)
  refine Qaa (.agg (ints .u8 (key))) 43 rfl kj (Qar 23 _ g4 23 _ _ r4_2 rfl kj kj (isz (n := 32) kj ((Qaf _ _).trans hkl))) ?_
  refine Qaa (.slice a_n nonce.length c_n) 44 rfl kj kj ?_
  refine Qaa (.slice a_c ctx.length c_c) 45 rfl kj kj ?_
  refine Qaa (.slice a_t (sl.length - 16) c_t) 46 rfl kj kj ?_
  have r2_1 := (Qad hh e1)
  have r2_2 := (Qad r2_1 e2)
  have r1_1 := (Qad hq e1)
  have r1_2 := (Qad r1_1 e2)
  refine Qat (.tuple #[.agg (ints .u8 (QbZ key nonce ctx (sl.take (sl.length - 16)))), .nilIface]) 104 #[.agg (ints .u8 (key)), .slice a_n nonce.length c_n, .slice a_c ctx.length c_c, .slice a_t (sl.length - 16) c_t] 47 rfl kj kj ((QfX key nonce ctx (sl.take (sl.length - 16)) _ _ _ _ _ _ th tq _ r2_2 r1_2 hkl (RdK.ext hn x2) (RdK.ext hc x2) (Qeb (RdK.ext ht x2) (sl.length - 16) (Nat.sub_le _ _)) h hcb (QaH htb _) (by omega) (by omega))) fun W3 e3 => ?_
  have x3 : Ext w W3 := Ext.tr x2 e3
  refine Qaa (.tuple #[.agg (ints .u8 (QbZ key nonce ctx (sl.take (sl.length - 16)))), .nilIface]) 42 rfl kj kj ?_
  refine Qaa (.agg (ints .u8 (QbZ key nonce ctx (sl.take (sl.length - 16))))) 48 rfl kj kj ?_
  refine Qaa (.nilIface) 49 rfl kj kj ?_
  refine Qas (ints .u8 (List.replicate 16 0)) 157 12 rfl kj kj fun g11 W4 l11 e4 r11_4 => ?_
  have x4 : Ext w W4 := Ext.tr x3 e4
  have b11 : w.heap.size ≤ g11 := Nat.le_trans x3.size l11
  refine Qaj g11 _ (ints .u8 (QbZ key nonce ctx (sl.take (sl.length - 16)))) 157 r11_4 rfl kj (Qaq 157 _ _ g11 157 _ _ r11_4 rfl kj kj (isz (n := 16) kj ((Qaf _ _).trans (Qbf _ _ _ _))) (eqsz (n := 16) ((Qaf _ _).trans (List.length_replicate (n := 16))) ((Qaf _ _).trans (Qbf _ _ _ _))) (Qa7 _ _)) fun W5 p5 r11_5 => ?_
  have x5 : Ext w W5 := Puts.ext p5 x4 b11
  refine Qaa (.nilIface) 13 rfl kj kj ?_
  refine Qac ?_
  refine hK10 _ _ ?_
  refine wp_seq_k fun K12 hK12 => ?_
  refine wp_seq_k fun K13 hK13 => ?_
  refine Qab ?_
  refine Qaa (.nilIface) 50 rfl kj kj ?_
  refine Qaa (.bool false) 51 rfl kj kj ?_
  refine Qac ?_
  refine hK13 _ _ ?_
  refine cond_false kj ?_
  refine wp_skip ?_
  refine hK12 _ _ ?_
  refine wp_seq_k fun K14 hK14 => ?_
  refine wp_seq_k fun K15 hK15 => ?_
  refine Qab ?_
  refine Qaa (.slice (some ⟨g11, 0, none⟩) 16 16) 53 rfl kj kj ?_
  refine Qaa (.slice (Qco a_t c_t (sl.length - 16)) (sl.length - (sl.length - 16)) (c_t - (sl.length - 16))) 54 rfl kj kj ?_
  refine Qat (.bool true) 107 #[.slice (some ⟨g11, 0, none⟩) 16 16, .slice (Qco a_t c_t (sl.length - 16)) (sl.length - (sl.length - 16)) (c_t - (sl.length - 16))] 55 rfl kj kj ((Qg0 (QbZ key nonce ctx (sl.take (sl.length - 16))) (sl.drop (sl.length - 16)) _ _ W5.heap.size _ W5 hne (Qby (xs := QbZ key nonce ctx (sl.take (sl.length - 16))) (n := 16) (Qbf _ _ _ _) r11_5 (QaA r11_5) (show 16 ≤ maxLen from by decide)) (Qdx (RdK.ext ht x5) (sl.length - 16) (Nat.sub_le _ _)) (QdI _ _ _ _) (Qbe htb _) (by rw [List.length_drop, Qbf]; omega) (by rw [Qbf]; decide))) fun W6 e6 => ?_
  have x6 : Ext w W6 := Ext.tr x5 e6
  refine Qaa (.bool false) 56 rfl kj kj ?_
  refine Qac ?_
  refine hK15 _ _ ?_
  refine cond_false kj ?_
  refine wp_skip ?_
  refine hK14 _ _ ?_
  refine wp_seq_k fun K16 hK16 => ?_
  refine Qab ?_
  have r4_3 := (Qad r4_2 e3)
  have r4_4 := (Qad r4_3 e4)
  have r4_5 := (Puts.row p5 r4_4 (Qag r4_3 l11))
  have r4_6 := (Qad r4_5 e6)
  refine Qaa (.agg (ints .u8 (key))) 58 rfl kj (Qar 23 _ g4 23 _ _ r4_6 rfl kj kj (isz (n := 32) kj ((Qaf _ _).trans hkl))) ?_
  refine Qaa (.slice a_n nonce.length c_n) 59 rfl kj kj ?_
  refine Qaa (.slice a_t (sl.length - 16) c_t) 60 rfl kj kj ?_
  have r2_3 := (Qad r2_2 e3)
  have r2_4 := (Qad r2_3 e4)
  have r2_5 := (Puts.row p5 r2_4 (Qag r2_3 l11))
  have r2_6 := (Qad r2_5 e6)
  have r1_3 := (Qad r1_2 e3)
  have r1_4 := (Qad r1_3 e4)
  have r1_5 := (Puts.row p5 r1_4 (Qag r1_3 l11))
  have r1_6 := (Qad r1_5 e6)
  refine Qa8 (fun v W' => (MixR W6.heap.size (fm)) v W' ∧ Ext W6 W') 103 #[.agg (ints .u8 (key)), .slice a_n nonce.length c_n, .int .i64 1, .slice a_t (sl.length - 16) c_t] 61 rfl kj kj ((MixE key nonce (sl.take (sl.length - 16)) (fm) _ _ _ _ th tq _ r2_6 r1_6 hkl (RdK.ext hn x6) (Qeb (RdK.ext ht x6) (sl.length - 16) (Nat.sub_le _ _)) h (by omega) em).mono (by rintro e w' ⟨v, rfl, e1, hv⟩; exact ⟨v, rfl, hv, e1⟩)) fun vv17 W7 hh17 => ?_
  obtain ⟨hv17, e7⟩ := hh17
  have x7 : Ext w W7 := Ext.tr x6 e7
  obtain ⟨u61_, rfl, hu61_⟩ := hv17
  refine Qaa (u61_) 62 rfl kj kj ?_
  refine Qaa (.nilIface) 63 rfl kj kj ?_
  refine Qaa (u61_) 8 rfl kj kj ?_
  refine Qaa (.nilIface) 9 rfl kj kj ?_
  refine Qac ?_
  refine hK16 _ _ ?_
  refine wp_ret ?_
  repeat (first | with_reducible refine goR1 ?_ | with_reducible refine goR2 ?_)
  exact (show bodyPost _ _ _ .ret _ _ from ret2 (u61_) (.nilIface) rfl (Qa0 kj) (Qa0 kj) ⟨_, rfl, x7, u61_, rfl, by rw [em]; exact OwnN.base x6.size hu61_⟩)
end Go.Proofs.YtoiendjhplbjjaaDoor.Ae
end
section
namespace Go.Proofs.YtoiendjhplbjjaaDoor.Ae
open Go Go.RowKit
open Rely Auto Own Sha
set_option linter.unusedVariables false
set_option linter.unusedSimpArgs false
open Sha Cha
set_option maxHeartbeats 4000000 in
theorem Qhw (n0 n : Nat) (w : World) (hn0 : n0 ≤ w.heap.size) : Calls Tryd.prog 112 #[.int .i64 ((n : Nat) : Int)] w (Qca w (OwnN .u8 5 n0 (by8 ((n : Nat) : Int)))) :=
  (QeN n w).mono fun e W' hg => by
    obtain ⟨v', e1, e2, e3⟩ := hg
    exact ⟨v', e1, e2, e3.base hn0⟩
theorem QhP (n : Nat) (w : World) : Calls Tryd.prog 86 #[.int .i64 ((n : Nat) : Int)] w (Qca w (OwnN .u8 5 w.heap.size ([0, 0, 0, 0] ++ by8 ((n : Nat) : Int)))) := by
  refine enter 7 [(0, .int .i64 ((n : Nat) : Int))] Tryd.func86 rfl rfl kj rfl ?_
  refine wp_seq_k fun K1 hK1 => ?_
  refine Qab ?_
  refine Qaa (.slice none 0 0) 2 rfl kj kj ?_
  refine Qac ?_
  refine hK1 _ _ ?_
  refine wp_seq_k fun K2 hK2 => ?_
  refine QaS 3 [⟨none, []⟩, ⟨none, [(0, none)]⟩, ⟨none, [(4, some 1)]⟩] kj kj fun F hF => ?_
  refine Qhb (Qam _) (ints .u8 ([0, 0, 0, 0])) 5 4 (NewS.stable _ _ _ _) kj kj (fun W => by kernel_rfl) ?_
  refine Qa5 (Qam _) (.int .i64 ((n : Nat) : Int)) kj kj (fun W => by kernel_rfl) ?_
  refine Qdi (Qam _) (OwnN .u8 5 w.heap.size (by8 ((n : Nat) : Int))) (OwnN.stable _ _ _ _) 112 #[.int .i64 ((n : Nat) : Int)] kj kj (fun W => by kernel_rfl) (fun W hR => (Qhw w.heap.size n _ (Rely.Ext.trans (Qai _) hR).size)) ?_
  refine QcZ (hF _ fun W1 e1 => ?_)
  simp only [List.nil_append, List.cons_append, List.take_succ_cons, List.take_zero, List.drop_succ_cons, List.drop_zero, finE, up]
  intro vv3 hv3 vv4 hv4
  clear hF
  have x1 : Ext w W1 := Ext.tr (Rely.Ext.refl w) e1
  obtain ⟨g3, rfl, l3, r3_1⟩ := hv3
  have b3 : w.heap.size ≤ g3 := Nat.le_trans (Rely.Ext.refl w).size l3
  obtain ⟨a5_, c5_, rfl, -⟩ := id (OwnN.rd hv4)
  have y0_1 : Ext w W1 := (Rely.Ext.trans (Rely.Ext.refl w) e1)
  refine QcI (k := .u8) (T := 5) (xs := [0, 0, 0, 0]) (ys := by8 ((n : Nat) : Int)) (V := w) 1 (.tmp 3) (.tmp 5) 33 rfl kj kj (by decide) 6 rfl kj kj kj (QcE (xs := [0, 0, 0, 0]) rfl l3 r3_1 (by decide)) (OwnN.rd hv4) (by rw [QbY]; decide) y0_1 fun zn W2 f5 y2 l2 => ?_
  have x2 : Ext w W2 := Ext.low x1 l2 (Rely.Ext.refl w).size
  refine Qaa (zn) 2 rfl kj kj ?_
  refine Qac ?_
  refine hK2 _ _ ?_
  refine wp_ret ?_
  repeat (first | with_reducible refine goR1 ?_ | with_reducible refine goR2 ?_)
  exact (show bodyPost _ _ _ .ret _ _ from ret1 (zn) rfl (Qa0 kj) ⟨zn, rfl, x2, OwnN.base (Nat.le_refl _) f5⟩)
theorem Qeq (key nonce ctx text : List Int) : (Qcd key nonce ctx text).take ((Qcd key nonce ctx text).length - 16) = mixV (QaE key nonce) 1 text := by
  rw [Qcc]; unfold Qcd
  rw [List.take_append_of_le_length (by rw [Qbu]; omega), List.take_of_length_le (by rw [Qbu]; omega)]
theorem QfI (key nonce ctx text : List Int) : (Qcd key nonce ctx text).drop ((Qcd key nonce ctx text).length - 16) = QbZ key nonce ctx (mixV (QaE key nonce) 1 text) := by
  rw [Qcc]; unfold Qcd
  rw [List.drop_append_of_le_length (by rw [Qbu]; omega), List.drop_of_length_le (by rw [Qbu]; omega), List.nil_append]
theorem Qgr (key nonce ctx text : List Int) (v v2 v3 : Value) (B B2 B3 : Nat) (th tq : TypeId) (w : World) (hh : w.heap[2]? = some (.cells (ints .u32 [1634760805, 857760878, 2036477234, 1797285236]) th)) (hq : w.heap[3]? = some (.cells (ints .i64 [0, 4, 8, 12, 1, 5, 9, 13, 2, 6, 10, 14, 3, 7, 11, 15, 0, 5, 10, 15, 1, 6, 11, 12, 2, 7, 8, 13, 3, 4, 9, 14]) tq)) (hkl : key.length = 32) (hn : RdK .u8 B nonce v w) (hc : RdK .u8 B2 ctx v2 w) (ht : RdK .u8 B3 (Qcd key nonce ctx text) v3 w) (hcb : Qan ctx) (htb : Qan text) (h : nonce.length = 12) (hcl : ctx.length ≤ 1048576) (hxl : text.length ≤ 1048576) :
    Calls Tryd.prog 74 #[.agg (ints .u8 key), v, v2, v3] w (Qca w (MixR w.heap.size text)) := by
  have h1 := Qie key nonce ctx (Qcd key nonce ctx text) v v2 v3 B B2 B3 th tq w hh hq hkl hn hc ht hcb (QeD _ _ _ _) h (by omega) (by rw [Qcc]; omega) (by rw [Qcc]; omega) (by rw [Qeq, QfI])
  rw [Qeq, Qhu _ _ _ htb] at h1
  exact h1
end Go.Proofs.YtoiendjhplbjjaaDoor.Ae
end
section
namespace Go.Proofs.YtoiendjhplbjjaaDoor.Ll
open Go Go.RowKit
open Rely Auto Own Sha Sha
set_option linter.unusedVariables false
set_option linter.unusedSimpArgs false
open Cha Ae
theorem QfS {k : IntKind} {T : TypeId} {base g : Nat} {xs : List Int} {v : Value} {W : World} (h : OwnN k T base xs v W) (hg : g < base) : v.ownBlock ≠ some g := fun e => by
  have := h.ge e
  omega
theorem QeY {k : IntKind} {T : TypeId} {b g : Nat} {xs : List Int} {v : Value} {W W' : World} (h : OwnN k T b xs v W) (q : ExtB g W W') (hn : v.ownBlock ≠ some g) : OwnN k T b xs v W' := h.keep fun k hk => q.2.2.2.2 k (h.lt hk) (fun e => hn (by rw [hk, e]))
theorem run_storeQ {P : Program} {ρ : Operand → Value} {o : Oper} {w : World} (ty : TypeId) (x y : Operand) (g off : Nat) (t : TypeId) (pre post : List (Array Value)) (u v : Value) (hg : w.heap[g]? = some (.cells (cat (pre ++ ([#[u]] ++ post))) t))
    (ho : o.op = .store ty x y) (hx : ρ x = .pointer (some ⟨g, off, none⟩)) (hy : ρ y = v) (hi : (P.info? ty).map (·.size) = some 1) (hp : (cat pre).size = off) (h1 : v.oneCell' = true) (hcs : v.cells = #[v]) :
    (execOp ρ o).run P w = .ok .skip (w.setRow g (cat (pre ++ ([#[v]] ++ post)))) := by
  subst hp
  have hs : Nat.blt (cat pre).size (cat (pre ++ ([#[u]] ++ post))).size = true := by
    have : (cat pre).size < (cat (pre ++ ([#[u]] ++ post))).size := by
      rw [Qa3, Qa3, Array.size_append, Array.size_append]
      have e1 : (cat [#[u]]).size = 1 := rfl
      omega
    simpa using this
  have e : (cat (pre ++ ([#[u]] ++ post))).setIfInBounds (cat pre).size v = cat (pre ++ ([#[v]] ++ post)) := by
    rw [Qa3, Qa3, Qa3, Qa3]
    have e1 : ∀ z, cat [#[z]] = #[z] := fun z => rfl
    rw [e1, e1, Array.setIfInBounds_append_right (Nat.le_refl _), Nat.sub_self, Array.setIfInBounds_append_left (by simp)]
    rfl
  rw [← e]
  exact Qbh ty x y g _ t _ v hg ho hx hy hi hs h1 hcs
theorem i64_w (v : Int) (h : -5000000000 ≤ v ∧ v ≤ 5000000000) : IntKind.i64.wrap v = v := IntWalk.i64_in _ (by omega)
theorem shrB (B j : Nat) (hj : j < 64) : ((B : Nat) : Int).fdiv (2 ^ min ((j : Nat) : Int).toNat IntKind.u64.bits) = ((B / 2 ^ j : Nat) : Int) := by
  rw [show min (((j : Nat) : Int).toNat) IntKind.u64.bits = j by show min (((j : Nat) : Int).toNat) 64 = j; omega]
  rw [Int.fdiv_eq_ediv_of_nonneg _ (Int.le_of_lt (Int.pow_pos (by decide))), Int.natCast_ediv, Int.natCast_pow]
  rfl
theorem andB (m : Nat) (h : m < 18446744073709551616) : bits .and .u64 ((m : Nat) : Int) 1 = ((m % 2 : Nat) : Int) := by
  rw [show (1 : Int) = ((1 : Nat) : Int) from rfl, bits_and_u64_nat m 1 h (by omega), Nat.and_one_is_mod]
theorem orB (a b : Nat) (ha : a < 18446744073709551616) (hb : b < 18446744073709551616) : bits .or .u64 ((a : Nat) : Int) ((b : Nat) : Int) = ((a ||| b : Nat) : Int) := by
  have h := u64_or (a : Int) b (by omega) (by omega) (by omega) (by omega)
  simpa using h
theorem wrapN (m : Nat) : IntKind.u64.wrap ((m : Nat) : Int) = ((m % 18446744073709551616 : Nat) : Int) := by rw [IntKind.wrap_u64]; omega
theorem pow_big (B a : Nat) (h : 64 ≤ a) : B * 2 ^ a % 18446744073709551616 = 0 := by
  obtain ⟨c, rfl⟩ : ∃ c, a = 64 + c := ⟨a - 64, by omega⟩
  rw [Nat.pow_add, ← Nat.mul_assoc, Nat.mul_comm B, Nat.mul_assoc]
  exact Nat.mul_mod_right _ _
theorem shlB (B a : Nat) : IntKind.u64.wrap (((B : Nat) : Int) * 2 ^ min ((a : Nat) : Int).toNat IntKind.u64.bits) = ((B * 2 ^ a % 18446744073709551616 : Nat) : Int) := by
  have e : ∀ c : Nat, ((B : Nat) : Int) * 2 ^ c = ((B * 2 ^ c : Nat) : Int) := fun c => by rw [Int.natCast_mul, Int.natCast_pow]; rfl
  rw [e, wrapN]
  have hm : min (((a : Nat) : Int).toNat) IntKind.u64.bits = min a 64 := by show min (((a : Nat) : Int).toNat) 64 = min a 64; rw [Int.toNat_natCast]
  rw [hm]
  rcases Nat.lt_or_ge a 64 with h | h
  · rw [show min a 64 = a by omega]
  · rw [show min a 64 = 64 by omega, pow_big B 64 (by omega), pow_big B a h]
def chkW (nx : Int) (B : Nat) (n : Int) : Int := if n < 0 ∨ 4294967295 ≤ n then 8 else if 64 < nx - 1 - n then 11 else if nx - 1 - n = 0 ∨ (0 < nx - 1 - n ∧ B / 2 ^ (nx - 1 - n - 1).toNat % 2 = 1) then 7 else 0
def errV (e : Int) : Value := if e = 0 then .nilIface else .iface 60 (.int .i64 e)
set_option maxHeartbeats 4000000 in
theorem highestC (g : Nat) (nx : Int) (B : Nat) (hnx : 0 ≤ nx ∧ nx ≤ 4294967295) (hB : B < 18446744073709551616) (sk rk : List Int) (next : Nat) (hsk : sk.length = 32) (hrk : rk.length = 32) (w : World) (hg : w.heap[g]? = some (.cells (cat [#[.int .i64 nx], #[.int .u64 ((B : Nat) : Int)], ints .u8 (sk), ints .u8 (rk), #[.int .i64 ((next : Nat) : Int)]]) 136)) : Calls Tryd.prog 85 #[.pointer (some ⟨g, 0, none⟩)] w (Ret w (.int .i64 (nx - 1))) := by
  refine enter 8 [(0, .pointer (some ⟨g, 0, none⟩))] Tryd.func85 rfl rfl kj rfl ?_
  refine wp_seq_k fun K2 hK2 => ?_
  refine Qab ?_
  refine Qaa (.int .i64 0) 2 rfl kj kj ?_
  refine Qac ?_
  refine hK2 _ _ ?_
  refine wp_seq_k fun K3 hK3 => ?_
  refine Qab ?_
  refine Qaa (.pointer (some ⟨g, 0, none⟩)) 3 rfl kj kj ?_
  refine Qaa (.pointer (some ⟨g, 0, none⟩)) 4 rfl kj kj ?_
  refine Qaa (.pointer (some ⟨g, 0, none⟩)) 5 rfl kj kj ?_
  refine Qaa (.int .i64 nx) 6 rfl kj (Qae 3 _ g 0 136 _ (.int .i64 nx) _ hg rfl kj (QaB [] [#[.int .i64 nx]] [#[.int .u64 ((B : Nat) : Int)], ints .u8 (sk), ints .u8 (rk), #[.int .i64 ((next : Nat) : Int)]] 0 kj 0 _ rfl) kj) ?_
  refine Qaa (.int .i64 (nx - 1)) 7 rfl kj (Qah (u := .int .i64 (IntKind.i64.wrap (nx - 1))) kj (congrArg (Value.int .i64) (i64_w _ (by omega)))) ?_
  refine Qaa (.int .i64 (nx - 1)) 2 rfl kj kj ?_
  refine Qac ?_
  refine hK3 _ _ ?_
  refine wp_ret ?_
  repeat (first | with_reducible refine goR1 ?_ | with_reducible refine goR2 ?_)
  exact (show bodyPost _ _ _ .ret _ _ from ret1 (.int .i64 (nx - 1)) rfl (Qa0 kj) ⟨rfl, (Rely.Ext.refl w)⟩)
set_option maxHeartbeats 4000000 in
theorem check_A (g : Nat) (nx : Int) (B : Nat) (n : Int) (hnx : 0 ≤ nx ∧ nx ≤ 4294967295) (hB : B < 18446744073709551616) (sk rk : List Int) (next : Nat) (hsk : sk.length = 32) (hrk : rk.length = 32) (w : World) (hg : w.heap[g]? = some (.cells (cat [#[.int .i64 nx], #[.int .u64 ((B : Nat) : Int)], ints .u8 (sk), ints .u8 (rk), #[.int .i64 ((next : Nat) : Int)]]) 136)) (hc : n < 0) : Calls Tryd.prog 88 #[.pointer (some ⟨g, 0, none⟩), .int .i64 n] w (Ret w (.iface 60 (.int .i64 8))) := by
  refine enter 38 [(0, .pointer (some ⟨g, 0, none⟩)), (1, .int .i64 n)] Tryd.func88 rfl rfl kj rfl ?_
  refine wp_seq_k fun K2 hK2 => ?_
  refine Qab ?_
  refine Qaa (.nilIface) 4 rfl kj kj ?_
  refine Qac ?_
  refine hK2 _ _ ?_
  refine wp_seq_k fun K3 hK3 => ?_
  refine wp_seq_k fun K4 hK4 => ?_
  refine Qab ?_
  refine Qaa (.int .i64 n) 6 rfl kj kj ?_
  refine Qaa (.bool true) 7 rfl kj (Qah (u := .bool (decide (n < 0))) kj (congrArg Value.bool (decide_eq_true (by omega)))) ?_
  refine Qaa (.bool true) 8 rfl kj kj ?_
  refine Qaz 9 rfl kj ?_
  refine Qaz 10 rfl kj ?_
  refine Qaa (.bool true) 11 rfl kj kj ?_
  refine Qac ?_
  refine hK4 _ _ ?_
  refine cond_true kj ?_
  refine wp_seq_k fun K5 hK5 => ?_
  refine Qab ?_
  refine Qaa (.iface 60 (.int .i64 8)) 12 rfl kj kj ?_
  refine Qaa (.iface 60 (.int .i64 8)) 4 rfl kj kj ?_
  refine Qac ?_
  refine hK5 _ _ ?_
  refine wp_ret ?_
  repeat (first | with_reducible refine goR1 ?_ | with_reducible refine goR2 ?_)
  exact (show bodyPost _ _ _ .ret _ _ from ret1 (.iface 60 (.int .i64 8)) rfl (Qa0 kj) ⟨rfl, (Rely.Ext.refl w)⟩)
set_option maxHeartbeats 4000000 in
theorem check_B (g : Nat) (nx : Int) (B : Nat) (n : Int) (hnx : 0 ≤ nx ∧ nx ≤ 4294967295) (hB : B < 18446744073709551616) (sk rk : List Int) (next : Nat) (hsk : sk.length = 32) (hrk : rk.length = 32) (w : World) (hg : w.heap[g]? = some (.cells (cat [#[.int .i64 nx], #[.int .u64 ((B : Nat) : Int)], ints .u8 (sk), ints .u8 (rk), #[.int .i64 ((next : Nat) : Int)]]) 136)) (hc : 4294967295 ≤ n) : Calls Tryd.prog 88 #[.pointer (some ⟨g, 0, none⟩), .int .i64 n] w (Ret w (.iface 60 (.int .i64 8))) := by
  refine enter 38 [(0, .pointer (some ⟨g, 0, none⟩)), (1, .int .i64 n)] Tryd.func88 rfl rfl kj rfl ?_
  refine wp_seq_k fun K2 hK2 => ?_
  refine Qab ?_
  refine Qaa (.nilIface) 4 rfl kj kj ?_
  refine Qac ?_
  refine hK2 _ _ ?_
  refine wp_seq_k fun K3 hK3 => ?_
  refine wp_seq_k fun K4 hK4 => ?_
  refine Qab ?_
  refine Qaa (.int .i64 n) 6 rfl kj kj ?_
  refine Qaa (.bool false) 7 rfl kj (Qah (u := .bool (decide (n < 0))) kj (congrArg Value.bool (decide_eq_false (by omega)))) ?_
  refine Qaa (.bool false) 8 rfl kj kj ?_
  refine Qaa (.int .i64 n) 9 rfl kj kj ?_
  refine Qaa (.bool true) 10 rfl kj (Qah (u := .bool (decide (n ≥ 4294967295))) kj (congrArg Value.bool (decide_eq_true (by omega)))) ?_
  refine Qaa (.bool true) 11 rfl kj kj ?_
  refine Qac ?_
  refine hK4 _ _ ?_
  refine cond_true kj ?_
  refine wp_seq_k fun K5 hK5 => ?_
  refine Qab ?_
  refine Qaa (.iface 60 (.int .i64 8)) 12 rfl kj kj ?_
  refine Qaa (.iface 60 (.int .i64 8)) 4 rfl kj kj ?_
  refine Qac ?_
  refine hK5 _ _ ?_
  refine wp_ret ?_
  repeat (first | with_reducible refine goR1 ?_ | with_reducible refine goR2 ?_)
  exact (show bodyPost _ _ _ .ret _ _ from ret1 (.iface 60 (.int .i64 8)) rfl (Qa0 kj) ⟨rfl, (Rely.Ext.refl w)⟩)
set_option maxHeartbeats 4000000 in
theorem check_C (g : Nat) (nx : Int) (B : Nat) (n : Int) (hnx : 0 ≤ nx ∧ nx ≤ 4294967295) (hB : B < 18446744073709551616) (sk rk : List Int) (next : Nat) (hsk : sk.length = 32) (hrk : rk.length = 32) (w : World) (hg : w.heap[g]? = some (.cells (cat [#[.int .i64 nx], #[.int .u64 ((B : Nat) : Int)], ints .u8 (sk), ints .u8 (rk), #[.int .i64 ((next : Nat) : Int)]]) 136)) (hn : 0 ≤ n ∧ n < 4294967295) (hc : 64 < nx - 1 - n) : Calls Tryd.prog 88 #[.pointer (some ⟨g, 0, none⟩), .int .i64 n] w (Ret w (.iface 60 (.int .i64 11))) := by
  refine enter 38 [(0, .pointer (some ⟨g, 0, none⟩)), (1, .int .i64 n)] Tryd.func88 rfl rfl kj rfl ?_
  refine wp_seq_k fun K2 hK2 => ?_
  refine Qab ?_
  refine Qaa (.nilIface) 4 rfl kj kj ?_
  refine Qac ?_
  refine hK2 _ _ ?_
  refine wp_seq_k fun K3 hK3 => ?_
  refine wp_seq_k fun K4 hK4 => ?_
  refine Qab ?_
  refine Qaa (.int .i64 n) 6 rfl kj kj ?_
  refine Qaa (.bool false) 7 rfl kj (Qah (u := .bool (decide (n < 0))) kj (congrArg Value.bool (decide_eq_false (by omega)))) ?_
  refine Qaa (.bool false) 8 rfl kj kj ?_
  refine Qaa (.int .i64 n) 9 rfl kj kj ?_
  refine Qaa (.bool false) 10 rfl kj (Qah (u := .bool (decide (n ≥ 4294967295))) kj (congrArg Value.bool (decide_eq_false (by omega)))) ?_
  refine Qaa (.bool false) 11 rfl kj kj ?_
  refine Qac ?_
  refine hK4 _ _ ?_
  refine cond_false kj ?_
  refine wp_skip ?_
  refine hK3 _ _ ?_
  refine wp_seq_k fun K5 hK5 => ?_
  refine Qab ?_
  refine Qaa (.pointer (some ⟨g, 0, none⟩)) 13 rfl kj kj ?_
  refine Qat (.int .i64 (nx - 1)) 85 #[.pointer (some ⟨g, 0, none⟩)] 14 rfl kj kj (highestC g nx B hnx hB sk rk next hsk hrk _ hg) fun W1 e1 => ?_
  have x1 : Ext w W1 := Ext.tr (Rely.Ext.refl w) e1
  refine Qaa (.int .i64 n) 15 rfl kj kj ?_
  refine Qaa (.int .i64 (nx - 1 - n)) 16 rfl kj (Qah (u := .int .i64 (IntKind.i64.wrap ((nx - 1) - n))) kj (congrArg (Value.int .i64) (i64_w _ (by omega)))) ?_
  refine Qaa (.int .i64 (nx - 1 - n)) 5 rfl kj kj ?_
  refine Qac ?_
  refine hK5 _ _ ?_
  refine wp_seq_k fun K6 hK6 => ?_
  refine wp_seq_k fun K7 hK7 => ?_
  refine Qab ?_
  refine Qaa (.int .i64 (nx - 1 - n)) 17 rfl kj kj ?_
  refine Qaa (.bool true) 18 rfl kj (Qah (u := .bool (decide ((nx - 1 - n) > 64))) kj (congrArg Value.bool (decide_eq_true (by omega)))) ?_
  refine Qac ?_
  refine hK7 _ _ ?_
  refine cond_true kj ?_
  refine wp_seq_k fun K8 hK8 => ?_
  refine Qab ?_
  refine Qaa (.iface 60 (.int .i64 11)) 19 rfl kj kj ?_
  refine Qaa (.iface 60 (.int .i64 11)) 4 rfl kj kj ?_
  refine Qac ?_
  refine hK8 _ _ ?_
  refine wp_ret ?_
  repeat (first | with_reducible refine goR1 ?_ | with_reducible refine goR2 ?_)
  exact (show bodyPost _ _ _ .ret _ _ from ret1 (.iface 60 (.int .i64 11)) rfl (Qa0 kj) ⟨rfl, x1⟩)
set_option maxHeartbeats 4000000 in
theorem check_D (g : Nat) (nx : Int) (B : Nat) (n : Int) (hnx : 0 ≤ nx ∧ nx ≤ 4294967295) (hB : B < 18446744073709551616) (sk rk : List Int) (next : Nat) (hsk : sk.length = 32) (hrk : rk.length = 32) (w : World) (hg : w.heap[g]? = some (.cells (cat [#[.int .i64 nx], #[.int .u64 ((B : Nat) : Int)], ints .u8 (sk), ints .u8 (rk), #[.int .i64 ((next : Nat) : Int)]]) 136)) (hn : 0 ≤ n ∧ n < 4294967295) (hc : nx - 1 - n = 0) : Calls Tryd.prog 88 #[.pointer (some ⟨g, 0, none⟩), .int .i64 n] w (Ret w (.iface 60 (.int .i64 7))) := by
  refine enter 38 [(0, .pointer (some ⟨g, 0, none⟩)), (1, .int .i64 n)] Tryd.func88 rfl rfl kj rfl ?_
  refine wp_seq_k fun K2 hK2 => ?_
  refine Qab ?_
  refine Qaa (.nilIface) 4 rfl kj kj ?_
  refine Qac ?_
  refine hK2 _ _ ?_
  refine wp_seq_k fun K3 hK3 => ?_
  refine wp_seq_k fun K4 hK4 => ?_
  refine Qab ?_
  refine Qaa (.int .i64 n) 6 rfl kj kj ?_
  refine Qaa (.bool false) 7 rfl kj (Qah (u := .bool (decide (n < 0))) kj (congrArg Value.bool (decide_eq_false (by omega)))) ?_
  refine Qaa (.bool false) 8 rfl kj kj ?_
  refine Qaa (.int .i64 n) 9 rfl kj kj ?_
  refine Qaa (.bool false) 10 rfl kj (Qah (u := .bool (decide (n ≥ 4294967295))) kj (congrArg Value.bool (decide_eq_false (by omega)))) ?_
  refine Qaa (.bool false) 11 rfl kj kj ?_
  refine Qac ?_
  refine hK4 _ _ ?_
  refine cond_false kj ?_
  refine wp_skip ?_
  refine hK3 _ _ ?_
  refine wp_seq_k fun K5 hK5 => ?_
  refine Qab ?_
  refine Qaa (.pointer (some ⟨g, 0, none⟩)) 13 rfl kj kj ?_
  refine Qat (.int .i64 (nx - 1)) 85 #[.pointer (some ⟨g, 0, none⟩)] 14 rfl kj kj (highestC g nx B hnx hB sk rk next hsk hrk _ hg) fun W1 e1 => ?_
  have x1 : Ext w W1 := Ext.tr (Rely.Ext.refl w) e1
  refine Qaa (.int .i64 n) 15 rfl kj kj ?_
  refine Qaa (.int .i64 (nx - 1 - n)) 16 rfl kj (Qah (u := .int .i64 (IntKind.i64.wrap ((nx - 1) - n))) kj (congrArg (Value.int .i64) (i64_w _ (by omega)))) ?_
  refine Qaa (.int .i64 (nx - 1 - n)) 5 rfl kj kj ?_
  refine Qac ?_
  refine hK5 _ _ ?_
  refine wp_seq_k fun K6 hK6 => ?_
  refine wp_seq_k fun K7 hK7 => ?_
  refine Qab ?_
  refine Qaa (.int .i64 (nx - 1 - n)) 17 rfl kj kj ?_
  refine Qaa (.bool false) 18 rfl kj (Qah (u := .bool (decide ((nx - 1 - n) > 64))) kj (congrArg Value.bool (decide_eq_false (by omega)))) ?_
  refine Qac ?_
  refine hK7 _ _ ?_
  refine cond_false kj ?_
  refine wp_skip ?_
  refine hK6 _ _ ?_
  refine wp_seq_k fun K8 hK8 => ?_
  refine wp_seq_k fun K9 hK9 => ?_
  refine Qab ?_
  refine Qaa (.int .i64 (nx - 1 - n)) 20 rfl kj kj ?_
  refine Qaa (.bool true) 21 rfl kj (Qah (u := .bool (((nx - 1 - n) == 0))) kj (congrArg Value.bool (by simp; omega))) ?_
  refine Qaa (.bool true) 22 rfl kj kj ?_
  refine Qaz 23 rfl kj ?_
  refine Qaz 24 rfl kj ?_
  refine Qaz 25 rfl kj ?_
  refine Qaz 26 rfl kj ?_
  refine Qaz 27 rfl kj ?_
  refine Qaz 28 rfl kj ?_
  refine Qaz 29 rfl kj ?_
  refine Qaz 30 rfl kj ?_
  refine Qaz 31 rfl kj ?_
  refine Qaz 32 rfl kj ?_
  refine Qaz 33 rfl kj ?_
  refine Qaz 34 rfl kj ?_
  refine Qaz 35 rfl kj ?_
  refine Qaa (.bool true) 36 rfl kj kj ?_
  refine Qac ?_
  refine hK9 _ _ ?_
  refine cond_true kj ?_
  refine wp_seq_k fun K10 hK10 => ?_
  refine Qab ?_
  refine Qaa (.iface 60 (.int .i64 7)) 37 rfl kj kj ?_
  refine Qaa (.iface 60 (.int .i64 7)) 4 rfl kj kj ?_
  refine Qac ?_
  refine hK10 _ _ ?_
  refine wp_ret ?_
  repeat (first | with_reducible refine goR1 ?_ | with_reducible refine goR2 ?_)
  exact (show bodyPost _ _ _ .ret _ _ from ret1 (.iface 60 (.int .i64 7)) rfl (Qa0 kj) ⟨rfl, x1⟩)
set_option maxHeartbeats 4000000 in
theorem check_E (g : Nat) (nx : Int) (B : Nat) (n : Int) (hnx : 0 ≤ nx ∧ nx ≤ 4294967295) (hB : B < 18446744073709551616) (sk rk : List Int) (next : Nat) (hsk : sk.length = 32) (hrk : rk.length = 32) (w : World) (hg : w.heap[g]? = some (.cells (cat [#[.int .i64 nx], #[.int .u64 ((B : Nat) : Int)], ints .u8 (sk), ints .u8 (rk), #[.int .i64 ((next : Nat) : Int)]]) 136)) (hn : 0 ≤ n ∧ n < 4294967295) (j : Nat) (hj : nx - 1 - n - 1 = (j : Int)) (hj2 : j < 64) (hc : B / 2 ^ j % 2 = 1) : Calls Tryd.prog 88 #[.pointer (some ⟨g, 0, none⟩), .int .i64 n] w (Ret w (.iface 60 (.int .i64 7))) := by
  refine enter 38 [(0, .pointer (some ⟨g, 0, none⟩)), (1, .int .i64 n)] Tryd.func88 rfl rfl kj rfl ?_
  refine wp_seq_k fun K2 hK2 => ?_
  refine Qab ?_
  refine Qaa (.nilIface) 4 rfl kj kj ?_
  refine Qac ?_
  refine hK2 _ _ ?_
  refine wp_seq_k fun K3 hK3 => ?_
  refine wp_seq_k fun K4 hK4 => ?_
  refine Qab ?_
  refine Qaa (.int .i64 n) 6 rfl kj kj ?_
  refine Qaa (.bool false) 7 rfl kj (Qah (u := .bool (decide (n < 0))) kj (congrArg Value.bool (decide_eq_false (by omega)))) ?_
  refine Qaa (.bool false) 8 rfl kj kj ?_
  refine Qaa (.int .i64 n) 9 rfl kj kj ?_
  refine Qaa (.bool false) 10 rfl kj (Qah (u := .bool (decide (n ≥ 4294967295))) kj (congrArg Value.bool (decide_eq_false (by omega)))) ?_
  refine Qaa (.bool false) 11 rfl kj kj ?_
  refine Qac ?_
  refine hK4 _ _ ?_
  refine cond_false kj ?_
  refine wp_skip ?_
  refine hK3 _ _ ?_
  refine wp_seq_k fun K5 hK5 => ?_
  refine Qab ?_
  refine Qaa (.pointer (some ⟨g, 0, none⟩)) 13 rfl kj kj ?_
  refine Qat (.int .i64 (nx - 1)) 85 #[.pointer (some ⟨g, 0, none⟩)] 14 rfl kj kj (highestC g nx B hnx hB sk rk next hsk hrk _ hg) fun W1 e1 => ?_
  have x1 : Ext w W1 := Ext.tr (Rely.Ext.refl w) e1
  refine Qaa (.int .i64 n) 15 rfl kj kj ?_
  refine Qaa (.int .i64 (nx - 1 - n)) 16 rfl kj (Qah (u := .int .i64 (IntKind.i64.wrap ((nx - 1) - n))) kj (congrArg (Value.int .i64) (i64_w _ (by omega)))) ?_
  refine Qaa (.int .i64 (nx - 1 - n)) 5 rfl kj kj ?_
  refine Qac ?_
  refine hK5 _ _ ?_
  refine wp_seq_k fun K6 hK6 => ?_
  refine wp_seq_k fun K7 hK7 => ?_
  refine Qab ?_
  refine Qaa (.int .i64 (nx - 1 - n)) 17 rfl kj kj ?_
  refine Qaa (.bool false) 18 rfl kj (Qah (u := .bool (decide ((nx - 1 - n) > 64))) kj (congrArg Value.bool (decide_eq_false (by omega)))) ?_
  refine Qac ?_
  refine hK7 _ _ ?_
  refine cond_false kj ?_
  refine wp_skip ?_
  refine hK6 _ _ ?_
  refine wp_seq_k fun K8 hK8 => ?_
  refine wp_seq_k fun K9 hK9 => ?_
  refine Qab ?_
  refine Qaa (.int .i64 (nx - 1 - n)) 20 rfl kj kj ?_
  refine Qaa (.bool false) 21 rfl kj (Qah (u := .bool (((nx - 1 - n) == 0))) kj (congrArg Value.bool (by simp; omega))) ?_
  refine Qaa (.bool false) 22 rfl kj kj ?_
  refine Qaa (.int .i64 (nx - 1 - n)) 23 rfl kj kj ?_
  refine Qaa (.bool true) 24 rfl kj (Qah (u := .bool (decide ((nx - 1 - n) > 0))) kj (congrArg Value.bool (decide_eq_true (by omega)))) ?_
  refine Qaa (.bool true) 25 rfl kj kj ?_
  refine Qaa (.pointer (some ⟨g, 0, none⟩)) 26 rfl kj kj ?_
  refine Qaa (.pointer (some ⟨g, 0, none⟩)) 27 rfl kj kj ?_
  refine Qaa (.pointer (some ⟨g, 1, none⟩)) 28 rfl kj kj ?_
  have r1_1 := (Qad hg e1)
  refine Qaa (.int .u64 ((B : Nat) : Int)) 29 rfl kj (Qae 129 _ g 1 136 _ (.int .u64 ((B : Nat) : Int)) _ r1_1 rfl kj (QaB [#[.int .i64 nx]] [#[.int .u64 ((B : Nat) : Int)]] [ints .u8 (sk), ints .u8 (rk), #[.int .i64 ((next : Nat) : Int)]] 1 kj 0 _ rfl) kj) ?_
  refine Qaa (.int .i64 (nx - 1 - n)) 30 rfl kj kj ?_
  refine Qaa (.int .i64 (((j : Nat) : Int))) 31 rfl kj (Qah (u := .int .i64 (IntKind.i64.wrap ((nx - 1 - n) - 1))) kj (congrArg (Value.int .i64) (by rw [hj]; exact i64_w _ (by omega)))) ?_
  refine Qaa (.int .u64 (((B / 2 ^ j : Nat) : Int))) 32 rfl kj (QaF .shr _ _ _ _ .u64 .i64 _ _ _ rfl kj kj (Qc5 _ _ _ _ _ _ (by omega) (shrB B j hj2))) ?_
  refine Qaa (.int .u64 (((B / 2 ^ j % 2 : Nat) : Int))) 33 rfl kj (Qah (u := .int .u64 (bits .and .u64 (((B / 2 ^ j : Nat) : Int)) (1))) kj (congrArg (Value.int .u64) (andB _ (Nat.lt_of_le_of_lt (Nat.div_le_self _ _) hB)))) ?_
  refine Qaa (.bool true) 34 rfl kj (Qah (u := .bool ((((B / 2 ^ j % 2 : Nat) : Int) == 1))) kj (congrArg Value.bool (by rw [hc]; rfl))) ?_
  refine Qaa (.bool true) 35 rfl kj kj ?_
  refine Qaa (.bool true) 36 rfl kj kj ?_
  refine Qac ?_
  refine hK9 _ _ ?_
  refine cond_true kj ?_
  refine wp_seq_k fun K10 hK10 => ?_
  refine Qab ?_
  refine Qaa (.iface 60 (.int .i64 7)) 37 rfl kj kj ?_
  refine Qaa (.iface 60 (.int .i64 7)) 4 rfl kj kj ?_
  refine Qac ?_
  refine hK10 _ _ ?_
  refine wp_ret ?_
  repeat (first | with_reducible refine goR1 ?_ | with_reducible refine goR2 ?_)
  exact (show bodyPost _ _ _ .ret _ _ from ret1 (.iface 60 (.int .i64 7)) rfl (Qa0 kj) ⟨rfl, x1⟩)
set_option maxHeartbeats 4000000 in
theorem check_F (g : Nat) (nx : Int) (B : Nat) (n : Int) (hnx : 0 ≤ nx ∧ nx ≤ 4294967295) (hB : B < 18446744073709551616) (sk rk : List Int) (next : Nat) (hsk : sk.length = 32) (hrk : rk.length = 32) (w : World) (hg : w.heap[g]? = some (.cells (cat [#[.int .i64 nx], #[.int .u64 ((B : Nat) : Int)], ints .u8 (sk), ints .u8 (rk), #[.int .i64 ((next : Nat) : Int)]]) 136)) (hn : 0 ≤ n ∧ n < 4294967295) (j : Nat) (hj : nx - 1 - n - 1 = (j : Int)) (hj2 : j < 64) (hc : B / 2 ^ j % 2 = 0) : Calls Tryd.prog 88 #[.pointer (some ⟨g, 0, none⟩), .int .i64 n] w (Ret w (.nilIface)) := by
  refine enter 38 [(0, .pointer (some ⟨g, 0, none⟩)), (1, .int .i64 n)] Tryd.func88 rfl rfl kj rfl ?_
  refine wp_seq_k fun K2 hK2 => ?_
  refine Qab ?_
  refine Qaa (.nilIface) 4 rfl kj kj ?_
  refine Qac ?_
  refine hK2 _ _ ?_
  refine wp_seq_k fun K3 hK3 => ?_
  refine wp_seq_k fun K4 hK4 => ?_
  refine Qab ?_
  refine Qaa (.int .i64 n) 6 rfl kj kj ?_
  refine Qaa (.bool false) 7 rfl kj (Qah (u := .bool (decide (n < 0))) kj (congrArg Value.bool (decide_eq_false (by omega)))) ?_
  refine Qaa (.bool false) 8 rfl kj kj ?_
  refine Qaa (.int .i64 n) 9 rfl kj kj ?_
  refine Qaa (.bool false) 10 rfl kj (Qah (u := .bool (decide (n ≥ 4294967295))) kj (congrArg Value.bool (decide_eq_false (by omega)))) ?_
  refine Qaa (.bool false) 11 rfl kj kj ?_
  refine Qac ?_
  refine hK4 _ _ ?_
  refine cond_false kj ?_
  refine wp_skip ?_
  refine hK3 _ _ ?_
  refine wp_seq_k fun K5 hK5 => ?_
  refine Qab ?_
  refine Qaa (.pointer (some ⟨g, 0, none⟩)) 13 rfl kj kj ?_
  refine Qat (.int .i64 (nx - 1)) 85 #[.pointer (some ⟨g, 0, none⟩)] 14 rfl kj kj (highestC g nx B hnx hB sk rk next hsk hrk _ hg) fun W1 e1 => ?_
  have x1 : Ext w W1 := Ext.tr (Rely.Ext.refl w) e1
  refine Qaa (.int .i64 n) 15 rfl kj kj ?_
  refine Qaa (.int .i64 (nx - 1 - n)) 16 rfl kj (Qah (u := .int .i64 (IntKind.i64.wrap ((nx - 1) - n))) kj (congrArg (Value.int .i64) (i64_w _ (by omega)))) ?_
  refine Qaa (.int .i64 (nx - 1 - n)) 5 rfl kj kj ?_
  refine Qac ?_
  refine hK5 _ _ ?_
  refine wp_seq_k fun K6 hK6 => ?_
  refine wp_seq_k fun K7 hK7 => ?_
  refine Qab ?_
  refine Qaa (.int .i64 (nx - 1 - n)) 17 rfl kj kj ?_
  refine Qaa (.bool false) 18 rfl kj (Qah (u := .bool (decide ((nx - 1 - n) > 64))) kj (congrArg Value.bool (decide_eq_false (by omega)))) ?_
  refine Qac ?_
  refine hK7 _ _ ?_
  refine cond_false kj ?_
  refine wp_skip ?_
  refine hK6 _ _ ?_
  refine wp_seq_k fun K8 hK8 => ?_
  refine wp_seq_k fun K9 hK9 => ?_
  refine Qab ?_
  refine Qaa (.int .i64 (nx - 1 - n)) 20 rfl kj kj ?_
  refine Qaa (.bool false) 21 rfl kj (Qah (u := .bool (((nx - 1 - n) == 0))) kj (congrArg Value.bool (by simp; omega))) ?_
  refine Qaa (.bool false) 22 rfl kj kj ?_
  refine Qaa (.int .i64 (nx - 1 - n)) 23 rfl kj kj ?_
  refine Qaa (.bool true) 24 rfl kj (Qah (u := .bool (decide ((nx - 1 - n) > 0))) kj (congrArg Value.bool (decide_eq_true (by omega)))) ?_
  refine Qaa (.bool true) 25 rfl kj kj ?_
  refine Qaa (.pointer (some ⟨g, 0, none⟩)) 26 rfl kj kj ?_
  refine Qaa (.pointer (some ⟨g, 0, none⟩)) 27 rfl kj kj ?_
  refine Qaa (.pointer (some ⟨g, 1, none⟩)) 28 rfl kj kj ?_
  have r1_1 := (Qad hg e1)
  refine Qaa (.int .u64 ((B : Nat) : Int)) 29 rfl kj (Qae 129 _ g 1 136 _ (.int .u64 ((B : Nat) : Int)) _ r1_1 rfl kj (QaB [#[.int .i64 nx]] [#[.int .u64 ((B : Nat) : Int)]] [ints .u8 (sk), ints .u8 (rk), #[.int .i64 ((next : Nat) : Int)]] 1 kj 0 _ rfl) kj) ?_
  refine Qaa (.int .i64 (nx - 1 - n)) 30 rfl kj kj ?_
  refine Qaa (.int .i64 (((j : Nat) : Int))) 31 rfl kj (Qah (u := .int .i64 (IntKind.i64.wrap ((nx - 1 - n) - 1))) kj (congrArg (Value.int .i64) (by rw [hj]; exact i64_w _ (by omega)))) ?_
  refine Qaa (.int .u64 (((B / 2 ^ j : Nat) : Int))) 32 rfl kj (QaF .shr _ _ _ _ .u64 .i64 _ _ _ rfl kj kj (Qc5 _ _ _ _ _ _ (by omega) (shrB B j hj2))) ?_
  refine Qaa (.int .u64 (((B / 2 ^ j % 2 : Nat) : Int))) 33 rfl kj (Qah (u := .int .u64 (bits .and .u64 (((B / 2 ^ j : Nat) : Int)) (1))) kj (congrArg (Value.int .u64) (andB _ (Nat.lt_of_le_of_lt (Nat.div_le_self _ _) hB)))) ?_
  refine Qaa (.bool false) 34 rfl kj (Qah (u := .bool ((((B / 2 ^ j % 2 : Nat) : Int) == 1))) kj (congrArg Value.bool (by rw [hc]; rfl))) ?_
  refine Qaa (.bool false) 35 rfl kj kj ?_
  refine Qaa (.bool false) 36 rfl kj kj ?_
  refine Qac ?_
  refine hK9 _ _ ?_
  refine cond_false kj ?_
  refine wp_skip ?_
  refine hK8 _ _ ?_
  refine wp_seq_k fun K10 hK10 => ?_
  refine Qab ?_
  refine Qaa (.nilIface) 4 rfl kj kj ?_
  refine Qac ?_
  refine hK10 _ _ ?_
  refine wp_ret ?_
  repeat (first | with_reducible refine goR1 ?_ | with_reducible refine goR2 ?_)
  exact (show bodyPost _ _ _ .ret _ _ from ret1 (.nilIface) rfl (Qa0 kj) ⟨rfl, x1⟩)
set_option maxHeartbeats 4000000 in
theorem check_G (g : Nat) (nx : Int) (B : Nat) (n : Int) (hnx : 0 ≤ nx ∧ nx ≤ 4294967295) (hB : B < 18446744073709551616) (sk rk : List Int) (next : Nat) (hsk : sk.length = 32) (hrk : rk.length = 32) (w : World) (hg : w.heap[g]? = some (.cells (cat [#[.int .i64 nx], #[.int .u64 ((B : Nat) : Int)], ints .u8 (sk), ints .u8 (rk), #[.int .i64 ((next : Nat) : Int)]]) 136)) (hn : 0 ≤ n ∧ n < 4294967295) (hc : nx - 1 - n < 0) : Calls Tryd.prog 88 #[.pointer (some ⟨g, 0, none⟩), .int .i64 n] w (Ret w (.nilIface)) := by
  refine enter 38 [(0, .pointer (some ⟨g, 0, none⟩)), (1, .int .i64 n)] Tryd.func88 rfl rfl kj rfl ?_
  refine wp_seq_k fun K2 hK2 => ?_
  refine Qab ?_
  refine Qaa (.nilIface) 4 rfl kj kj ?_
  refine Qac ?_
  refine hK2 _ _ ?_
  refine wp_seq_k fun K3 hK3 => ?_
  refine wp_seq_k fun K4 hK4 => ?_
  refine Qab ?_
  refine Qaa (.int .i64 n) 6 rfl kj kj ?_
  refine Qaa (.bool false) 7 rfl kj (Qah (u := .bool (decide (n < 0))) kj (congrArg Value.bool (decide_eq_false (by omega)))) ?_
  refine Qaa (.bool false) 8 rfl kj kj ?_
  refine Qaa (.int .i64 n) 9 rfl kj kj ?_
  refine Qaa (.bool false) 10 rfl kj (Qah (u := .bool (decide (n ≥ 4294967295))) kj (congrArg Value.bool (decide_eq_false (by omega)))) ?_
  refine Qaa (.bool false) 11 rfl kj kj ?_
  refine Qac ?_
  refine hK4 _ _ ?_
  refine cond_false kj ?_
  refine wp_skip ?_
  refine hK3 _ _ ?_
  refine wp_seq_k fun K5 hK5 => ?_
  refine Qab ?_
  refine Qaa (.pointer (some ⟨g, 0, none⟩)) 13 rfl kj kj ?_
  refine Qat (.int .i64 (nx - 1)) 85 #[.pointer (some ⟨g, 0, none⟩)] 14 rfl kj kj (highestC g nx B hnx hB sk rk next hsk hrk _ hg) fun W1 e1 => ?_
  have x1 : Ext w W1 := Ext.tr (Rely.Ext.refl w) e1
  refine Qaa (.int .i64 n) 15 rfl kj kj ?_
  refine Qaa (.int .i64 (nx - 1 - n)) 16 rfl kj (Qah (u := .int .i64 (IntKind.i64.wrap ((nx - 1) - n))) kj (congrArg (Value.int .i64) (i64_w _ (by omega)))) ?_
  refine Qaa (.int .i64 (nx - 1 - n)) 5 rfl kj kj ?_
  refine Qac ?_
  refine hK5 _ _ ?_
  refine wp_seq_k fun K6 hK6 => ?_
  refine wp_seq_k fun K7 hK7 => ?_
  refine Qab ?_
  refine Qaa (.int .i64 (nx - 1 - n)) 17 rfl kj kj ?_
  refine Qaa (.bool false) 18 rfl kj (Qah (u := .bool (decide ((nx - 1 - n) > 64))) kj (congrArg Value.bool (decide_eq_false (by omega)))) ?_
  refine Qac ?_
  refine hK7 _ _ ?_
  refine cond_false kj ?_
  refine wp_skip ?_
  refine hK6 _ _ ?_
  refine wp_seq_k fun K8 hK8 => ?_
  refine wp_seq_k fun K9 hK9 => ?_
  refine Qab ?_
  refine Qaa (.int .i64 (nx - 1 - n)) 20 rfl kj kj ?_
  refine Qaa (.bool false) 21 rfl kj (Qah (u := .bool (((nx - 1 - n) == 0))) kj (congrArg Value.bool (by simp; omega))) ?_
  refine Qaa (.bool false) 22 rfl kj kj ?_
  refine Qaa (.int .i64 (nx - 1 - n)) 23 rfl kj kj ?_
  refine Qaa (.bool false) 24 rfl kj (Qah (u := .bool (decide ((nx - 1 - n) > 0))) kj (congrArg Value.bool (decide_eq_false (by omega)))) ?_
  refine Qaa (.bool false) 25 rfl kj kj ?_
  refine Qaz 26 rfl kj ?_
  refine Qaz 27 rfl kj ?_
  refine Qaz 28 rfl kj ?_
  refine Qaz 29 rfl kj ?_
  refine Qaz 30 rfl kj ?_
  refine Qaz 31 rfl kj ?_
  refine Qaz 32 rfl kj ?_
  refine Qaz 33 rfl kj ?_
  refine Qaz 34 rfl kj ?_
  refine Qaa (.bool false) 35 rfl kj kj ?_
  refine Qaa (.bool false) 36 rfl kj kj ?_
  refine Qac ?_
  refine hK9 _ _ ?_
  refine cond_false kj ?_
  refine wp_skip ?_
  refine hK8 _ _ ?_
  refine wp_seq_k fun K10 hK10 => ?_
  refine Qab ?_
  refine Qaa (.nilIface) 4 rfl kj kj ?_
  refine Qac ?_
  refine hK10 _ _ ?_
  refine wp_ret ?_
  repeat (first | with_reducible refine goR1 ?_ | with_reducible refine goR2 ?_)
  exact (show bodyPost _ _ _ .ret _ _ from ret1 (.nilIface) rfl (Qa0 kj) ⟨rfl, x1⟩)
theorem checkC (g : Nat) (nx : Int) (B : Nat) (n : Int) (hnx : 0 ≤ nx ∧ nx ≤ 4294967295) (hB : B < 18446744073709551616) (sk rk : List Int) (next : Nat) (hsk : sk.length = 32) (hrk : rk.length = 32) (w : World) (hg : w.heap[g]? = some (.cells (cat [#[.int .i64 nx], #[.int .u64 ((B : Nat) : Int)], ints .u8 (sk), ints .u8 (rk), #[.int .i64 ((next : Nat) : Int)]]) 136)) : Calls Tryd.prog 88 #[.pointer (some ⟨g, 0, none⟩), .int .i64 n] w (Ret w (errV (chkW nx B n))) := by
  unfold chkW
  by_cases h1 : n < 0
  · rw [if_pos (.inl h1)]; exact check_A g nx B n hnx hB sk rk next hsk hrk w hg h1
  by_cases h2 : 4294967295 ≤ n
  · rw [if_pos (.inr h2)]; exact check_B g nx B n hnx hB sk rk next hsk hrk w hg h2
  rw [if_neg (by omega)]
  have hn : 0 ≤ n ∧ n < 4294967295 := by omega
  by_cases h3 : 64 < nx - 1 - n
  · rw [if_pos h3]; exact check_C g nx B n hnx hB sk rk next hsk hrk w hg hn h3
  rw [if_neg h3]
  by_cases h4 : nx - 1 - n = 0
  · rw [if_pos (.inl h4)]; exact check_D g nx B n hnx hB sk rk next hsk hrk w hg hn h4
  by_cases h5 : 0 < nx - 1 - n
  · obtain ⟨j, hj⟩ := Int.eq_ofNat_of_zero_le (show 0 ≤ nx - 1 - n - 1 by omega)
    have hj2 : j < 64 := by omega
    rw [hj, Int.toNat_natCast]
    have hm : B / 2 ^ j % 2 < 2 := Nat.mod_lt _ (by decide)
    by_cases h6 : B / 2 ^ j % 2 = 1
    · rw [if_pos (.inr ⟨h5, h6⟩)]; exact check_E g nx B n hnx hB sk rk next hsk hrk w hg hn j hj hj2 h6
    · rw [if_neg (by rintro (h | h); exact h4 h; exact h6 h.2)]; exact check_F g nx B n hnx hB sk rk next hsk hrk w hg hn j hj hj2 (by omega)
  · rw [if_neg (by rintro (h | h); exact h4 h; exact h5 h.1)]; exact check_G g nx B n hnx hB sk rk next hsk hrk w hg hn (by omega)
theorem errV_ne {e : Int} (h : e ≠ 0) : errV e = .iface 60 (.int .i64 e) := by unfold errV; rw [if_neg h]
theorem errV_nil {e : Int} (h : e = 0) : errV e = .nilIface := by unfold errV; rw [if_pos h]
theorem i64_neg (a b : Int) (h : -5000000000 ≤ a ∧ a ≤ 5000000000) (e : 0 - a = b) : IntKind.i64.wrap (0 - a) = b := by rw [e]; exact i64_w _ (by omega)
theorem pow_lt (j : Nat) (h : j < 64) : 2 ^ j < 18446744073709551616 := Nat.pow_lt_pow_right (by decide) h
theorem shl1 (j : Nat) (h : j < 64) : IntKind.u64.wrap (1 * 2 ^ min ((j : Nat) : Int).toNat IntKind.u64.bits) = ((2 ^ j : Nat) : Int) := by
  have := shlB 1 j
  rw [Nat.one_mul, Nat.mod_eq_of_lt (pow_lt j h)] at this
  exact this
set_option maxHeartbeats 4000000 in
theorem mark_F (g : Nat) (nx : Int) (B : Nat) (n : Int) (hnx : 0 ≤ nx ∧ nx ≤ 4294967295) (hB : B < 18446744073709551616) (sk rk : List Int) (next : Nat) (hsk : sk.length = 32) (hrk : rk.length = 32) (w : World) (hg : w.heap[g]? = some (.cells (cat [#[.int .i64 nx], #[.int .u64 ((B : Nat) : Int)], ints .u8 (sk), ints .u8 (rk), #[.int .i64 ((next : Nat) : Int)]]) 136)) (hc : chkW nx B n = 0) (j : Nat) (hj : nx - 1 - n - 1 = (j : Int)) (hj2 : j < 64) : Calls Tryd.prog 89 #[.pointer (some ⟨g, 0, none⟩), .int .i64 n] w (fun e w' => e = .returned .nilIface ∧ ExtB g w w' ∧ w'.heap[g]? = some (.cells (cat [#[.int .i64 nx], #[.int .u64 ((B ||| 2 ^ j : Nat) : Int)], ints .u8 (sk), ints .u8 (rk), #[.int .i64 ((next : Nat) : Int)]]) 136)) := by
  refine enter 48 [(0, .pointer (some ⟨g, 0, none⟩)), (1, .int .i64 n)] Tryd.func89 rfl rfl kj rfl ?_
  refine wp_seq_k fun K2 hK2 => ?_
  refine Qab ?_
  refine Qaa (.nilIface) 4 rfl kj kj ?_
  refine Qac ?_
  refine hK2 _ _ ?_
  refine wp_seq_k fun K3 hK3 => ?_
  refine wp_seq_k fun K4 hK4 => ?_
  refine Qab ?_
  refine Qaa (.pointer (some ⟨g, 0, none⟩)) 7 rfl kj kj ?_
  refine Qaa (.int .i64 n) 8 rfl kj kj ?_
  refine Qat (.nilIface) 88 #[.pointer (some ⟨g, 0, none⟩), .int .i64 n] 9 rfl kj kj (errV_nil hc ▸ checkC g nx B n hnx hB sk rk next hsk hrk _ hg) fun W1 e1 => ?_
  have x1 : ExtB g w W1 := ExtB.ext (ExtB.refl g w) e1
  refine Qaa (.nilIface) 5 rfl kj kj ?_
  refine Qac ?_
  refine hK4 _ _ ?_
  refine wp_seq_k fun K5 hK5 => ?_
  refine Qab ?_
  refine Qaa (.nilIface) 10 rfl kj kj ?_
  refine Qaa (.bool false) 11 rfl kj kj ?_
  refine Qac ?_
  refine hK5 _ _ ?_
  refine cond_false kj ?_
  refine wp_skip ?_
  refine hK3 _ _ ?_
  refine wp_seq_k fun K6 hK6 => ?_
  refine Qab ?_
  refine Qaa (.int .i64 n) 13 rfl kj kj ?_
  refine Qaa (.pointer (some ⟨g, 0, none⟩)) 14 rfl kj kj ?_
  have r1_1 := (Qad hg e1)
  refine Qat (.int .i64 (nx - 1)) 85 #[.pointer (some ⟨g, 0, none⟩)] 15 rfl kj kj (highestC g nx B hnx hB sk rk next hsk hrk _ r1_1) fun W2 e2 => ?_
  have x2 : ExtB g w W2 := ExtB.ext x1 e2
  refine Qaa (.int .i64 (n - (nx - 1))) 16 rfl kj (Qah (u := .int .i64 (IntKind.i64.wrap (n - (nx - 1)))) kj (congrArg (Value.int .i64) (i64_w _ (by omega)))) ?_
  refine Qaa (.int .i64 (n - (nx - 1))) 6 rfl kj kj ?_
  refine Qac ?_
  refine hK6 _ _ ?_
  refine wp_seq_k fun K7 hK7 => ?_
  refine wp_seq_k fun K8 hK8 => ?_
  refine Qab ?_
  refine Qaa (.int .i64 (n - (nx - 1))) 17 rfl kj kj ?_
  refine Qaa (.bool true) 18 rfl kj (Qah (u := .bool (decide ((n - (nx - 1)) < 0))) kj (congrArg Value.bool (decide_eq_true (by omega)))) ?_
  refine Qac ?_
  refine hK8 _ _ ?_
  refine cond_true kj ?_
  refine wp_seq_k fun K9 hK9 => ?_
  refine Qbg 11 [⟨none, [(0, none)]⟩, ⟨none, [(19, some 0)]⟩, ⟨none, [(20, some 1)]⟩, ⟨none, [(21, some 2)]⟩, ⟨none, [(6, none)]⟩, ⟨none, [(23, some 4)]⟩, ⟨none, [(24, some 5)]⟩, ⟨none, [(25, some 6)]⟩, ⟨none, [(22, some 3), (26, some 7)]⟩, ⟨none, [(19, some 0)]⟩, ⟨none, [(28, some 9)]⟩] kj kj fun F hF => ?_
  refine Qau (.pointer (some ⟨g, 0, none⟩)) kj kj (fun W => by kernel_rfl) ?_
  refine Qau (.pointer (some ⟨g, 0, none⟩)) kj kj (fun W => by kernel_rfl) ?_
  refine Qau (.pointer (some ⟨g, 1, none⟩)) kj kj (fun W => by kernel_rfl) ?_
  have r1_2 := (Qad r1_1 e2)
  refine Qba (.int .u64 ((B : Nat) : Int)) kj kj (fun W hR => (Qae 129 _ g 1 136 _ (.int .u64 ((B : Nat) : Int)) _ (Qad (Qad r1_2 (Qai _)) hR) rfl kj (QaB [#[.int .i64 nx]] [#[.int .u64 ((B : Nat) : Int)]] [ints .u8 (sk), ints .u8 (rk), #[.int .i64 ((next : Nat) : Int)]] 1 kj 0 _ rfl) kj)) ?_
  refine Qau (.int .i64 (n - (nx - 1))) kj kj (fun W => by kernel_rfl) ?_
  refine Qau (.int .i64 (nx - 1 - n)) kj kj (fun W => (Qah (u := .int .i64 (IntKind.i64.wrap (0 - (n - (nx - 1))))) kj (congrArg (Value.int .i64) (i64_neg _ _ (by omega) (by omega))))) ?_
  refine Qau (.int .i64 (((j : Nat) : Int))) kj kj (fun W => (Qah (u := .int .i64 (IntKind.i64.wrap ((nx - 1 - n) - 1))) kj (congrArg (Value.int .i64) (by rw [hj]; exact i64_w _ (by omega))))) ?_
  refine Qau (.int .u64 (((2 ^ j : Nat) : Int))) kj kj (fun W => (QaF .shl _ _ _ _ .u64 .i64 _ _ _ rfl kj kj (Qcj _ _ _ _ _ _ (by omega) (shl1 j hj2)))) ?_
  refine Qau (.int .u64 (((B ||| 2 ^ j : Nat) : Int))) kj kj (fun W => (Qah (u := .int .u64 (bits .or .u64 (((B : Nat) : Int)) (((2 ^ j : Nat) : Int)))) kj (congrArg (Value.int .u64) (orB _ _ hB (pow_lt j hj2))))) ?_
  refine Qau (.pointer (some ⟨g, 0, none⟩)) kj kj (fun W => by kernel_rfl) ?_
  refine Qau (.pointer (some ⟨g, 1, none⟩)) kj kj (fun W => by kernel_rfl) ?_
  refine Qbn (hF _ kj fun W3 e3 => ?_)
  simp only [ups, up, Kn.val, List.take_succ_cons, List.take_zero, List.drop_succ_cons, List.drop_zero, List.nil_append, List.cons_append]
  clear hF
  have x3 : ExtB g w W3 := ExtB.ext x2 e3
  have r1_3 := (Qad r1_2 e3)
  refine Qaj g _ (cat [#[.int .i64 nx], #[.int .u64 (((B ||| 2 ^ j : Nat) : Int))], ints .u8 (sk), ints .u8 (rk), #[.int .i64 ((next : Nat) : Int)]]) 136 r1_3 rfl kj (run_storeQ 129 _ _ g 1 136 [#[.int .i64 nx]] [ints .u8 (sk), ints .u8 (rk), #[.int .i64 ((next : Nat) : Int)]] _ (.int .u64 (((B ||| 2 ^ j : Nat) : Int))) r1_3 rfl kj kj kj kj rfl rfl) fun W4 p4 r1_4 => ?_
  have x4 : ExtB g w W4 := ExtB.puts x3 p4
  refine Qac ?_
  refine hK9 _ _ ?_
  refine wp_seq_k fun K10 hK10 => ?_
  refine Qab ?_
  refine Qaa (.nilIface) 4 rfl kj kj ?_
  refine Qac ?_
  refine hK10 _ _ ?_
  refine wp_ret ?_
  repeat (first | with_reducible refine goR1 ?_ | with_reducible refine goR2 ?_)
  exact (show bodyPost _ _ _ .ret _ _ from ret1 (.nilIface) rfl (Qa0 kj) ⟨rfl, x4, r1_4⟩)
set_option maxHeartbeats 4000000 in
theorem mark_G (g : Nat) (nx : Int) (B : Nat) (n : Int) (hnx : 0 ≤ nx ∧ nx ≤ 4294967295) (hB : B < 18446744073709551616) (sk rk : List Int) (next : Nat) (hsk : sk.length = 32) (hrk : rk.length = 32) (w : World) (hg : w.heap[g]? = some (.cells (cat [#[.int .i64 nx], #[.int .u64 ((B : Nat) : Int)], ints .u8 (sk), ints .u8 (rk), #[.int .i64 ((next : Nat) : Int)]]) 136)) (hc : chkW nx B n = 0) (hn : 0 ≤ n ∧ n < 4294967295) (a : Nat) (ha : n - (nx - 1) = (a : Int)) (ha1 : 1 ≤ a) : Calls Tryd.prog 89 #[.pointer (some ⟨g, 0, none⟩), .int .i64 n] w (fun e w' => e = .returned .nilIface ∧ ExtB g w w' ∧ w'.heap[g]? = some (.cells (cat [#[.int .i64 (n + 1)], #[.int .u64 ((B * 2 ^ a % 18446744073709551616 ||| 1 * 2 ^ (a - 1) % 18446744073709551616 : Nat) : Int)], ints .u8 (sk), ints .u8 (rk), #[.int .i64 ((next : Nat) : Int)]]) 136)) := by
  refine enter 48 [(0, .pointer (some ⟨g, 0, none⟩)), (1, .int .i64 n)] Tryd.func89 rfl rfl kj rfl ?_
  refine wp_seq_k fun K2 hK2 => ?_
  refine Qab ?_
  refine Qaa (.nilIface) 4 rfl kj kj ?_
  refine Qac ?_
  refine hK2 _ _ ?_
  refine wp_seq_k fun K3 hK3 => ?_
  refine wp_seq_k fun K4 hK4 => ?_
  refine Qab ?_
  refine Qaa (.pointer (some ⟨g, 0, none⟩)) 7 rfl kj kj ?_
  refine Qaa (.int .i64 n) 8 rfl kj kj ?_
  refine Qat (.nilIface) 88 #[.pointer (some ⟨g, 0, none⟩), .int .i64 n] 9 rfl kj kj (errV_nil hc ▸ checkC g nx B n hnx hB sk rk next hsk hrk _ hg) fun W1 e1 => ?_
  have x1 : ExtB g w W1 := ExtB.ext (ExtB.refl g w) e1
  refine Qaa (.nilIface) 5 rfl kj kj ?_
  refine Qac ?_
  refine hK4 _ _ ?_
  refine wp_seq_k fun K5 hK5 => ?_
  refine Qab ?_
  refine Qaa (.nilIface) 10 rfl kj kj ?_
  refine Qaa (.bool false) 11 rfl kj kj ?_
  refine Qac ?_
  refine hK5 _ _ ?_
  refine cond_false kj ?_
  refine wp_skip ?_
  refine hK3 _ _ ?_
  refine wp_seq_k fun K6 hK6 => ?_
  refine Qab ?_
  refine Qaa (.int .i64 n) 13 rfl kj kj ?_
  refine Qaa (.pointer (some ⟨g, 0, none⟩)) 14 rfl kj kj ?_
  have r1_1 := (Qad hg e1)
  refine Qat (.int .i64 (nx - 1)) 85 #[.pointer (some ⟨g, 0, none⟩)] 15 rfl kj kj (highestC g nx B hnx hB sk rk next hsk hrk _ r1_1) fun W2 e2 => ?_
  have x2 : ExtB g w W2 := ExtB.ext x1 e2
  refine Qaa (.int .i64 (((a : Nat) : Int))) 16 rfl kj (Qah (u := .int .i64 (IntKind.i64.wrap (n - (nx - 1)))) kj (congrArg (Value.int .i64) (by rw [ha]; exact i64_w _ (by omega)))) ?_
  refine Qaa (.int .i64 (((a : Nat) : Int))) 6 rfl kj kj ?_
  refine Qac ?_
  refine hK6 _ _ ?_
  refine wp_seq_k fun K7 hK7 => ?_
  refine wp_seq_k fun K8 hK8 => ?_
  refine Qab ?_
  refine Qaa (.int .i64 (((a : Nat) : Int))) 17 rfl kj kj ?_
  refine Qaa (.bool false) 18 rfl kj (Qah (u := .bool (decide (((a : Nat) : Int) < 0))) kj (congrArg Value.bool (decide_eq_false (by omega)))) ?_
  refine Qac ?_
  refine hK8 _ _ ?_
  refine cond_false kj ?_
  refine wp_skip ?_
  refine hK7 _ _ ?_
  refine wp_seq_k fun K9 hK9 => ?_
  refine Qbg 13 [⟨none, [(0, none)]⟩, ⟨none, [(0, none)]⟩, ⟨none, [(31, some 1)]⟩, ⟨none, [(32, some 2)]⟩, ⟨none, [(33, some 3)]⟩, ⟨none, [(6, none)]⟩, ⟨none, [(34, some 4), (35, some 5)]⟩, ⟨none, [(6, none)]⟩, ⟨none, [(37, some 7)]⟩, ⟨none, [(38, some 8)]⟩, ⟨none, [(36, some 6), (39, some 9)]⟩, ⟨none, [(30, some 0)]⟩, ⟨none, [(41, some 11)]⟩] kj kj fun F hF => ?_
  refine Qau (.pointer (some ⟨g, 0, none⟩)) kj kj (fun W => by kernel_rfl) ?_
  refine Qau (.pointer (some ⟨g, 0, none⟩)) kj kj (fun W => by kernel_rfl) ?_
  refine Qau (.pointer (some ⟨g, 0, none⟩)) kj kj (fun W => by kernel_rfl) ?_
  refine Qau (.pointer (some ⟨g, 1, none⟩)) kj kj (fun W => by kernel_rfl) ?_
  have r1_2 := (Qad r1_1 e2)
  refine Qba (.int .u64 ((B : Nat) : Int)) kj kj (fun W hR => (Qae 129 _ g 1 136 _ (.int .u64 ((B : Nat) : Int)) _ (Qad (Qad r1_2 (Qai _)) hR) rfl kj (QaB [#[.int .i64 nx]] [#[.int .u64 ((B : Nat) : Int)]] [ints .u8 (sk), ints .u8 (rk), #[.int .i64 ((next : Nat) : Int)]] 1 kj 0 _ rfl) kj)) ?_
  refine Qau (.int .i64 (((a : Nat) : Int))) kj kj (fun W => by kernel_rfl) ?_
  refine Qau (.int .u64 (((B * 2 ^ a % 18446744073709551616 : Nat) : Int))) kj kj (fun W => (QaF .shl _ _ _ _ .u64 .i64 _ _ _ rfl kj kj (Qcj _ _ _ _ _ _ (by omega) (shlB B a)))) ?_
  refine Qau (.int .i64 (((a : Nat) : Int))) kj kj (fun W => by kernel_rfl) ?_
  refine Qau (.int .i64 (((a - 1 : Nat) : Int))) kj kj (fun W => (Qah (u := .int .i64 (IntKind.i64.wrap (((a : Nat) : Int) - 1))) kj (congrArg (Value.int .i64) (by rw [show ((a - 1 : Nat) : Int) = (a : Int) - 1 by omega]; exact i64_w _ (by omega))))) ?_
  refine Qau (.int .u64 (((1 * 2 ^ (a - 1) % 18446744073709551616 : Nat) : Int))) kj kj (fun W => (QaF .shl _ _ _ _ .u64 .i64 _ _ _ rfl kj kj (Qcj _ _ _ _ _ _ (by omega) (shlB 1 (a - 1))))) ?_
  refine Qau (.int .u64 (((B * 2 ^ a % 18446744073709551616 ||| 1 * 2 ^ (a - 1) % 18446744073709551616 : Nat) : Int))) kj kj (fun W => (Qah (u := .int .u64 (bits .or .u64 (((B * 2 ^ a % 18446744073709551616 : Nat) : Int)) (((1 * 2 ^ (a - 1) % 18446744073709551616 : Nat) : Int)))) kj (congrArg (Value.int .u64) (orB _ _ (Nat.mod_lt _ (by decide)) (Nat.mod_lt _ (by decide)))))) ?_
  refine Qau (.pointer (some ⟨g, 0, none⟩)) kj kj (fun W => by kernel_rfl) ?_
  refine Qau (.pointer (some ⟨g, 1, none⟩)) kj kj (fun W => by kernel_rfl) ?_
  refine Qbn (hF _ kj fun W3 e3 => ?_)
  simp only [ups, up, Kn.val, List.take_succ_cons, List.take_zero, List.drop_succ_cons, List.drop_zero, List.nil_append, List.cons_append]
  clear hF
  have x3 : ExtB g w W3 := ExtB.ext x2 e3
  have r1_3 := (Qad r1_2 e3)
  refine Qaj g _ (cat [#[.int .i64 nx], #[.int .u64 (((B * 2 ^ a % 18446744073709551616 ||| 1 * 2 ^ (a - 1) % 18446744073709551616 : Nat) : Int))], ints .u8 (sk), ints .u8 (rk), #[.int .i64 ((next : Nat) : Int)]]) 136 r1_3 rfl kj (run_storeQ 129 _ _ g 1 136 [#[.int .i64 nx]] [ints .u8 (sk), ints .u8 (rk), #[.int .i64 ((next : Nat) : Int)]] _ (.int .u64 (((B * 2 ^ a % 18446744073709551616 ||| 1 * 2 ^ (a - 1) % 18446744073709551616 : Nat) : Int))) r1_3 rfl kj kj kj kj rfl rfl) fun W4 p4 r1_4 => ?_
  have x4 : ExtB g w W4 := ExtB.puts x3 p4
  refine Qac ?_
  refine hK9 _ _ ?_
  refine wp_seq_k fun K10 hK10 => ?_
  refine Qab ?_
  refine Qaa (.pointer (some ⟨g, 0, none⟩)) 43 rfl kj kj ?_
  refine Qaa (.int .i64 n) 44 rfl kj kj ?_
  refine Qaa (.int .i64 (n + 1)) 45 rfl kj (Qah (u := .int .i64 (IntKind.i64.wrap (n + 1))) kj (congrArg (Value.int .i64) (i64_w _ (by omega)))) ?_
  refine Qaa (.pointer (some ⟨g, 0, none⟩)) 46 rfl kj kj ?_
  refine Qaa (.pointer (some ⟨g, 0, none⟩)) 47 rfl kj kj ?_
  refine Qaj g _ (cat [#[.int .i64 (n + 1)], #[.int .u64 (((B * 2 ^ a % 18446744073709551616 ||| 1 * 2 ^ (a - 1) % 18446744073709551616 : Nat) : Int))], ints .u8 (sk), ints .u8 (rk), #[.int .i64 ((next : Nat) : Int)]]) 136 r1_4 rfl kj (run_storeQ 3 _ _ g 0 136 [] [#[.int .u64 (((B * 2 ^ a % 18446744073709551616 ||| 1 * 2 ^ (a - 1) % 18446744073709551616 : Nat) : Int))], ints .u8 (sk), ints .u8 (rk), #[.int .i64 ((next : Nat) : Int)]] _ (.int .i64 (n + 1)) r1_4 rfl kj kj kj kj rfl rfl) fun W5 p5 r1_5 => ?_
  have x5 : ExtB g w W5 := ExtB.puts x4 p5
  refine Qac ?_
  refine hK10 _ _ ?_
  refine wp_seq_k fun K11 hK11 => ?_
  refine Qab ?_
  refine Qaa (.nilIface) 4 rfl kj kj ?_
  refine Qac ?_
  refine hK11 _ _ ?_
  refine wp_ret ?_
  repeat (first | with_reducible refine goR1 ?_ | with_reducible refine goR2 ?_)
  exact (show bodyPost _ _ _ .ret _ _ from ret1 (.nilIface) rfl (Qa0 kj) ⟨rfl, x5, r1_5⟩)
end Go.Proofs.YtoiendjhplbjjaaDoor.Ll
end
section
namespace Go.Proofs.YtoiendjhplbjjaaDoor.Ll
open Go Go.RowKit
open Rely Auto Own Sha Sha
set_option linter.unusedVariables false
set_option linter.unusedSimpArgs false
def hiT (ts : List Int) : Int := ts.foldl (fun a x => if x > a then x else a) (-1)
theorem QcV (ts : List Int) (m : Int) : hiT (ts ++ [m]) = if m > hiT ts then m else hiT ts := by unfold hiT; rw [List.foldl_append]; rfl
theorem QgZ (ts : List Int) : ∀ m ∈ ts, m ≤ hiT ts := by
  suffices h : ∀ (r : List Int), (∀ m ∈ r.reverse, m ≤ hiT r.reverse) by have := h ts.reverse; rwa [List.reverse_reverse] at this
  intro r
  induction r with
  | nil => intro m h; cases h
  | cons x r ih =>
    intro m h
    rw [List.reverse_cons] at h ⊢
    rw [QcV]
    rcases List.mem_append.1 h with h | h
    · have := ih m h; split <;> omega
    · have : m = x := by simpa using h
      subst this; split <;> omega
theorem Qgh (ts : List Int) : hiT ts = -1 ∨ hiT ts ∈ ts := by
  suffices h : ∀ (r : List Int), (hiT r.reverse = -1 ∨ hiT r.reverse ∈ r.reverse) by have := h ts.reverse; rwa [List.reverse_reverse] at this
  intro r
  induction r with
  | nil => exact .inl rfl
  | cons x r ih =>
    rw [List.reverse_cons, QcV]
    split
    · exact .inr (by simp)
    · rcases ih with h | h
      · exact .inl h
      · exact .inr (List.mem_append_left _ h)
def chkT (ts : List Int) (n : Int) : Int := if n < 0 ∨ 4294967294 < n then 8 else if n < hiT ts - 64 then 11 else if n ∈ ts then 7 else 0
structure WInv (nx : Int) (B : Nat) (ts : List Int) : Prop where
  hnx : 0 ≤ nx ∧ nx ≤ 4294967295
  hB : B < 18446744073709551616
  hhi : hiT ts = nx - 1
  hrng : ∀ m ∈ ts, 0 ≤ m ∧ m < 4294967295
  hbits : ∀ k : Nat, k < 64 → 0 ≤ nx - 2 - k → (B.testBit k = true ↔ (nx - 2 - k) ∈ ts)
theorem Qgc : WInv 0 0 [] := ⟨by omega, by decide, rfl, (fun m h => by cases h), (fun k hk h => by omega)⟩
theorem Qhc (B k : Nat) : B / 2 ^ k % 2 = 1 ↔ B.testBit k = true := by rw [Nat.testBit_eq_decide_div_mod_eq]; simp
theorem Qd0 {nx : Int} {B : Nat} {ts : List Int} (h : WInv nx B ts) (n : Int) : chkW nx B n = chkT ts n := by
  have hh := h.hhi
  unfold chkW chkT
  by_cases h1 : n < 0 ∨ 4294967295 ≤ n
  · rw [if_pos h1, if_pos (by omega)]
  · rw [if_neg h1, if_neg (show ¬ (n < 0 ∨ 4294967294 < n) by omega), hh]
    by_cases h2 : 64 < nx - 1 - n
    · rw [if_pos h2, if_pos (by omega)]
    · rw [if_neg h2, if_neg (show ¬ n < nx - 1 - 64 by omega)]
      by_cases h3 : n ∈ ts
      · have hle := QgZ ts n h3
        rw [if_pos h3, if_pos ?_]
        by_cases h4 : nx - 1 - n = 0
        · exact .inl h4
        · refine .inr ⟨by omega, ?_⟩
          obtain ⟨j, hj⟩ := Int.eq_ofNat_of_zero_le (show 0 ≤ nx - 1 - n - 1 by omega)
          rw [hj, Int.toNat_natCast, Qhc, h.hbits j (by omega) (by omega), show nx - 2 - (j : Int) = n by omega]
          exact h3
      · rw [if_neg h3, if_neg ?_]
        rintro (h4 | ⟨h4, h5⟩)
        · rcases Qgh ts with h6 | h6
          · omega
          · exact h3 (by rw [show n = hiT ts by omega]; exact h6)
        · obtain ⟨j, hj⟩ := Int.eq_ofNat_of_zero_le (show 0 ≤ nx - 1 - n - 1 by omega)
          rw [hj, Int.toNat_natCast, Qhc, h.hbits j (by omega) (by omega), show nx - 2 - (j : Int) = n by omega] at h5
          exact h3 h5
theorem Qdz {ts : List Int} {n : Int} (h : chkT ts n = 0) : 0 ≤ n ∧ n < 4294967295 ∧ hiT ts - 64 ≤ n ∧ n ∉ ts := by
  unfold chkT at h
  split at h
  · omega
  · split at h
    · omega
    · split at h
      · omega
      · exact ⟨by omega, by omega, by omega, by assumption⟩
theorem QhK (a b : Nat) (ha : a < 18446744073709551616) (hb : b < 18446744073709551616) : a ||| b < 18446744073709551616 := Nat.or_lt_two_pow (n := 64) ha hb
theorem Qit {nx : Int} {B : Nat} {ts : List Int} (h : WInv nx B ts) {n : Int} (hc : chkT ts n = 0) (j : Nat) (hj : nx - 1 - n - 1 = (j : Int)) (hj2 : j < 64) : WInv nx (B ||| 2 ^ j) (ts ++ [n]) := by
  obtain ⟨h0, h1, h2, h3⟩ := Qdz hc
  have hh := h.hhi
  refine ⟨h.hnx, QhK _ _ h.hB (pow_lt j hj2), by rw [QcV, if_neg (by omega)]; exact hh, fun m hm => ?_, fun k hk hp => ?_⟩
  · rcases List.mem_append.1 hm with hm | hm
    · exact h.hrng m hm
    · have : m = n := by simpa using hm
      omega
  · rw [Nat.testBit_or, Nat.testBit_two_pow, Bool.or_eq_true, h.hbits k hk hp, List.mem_append]
    constructor
    · rintro (e | e)
      · exact .inl e
      · have : j = k := by simpa using e
        exact .inr (by simp; omega)
    · rintro (e | e)
      · exact .inl e
      · have : nx - 2 - (k : Int) = n := by simpa using e
        exact .inr (by simp; omega)
theorem Qis {nx : Int} {B : Nat} {ts : List Int} (h : WInv nx B ts) {n : Int} (hc : chkT ts n = 0) (a : Nat) (ha : n - (nx - 1) = (a : Int)) (ha1 : 1 ≤ a) :
    WInv (n + 1) (B * 2 ^ a % 18446744073709551616 ||| 1 * 2 ^ (a - 1) % 18446744073709551616) (ts ++ [n]) := by
  obtain ⟨h0, h1, h2, h3⟩ := Qdz hc
  have hh := h.hhi
  have hn := h.hnx
  refine ⟨by omega, QhK _ _ (Nat.mod_lt _ (by decide)) (Nat.mod_lt _ (by decide)), by rw [QcV, if_pos (by omega)]; omega, fun m hm => ?_, fun k hk hp => ?_⟩
  · rcases List.mem_append.1 hm with hm | hm
    · exact h.hrng m hm
    · have : m = n := by simpa using hm
      omega
  · have e64 : (18446744073709551616 : Nat) = 2 ^ 64 := by decide
    rw [Nat.testBit_or, e64, Nat.testBit_mod_two_pow, Nat.testBit_mod_two_pow, Nat.one_mul, Nat.testBit_two_pow, Nat.mul_comm B, Nat.testBit_two_pow_mul, List.mem_append]
    simp only [hk, decide_true, Bool.true_and, Bool.or_eq_true, Bool.and_eq_true, decide_eq_true_eq, List.mem_singleton, ge_iff_le]
    have hne : ¬ (n + 1 - 2 - (k : Int) = n) := by omega
    constructor
    · rintro (⟨e1, e2⟩ | e)
      · left
        rw [h.hbits (k - a) (by omega) (by omega)] at e2
        rwa [show n + 1 - 2 - (k : Int) = nx - 2 - ((k - a : Nat) : Int) by omega]
      · left
        have : n + 1 - 2 - (k : Int) = hiT ts := by omega
        rw [this]
        exact (Qgh ts).resolve_left (by omega)
    · rintro (e | e)
      · have hle := QgZ ts _ e
        by_cases hk2 : a ≤ k
        · left
          refine ⟨hk2, ?_⟩
          rw [h.hbits (k - a) (by omega) (by omega)]
          rwa [show nx - 2 - ((k - a : Nat) : Int) = n + 1 - 2 - (k : Int) by omega]
        · right; omega
      · exact absurd e hne
end Go.Proofs.YtoiendjhplbjjaaDoor.Ll
end
section
namespace Go.Proofs.YtoiendjhplbjjaaDoor.Ll
open Go Go.RowKit
open Rely Auto Own Sha Sha
set_option linter.unusedVariables false
set_option linter.unusedSimpArgs false
open Cha Ae
theorem Qfm (pl : Nat → Option (Nat × Nat)) : ∀ (ps : List (Nat × Nat × Value × Array Value)) (pre : List (Array Value)) (rest : Array Value) (off : Nat), (cat pre).size = off → okPl pl off ps → tot ps ≤ rest.size →
    Instr.fill pl (cat pre ++ rest) (ps.map fun x => (x.1, x.2.2.1)) = some (cat (pre ++ ps.map fun x => x.2.2.2) ++ rest.extract (tot ps) rest.size)
  | [], pre, rest, off, _, _, ht => by
    simp [Instr.fill, tot]
  | (i, n, v, p) :: r, pre, rest, off, hoff, ⟨h1, h2, h3, h4⟩, ht => by
    subst h2
    have hn : n ≤ rest.size := by rw [tot] at ht; omega
    simp only [List.map_cons, Instr.fill, h1, h3]
    rw [if_neg (by simp; omega)]
    have hz : (v.cells.zipIdx.foldl (fun cs (x : Value × Nat) => cs.setIfInBounds (off + x.2) x.1) (cat pre ++ rest)) = cat (pre ++ [v.cells]) ++ rest.extract n rest.size := by
      have e1 : v.cells.zipIdx = (v.cells.toList.zipIdx 0).toArray := by
        apply Array.ext'
        simp
      rw [e1, List.foldl_toArray', Qdr]
      · have e2 : rest = rest.extract 0 n ++ rest.extract n rest.size := by
          rw [Array.extract_append_extract, Nat.max_eq_right hn]
          simp
        have e3 : (cat pre ++ rest) = cat (pre ++ ([rest.extract 0 n] ++ [rest.extract n rest.size])) := by
          rw [Qa3]
          congr 1
        rw [Nat.add_zero, e3]
        have := QdV pre [rest.extract 0 n] [v.cells] [rest.extract n rest.size] off hoff (by show v.cells.size = (rest.extract 0 n).size; simp; omega)
        rw [show (cat [v.cells]).toList = v.cells.toList from rfl] at this
        rw [this, ← List.append_assoc, Qa3 (pre ++ [v.cells])]
        rfl
      · rfl
    have key := Qfm pl r (pre ++ [v.cells]) (rest.extract n rest.size) (off + n) (by rw [Qa3]; show (cat pre ++ v.cells).size = _; simp; omega) h4 (by rw [tot] at ht; simp; omega)
    rw [← hz] at key
    rw [List.append_assoc] at key
    rw [key, tot]
    congr 2
    rw [Array.extract_extract]
    simp
    congr 1
    rw [tot] at ht
    omega
theorem Qfy {P : Program} {ρ : Operand → Value} {o : Oper} {w : World} (t : TypeId) (parts : Array (Nat × Operand)) (z : Value) (places : Array (Nat × Nat)) (off : Nat) (pre : List (Array Value)) (rest0 : Array Value) (ps : List (Nat × Nat × Value × Array Value)) (rest : List (Array Value))
    (ho : o.op = .build t parts) (hv : (parts.map fun (i, x) => (i, ρ x)).toList = ps.map fun x => (x.1, x.2.2.1)) (hoff : (cat pre).size = off) (hp : okPl (fun i => places[i]?) off ps) (hz0 : z.cells = cat pre ++ rest0) (ht : tot ps ≤ rest0.size) (hr : rest0.extract (tot ps) rest0.size = cat rest)
    (hz : (zeroValue t).run P w = .ok z w) (hu : P.underlying t = some (.struct (P.fieldsOf t))) (hm : ((P.fieldsOf t).mapM fun f => do pure (f.offset, ← sizeOf f.type) : Sem (Array (Nat × Nat))).run P w = .ok places w) :
    (execOp ρ o).run P w = .ok (.value (.agg (cat (pre ++ (ps.map fun x => x.2.2.2) ++ rest)))) w := by
  have := Qfm (fun i => places[i]?) ps pre rest0 off hoff hp ht
  rw [← hz0, hr, ← Qa3] at this
  rw [← hv] at this
  have hB : (Instr.build t (parts.map fun (i, x) => (i, ρ x))).run P w = .ok (.agg (cat (pre ++ (ps.map fun x => x.2.2.2) ++ rest))) w := by
    unfold Instr.build
    rw [Sem.run_bind, hz, Result.andThen_ok, Sem.run_bind, run_underlying hu w, Result.andThen_ok]
    show (Sem.run P _ w) = _
    rw [Sem.run_bind, hm, Result.andThen_ok]
    simp only [this]
    rfl
  unfold execOp
  simp only [ho, Sem.run_bind, hB, Result.andThen_ok, Sem.run_pure]
theorem shrN (a : Nat) (s : Int) (c : Nat) (h : (2 : Int) ^ min s.toNat IntKind.i64.bits = (c : Int)) : ((a : Nat) : Int).fdiv (2 ^ min s.toNat IntKind.i64.bits) = ((a / c : Nat) : Int) := by
  rw [h, Int.fdiv_eq_ediv_of_nonneg _ (Int.natCast_nonneg _), Int.natCast_ediv]
theorem Qf8 (a : Nat) : IntKind.u8.wrap ((a : Nat) : Int) = ((a % 256 : Nat) : Int) := by
  have h3 : ∀ z : Int, IntKind.u8.wrap z = z % 256 := fun _ => rfl
  rw [h3]; omega
def hdV (n : Nat) : List Int := [((n / 16777216 % 256 : Nat) : Int), ((n / 65536 % 256 : Nat) : Int), ((n / 256 % 256 : Nat) : Int), ((n % 256 : Nat) : Int)]
theorem Qc3 (n : Nat) : (hdV n).length = 4 := rfl
theorem Qe6 (n : Nat) : Qan (hdV n) := fun x hx => by
  unfold hdV at hx
  simp only [List.mem_cons, List.not_mem_nil, or_false] at hx
  rcases hx with rfl | rfl | rfl | rfl <;> omega
def nonV (n : Nat) : List Int := [0, 0, 0, 0] ++ by8 ((n : Nat) : Int)
theorem Qfb (n : Nat) : (nonV n).length = 12 := by unfold nonV; rw [List.length_append, QbY]; rfl
def msgV (k : List Int) (n : Nat) (text : List Int) : List Int := hdV n ++ Qcd k (nonV n) (hdV n) text
theorem Qfe (k : List Int) (n : Nat) (text : List Int) : (msgV k n text).length = text.length + 20 := by unfold msgV; rw [List.length_append, Qcc, Qc3]; omega
theorem QgW (n0 n : Nat) (w : World) (h0 : n0 ≤ w.heap.size) : Calls Tryd.prog 86 #[.int .i64 ((n : Nat) : Int)] w (Qca w (OwnN .u8 5 n0 (nonV n))) :=
  (QhP n w).mono fun e W' hg => by
    obtain ⟨v', e1, e2, e3⟩ := hg
    exact ⟨v', e1, e2, e3.base h0⟩
theorem Qc2 (a b c : Nat) (hb : b < 256) (hc : a * 256 + b = c) (hs : c < 4611686018427387904) : bits .or .i64 ((a * 256 : Nat) : Int) ((b : Nat) : Int) = ((c : Nat) : Int) := by
  have h : bits .or .i64 ((a * 256 : Nat) : Int) ((b : Nat) : Int) = IntKind.i64.wrap (((BitVec.ofInt 64 ((a * 256 : Nat) : Int)) ||| (BitVec.ofInt 64 ((b : Nat) : Int))).toNat : Int) := rfl
  rw [h, BitVec.toNat_or, BitVec.toNat_ofInt, BitVec.toNat_ofInt]
  have e1 : (((a * 256 : Nat) : Int) % ((2 ^ 64 : Nat) : Int)).toNat = 2 ^ 8 * a := by omega
  have e2 : (((b : Nat) : Int) % ((2 ^ 64 : Nat) : Int)).toNat = b := by omega
  rw [e1, e2, ← Nat.two_pow_add_eq_or_of_lt (i := 8) (by omega) a, show 2 ^ 8 * a + b = c by omega]
  exact IntWalk.i64_in _ (by omega)
theorem QbH (a : Nat) (h : a * 256 < 4611686018427387904) : IntKind.i64.wrap (((a : Nat) : Int) * 2 ^ min (8 : Int).toNat IntKind.i64.bits) = ((a * 256 : Nat) : Int) := by
  rw [show (2 : Int) ^ min (8 : Int).toNat IntKind.i64.bits = 256 by decide]
  exact (IntWalk.i64_in _ (by omega)).trans (by omega)
theorem rdKT {k : IntKind} {B n c l : Nat} {ys tk : List Int} {a : Option Addr} {W : World} (et : ys.take l = tk) (h : RdK k B ys (.slice a n c) W) (hl : l ≤ ys.length) : RdK k B tk (.slice a l c) W := et ▸ Qeb h l hl
theorem rdKD {k : IntKind} {B n c l : Nat} {ys tk : List Int} {a : Option Addr} {W : World} (et : ys.drop l = tk) (h : RdK k B ys (.slice a n c) W) (hl : l ≤ ys.length) : RdK k B tk (.slice (Qco a c l) (n - l) (c - l)) W := et ▸ Qdx h l hl
section
variable {ds : List Deferred} {P : Program} {ops : Array Oper} {Q : Exit → Act → World → Prop} {rest : List Oper} {o : Oper} {N : Nat} {L : Env} {W : World}
theorem QeC {k : IntKind} {T : TypeId} (base b : Nat) (s x : Operand) (t : TypeId) (ho : o.op = .call { callee := .builtin .append, args := #[s, x], argTypes := #[t, t] })
    (ht : P.underlying t = some (.slice T)) (hi : (P.info? T).map (fun i => (i.zero, i.size, i.bytes)) = some (some (.int k 0), 1, b)) (hb8 : b ≤ 8) (d : Nat) (hd : o.dst = some d) (hg : QbG ops o N L = some true) {B : Nat} {v y : Value} {xs ys : List Int}
    (hs : Rely.look (envN N L) s = v) (hx : Rely.look (envN N L) x = y)
    (h : OwnN k T base xs v W) (hy : RdK k B ys y W) (hn : xs.length + ys.length ≤ 1000000000) (hV : base ≤ W.heap.size)
    (kk : ∀ (u : Value) (W' : World), OwnN k T base (xs ++ ys) u W' → Below base W W' → WL P ops Q rest (Qaw ds N ((d, u) :: L)) W') : WL P ops Q (o :: rest) (Qaw ds N L) W := by
  obtain ⟨v', W', h1, h2, h3, h4⟩ := Qfq (ρ := Rely.look (envN N L)) (o := o) (W := W) s x t ho ht hi hb8 hs hx h hy hn hV
  exact Qcm _ _ d hd hg h1 (kk v' W' h2 ⟨h3.os, h3.tape, h3.output, h3.size, fun i hi => h3.block i (Nat.lt_of_lt_of_le hi hV) (fun q => by have := h.ge q.symm; omega)⟩)
end
theorem Qh7 (key nonce ctx text fs : List Int) (es : Qcd key nonce ctx text = fs) (v v2 v3 : Value) (B B2 B3 : Nat) (th tq : TypeId) (w : World) (hh : w.heap[2]? = some (.cells (ints .u32 [1634760805, 857760878, 2036477234, 1797285236]) th)) (hq : w.heap[3]? = some (.cells (ints .i64 [0, 4, 8, 12, 1, 5, 9, 13, 2, 6, 10, 14, 3, 7, 11, 15, 0, 5, 10, 15, 1, 6, 11, 12, 2, 7, 8, 13, 3, 4, 9, 14]) tq)) (hkl : key.length = 32) (hn : RdK .u8 B nonce v w) (hc : RdK .u8 B2 ctx v2 w) (ht : RdK .u8 B3 fs v3 w) (hcb : Qan ctx) (htb : Qan text) (h : nonce.length = 12) (hcl : ctx.length ≤ 1048576) (hxl : text.length ≤ 1048576) :
    Calls Tryd.prog 74 #[.agg (ints .u8 key), v, v2, v3] w (Qca w (MixR w.heap.size text)) := by
  subst es
  exact Qgr key nonce ctx text v v2 v3 B B2 B3 th tq w hh hq hkl hn hc ht hcb htb h hcl hxl
set_option maxHeartbeats 4000000 in
def NewL (base : Nat) (sk rk : List Int) : Value → World → Prop := fun v W => ∃ g, v = .pointer (some ⟨g, 0, none⟩) ∧ base ≤ g ∧ W.heap[g]? = some (.cells (cat [#[.int .i64 0], #[.int .u64 0], ints .u8 (sk), ints .u8 (rk), #[.int .i64 0]]) 136)
set_option maxHeartbeats 4000000 in
theorem newC (sk rk : List Int) (w : World) (hsk : sk.length = 32) (hrk : rk.length = 32) : Calls Tryd.prog 43 #[.agg (ints .u8 sk), .agg (ints .u8 rk)] w (Qca w (NewL w.heap.size sk rk)) := by
  refine enter 9 [(0, .agg (ints .u8 (sk))), (1, .agg (ints .u8 (rk)))] Tryd.func43 rfl rfl kj rfl ?_
  refine wp_seq_k fun K1 hK1 => ?_
  refine Qab ?_
  refine Qas (ints .u8 (sk)) 23 2 rfl kj kj fun g2 W1 l2 e1 r2_1 => ?_
  have x1 : Ext w W1 := Ext.tr (Rely.Ext.refl w) e1
  have b2 : w.heap.size ≤ g2 := Nat.le_trans (Rely.Ext.refl w).size l2
  refine Qas (ints .u8 (rk)) 23 3 rfl kj kj fun g3 W2 l3 e2 r3_2 => ?_
  have x2 : Ext w W2 := Ext.tr x1 e2
  have b3 : w.heap.size ≤ g3 := Nat.le_trans x1.size l3
  refine Qaa (.pointer none) 4 rfl kj kj ?_
  refine Qac ?_
  refine hK1 _ _ ?_
  refine wp_seq_k fun K4 hK4 => ?_
  refine Qab ?_
  have r2_2 := (Qad r2_1 e2)
  refine Qaa (.agg (ints .u8 (sk))) 5 rfl kj (Qar 23 _ g2 23 _ _ r2_2 rfl kj kj (isz (n := 32) kj ((Qaf _ _).trans hsk))) ?_
  refine Qaa (.agg (ints .u8 (rk))) 6 rfl kj (Qar 23 _ g3 23 _ _ r3_2 rfl kj kj (isz (n := 32) kj ((Qaf _ _).trans hrk))) ?_
  refine Qaa (.agg (cat [#[.int .i64 0], #[.int .u64 0], ints .u8 (sk), ints .u8 (rk), #[.int .i64 0]])) 7 rfl kj (Qfy 136 _ (.agg (cat [#[.int .i64 0], #[.int .u64 0], ints .u8 (List.replicate 32 0), ints .u8 (List.replicate 32 0), #[.int .i64 0]])) #[(0, 2), (2, 32), (34, 32), (66, 1)] 2 [#[.int .i64 0], #[.int .u64 0]] (cat [ints .u8 (List.replicate 32 0), ints .u8 (List.replicate 32 0), #[.int .i64 0]]) [(1, 32, .agg (ints .u8 (sk)), ints .u8 (sk)), (2, 32, .agg (ints .u8 (rk)), ints .u8 (rk))] [#[.int .i64 0]] rfl kj rfl ⟨kj, rfl, ((Qaf _ _).trans hsk), kj, rfl, ((Qaf _ _).trans hrk), trivial⟩ kj (Nat.le_of_ble_eq_true kj) kj kj kj kj) ?_
  refine Qas (cat [#[.int .i64 0], #[.int .u64 0], ints .u8 (sk), ints .u8 (rk), #[.int .i64 0]]) 136 8 rfl kj kj fun g5 W3 l5 e3 r5_3 => ?_
  have x3 : Ext w W3 := Ext.tr x2 e3
  have b5 : w.heap.size ≤ g5 := Nat.le_trans x2.size l5
  refine Qaa (.pointer (some ⟨g5, 0, none⟩)) 4 rfl kj kj ?_
  refine Qac ?_
  refine hK4 _ _ ?_
  refine wp_ret ?_
  repeat (first | with_reducible refine goR1 ?_ | with_reducible refine goR2 ?_)
  exact (show bodyPost _ _ _ .ret _ _ from ret1 (.pointer (some ⟨g5, 0, none⟩)) rfl (Qa0 kj) ⟨_, rfl, x3, g5, rfl, b5, r5_3⟩)
set_option maxRecDepth 100000 in
set_option maxHeartbeats 4000000 in
theorem Qin (text : List Int) (v : Value) (th tq : TypeId) (g : Nat) (nx : Int) (B : Nat) (hnx : 0 ≤ nx ∧ nx ≤ 4294967295) (hB : B < 18446744073709551616) (sk rk : List Int) (next : Nat) (hsk : sk.length = 32) (hrk : rk.length = 32) (w : World) (hg : w.heap[g]? = some (.cells (cat [#[.int .i64 nx], #[.int .u64 ((B : Nat) : Int)], ints .u8 (sk), ints .u8 (rk), #[.int .i64 ((next : Nat) : Int)]]) 136)) (hh : w.heap[2]? = some (.cells (ints .u32 [1634760805, 857760878, 2036477234, 1797285236]) th)) (hq : w.heap[3]? = some (.cells (ints .i64 [0, 4, 8, 12, 1, 5, 9, 13, 2, 6, 10, 14, 3, 7, 11, 15, 0, 5, 10, 15, 1, 6, 11, 12, 2, 7, 8, 13, 3, 4, 9, 14]) tq)) (hnh : 2 ≠ g) (hnq : 3 ≠ g) (hst : ∀ W, ExtB g w W → RdK .u8 W.heap.size text v W) (hnx2 : next < 4294967295) (htl : text.length ≤ 65536) :
  Calls Tryd.prog 46 #[.pointer (some ⟨g, 0, none⟩), v] w (fun e W => ∃ u, e = .returned (.tuple #[u, .nilIface]) ∧ OwnN .u8 5 w.heap.size (msgV sk next text) u W ∧ ExtB g w W ∧ W.heap[g]? = some (.cells (cat [#[.int .i64 nx], #[.int .u64 ((B : Nat) : Int)], ints .u8 (sk), ints .u8 (rk), #[.int .i64 ((next + 1 : Nat) : Int)]]) 136)) := by
 obtain ⟨a_t, c_t, rfl, -⟩ := id (hst _ (ExtB.refl g w))
 have lfs0 := Qcc sk (nonV next) (hdV next) text
 obtain ⟨fs, es⟩ : ∃ z : List Int, Qcd sk (nonV next) (hdV next) text = z := ⟨_, rfl⟩
 have lfs : fs.length = text.length + 16 := es ▸ lfs0
 refine enter 64 [(0, .pointer (some ⟨g, 0, none⟩)), (1, .slice a_t text.length c_t)] Tryd.func46 rfl rfl kj rfl ?_
 refine wp_seq_k fun K4 hK4 => ?_
 refine Qab ?_
 refine Qaa (.slice none 0 0) 4 rfl kj kj ?_
 refine Qaa (.nilIface) 5 rfl kj kj ?_
 refine Qac ?_
 refine hK4 _ _ ?_
 refine wp_seq_k fun K5 hK5 => ?_
 refine wp_seq_k fun K6 hK6 => ?_
 refine Qab ?_
 refine Qaa (.pointer (some ⟨g, 0, none⟩)) 10 rfl kj kj ?_
 refine Qaa (.bool false) 11 rfl kj kj ?_
 refine Qac ?_
 refine hK6 _ _ ?_
 refine cond_false kj ?_
 refine wp_skip ?_
 refine hK5 _ _ ?_
 refine wp_seq_k fun K7 hK7 => ?_
 refine wp_seq_k fun K8 hK8 => ?_
 refine Qab ?_
 refine Qaa (.slice a_t text.length c_t) 13 rfl kj kj ?_
 refine Qaa (.int .i64 ((text.length : Nat) : Int)) 14 rfl kj kj ?_
 refine Qaa (.bool false) 15 rfl kj (Qah (u := .bool (decide (((text.length : Nat) : Int) > 65536))) kj (congrArg Value.bool (decide_eq_false (by omega)))) ?_
 refine Qac ?_
 refine hK8 _ _ ?_
 refine cond_false kj ?_
 refine wp_skip ?_
 refine hK7 _ _ ?_
 refine wp_seq_k fun K9 hK9 => ?_
 refine wp_seq_k fun K10 hK10 => ?_
 refine Qab ?_
 refine Qaa (.pointer (some ⟨g, 0, none⟩)) 17 rfl kj kj ?_
 refine Qaa (.pointer (some ⟨g, 0, none⟩)) 18 rfl kj kj ?_
 refine Qaa (.pointer (some ⟨g, 66, none⟩)) 19 rfl kj kj ?_
 refine Qaa (.int .i64 ((next : Nat) : Int)) 20 rfl kj (Qae 3 _ g 66 136 _ (.int .i64 ((next : Nat) : Int)) _ hg rfl kj (QaB [#[.int .i64 nx], #[.int .u64 ((B : Nat) : Int)], ints .u8 (sk), ints .u8 (rk)] [#[.int .i64 ((next : Nat) : Int)]] [] 66 (by rw [Qao, Qao, Qao, Qao]; simp only [Array.size_append, cat, ((Qaf _ _).trans hrk), ((Qaf _ _).trans hsk)]; rfl) 0 _ rfl) kj) ?_
 refine Qaa (.bool false) 21 rfl kj (Qah (u := .bool ((((next : Nat) : Int) == 4294967295))) kj (congrArg Value.bool (beq_eq_false_iff_ne.2 (by omega)))) ?_
 refine Qac ?_
 refine hK10 _ _ ?_
 refine cond_false kj ?_
 refine wp_skip ?_
 refine hK9 _ _ ?_
 refine wp_seq_k fun K11 hK11 => ?_
 refine Qab ?_
 refine Qaa (.pointer (some ⟨g, 0, none⟩)) 23 rfl kj kj ?_
 refine Qaa (.pointer (some ⟨g, 0, none⟩)) 24 rfl kj kj ?_
 refine Qaa (.pointer (some ⟨g, 66, none⟩)) 25 rfl kj kj ?_
 refine Qaa (.int .i64 ((next : Nat) : Int)) 26 rfl kj (Qae 3 _ g 66 136 _ (.int .i64 ((next : Nat) : Int)) _ hg rfl kj (QaB [#[.int .i64 nx], #[.int .u64 ((B : Nat) : Int)], ints .u8 (sk), ints .u8 (rk)] [#[.int .i64 ((next : Nat) : Int)]] [] 66 (by rw [Qao, Qao, Qao, Qao]; simp only [Array.size_append, cat, ((Qaf _ _).trans hrk), ((Qaf _ _).trans hsk)]; rfl) 0 _ rfl) kj) ?_
 refine Qaa (.int .i64 ((next : Nat) : Int)) 6 rfl kj kj ?_
 refine Qac ?_
 refine hK11 _ _ ?_
 refine wp_seq_k fun K12 hK12 => ?_
 refine Qab ?_
 refine Qaa (.int .i64 ((next : Nat) : Int)) 27 rfl kj kj ?_
 refine Qaa (.int .i64 (((next / 16777216 : Nat) : Int))) 28 rfl kj (QaF .shr _ _ _ _ .i64 .u64 _ _ _ rfl kj kj (Qc5 _ _ _ _ _ _ (by omega) (shrN next 24 16777216 (by decide)))) ?_
 refine Qaa (.int .u8 (((next / 16777216 % 256 : Nat) : Int))) 29 rfl kj (Qah (u := .int .u8 (IntKind.u8.wrap (((next / 16777216 : Nat) : Int)))) kj (congrArg (Value.int .u8) (Qf8 _))) ?_
 refine Qaa (.int .i64 ((next : Nat) : Int)) 30 rfl kj kj ?_
 refine Qaa (.int .i64 (((next / 65536 : Nat) : Int))) 31 rfl kj (QaF .shr _ _ _ _ .i64 .u64 _ _ _ rfl kj kj (Qc5 _ _ _ _ _ _ (by omega) (shrN next 16 65536 (by decide)))) ?_
 refine Qaa (.int .u8 (((next / 65536 % 256 : Nat) : Int))) 32 rfl kj (Qah (u := .int .u8 (IntKind.u8.wrap (((next / 65536 : Nat) : Int)))) kj (congrArg (Value.int .u8) (Qf8 _))) ?_
 refine Qaa (.int .i64 ((next : Nat) : Int)) 33 rfl kj kj ?_
 refine Qaa (.int .i64 (((next / 256 : Nat) : Int))) 34 rfl kj (QaF .shr _ _ _ _ .i64 .u64 _ _ _ rfl kj kj (Qc5 _ _ _ _ _ _ (by omega) (shrN next 8 256 (by decide)))) ?_
 refine Qaa (.int .u8 (((next / 256 % 256 : Nat) : Int))) 35 rfl kj (Qah (u := .int .u8 (IntKind.u8.wrap (((next / 256 : Nat) : Int)))) kj (congrArg (Value.int .u8) (Qf8 _))) ?_
 refine Qaa (.int .i64 ((next : Nat) : Int)) 36 rfl kj kj ?_
 refine Qaa (.int .u8 (((next % 256 : Nat) : Int))) 37 rfl kj (Qah (u := .int .u8 (IntKind.u8.wrap ((next : Nat) : Int))) kj (congrArg (Value.int .u8) (Qf8 _))) ?_
 refine QbI (ints .u8 ([(((next / 16777216 % 256 : Nat) : Int)), (((next / 65536 % 256 : Nat) : Int)), (((next / 256 % 256 : Nat) : Int)), (((next % 256 : Nat) : Int))])) 5 4 38 rfl kj kj fun g13 W1 l13 e1 r13_1 => ?_
 have x1 : ExtB g w W1 := ExtB.ext (ExtB.refl g w) e1
 have b13 : w.heap.size ≤ g13 := Nat.le_trans (ExtB.refl g w).size l13
 refine Qaa (.slice (some ⟨g13, 0, none⟩) 4 4) 7 rfl kj kj ?_
 have r13_1_14 : W1.heap[g13]? = some (.cells (ints .u8 (hdV next)) 5) := QaD r13_1 rfl
 refine Qac ?_
 refine hK12 _ _ ?_
 refine wp_seq_k fun K15 hK15 => ?_
 refine QaS 13 [⟨none, [(0, none)]⟩, ⟨none, [(40, some 0)]⟩, ⟨none, [(41, some 1)]⟩, ⟨none, [(42, some 2)]⟩, ⟨none, [(6, none)]⟩, ⟨none, [(44, some 4)]⟩, ⟨none, [(7, none)]⟩, ⟨none, [(1, none)]⟩, ⟨none, [(43, some 3), (45, some 5), (46, some 6), (47, some 7)]⟩, ⟨none, [(48, some 8)]⟩, ⟨none, [(39, some 9)]⟩, ⟨none, [(39, some 9)]⟩, ⟨none, [(49, some 10)]⟩] kj kj fun F hF => ?_
 refine Qa5 (Qam _) (.pointer (some ⟨g, 0, none⟩)) kj kj (fun W => by kernel_rfl) ?_
 refine Qa5 (Qam _) (.pointer (some ⟨g, 0, none⟩)) kj kj (fun W => by kernel_rfl) ?_
 refine Qa5 (Qam _) (.pointer (some ⟨g, 2, none⟩)) kj kj (fun W => by kernel_rfl) ?_
 have r1_1 := (Qad hg e1)
 refine Qbm (Qam _) (.agg (ints .u8 (sk))) kj kj (fun W hR => (QaG 23 _ g 2 136 _ _ _ (Qad (Qad r1_1 (Qai _)) hR) rfl kj (QaB [#[.int .i64 nx], #[.int .u64 ((B : Nat) : Int)]] [ints .u8 (sk)] [ints .u8 (rk), #[.int .i64 ((next : Nat) : Int)]] 2 kj) kj (isz (n := 32) kj ((Qaf _ _).trans hsk)))) ?_
 refine Qa5 (Qam _) (.int .i64 ((next : Nat) : Int)) kj kj (fun W => by kernel_rfl) ?_
 refine Qdi (Qam _) (OwnN .u8 5 W1.heap.size (nonV next)) (OwnN.stable _ _ _ _) 86 #[.int .i64 ((next : Nat) : Int)] kj kj (fun W => by kernel_rfl) (fun W hR => (QgW W1.heap.size next _ (Rely.Ext.trans (Qai _) hR).size)) ?_
 refine Qa5 (Qam _) (.slice (some ⟨g13, 0, none⟩) 4 4) kj kj (fun W => by kernel_rfl) ?_
 refine Qa5 (Qam _) (.slice a_t text.length c_t) kj kj (fun W => by kernel_rfl) ?_
 have r3_1 := (Qad hh e1)
 have r2_1 := (Qad hq e1)
 refine Qfn (Qam _) (MixR W1.heap.size fs) (Qcr _ _) 71 (fun ρ W hR hX => ?_) ?_
 ·skip
  have e43_ : ρ 43 = .agg (ints .u8 (sk)) := hX.1
  have q45_ : (OwnN .u8 5 W1.heap.size (nonV next)) (ρ 45) W := hX.2.1
  obtain ⟨ar45, cr45, e45_, -⟩ := id (OwnN.rd q45_)
  have rd45_ := OwnN.rd q45_
  rw [e45_] at rd45_
  have e46_ : ρ 46 = .slice (some ⟨g13, 0, none⟩) 4 4 := hX.2.2.1
  have e47_ : ρ 47 = .slice a_t text.length c_t := hX.2.2.2.1
  refine ⟨#[.agg (ints .u8 (sk)), .slice ar45 ((nonV next).length) cr45, .slice (some ⟨g13, 0, none⟩) 4 4, .slice a_t text.length c_t], Eq.trans (b := Result.ok (Next.enter 71 #[ρ 43, ρ 45, ρ 46, ρ 47]) W) kj (by rw [e43_, e45_, e46_, e47_]), ?_⟩
  exact ((Qid sk (nonV next) (hdV next) text _ _ _ _ _ _ th tq W (Qad (Qad r3_1 (Qai _)) hR) (Qad (Qad r2_1 (Qai _)) hR) hsk rd45_ (RdK.ext (Qby (xs := hdV next) (n := 4) (Qc3 _) r13_1_14 (QaA r13_1_14) (show 4 ≤ maxLen from by decide)) (Rely.Ext.trans (Qai _) hR)) (RdK.ext (hst _ x1) (Rely.Ext.trans (Qai _) hR)) (Qe6 _) (Qfb _) (by rw [Qc3]; decide) (by omega)).mono fun e W2 hg => by obtain ⟨v2, e1, e2, u, e3, e4⟩ := hg; rw [es] at e4; exact ⟨v2, e1, e2, u, e3, e4.base (Rely.Ext.trans (Qai _) hR).size⟩)
 refine QcY (Qam _) (MixR W1.heap.size fs) (Qcr _ _) (fun ρ W hR hh => ⟨ρ 48, W, by kernel_rfl, Rely.Ext.refl _, (show (MixR W1.heap.size fs) (ρ 48) W from hh.1)⟩) ?_
 refine QcY (Qam _) (OwnN .u8 5 W1.heap.size fs) (OwnN.stable _ _ _ _) (fun ρ W hR hh => ?_) ?_
 ·obtain ⟨u, e, h⟩ := (show (MixR W1.heap.size fs) (ρ 39) W from hh.1)
  exact ⟨_, W, QbV (.tmp 39) 0 #[u, .nilIface] _ rfl e rfl, Rely.Ext.refl _, h⟩
 refine QcY (Qam _) (fun v W => v = .nilIface) (fun _ _ _ _ h => h) (fun ρ W hR hh => ?_) ?_
 ·obtain ⟨u, e, h⟩ := (show (MixR W1.heap.size fs) (ρ 39) W from hh.1)
  exact ⟨_, W, QbV (.tmp 39) 1 #[u, .nilIface] _ rfl e rfl, Rely.Ext.refl _, rfl⟩
 refine QcY (Qam _) (OwnN .u8 5 W1.heap.size fs) (OwnN.stable _ _ _ _) (fun ρ W hR hh => ⟨ρ 49, W, by kernel_rfl, Rely.Ext.refl _, (show (OwnN .u8 5 W1.heap.size fs) (ρ 49) W from hh.1)⟩) ?_
 refine QcZ (hF _ fun W2 e2 => ?_)
 simp only [List.nil_append, List.cons_append, List.take_succ_cons, List.take_zero, List.drop_succ_cons, List.drop_zero, finE, up]
 intro vv16 hv16 vv17 hv17 vv18 hv18 vv19 hv19 vv20 hv20 vv21 hv21
 clear hF
 have x2 : ExtB g w W2 := ExtB.ext x1 e2
 obtain ⟨a22_, c22_, rfl, -⟩ := id (OwnN.rd hv16)
 obtain ⟨a23_, c23_, rfl, -⟩ := id (OwnN.rd hv19)
 subst hv20
 obtain ⟨a24_, c24_, rfl, -⟩ := id (OwnN.rd hv21)
 refine Qaa (.nilIface) 9 rfl kj kj ?_
 refine Qac ?_
 refine hK15 _ _ ?_
 refine wp_seq_k fun K25 hK25 => ?_
 refine wp_seq_k fun K26 hK26 => ?_
 refine Qab ?_
 refine Qaa (.nilIface) 51 rfl kj kj ?_
 refine Qaa (.bool false) 52 rfl kj kj ?_
 refine Qac ?_
 refine hK26 _ _ ?_
 refine cond_false kj ?_
 refine wp_skip ?_
 refine hK25 _ _ ?_
 refine wp_seq_k fun K27 hK27 => ?_
 refine Qab ?_
 refine Qaa (.pointer (some ⟨g, 0, none⟩)) 54 rfl kj kj ?_
 refine Qaa (.pointer (some ⟨g, 0, none⟩)) 55 rfl kj kj ?_
 refine Qaa (.pointer (some ⟨g, 66, none⟩)) 56 rfl kj kj ?_
 have r1_2 := (Qad r1_1 e2)
 refine Qaa (.int .i64 ((next : Nat) : Int)) 57 rfl kj (Qae 3 _ g 66 136 _ (.int .i64 ((next : Nat) : Int)) _ r1_2 rfl kj (QaB [#[.int .i64 nx], #[.int .u64 ((B : Nat) : Int)], ints .u8 (sk), ints .u8 (rk)] [#[.int .i64 ((next : Nat) : Int)]] [] 66 (by rw [Qao, Qao, Qao, Qao]; simp only [Array.size_append, cat, ((Qaf _ _).trans hrk), ((Qaf _ _).trans hsk)]; rfl) 0 _ rfl) kj) ?_
 refine Qaa (.int .i64 ((next + 1 : Nat) : Int)) 58 rfl kj (Qah (u := .int .i64 (IntKind.i64.wrap (((next : Nat) : Int) + 1))) kj (congrArg (Value.int .i64) (i64n _ _ (by omega) (by omega)))) ?_
 refine Qaa (.pointer (some ⟨g, 0, none⟩)) 59 rfl kj kj ?_
 refine Qaa (.pointer (some ⟨g, 66, none⟩)) 60 rfl kj kj ?_
 refine Qaj g _ (cat [#[.int .i64 nx], #[.int .u64 ((B : Nat) : Int)], ints .u8 (sk), ints .u8 (rk), #[.int .i64 ((next + 1 : Nat) : Int)]]) 136 r1_2 rfl kj (run_storeQ 3 _ _ g 66 136 [#[.int .i64 nx], #[.int .u64 ((B : Nat) : Int)], ints .u8 (sk), ints .u8 (rk)] [] _ (.int .i64 ((next + 1 : Nat) : Int)) r1_2 rfl kj kj kj (by rw [Qao, Qao, Qao, Qao]; simp only [Array.size_append, cat, ((Qaf _ _).trans hrk), ((Qaf _ _).trans hsk)]; rfl) rfl rfl) fun W3 p3 r1_3 => ?_
 have x3 : ExtB g w W3 := ExtB.puts x2 p3
 refine Qac ?_
 refine hK27 _ _ ?_
 refine wp_seq_k fun K28 hK28 => ?_
 refine Qab ?_
 refine Qaa (.slice (some ⟨g13, 0, none⟩) 4 4) 61 rfl kj kj ?_
 refine Qaa (.slice a24_ ((fs).length) c24_) 62 rfl kj kj ?_
 have f29_3 := (hv21.puts p3 (QfS hv21 (QaA r1_1)))
 have r13_2 := (Qad r13_1_14 e2)
 have r13_3 := (Puts.row p3 r13_2 (Qal hg l13))
 refine QeC (k := .u8) (T := 5) (xs := hdV next) (ys := fs) (w.heap.size) 1 (.tmp 61) (.tmp 62) 33 rfl kj kj (by decide) 63 rfl kj kj kj (QcE (xs := hdV next) (Qc3 _) l13 r13_3 (by decide)) (OwnN.rd f29_3) (by rw [Qc3, lfs]; omega) (Nat.le_trans (Nat.le_trans (Nat.le_trans (Nat.le_refl _) e1.size) e2.size) (Nat.le_of_eq p3.2.2.2.1.symm)) fun zs W4 f30 l4 => ?_
 have x4 : ExtB g w W4 := ExtB.low x3 l4 (ExtB.refl g w).2.2.2.1
 refine Qaa (zs) 4 rfl kj kj ?_
 refine Qaa (.nilIface) 5 rfl kj kj ?_
 refine Qac ?_
 refine hK28 _ _ ?_
 refine wp_ret ?_
 repeat (first | with_reducible refine goR1 ?_ | with_reducible refine goR2 ?_)
 have r1_4 := (QeK l4 r1_3 (QaA hg))
 exact (show bodyPost _ _ _ .ret _ _ from ret2 (zs) (.nilIface) rfl (Qa0 kj) (Qa0 kj) ⟨zs, rfl, by unfold msgV; rw [es]; exact OwnN.base (ExtB.refl g w).2.2.2.1 f30, x4, r1_4⟩)
end Go.Proofs.YtoiendjhplbjjaaDoor.Ll
end
section
namespace Go.Proofs.YtoiendjhplbjjaaDoor.Ll
open Go Go.RowKit
open Rely Auto Own Sha Sha
set_option linter.unusedVariables false
set_option linter.unusedSimpArgs false
open Cha Ae
set_option maxRecDepth 100000 in
set_option maxHeartbeats 4000000 in
theorem QhD (m : Nat) (text : List Int) (v : Value) (th tq : TypeId) (g : Nat) (nx : Int) (B : Nat) (hnx : 0 ≤ nx ∧ nx ≤ 4294967295) (hB : B < 18446744073709551616) (sk rk : List Int) (next : Nat) (hsk : sk.length = 32) (hrk : rk.length = 32) (w : World) (hg : w.heap[g]? = some (.cells (cat [#[.int .i64 nx], #[.int .u64 ((B : Nat) : Int)], ints .u8 (sk), ints .u8 (rk), #[.int .i64 ((next : Nat) : Int)]]) 136)) (hh : w.heap[2]? = some (.cells (ints .u32 [1634760805, 857760878, 2036477234, 1797285236]) th)) (hq : w.heap[3]? = some (.cells (ints .i64 [0, 4, 8, 12, 1, 5, 9, 13, 2, 6, 10, 14, 3, 7, 11, 15, 0, 5, 10, 15, 1, 6, 11, 12, 2, 7, 8, 13, 3, 4, 9, 14]) tq)) (hnh : 2 ≠ g) (hnq : 3 ≠ g) (hst : ∀ W, ExtB g w W → RdK .u8 W.heap.size (msgV rk m text) v W) (hm : m < 4294967295) (htl : text.length ≤ 65536) (htb : Qan text) (hc : chkW nx B ((m : Nat) : Int) = 0) (nx2 : Int) (B2 : Nat) (hmk : ∀ W : World, W.heap[g]? = some (.cells (cat [#[.int .i64 nx], #[.int .u64 ((B : Nat) : Int)], ints .u8 (sk), ints .u8 (rk), #[.int .i64 ((next : Nat) : Int)]]) 136) → Calls Tryd.prog 89 #[.pointer (some ⟨g, 0, none⟩), .int .i64 ((m : Nat) : Int)] W (fun e W2 => e = .returned .nilIface ∧ ExtB g W W2 ∧ W2.heap[g]? = some (.cells (cat [#[.int .i64 nx2], #[.int .u64 ((B2 : Nat) : Int)], ints .u8 (sk), ints .u8 (rk), #[.int .i64 ((next : Nat) : Int)]]) 136))) :
  Calls Tryd.prog 49 #[.pointer (some ⟨g, 0, none⟩), v] w (fun e W => ∃ u, e = .returned (.tuple #[u, .nilIface]) ∧ OwnN .u8 5 w.heap.size text u W ∧ ExtB g w W ∧ W.heap[g]? = some (.cells (cat [#[.int .i64 nx2], #[.int .u64 ((B2 : Nat) : Int)], ints .u8 (sk), ints .u8 (rk), #[.int .i64 ((next : Nat) : Int)]]) 136)) := by
 have lms := Qfe rk m text
 have e4s : (msgV rk m text).take 4 = hdV m := rfl
 have e5s : (msgV rk m text).drop 4 = Qcd rk (nonV m) (hdV m) text := rfl
 obtain ⟨sl, esl⟩ : ∃ z : List Int, msgV rk m text = z := ⟨_, rfl⟩
 obtain ⟨fs, es⟩ : ∃ z : List Int, Qcd rk (nonV m) (hdV m) text = z := ⟨_, rfl⟩
 rw [esl] at hst lms e4s e5s
 rw [es] at e5s
 have e4 : sl.take 4 = hdV m := e4s
 have e5 : sl.drop 4 = fs := e5s
 have h4 : 4 ≤ sl.length := by omega
 obtain ⟨a_t, c_t, rfl, -⟩ := id (hst _ (ExtB.refl g w))
 have ctk : sl.length ≤ c_t := by
  obtain ⟨_, _, e, q2, _⟩ := id (hst _ (ExtB.refl g w))
  simp only [Value.slice.injEq] at e
  obtain ⟨-, -, rfl⟩ := e
  exact q2
 refine enter 72 [(0, .pointer (some ⟨g, 0, none⟩)), (1, .slice a_t sl.length c_t)] Tryd.func49 rfl rfl kj rfl ?_
 refine wp_seq_k fun K4 hK4 => ?_
 refine Qab ?_
 refine Qaa (.slice none 0 0) 4 rfl kj kj ?_
 refine Qaa (.nilIface) 5 rfl kj kj ?_
 refine Qac ?_
 refine hK4 _ _ ?_
 refine wp_seq_k fun K5 hK5 => ?_
 refine wp_seq_k fun K6 hK6 => ?_
 refine Qab ?_
 refine Qaa (.pointer (some ⟨g, 0, none⟩)) 13 rfl kj kj ?_
 refine Qaa (.bool false) 14 rfl kj kj ?_
 refine Qac ?_
 refine hK6 _ _ ?_
 refine cond_false kj ?_
 refine wp_skip ?_
 refine hK5 _ _ ?_
 refine wp_seq_k fun K7 hK7 => ?_
 refine wp_seq_k fun K8 hK8 => ?_
 refine Qab ?_
 refine Qaa (.slice a_t sl.length c_t) 16 rfl kj kj ?_
 refine Qaa (.int .i64 ((sl.length : Nat) : Int)) 17 rfl kj kj ?_
 refine Qaa (.bool false) 18 rfl kj (Qah (u := .bool (decide (((sl.length : Nat) : Int) < 20))) kj (congrArg Value.bool (decide_eq_false (by omega)))) ?_
 refine Qaa (.bool false) 19 rfl kj kj ?_
 refine Qaa (.slice a_t sl.length c_t) 20 rfl kj kj ?_
 refine Qaa (.int .i64 ((sl.length : Nat) : Int)) 21 rfl kj kj ?_
 refine Qaa (.bool false) 22 rfl kj (Qah (u := .bool (decide (((sl.length : Nat) : Int) > 65556))) kj (congrArg Value.bool (decide_eq_false (by omega)))) ?_
 refine Qaa (.bool false) 23 rfl kj kj ?_
 refine Qac ?_
 refine hK8 _ _ ?_
 refine cond_false kj ?_
 refine wp_skip ?_
 refine hK7 _ _ ?_
 refine wp_seq_k fun K9 hK9 => ?_
 refine Qab ?_
 refine Qaa (.int .i64 ((0 : Nat) : Int)) 6 rfl kj kj ?_
 refine Qac ?_
 refine hK9 _ _ ?_
 refine wp_seq_k fun K10 hK10 => ?_
 refine wp_seq_k fun K11 hK11 => ?_
 refine Qab ?_
 refine Qaa (.slice a_t sl.length c_t) 25 rfl kj kj ?_
 refine Qaa (.slice a_t 4 c_t) 26 rfl kj (Qc9 (len := sl.length) 33 _ _ 4 5 rfl kj kj kj .i64 kj (Nat.le_trans h4 ctk)) ?_
 refine Qaa (.int .i64 4) 27 rfl kj kj ?_
 refine Qaa (.int .i64 0) 28 rfl kj kj ?_
 refine Qac ?_
 refine hK11 _ _ ?_
 refine wp_block ?_
 have hnh_12 : (hdV m).length = 4 := (Qc3 m)
 obtain ⟨gch_12, och_12, hah_12, hlh_12, hch_12⟩ := Qec (rdKT e4 (hst _ (ExtB.refl g w)) h4) (by rw [hnh_12]; omega)
 refine wp_loop_rounds 5 ?_
 show Code.wp _ _ (Exit.then (Code.rounds _ _ _ 4) _) _ _
 refine wp_seq_k fun K13 hK13 => ?_
 refine Qab ?_
 refine Qaa (.bool true) 29 rfl kj kj ?_
 refine Qac ?_
 refine hK13 _ _ ?_
 refine wp_seq_k fun K14 hK14 => ?_
 refine cond_true kj ?_
 refine wp_skip ?_
 refine hK14 _ _ ?_
 refine wp_seq_k fun K15 hK15 => ?_
 refine wp_block ?_
 refine wp_seq_k fun K16 hK16 => ?_
 refine Qab ?_
 refine Qaa (.pointer (some ⟨gch_12, och_12 + 0, none⟩)) 30 rfl kj (QaR 33 _ _ .i64 0 gch_12 och_12 4 c_t 5 a_t _ hah_12 rfl rfl kj kj kj kj (Nat.lt_of_lt_of_eq (show 0 < 4 by omega) hnh_12.symm)) ?_
 refine Qaa (.int .u8 ((((m / 16777216 % 256) : Nat) : Int))) 31 rfl kj (Qa6 5 _ _ (.int .u8 ((((m / 16777216 % 256) : Nat) : Int))) ((hch_12 0 (Nat.lt_of_lt_of_eq (show 0 < 4 by omega) hnh_12.symm)).trans (congrArg (fun z => some (Value.int .u8 z)) rfl)) rfl kj kj) ?_
 refine Qaa (.int .u8 ((((m / 16777216 % 256) : Nat) : Int))) 8 rfl kj kj ?_
 refine Qac ?_
 refine hK16 _ _ ?_
 refine Qab ?_
 refine Qaa (.int .i64 ((0 : Nat) : Int)) 32 rfl kj kj ?_
 refine Qaa (.int .i64 (((0 * 256 : Nat) : Int))) 33 rfl kj (QaF .shl _ _ _ _ .i64 .u64 _ _ _ rfl kj kj (Qcj _ _ _ _ _ _ (by decide) (QbH _ (by omega)))) ?_
 refine Qaa (.int .u8 ((((m / 16777216 % 256) : Nat) : Int))) 34 rfl kj kj ?_
 refine Qaa (.int .i64 ((((m / 16777216 % 256) : Nat) : Int))) 35 rfl kj (Qah (u := .int .i64 (IntKind.i64.wrap ((((m / 16777216 % 256) : Nat) : Int)))) kj (congrArg (Value.int .i64) (IntWalk.i64_in _ (by omega)))) ?_
 refine Qaa (.int .i64 ((((m / 16777216) : Nat) : Int))) 36 rfl kj (Qah (u := .int .i64 (bits .or .i64 (((0 * 256 : Nat) : Int)) ((((m / 16777216 % 256) : Nat) : Int)))) kj (congrArg (Value.int .i64) (Qc2 0 (m / 16777216 % 256) (m / 16777216) (by omega) (by omega) (by omega)))) ?_
 refine Qaa (.int .i64 ((((m / 16777216) : Nat) : Int))) 6 rfl kj kj ?_
 refine Qac ?_
 refine hK15 _ _ ?_
 refine Qab ?_
 refine Qaa (.int .i64 1) 37 rfl kj kj ?_
 refine Qaa (.int .i64 1) 28 rfl kj kj ?_
 refine Qac ?_
 show Code.rounds _ _ _ 4 _ _
 show Code.wp _ _ (Exit.then (Code.rounds _ _ _ 3) _) _ _
 refine wp_seq_k fun K17 hK17 => ?_
 refine Qab ?_
 refine Qaa (.bool true) 29 rfl kj kj ?_
 refine Qac ?_
 refine hK17 _ _ ?_
 refine wp_seq_k fun K18 hK18 => ?_
 refine cond_true kj ?_
 refine wp_skip ?_
 refine hK18 _ _ ?_
 refine wp_seq_k fun K19 hK19 => ?_
 refine wp_block ?_
 refine wp_seq_k fun K20 hK20 => ?_
 refine Qab ?_
 refine Qaa (.pointer (some ⟨gch_12, och_12 + 1, none⟩)) 30 rfl kj (QaR 33 _ _ .i64 1 gch_12 och_12 4 c_t 5 a_t _ hah_12 rfl rfl kj kj kj kj (Nat.lt_of_lt_of_eq (show 1 < 4 by omega) hnh_12.symm)) ?_
 refine Qaa (.int .u8 ((((m / 65536 % 256) : Nat) : Int))) 31 rfl kj (Qa6 5 _ _ (.int .u8 ((((m / 65536 % 256) : Nat) : Int))) ((hch_12 1 (Nat.lt_of_lt_of_eq (show 1 < 4 by omega) hnh_12.symm)).trans (congrArg (fun z => some (Value.int .u8 z)) rfl)) rfl kj kj) ?_
 refine Qaa (.int .u8 ((((m / 65536 % 256) : Nat) : Int))) 8 rfl kj kj ?_
 refine Qac ?_
 refine hK20 _ _ ?_
 refine Qab ?_
 refine Qaa (.int .i64 ((((m / 16777216) : Nat) : Int))) 32 rfl kj kj ?_
 refine Qaa (.int .i64 ((((m / 16777216) * 256 : Nat) : Int))) 33 rfl kj (QaF .shl _ _ _ _ .i64 .u64 _ _ _ rfl kj kj (Qcj _ _ _ _ _ _ (by decide) (QbH _ (by omega)))) ?_
 refine Qaa (.int .u8 ((((m / 65536 % 256) : Nat) : Int))) 34 rfl kj kj ?_
 refine Qaa (.int .i64 ((((m / 65536 % 256) : Nat) : Int))) 35 rfl kj (Qah (u := .int .i64 (IntKind.i64.wrap ((((m / 65536 % 256) : Nat) : Int)))) kj (congrArg (Value.int .i64) (IntWalk.i64_in _ (by omega)))) ?_
 refine Qaa (.int .i64 ((((m / 65536) : Nat) : Int))) 36 rfl kj (Qah (u := .int .i64 (bits .or .i64 ((((m / 16777216) * 256 : Nat) : Int)) ((((m / 65536 % 256) : Nat) : Int)))) kj (congrArg (Value.int .i64) (Qc2 (m / 16777216) (m / 65536 % 256) (m / 65536) (by omega) (by omega) (by omega)))) ?_
 refine Qaa (.int .i64 ((((m / 65536) : Nat) : Int))) 6 rfl kj kj ?_
 refine Qac ?_
 refine hK19 _ _ ?_
 refine Qab ?_
 refine Qaa (.int .i64 2) 37 rfl kj kj ?_
 refine Qaa (.int .i64 2) 28 rfl kj kj ?_
 refine Qac ?_
 show Code.rounds _ _ _ 3 _ _
 show Code.wp _ _ (Exit.then (Code.rounds _ _ _ 2) _) _ _
 refine wp_seq_k fun K21 hK21 => ?_
 refine Qab ?_
 refine Qaa (.bool true) 29 rfl kj kj ?_
 refine Qac ?_
 refine hK21 _ _ ?_
 refine wp_seq_k fun K22 hK22 => ?_
 refine cond_true kj ?_
 refine wp_skip ?_
 refine hK22 _ _ ?_
 refine wp_seq_k fun K23 hK23 => ?_
 refine wp_block ?_
 refine wp_seq_k fun K24 hK24 => ?_
 refine Qab ?_
 refine Qaa (.pointer (some ⟨gch_12, och_12 + 2, none⟩)) 30 rfl kj (QaR 33 _ _ .i64 2 gch_12 och_12 4 c_t 5 a_t _ hah_12 rfl rfl kj kj kj kj (Nat.lt_of_lt_of_eq (show 2 < 4 by omega) hnh_12.symm)) ?_
 refine Qaa (.int .u8 ((((m / 256 % 256) : Nat) : Int))) 31 rfl kj (Qa6 5 _ _ (.int .u8 ((((m / 256 % 256) : Nat) : Int))) ((hch_12 2 (Nat.lt_of_lt_of_eq (show 2 < 4 by omega) hnh_12.symm)).trans (congrArg (fun z => some (Value.int .u8 z)) rfl)) rfl kj kj) ?_
 refine Qaa (.int .u8 ((((m / 256 % 256) : Nat) : Int))) 8 rfl kj kj ?_
 refine Qac ?_
 refine hK24 _ _ ?_
 refine Qab ?_
 refine Qaa (.int .i64 ((((m / 65536) : Nat) : Int))) 32 rfl kj kj ?_
 refine Qaa (.int .i64 ((((m / 65536) * 256 : Nat) : Int))) 33 rfl kj (QaF .shl _ _ _ _ .i64 .u64 _ _ _ rfl kj kj (Qcj _ _ _ _ _ _ (by decide) (QbH _ (by omega)))) ?_
 refine Qaa (.int .u8 ((((m / 256 % 256) : Nat) : Int))) 34 rfl kj kj ?_
 refine Qaa (.int .i64 ((((m / 256 % 256) : Nat) : Int))) 35 rfl kj (Qah (u := .int .i64 (IntKind.i64.wrap ((((m / 256 % 256) : Nat) : Int)))) kj (congrArg (Value.int .i64) (IntWalk.i64_in _ (by omega)))) ?_
 refine Qaa (.int .i64 ((((m / 256) : Nat) : Int))) 36 rfl kj (Qah (u := .int .i64 (bits .or .i64 ((((m / 65536) * 256 : Nat) : Int)) ((((m / 256 % 256) : Nat) : Int)))) kj (congrArg (Value.int .i64) (Qc2 (m / 65536) (m / 256 % 256) (m / 256) (by omega) (by omega) (by omega)))) ?_
 refine Qaa (.int .i64 ((((m / 256) : Nat) : Int))) 6 rfl kj kj ?_
 refine Qac ?_
 refine hK23 _ _ ?_
 refine Qab ?_
 refine Qaa (.int .i64 3) 37 rfl kj kj ?_
 refine Qaa (.int .i64 3) 28 rfl kj kj ?_
 refine Qac ?_
 show Code.rounds _ _ _ 2 _ _
 show Code.wp _ _ (Exit.then (Code.rounds _ _ _ 1) _) _ _
 refine wp_seq_k fun K25 hK25 => ?_
 refine Qab ?_
 refine Qaa (.bool true) 29 rfl kj kj ?_
 refine Qac ?_
 refine hK25 _ _ ?_
 refine wp_seq_k fun K26 hK26 => ?_
 refine cond_true kj ?_
 refine wp_skip ?_
 refine hK26 _ _ ?_
 refine wp_seq_k fun K27 hK27 => ?_
 refine wp_block ?_
 refine wp_seq_k fun K28 hK28 => ?_
 refine Qab ?_
 refine Qaa (.pointer (some ⟨gch_12, och_12 + 3, none⟩)) 30 rfl kj (QaR 33 _ _ .i64 3 gch_12 och_12 4 c_t 5 a_t _ hah_12 rfl rfl kj kj kj kj (Nat.lt_of_lt_of_eq (show 3 < 4 by omega) hnh_12.symm)) ?_
 refine Qaa (.int .u8 ((((m % 256) : Nat) : Int))) 31 rfl kj (Qa6 5 _ _ (.int .u8 ((((m % 256) : Nat) : Int))) ((hch_12 3 (Nat.lt_of_lt_of_eq (show 3 < 4 by omega) hnh_12.symm)).trans (congrArg (fun z => some (Value.int .u8 z)) rfl)) rfl kj kj) ?_
 refine Qaa (.int .u8 ((((m % 256) : Nat) : Int))) 8 rfl kj kj ?_
 refine Qac ?_
 refine hK28 _ _ ?_
 refine Qab ?_
 refine Qaa (.int .i64 ((((m / 256) : Nat) : Int))) 32 rfl kj kj ?_
 refine Qaa (.int .i64 ((((m / 256) * 256 : Nat) : Int))) 33 rfl kj (QaF .shl _ _ _ _ .i64 .u64 _ _ _ rfl kj kj (Qcj _ _ _ _ _ _ (by decide) (QbH _ (by omega)))) ?_
 refine Qaa (.int .u8 ((((m % 256) : Nat) : Int))) 34 rfl kj kj ?_
 refine Qaa (.int .i64 ((((m % 256) : Nat) : Int))) 35 rfl kj (Qah (u := .int .i64 (IntKind.i64.wrap ((((m % 256) : Nat) : Int)))) kj (congrArg (Value.int .i64) (IntWalk.i64_in _ (by omega)))) ?_
 refine Qaa (.int .i64 (((m : Nat) : Int))) 36 rfl kj (Qah (u := .int .i64 (bits .or .i64 ((((m / 256) * 256 : Nat) : Int)) ((((m % 256) : Nat) : Int)))) kj (congrArg (Value.int .i64) (Qc2 (m / 256) (m % 256) m (by omega) (by omega) (by omega)))) ?_
 refine Qaa (.int .i64 (((m : Nat) : Int))) 6 rfl kj kj ?_
 refine Qac ?_
 refine hK27 _ _ ?_
 refine Qab ?_
 refine Qaa (.int .i64 4) 37 rfl kj kj ?_
 refine Qaa (.int .i64 4) 28 rfl kj kj ?_
 refine Qac ?_
 show Code.rounds _ _ _ 1 _ _
 show Code.wp _ _ (Exit.then (Code.rounds _ _ _ 0) _) _ _
 refine wp_seq_k fun K29 hK29 => ?_
 refine Qab ?_
 refine Qaa (.bool false) 29 rfl kj kj ?_
 refine Qac ?_
 refine hK29 _ _ ?_
 refine wp_seq_k fun K30 hK30 => ?_
 refine cond_false kj ?_
 refine wp_exit ?_
 refine hK10 _ _ ?_
 refine wp_seq_k fun K31 hK31 => ?_
 refine wp_seq_k fun K32 hK32 => ?_
 refine Qab ?_
 refine Qaa (.pointer (some ⟨g, 0, none⟩)) 38 rfl kj kj ?_
 refine Qaa (.pointer (some ⟨g, 0, none⟩)) 39 rfl kj kj ?_
 refine Qaa (.pointer (some ⟨g, 0, none⟩)) 40 rfl kj kj ?_
 refine Qaa (.int .i64 (((m : Nat) : Int))) 41 rfl kj kj ?_
 refine Qat (.nilIface) 88 #[.pointer (some ⟨g, 0, none⟩), .int .i64 (((m : Nat) : Int))] 42 rfl kj kj (errV_nil hc ▸ checkC g nx B ((m : Nat) : Int) hnx hB sk rk next hsk hrk _ hg) fun W1 e1 => ?_
 have x1 : ExtB g w W1 := ExtB.ext (ExtB.refl g w) e1
 refine Qaa (.nilIface) 9 rfl kj kj ?_
 refine Qac ?_
 refine hK32 _ _ ?_
 refine wp_seq_k fun K33 hK33 => ?_
 refine Qab ?_
 refine Qaa (.nilIface) 43 rfl kj kj ?_
 refine Qaa (.bool false) 44 rfl kj kj ?_
 refine Qac ?_
 refine hK33 _ _ ?_
 refine cond_false kj ?_
 refine wp_skip ?_
 refine hK31 _ _ ?_
 refine wp_seq_k fun K34 hK34 => ?_
 refine QaS 15 [⟨none, [(0, none)]⟩, ⟨none, [(47, some 0)]⟩, ⟨none, [(48, some 1)]⟩, ⟨none, [(49, some 2)]⟩, ⟨none, [(6, none)]⟩, ⟨none, [(51, some 4)]⟩, ⟨none, [(1, none)]⟩, ⟨none, [(53, some 6)]⟩, ⟨none, [(1, none)]⟩, ⟨none, [(55, some 8)]⟩, ⟨none, [(50, some 3), (52, some 5), (54, some 7), (56, some 9)]⟩, ⟨none, [(57, some 10)]⟩, ⟨none, [(46, some 11)]⟩, ⟨none, [(46, some 11)]⟩, ⟨none, [(58, some 12)]⟩] kj kj fun F hF => ?_
 refine Qa5 (Qam _) (.pointer (some ⟨g, 0, none⟩)) kj kj (fun W => by kernel_rfl) ?_
 refine Qa5 (Qam _) (.pointer (some ⟨g, 0, none⟩)) kj kj (fun W => by kernel_rfl) ?_
 refine Qa5 (Qam _) (.pointer (some ⟨g, 34, none⟩)) kj kj (fun W => by kernel_rfl) ?_
 have r1_1 := (Qad hg e1)
 refine Qbm (Qam _) (.agg (ints .u8 (rk))) kj kj (fun W hR => (QaG 23 _ g 34 136 _ _ _ (Qad (Qad r1_1 (Qai _)) hR) rfl kj (QaB [#[.int .i64 nx], #[.int .u64 ((B : Nat) : Int)], ints .u8 (sk)] [ints .u8 (rk)] [#[.int .i64 ((next : Nat) : Int)]] 34 (by rw [Qao, Qao, Qao]; simp only [Array.size_append, cat, ((Qaf _ _).trans hsk)]; rfl)) kj (isz (n := 32) kj ((Qaf _ _).trans hrk)))) ?_
 refine Qa5 (Qam _) (.int .i64 (((m : Nat) : Int))) kj kj (fun W => by kernel_rfl) ?_
 refine Qdi (Qam _) (OwnN .u8 5 W1.heap.size (nonV m)) (OwnN.stable _ _ _ _) 86 #[.int .i64 (((m : Nat) : Int))] kj kj (fun W => by kernel_rfl) (fun W hR => (QgW W1.heap.size m _ (Rely.Ext.trans (Qai _) hR).size)) ?_
 refine Qa5 (Qam _) (.slice a_t sl.length c_t) kj kj (fun W => by kernel_rfl) ?_
 refine Qa5 (Qam _) (.slice a_t 4 c_t) kj kj (fun W => (Qc9 (len := sl.length) 33 _ _ 4 5 rfl kj kj kj .i64 kj (Nat.le_trans h4 ctk))) ?_
 refine Qa5 (Qam _) (.slice a_t sl.length c_t) kj kj (fun W => by kernel_rfl) ?_
 refine Qa5 (Qam _) (.slice (Qco a_t c_t 4) (sl.length - 4) (c_t - 4)) kj kj (fun W => (QcA 33 _ _ 4 5 rfl kj kj kj .i64 kj h4 ctk)) ?_
 have r3_1 := (Qad hh e1)
 have r2_1 := (Qad hq e1)
 refine Qfn (Qam _) (MixR W1.heap.size text) (Qcr _ _) 74 (fun ρ W hR hX => ?_) ?_
 ·skip
  have e50_ : ρ 50 = .agg (ints .u8 (rk)) := hX.1
  have q52_ : (OwnN .u8 5 W1.heap.size (nonV m)) (ρ 52) W := hX.2.1
  obtain ⟨ar52, cr52, e52_, -⟩ := id (OwnN.rd q52_)
  have rd52_ := OwnN.rd q52_
  rw [e52_] at rd52_
  have e54_ : ρ 54 = .slice a_t 4 c_t := hX.2.2.1
  have e56_ : ρ 56 = .slice (Qco a_t c_t 4) (sl.length - 4) (c_t - 4) := hX.2.2.2.1
  refine ⟨#[.agg (ints .u8 (rk)), .slice ar52 ((nonV m).length) cr52, .slice a_t 4 c_t, .slice (Qco a_t c_t 4) (sl.length - 4) (c_t - 4)], Eq.trans (b := Result.ok (Next.enter 74 #[ρ 50, ρ 52, ρ 54, ρ 56]) W) kj (by rw [e50_, e52_, e54_, e56_]), ?_⟩
  exact ((Qh7 rk (nonV m) (hdV m) text fs es _ _ _ _ _ _ th tq W (Qad (Qad r3_1 (Qai _)) hR) (Qad (Qad r2_1 (Qai _)) hR) hrk rd52_ (RdK.ext (rdKT e4 (hst _ x1) h4) (Rely.Ext.trans (Qai _) hR)) (RdK.ext (rdKD e5 (hst _ x1) h4) (Rely.Ext.trans (Qai _) hR)) (Qe6 _) htb (Qfb _) (by rw [Qc3]; decide) (by omega)).mono fun e W2 hg => by obtain ⟨v2, e1, e2, u, e3, e4⟩ := hg; exact ⟨v2, e1, e2, u, e3, e4.base (Rely.Ext.trans (Qai _) hR).size⟩)
 refine QcY (Qam _) (MixR W1.heap.size text) (Qcr _ _) (fun ρ W hR hh => ⟨ρ 57, W, by kernel_rfl, Rely.Ext.refl _, (show (MixR W1.heap.size text) (ρ 57) W from hh.1)⟩) ?_
 refine QcY (Qam _) (OwnN .u8 5 W1.heap.size text) (OwnN.stable _ _ _ _) (fun ρ W hR hh => ?_) ?_
 ·obtain ⟨u, e, h⟩ := (show (MixR W1.heap.size text) (ρ 46) W from hh.1)
  exact ⟨_, W, QbV (.tmp 46) 0 #[u, .nilIface] _ rfl e rfl, Rely.Ext.refl _, h⟩
 refine QcY (Qam _) (fun v W => v = .nilIface) (fun _ _ _ _ h => h) (fun ρ W hR hh => ?_) ?_
 ·obtain ⟨u, e, h⟩ := (show (MixR W1.heap.size text) (ρ 46) W from hh.1)
  exact ⟨_, W, QbV (.tmp 46) 1 #[u, .nilIface] _ rfl e rfl, Rely.Ext.refl _, rfl⟩
 refine QcY (Qam _) (OwnN .u8 5 W1.heap.size text) (OwnN.stable _ _ _ _) (fun ρ W hR hh => ⟨ρ 58, W, by kernel_rfl, Rely.Ext.refl _, (show (OwnN .u8 5 W1.heap.size text) (ρ 58) W from hh.1)⟩) ?_
 refine QcZ (hF _ fun W2 e2 => ?_)
 simp only [List.nil_append, List.cons_append, List.take_succ_cons, List.take_zero, List.drop_succ_cons, List.drop_zero, finE, up]
 intro vv35 hv35 vv36 hv36 vv37 hv37 vv38 hv38 vv39 hv39 vv40 hv40
 clear hF
 have x2 : ExtB g w W2 := ExtB.ext x1 e2
 obtain ⟨a41_, c41_, rfl, -⟩ := id (OwnN.rd hv35)
 obtain ⟨a42_, c42_, rfl, -⟩ := id (OwnN.rd hv38)
 subst hv39
 obtain ⟨a43_, c43_, rfl, -⟩ := id (OwnN.rd hv40)
 refine Qaa (.nilIface) 11 rfl kj kj ?_
 refine Qac ?_
 refine hK34 _ _ ?_
 refine wp_seq_k fun K44 hK44 => ?_
 refine wp_seq_k fun K45 hK45 => ?_
 refine Qab ?_
 refine Qaa (.nilIface) 60 rfl kj kj ?_
 refine Qaa (.bool false) 61 rfl kj kj ?_
 refine Qac ?_
 refine hK45 _ _ ?_
 refine cond_false kj ?_
 refine wp_skip ?_
 refine hK44 _ _ ?_
 refine wp_seq_k fun K46 hK46 => ?_
 refine wp_seq_k fun K47 hK47 => ?_
 refine Qab ?_
 refine Qaa (.pointer (some ⟨g, 0, none⟩)) 63 rfl kj kj ?_
 refine Qaa (.pointer (some ⟨g, 0, none⟩)) 64 rfl kj kj ?_
 refine Qaa (.pointer (some ⟨g, 0, none⟩)) 65 rfl kj kj ?_
 refine Qaa (.int .i64 (((m : Nat) : Int))) 66 rfl kj kj ?_
 have r1_2 := (Qad r1_1 e2)
 refine Qa8 (fun v W' => v = .nilIface ∧ ExtB g W2 W' ∧ W'.heap[g]? = some (.cells (cat [#[.int .i64 nx2], #[.int .u64 ((B2 : Nat) : Int)], ints .u8 (sk), ints .u8 (rk), #[.int .i64 ((next : Nat) : Int)]]) 136)) 89 #[.pointer (some ⟨g, 0, none⟩), .int .i64 (((m : Nat) : Int))] 67 rfl kj kj ((hmk _ r1_2).mono fun e w' ⟨h1, h2, h3⟩ => ⟨_, h1, rfl, h2, h3⟩) fun v W3 h => ?_
 obtain ⟨rfl, q3, r1_3⟩ := h
 have x3 : ExtB g w W3 := ExtB.trans x2 q3
 refine Qaa (.nilIface) 12 rfl kj kj ?_
 refine Qac ?_
 refine hK47 _ _ ?_
 refine wp_seq_k fun K48 hK48 => ?_
 refine Qab ?_
 refine Qaa (.nilIface) 68 rfl kj kj ?_
 refine Qaa (.bool false) 69 rfl kj kj ?_
 refine Qac ?_
 refine hK48 _ _ ?_
 refine cond_false kj ?_
 refine wp_skip ?_
 refine hK46 _ _ ?_
 refine wp_seq_k fun K49 hK49 => ?_
 refine Qab ?_
 refine Qaa (.slice a43_ ((text).length) c43_) 71 rfl kj kj ?_
 refine Qaa (.slice a43_ ((text).length) c43_) 4 rfl kj kj ?_
 refine Qaa (.nilIface) 5 rfl kj kj ?_
 refine Qac ?_
 refine hK49 _ _ ?_
 refine wp_ret ?_
 repeat (first | with_reducible refine goR1 ?_ | with_reducible refine goR2 ?_)
 have f50_3 := (QeY hv40 q3 (QfS hv40 (QaA r1_1)))
 exact (show bodyPost _ _ _ .ret _ _ from ret2 (.slice a43_ ((text).length) c43_) (.nilIface) rfl (Qa0 kj) (Qa0 kj) ⟨_, rfl, OwnN.base x1.2.2.2.1 f50_3, x3, r1_3⟩)
set_option maxRecDepth 100000 in
set_option maxHeartbeats 4000000 in
theorem QgO (m : Nat) (text : List Int) (v : Value) (th tq : TypeId) (g : Nat) (nx : Int) (B : Nat) (hnx : 0 ≤ nx ∧ nx ≤ 4294967295) (hB : B < 18446744073709551616) (sk rk : List Int) (next : Nat) (hsk : sk.length = 32) (hrk : rk.length = 32) (w : World) (hg : w.heap[g]? = some (.cells (cat [#[.int .i64 nx], #[.int .u64 ((B : Nat) : Int)], ints .u8 (sk), ints .u8 (rk), #[.int .i64 ((next : Nat) : Int)]]) 136)) (hh : w.heap[2]? = some (.cells (ints .u32 [1634760805, 857760878, 2036477234, 1797285236]) th)) (hq : w.heap[3]? = some (.cells (ints .i64 [0, 4, 8, 12, 1, 5, 9, 13, 2, 6, 10, 14, 3, 7, 11, 15, 0, 5, 10, 15, 1, 6, 11, 12, 2, 7, 8, 13, 3, 4, 9, 14]) tq)) (hnh : 2 ≠ g) (hnq : 3 ≠ g) (ht : RdK .u8 w.heap.size (msgV rk m text) v w) (hm : m < 4294967295) (htl : text.length ≤ 65536) (htb : Qan text) (hc : chkW nx B ((m : Nat) : Int) ≠ 0) :
    Calls Tryd.prog 49 #[.pointer (some ⟨g, 0, none⟩), v] w (Ret w (.tuple #[.slice none 0 0, .iface 60 (.int .i64 (chkW nx B ((m : Nat) : Int)))])) := by
  have lms := Qfe rk m text
  have e4s : (msgV rk m text).take 4 = hdV m := rfl
  have e5s : (msgV rk m text).drop 4 = Qcd rk (nonV m) (hdV m) text := rfl
  obtain ⟨sl, esl⟩ : ∃ z : List Int, msgV rk m text = z := ⟨_, rfl⟩
  obtain ⟨fs, es⟩ : ∃ z : List Int, Qcd rk (nonV m) (hdV m) text = z := ⟨_, rfl⟩
  rw [esl] at ht lms e4s e5s
  rw [es] at e5s
  have e4 : sl.take 4 = hdV m := e4s
  have e5 : sl.drop 4 = fs := e5s
  have h4 : 4 ≤ sl.length := by omega
  obtain ⟨a_t, c_t, rfl, -⟩ := id (ht)
  have ctk : sl.length ≤ c_t := by
    obtain ⟨_, _, e, q2, _⟩ := id (ht)
    simp only [Value.slice.injEq] at e
    obtain ⟨-, -, rfl⟩ := e
    exact q2
  refine enter 72 [(0, .pointer (some ⟨g, 0, none⟩)), (1, .slice a_t sl.length c_t)] Tryd.func49 rfl rfl kj rfl ?_
  refine wp_seq_k fun K4 hK4 => ?_
  refine Qab ?_
  refine Qaa (.slice none 0 0) 4 rfl kj kj ?_
  refine Qaa (.nilIface) 5 rfl kj kj ?_
  refine Qac ?_
  refine hK4 _ _ ?_
  refine wp_seq_k fun K5 hK5 => ?_
  refine wp_seq_k fun K6 hK6 => ?_
  refine Qab ?_
  refine Qaa (.pointer (some ⟨g, 0, none⟩)) 13 rfl kj kj ?_
  refine Qaa (.bool false) 14 rfl kj kj ?_
  refine Qac ?_
  refine hK6 _ _ ?_
  refine cond_false kj ?_
  refine wp_skip ?_
  refine hK5 _ _ ?_
  refine wp_seq_k fun K7 hK7 => ?_
  refine wp_seq_k fun K8 hK8 => ?_
  refine Qab ?_
  refine Qaa (.slice a_t sl.length c_t) 16 rfl kj kj ?_
  refine Qaa (.int .i64 ((sl.length : Nat) : Int)) 17 rfl kj kj ?_
  refine Qaa (.bool false) 18 rfl kj (Qah (u := .bool (decide (((sl.length : Nat) : Int) < 20))) kj (congrArg Value.bool (decide_eq_false (by omega)))) ?_
  refine Qaa (.bool false) 19 rfl kj kj ?_
  refine Qaa (.slice a_t sl.length c_t) 20 rfl kj kj ?_
  refine Qaa (.int .i64 ((sl.length : Nat) : Int)) 21 rfl kj kj ?_
  refine Qaa (.bool false) 22 rfl kj (Qah (u := .bool (decide (((sl.length : Nat) : Int) > 65556))) kj (congrArg Value.bool (decide_eq_false (by omega)))) ?_
  refine Qaa (.bool false) 23 rfl kj kj ?_
  refine Qac ?_
  refine hK8 _ _ ?_
  refine cond_false kj ?_
  refine wp_skip ?_
  refine hK7 _ _ ?_
  refine wp_seq_k fun K9 hK9 => ?_
  refine Qab ?_
  refine Qaa (.int .i64 ((0 : Nat) : Int)) 6 rfl kj kj ?_
  refine Qac ?_
  refine hK9 _ _ ?_
  refine wp_seq_k fun K10 hK10 => ?_
  refine wp_seq_k fun K11 hK11 => ?_
  refine Qab ?_
  refine Qaa (.slice a_t sl.length c_t) 25 rfl kj kj ?_
  refine Qaa (.slice a_t 4 c_t) 26 rfl kj (Qc9 (len := sl.length) 33 _ _ 4 5 rfl kj kj kj .i64 kj (Nat.le_trans h4 ctk)) ?_
  refine Qaa (.int .i64 4) 27 rfl kj kj ?_
  refine Qaa (.int .i64 0) 28 rfl kj kj ?_
  refine Qac ?_
  refine hK11 _ _ ?_
  refine wp_block ?_
  have hnh_12 : (hdV m).length = 4 := (Qc3 m)
  obtain ⟨gch_12, och_12, hah_12, hlh_12, hch_12⟩ := Qec (rdKT e4 (RdK.ext ht (Rely.Ext.refl w)) h4) (by rw [hnh_12]; omega)
  refine wp_loop_rounds 5 ?_
  show Code.wp _ _ (Exit.then (Code.rounds _ _ _ 4) _) _ _
  refine wp_seq_k fun K13 hK13 => ?_
  refine Qab ?_
  refine Qaa (.bool true) 29 rfl kj kj ?_
  refine Qac ?_
  refine hK13 _ _ ?_
  refine wp_seq_k fun K14 hK14 => ?_
  refine cond_true kj ?_
  refine wp_skip ?_
  refine hK14 _ _ ?_
  refine wp_seq_k fun K15 hK15 => ?_
  refine wp_block ?_
  refine wp_seq_k fun K16 hK16 => ?_
  refine Qab ?_
  refine Qaa (.pointer (some ⟨gch_12, och_12 + 0, none⟩)) 30 rfl kj (QaR 33 _ _ .i64 0 gch_12 och_12 4 c_t 5 a_t _ hah_12 rfl rfl kj kj kj kj (Nat.lt_of_lt_of_eq (show 0 < 4 by omega) hnh_12.symm)) ?_
  refine Qaa (.int .u8 ((((m / 16777216 % 256) : Nat) : Int))) 31 rfl kj (Qa6 5 _ _ (.int .u8 ((((m / 16777216 % 256) : Nat) : Int))) ((hch_12 0 (Nat.lt_of_lt_of_eq (show 0 < 4 by omega) hnh_12.symm)).trans (congrArg (fun z => some (Value.int .u8 z)) rfl)) rfl kj kj) ?_
  refine Qaa (.int .u8 ((((m / 16777216 % 256) : Nat) : Int))) 8 rfl kj kj ?_
  refine Qac ?_
  refine hK16 _ _ ?_
  refine Qab ?_
  refine Qaa (.int .i64 ((0 : Nat) : Int)) 32 rfl kj kj ?_
  refine Qaa (.int .i64 (((0 * 256 : Nat) : Int))) 33 rfl kj (QaF .shl _ _ _ _ .i64 .u64 _ _ _ rfl kj kj (Qcj _ _ _ _ _ _ (by decide) (QbH _ (by omega)))) ?_
  refine Qaa (.int .u8 ((((m / 16777216 % 256) : Nat) : Int))) 34 rfl kj kj ?_
  refine Qaa (.int .i64 ((((m / 16777216 % 256) : Nat) : Int))) 35 rfl kj (Qah (u := .int .i64 (IntKind.i64.wrap ((((m / 16777216 % 256) : Nat) : Int)))) kj (congrArg (Value.int .i64) (IntWalk.i64_in _ (by omega)))) ?_
  refine Qaa (.int .i64 ((((m / 16777216) : Nat) : Int))) 36 rfl kj (Qah (u := .int .i64 (bits .or .i64 (((0 * 256 : Nat) : Int)) ((((m / 16777216 % 256) : Nat) : Int)))) kj (congrArg (Value.int .i64) (Qc2 0 (m / 16777216 % 256) (m / 16777216) (by omega) (by omega) (by omega)))) ?_
  refine Qaa (.int .i64 ((((m / 16777216) : Nat) : Int))) 6 rfl kj kj ?_
  refine Qac ?_
  refine hK15 _ _ ?_
  refine Qab ?_
  refine Qaa (.int .i64 1) 37 rfl kj kj ?_
  refine Qaa (.int .i64 1) 28 rfl kj kj ?_
  refine Qac ?_
  show Code.rounds _ _ _ 4 _ _
  show Code.wp _ _ (Exit.then (Code.rounds _ _ _ 3) _) _ _
  refine wp_seq_k fun K17 hK17 => ?_
  refine Qab ?_
  refine Qaa (.bool true) 29 rfl kj kj ?_
  refine Qac ?_
  refine hK17 _ _ ?_
  refine wp_seq_k fun K18 hK18 => ?_
  refine cond_true kj ?_
  refine wp_skip ?_
  refine hK18 _ _ ?_
  refine wp_seq_k fun K19 hK19 => ?_
  refine wp_block ?_
  refine wp_seq_k fun K20 hK20 => ?_
  refine Qab ?_
  refine Qaa (.pointer (some ⟨gch_12, och_12 + 1, none⟩)) 30 rfl kj (QaR 33 _ _ .i64 1 gch_12 och_12 4 c_t 5 a_t _ hah_12 rfl rfl kj kj kj kj (Nat.lt_of_lt_of_eq (show 1 < 4 by omega) hnh_12.symm)) ?_
  refine Qaa (.int .u8 ((((m / 65536 % 256) : Nat) : Int))) 31 rfl kj (Qa6 5 _ _ (.int .u8 ((((m / 65536 % 256) : Nat) : Int))) ((hch_12 1 (Nat.lt_of_lt_of_eq (show 1 < 4 by omega) hnh_12.symm)).trans (congrArg (fun z => some (Value.int .u8 z)) rfl)) rfl kj kj) ?_
  refine Qaa (.int .u8 ((((m / 65536 % 256) : Nat) : Int))) 8 rfl kj kj ?_
  refine Qac ?_
  refine hK20 _ _ ?_
  refine Qab ?_
  refine Qaa (.int .i64 ((((m / 16777216) : Nat) : Int))) 32 rfl kj kj ?_
  refine Qaa (.int .i64 ((((m / 16777216) * 256 : Nat) : Int))) 33 rfl kj (QaF .shl _ _ _ _ .i64 .u64 _ _ _ rfl kj kj (Qcj _ _ _ _ _ _ (by decide) (QbH _ (by omega)))) ?_
  refine Qaa (.int .u8 ((((m / 65536 % 256) : Nat) : Int))) 34 rfl kj kj ?_
  refine Qaa (.int .i64 ((((m / 65536 % 256) : Nat) : Int))) 35 rfl kj (Qah (u := .int .i64 (IntKind.i64.wrap ((((m / 65536 % 256) : Nat) : Int)))) kj (congrArg (Value.int .i64) (IntWalk.i64_in _ (by omega)))) ?_
  refine Qaa (.int .i64 ((((m / 65536) : Nat) : Int))) 36 rfl kj (Qah (u := .int .i64 (bits .or .i64 ((((m / 16777216) * 256 : Nat) : Int)) ((((m / 65536 % 256) : Nat) : Int)))) kj (congrArg (Value.int .i64) (Qc2 (m / 16777216) (m / 65536 % 256) (m / 65536) (by omega) (by omega) (by omega)))) ?_
  refine Qaa (.int .i64 ((((m / 65536) : Nat) : Int))) 6 rfl kj kj ?_
  refine Qac ?_
  refine hK19 _ _ ?_
  refine Qab ?_
  refine Qaa (.int .i64 2) 37 rfl kj kj ?_
  refine Qaa (.int .i64 2) 28 rfl kj kj ?_
  refine Qac ?_
  show Code.rounds _ _ _ 3 _ _
  show Code.wp _ _ (Exit.then (Code.rounds _ _ _ 2) _) _ _
  refine wp_seq_k fun K21 hK21 => ?_
  refine Qab ?_
  refine Qaa (.bool true) 29 rfl kj kj ?_
  refine Qac ?_
  refine hK21 _ _ ?_
  refine wp_seq_k fun K22 hK22 => ?_
  refine cond_true kj ?_
  refine wp_skip ?_
  refine hK22 _ _ ?_
  refine wp_seq_k fun K23 hK23 => ?_
  refine wp_block ?_
  refine wp_seq_k fun K24 hK24 => ?_
  refine Qab ?_
  refine Qaa (.pointer (some ⟨gch_12, och_12 + 2, none⟩)) 30 rfl kj (QaR 33 _ _ .i64 2 gch_12 och_12 4 c_t 5 a_t _ hah_12 rfl rfl kj kj kj kj (Nat.lt_of_lt_of_eq (show 2 < 4 by omega) hnh_12.symm)) ?_
  refine Qaa (.int .u8 ((((m / 256 % 256) : Nat) : Int))) 31 rfl kj (Qa6 5 _ _ (.int .u8 ((((m / 256 % 256) : Nat) : Int))) ((hch_12 2 (Nat.lt_of_lt_of_eq (show 2 < 4 by omega) hnh_12.symm)).trans (congrArg (fun z => some (Value.int .u8 z)) rfl)) rfl kj kj) ?_
  refine Qaa (.int .u8 ((((m / 256 % 256) : Nat) : Int))) 8 rfl kj kj ?_
  refine Qac ?_
  refine hK24 _ _ ?_
  refine Qab ?_
  refine Qaa (.int .i64 ((((m / 65536) : Nat) : Int))) 32 rfl kj kj ?_
  refine Qaa (.int .i64 ((((m / 65536) * 256 : Nat) : Int))) 33 rfl kj (QaF .shl _ _ _ _ .i64 .u64 _ _ _ rfl kj kj (Qcj _ _ _ _ _ _ (by decide) (QbH _ (by omega)))) ?_
  refine Qaa (.int .u8 ((((m / 256 % 256) : Nat) : Int))) 34 rfl kj kj ?_
  refine Qaa (.int .i64 ((((m / 256 % 256) : Nat) : Int))) 35 rfl kj (Qah (u := .int .i64 (IntKind.i64.wrap ((((m / 256 % 256) : Nat) : Int)))) kj (congrArg (Value.int .i64) (IntWalk.i64_in _ (by omega)))) ?_
  refine Qaa (.int .i64 ((((m / 256) : Nat) : Int))) 36 rfl kj (Qah (u := .int .i64 (bits .or .i64 ((((m / 65536) * 256 : Nat) : Int)) ((((m / 256 % 256) : Nat) : Int)))) kj (congrArg (Value.int .i64) (Qc2 (m / 65536) (m / 256 % 256) (m / 256) (by omega) (by omega) (by omega)))) ?_
  refine Qaa (.int .i64 ((((m / 256) : Nat) : Int))) 6 rfl kj kj ?_
  refine Qac ?_
  refine hK23 _ _ ?_
  refine Qab ?_
  refine Qaa (.int .i64 3) 37 rfl kj kj ?_
  refine Qaa (.int .i64 3) 28 rfl kj kj ?_
  refine Qac ?_
  show Code.rounds _ _ _ 2 _ _
  show Code.wp _ _ (Exit.then (Code.rounds _ _ _ 1) _) _ _
  refine wp_seq_k fun K25 hK25 => ?_
  refine Qab ?_
  refine Qaa (.bool true) 29 rfl kj kj ?_
  refine Qac ?_
  refine hK25 _ _ ?_
  refine wp_seq_k fun K26 hK26 => ?_
  refine cond_true kj ?_
  refine wp_skip ?_
  refine hK26 _ _ ?_
  refine wp_seq_k fun K27 hK27 => ?_
  refine wp_block ?_
  refine wp_seq_k fun K28 hK28 => ?_
  refine Qab ?_
  refine Qaa (.pointer (some ⟨gch_12, och_12 + 3, none⟩)) 30 rfl kj (QaR 33 _ _ .i64 3 gch_12 och_12 4 c_t 5 a_t _ hah_12 rfl rfl kj kj kj kj (Nat.lt_of_lt_of_eq (show 3 < 4 by omega) hnh_12.symm)) ?_
  refine Qaa (.int .u8 ((((m % 256) : Nat) : Int))) 31 rfl kj (Qa6 5 _ _ (.int .u8 ((((m % 256) : Nat) : Int))) ((hch_12 3 (Nat.lt_of_lt_of_eq (show 3 < 4 by omega) hnh_12.symm)).trans (congrArg (fun z => some (Value.int .u8 z)) rfl)) rfl kj kj) ?_
  refine Qaa (.int .u8 ((((m % 256) : Nat) : Int))) 8 rfl kj kj ?_
  refine Qac ?_
  refine hK28 _ _ ?_
  refine Qab ?_
  refine Qaa (.int .i64 ((((m / 256) : Nat) : Int))) 32 rfl kj kj ?_
  refine Qaa (.int .i64 ((((m / 256) * 256 : Nat) : Int))) 33 rfl kj (QaF .shl _ _ _ _ .i64 .u64 _ _ _ rfl kj kj (Qcj _ _ _ _ _ _ (by decide) (QbH _ (by omega)))) ?_
  refine Qaa (.int .u8 ((((m % 256) : Nat) : Int))) 34 rfl kj kj ?_
  refine Qaa (.int .i64 ((((m % 256) : Nat) : Int))) 35 rfl kj (Qah (u := .int .i64 (IntKind.i64.wrap ((((m % 256) : Nat) : Int)))) kj (congrArg (Value.int .i64) (IntWalk.i64_in _ (by omega)))) ?_
  refine Qaa (.int .i64 (((m : Nat) : Int))) 36 rfl kj (Qah (u := .int .i64 (bits .or .i64 ((((m / 256) * 256 : Nat) : Int)) ((((m % 256) : Nat) : Int)))) kj (congrArg (Value.int .i64) (Qc2 (m / 256) (m % 256) m (by omega) (by omega) (by omega)))) ?_
  refine Qaa (.int .i64 (((m : Nat) : Int))) 6 rfl kj kj ?_
  refine Qac ?_
  refine hK27 _ _ ?_
  refine Qab ?_
  refine Qaa (.int .i64 4) 37 rfl kj kj ?_
  refine Qaa (.int .i64 4) 28 rfl kj kj ?_
  refine Qac ?_
  show Code.rounds _ _ _ 1 _ _
  show Code.wp _ _ (Exit.then (Code.rounds _ _ _ 0) _) _ _
  refine wp_seq_k fun K29 hK29 => ?_
  refine Qab ?_
  refine Qaa (.bool false) 29 rfl kj kj ?_
  refine Qac ?_
  refine hK29 _ _ ?_
  refine wp_seq_k fun K30 hK30 => ?_
  refine cond_false kj ?_
  refine wp_exit ?_
  refine hK10 _ _ ?_
  refine wp_seq_k fun K31 hK31 => ?_
  refine wp_seq_k fun K32 hK32 => ?_
  refine Qab ?_
  refine Qaa (.pointer (some ⟨g, 0, none⟩)) 38 rfl kj kj ?_
  refine Qaa (.pointer (some ⟨g, 0, none⟩)) 39 rfl kj kj ?_
  refine Qaa (.pointer (some ⟨g, 0, none⟩)) 40 rfl kj kj ?_
  refine Qaa (.int .i64 (((m : Nat) : Int))) 41 rfl kj kj ?_
  refine Qat (.iface 60 (.int .i64 (chkW nx B ((m : Nat) : Int)))) 88 #[.pointer (some ⟨g, 0, none⟩), .int .i64 (((m : Nat) : Int))] 42 rfl kj kj (errV_ne hc ▸ checkC g nx B ((m : Nat) : Int) hnx hB sk rk next hsk hrk _ hg) fun W1 e1 => ?_
  have x1 : Ext w W1 := Ext.tr (Rely.Ext.refl w) e1
  refine Qaa (.iface 60 (.int .i64 (chkW nx B ((m : Nat) : Int)))) 9 rfl kj kj ?_
  refine Qac ?_
  refine hK32 _ _ ?_
  refine wp_seq_k fun K33 hK33 => ?_
  refine Qab ?_
  refine Qaa (.iface 60 (.int .i64 (chkW nx B ((m : Nat) : Int)))) 43 rfl kj kj ?_
  refine Qaa (.bool true) 44 rfl kj kj ?_
  refine Qac ?_
  refine hK33 _ _ ?_
  refine cond_true kj ?_
  refine wp_seq_k fun K34 hK34 => ?_
  refine Qab ?_
  refine Qaa (.iface 60 (.int .i64 (chkW nx B ((m : Nat) : Int)))) 45 rfl kj kj ?_
  refine Qaa (.slice none 0 0) 4 rfl kj kj ?_
  refine Qaa (.iface 60 (.int .i64 (chkW nx B ((m : Nat) : Int)))) 5 rfl kj kj ?_
  refine Qac ?_
  refine hK34 _ _ ?_
  refine wp_ret ?_
  repeat (first | with_reducible refine goR1 ?_ | with_reducible refine goR2 ?_)
  exact (show bodyPost _ _ _ .ret _ _ from ret2 (.slice none 0 0) (.iface 60 (.int .i64 (chkW nx B ((m : Nat) : Int)))) rfl (Qa0 kj) (Qa0 kj) ⟨rfl, x1⟩)
set_option maxHeartbeats 4000000 in
theorem HighestC (g : Nat) (nx : Int) (B : Nat) (hnx : 0 ≤ nx ∧ nx ≤ 4294967295) (hB : B < 18446744073709551616) (sk rk : List Int) (next : Nat) (hsk : sk.length = 32) (hrk : rk.length = 32) (w : World) (hg : w.heap[g]? = some (.cells (cat [#[.int .i64 nx], #[.int .u64 ((B : Nat) : Int)], ints .u8 (sk), ints .u8 (rk), #[.int .i64 ((next : Nat) : Int)]]) 136)) : Calls Tryd.prog 44 #[.pointer (some ⟨g, 0, none⟩)] w (Ret w (.int .i64 (nx - 1))) := by
  refine enter 9 [(0, .pointer (some ⟨g, 0, none⟩))] Tryd.func44 rfl rfl kj rfl ?_
  refine wp_seq_k fun K2 hK2 => ?_
  refine Qab ?_
  refine Qaa (.int .i64 0) 2 rfl kj kj ?_
  refine Qac ?_
  refine hK2 _ _ ?_
  refine wp_seq_k fun K3 hK3 => ?_
  refine wp_seq_k fun K4 hK4 => ?_
  refine Qab ?_
  refine Qaa (.pointer (some ⟨g, 0, none⟩)) 3 rfl kj kj ?_
  refine Qaa (.bool false) 4 rfl kj kj ?_
  refine Qac ?_
  refine hK4 _ _ ?_
  refine cond_false kj ?_
  refine wp_skip ?_
  refine hK3 _ _ ?_
  refine wp_seq_k fun K5 hK5 => ?_
  refine Qab ?_
  refine Qaa (.pointer (some ⟨g, 0, none⟩)) 5 rfl kj kj ?_
  refine Qaa (.pointer (some ⟨g, 0, none⟩)) 6 rfl kj kj ?_
  refine Qaa (.pointer (some ⟨g, 0, none⟩)) 7 rfl kj kj ?_
  refine Qat (.int .i64 (nx - 1)) 85 #[.pointer (some ⟨g, 0, none⟩)] 8 rfl kj kj (highestC g nx B hnx hB sk rk next hsk hrk _ hg) fun W1 e1 => ?_
  have x1 : Ext w W1 := Ext.tr (Rely.Ext.refl w) e1
  refine Qaa (.int .i64 (nx - 1)) 2 rfl kj kj ?_
  refine Qac ?_
  refine hK5 _ _ ?_
  refine wp_ret ?_
  repeat (first | with_reducible refine goR1 ?_ | with_reducible refine goR2 ?_)
  exact (show bodyPost _ _ _ .ret _ _ from ret1 (.int .i64 (nx - 1)) rfl (Qa0 kj) ⟨rfl, x1⟩)
end Go.Proofs.YtoiendjhplbjjaaDoor.Ll
end
section
namespace Go.Proofs.YtoiendjhplbjjaaDoor.Ll
open Go Go.RowKit
open Rely Auto Own Sha Sha
set_option linter.unusedVariables false
set_option linter.unusedSimpArgs false
theorem Qir {nx : Int} {B : Nat} {ts : List Int} (h : WInv nx B ts) {n : Int} (hc : chkT ts n = 0) : ∃ (nx2 : Int) (B2 : Nat), WInv nx2 B2 (ts ++ [n]) ∧
    ∀ (g : Nat) (sk rk : List Int) (next : Nat) (hsk : sk.length = 32) (hrk : rk.length = 32) (w : World) (hg : w.heap[g]? = some (.cells (cat [#[.int .i64 nx], #[.int .u64 ((B : Nat) : Int)], ints .u8 (sk), ints .u8 (rk), #[.int .i64 ((next : Nat) : Int)]]) 136)), Calls Tryd.prog 89 #[.pointer (some ⟨g, 0, none⟩), .int .i64 n] w (fun e W2 => e = .returned .nilIface ∧ ExtB g w W2 ∧ W2.heap[g]? = some (.cells (cat [#[.int .i64 nx2], #[.int .u64 ((B2 : Nat) : Int)], ints .u8 (sk), ints .u8 (rk), #[.int .i64 ((next : Nat) : Int)]]) 136)) := by
  obtain ⟨h0, h1, h2, h3⟩ := Qdz hc
  have hcw : chkW nx B n = 0 := (Qd0 h n).trans hc
  have hh := h.hhi
  have hn := h.hnx
  by_cases hlt : n < nx - 1
  · obtain ⟨j, hj⟩ := Int.eq_ofNat_of_zero_le (show 0 ≤ nx - 1 - n - 1 by omega)
    have hj2 : j < 64 := by omega
    exact ⟨_, _, Qit h hc j hj hj2, fun g sk rk next hsk hrk w hg => mark_F g nx B n h.hnx h.hB sk rk next hsk hrk w hg hcw j hj hj2⟩
  · have hne : n ≠ nx - 1 := fun e => by
      rcases Qgh ts with h4 | h4
      · omega
      · exact h3 (by rw [e, ← hh]; exact h4)
    obtain ⟨a, ha⟩ := Int.eq_ofNat_of_zero_le (show 0 ≤ n - (nx - 1) by omega)
    exact ⟨_, _, Qis h hc a ha (by omega), fun g sk rk next hsk hrk w hg => mark_G g nx B n h.hnx h.hB sk rk next hsk hrk w hg hcw ⟨h0, by omega⟩ a ha (by omega)⟩
end Go.Proofs.YtoiendjhplbjjaaDoor.Ll
end
section
namespace Go.Proofs.YtoiendjhplbjjaaDoor.Ll
open Go Go.RowKit
open Rely Auto Own Sha
set_option linter.unusedVariables false
set_option linter.unusedSimpArgs false
def OwnR (T : TypeId) (base : Nat) (vs : List Value) (v : Value) (W : World) : Prop := W.ownsRow base T 1 v vs.length vs ∧ vs.length ≤ maxLen
theorem Qg4 {T : TypeId} {base g : Nat} {W : World} (hb : base ≤ g) (r : W.heap[g]? = some (.cells #[] T)) : OwnR T base [] (.slice (some ⟨g, 0, none⟩) 0 0) W :=
  ⟨⟨rfl, .inr ⟨g, 0, _, rfl, hb, r, Nat.le_refl _, Nat.zero_le _, rfl, rfl⟩⟩, Nat.zero_le _⟩
theorem OwnR.keep {T : TypeId} {base : Nat} {vs : List Value} {v : Value} {W W' : World} (h : OwnR T base vs v W) (hk : ∀ g, v.ownBlock = some g → W'.heap[g]? = W.heap[g]?) : OwnR T base vs v W' := by
  obtain ⟨⟨h1, h2⟩, hm⟩ := h
  refine ⟨⟨h1, ?_⟩, hm⟩
  rcases h2 with h2 | ⟨g, c, cur, rfl, q2, q3, q4, q5, q6, q7⟩
  · exact .inl h2
  · exact .inr ⟨g, c, cur, rfl, q2, (hk g rfl).trans q3, q4, q5, q6, q7⟩
theorem OwnR.at {T : TypeId} {base : Nat} {vs : List Value} {v : Value} {W : World} (h : OwnR T base vs v W) {g : Nat} (hg : v.ownBlock = some g) : base ≤ g ∧ ∃ cur, W.heap[g]? = some (.cells cur T) := by
  rcases h.1.2 with ⟨rfl, _⟩ | ⟨g', c, cur, rfl, q2, q3, _⟩
  · cases hg
  · obtain rfl : g' = g := Option.some.inj hg
    exact ⟨q2, cur, q3⟩
theorem OwnN.typ {k : IntKind} {T : TypeId} {base : Nat} {xs : List Int} {v : Value} {W : World} (h : OwnN k T base xs v W) {g : Nat} (hg : v.ownBlock = some g) : ∃ cur, W.heap[g]? = some (.cells cur T) := by
  rcases h.1.2 with ⟨rfl, _⟩ | ⟨g', c, cur, rfl, q2, q3, _⟩
  · cases hg
  · obtain rfl : g' = g := Option.some.inj hg
    exact ⟨cur, q3⟩
theorem Qd4 {W : World} {g : Nat} {c c' : Array Value} {T T' : TypeId} (h : W.heap[g]? = some (.cells c T)) (h' : W.heap[g]? = some (.cells c' T')) (hne : T ≠ T') : False := by
  rw [h] at h'
  simp only [Option.some.injEq, Obj.cells.injEq] at h'
  exact hne h'.2.1
theorem OwnR.cell {T : TypeId} {base : Nat} {vs : List Value} {v u : Value} {W : World} {i : Nat} (h : OwnR T base vs v W) (hi : vs[i]? = some u) : ∃ g c, v = .slice (some ⟨g, 0, none⟩) vs.length c ∧ base ≤ g ∧ g < W.heap.size ∧ W.cell? ⟨g, 0 + i, none⟩ = some u := by
  have hl : i < vs.length := (List.getElem?_eq_some_iff.1 hi).1
  rcases h.1.2 with ⟨_, h1⟩ | ⟨g, c, cur, h1, h2, h3, h4, h5, h6, h7⟩
  · omega
  · refine ⟨g, c, h1, h2, QaA h3, ?_⟩
    rw [Nat.zero_add]
    refine QcB h3 ?_
    rw [Nat.mul_one] at h7
    have e : (cur.toList.take vs.length)[i]? = vs[i]? := by rw [h7]
    rw [List.getElem?_take_of_lt hl, hi] at e
    rw [← Array.getElem?_toList]
    exact e
theorem OwnR.cellAt {T : TypeId} {base g n c : Nat} {vs : List Value} {u : Value} {W : World} {i : Nat} (h : OwnR T base vs (.slice (some ⟨g, 0, none⟩) n c) W) (hi : vs[i]? = some u) : g < W.heap.size ∧ W.cell? ⟨g, 0 + i, none⟩ = some u := by
  obtain ⟨g', c', e, _, q1, q2⟩ := h.cell hi
  simp only [Value.slice.injEq, Option.some.injEq, Addr.mk.injEq, and_true] at e
  obtain ⟨rfl, -, -⟩ := e
  exact ⟨q1, q2⟩
theorem QhQ {k : IntKind} {T T' : TypeId} {base g : Nat} {xs : List Int} {v : Value} {W : World} {c : Array Value} (h : OwnN k T base xs v W) (r : W.heap[g]? = some (.cells c T')) (hne : T ≠ T') : v.ownBlock ≠ some g := fun e => by
  obtain ⟨c2, hc⟩ := OwnN.typ h e
  exact Qd4 hc r hne
theorem Qiu {P : Program} {T : TypeId} {z : Value} {b : Nat} (hi : (P.info? T).map (fun i => (i.zero, i.size, i.bytes)) = some (some z, 1, b)) : ∃ i, P.info? T = some i ∧ i.zero = some z ∧ i.size = 1 ∧ i.bytes = b := by
  cases hq : P.info? T with
  | none => rw [hq] at hi; cases hi
  | some i =>
    rw [hq] at hi
    simp only [Option.map_some, Option.some.injEq, Prod.mk.injEq] at hi
    exact ⟨i, rfl, hi.1, hi.2.1, hi.2.2⟩
section
variable {ds : List Deferred} {P : Program} {ops : Array Oper} {Q : Exit → Act → World → Prop} {rest : List Oper} {o : Oper} {N : Nat} {L : Env} {W : World}
theorem QeB {T : TypeId} (base b : Nat) (s x : Operand) (t : TypeId) (ho : o.op = .call { callee := .builtin .append, args := #[s, x], argTypes := #[t, t] })
    (ht : P.underlying t = some (.slice T)) (z : Value) (hi : (P.info? T).map (fun i => (i.zero, i.size, i.bytes)) = some (some z, 1, b)) (hz : z.cells.size = 1) (hb : b ≤ 100) (d : Nat) (hd : o.dst = some d) (hg : QbG ops o N L = some true) {v y : Value} {vs : List Value} {gy c : Nat} {Ty : TypeId}
    (hs : Rely.look (envN N L) s = v) (hx : Rely.look (envN N L) x = .slice (some ⟨gy, 0, none⟩) 1 c) (ry : W.heap[gy]? = some (.cells #[y] Ty)) (h1 : y.oneCell' = true)
    (h : OwnR T base vs v W) (hn : vs.length ≤ 100000) (hV : base ≤ W.heap.size)
    (kk : ∀ (u : Value) (W' : World), OwnR T base (vs ++ [y]) u W' → W.grownBy W' v.ownBlock → WL P ops Q rest (Qaw ds N ((d, u) :: L)) W') : WL P ops Q (o :: rest) (Qaw ds N L) W := by
  obtain ⟨i, hq, hi1, hi2, hi3⟩ := Qiu hi
  obtain ⟨v', W', hr, h2, h3, _, h5⟩ := run_append_own_at (P := P) W base t o.type T i z 1 b ht hq hi1 hi2 hi3 hz (by omega) v vs.length vs h.1 ⟨gy, 0, none⟩ 1 c [y] (by simp)
    (fun j u hu => by
      cases j with
      | zero =>
        simp only [List.getElem?_cons_zero, Option.some.injEq] at hu
        subst hu
        rw [WideShapes.add_plain]
        exact QcB ry rfl
      | succ j => simp at hu) (fun u hu => by rw [List.mem_singleton.1 hu]; exact h1) (by simp only [maxLen]; omega) (by
        have : (vs.length + 1) * b ≤ 100001 * 100 := Nat.mul_le_mul (by omega) hb
        omega) hV
  refine Qcm _ _ d hd hg (show (execOp (Rely.look (envN N L)) o).run P W = .ok (.value v') W' from ?_) (kk v' W' ⟨by rw [List.length_append]; exact h2, by rw [List.length_append]; simp only [maxLen]; show _ + 1 ≤ _; omega⟩ h3)
  unfold execOp
  simp only [ho, resolve, invoke, builtin, Sem.run_bind, Sem.run_pure, Result.andThen_ok, List.map_toArray, List.map_cons, List.map_nil, hs, hx, hr]
end
theorem Qha {W W' : World} {ob : Option Nat} {g : Nat} {o : Obj} (h : W.grownBy W' ob) (r : W.heap[g]? = some o) (hn : ob ≠ some g) : W'.heap[g]? = some o := (h.block g (QaA r) (fun e => hn e.symm)).trans r
theorem QhY {w W W' : World} {ob : Option Nat} (e : Ext w W) (h : W.grownBy W' ob) (hge : ∀ g, ob = some g → w.heap.size ≤ g) : Ext w W' :=
  ⟨h.os.trans e.os, h.tape.trans e.tape, h.output.trans e.output, Nat.le_trans e.size h.size, fun i hi => (h.block i (Nat.lt_of_lt_of_le hi e.size) (fun q => by have := hge i q.symm; omega)).trans (e.block i hi)⟩
theorem QgU {T : TypeId} {base g : Nat} {vs : List Value} {v : Value} {W : World} (h : OwnR T base vs v W) (hg : g < base) : v.ownBlock ≠ some g := fun e => by
  have := (h.at e).1
  omega
def Many (T : TypeId) (base : Nat) (f : Nat → List Int) (vs : List Value) (W : World) : Prop := ∀ j u, vs[j]? = some u → OwnN .u8 T base (f j) u W
theorem Many.keep {T : TypeId} {base : Nat} {f : Nat → List Int} {vs : List Value} {W W' : World} (h : Many T base f vs W) (hk : ∀ (g : Nat) (c : Array Value), W.heap[g]? = some (Obj.cells c T) → W'.heap[g]? = W.heap[g]?) : Many T base f vs W' := fun j u hu =>
  (h j u hu).keep fun g hg => by
    obtain ⟨c, hc⟩ := OwnN.typ (h j u hu) hg
    exact hk g c hc
theorem Many.ext {T : TypeId} {base : Nat} {f : Nat → List Int} {vs : List Value} {W W' : World} (h : Many T base f vs W) (e : Ext W W') : Many T base f vs W' := fun j u hu => (h j u hu).ext e
theorem Many.but {T T' : TypeId} {base g : Nat} {f : Nat → List Int} {vs : List Value} {W W' : World} {c' : Array Value} (h : Many T base f vs W) (q : ExtB g W W') (r : W.heap[g]? = some (.cells c' T')) (hne : T ≠ T') : Many T base f vs W' :=
  h.keep fun k c hc => q.2.2.2.2 k (QaA hc) fun e => by subst e; exact Qd4 hc r hne
theorem Many.puts {T T' : TypeId} {base g : Nat} {f : Nat → List Int} {vs : List Value} {W W' : World} {c' : Array Value} (h : Many T base f vs W) (p : Puts W g W') (r : W.heap[g]? = some (.cells c' T')) (hne : T ≠ T') : Many T base f vs W' :=
  h.keep fun k c hc => p.2.2.2.2 k fun e => by subst e; exact Qd4 hc r hne
theorem Many.grown {T T' : TypeId} {base b2 : Nat} {f : Nat → List Int} {vs us : List Value} {v : Value} {W W' : World} (h : Many T base f vs W) (q : W.grownBy W' v.ownBlock) (ho : OwnR T' b2 us v W) (hne : T ≠ T') : Many T base f vs W' :=
  h.keep fun k c hc => q.block k (QaA hc) fun e => by
    obtain ⟨_, c2, h2⟩ := ho.at e.symm
    exact Qd4 hc h2 hne
theorem Many.snoc {T : TypeId} {base n : Nat} {f : Nat → List Int} {vs : List Value} {u : Value} {W : World} (h : Many T base f vs W) (hn : vs.length = n) (hu : OwnN .u8 T base (f n) u W) : Many T base f (vs ++ [u]) W := fun j x hx => by
  rcases Nat.lt_or_ge j vs.length with hj | hj
  · rw [List.getElem?_append_left hj] at hx
    exact h j x hx
  · rw [List.getElem?_append_right hj] at hx
    have hl := (List.getElem?_eq_some_iff.1 hx).1
    simp only [List.length_singleton] at hl
    have e0 : j - vs.length = 0 := by omega
    rw [e0, List.getElem?_cons_zero, Option.some.injEq] at hx
    subst hx
    rw [show j = n by omega]
    exact hu
theorem OwnN.grown {k : IntKind} {T T' : TypeId} {base b2 : Nat} {xs : List Int} {us : List Value} {u v : Value} {W W' : World} (h : OwnN k T base xs u W) (q : W.grownBy W' v.ownBlock) (ho : OwnR T' b2 us v W) (hne : T ≠ T') : OwnN k T base xs u W' :=
  h.keep fun g hg => by
    obtain ⟨c, hc⟩ := OwnN.typ h hg
    refine q.block g (QaA hc) fun e => ?_
    obtain ⟨_, c2, h2⟩ := ho.at e.symm
    exact Qd4 hc h2 hne
theorem OwnR.ext {T : TypeId} {base : Nat} {vs : List Value} {v : Value} {W W' : World} (h : OwnR T base vs v W) (e : Ext W W') : OwnR T base vs v W' := h.keep fun g hg => by
  obtain ⟨_, c, hc⟩ := h.at hg
  exact e.block g (QaA hc)
theorem OwnR.but {T T' : TypeId} {base g : Nat} {vs : List Value} {v : Value} {W W' : World} {c' : Array Value} (h : OwnR T base vs v W) (q : ExtB g W W') (r : W.heap[g]? = some (.cells c' T')) (hne : T ≠ T') : OwnR T base vs v W' := h.keep fun k hk => by
  obtain ⟨_, c, hc⟩ := h.at hk
  exact q.2.2.2.2 k (QaA hc) fun e => by subst e; exact Qd4 hc r hne
theorem OwnR.puts {T T' : TypeId} {base g : Nat} {vs : List Value} {v : Value} {W W' : World} {c' : Array Value} (h : OwnR T base vs v W) (p : Puts W g W') (r : W.heap[g]? = some (.cells c' T')) (hne : T ≠ T') : OwnR T base vs v W' := h.keep fun k hk => by
  obtain ⟨_, c, hc⟩ := h.at hk
  exact p.2.2.2.2 k fun e => by subst e; exact Qd4 hc r hne
theorem Qg1 {P : Program} {ρ : Operand → Value} {o : Oper} {w : World} (ts : Array TypeId) (x y : Operand) (k : IntKind) (a b c : Int) (ho : o.op = .call { callee := .builtin .max, args := #[x, y], argTypes := ts }) (hx : ρ x = .int k a) (hy : ρ y = .int k b) (h : (if a < b then b else a) = c) : (execOp ρ o).run P w = .ok (.value (.int k c)) w := by
  subst h
  unfold execOp
  simp only [ho, resolve, invoke, builtin, Sem.run_bind, Sem.run_pure, Result.andThen_ok, List.map_toArray, List.map_cons, List.map_nil, hx, hy, run_max_int2]
end Go.Proofs.YtoiendjhplbjjaaDoor.Ll
end
section
namespace Go.Proofs.YtoiendjhplbjjaaDoor.Lk
open Go Go.RowKit
open Rely Auto
set_option linter.unusedVariables false
def ExtB (g : Nat) (w W : World) : Prop := W.os = w.os ∧ W.tape = w.tape ∧ W.output = w.output ∧ w.heap.size ≤ W.heap.size ∧ ∀ k, k < w.heap.size → k ≠ g → W.heap[k]? = w.heap[k]?
theorem ExtB.refl (g : Nat) (w : World) : ExtB g w w := ⟨rfl, rfl, rfl, Nat.le_refl _, fun _ _ _ => rfl⟩
theorem ExtB.ext {g : Nat} {w W W' : World} (h : ExtB g w W) (e : Ext W W') : ExtB g w W' :=
  ⟨e.os.trans h.1, e.tape.trans h.2.1, e.output.trans h.2.2.1, Nat.le_trans h.2.2.2.1 e.size, fun k hk hn => (e.block k (Nat.lt_of_lt_of_le hk h.2.2.2.1)).trans (h.2.2.2.2 k hk hn)⟩
theorem ExtB.puts {g : Nat} {w W W' : World} (h : ExtB g w W) (p : Puts W g W') : ExtB g w W' :=
  ⟨p.1.trans h.1, p.2.1.trans h.2.1, p.2.2.1.trans h.2.2.1, by have := h.2.2.2.1; have := p.2.2.2.1; omega, fun k hk hn => (p.2.2.2.2 k hn).trans (h.2.2.2.2 k hk hn)⟩
theorem ExtB.row {g : Nat} {w W : World} {k : Nat} {ob : Obj} (h : ExtB g w W) (r : w.heap[k]? = some ob) (hn : k ≠ g) : W.heap[k]? = some ob := (h.2.2.2.2 k (by
  rcases Nat.lt_or_ge k w.heap.size with hl | hl
  · exact hl
  · rw [Array.getElem?_eq_none hl] at r; cases r) hn).trans r
theorem ExtB.up {g : Nat} {w0 w W : World} (h : Ext w0 w) (k : ExtB g w W) (lo : w0.heap.size ≤ g) : Ext w0 W :=
  ⟨k.1.trans h.os, k.2.1.trans h.tape, k.2.2.1.trans h.output, Nat.le_trans h.size k.2.2.2.1, fun i hi => (k.2.2.2.2 i (Nat.lt_of_lt_of_le hi h.size) (by omega)).trans (h.block i hi)⟩
theorem i64_w (v : Int) (h : -5000000000 ≤ v ∧ v ≤ 5000000000) : IntKind.i64.wrap v = v := IntWalk.i64_in _ (by omega)
theorem shrB (B j : Nat) (hj : j < 64) : ((B : Nat) : Int).fdiv (2 ^ min ((j : Nat) : Int).toNat IntKind.u64.bits) = ((B / 2 ^ j : Nat) : Int) := by
  rw [show min (((j : Nat) : Int).toNat) IntKind.u64.bits = j by show min (((j : Nat) : Int).toNat) 64 = j; omega]
  rw [Int.fdiv_eq_ediv_of_nonneg _ (Int.le_of_lt (Int.pow_pos (by decide))), Int.natCast_ediv, Int.natCast_pow]
  rfl
theorem andB (m : Nat) (h : m < 18446744073709551616) : bits .and .u64 ((m : Nat) : Int) 1 = ((m % 2 : Nat) : Int) := by
  rw [show (1 : Int) = ((1 : Nat) : Int) from rfl, bits_and_u64_nat m 1 h (by omega), Nat.and_one_is_mod]
theorem orB (a b : Nat) (ha : a < 18446744073709551616) (hb : b < 18446744073709551616) : bits .or .u64 ((a : Nat) : Int) ((b : Nat) : Int) = ((a ||| b : Nat) : Int) := by
  have h := u64_or (a : Int) b (by omega) (by omega) (by omega) (by omega)
  simpa using h
theorem wrapN (m : Nat) : IntKind.u64.wrap ((m : Nat) : Int) = ((m % 18446744073709551616 : Nat) : Int) := by rw [IntKind.wrap_u64]; omega
theorem pow_big (B a : Nat) (h : 64 ≤ a) : B * 2 ^ a % 18446744073709551616 = 0 := by
  obtain ⟨c, rfl⟩ : ∃ c, a = 64 + c := ⟨a - 64, by omega⟩
  rw [Nat.pow_add, ← Nat.mul_assoc, Nat.mul_comm B, Nat.mul_assoc]
  exact Nat.mul_mod_right _ _
theorem shlB (B a : Nat) : IntKind.u64.wrap (((B : Nat) : Int) * 2 ^ min ((a : Nat) : Int).toNat IntKind.u64.bits) = ((B * 2 ^ a % 18446744073709551616 : Nat) : Int) := by
  have e : ∀ c : Nat, ((B : Nat) : Int) * 2 ^ c = ((B * 2 ^ c : Nat) : Int) := fun c => by rw [Int.natCast_mul, Int.natCast_pow]; rfl
  rw [e, wrapN]
  have hm : min (((a : Nat) : Int).toNat) IntKind.u64.bits = min a 64 := by show min (((a : Nat) : Int).toNat) 64 = min a 64; rw [Int.toNat_natCast]
  rw [hm]
  rcases Nat.lt_or_ge a 64 with h | h
  · rw [show min a 64 = a by omega]
  · rw [show min a 64 = 64 by omega, pow_big B 64 (by omega), pow_big B a h]
def chkW (nx : Int) (B : Nat) (n : Int) : Int := if n < 0 ∨ 4294967295 ≤ n then 8 else if 64 < nx - 1 - n then 11 else if nx - 1 - n = 0 ∨ (0 < nx - 1 - n ∧ B / 2 ^ (nx - 1 - n - 1).toNat % 2 = 1) then 7 else 0
def errV (e : Int) : Value := if e = 0 then .nilIface else .iface 60 (.int .i64 e)
set_option maxHeartbeats 4000000 in
theorem highestC (g : Nat) (nx : Int) (B : Nat) (hnx : 0 ≤ nx ∧ nx ≤ 4294967295) (hB : B < 18446744073709551616) (w : World) (hg : w.heap[g]? = some (.cells (cat [#[.int .i64 nx], #[.int .u64 ((B : Nat) : Int)]]) 133)) : Calls Tryd.prog 85 #[.pointer (some ⟨g, 0, none⟩)] w (Ret w (.int .i64 (nx - 1))) := by
  refine enter 8 [(0, .pointer (some ⟨g, 0, none⟩))] Tryd.func85 rfl rfl (by kernel_rfl) rfl ?_
  refine wp_seq_k fun K2 hK2 => ?_
  refine Qab ?_
  refine Qaa (.int .i64 0) 2 rfl (by kernel_rfl) (by kernel_rfl) ?_
  refine Qac ?_
  refine hK2 _ _ ?_
  refine wp_seq_k fun K3 hK3 => ?_
  refine Qab ?_
  refine Qaa (.pointer (some ⟨g, 0, none⟩)) 3 rfl (by kernel_rfl) (by kernel_rfl) ?_
  refine Qaa (.pointer (some ⟨g, 0, none⟩)) 4 rfl (by kernel_rfl) (by kernel_rfl) ?_
  refine Qaa (.pointer (some ⟨g, 0, none⟩)) 5 rfl (by kernel_rfl) (by kernel_rfl) ?_
  refine Qaa (.int .i64 nx) 6 rfl (by kernel_rfl) (Qae 3 _ g 0 133 _ (.int .i64 nx) _ hg rfl (by kernel_rfl) (by kernel_rfl) (by kernel_rfl)) ?_
  refine Qaa (.int .i64 (nx - 1)) 7 rfl (by kernel_rfl) (Qah (u := .int .i64 (IntKind.i64.wrap (nx - 1))) (by kernel_rfl) (congrArg (Value.int .i64) (i64_w _ (by omega)))) ?_
  refine Qaa (.int .i64 (nx - 1)) 2 rfl (by kernel_rfl) (by kernel_rfl) ?_
  refine Qac ?_
  refine hK3 _ _ ?_
  refine wp_ret ?_
  repeat (first | with_reducible refine goR1 ?_ | with_reducible refine goR2 ?_)
  exact (show bodyPost _ _ _ .ret _ _ from ret1 (.int .i64 (nx - 1)) rfl (Qa0 (by kernel_rfl)) ⟨rfl, (Rely.Ext.refl w)⟩)
set_option maxHeartbeats 4000000 in
theorem HighestC (g : Nat) (nx : Int) (B : Nat) (hnx : 0 ≤ nx ∧ nx ≤ 4294967295) (hB : B < 18446744073709551616) (w : World) (hg : w.heap[g]? = some (.cells (cat [#[.int .i64 nx], #[.int .u64 ((B : Nat) : Int)]]) 133)) : Calls Tryd.prog 84 #[.pointer (some ⟨g, 0, none⟩)] w (Ret w (.int .i64 (nx - 1))) := by
  refine enter 9 [(0, .pointer (some ⟨g, 0, none⟩))] Tryd.func84 rfl rfl (by kernel_rfl) rfl ?_
  refine wp_seq_k fun K2 hK2 => ?_
  refine Qab ?_
  refine Qaa (.int .i64 0) 2 rfl (by kernel_rfl) (by kernel_rfl) ?_
  refine Qac ?_
  refine hK2 _ _ ?_
  refine wp_seq_k fun K3 hK3 => ?_
  refine wp_seq_k fun K4 hK4 => ?_
  refine Qab ?_
  refine Qaa (.pointer (some ⟨g, 0, none⟩)) 3 rfl (by kernel_rfl) (by kernel_rfl) ?_
  refine Qaa (.bool false) 4 rfl (by kernel_rfl) (by kernel_rfl) ?_
  refine Qac ?_
  refine hK4 _ _ ?_
  refine cond_false (by kernel_rfl) ?_
  refine wp_skip ?_
  refine hK3 _ _ ?_
  refine wp_seq_k fun K5 hK5 => ?_
  refine Qab ?_
  refine Qaa (.pointer (some ⟨g, 0, none⟩)) 5 rfl (by kernel_rfl) (by kernel_rfl) ?_
  refine Qaa (.pointer (some ⟨g, 0, none⟩)) 6 rfl (by kernel_rfl) (by kernel_rfl) ?_
  refine Qaa (.pointer (some ⟨g, 0, none⟩)) 7 rfl (by kernel_rfl) (by kernel_rfl) ?_
  refine Qat (.int .i64 (nx - 1)) 85 #[.pointer (some ⟨g, 0, none⟩)] 8 rfl (by kernel_rfl) (by kernel_rfl) (highestC g nx B hnx hB _ hg) fun W1 e1 => ?_
  have x1 : Ext w W1 := Ext.tr (Rely.Ext.refl w) e1
  refine Qaa (.int .i64 (nx - 1)) 2 rfl (by kernel_rfl) (by kernel_rfl) ?_
  refine Qac ?_
  refine hK5 _ _ ?_
  refine wp_ret ?_
  repeat (first | with_reducible refine goR1 ?_ | with_reducible refine goR2 ?_)
  exact (show bodyPost _ _ _ .ret _ _ from ret1 (.int .i64 (nx - 1)) rfl (Qa0 (by kernel_rfl)) ⟨rfl, x1⟩)
set_option maxHeartbeats 4000000 in
theorem check_A (g : Nat) (nx : Int) (B : Nat) (n : Int) (hnx : 0 ≤ nx ∧ nx ≤ 4294967295) (hB : B < 18446744073709551616) (w : World) (hg : w.heap[g]? = some (.cells (cat [#[.int .i64 nx], #[.int .u64 ((B : Nat) : Int)]]) 133)) (hc : n < 0) : Calls Tryd.prog 88 #[.pointer (some ⟨g, 0, none⟩), .int .i64 n] w (Ret w (.iface 60 (.int .i64 8))) := by
  refine enter 38 [(0, .pointer (some ⟨g, 0, none⟩)), (1, .int .i64 n)] Tryd.func88 rfl rfl (by kernel_rfl) rfl ?_
  refine wp_seq_k fun K2 hK2 => ?_
  refine Qab ?_
  refine Qaa (.nilIface) 4 rfl (by kernel_rfl) (by kernel_rfl) ?_
  refine Qac ?_
  refine hK2 _ _ ?_
  refine wp_seq_k fun K3 hK3 => ?_
  refine wp_seq_k fun K4 hK4 => ?_
  refine Qab ?_
  refine Qaa (.int .i64 n) 6 rfl (by kernel_rfl) (by kernel_rfl) ?_
  refine Qaa (.bool true) 7 rfl (by kernel_rfl) (Qah (u := .bool (decide (n < 0))) (by kernel_rfl) (congrArg Value.bool (decide_eq_true (by omega)))) ?_
  refine Qaa (.bool true) 8 rfl (by kernel_rfl) (by kernel_rfl) ?_
  refine Qaz 9 rfl (by kernel_rfl) ?_
  refine Qaz 10 rfl (by kernel_rfl) ?_
  refine Qaa (.bool true) 11 rfl (by kernel_rfl) (by kernel_rfl) ?_
  refine Qac ?_
  refine hK4 _ _ ?_
  refine cond_true (by kernel_rfl) ?_
  refine wp_seq_k fun K5 hK5 => ?_
  refine Qab ?_
  refine Qaa (.iface 60 (.int .i64 8)) 12 rfl (by kernel_rfl) (by kernel_rfl) ?_
  refine Qaa (.iface 60 (.int .i64 8)) 4 rfl (by kernel_rfl) (by kernel_rfl) ?_
  refine Qac ?_
  refine hK5 _ _ ?_
  refine wp_ret ?_
  repeat (first | with_reducible refine goR1 ?_ | with_reducible refine goR2 ?_)
  exact (show bodyPost _ _ _ .ret _ _ from ret1 (.iface 60 (.int .i64 8)) rfl (Qa0 (by kernel_rfl)) ⟨rfl, (Rely.Ext.refl w)⟩)
set_option maxHeartbeats 4000000 in
theorem check_B (g : Nat) (nx : Int) (B : Nat) (n : Int) (hnx : 0 ≤ nx ∧ nx ≤ 4294967295) (hB : B < 18446744073709551616) (w : World) (hg : w.heap[g]? = some (.cells (cat [#[.int .i64 nx], #[.int .u64 ((B : Nat) : Int)]]) 133)) (hc : 4294967295 ≤ n) : Calls Tryd.prog 88 #[.pointer (some ⟨g, 0, none⟩), .int .i64 n] w (Ret w (.iface 60 (.int .i64 8))) := by
  refine enter 38 [(0, .pointer (some ⟨g, 0, none⟩)), (1, .int .i64 n)] Tryd.func88 rfl rfl (by kernel_rfl) rfl ?_
  refine wp_seq_k fun K2 hK2 => ?_
  refine Qab ?_
  refine Qaa (.nilIface) 4 rfl (by kernel_rfl) (by kernel_rfl) ?_
  refine Qac ?_
  refine hK2 _ _ ?_
  refine wp_seq_k fun K3 hK3 => ?_
  refine wp_seq_k fun K4 hK4 => ?_
  refine Qab ?_
  refine Qaa (.int .i64 n) 6 rfl (by kernel_rfl) (by kernel_rfl) ?_
  refine Qaa (.bool false) 7 rfl (by kernel_rfl) (Qah (u := .bool (decide (n < 0))) (by kernel_rfl) (congrArg Value.bool (decide_eq_false (by omega)))) ?_
  refine Qaa (.bool false) 8 rfl (by kernel_rfl) (by kernel_rfl) ?_
  refine Qaa (.int .i64 n) 9 rfl (by kernel_rfl) (by kernel_rfl) ?_
  refine Qaa (.bool true) 10 rfl (by kernel_rfl) (Qah (u := .bool (decide (n ≥ 4294967295))) (by kernel_rfl) (congrArg Value.bool (decide_eq_true (by omega)))) ?_
  refine Qaa (.bool true) 11 rfl (by kernel_rfl) (by kernel_rfl) ?_
  refine Qac ?_
  refine hK4 _ _ ?_
  refine cond_true (by kernel_rfl) ?_
  refine wp_seq_k fun K5 hK5 => ?_
  refine Qab ?_
  refine Qaa (.iface 60 (.int .i64 8)) 12 rfl (by kernel_rfl) (by kernel_rfl) ?_
  refine Qaa (.iface 60 (.int .i64 8)) 4 rfl (by kernel_rfl) (by kernel_rfl) ?_
  refine Qac ?_
  refine hK5 _ _ ?_
  refine wp_ret ?_
  repeat (first | with_reducible refine goR1 ?_ | with_reducible refine goR2 ?_)
  exact (show bodyPost _ _ _ .ret _ _ from ret1 (.iface 60 (.int .i64 8)) rfl (Qa0 (by kernel_rfl)) ⟨rfl, (Rely.Ext.refl w)⟩)
set_option maxHeartbeats 4000000 in
theorem check_C (g : Nat) (nx : Int) (B : Nat) (n : Int) (hnx : 0 ≤ nx ∧ nx ≤ 4294967295) (hB : B < 18446744073709551616) (w : World) (hg : w.heap[g]? = some (.cells (cat [#[.int .i64 nx], #[.int .u64 ((B : Nat) : Int)]]) 133)) (hn : 0 ≤ n ∧ n < 4294967295) (hc : 64 < nx - 1 - n) : Calls Tryd.prog 88 #[.pointer (some ⟨g, 0, none⟩), .int .i64 n] w (Ret w (.iface 60 (.int .i64 11))) := by
  refine enter 38 [(0, .pointer (some ⟨g, 0, none⟩)), (1, .int .i64 n)] Tryd.func88 rfl rfl (by kernel_rfl) rfl ?_
  refine wp_seq_k fun K2 hK2 => ?_
  refine Qab ?_
  refine Qaa (.nilIface) 4 rfl (by kernel_rfl) (by kernel_rfl) ?_
  refine Qac ?_
  refine hK2 _ _ ?_
  refine wp_seq_k fun K3 hK3 => ?_
  refine wp_seq_k fun K4 hK4 => ?_
  refine Qab ?_
  refine Qaa (.int .i64 n) 6 rfl (by kernel_rfl) (by kernel_rfl) ?_
  refine Qaa (.bool false) 7 rfl (by kernel_rfl) (Qah (u := .bool (decide (n < 0))) (by kernel_rfl) (congrArg Value.bool (decide_eq_false (by omega)))) ?_
  refine Qaa (.bool false) 8 rfl (by kernel_rfl) (by kernel_rfl) ?_
  refine Qaa (.int .i64 n) 9 rfl (by kernel_rfl) (by kernel_rfl) ?_
  refine Qaa (.bool false) 10 rfl (by kernel_rfl) (Qah (u := .bool (decide (n ≥ 4294967295))) (by kernel_rfl) (congrArg Value.bool (decide_eq_false (by omega)))) ?_
  refine Qaa (.bool false) 11 rfl (by kernel_rfl) (by kernel_rfl) ?_
  refine Qac ?_
  refine hK4 _ _ ?_
  refine cond_false (by kernel_rfl) ?_
  refine wp_skip ?_
  refine hK3 _ _ ?_
  refine wp_seq_k fun K5 hK5 => ?_
  refine Qab ?_
  refine Qaa (.pointer (some ⟨g, 0, none⟩)) 13 rfl (by kernel_rfl) (by kernel_rfl) ?_
  refine Qat (.int .i64 (nx - 1)) 85 #[.pointer (some ⟨g, 0, none⟩)] 14 rfl (by kernel_rfl) (by kernel_rfl) (highestC g nx B hnx hB _ hg) fun W1 e1 => ?_
  have x1 : Ext w W1 := Ext.tr (Rely.Ext.refl w) e1
  refine Qaa (.int .i64 n) 15 rfl (by kernel_rfl) (by kernel_rfl) ?_
  refine Qaa (.int .i64 (nx - 1 - n)) 16 rfl (by kernel_rfl) (Qah (u := .int .i64 (IntKind.i64.wrap ((nx - 1) - n))) (by kernel_rfl) (congrArg (Value.int .i64) (i64_w _ (by omega)))) ?_
  refine Qaa (.int .i64 (nx - 1 - n)) 5 rfl (by kernel_rfl) (by kernel_rfl) ?_
  refine Qac ?_
  refine hK5 _ _ ?_
  refine wp_seq_k fun K6 hK6 => ?_
  refine wp_seq_k fun K7 hK7 => ?_
  refine Qab ?_
  refine Qaa (.int .i64 (nx - 1 - n)) 17 rfl (by kernel_rfl) (by kernel_rfl) ?_
  refine Qaa (.bool true) 18 rfl (by kernel_rfl) (Qah (u := .bool (decide ((nx - 1 - n) > 64))) (by kernel_rfl) (congrArg Value.bool (decide_eq_true (by omega)))) ?_
  refine Qac ?_
  refine hK7 _ _ ?_
  refine cond_true (by kernel_rfl) ?_
  refine wp_seq_k fun K8 hK8 => ?_
  refine Qab ?_
  refine Qaa (.iface 60 (.int .i64 11)) 19 rfl (by kernel_rfl) (by kernel_rfl) ?_
  refine Qaa (.iface 60 (.int .i64 11)) 4 rfl (by kernel_rfl) (by kernel_rfl) ?_
  refine Qac ?_
  refine hK8 _ _ ?_
  refine wp_ret ?_
  repeat (first | with_reducible refine goR1 ?_ | with_reducible refine goR2 ?_)
  exact (show bodyPost _ _ _ .ret _ _ from ret1 (.iface 60 (.int .i64 11)) rfl (Qa0 (by kernel_rfl)) ⟨rfl, x1⟩)
set_option maxHeartbeats 4000000 in
theorem check_D (g : Nat) (nx : Int) (B : Nat) (n : Int) (hnx : 0 ≤ nx ∧ nx ≤ 4294967295) (hB : B < 18446744073709551616) (w : World) (hg : w.heap[g]? = some (.cells (cat [#[.int .i64 nx], #[.int .u64 ((B : Nat) : Int)]]) 133)) (hn : 0 ≤ n ∧ n < 4294967295) (hc : nx - 1 - n = 0) : Calls Tryd.prog 88 #[.pointer (some ⟨g, 0, none⟩), .int .i64 n] w (Ret w (.iface 60 (.int .i64 7))) := by
  refine enter 38 [(0, .pointer (some ⟨g, 0, none⟩)), (1, .int .i64 n)] Tryd.func88 rfl rfl (by kernel_rfl) rfl ?_
  refine wp_seq_k fun K2 hK2 => ?_
  refine Qab ?_
  refine Qaa (.nilIface) 4 rfl (by kernel_rfl) (by kernel_rfl) ?_
  refine Qac ?_
  refine hK2 _ _ ?_
  refine wp_seq_k fun K3 hK3 => ?_
  refine wp_seq_k fun K4 hK4 => ?_
  refine Qab ?_
  refine Qaa (.int .i64 n) 6 rfl (by kernel_rfl) (by kernel_rfl) ?_
  refine Qaa (.bool false) 7 rfl (by kernel_rfl) (Qah (u := .bool (decide (n < 0))) (by kernel_rfl) (congrArg Value.bool (decide_eq_false (by omega)))) ?_
  refine Qaa (.bool false) 8 rfl (by kernel_rfl) (by kernel_rfl) ?_
  refine Qaa (.int .i64 n) 9 rfl (by kernel_rfl) (by kernel_rfl) ?_
  refine Qaa (.bool false) 10 rfl (by kernel_rfl) (Qah (u := .bool (decide (n ≥ 4294967295))) (by kernel_rfl) (congrArg Value.bool (decide_eq_false (by omega)))) ?_
  refine Qaa (.bool false) 11 rfl (by kernel_rfl) (by kernel_rfl) ?_
  refine Qac ?_
  refine hK4 _ _ ?_
  refine cond_false (by kernel_rfl) ?_
  refine wp_skip ?_
  refine hK3 _ _ ?_
  refine wp_seq_k fun K5 hK5 => ?_
  refine Qab ?_
  refine Qaa (.pointer (some ⟨g, 0, none⟩)) 13 rfl (by kernel_rfl) (by kernel_rfl) ?_
  refine Qat (.int .i64 (nx - 1)) 85 #[.pointer (some ⟨g, 0, none⟩)] 14 rfl (by kernel_rfl) (by kernel_rfl) (highestC g nx B hnx hB _ hg) fun W1 e1 => ?_
  have x1 : Ext w W1 := Ext.tr (Rely.Ext.refl w) e1
  refine Qaa (.int .i64 n) 15 rfl (by kernel_rfl) (by kernel_rfl) ?_
  refine Qaa (.int .i64 (nx - 1 - n)) 16 rfl (by kernel_rfl) (Qah (u := .int .i64 (IntKind.i64.wrap ((nx - 1) - n))) (by kernel_rfl) (congrArg (Value.int .i64) (i64_w _ (by omega)))) ?_
  refine Qaa (.int .i64 (nx - 1 - n)) 5 rfl (by kernel_rfl) (by kernel_rfl) ?_
  refine Qac ?_
  refine hK5 _ _ ?_
  refine wp_seq_k fun K6 hK6 => ?_
  refine wp_seq_k fun K7 hK7 => ?_
  refine Qab ?_
  refine Qaa (.int .i64 (nx - 1 - n)) 17 rfl (by kernel_rfl) (by kernel_rfl) ?_
  refine Qaa (.bool false) 18 rfl (by kernel_rfl) (Qah (u := .bool (decide ((nx - 1 - n) > 64))) (by kernel_rfl) (congrArg Value.bool (decide_eq_false (by omega)))) ?_
  refine Qac ?_
  refine hK7 _ _ ?_
  refine cond_false (by kernel_rfl) ?_
  refine wp_skip ?_
  refine hK6 _ _ ?_
  refine wp_seq_k fun K8 hK8 => ?_
  refine wp_seq_k fun K9 hK9 => ?_
  refine Qab ?_
  refine Qaa (.int .i64 (nx - 1 - n)) 20 rfl (by kernel_rfl) (by kernel_rfl) ?_
  refine Qaa (.bool true) 21 rfl (by kernel_rfl) (Qah (u := .bool (((nx - 1 - n) == 0))) (by kernel_rfl) (congrArg Value.bool (by simp; omega))) ?_
  refine Qaa (.bool true) 22 rfl (by kernel_rfl) (by kernel_rfl) ?_
  refine Qaz 23 rfl (by kernel_rfl) ?_
  refine Qaz 24 rfl (by kernel_rfl) ?_
  refine Qaz 25 rfl (by kernel_rfl) ?_
  refine Qaz 26 rfl (by kernel_rfl) ?_
  refine Qaz 27 rfl (by kernel_rfl) ?_
  refine Qaz 28 rfl (by kernel_rfl) ?_
  refine Qaz 29 rfl (by kernel_rfl) ?_
  refine Qaz 30 rfl (by kernel_rfl) ?_
  refine Qaz 31 rfl (by kernel_rfl) ?_
  refine Qaz 32 rfl (by kernel_rfl) ?_
  refine Qaz 33 rfl (by kernel_rfl) ?_
  refine Qaz 34 rfl (by kernel_rfl) ?_
  refine Qaz 35 rfl (by kernel_rfl) ?_
  refine Qaa (.bool true) 36 rfl (by kernel_rfl) (by kernel_rfl) ?_
  refine Qac ?_
  refine hK9 _ _ ?_
  refine cond_true (by kernel_rfl) ?_
  refine wp_seq_k fun K10 hK10 => ?_
  refine Qab ?_
  refine Qaa (.iface 60 (.int .i64 7)) 37 rfl (by kernel_rfl) (by kernel_rfl) ?_
  refine Qaa (.iface 60 (.int .i64 7)) 4 rfl (by kernel_rfl) (by kernel_rfl) ?_
  refine Qac ?_
  refine hK10 _ _ ?_
  refine wp_ret ?_
  repeat (first | with_reducible refine goR1 ?_ | with_reducible refine goR2 ?_)
  exact (show bodyPost _ _ _ .ret _ _ from ret1 (.iface 60 (.int .i64 7)) rfl (Qa0 (by kernel_rfl)) ⟨rfl, x1⟩)
set_option maxHeartbeats 4000000 in
theorem check_E (g : Nat) (nx : Int) (B : Nat) (n : Int) (hnx : 0 ≤ nx ∧ nx ≤ 4294967295) (hB : B < 18446744073709551616) (w : World) (hg : w.heap[g]? = some (.cells (cat [#[.int .i64 nx], #[.int .u64 ((B : Nat) : Int)]]) 133)) (hn : 0 ≤ n ∧ n < 4294967295) (j : Nat) (hj : nx - 1 - n - 1 = (j : Int)) (hj2 : j < 64) (hc : B / 2 ^ j % 2 = 1) : Calls Tryd.prog 88 #[.pointer (some ⟨g, 0, none⟩), .int .i64 n] w (Ret w (.iface 60 (.int .i64 7))) := by
  refine enter 38 [(0, .pointer (some ⟨g, 0, none⟩)), (1, .int .i64 n)] Tryd.func88 rfl rfl (by kernel_rfl) rfl ?_
  refine wp_seq_k fun K2 hK2 => ?_
  refine Qab ?_
  refine Qaa (.nilIface) 4 rfl (by kernel_rfl) (by kernel_rfl) ?_
  refine Qac ?_
  refine hK2 _ _ ?_
  refine wp_seq_k fun K3 hK3 => ?_
  refine wp_seq_k fun K4 hK4 => ?_
  refine Qab ?_
  refine Qaa (.int .i64 n) 6 rfl (by kernel_rfl) (by kernel_rfl) ?_
  refine Qaa (.bool false) 7 rfl (by kernel_rfl) (Qah (u := .bool (decide (n < 0))) (by kernel_rfl) (congrArg Value.bool (decide_eq_false (by omega)))) ?_
  refine Qaa (.bool false) 8 rfl (by kernel_rfl) (by kernel_rfl) ?_
  refine Qaa (.int .i64 n) 9 rfl (by kernel_rfl) (by kernel_rfl) ?_
  refine Qaa (.bool false) 10 rfl (by kernel_rfl) (Qah (u := .bool (decide (n ≥ 4294967295))) (by kernel_rfl) (congrArg Value.bool (decide_eq_false (by omega)))) ?_
  refine Qaa (.bool false) 11 rfl (by kernel_rfl) (by kernel_rfl) ?_
  refine Qac ?_
  refine hK4 _ _ ?_
  refine cond_false (by kernel_rfl) ?_
  refine wp_skip ?_
  refine hK3 _ _ ?_
  refine wp_seq_k fun K5 hK5 => ?_
  refine Qab ?_
  refine Qaa (.pointer (some ⟨g, 0, none⟩)) 13 rfl (by kernel_rfl) (by kernel_rfl) ?_
  refine Qat (.int .i64 (nx - 1)) 85 #[.pointer (some ⟨g, 0, none⟩)] 14 rfl (by kernel_rfl) (by kernel_rfl) (highestC g nx B hnx hB _ hg) fun W1 e1 => ?_
  have x1 : Ext w W1 := Ext.tr (Rely.Ext.refl w) e1
  refine Qaa (.int .i64 n) 15 rfl (by kernel_rfl) (by kernel_rfl) ?_
  refine Qaa (.int .i64 (nx - 1 - n)) 16 rfl (by kernel_rfl) (Qah (u := .int .i64 (IntKind.i64.wrap ((nx - 1) - n))) (by kernel_rfl) (congrArg (Value.int .i64) (i64_w _ (by omega)))) ?_
  refine Qaa (.int .i64 (nx - 1 - n)) 5 rfl (by kernel_rfl) (by kernel_rfl) ?_
  refine Qac ?_
  refine hK5 _ _ ?_
  refine wp_seq_k fun K6 hK6 => ?_
  refine wp_seq_k fun K7 hK7 => ?_
  refine Qab ?_
  refine Qaa (.int .i64 (nx - 1 - n)) 17 rfl (by kernel_rfl) (by kernel_rfl) ?_
  refine Qaa (.bool false) 18 rfl (by kernel_rfl) (Qah (u := .bool (decide ((nx - 1 - n) > 64))) (by kernel_rfl) (congrArg Value.bool (decide_eq_false (by omega)))) ?_
  refine Qac ?_
  refine hK7 _ _ ?_
  refine cond_false (by kernel_rfl) ?_
  refine wp_skip ?_
  refine hK6 _ _ ?_
  refine wp_seq_k fun K8 hK8 => ?_
  refine wp_seq_k fun K9 hK9 => ?_
  refine Qab ?_
  refine Qaa (.int .i64 (nx - 1 - n)) 20 rfl (by kernel_rfl) (by kernel_rfl) ?_
  refine Qaa (.bool false) 21 rfl (by kernel_rfl) (Qah (u := .bool (((nx - 1 - n) == 0))) (by kernel_rfl) (congrArg Value.bool (by simp; omega))) ?_
  refine Qaa (.bool false) 22 rfl (by kernel_rfl) (by kernel_rfl) ?_
  refine Qaa (.int .i64 (nx - 1 - n)) 23 rfl (by kernel_rfl) (by kernel_rfl) ?_
  refine Qaa (.bool true) 24 rfl (by kernel_rfl) (Qah (u := .bool (decide ((nx - 1 - n) > 0))) (by kernel_rfl) (congrArg Value.bool (decide_eq_true (by omega)))) ?_
  refine Qaa (.bool true) 25 rfl (by kernel_rfl) (by kernel_rfl) ?_
  refine Qaa (.pointer (some ⟨g, 0, none⟩)) 26 rfl (by kernel_rfl) (by kernel_rfl) ?_
  refine Qaa (.pointer (some ⟨g, 0, none⟩)) 27 rfl (by kernel_rfl) (by kernel_rfl) ?_
  refine Qaa (.pointer (some ⟨g, 1, none⟩)) 28 rfl (by kernel_rfl) (by kernel_rfl) ?_
  have r1_1 := (Qad hg e1)
  refine Qaa (.int .u64 ((B : Nat) : Int)) 29 rfl (by kernel_rfl) (Qae 129 _ g 1 133 _ (.int .u64 ((B : Nat) : Int)) _ r1_1 rfl (by kernel_rfl) (by kernel_rfl) (by kernel_rfl)) ?_
  refine Qaa (.int .i64 (nx - 1 - n)) 30 rfl (by kernel_rfl) (by kernel_rfl) ?_
  refine Qaa (.int .i64 (((j : Nat) : Int))) 31 rfl (by kernel_rfl) (Qah (u := .int .i64 (IntKind.i64.wrap ((nx - 1 - n) - 1))) (by kernel_rfl) (congrArg (Value.int .i64) (by rw [hj]; exact i64_w _ (by omega)))) ?_
  refine Qaa (.int .u64 (((B / 2 ^ j : Nat) : Int))) 32 rfl (by kernel_rfl) (QaF .shr _ _ _ _ .u64 .i64 _ _ _ rfl (by kernel_rfl) (by kernel_rfl) (Qc5 _ _ _ _ _ _ (by omega) (shrB B j hj2))) ?_
  refine Qaa (.int .u64 (((B / 2 ^ j % 2 : Nat) : Int))) 33 rfl (by kernel_rfl) (Qah (u := .int .u64 (bits .and .u64 (((B / 2 ^ j : Nat) : Int)) (1))) (by kernel_rfl) (congrArg (Value.int .u64) (andB _ (Nat.lt_of_le_of_lt (Nat.div_le_self _ _) hB)))) ?_
  refine Qaa (.bool true) 34 rfl (by kernel_rfl) (Qah (u := .bool ((((B / 2 ^ j % 2 : Nat) : Int) == 1))) (by kernel_rfl) (congrArg Value.bool (by rw [hc]; rfl))) ?_
  refine Qaa (.bool true) 35 rfl (by kernel_rfl) (by kernel_rfl) ?_
  refine Qaa (.bool true) 36 rfl (by kernel_rfl) (by kernel_rfl) ?_
  refine Qac ?_
  refine hK9 _ _ ?_
  refine cond_true (by kernel_rfl) ?_
  refine wp_seq_k fun K10 hK10 => ?_
  refine Qab ?_
  refine Qaa (.iface 60 (.int .i64 7)) 37 rfl (by kernel_rfl) (by kernel_rfl) ?_
  refine Qaa (.iface 60 (.int .i64 7)) 4 rfl (by kernel_rfl) (by kernel_rfl) ?_
  refine Qac ?_
  refine hK10 _ _ ?_
  refine wp_ret ?_
  repeat (first | with_reducible refine goR1 ?_ | with_reducible refine goR2 ?_)
  exact (show bodyPost _ _ _ .ret _ _ from ret1 (.iface 60 (.int .i64 7)) rfl (Qa0 (by kernel_rfl)) ⟨rfl, x1⟩)
set_option maxHeartbeats 4000000 in
theorem check_F (g : Nat) (nx : Int) (B : Nat) (n : Int) (hnx : 0 ≤ nx ∧ nx ≤ 4294967295) (hB : B < 18446744073709551616) (w : World) (hg : w.heap[g]? = some (.cells (cat [#[.int .i64 nx], #[.int .u64 ((B : Nat) : Int)]]) 133)) (hn : 0 ≤ n ∧ n < 4294967295) (j : Nat) (hj : nx - 1 - n - 1 = (j : Int)) (hj2 : j < 64) (hc : B / 2 ^ j % 2 = 0) : Calls Tryd.prog 88 #[.pointer (some ⟨g, 0, none⟩), .int .i64 n] w (Ret w (.nilIface)) := by
  refine enter 38 [(0, .pointer (some ⟨g, 0, none⟩)), (1, .int .i64 n)] Tryd.func88 rfl rfl (by kernel_rfl) rfl ?_
  refine wp_seq_k fun K2 hK2 => ?_
  refine Qab ?_
  refine Qaa (.nilIface) 4 rfl (by kernel_rfl) (by kernel_rfl) ?_
  refine Qac ?_
  refine hK2 _ _ ?_
  refine wp_seq_k fun K3 hK3 => ?_
  refine wp_seq_k fun K4 hK4 => ?_
  refine Qab ?_
  refine Qaa (.int .i64 n) 6 rfl (by kernel_rfl) (by kernel_rfl) ?_
  refine Qaa (.bool false) 7 rfl (by kernel_rfl) (Qah (u := .bool (decide (n < 0))) (by kernel_rfl) (congrArg Value.bool (decide_eq_false (by omega)))) ?_
  refine Qaa (.bool false) 8 rfl (by kernel_rfl) (by kernel_rfl) ?_
  refine Qaa (.int .i64 n) 9 rfl (by kernel_rfl) (by kernel_rfl) ?_
  refine Qaa (.bool false) 10 rfl (by kernel_rfl) (Qah (u := .bool (decide (n ≥ 4294967295))) (by kernel_rfl) (congrArg Value.bool (decide_eq_false (by omega)))) ?_
  refine Qaa (.bool false) 11 rfl (by kernel_rfl) (by kernel_rfl) ?_
  refine Qac ?_
  refine hK4 _ _ ?_
  refine cond_false (by kernel_rfl) ?_
  refine wp_skip ?_
  refine hK3 _ _ ?_
  refine wp_seq_k fun K5 hK5 => ?_
  refine Qab ?_
  refine Qaa (.pointer (some ⟨g, 0, none⟩)) 13 rfl (by kernel_rfl) (by kernel_rfl) ?_
  refine Qat (.int .i64 (nx - 1)) 85 #[.pointer (some ⟨g, 0, none⟩)] 14 rfl (by kernel_rfl) (by kernel_rfl) (highestC g nx B hnx hB _ hg) fun W1 e1 => ?_
  have x1 : Ext w W1 := Ext.tr (Rely.Ext.refl w) e1
  refine Qaa (.int .i64 n) 15 rfl (by kernel_rfl) (by kernel_rfl) ?_
  refine Qaa (.int .i64 (nx - 1 - n)) 16 rfl (by kernel_rfl) (Qah (u := .int .i64 (IntKind.i64.wrap ((nx - 1) - n))) (by kernel_rfl) (congrArg (Value.int .i64) (i64_w _ (by omega)))) ?_
  refine Qaa (.int .i64 (nx - 1 - n)) 5 rfl (by kernel_rfl) (by kernel_rfl) ?_
  refine Qac ?_
  refine hK5 _ _ ?_
  refine wp_seq_k fun K6 hK6 => ?_
  refine wp_seq_k fun K7 hK7 => ?_
  refine Qab ?_
  refine Qaa (.int .i64 (nx - 1 - n)) 17 rfl (by kernel_rfl) (by kernel_rfl) ?_
  refine Qaa (.bool false) 18 rfl (by kernel_rfl) (Qah (u := .bool (decide ((nx - 1 - n) > 64))) (by kernel_rfl) (congrArg Value.bool (decide_eq_false (by omega)))) ?_
  refine Qac ?_
  refine hK7 _ _ ?_
  refine cond_false (by kernel_rfl) ?_
  refine wp_skip ?_
  refine hK6 _ _ ?_
  refine wp_seq_k fun K8 hK8 => ?_
  refine wp_seq_k fun K9 hK9 => ?_
  refine Qab ?_
  refine Qaa (.int .i64 (nx - 1 - n)) 20 rfl (by kernel_rfl) (by kernel_rfl) ?_
  refine Qaa (.bool false) 21 rfl (by kernel_rfl) (Qah (u := .bool (((nx - 1 - n) == 0))) (by kernel_rfl) (congrArg Value.bool (by simp; omega))) ?_
  refine Qaa (.bool false) 22 rfl (by kernel_rfl) (by kernel_rfl) ?_
  refine Qaa (.int .i64 (nx - 1 - n)) 23 rfl (by kernel_rfl) (by kernel_rfl) ?_
  refine Qaa (.bool true) 24 rfl (by kernel_rfl) (Qah (u := .bool (decide ((nx - 1 - n) > 0))) (by kernel_rfl) (congrArg Value.bool (decide_eq_true (by omega)))) ?_
  refine Qaa (.bool true) 25 rfl (by kernel_rfl) (by kernel_rfl) ?_
  refine Qaa (.pointer (some ⟨g, 0, none⟩)) 26 rfl (by kernel_rfl) (by kernel_rfl) ?_
  refine Qaa (.pointer (some ⟨g, 0, none⟩)) 27 rfl (by kernel_rfl) (by kernel_rfl) ?_
  refine Qaa (.pointer (some ⟨g, 1, none⟩)) 28 rfl (by kernel_rfl) (by kernel_rfl) ?_
  have r1_1 := (Qad hg e1)
  refine Qaa (.int .u64 ((B : Nat) : Int)) 29 rfl (by kernel_rfl) (Qae 129 _ g 1 133 _ (.int .u64 ((B : Nat) : Int)) _ r1_1 rfl (by kernel_rfl) (by kernel_rfl) (by kernel_rfl)) ?_
  refine Qaa (.int .i64 (nx - 1 - n)) 30 rfl (by kernel_rfl) (by kernel_rfl) ?_
  refine Qaa (.int .i64 (((j : Nat) : Int))) 31 rfl (by kernel_rfl) (Qah (u := .int .i64 (IntKind.i64.wrap ((nx - 1 - n) - 1))) (by kernel_rfl) (congrArg (Value.int .i64) (by rw [hj]; exact i64_w _ (by omega)))) ?_
  refine Qaa (.int .u64 (((B / 2 ^ j : Nat) : Int))) 32 rfl (by kernel_rfl) (QaF .shr _ _ _ _ .u64 .i64 _ _ _ rfl (by kernel_rfl) (by kernel_rfl) (Qc5 _ _ _ _ _ _ (by omega) (shrB B j hj2))) ?_
  refine Qaa (.int .u64 (((B / 2 ^ j % 2 : Nat) : Int))) 33 rfl (by kernel_rfl) (Qah (u := .int .u64 (bits .and .u64 (((B / 2 ^ j : Nat) : Int)) (1))) (by kernel_rfl) (congrArg (Value.int .u64) (andB _ (Nat.lt_of_le_of_lt (Nat.div_le_self _ _) hB)))) ?_
  refine Qaa (.bool false) 34 rfl (by kernel_rfl) (Qah (u := .bool ((((B / 2 ^ j % 2 : Nat) : Int) == 1))) (by kernel_rfl) (congrArg Value.bool (by rw [hc]; rfl))) ?_
  refine Qaa (.bool false) 35 rfl (by kernel_rfl) (by kernel_rfl) ?_
  refine Qaa (.bool false) 36 rfl (by kernel_rfl) (by kernel_rfl) ?_
  refine Qac ?_
  refine hK9 _ _ ?_
  refine cond_false (by kernel_rfl) ?_
  refine wp_skip ?_
  refine hK8 _ _ ?_
  refine wp_seq_k fun K10 hK10 => ?_
  refine Qab ?_
  refine Qaa (.nilIface) 4 rfl (by kernel_rfl) (by kernel_rfl) ?_
  refine Qac ?_
  refine hK10 _ _ ?_
  refine wp_ret ?_
  repeat (first | with_reducible refine goR1 ?_ | with_reducible refine goR2 ?_)
  exact (show bodyPost _ _ _ .ret _ _ from ret1 (.nilIface) rfl (Qa0 (by kernel_rfl)) ⟨rfl, x1⟩)
set_option maxHeartbeats 4000000 in
theorem check_G (g : Nat) (nx : Int) (B : Nat) (n : Int) (hnx : 0 ≤ nx ∧ nx ≤ 4294967295) (hB : B < 18446744073709551616) (w : World) (hg : w.heap[g]? = some (.cells (cat [#[.int .i64 nx], #[.int .u64 ((B : Nat) : Int)]]) 133)) (hn : 0 ≤ n ∧ n < 4294967295) (hc : nx - 1 - n < 0) : Calls Tryd.prog 88 #[.pointer (some ⟨g, 0, none⟩), .int .i64 n] w (Ret w (.nilIface)) := by
  refine enter 38 [(0, .pointer (some ⟨g, 0, none⟩)), (1, .int .i64 n)] Tryd.func88 rfl rfl (by kernel_rfl) rfl ?_
  refine wp_seq_k fun K2 hK2 => ?_
  refine Qab ?_
  refine Qaa (.nilIface) 4 rfl (by kernel_rfl) (by kernel_rfl) ?_
  refine Qac ?_
  refine hK2 _ _ ?_
  refine wp_seq_k fun K3 hK3 => ?_
  refine wp_seq_k fun K4 hK4 => ?_
  refine Qab ?_
  refine Qaa (.int .i64 n) 6 rfl (by kernel_rfl) (by kernel_rfl) ?_
  refine Qaa (.bool false) 7 rfl (by kernel_rfl) (Qah (u := .bool (decide (n < 0))) (by kernel_rfl) (congrArg Value.bool (decide_eq_false (by omega)))) ?_
  refine Qaa (.bool false) 8 rfl (by kernel_rfl) (by kernel_rfl) ?_
  refine Qaa (.int .i64 n) 9 rfl (by kernel_rfl) (by kernel_rfl) ?_
  refine Qaa (.bool false) 10 rfl (by kernel_rfl) (Qah (u := .bool (decide (n ≥ 4294967295))) (by kernel_rfl) (congrArg Value.bool (decide_eq_false (by omega)))) ?_
  refine Qaa (.bool false) 11 rfl (by kernel_rfl) (by kernel_rfl) ?_
  refine Qac ?_
  refine hK4 _ _ ?_
  refine cond_false (by kernel_rfl) ?_
  refine wp_skip ?_
  refine hK3 _ _ ?_
  refine wp_seq_k fun K5 hK5 => ?_
  refine Qab ?_
  refine Qaa (.pointer (some ⟨g, 0, none⟩)) 13 rfl (by kernel_rfl) (by kernel_rfl) ?_
  refine Qat (.int .i64 (nx - 1)) 85 #[.pointer (some ⟨g, 0, none⟩)] 14 rfl (by kernel_rfl) (by kernel_rfl) (highestC g nx B hnx hB _ hg) fun W1 e1 => ?_
  have x1 : Ext w W1 := Ext.tr (Rely.Ext.refl w) e1
  refine Qaa (.int .i64 n) 15 rfl (by kernel_rfl) (by kernel_rfl) ?_
  refine Qaa (.int .i64 (nx - 1 - n)) 16 rfl (by kernel_rfl) (Qah (u := .int .i64 (IntKind.i64.wrap ((nx - 1) - n))) (by kernel_rfl) (congrArg (Value.int .i64) (i64_w _ (by omega)))) ?_
  refine Qaa (.int .i64 (nx - 1 - n)) 5 rfl (by kernel_rfl) (by kernel_rfl) ?_
  refine Qac ?_
  refine hK5 _ _ ?_
  refine wp_seq_k fun K6 hK6 => ?_
  refine wp_seq_k fun K7 hK7 => ?_
  refine Qab ?_
  refine Qaa (.int .i64 (nx - 1 - n)) 17 rfl (by kernel_rfl) (by kernel_rfl) ?_
  refine Qaa (.bool false) 18 rfl (by kernel_rfl) (Qah (u := .bool (decide ((nx - 1 - n) > 64))) (by kernel_rfl) (congrArg Value.bool (decide_eq_false (by omega)))) ?_
  refine Qac ?_
  refine hK7 _ _ ?_
  refine cond_false (by kernel_rfl) ?_
  refine wp_skip ?_
  refine hK6 _ _ ?_
  refine wp_seq_k fun K8 hK8 => ?_
  refine wp_seq_k fun K9 hK9 => ?_
  refine Qab ?_
  refine Qaa (.int .i64 (nx - 1 - n)) 20 rfl (by kernel_rfl) (by kernel_rfl) ?_
  refine Qaa (.bool false) 21 rfl (by kernel_rfl) (Qah (u := .bool (((nx - 1 - n) == 0))) (by kernel_rfl) (congrArg Value.bool (by simp; omega))) ?_
  refine Qaa (.bool false) 22 rfl (by kernel_rfl) (by kernel_rfl) ?_
  refine Qaa (.int .i64 (nx - 1 - n)) 23 rfl (by kernel_rfl) (by kernel_rfl) ?_
  refine Qaa (.bool false) 24 rfl (by kernel_rfl) (Qah (u := .bool (decide ((nx - 1 - n) > 0))) (by kernel_rfl) (congrArg Value.bool (decide_eq_false (by omega)))) ?_
  refine Qaa (.bool false) 25 rfl (by kernel_rfl) (by kernel_rfl) ?_
  refine Qaz 26 rfl (by kernel_rfl) ?_
  refine Qaz 27 rfl (by kernel_rfl) ?_
  refine Qaz 28 rfl (by kernel_rfl) ?_
  refine Qaz 29 rfl (by kernel_rfl) ?_
  refine Qaz 30 rfl (by kernel_rfl) ?_
  refine Qaz 31 rfl (by kernel_rfl) ?_
  refine Qaz 32 rfl (by kernel_rfl) ?_
  refine Qaz 33 rfl (by kernel_rfl) ?_
  refine Qaz 34 rfl (by kernel_rfl) ?_
  refine Qaa (.bool false) 35 rfl (by kernel_rfl) (by kernel_rfl) ?_
  refine Qaa (.bool false) 36 rfl (by kernel_rfl) (by kernel_rfl) ?_
  refine Qac ?_
  refine hK9 _ _ ?_
  refine cond_false (by kernel_rfl) ?_
  refine wp_skip ?_
  refine hK8 _ _ ?_
  refine wp_seq_k fun K10 hK10 => ?_
  refine Qab ?_
  refine Qaa (.nilIface) 4 rfl (by kernel_rfl) (by kernel_rfl) ?_
  refine Qac ?_
  refine hK10 _ _ ?_
  refine wp_ret ?_
  repeat (first | with_reducible refine goR1 ?_ | with_reducible refine goR2 ?_)
  exact (show bodyPost _ _ _ .ret _ _ from ret1 (.nilIface) rfl (Qa0 (by kernel_rfl)) ⟨rfl, x1⟩)
theorem checkC (g : Nat) (nx : Int) (B : Nat) (n : Int) (hnx : 0 ≤ nx ∧ nx ≤ 4294967295) (hB : B < 18446744073709551616) (w : World) (hg : w.heap[g]? = some (.cells (cat [#[.int .i64 nx], #[.int .u64 ((B : Nat) : Int)]]) 133)) : Calls Tryd.prog 88 #[.pointer (some ⟨g, 0, none⟩), .int .i64 n] w (Ret w (errV (chkW nx B n))) := by
  unfold chkW
  by_cases h1 : n < 0
  · rw [if_pos (.inl h1)]; exact check_A g nx B n hnx hB w hg h1
  by_cases h2 : 4294967295 ≤ n
  · rw [if_pos (.inr h2)]; exact check_B g nx B n hnx hB w hg h2
  rw [if_neg (by omega)]
  have hn : 0 ≤ n ∧ n < 4294967295 := by omega
  by_cases h3 : 64 < nx - 1 - n
  · rw [if_pos h3]; exact check_C g nx B n hnx hB w hg hn h3
  rw [if_neg h3]
  by_cases h4 : nx - 1 - n = 0
  · rw [if_pos (.inl h4)]; exact check_D g nx B n hnx hB w hg hn h4
  by_cases h5 : 0 < nx - 1 - n
  · obtain ⟨j, hj⟩ := Int.eq_ofNat_of_zero_le (show 0 ≤ nx - 1 - n - 1 by omega)
    have hj2 : j < 64 := by omega
    rw [hj, Int.toNat_natCast]
    have hm : B / 2 ^ j % 2 < 2 := Nat.mod_lt _ (by decide)
    by_cases h6 : B / 2 ^ j % 2 = 1
    · rw [if_pos (.inr ⟨h5, h6⟩)]; exact check_E g nx B n hnx hB w hg hn j hj hj2 h6
    · rw [if_neg (by rintro (h | h); exact h4 h; exact h6 h.2)]; exact check_F g nx B n hnx hB w hg hn j hj hj2 (by omega)
  · rw [if_neg (by rintro (h | h); exact h4 h; exact h5 h.1)]; exact check_G g nx B n hnx hB w hg hn (by omega)
set_option maxHeartbeats 4000000 in
theorem Qhe (g : Nat) (nx : Int) (B : Nat) (n : Int) (hnx : 0 ≤ nx ∧ nx ≤ 4294967295) (hB : B < 18446744073709551616) (w : World) (hg : w.heap[g]? = some (.cells (cat [#[.int .i64 nx], #[.int .u64 ((B : Nat) : Int)]]) 133)) : Calls Tryd.prog 82 #[.pointer (some ⟨g, 0, none⟩), .int .i64 n] w (Ret w (errV (chkW nx B n))) := by
  refine enter 13 [(0, .pointer (some ⟨g, 0, none⟩)), (1, .int .i64 n)] Tryd.func82 rfl rfl (by kernel_rfl) rfl ?_
  refine wp_seq_k fun K2 hK2 => ?_
  refine Qab ?_
  refine Qaa (.nilIface) 4 rfl (by kernel_rfl) (by kernel_rfl) ?_
  refine Qac ?_
  refine hK2 _ _ ?_
  refine wp_seq_k fun K3 hK3 => ?_
  refine wp_seq_k fun K4 hK4 => ?_
  refine Qab ?_
  refine Qaa (.pointer (some ⟨g, 0, none⟩)) 5 rfl (by kernel_rfl) (by kernel_rfl) ?_
  refine Qaa (.bool false) 6 rfl (by kernel_rfl) (by kernel_rfl) ?_
  refine Qac ?_
  refine hK4 _ _ ?_
  refine cond_false (by kernel_rfl) ?_
  refine wp_skip ?_
  refine hK3 _ _ ?_
  refine wp_seq_k fun K5 hK5 => ?_
  refine Qab ?_
  refine Qaa (.pointer (some ⟨g, 0, none⟩)) 8 rfl (by kernel_rfl) (by kernel_rfl) ?_
  refine Qaa (.pointer (some ⟨g, 0, none⟩)) 9 rfl (by kernel_rfl) (by kernel_rfl) ?_
  refine Qaa (.pointer (some ⟨g, 0, none⟩)) 10 rfl (by kernel_rfl) (by kernel_rfl) ?_
  refine Qaa (.int .i64 n) 11 rfl (by kernel_rfl) (by kernel_rfl) ?_
  refine Qat (errV (chkW nx B n)) 88 #[.pointer (some ⟨g, 0, none⟩), .int .i64 n] 12 rfl (by kernel_rfl) (by kernel_rfl) (checkC g nx B n hnx hB _ hg) fun W1 e1 => ?_
  have x1 : Ext w W1 := Ext.tr (Rely.Ext.refl w) e1
  refine Qaa (errV (chkW nx B n)) 4 rfl (by kernel_rfl) (by kernel_rfl) ?_
  refine Qac ?_
  refine hK5 _ _ ?_
  refine wp_ret ?_
  repeat (first | with_reducible refine goR1 ?_ | with_reducible refine goR2 ?_)
  exact (show bodyPost _ _ _ .ret _ _ from ret1 (errV (chkW nx B n)) rfl (Qa0 (by kernel_rfl)) ⟨rfl, x1⟩)
end Go.Proofs.YtoiendjhplbjjaaDoor.Lk
end
section
namespace Go.Proofs.YtoiendjhplbjjaaDoor.Lk
open Go Go.RowKit
open Rely Auto
set_option linter.unusedVariables false
theorem errV_ne {e : Int} (h : e ≠ 0) : errV e = .iface 60 (.int .i64 e) := by unfold errV; rw [if_neg h]
theorem errV_nil {e : Int} (h : e = 0) : errV e = .nilIface := by unfold errV; rw [if_pos h]
theorem i64_neg (a b : Int) (h : -5000000000 ≤ a ∧ a ≤ 5000000000) (e : 0 - a = b) : IntKind.i64.wrap (0 - a) = b := by rw [e]; exact i64_w _ (by omega)
theorem pow_lt (j : Nat) (h : j < 64) : 2 ^ j < 18446744073709551616 := Nat.pow_lt_pow_right (by decide) h
theorem shl1 (j : Nat) (h : j < 64) : IntKind.u64.wrap (1 * 2 ^ min ((j : Nat) : Int).toNat IntKind.u64.bits) = ((2 ^ j : Nat) : Int) := by
  have := shlB 1 j
  rw [Nat.one_mul, Nat.mod_eq_of_lt (pow_lt j h)] at this
  exact this
set_option maxHeartbeats 4000000 in
theorem mark_F (g : Nat) (nx : Int) (B : Nat) (n : Int) (hnx : 0 ≤ nx ∧ nx ≤ 4294967295) (hB : B < 18446744073709551616) (w : World) (hg : w.heap[g]? = some (.cells (cat [#[.int .i64 nx], #[.int .u64 ((B : Nat) : Int)]]) 133)) (hc : chkW nx B n = 0) (j : Nat) (hj : nx - 1 - n - 1 = (j : Int)) (hj2 : j < 64) : Calls Tryd.prog 89 #[.pointer (some ⟨g, 0, none⟩), .int .i64 n] w (fun e w' => e = .returned .nilIface ∧ ExtB g w w' ∧ w'.heap[g]? = some (.cells (cat [#[.int .i64 nx], #[.int .u64 ((B ||| 2 ^ j : Nat) : Int)]]) 133)) := by
  refine enter 48 [(0, .pointer (some ⟨g, 0, none⟩)), (1, .int .i64 n)] Tryd.func89 rfl rfl (by kernel_rfl) rfl ?_
  refine wp_seq_k fun K2 hK2 => ?_
  refine Qab ?_
  refine Qaa (.nilIface) 4 rfl (by kernel_rfl) (by kernel_rfl) ?_
  refine Qac ?_
  refine hK2 _ _ ?_
  refine wp_seq_k fun K3 hK3 => ?_
  refine wp_seq_k fun K4 hK4 => ?_
  refine Qab ?_
  refine Qaa (.pointer (some ⟨g, 0, none⟩)) 7 rfl (by kernel_rfl) (by kernel_rfl) ?_
  refine Qaa (.int .i64 n) 8 rfl (by kernel_rfl) (by kernel_rfl) ?_
  refine Qat (.nilIface) 88 #[.pointer (some ⟨g, 0, none⟩), .int .i64 n] 9 rfl (by kernel_rfl) (by kernel_rfl) (errV_nil hc ▸ checkC g nx B n hnx hB _ hg) fun W1 e1 => ?_
  have x1 : ExtB g w W1 := ExtB.ext (ExtB.refl g w) e1
  refine Qaa (.nilIface) 5 rfl (by kernel_rfl) (by kernel_rfl) ?_
  refine Qac ?_
  refine hK4 _ _ ?_
  refine wp_seq_k fun K5 hK5 => ?_
  refine Qab ?_
  refine Qaa (.nilIface) 10 rfl (by kernel_rfl) (by kernel_rfl) ?_
  refine Qaa (.bool false) 11 rfl (by kernel_rfl) (by kernel_rfl) ?_
  refine Qac ?_
  refine hK5 _ _ ?_
  refine cond_false (by kernel_rfl) ?_
  refine wp_skip ?_
  refine hK3 _ _ ?_
  refine wp_seq_k fun K6 hK6 => ?_
  refine Qab ?_
  refine Qaa (.int .i64 n) 13 rfl (by kernel_rfl) (by kernel_rfl) ?_
  refine Qaa (.pointer (some ⟨g, 0, none⟩)) 14 rfl (by kernel_rfl) (by kernel_rfl) ?_
  have r1_1 := (Qad hg e1)
  refine Qat (.int .i64 (nx - 1)) 85 #[.pointer (some ⟨g, 0, none⟩)] 15 rfl (by kernel_rfl) (by kernel_rfl) (highestC g nx B hnx hB _ r1_1) fun W2 e2 => ?_
  have x2 : ExtB g w W2 := ExtB.ext x1 e2
  refine Qaa (.int .i64 (n - (nx - 1))) 16 rfl (by kernel_rfl) (Qah (u := .int .i64 (IntKind.i64.wrap (n - (nx - 1)))) (by kernel_rfl) (congrArg (Value.int .i64) (i64_w _ (by omega)))) ?_
  refine Qaa (.int .i64 (n - (nx - 1))) 6 rfl (by kernel_rfl) (by kernel_rfl) ?_
  refine Qac ?_
  refine hK6 _ _ ?_
  refine wp_seq_k fun K7 hK7 => ?_
  refine wp_seq_k fun K8 hK8 => ?_
  refine Qab ?_
  refine Qaa (.int .i64 (n - (nx - 1))) 17 rfl (by kernel_rfl) (by kernel_rfl) ?_
  refine Qaa (.bool true) 18 rfl (by kernel_rfl) (Qah (u := .bool (decide ((n - (nx - 1)) < 0))) (by kernel_rfl) (congrArg Value.bool (decide_eq_true (by omega)))) ?_
  refine Qac ?_
  refine hK8 _ _ ?_
  refine cond_true (by kernel_rfl) ?_
  refine wp_seq_k fun K9 hK9 => ?_
  refine Qbg 11 [⟨none, [(0, none)]⟩, ⟨none, [(19, some 0)]⟩, ⟨none, [(20, some 1)]⟩, ⟨none, [(21, some 2)]⟩, ⟨none, [(6, none)]⟩, ⟨none, [(23, some 4)]⟩, ⟨none, [(24, some 5)]⟩, ⟨none, [(25, some 6)]⟩, ⟨none, [(22, some 3), (26, some 7)]⟩, ⟨none, [(19, some 0)]⟩, ⟨none, [(28, some 9)]⟩] (by kernel_rfl) (by kernel_rfl) fun F hF => ?_
  refine Qau (.pointer (some ⟨g, 0, none⟩)) (by kernel_rfl) (by kernel_rfl) (fun W => by kernel_rfl) ?_
  refine Qau (.pointer (some ⟨g, 0, none⟩)) (by kernel_rfl) (by kernel_rfl) (fun W => by kernel_rfl) ?_
  refine Qau (.pointer (some ⟨g, 1, none⟩)) (by kernel_rfl) (by kernel_rfl) (fun W => by kernel_rfl) ?_
  have r1_2 := (Qad r1_1 e2)
  refine Qba (.int .u64 ((B : Nat) : Int)) (by kernel_rfl) (by kernel_rfl) (fun W hR => (Qae 129 _ g 1 133 _ (.int .u64 ((B : Nat) : Int)) _ (Qad (Qad r1_2 (Qai _)) hR) rfl (by kernel_rfl) (by kernel_rfl) (by kernel_rfl))) ?_
  refine Qau (.int .i64 (n - (nx - 1))) (by kernel_rfl) (by kernel_rfl) (fun W => by kernel_rfl) ?_
  refine Qau (.int .i64 (nx - 1 - n)) (by kernel_rfl) (by kernel_rfl) (fun W => (Qah (u := .int .i64 (IntKind.i64.wrap (0 - (n - (nx - 1))))) (by kernel_rfl) (congrArg (Value.int .i64) (i64_neg _ _ (by omega) (by omega))))) ?_
  refine Qau (.int .i64 (((j : Nat) : Int))) (by kernel_rfl) (by kernel_rfl) (fun W => (Qah (u := .int .i64 (IntKind.i64.wrap ((nx - 1 - n) - 1))) (by kernel_rfl) (congrArg (Value.int .i64) (by rw [hj]; exact i64_w _ (by omega))))) ?_
  refine Qau (.int .u64 (((2 ^ j : Nat) : Int))) (by kernel_rfl) (by kernel_rfl) (fun W => (QaF .shl _ _ _ _ .u64 .i64 _ _ _ rfl (by kernel_rfl) (by kernel_rfl) (Qcj _ _ _ _ _ _ (by omega) (shl1 j hj2)))) ?_
  refine Qau (.int .u64 (((B ||| 2 ^ j : Nat) : Int))) (by kernel_rfl) (by kernel_rfl) (fun W => (Qah (u := .int .u64 (bits .or .u64 (((B : Nat) : Int)) (((2 ^ j : Nat) : Int)))) (by kernel_rfl) (congrArg (Value.int .u64) (orB _ _ hB (pow_lt j hj2))))) ?_
  refine Qau (.pointer (some ⟨g, 0, none⟩)) (by kernel_rfl) (by kernel_rfl) (fun W => by kernel_rfl) ?_
  refine Qau (.pointer (some ⟨g, 1, none⟩)) (by kernel_rfl) (by kernel_rfl) (fun W => by kernel_rfl) ?_
  refine Qbn (hF _ (by kernel_rfl) fun W3 e3 => ?_)
  simp only [ups, up, Kn.val, List.take_succ_cons, List.take_zero, List.drop_succ_cons, List.drop_zero, List.nil_append, List.cons_append]
  clear hF
  have x3 : ExtB g w W3 := ExtB.ext x2 e3
  have r1_3 := (Qad r1_2 e3)
  refine Qaj g _ (cat [#[.int .i64 nx], #[.int .u64 (((B ||| 2 ^ j : Nat) : Int))]]) 133 r1_3 rfl (by kernel_rfl) (Qbh 129 _ _ g 1 133 _ (.int .u64 (((B ||| 2 ^ j : Nat) : Int))) r1_3 rfl (by kernel_rfl) (by kernel_rfl) (by kernel_rfl) (by kernel_rfl) (by kernel_rfl) rfl) fun W4 p4 r1_4 => ?_
  have x4 : ExtB g w W4 := ExtB.puts x3 p4
  refine Qac ?_
  refine hK9 _ _ ?_
  refine wp_seq_k fun K10 hK10 => ?_
  refine Qab ?_
  refine Qaa (.nilIface) 4 rfl (by kernel_rfl) (by kernel_rfl) ?_
  refine Qac ?_
  refine hK10 _ _ ?_
  refine wp_ret ?_
  repeat (first | with_reducible refine goR1 ?_ | with_reducible refine goR2 ?_)
  exact (show bodyPost _ _ _ .ret _ _ from ret1 (.nilIface) rfl (Qa0 (by kernel_rfl)) ⟨rfl, x4, r1_4⟩)
set_option maxHeartbeats 4000000 in
theorem mark_G (g : Nat) (nx : Int) (B : Nat) (n : Int) (hnx : 0 ≤ nx ∧ nx ≤ 4294967295) (hB : B < 18446744073709551616) (w : World) (hg : w.heap[g]? = some (.cells (cat [#[.int .i64 nx], #[.int .u64 ((B : Nat) : Int)]]) 133)) (hc : chkW nx B n = 0) (hn : 0 ≤ n ∧ n < 4294967295) (a : Nat) (ha : n - (nx - 1) = (a : Int)) (ha1 : 1 ≤ a) : Calls Tryd.prog 89 #[.pointer (some ⟨g, 0, none⟩), .int .i64 n] w (fun e w' => e = .returned .nilIface ∧ ExtB g w w' ∧ w'.heap[g]? = some (.cells (cat [#[.int .i64 (n + 1)], #[.int .u64 ((B * 2 ^ a % 18446744073709551616 ||| 1 * 2 ^ (a - 1) % 18446744073709551616 : Nat) : Int)]]) 133)) := by
  refine enter 48 [(0, .pointer (some ⟨g, 0, none⟩)), (1, .int .i64 n)] Tryd.func89 rfl rfl (by kernel_rfl) rfl ?_
  refine wp_seq_k fun K2 hK2 => ?_
  refine Qab ?_
  refine Qaa (.nilIface) 4 rfl (by kernel_rfl) (by kernel_rfl) ?_
  refine Qac ?_
  refine hK2 _ _ ?_
  refine wp_seq_k fun K3 hK3 => ?_
  refine wp_seq_k fun K4 hK4 => ?_
  refine Qab ?_
  refine Qaa (.pointer (some ⟨g, 0, none⟩)) 7 rfl (by kernel_rfl) (by kernel_rfl) ?_
  refine Qaa (.int .i64 n) 8 rfl (by kernel_rfl) (by kernel_rfl) ?_
  refine Qat (.nilIface) 88 #[.pointer (some ⟨g, 0, none⟩), .int .i64 n] 9 rfl (by kernel_rfl) (by kernel_rfl) (errV_nil hc ▸ checkC g nx B n hnx hB _ hg) fun W1 e1 => ?_
  have x1 : ExtB g w W1 := ExtB.ext (ExtB.refl g w) e1
  refine Qaa (.nilIface) 5 rfl (by kernel_rfl) (by kernel_rfl) ?_
  refine Qac ?_
  refine hK4 _ _ ?_
  refine wp_seq_k fun K5 hK5 => ?_
  refine Qab ?_
  refine Qaa (.nilIface) 10 rfl (by kernel_rfl) (by kernel_rfl) ?_
  refine Qaa (.bool false) 11 rfl (by kernel_rfl) (by kernel_rfl) ?_
  refine Qac ?_
  refine hK5 _ _ ?_
  refine cond_false (by kernel_rfl) ?_
  refine wp_skip ?_
  refine hK3 _ _ ?_
  refine wp_seq_k fun K6 hK6 => ?_
  refine Qab ?_
  refine Qaa (.int .i64 n) 13 rfl (by kernel_rfl) (by kernel_rfl) ?_
  refine Qaa (.pointer (some ⟨g, 0, none⟩)) 14 rfl (by kernel_rfl) (by kernel_rfl) ?_
  have r1_1 := (Qad hg e1)
  refine Qat (.int .i64 (nx - 1)) 85 #[.pointer (some ⟨g, 0, none⟩)] 15 rfl (by kernel_rfl) (by kernel_rfl) (highestC g nx B hnx hB _ r1_1) fun W2 e2 => ?_
  have x2 : ExtB g w W2 := ExtB.ext x1 e2
  refine Qaa (.int .i64 (((a : Nat) : Int))) 16 rfl (by kernel_rfl) (Qah (u := .int .i64 (IntKind.i64.wrap (n - (nx - 1)))) (by kernel_rfl) (congrArg (Value.int .i64) (by rw [ha]; exact i64_w _ (by omega)))) ?_
  refine Qaa (.int .i64 (((a : Nat) : Int))) 6 rfl (by kernel_rfl) (by kernel_rfl) ?_
  refine Qac ?_
  refine hK6 _ _ ?_
  refine wp_seq_k fun K7 hK7 => ?_
  refine wp_seq_k fun K8 hK8 => ?_
  refine Qab ?_
  refine Qaa (.int .i64 (((a : Nat) : Int))) 17 rfl (by kernel_rfl) (by kernel_rfl) ?_
  refine Qaa (.bool false) 18 rfl (by kernel_rfl) (Qah (u := .bool (decide (((a : Nat) : Int) < 0))) (by kernel_rfl) (congrArg Value.bool (decide_eq_false (by omega)))) ?_
  refine Qac ?_
  refine hK8 _ _ ?_
  refine cond_false (by kernel_rfl) ?_
  refine wp_skip ?_
  refine hK7 _ _ ?_
  refine wp_seq_k fun K9 hK9 => ?_
  refine Qbg 13 [⟨none, [(0, none)]⟩, ⟨none, [(0, none)]⟩, ⟨none, [(31, some 1)]⟩, ⟨none, [(32, some 2)]⟩, ⟨none, [(33, some 3)]⟩, ⟨none, [(6, none)]⟩, ⟨none, [(34, some 4), (35, some 5)]⟩, ⟨none, [(6, none)]⟩, ⟨none, [(37, some 7)]⟩, ⟨none, [(38, some 8)]⟩, ⟨none, [(36, some 6), (39, some 9)]⟩, ⟨none, [(30, some 0)]⟩, ⟨none, [(41, some 11)]⟩] (by kernel_rfl) (by kernel_rfl) fun F hF => ?_
  refine Qau (.pointer (some ⟨g, 0, none⟩)) (by kernel_rfl) (by kernel_rfl) (fun W => by kernel_rfl) ?_
  refine Qau (.pointer (some ⟨g, 0, none⟩)) (by kernel_rfl) (by kernel_rfl) (fun W => by kernel_rfl) ?_
  refine Qau (.pointer (some ⟨g, 0, none⟩)) (by kernel_rfl) (by kernel_rfl) (fun W => by kernel_rfl) ?_
  refine Qau (.pointer (some ⟨g, 1, none⟩)) (by kernel_rfl) (by kernel_rfl) (fun W => by kernel_rfl) ?_
  have r1_2 := (Qad r1_1 e2)
  refine Qba (.int .u64 ((B : Nat) : Int)) (by kernel_rfl) (by kernel_rfl) (fun W hR => (Qae 129 _ g 1 133 _ (.int .u64 ((B : Nat) : Int)) _ (Qad (Qad r1_2 (Qai _)) hR) rfl (by kernel_rfl) (by kernel_rfl) (by kernel_rfl))) ?_
  refine Qau (.int .i64 (((a : Nat) : Int))) (by kernel_rfl) (by kernel_rfl) (fun W => by kernel_rfl) ?_
  refine Qau (.int .u64 (((B * 2 ^ a % 18446744073709551616 : Nat) : Int))) (by kernel_rfl) (by kernel_rfl) (fun W => (QaF .shl _ _ _ _ .u64 .i64 _ _ _ rfl (by kernel_rfl) (by kernel_rfl) (Qcj _ _ _ _ _ _ (by omega) (shlB B a)))) ?_
  refine Qau (.int .i64 (((a : Nat) : Int))) (by kernel_rfl) (by kernel_rfl) (fun W => by kernel_rfl) ?_
  refine Qau (.int .i64 (((a - 1 : Nat) : Int))) (by kernel_rfl) (by kernel_rfl) (fun W => (Qah (u := .int .i64 (IntKind.i64.wrap (((a : Nat) : Int) - 1))) (by kernel_rfl) (congrArg (Value.int .i64) (by rw [show ((a - 1 : Nat) : Int) = (a : Int) - 1 by omega]; exact i64_w _ (by omega))))) ?_
  refine Qau (.int .u64 (((1 * 2 ^ (a - 1) % 18446744073709551616 : Nat) : Int))) (by kernel_rfl) (by kernel_rfl) (fun W => (QaF .shl _ _ _ _ .u64 .i64 _ _ _ rfl (by kernel_rfl) (by kernel_rfl) (Qcj _ _ _ _ _ _ (by omega) (shlB 1 (a - 1))))) ?_
  refine Qau (.int .u64 (((B * 2 ^ a % 18446744073709551616 ||| 1 * 2 ^ (a - 1) % 18446744073709551616 : Nat) : Int))) (by kernel_rfl) (by kernel_rfl) (fun W => (Qah (u := .int .u64 (bits .or .u64 (((B * 2 ^ a % 18446744073709551616 : Nat) : Int)) (((1 * 2 ^ (a - 1) % 18446744073709551616 : Nat) : Int)))) (by kernel_rfl) (congrArg (Value.int .u64) (orB _ _ (Nat.mod_lt _ (by decide)) (Nat.mod_lt _ (by decide)))))) ?_
  refine Qau (.pointer (some ⟨g, 0, none⟩)) (by kernel_rfl) (by kernel_rfl) (fun W => by kernel_rfl) ?_
  refine Qau (.pointer (some ⟨g, 1, none⟩)) (by kernel_rfl) (by kernel_rfl) (fun W => by kernel_rfl) ?_
  refine Qbn (hF _ (by kernel_rfl) fun W3 e3 => ?_)
  simp only [ups, up, Kn.val, List.take_succ_cons, List.take_zero, List.drop_succ_cons, List.drop_zero, List.nil_append, List.cons_append]
  clear hF
  have x3 : ExtB g w W3 := ExtB.ext x2 e3
  have r1_3 := (Qad r1_2 e3)
  refine Qaj g _ (cat [#[.int .i64 nx], #[.int .u64 (((B * 2 ^ a % 18446744073709551616 ||| 1 * 2 ^ (a - 1) % 18446744073709551616 : Nat) : Int))]]) 133 r1_3 rfl (by kernel_rfl) (Qbh 129 _ _ g 1 133 _ (.int .u64 (((B * 2 ^ a % 18446744073709551616 ||| 1 * 2 ^ (a - 1) % 18446744073709551616 : Nat) : Int))) r1_3 rfl (by kernel_rfl) (by kernel_rfl) (by kernel_rfl) (by kernel_rfl) (by kernel_rfl) rfl) fun W4 p4 r1_4 => ?_
  have x4 : ExtB g w W4 := ExtB.puts x3 p4
  refine Qac ?_
  refine hK9 _ _ ?_
  refine wp_seq_k fun K10 hK10 => ?_
  refine Qab ?_
  refine Qaa (.pointer (some ⟨g, 0, none⟩)) 43 rfl (by kernel_rfl) (by kernel_rfl) ?_
  refine Qaa (.int .i64 n) 44 rfl (by kernel_rfl) (by kernel_rfl) ?_
  refine Qaa (.int .i64 (n + 1)) 45 rfl (by kernel_rfl) (Qah (u := .int .i64 (IntKind.i64.wrap (n + 1))) (by kernel_rfl) (congrArg (Value.int .i64) (i64_w _ (by omega)))) ?_
  refine Qaa (.pointer (some ⟨g, 0, none⟩)) 46 rfl (by kernel_rfl) (by kernel_rfl) ?_
  refine Qaa (.pointer (some ⟨g, 0, none⟩)) 47 rfl (by kernel_rfl) (by kernel_rfl) ?_
  refine Qaj g _ (cat [#[.int .i64 (n + 1)], #[.int .u64 (((B * 2 ^ a % 18446744073709551616 ||| 1 * 2 ^ (a - 1) % 18446744073709551616 : Nat) : Int))]]) 133 r1_4 rfl (by kernel_rfl) (Qbh 3 _ _ g 0 133 _ (.int .i64 (n + 1)) r1_4 rfl (by kernel_rfl) (by kernel_rfl) (by kernel_rfl) (by kernel_rfl) (by kernel_rfl) rfl) fun W5 p5 r1_5 => ?_
  have x5 : ExtB g w W5 := ExtB.puts x4 p5
  refine Qac ?_
  refine hK10 _ _ ?_
  refine wp_seq_k fun K11 hK11 => ?_
  refine Qab ?_
  refine Qaa (.nilIface) 4 rfl (by kernel_rfl) (by kernel_rfl) ?_
  refine Qac ?_
  refine hK11 _ _ ?_
  refine wp_ret ?_
  repeat (first | with_reducible refine goR1 ?_ | with_reducible refine goR2 ?_)
  exact (show bodyPost _ _ _ .ret _ _ from ret1 (.nilIface) rfl (Qa0 (by kernel_rfl)) ⟨rfl, x5, r1_5⟩)
set_option maxHeartbeats 4000000 in
theorem NumZ (w : World) : Calls Tryd.prog 25 #[.nilIface] w (Ret w (.int .i64 0)) := by
  refine enter 19 [(0, .nilIface)] Tryd.func25 rfl rfl (by kernel_rfl) rfl ?_
  refine wp_seq_k fun K1 hK1 => ?_
  refine Qab ?_
  refine Qaa (.int .i64 0) 2 rfl (by kernel_rfl) (by kernel_rfl) ?_
  refine Qac ?_
  refine hK1 _ _ ?_
  refine wp_seq_k fun K2 hK2 => ?_
  refine wp_seq_k fun K3 hK3 => ?_
  refine Qab ?_
  refine Qaa (.nilIface) 5 rfl (by kernel_rfl) (by kernel_rfl) ?_
  refine Qaa (.bool true) 6 rfl (by kernel_rfl) (by kernel_rfl) ?_
  refine Qac ?_
  refine hK3 _ _ ?_
  refine cond_true (by kernel_rfl) ?_
  refine wp_seq_k fun K4 hK4 => ?_
  refine Qab ?_
  refine Qaa (.int .i64 0) 2 rfl (by kernel_rfl) (by kernel_rfl) ?_
  refine Qac ?_
  refine hK4 _ _ ?_
  refine wp_ret ?_
  repeat (first | with_reducible refine goR1 ?_ | with_reducible refine goR2 ?_)
  exact (show bodyPost _ _ _ .ret _ _ from ret1 (.int .i64 0) rfl (Qa0 (by kernel_rfl)) ⟨rfl, (Rely.Ext.refl w)⟩)
set_option maxHeartbeats 4000000 in
theorem NumE (e : Int) (h0 : e ≠ 0) (w : World) : Calls Tryd.prog 25 #[.iface 60 (.int .i64 e)] w (Ret w (.int .i64 e)) := by
  refine enter 19 [(0, .iface 60 (.int .i64 e))] Tryd.func25 rfl rfl (by kernel_rfl) rfl ?_
  refine wp_seq_k fun K1 hK1 => ?_
  refine Qab ?_
  refine Qaa (.int .i64 0) 2 rfl (by kernel_rfl) (by kernel_rfl) ?_
  refine Qac ?_
  refine hK1 _ _ ?_
  refine wp_seq_k fun K2 hK2 => ?_
  refine wp_seq_k fun K3 hK3 => ?_
  refine Qab ?_
  refine Qaa (.iface 60 (.int .i64 e)) 5 rfl (by kernel_rfl) (by kernel_rfl) ?_
  refine Qaa (.bool false) 6 rfl (by kernel_rfl) (by kernel_rfl) ?_
  refine Qac ?_
  refine hK3 _ _ ?_
  refine cond_false (by kernel_rfl) ?_
  refine wp_skip ?_
  refine hK2 _ _ ?_
  refine wp_seq_k fun K4 hK4 => ?_
  refine Qab ?_
  refine Qaa (.iface 60 (.int .i64 e)) 8 rfl (by kernel_rfl) (by kernel_rfl) ?_
  refine Qaa (.tuple #[.int .i64 e, .bool true]) 9 rfl (by kernel_rfl) (by kernel_rfl) ?_
  refine Qaa (.tuple #[.int .i64 e, .bool true]) 7 rfl (by kernel_rfl) (by kernel_rfl) ?_
  refine Qaa (.int .i64 e) 10 rfl (by kernel_rfl) (by kernel_rfl) ?_
  refine Qaa (.bool true) 11 rfl (by kernel_rfl) (by kernel_rfl) ?_
  refine Qaa (.int .i64 e) 3 rfl (by kernel_rfl) (by kernel_rfl) ?_
  refine Qaa (.bool true) 4 rfl (by kernel_rfl) (by kernel_rfl) ?_
  refine Qac ?_
  refine hK4 _ _ ?_
  refine wp_seq_k fun K5 hK5 => ?_
  refine wp_seq_k fun K6 hK6 => ?_
  refine Qab ?_
  refine Qaa (.bool true) 12 rfl (by kernel_rfl) (by kernel_rfl) ?_
  refine Qaa (.bool false) 13 rfl (by kernel_rfl) (by kernel_rfl) ?_
  refine Qaa (.bool false) 14 rfl (by kernel_rfl) (by kernel_rfl) ?_
  refine Qaa (.int .i64 e) 15 rfl (by kernel_rfl) (by kernel_rfl) ?_
  refine Qaa (.bool false) 16 rfl (by kernel_rfl) (Qah (u := .bool ((e == 0))) (by kernel_rfl) (congrArg Value.bool (by simpa using h0))) ?_
  refine Qaa (.bool false) 17 rfl (by kernel_rfl) (by kernel_rfl) ?_
  refine Qac ?_
  refine hK6 _ _ ?_
  refine cond_false (by kernel_rfl) ?_
  refine wp_skip ?_
  refine hK5 _ _ ?_
  refine wp_seq_k fun K7 hK7 => ?_
  refine Qab ?_
  refine Qaa (.int .i64 e) 18 rfl (by kernel_rfl) (by kernel_rfl) ?_
  refine Qaa (.int .i64 e) 2 rfl (by kernel_rfl) (by kernel_rfl) ?_
  refine Qac ?_
  refine hK7 _ _ ?_
  refine wp_ret ?_
  repeat (first | with_reducible refine goR1 ?_ | with_reducible refine goR2 ?_)
  exact (show bodyPost _ _ _ .ret _ _ from ret1 (.int .i64 e) rfl (Qa0 (by kernel_rfl)) ⟨rfl, (Rely.Ext.refl w)⟩)
theorem NumV (e : Int) (w : World) : Calls Tryd.prog 25 #[errV e] w (Ret w (.int .i64 e)) := by
  by_cases h : e = 0
  · rw [errV_nil h, h]; exact NumZ w
  · rw [errV_ne h]; exact NumE e h w
set_option maxHeartbeats 4000000 in
theorem IsV (e k : Int) (w : World) : Calls Tryd.prog 38 #[errV e, .int .i64 k] w (Ret w (.bool (e == k))) := by
  refine enter 9 [(0, errV e), (1, .int .i64 k)] Tryd.func38 rfl rfl (by kernel_rfl) rfl ?_
  refine wp_seq_k fun K1 hK1 => ?_
  refine Qab ?_
  refine Qaa (.bool false) 4 rfl (by kernel_rfl) (by kernel_rfl) ?_
  refine Qac ?_
  refine hK1 _ _ ?_
  refine wp_seq_k fun K2 hK2 => ?_
  refine Qab ?_
  refine Qaa (errV e) 5 rfl (by kernel_rfl) (by kernel_rfl) ?_
  refine Qat (.int .i64 e) 25 #[errV e] 6 rfl (by kernel_rfl) (by kernel_rfl) ((NumV e) _) fun W1 e1 => ?_
  have x1 : Ext w W1 := Ext.tr (Rely.Ext.refl w) e1
  refine Qaa (.int .i64 k) 7 rfl (by kernel_rfl) (by kernel_rfl) ?_
  refine Qaa (.bool (e == k)) 8 rfl (by kernel_rfl) (Qah (u := .bool ((e == k))) (by kernel_rfl) (congrArg Value.bool rfl)) ?_
  refine Qaa (.bool (e == k)) 4 rfl (by kernel_rfl) (by kernel_rfl) ?_
  refine Qac ?_
  refine hK2 _ _ ?_
  refine wp_ret ?_
  repeat (first | with_reducible refine goR1 ?_ | with_reducible refine goR2 ?_)
  exact (show bodyPost _ _ _ .ret _ _ from ret1 (.bool (e == k)) rfl (Qa0 (by kernel_rfl)) ⟨rfl, x1⟩)
theorem IsT (e : Int) (v : Value) (hv : errV e = v) (w : World) : Calls Tryd.prog 38 #[v, .int .i64 e] w (Ret w (.bool true)) := by
  have h := IsV e e w
  rw [hv, beq_self_eq_true] at h
  exact h
theorem ExtB.trans {g : Nat} {a b c : World} (h : ExtB g a b) (k : ExtB g b c) : ExtB g a c := ⟨k.1.trans h.1, k.2.1.trans h.2.1, k.2.2.1.trans h.2.2.1, Nat.le_trans h.2.2.2.1 k.2.2.2.1, fun i hi hn => (k.2.2.2.2 i (Nat.lt_of_lt_of_le hi h.2.2.2.1) hn).trans (h.2.2.2.2 i hi hn)⟩
set_option maxHeartbeats 4000000 in
theorem Qiz (g : Nat) (nx : Int) (B : Nat) (n : Int) (hnx : 0 ≤ nx ∧ nx ≤ 4294967295) (hB : B < 18446744073709551616) (w : World) (hg : w.heap[g]? = some (.cells (cat [#[.int .i64 nx], #[.int .u64 ((B : Nat) : Int)]]) 133)) (hc : chkW nx B n = 0) (hn : 0 ≤ n ∧ n < 4294967295) (a : Nat) (ha : n - (nx - 1) = (a : Int)) (ha1 : 1 ≤ a) : Calls Tryd.prog 83 #[.pointer (some ⟨g, 0, none⟩), .int .i64 n] w (fun e w' => e = .returned .nilIface ∧ ExtB g w w' ∧ w'.heap[g]? = some (.cells (cat [#[.int .i64 (n + 1)], #[.int .u64 ((B * 2 ^ a % 18446744073709551616 ||| 1 * 2 ^ (a - 1) % 18446744073709551616 : Nat) : Int)]]) 133)) := by
  refine enter 13 [(0, .pointer (some ⟨g, 0, none⟩)), (1, .int .i64 n)] Tryd.func83 rfl rfl (by kernel_rfl) rfl ?_
  refine wp_seq_k fun K2 hK2 => ?_
  refine Qab ?_
  refine Qaa (.nilIface) 4 rfl (by kernel_rfl) (by kernel_rfl) ?_
  refine Qac ?_
  refine hK2 _ _ ?_
  refine wp_seq_k fun K3 hK3 => ?_
  refine wp_seq_k fun K4 hK4 => ?_
  refine Qab ?_
  refine Qaa (.pointer (some ⟨g, 0, none⟩)) 5 rfl (by kernel_rfl) (by kernel_rfl) ?_
  refine Qaa (.bool false) 6 rfl (by kernel_rfl) (by kernel_rfl) ?_
  refine Qac ?_
  refine hK4 _ _ ?_
  refine cond_false (by kernel_rfl) ?_
  refine wp_skip ?_
  refine hK3 _ _ ?_
  refine wp_seq_k fun K5 hK5 => ?_
  refine Qab ?_
  refine Qaa (.pointer (some ⟨g, 0, none⟩)) 8 rfl (by kernel_rfl) (by kernel_rfl) ?_
  refine Qaa (.pointer (some ⟨g, 0, none⟩)) 9 rfl (by kernel_rfl) (by kernel_rfl) ?_
  refine Qaa (.pointer (some ⟨g, 0, none⟩)) 10 rfl (by kernel_rfl) (by kernel_rfl) ?_
  refine Qaa (.int .i64 n) 11 rfl (by kernel_rfl) (by kernel_rfl) ?_
  refine Qa8 (fun v W' => v = .nilIface ∧ ExtB g w W' ∧ W'.heap[g]? = some (.cells (cat [#[.int .i64 (n + 1)], #[.int .u64 ((B * 2 ^ a % 18446744073709551616 ||| 1 * 2 ^ (a - 1) % 18446744073709551616 : Nat) : Int)]]) 133)) 89 #[.pointer (some ⟨g, 0, none⟩), .int .i64 n] 12 rfl (by kernel_rfl) (by kernel_rfl) ((mark_G g nx B n hnx hB _ hg hc hn a ha ha1).mono fun e w' ⟨h1, h2, h3⟩ => ⟨_, h1, rfl, h2, h3⟩) fun v W1 h => ?_
  obtain ⟨rfl, q1, r1_1⟩ := h
  have x1 : ExtB g w W1 := ExtB.trans (ExtB.refl g w) q1
  refine Qaa (.nilIface) 4 rfl (by kernel_rfl) (by kernel_rfl) ?_
  refine Qac ?_
  refine hK5 _ _ ?_
  refine wp_ret ?_
  repeat (first | with_reducible refine goR1 ?_ | with_reducible refine goR2 ?_)
  exact (show bodyPost _ _ _ .ret _ _ from ret1 (.nilIface) rfl (Qa0 (by kernel_rfl)) ⟨rfl, x1, r1_1⟩)
theorem Qgs (g : Nat) (nx : Int) (B : Nat) (n : Int) (hnx : 0 ≤ nx ∧ nx ≤ 4294967295) (hB : B < 18446744073709551616) (w : World) (hg : w.heap[g]? = some (.cells (cat [#[.int .i64 nx], #[.int .u64 ((B : Nat) : Int)]]) 133)) (hc : chkW nx B n = 0) (hn : 0 ≤ n ∧ n < 4294967295) (a : Nat) (ha : n - (nx - 1) = (a : Int)) (ha1 : 1 ≤ a) (nx2 : Int) (B2 : Nat) (e1 : n + 1 = nx2) (e2 : B * 2 ^ a % 18446744073709551616 ||| 1 * 2 ^ (a - 1) % 18446744073709551616 = B2) :
    Calls Tryd.prog 83 #[.pointer (some ⟨g, 0, none⟩), .int .i64 n] w (fun e w' => e = .returned .nilIface ∧ ExtB g w w' ∧ w'.heap[g]? = some (.cells (cat [#[.int .i64 nx2], #[.int .u64 ((B2 : Nat) : Int)]]) 133)) := by
  have h := Qiz g nx B n hnx hB w hg hc hn a ha ha1
  rw [e1, e2] at h
  exact h
theorem Qhd (g : Nat) (nx : Int) (B : Nat) (n : Int) (hnx : 0 ≤ nx ∧ nx ≤ 4294967295) (hB : B < 18446744073709551616) (w : World) (hg : w.heap[g]? = some (.cells (cat [#[.int .i64 nx], #[.int .u64 ((B : Nat) : Int)]]) 133)) (e : Int) (he : chkW nx B n = e) (h0 : e ≠ 0) : Calls Tryd.prog 82 #[.pointer (some ⟨g, 0, none⟩), .int .i64 n] w (Ret w (.iface 60 (.int .i64 e))) := by
  have h := Qhe g nx B n hnx hB w hg
  rw [he, errV_ne h0] at h
  exact h
theorem Qfr (g : Nat) (nx : Int) (B : Nat) (n : Int) (hnx : 0 ≤ nx ∧ nx ≤ 4294967295) (hB : B < 18446744073709551616) (w : World) (hg : w.heap[g]? = some (.cells (cat [#[.int .i64 nx], #[.int .u64 ((B : Nat) : Int)]]) 133)) (he : chkW nx B n = 0) : Calls Tryd.prog 82 #[.pointer (some ⟨g, 0, none⟩), .int .i64 n] w (Ret w .nilIface) := by
  have h := Qhe g nx B n hnx hB w hg
  rw [errV_nil he] at h
  exact h
end Go.Proofs.YtoiendjhplbjjaaDoor.Lk
end
section
namespace Go.Proofs.YtoiendjhplbjjaaDoor.Lk
open Go Go.RowKit
open Rely Auto
set_option linter.unusedVariables false
set_option maxHeartbeats 4000000 in
theorem alive12 (w : World) : Calls Tryd.prog 41 #[] w (Ret w (.bool true)) := by
  refine enter 41 [] Tryd.func41 rfl rfl (by kernel_rfl) rfl ?_
  refine wp_seq_k fun K1 hK1 => ?_
  refine Qab ?_
  refine Qaa (.bool false) 0 rfl (by kernel_rfl) (by kernel_rfl) ?_
  refine Qac ?_
  refine hK1 _ _ ?_
  refine wp_seq_k fun K2 hK2 => ?_
  refine Qab ?_
  refine Qaa (.agg (cat [#[.int .i64 0], #[.int .u64 0]])) 4 rfl (by kernel_rfl) (by kernel_rfl) ?_
  refine Qas (cat [#[.int .i64 0], #[.int .u64 0]]) 133 5 rfl (by kernel_rfl) (by kernel_rfl) fun g3 W1 l3 e1 r3_1 => ?_
  have x1 : Ext w W1 := Ext.tr (Rely.Ext.refl w) e1
  have b3 : w.heap.size ≤ g3 := Nat.le_trans (Rely.Ext.refl w).size l3
  refine Qaa (.pointer (some ⟨g3, 0, none⟩)) 1 rfl (by kernel_rfl) (by kernel_rfl) ?_
  refine Qac ?_
  refine hK2 _ _ ?_
  refine wp_seq_k fun K4 hK4 => ?_
  refine wp_seq_k fun K5 hK5 => ?_
  refine Qab ?_
  refine QbI (ints .i64 ([0, 64, 65])) 3 3 6 rfl (by kernel_rfl) (by kernel_rfl) fun g6 W2 l6 e2 r6_2 => ?_
  have x2 : Ext w W2 := Ext.tr x1 e2
  have b6 : w.heap.size ≤ g6 := Nat.le_trans x1.size l6
  refine Qaa (.int .i64 3) 7 rfl (by kernel_rfl) (by kernel_rfl) ?_
  refine Qaa (.int .i64 0) 8 rfl (by kernel_rfl) (by kernel_rfl) ?_
  refine Qac ?_
  refine hK5 _ _ ?_
  refine wp_block ?_
  refine wp_loop_rounds 4 ?_
  show Code.wp _ _ (Exit.then (Code.rounds _ _ _ 3) _) _ _
  refine wp_seq_k fun K7 hK7 => ?_
  refine Qab ?_
  refine Qaa (.bool true) 9 rfl (by kernel_rfl) (by kernel_rfl) ?_
  refine Qac ?_
  refine hK7 _ _ ?_
  refine wp_seq_k fun K8 hK8 => ?_
  refine cond_true (by kernel_rfl) ?_
  refine wp_skip ?_
  refine hK8 _ _ ?_
  refine wp_seq_k fun K9 hK9 => ?_
  refine wp_block ?_
  refine wp_seq_k fun K10 hK10 => ?_
  refine Qab ?_
  refine Qaa (.pointer (some ⟨g6, 0, none⟩)) 10 rfl (by kernel_rfl) (QaO 66 _ _ .i64 (0) g6 3 3 3 rfl (by kernel_rfl) (by kernel_rfl) (by kernel_rfl) (by kernel_rfl) (by decide)) ?_
  refine Qaa (.int .i64 0) 11 rfl (by kernel_rfl) (Qae 3 _ g6 0 3 _ (.int .i64 0) _ r6_2 rfl (by kernel_rfl) (by kernel_rfl) (by kernel_rfl)) ?_
  refine Qaa (.int .i64 0) 3 rfl (by kernel_rfl) (by kernel_rfl) ?_
  refine Qac ?_
  refine hK10 _ _ ?_
  refine wp_seq_k fun K11 hK11 => ?_
  refine Qab ?_
  refine Qaa (.pointer (some ⟨g3, 0, none⟩)) 12 rfl (by kernel_rfl) (by kernel_rfl) ?_
  refine Qaa (.int .i64 0) 13 rfl (by kernel_rfl) (by kernel_rfl) ?_
  have r3_2 := (Qad r3_1 e2)
  refine Qat (.nilIface) 82 #[.pointer (some ⟨g3, 0, none⟩), .int .i64 0] 14 rfl (by kernel_rfl) (by kernel_rfl) (Qfr g3 0 0 0 (by omega) (by decide) _ r3_2 (by decide +kernel)) fun W3 e3 => ?_
  have x3 : Ext w W3 := Ext.tr x2 e3
  refine Qaa (.bool false) 15 rfl (by kernel_rfl) (by kernel_rfl) ?_
  refine Qaa (.bool false) 16 rfl (by kernel_rfl) (by kernel_rfl) ?_
  refine Qaa (.pointer (some ⟨g3, 0, none⟩)) 17 rfl (by kernel_rfl) (by kernel_rfl) ?_
  refine Qaa (.int .i64 0) 18 rfl (by kernel_rfl) (by kernel_rfl) ?_
  have r3_3 := (Qad r3_2 e3)
  refine Qa8 (fun v W' => v = .nilIface ∧ ExtB g3 W3 W' ∧ W'.heap[g3]? = some (.cells (cat [#[.int .i64 1], #[.int .u64 ((1 : Nat) : Int)]]) 133)) 83 #[.pointer (some ⟨g3, 0, none⟩), .int .i64 0] 19 rfl (by kernel_rfl) (by kernel_rfl) ((Qgs g3 0 0 0 (by omega) (by decide) _ r3_3 (by decide +kernel) (by omega) 1 (by decide) (by decide) 1 1 (by decide) (by decide +kernel)).mono fun e w' ⟨h1, h2, h3⟩ => ⟨_, h1, rfl, h2, h3⟩) fun v W4 h => ?_
  obtain ⟨rfl, q4, r3_4⟩ := h
  have x4 : Ext w W4 := ExtB.up x3 q4 b3
  refine Qaa (.bool false) 20 rfl (by kernel_rfl) (by kernel_rfl) ?_
  refine Qaa (.bool false) 21 rfl (by kernel_rfl) (by kernel_rfl) ?_
  refine Qac ?_
  refine hK11 _ _ ?_
  refine cond_false (by kernel_rfl) ?_
  refine wp_skip ?_
  refine hK9 _ _ ?_
  refine Qab ?_
  refine Qaa (.int .i64 1) 22 rfl (by kernel_rfl) (by kernel_rfl) ?_
  refine Qaa (.int .i64 1) 8 rfl (by kernel_rfl) (by kernel_rfl) ?_
  refine Qac ?_
  show Code.rounds _ _ _ 3 _ _
  show Code.wp _ _ (Exit.then (Code.rounds _ _ _ 2) _) _ _
  refine wp_seq_k fun K12 hK12 => ?_
  refine Qab ?_
  refine Qaa (.bool true) 9 rfl (by kernel_rfl) (by kernel_rfl) ?_
  refine Qac ?_
  refine hK12 _ _ ?_
  refine wp_seq_k fun K13 hK13 => ?_
  refine cond_true (by kernel_rfl) ?_
  refine wp_skip ?_
  refine hK13 _ _ ?_
  refine wp_seq_k fun K14 hK14 => ?_
  refine wp_block ?_
  refine wp_seq_k fun K15 hK15 => ?_
  refine Qab ?_
  refine Qaa (.pointer (some ⟨g6, 1, none⟩)) 10 rfl (by kernel_rfl) (QaO 66 _ _ .i64 (1) g6 3 3 3 rfl (by kernel_rfl) (by kernel_rfl) (by kernel_rfl) (by kernel_rfl) (by decide)) ?_
  have r6_4 := (ExtB.row q4 (Qad r6_2 e3) (Qal r3_1 l6))
  refine Qaa (.int .i64 64) 11 rfl (by kernel_rfl) (Qae 3 _ g6 1 3 _ (.int .i64 64) _ r6_4 rfl (by kernel_rfl) (by kernel_rfl) (by kernel_rfl)) ?_
  refine Qaa (.int .i64 64) 3 rfl (by kernel_rfl) (by kernel_rfl) ?_
  refine Qac ?_
  refine hK15 _ _ ?_
  refine wp_seq_k fun K16 hK16 => ?_
  refine Qab ?_
  refine Qaa (.pointer (some ⟨g3, 0, none⟩)) 12 rfl (by kernel_rfl) (by kernel_rfl) ?_
  refine Qaa (.int .i64 64) 13 rfl (by kernel_rfl) (by kernel_rfl) ?_
  refine Qat (.nilIface) 82 #[.pointer (some ⟨g3, 0, none⟩), .int .i64 64] 14 rfl (by kernel_rfl) (by kernel_rfl) (Qfr g3 1 1 64 (by omega) (by decide) _ r3_4 (by decide +kernel)) fun W5 e5 => ?_
  have x5 : Ext w W5 := Ext.tr x4 e5
  refine Qaa (.bool false) 15 rfl (by kernel_rfl) (by kernel_rfl) ?_
  refine Qaa (.bool false) 16 rfl (by kernel_rfl) (by kernel_rfl) ?_
  refine Qaa (.pointer (some ⟨g3, 0, none⟩)) 17 rfl (by kernel_rfl) (by kernel_rfl) ?_
  refine Qaa (.int .i64 64) 18 rfl (by kernel_rfl) (by kernel_rfl) ?_
  have r3_5 := (Qad r3_4 e5)
  refine Qa8 (fun v W' => v = .nilIface ∧ ExtB g3 W5 W' ∧ W'.heap[g3]? = some (.cells (cat [#[.int .i64 65], #[.int .u64 ((9223372036854775808 : Nat) : Int)]]) 133)) 83 #[.pointer (some ⟨g3, 0, none⟩), .int .i64 64] 19 rfl (by kernel_rfl) (by kernel_rfl) ((Qgs g3 1 1 64 (by omega) (by decide) _ r3_5 (by decide +kernel) (by omega) 64 (by decide) (by decide) 65 9223372036854775808 (by decide) (by decide +kernel)).mono fun e w' ⟨h1, h2, h3⟩ => ⟨_, h1, rfl, h2, h3⟩) fun v W6 h => ?_
  obtain ⟨rfl, q6, r3_6⟩ := h
  have x6 : Ext w W6 := ExtB.up x5 q6 b3
  refine Qaa (.bool false) 20 rfl (by kernel_rfl) (by kernel_rfl) ?_
  refine Qaa (.bool false) 21 rfl (by kernel_rfl) (by kernel_rfl) ?_
  refine Qac ?_
  refine hK16 _ _ ?_
  refine cond_false (by kernel_rfl) ?_
  refine wp_skip ?_
  refine hK14 _ _ ?_
  refine Qab ?_
  refine Qaa (.int .i64 2) 22 rfl (by kernel_rfl) (by kernel_rfl) ?_
  refine Qaa (.int .i64 2) 8 rfl (by kernel_rfl) (by kernel_rfl) ?_
  refine Qac ?_
  show Code.rounds _ _ _ 2 _ _
  show Code.wp _ _ (Exit.then (Code.rounds _ _ _ 1) _) _ _
  refine wp_seq_k fun K17 hK17 => ?_
  refine Qab ?_
  refine Qaa (.bool true) 9 rfl (by kernel_rfl) (by kernel_rfl) ?_
  refine Qac ?_
  refine hK17 _ _ ?_
  refine wp_seq_k fun K18 hK18 => ?_
  refine cond_true (by kernel_rfl) ?_
  refine wp_skip ?_
  refine hK18 _ _ ?_
  refine wp_seq_k fun K19 hK19 => ?_
  refine wp_block ?_
  refine wp_seq_k fun K20 hK20 => ?_
  refine Qab ?_
  refine Qaa (.pointer (some ⟨g6, 2, none⟩)) 10 rfl (by kernel_rfl) (QaO 66 _ _ .i64 (2) g6 3 3 3 rfl (by kernel_rfl) (by kernel_rfl) (by kernel_rfl) (by kernel_rfl) (by decide)) ?_
  have r6_6 := (ExtB.row q6 (Qad r6_4 e5) (Qal r3_1 l6))
  refine Qaa (.int .i64 65) 11 rfl (by kernel_rfl) (Qae 3 _ g6 2 3 _ (.int .i64 65) _ r6_6 rfl (by kernel_rfl) (by kernel_rfl) (by kernel_rfl)) ?_
  refine Qaa (.int .i64 65) 3 rfl (by kernel_rfl) (by kernel_rfl) ?_
  refine Qac ?_
  refine hK20 _ _ ?_
  refine wp_seq_k fun K21 hK21 => ?_
  refine Qab ?_
  refine Qaa (.pointer (some ⟨g3, 0, none⟩)) 12 rfl (by kernel_rfl) (by kernel_rfl) ?_
  refine Qaa (.int .i64 65) 13 rfl (by kernel_rfl) (by kernel_rfl) ?_
  refine Qat (.nilIface) 82 #[.pointer (some ⟨g3, 0, none⟩), .int .i64 65] 14 rfl (by kernel_rfl) (by kernel_rfl) (Qfr g3 65 9223372036854775808 65 (by omega) (by decide) _ r3_6 (by decide +kernel)) fun W7 e7 => ?_
  have x7 : Ext w W7 := Ext.tr x6 e7
  refine Qaa (.bool false) 15 rfl (by kernel_rfl) (by kernel_rfl) ?_
  refine Qaa (.bool false) 16 rfl (by kernel_rfl) (by kernel_rfl) ?_
  refine Qaa (.pointer (some ⟨g3, 0, none⟩)) 17 rfl (by kernel_rfl) (by kernel_rfl) ?_
  refine Qaa (.int .i64 65) 18 rfl (by kernel_rfl) (by kernel_rfl) ?_
  have r3_7 := (Qad r3_6 e7)
  refine Qa8 (fun v W' => v = .nilIface ∧ ExtB g3 W7 W' ∧ W'.heap[g3]? = some (.cells (cat [#[.int .i64 66], #[.int .u64 ((1 : Nat) : Int)]]) 133)) 83 #[.pointer (some ⟨g3, 0, none⟩), .int .i64 65] 19 rfl (by kernel_rfl) (by kernel_rfl) ((Qgs g3 65 9223372036854775808 65 (by omega) (by decide) _ r3_7 (by decide +kernel) (by omega) 1 (by decide) (by decide) 66 1 (by decide) (by decide +kernel)).mono fun e w' ⟨h1, h2, h3⟩ => ⟨_, h1, rfl, h2, h3⟩) fun v W8 h => ?_
  obtain ⟨rfl, q8, r3_8⟩ := h
  have x8 : Ext w W8 := ExtB.up x7 q8 b3
  refine Qaa (.bool false) 20 rfl (by kernel_rfl) (by kernel_rfl) ?_
  refine Qaa (.bool false) 21 rfl (by kernel_rfl) (by kernel_rfl) ?_
  refine Qac ?_
  refine hK21 _ _ ?_
  refine cond_false (by kernel_rfl) ?_
  refine wp_skip ?_
  refine hK19 _ _ ?_
  refine Qab ?_
  refine Qaa (.int .i64 3) 22 rfl (by kernel_rfl) (by kernel_rfl) ?_
  refine Qaa (.int .i64 3) 8 rfl (by kernel_rfl) (by kernel_rfl) ?_
  refine Qac ?_
  show Code.rounds _ _ _ 1 _ _
  show Code.wp _ _ (Exit.then (Code.rounds _ _ _ 0) _) _ _
  refine wp_seq_k fun K22 hK22 => ?_
  refine Qab ?_
  refine Qaa (.bool false) 9 rfl (by kernel_rfl) (by kernel_rfl) ?_
  refine Qac ?_
  refine hK22 _ _ ?_
  refine wp_seq_k fun K23 hK23 => ?_
  refine cond_false (by kernel_rfl) ?_
  refine wp_exit ?_
  refine hK4 _ _ ?_
  refine wp_seq_k fun K24 hK24 => ?_
  refine Qab ?_
  refine Qaa (.pointer (some ⟨g3, 0, none⟩)) 23 rfl (by kernel_rfl) (by kernel_rfl) ?_
  refine Qat (.iface 60 (.int .i64 7)) 82 #[.pointer (some ⟨g3, 0, none⟩), .int .i64 64] 24 rfl (by kernel_rfl) (by kernel_rfl) (Qhd g3 66 1 64 (by omega) (by decide) _ r3_8 7 (by decide +kernel) (by decide)) fun W9 e9 => ?_
  have x9 : Ext w W9 := Ext.tr x8 e9
  refine Qat (.bool true) 38 #[.iface 60 (.int .i64 7), .int .i64 7] 25 rfl (by kernel_rfl) (by kernel_rfl) ((IsT 7 (.iface 60 (.int .i64 7)) rfl) _) fun W10 e10 => ?_
  have x10 : Ext w W10 := Ext.tr x9 e10
  refine Qaa (.bool true) 26 rfl (by kernel_rfl) (by kernel_rfl) ?_
  refine Qaa (.pointer (some ⟨g3, 0, none⟩)) 27 rfl (by kernel_rfl) (by kernel_rfl) ?_
  have r3_10 := (Qad (Qad r3_8 e9) e10)
  refine Qat (.iface 60 (.int .i64 11)) 82 #[.pointer (some ⟨g3, 0, none⟩), .int .i64 0] 28 rfl (by kernel_rfl) (by kernel_rfl) (Qhd g3 66 1 0 (by omega) (by decide) _ r3_10 11 (by decide +kernel) (by decide)) fun W11 e11 => ?_
  have x11 : Ext w W11 := Ext.tr x10 e11
  refine Qat (.bool true) 38 #[.iface 60 (.int .i64 11), .int .i64 11] 29 rfl (by kernel_rfl) (by kernel_rfl) ((IsT 11 (.iface 60 (.int .i64 11)) rfl) _) fun W12 e12 => ?_
  have x12 : Ext w W12 := Ext.tr x11 e12
  refine Qaa (.bool true) 30 rfl (by kernel_rfl) (by kernel_rfl) ?_
  refine Qaa (.bool true) 31 rfl (by kernel_rfl) (by kernel_rfl) ?_
  refine Qaa (.pointer (some ⟨g3, 0, none⟩)) 32 rfl (by kernel_rfl) (by kernel_rfl) ?_
  have r3_12 := (Qad (Qad r3_10 e11) e12)
  refine Qat (.nilIface) 82 #[.pointer (some ⟨g3, 0, none⟩), .int .i64 1] 33 rfl (by kernel_rfl) (by kernel_rfl) (Qfr g3 66 1 1 (by omega) (by decide) _ r3_12 (by decide +kernel)) fun W13 e13 => ?_
  have x13 : Ext w W13 := Ext.tr x12 e13
  refine Qaa (.bool true) 34 rfl (by kernel_rfl) (by kernel_rfl) ?_
  refine Qaa (.bool true) 35 rfl (by kernel_rfl) (by kernel_rfl) ?_
  refine Qaa (.bool true) 36 rfl (by kernel_rfl) (by kernel_rfl) ?_
  refine Qaa (.pointer (some ⟨g3, 0, none⟩)) 37 rfl (by kernel_rfl) (by kernel_rfl) ?_
  have r3_13 := (Qad r3_12 e13)
  refine Qat (.int .i64 65) 84 #[.pointer (some ⟨g3, 0, none⟩)] 38 rfl (by kernel_rfl) (by kernel_rfl) (HighestC g3 66 1 (by omega) (by decide) _ r3_13) fun W14 e14 => ?_
  have x14 : Ext w W14 := Ext.tr x13 e14
  refine Qaa (.bool true) 39 rfl (by kernel_rfl) (by kernel_rfl) ?_
  refine Qaa (.bool true) 40 rfl (by kernel_rfl) (by kernel_rfl) ?_
  refine Qaa (.bool true) 0 rfl (by kernel_rfl) (by kernel_rfl) ?_
  refine Qac ?_
  refine hK24 _ _ ?_
  refine wp_ret ?_
  repeat (first | with_reducible refine goR1 ?_ | with_reducible refine goR2 ?_)
  exact (show bodyPost _ _ _ .ret _ _ from ret1 (.bool true) rfl (Qa0 (by kernel_rfl)) ⟨rfl, x14⟩)
end Go.Proofs.YtoiendjhplbjjaaDoor.Lk
end
section
namespace Go.Proofs.YtoiendjhplbjjaaDoor.Ll
open Go Go.RowKit
open Rely Auto Own Sha Sha
set_option linter.unusedVariables false
set_option linter.unusedSimpArgs false
open Cha Ae
theorem QeJ (base : Nat) (sk rk : List Int) : Qbq Ext (NewL base sk rk) := fun _ _ _ hR ⟨g, e, h1, h2⟩ => ⟨g, e, h1, Qad h2 hR⟩
theorem newG (n0 : Nat) (sk rk : List Int) (w : World) (hsk : sk.length = 32) (hrk : rk.length = 32) (h0 : n0 ≤ w.heap.size) : Calls Tryd.prog 43 #[.agg (ints .u8 sk), .agg (ints .u8 rk)] w (Qca w (NewL n0 sk rk)) :=
  (newC sk rk w hsk hrk).mono fun e W' h => by
    obtain ⟨v, e1, e2, g, e3, e4, e5⟩ := h
    exact ⟨v, e1, e2, g, e3, Nat.le_trans h0 e4, e5⟩
end Go.Proofs.YtoiendjhplbjjaaDoor.Ll
end
