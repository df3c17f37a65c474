/- Texts of this claim, joined (A1). -/
import Derived.Test.YtoiendjhplbjjaaDoorZA0
import Derived.RangeFuncNested
import Derived.Scope
import Derived.Sort.LoopGhostIn
import Derived.Laws.Externs
import Derived.Shelf.Spec.BitsCarry
import Derived.Shelf.Bits.Mul64
import Derived.Laws.Bits64b

section
namespace Go.Proofs.YtoiendjhplbjjaaDoor.Cha
open Go Go.RowKit
open Rely Auto Own Sha
set_option linter.unusedVariables false
set_option linter.unusedSimpArgs false
open Sha
theorem Qdd {P : Program} {ρ : Operand → Value} {o : Oper} {w : World} (t : TypeId) (x y z : Operand) (l h g off len cap : Nat) (e : TypeId) (ho : o.op = .slice t x (some y) (some z) none) (hx : ρ x = .slice (some ⟨g, off, none⟩) len cap)
    (hu : P.underlying t = some (.slice e)) (hs : (P.info? e).map (·.size) = some 1) (hy : ρ y = .int .i64 (l : Int)) (hz : ρ z = .int .i64 (h : Int)) (h1 : l ≤ h) (h2 : h ≤ cap) (h3 : l < cap) :
    (execOp ρ o).run P w = .ok (.value (.slice (some ⟨g, off + l, none⟩) (h - l) (cap - l))) w := by
  cases hq : P.info? e with
  | none => simp [hq] at hs
  | some i =>
    have hs' : i.size = 1 := by simpa [hq] using hs
    have hadd : (⟨g, off, none⟩ : Addr).add l = ⟨g, off + l, none⟩ := WideShapes.add_plain ..
    have hne : ¬ cap = l := by omega
    unfold execOp
    simp [ho, hx, hy, hz, Instr.sliceAt, Instr.slice, Instr.sliceBounds, run_sliceBound, run_underlying hu, sizeOf, typeInfo, hq, hs', h1, h2, hadd, hne]
def sub4 (b : List Int) (i : Nat) : List Int := (b.drop (4 * i)).take 4
theorem Qbw (b : List Int) (i : Nat) (h : 4 * i + 4 ≤ b.length) : (sub4 b i).length = 4 := by
  unfold sub4
  rw [List.length_take, List.length_drop]; omega
theorem Qgx (b : List Int) (i j : Nat) (h : j < 4) : nth (sub4 b i) j = nth b (4 * i + j) := by
  unfold nth sub4
  rw [List.getD_eq_getElem?_getD, List.getD_eq_getElem?_getD, List.getElem?_take, if_pos h, List.getElem?_drop]
theorem QbQ {B g o c : Nat} {xs : List Int} {W : World} (hx : RdK .u8 B xs (.slice (some ⟨g, o, none⟩) xs.length c) W) (i : Nat) (hi : 4 * i + 4 ≤ xs.length) : RdK .u8 B (sub4 xs i) (.slice (some ⟨g, o + 4 * i, none⟩) 4 (c - 4 * i)) W := by
  obtain ⟨a, cap, e, h2, h3, h4, h5⟩ := hx
  simp only [Value.slice.injEq] at e
  obtain ⟨rfl, -, rfl⟩ := e
  have hl := Qbw xs i hi
  rcases h5 with h5 | ⟨g', o', q1, q2, q3, q4⟩
  · rw [h5] at hi; simp at hi
  · obtain ⟨rfl, rfl⟩ : g = g' ∧ o = o' := by simpa using q1
    refine ⟨some ⟨g, o + 4 * i, none⟩, c - 4 * i, by rw [hl], by omega, by omega, (fun h => by cases h), .inr ⟨g, o + 4 * i, rfl, q2, q3, fun j hj => ?_⟩⟩
    rw [Qgx _ _ _ (by omega), Nat.add_assoc]
    exact q4 _ (by omega)
set_option maxRecDepth 100000 in
set_option maxHeartbeats 4000000 in
theorem QgQ (key nonce : List Int) (v : Value) (B : Nat) (th : TypeId) (w : World) (hh : w.heap[2]? = some (.cells (ints .u32 [1634760805, 857760878, 2036477234, 1797285236]) th)) (hkl : key.length = 32) (hn : RdK .u8 B nonce v w) (hnl : nonce.length = 12) : Calls Tryd.prog 139 #[.agg (ints .u8 key), v] w (Ret w (.agg (ints .u32 [1634760805, 857760878, 2036477234, 1797285236, wv (le4 (sub4 key 0)), wv (le4 (sub4 key 1)), wv (le4 (sub4 key 2)), wv (le4 (sub4 key 3)), wv (le4 (sub4 key 4)), wv (le4 (sub4 key 5)), wv (le4 (sub4 key 6)), wv (le4 (sub4 key 7)), 0, wv (le4 (sub4 nonce 0)), wv (le4 (sub4 nonce 1)), wv (le4 (sub4 nonce 2))]))) := by
  obtain ⟨a_n, c_n, rfl, hnc, -, -, -⟩ := id hn
  obtain ⟨gn, on, rfl, -, hgn, hcn⟩ := Qd9 hn (by omega)
  refine enter 49 [(0, .agg (ints .u8 (key))), (1, .slice (some ⟨gn, on, none⟩) nonce.length c_n)] Tryd.func139 rfl rfl kj rfl ?_
  refine wp_seq_k fun K2 hK2 => ?_
  refine Qab ?_
  refine Qas (ints .u8 (key)) 23 2 rfl kj kj fun g3 W1 l3 e1 r3_1 => ?_
  have x1 : Ext w W1 := Ext.tr (Rely.Ext.refl w) e1
  have b3 : w.heap.size ≤ g3 := Nat.le_trans (Rely.Ext.refl w).size l3
  refine Qas (ints .u32 ([0, 0, 0, 0, 0, 0, 0, 0, 0, 0, 0, 0, 0, 0, 0, 0])) 199 4 rfl kj kj fun g4 W2 l4 e2 r4_2 => ?_
  have x2 : Ext w W2 := Ext.tr x1 e2
  have b4 : w.heap.size ≤ g4 := Nat.le_trans x1.size l4
  refine Qac ?_
  refine hK2 _ _ ?_
  refine wp_seq_k fun K5 hK5 => ?_
  refine Qab ?_
  refine Qas (ints .u32 ([0, 0, 0, 0, 0, 0, 0, 0, 0, 0, 0, 0, 0, 0, 0, 0])) 199 5 rfl kj kj fun g6 W3 l6 e3 r6_3 => ?_
  have x3 : Ext w W3 := Ext.tr x2 e3
  have b6 : w.heap.size ≤ g6 := Nat.le_trans x2.size l6
  refine Qac ?_
  refine hK5 _ _ ?_
  refine wp_seq_k fun K7 hK7 => ?_
  refine wp_seq_k fun K8 hK8 => ?_
  refine Qab ?_
  have r1_1 := (Qad hh e1)
  have r1_2 := (Qad r1_1 e2)
  have r1_3 := (Qad r1_2 e3)
  refine Qaa (.agg (ints .u32 ([1634760805, 857760878, 2036477234, 1797285236]))) 10 rfl kj (Qar 214 _ 2 th _ _ r1_3 rfl kj kj (isz (n := 4) kj kj)) ?_
  refine Qaa (.int .i64 0) 11 rfl kj kj ?_
  refine Qac ?_
  refine hK8 _ _ ?_
  refine wp_block ?_
  refine wp_loop_rounds 5 ?_
  show Code.wp _ _ (Exit.then (Code.rounds _ _ _ 4) _) _ _
  refine wp_seq_k fun K9 hK9 => ?_
  refine Qab ?_
  refine Qaa (.bool true) 12 rfl kj kj ?_
  refine Qac ?_
  refine hK9 _ _ ?_
  refine wp_seq_k fun K10 hK10 => ?_
  refine cond_true kj ?_
  refine wp_skip ?_
  refine hK10 _ _ ?_
  refine wp_seq_k fun K11 hK11 => ?_
  refine wp_block ?_
  refine wp_seq_k fun K12 hK12 => ?_
  refine Qab ?_
  refine Qaa (.int .i64 0) 13 rfl kj kj ?_
  refine Qaa (.int .u32 1634760805) 14 rfl kj (Qa1 214 _ _ .i64 .u32 ([1634760805, 857760878, 2036477234, 1797285236]) 0 4 162 1634760805 rfl kj kj kj kj kj rfl (by decide) rfl) ?_
  refine Qaa (.int .i64 0) 6 rfl kj kj ?_
  refine Qaa (.int .u32 1634760805) 7 rfl kj kj ?_
  refine Qac ?_
  refine hK12 _ _ ?_
  refine Qab ?_
  refine Qaa (.int .i64 0) 15 rfl kj kj ?_
  refine Qaa (.int .u32 1634760805) 16 rfl kj kj ?_
  refine Qaa (.pointer (some ⟨g6, 0, none⟩)) 17 rfl kj kj ?_
  refine Qaj g6 _ (ints .u32 ([1634760805, 0, 0, 0, 0, 0, 0, 0, 0, 0, 0, 0, 0, 0, 0, 0])) 199 r6_3 rfl kj (Qak 162 _ _ g6 0 199 _ _ r6_3 rfl kj kj kj (show 0 < 16 by decide)) fun W4 p4 r6_4 => ?_
  have x4 : Ext w W4 := Puts.ext p4 x3 b6
  refine Qac ?_
  refine hK11 _ _ ?_
  refine Qab ?_
  refine Qaa (.int .i64 1) 18 rfl kj kj ?_
  refine Qaa (.int .i64 1) 11 rfl kj kj ?_
  refine Qac ?_
  show Code.rounds _ _ _ 4 _ _
  show Code.wp _ _ (Exit.then (Code.rounds _ _ _ 3) _) _ _
  refine wp_seq_k fun K13 hK13 => ?_
  refine Qab ?_
  refine Qaa (.bool true) 12 rfl kj kj ?_
  refine Qac ?_
  refine hK13 _ _ ?_
  refine wp_seq_k fun K14 hK14 => ?_
  refine cond_true kj ?_
  refine wp_skip ?_
  refine hK14 _ _ ?_
  refine wp_seq_k fun K15 hK15 => ?_
  refine wp_block ?_
  refine wp_seq_k fun K16 hK16 => ?_
  refine Qab ?_
  refine Qaa (.int .i64 1) 13 rfl kj kj ?_
  refine Qaa (.int .u32 857760878) 14 rfl kj (Qa1 214 _ _ .i64 .u32 ([1634760805, 857760878, 2036477234, 1797285236]) 1 4 162 857760878 rfl kj kj kj kj kj rfl (by decide) rfl) ?_
  refine Qaa (.int .i64 1) 6 rfl kj kj ?_
  refine Qaa (.int .u32 857760878) 7 rfl kj kj ?_
  refine Qac ?_
  refine hK16 _ _ ?_
  refine Qab ?_
  refine Qaa (.int .i64 1) 15 rfl kj kj ?_
  refine Qaa (.int .u32 857760878) 16 rfl kj kj ?_
  refine Qaa (.pointer (some ⟨g6, 1, none⟩)) 17 rfl kj kj ?_
  refine Qaj g6 _ (ints .u32 ([1634760805, 857760878, 0, 0, 0, 0, 0, 0, 0, 0, 0, 0, 0, 0, 0, 0])) 199 r6_4 rfl kj (Qak 162 _ _ g6 1 199 _ _ r6_4 rfl kj kj kj (show 1 < 16 by decide)) fun W5 p5 r6_5 => ?_
  have x5 : Ext w W5 := Puts.ext p5 x4 b6
  refine Qac ?_
  refine hK15 _ _ ?_
  refine Qab ?_
  refine Qaa (.int .i64 2) 18 rfl kj kj ?_
  refine Qaa (.int .i64 2) 11 rfl kj kj ?_
  refine Qac ?_
  show Code.rounds _ _ _ 3 _ _
  show Code.wp _ _ (Exit.then (Code.rounds _ _ _ 2) _) _ _
  refine wp_seq_k fun K17 hK17 => ?_
  refine Qab ?_
  refine Qaa (.bool true) 12 rfl kj kj ?_
  refine Qac ?_
  refine hK17 _ _ ?_
  refine wp_seq_k fun K18 hK18 => ?_
  refine cond_true kj ?_
  refine wp_skip ?_
  refine hK18 _ _ ?_
  refine wp_seq_k fun K19 hK19 => ?_
  refine wp_block ?_
  refine wp_seq_k fun K20 hK20 => ?_
  refine Qab ?_
  refine Qaa (.int .i64 2) 13 rfl kj kj ?_
  refine Qaa (.int .u32 2036477234) 14 rfl kj (Qa1 214 _ _ .i64 .u32 ([1634760805, 857760878, 2036477234, 1797285236]) 2 4 162 2036477234 rfl kj kj kj kj kj rfl (by decide) rfl) ?_
  refine Qaa (.int .i64 2) 6 rfl kj kj ?_
  refine Qaa (.int .u32 2036477234) 7 rfl kj kj ?_
  refine Qac ?_
  refine hK20 _ _ ?_
  refine Qab ?_
  refine Qaa (.int .i64 2) 15 rfl kj kj ?_
  refine Qaa (.int .u32 2036477234) 16 rfl kj kj ?_
  refine Qaa (.pointer (some ⟨g6, 2, none⟩)) 17 rfl kj kj ?_
  refine Qaj g6 _ (ints .u32 ([1634760805, 857760878, 2036477234, 0, 0, 0, 0, 0, 0, 0, 0, 0, 0, 0, 0, 0])) 199 r6_5 rfl kj (Qak 162 _ _ g6 2 199 _ _ r6_5 rfl kj kj kj (show 2 < 16 by decide)) fun W6 p6 r6_6 => ?_
  have x6 : Ext w W6 := Puts.ext p6 x5 b6
  refine Qac ?_
  refine hK19 _ _ ?_
  refine Qab ?_
  refine Qaa (.int .i64 3) 18 rfl kj kj ?_
  refine Qaa (.int .i64 3) 11 rfl kj kj ?_
  refine Qac ?_
  show Code.rounds _ _ _ 2 _ _
  show Code.wp _ _ (Exit.then (Code.rounds _ _ _ 1) _) _ _
  refine wp_seq_k fun K21 hK21 => ?_
  refine Qab ?_
  refine Qaa (.bool true) 12 rfl kj kj ?_
  refine Qac ?_
  refine hK21 _ _ ?_
  refine wp_seq_k fun K22 hK22 => ?_
  refine cond_true kj ?_
  refine wp_skip ?_
  refine hK22 _ _ ?_
  refine wp_seq_k fun K23 hK23 => ?_
  refine wp_block ?_
  refine wp_seq_k fun K24 hK24 => ?_
  refine Qab ?_
  refine Qaa (.int .i64 3) 13 rfl kj kj ?_
  refine Qaa (.int .u32 1797285236) 14 rfl kj (Qa1 214 _ _ .i64 .u32 ([1634760805, 857760878, 2036477234, 1797285236]) 3 4 162 1797285236 rfl kj kj kj kj kj rfl (by decide) rfl) ?_
  refine Qaa (.int .i64 3) 6 rfl kj kj ?_
  refine Qaa (.int .u32 1797285236) 7 rfl kj kj ?_
  refine Qac ?_
  refine hK24 _ _ ?_
  refine Qab ?_
  refine Qaa (.int .i64 3) 15 rfl kj kj ?_
  refine Qaa (.int .u32 1797285236) 16 rfl kj kj ?_
  refine Qaa (.pointer (some ⟨g6, 3, none⟩)) 17 rfl kj kj ?_
  refine Qaj g6 _ (ints .u32 ([1634760805, 857760878, 2036477234, 1797285236, 0, 0, 0, 0, 0, 0, 0, 0, 0, 0, 0, 0])) 199 r6_6 rfl kj (Qak 162 _ _ g6 3 199 _ _ r6_6 rfl kj kj kj (show 3 < 16 by decide)) fun W7 p7 r6_7 => ?_
  have x7 : Ext w W7 := Puts.ext p7 x6 b6
  refine Qac ?_
  refine hK23 _ _ ?_
  refine Qab ?_
  refine Qaa (.int .i64 4) 18 rfl kj kj ?_
  refine Qaa (.int .i64 4) 11 rfl kj kj ?_
  refine Qac ?_
  show Code.rounds _ _ _ 1 _ _
  show Code.wp _ _ (Exit.then (Code.rounds _ _ _ 0) _) _ _
  refine wp_seq_k fun K25 hK25 => ?_
  refine Qab ?_
  refine Qaa (.bool false) 12 rfl kj kj ?_
  refine Qac ?_
  refine hK25 _ _ ?_
  refine wp_seq_k fun K26 hK26 => ?_
  refine cond_false kj ?_
  refine wp_exit ?_
  refine hK7 _ _ ?_
  refine wp_seq_k fun K27 hK27 => ?_
  refine wp_seq_k fun K28 hK28 => ?_
  refine Qab ?_
  refine Qaa (.int .i64 0) 19 rfl kj kj ?_
  refine Qac ?_
  refine hK28 _ _ ?_
  refine wp_block ?_
  refine wp_loop_rounds 9 ?_
  show Code.wp _ _ (Exit.then (Code.rounds _ _ _ 8) _) _ _
  refine wp_seq_k fun K29 hK29 => ?_
  refine Qab ?_
  refine Qaa (.bool true) 20 rfl kj kj ?_
  refine Qac ?_
  refine hK29 _ _ ?_
  refine wp_seq_k fun K30 hK30 => ?_
  refine cond_true kj ?_
  refine wp_skip ?_
  refine hK30 _ _ ?_
  refine wp_seq_k fun K31 hK31 => ?_
  refine wp_block ?_
  refine wp_seq_k fun K32 hK32 => ?_
  refine Qab ?_
  refine Qaa (.int .i64 0) 21 rfl kj kj ?_
  refine Qaa (.int .i64 0) 8 rfl kj kj ?_
  refine Qac ?_
  refine hK32 _ _ ?_
  refine Qab ?_
  refine Qaa (.int .i64 0) 22 rfl kj kj ?_
  refine Qaa (.int .i64 4) 23 rfl kj kj ?_
  refine Qaa (.int .i64 0) 24 rfl kj kj ?_
  refine Qaa (.int .i64 0) 25 rfl kj kj ?_
  refine Qaa (.int .i64 0) 26 rfl kj kj ?_
  refine Qaa (.int .i64 0) 27 rfl kj kj ?_
  refine Qaa (.int .i64 4) 28 rfl kj kj ?_
  refine Qaa (.slice (some ⟨g3, 0 + 0, none⟩) (4 - 0) (32 - 0)) 29 rfl kj (QaV 23 _ _ _ 0 4 32 g3 0 5 rfl kj kj kj ⟨.i64, by kernel_rfl⟩ ⟨.i64, by kernel_rfl⟩ (by omega) (by omega) (by omega)) ?_
  have r3_2 := (Qad r3_1 e2)
  have r3_3 := (Qad r3_2 e3)
  have r3_4 := (Puts.row p4 r3_3 (Qag r3_2 l6))
  have r3_5 := (Puts.row p5 r3_4 (Qag r3_2 l6))
  have r3_6 := (Puts.row p6 r3_5 (Qag r3_2 l6))
  have r3_7 := (Puts.row p7 r3_6 (Qag r3_2 l6))
  refine Qat (.int .u32 (wv (le4 (sub4 key 0)))) 155 #[.slice (some ⟨g3, 0 + 0, none⟩) (4 - 0) (32 - 0)] 30 rfl kj kj ((Qd2 (sub4 key 0) _ _ _ (QbQ (xs := key) (by rw [hkl]; exact Qby (xs := key) (n := 32) hkl r3_7 (QaA r3_7) (by decide)) 0 (by omega)) (Qbw _ _ (by omega)))) fun W8 e8 => ?_
  have x8 : Ext w W8 := Ext.tr x7 e8
  refine Qaa (.pointer (some ⟨g6, 4, none⟩)) 31 rfl kj kj ?_
  have r6_8 := (Qad r6_7 e8)
  refine Qaj g6 _ (ints .u32 ([1634760805, 857760878, 2036477234, 1797285236, (wv (le4 (sub4 key 0))), 0, 0, 0, 0, 0, 0, 0, 0, 0, 0, 0])) 199 r6_8 rfl kj (Qak 162 _ _ g6 4 199 _ _ r6_8 rfl kj kj kj (show 4 < 16 by decide)) fun W9 p9 r6_9 => ?_
  have x9 : Ext w W9 := Puts.ext p9 x8 b6
  refine Qac ?_
  refine hK31 _ _ ?_
  refine Qab ?_
  refine Qaa (.int .i64 1) 32 rfl kj kj ?_
  refine Qaa (.int .i64 1) 19 rfl kj kj ?_
  refine Qac ?_
  show Code.rounds _ _ _ 8 _ _
  show Code.wp _ _ (Exit.then (Code.rounds _ _ _ 7) _) _ _
  refine wp_seq_k fun K33 hK33 => ?_
  refine Qab ?_
  refine Qaa (.bool true) 20 rfl kj kj ?_
  refine Qac ?_
  refine hK33 _ _ ?_
  refine wp_seq_k fun K34 hK34 => ?_
  refine cond_true kj ?_
  refine wp_skip ?_
  refine hK34 _ _ ?_
  refine wp_seq_k fun K35 hK35 => ?_
  refine wp_block ?_
  refine wp_seq_k fun K36 hK36 => ?_
  refine Qab ?_
  refine Qaa (.int .i64 1) 21 rfl kj kj ?_
  refine Qaa (.int .i64 1) 8 rfl kj kj ?_
  refine Qac ?_
  refine hK36 _ _ ?_
  refine Qab ?_
  refine Qaa (.int .i64 1) 22 rfl kj kj ?_
  refine Qaa (.int .i64 5) 23 rfl kj kj ?_
  refine Qaa (.int .i64 1) 24 rfl kj kj ?_
  refine Qaa (.int .i64 4) 25 rfl kj kj ?_
  refine Qaa (.int .i64 1) 26 rfl kj kj ?_
  refine Qaa (.int .i64 4) 27 rfl kj kj ?_
  refine Qaa (.int .i64 8) 28 rfl kj kj ?_
  refine Qaa (.slice (some ⟨g3, 0 + 4, none⟩) (8 - 4) (32 - 4)) 29 rfl kj (QaV 23 _ _ _ 4 8 32 g3 0 5 rfl kj kj kj ⟨.i64, by kernel_rfl⟩ ⟨.i64, by kernel_rfl⟩ (by omega) (by omega) (by omega)) ?_
  have r3_8 := (Qad r3_7 e8)
  have r3_9 := (Puts.row p9 r3_8 (Qag r3_2 l6))
  refine Qat (.int .u32 (wv (le4 (sub4 key 1)))) 155 #[.slice (some ⟨g3, 0 + 4, none⟩) (8 - 4) (32 - 4)] 30 rfl kj kj ((Qd2 (sub4 key 1) _ _ _ (QbQ (xs := key) (by rw [hkl]; exact Qby (xs := key) (n := 32) hkl r3_9 (QaA r3_9) (by decide)) 1 (by omega)) (Qbw _ _ (by omega)))) fun W10 e10 => ?_
  have x10 : Ext w W10 := Ext.tr x9 e10
  refine Qaa (.pointer (some ⟨g6, 5, none⟩)) 31 rfl kj kj ?_
  have r6_10 := (Qad r6_9 e10)
  refine Qaj g6 _ (ints .u32 ([1634760805, 857760878, 2036477234, 1797285236, (wv (le4 (sub4 key 0))), (wv (le4 (sub4 key 1))), 0, 0, 0, 0, 0, 0, 0, 0, 0, 0])) 199 r6_10 rfl kj (Qak 162 _ _ g6 5 199 _ _ r6_10 rfl kj kj kj (show 5 < 16 by decide)) fun W11 p11 r6_11 => ?_
  have x11 : Ext w W11 := Puts.ext p11 x10 b6
  refine Qac ?_
  refine hK35 _ _ ?_
  refine Qab ?_
  refine Qaa (.int .i64 2) 32 rfl kj kj ?_
  refine Qaa (.int .i64 2) 19 rfl kj kj ?_
  refine Qac ?_
  show Code.rounds _ _ _ 7 _ _
  show Code.wp _ _ (Exit.then (Code.rounds _ _ _ 6) _) _ _
  refine wp_seq_k fun K37 hK37 => ?_
  refine Qab ?_
  refine Qaa (.bool true) 20 rfl kj kj ?_
  refine Qac ?_
  refine hK37 _ _ ?_
  refine wp_seq_k fun K38 hK38 => ?_
  refine cond_true kj ?_
  refine wp_skip ?_
  refine hK38 _ _ ?_
  refine wp_seq_k fun K39 hK39 => ?_
  refine wp_block ?_
  refine wp_seq_k fun K40 hK40 => ?_
  refine Qab ?_
  refine Qaa (.int .i64 2) 21 rfl kj kj ?_
  refine Qaa (.int .i64 2) 8 rfl kj kj ?_
  refine Qac ?_
  refine hK40 _ _ ?_
  refine Qab ?_
  refine Qaa (.int .i64 2) 22 rfl kj kj ?_
  refine Qaa (.int .i64 6) 23 rfl kj kj ?_
  refine Qaa (.int .i64 2) 24 rfl kj kj ?_
  refine Qaa (.int .i64 8) 25 rfl kj kj ?_
  refine Qaa (.int .i64 2) 26 rfl kj kj ?_
  refine Qaa (.int .i64 8) 27 rfl kj kj ?_
  refine Qaa (.int .i64 12) 28 rfl kj kj ?_
  refine Qaa (.slice (some ⟨g3, 0 + 8, none⟩) (12 - 8) (32 - 8)) 29 rfl kj (QaV 23 _ _ _ 8 12 32 g3 0 5 rfl kj kj kj ⟨.i64, by kernel_rfl⟩ ⟨.i64, by kernel_rfl⟩ (by omega) (by omega) (by omega)) ?_
  have r3_10 := (Qad r3_9 e10)
  have r3_11 := (Puts.row p11 r3_10 (Qag r3_2 l6))
  refine Qat (.int .u32 (wv (le4 (sub4 key 2)))) 155 #[.slice (some ⟨g3, 0 + 8, none⟩) (12 - 8) (32 - 8)] 30 rfl kj kj ((Qd2 (sub4 key 2) _ _ _ (QbQ (xs := key) (by rw [hkl]; exact Qby (xs := key) (n := 32) hkl r3_11 (QaA r3_11) (by decide)) 2 (by omega)) (Qbw _ _ (by omega)))) fun W12 e12 => ?_
  have x12 : Ext w W12 := Ext.tr x11 e12
  refine Qaa (.pointer (some ⟨g6, 6, none⟩)) 31 rfl kj kj ?_
  have r6_12 := (Qad r6_11 e12)
  refine Qaj g6 _ (ints .u32 ([1634760805, 857760878, 2036477234, 1797285236, (wv (le4 (sub4 key 0))), (wv (le4 (sub4 key 1))), (wv (le4 (sub4 key 2))), 0, 0, 0, 0, 0, 0, 0, 0, 0])) 199 r6_12 rfl kj (Qak 162 _ _ g6 6 199 _ _ r6_12 rfl kj kj kj (show 6 < 16 by decide)) fun W13 p13 r6_13 => ?_
  have x13 : Ext w W13 := Puts.ext p13 x12 b6
  refine Qac ?_
  refine hK39 _ _ ?_
  refine Qab ?_
  refine Qaa (.int .i64 3) 32 rfl kj kj ?_
  refine Qaa (.int .i64 3) 19 rfl kj kj ?_
  refine Qac ?_
  show Code.rounds _ _ _ 6 _ _
  show Code.wp _ _ (Exit.then (Code.rounds _ _ _ 5) _) _ _
  refine wp_seq_k fun K41 hK41 => ?_
  refine Qab ?_
  refine Qaa (.bool true) 20 rfl kj kj ?_
  refine Qac ?_
  refine hK41 _ _ ?_
  refine wp_seq_k fun K42 hK42 => ?_
  refine cond_true kj ?_
  refine wp_skip ?_
  refine hK42 _ _ ?_
  refine wp_seq_k fun K43 hK43 => ?_
  refine wp_block ?_
  refine wp_seq_k fun K44 hK44 => ?_
  refine Qab ?_
  refine Qaa (.int .i64 3) 21 rfl kj kj ?_
  refine Qaa (.int .i64 3) 8 rfl kj kj ?_
  refine Qac ?_
  refine hK44 _ _ ?_
  refine Qab ?_
  refine Qaa (.int .i64 3) 22 rfl kj kj ?_
  refine Qaa (.int .i64 7) 23 rfl kj kj ?_
  refine Qaa (.int .i64 3) 24 rfl kj kj ?_
  refine Qaa (.int .i64 12) 25 rfl kj kj ?_
  refine Qaa (.int .i64 3) 26 rfl kj kj ?_
  refine Qaa (.int .i64 12) 27 rfl kj kj ?_
  refine Qaa (.int .i64 16) 28 rfl kj kj ?_
  refine Qaa (.slice (some ⟨g3, 0 + 12, none⟩) (16 - 12) (32 - 12)) 29 rfl kj (QaV 23 _ _ _ 12 16 32 g3 0 5 rfl kj kj kj ⟨.i64, by kernel_rfl⟩ ⟨.i64, by kernel_rfl⟩ (by omega) (by omega) (by omega)) ?_
  have r3_12 := (Qad r3_11 e12)
  have r3_13 := (Puts.row p13 r3_12 (Qag r3_2 l6))
  refine Qat (.int .u32 (wv (le4 (sub4 key 3)))) 155 #[.slice (some ⟨g3, 0 + 12, none⟩) (16 - 12) (32 - 12)] 30 rfl kj kj ((Qd2 (sub4 key 3) _ _ _ (QbQ (xs := key) (by rw [hkl]; exact Qby (xs := key) (n := 32) hkl r3_13 (QaA r3_13) (by decide)) 3 (by omega)) (Qbw _ _ (by omega)))) fun W14 e14 => ?_
  have x14 : Ext w W14 := Ext.tr x13 e14
  refine Qaa (.pointer (some ⟨g6, 7, none⟩)) 31 rfl kj kj ?_
  have r6_14 := (Qad r6_13 e14)
  refine Qaj g6 _ (ints .u32 ([1634760805, 857760878, 2036477234, 1797285236, (wv (le4 (sub4 key 0))), (wv (le4 (sub4 key 1))), (wv (le4 (sub4 key 2))), (wv (le4 (sub4 key 3))), 0, 0, 0, 0, 0, 0, 0, 0])) 199 r6_14 rfl kj (Qak 162 _ _ g6 7 199 _ _ r6_14 rfl kj kj kj (show 7 < 16 by decide)) fun W15 p15 r6_15 => ?_
  have x15 : Ext w W15 := Puts.ext p15 x14 b6
  refine Qac ?_
  refine hK43 _ _ ?_
  refine Qab ?_
  refine Qaa (.int .i64 4) 32 rfl kj kj ?_
  refine Qaa (.int .i64 4) 19 rfl kj kj ?_
  refine Qac ?_
  show Code.rounds _ _ _ 5 _ _
  show Code.wp _ _ (Exit.then (Code.rounds _ _ _ 4) _) _ _
  refine wp_seq_k fun K45 hK45 => ?_
  refine Qab ?_
  refine Qaa (.bool true) 20 rfl kj kj ?_
  refine Qac ?_
  refine hK45 _ _ ?_
  refine wp_seq_k fun K46 hK46 => ?_
  refine cond_true kj ?_
  refine wp_skip ?_
  refine hK46 _ _ ?_
  refine wp_seq_k fun K47 hK47 => ?_
  refine wp_block ?_
  refine wp_seq_k fun K48 hK48 => ?_
  refine Qab ?_
  refine Qaa (.int .i64 4) 21 rfl kj kj ?_
  refine Qaa (.int .i64 4) 8 rfl kj kj ?_
  refine Qac ?_
  refine hK48 _ _ ?_
  refine Qab ?_
  refine Qaa (.int .i64 4) 22 rfl kj kj ?_
  refine Qaa (.int .i64 8) 23 rfl kj kj ?_
  refine Qaa (.int .i64 4) 24 rfl kj kj ?_
  refine Qaa (.int .i64 16) 25 rfl kj kj ?_
  refine Qaa (.int .i64 4) 26 rfl kj kj ?_
  refine Qaa (.int .i64 16) 27 rfl kj kj ?_
  refine Qaa (.int .i64 20) 28 rfl kj kj ?_
  refine Qaa (.slice (some ⟨g3, 0 + 16, none⟩) (20 - 16) (32 - 16)) 29 rfl kj (QaV 23 _ _ _ 16 20 32 g3 0 5 rfl kj kj kj ⟨.i64, by kernel_rfl⟩ ⟨.i64, by kernel_rfl⟩ (by omega) (by omega) (by omega)) ?_
  have r3_14 := (Qad r3_13 e14)
  have r3_15 := (Puts.row p15 r3_14 (Qag r3_2 l6))
  refine Qat (.int .u32 (wv (le4 (sub4 key 4)))) 155 #[.slice (some ⟨g3, 0 + 16, none⟩) (20 - 16) (32 - 16)] 30 rfl kj kj ((Qd2 (sub4 key 4) _ _ _ (QbQ (xs := key) (by rw [hkl]; exact Qby (xs := key) (n := 32) hkl r3_15 (QaA r3_15) (by decide)) 4 (by omega)) (Qbw _ _ (by omega)))) fun W16 e16 => ?_
  have x16 : Ext w W16 := Ext.tr x15 e16
  refine Qaa (.pointer (some ⟨g6, 8, none⟩)) 31 rfl kj kj ?_
  have r6_16 := (Qad r6_15 e16)
  refine Qaj g6 _ (ints .u32 ([1634760805, 857760878, 2036477234, 1797285236, (wv (le4 (sub4 key 0))), (wv (le4 (sub4 key 1))), (wv (le4 (sub4 key 2))), (wv (le4 (sub4 key 3))), (wv (le4 (sub4 key 4))), 0, 0, 0, 0, 0, 0, 0])) 199 r6_16 rfl kj (Qak 162 _ _ g6 8 199 _ _ r6_16 rfl kj kj kj (show 8 < 16 by decide)) fun W17 p17 r6_17 => ?_
  have x17 : Ext w W17 := Puts.ext p17 x16 b6
  refine Qac ?_
  refine hK47 _ _ ?_
  refine Qab ?_
  refine Qaa (.int .i64 5) 32 rfl kj kj ?_
  refine Qaa (.int .i64 5) 19 rfl kj kj ?_
  refine Qac ?_
  show Code.rounds _ _ _ 4 _ _
  show Code.wp _ _ (Exit.then (Code.rounds _ _ _ 3) _) _ _
  refine wp_seq_k fun K49 hK49 => ?_
  refine Qab ?_
  refine Qaa (.bool true) 20 rfl kj kj ?_
  refine Qac ?_
  refine hK49 _ _ ?_
  refine wp_seq_k fun K50 hK50 => ?_
  refine cond_true kj ?_
  refine wp_skip ?_
  refine hK50 _ _ ?_
  refine wp_seq_k fun K51 hK51 => ?_
  refine wp_block ?_
  refine wp_seq_k fun K52 hK52 => ?_
  refine Qab ?_
  refine Qaa (.int .i64 5) 21 rfl kj kj ?_
  refine Qaa (.int .i64 5) 8 rfl kj kj ?_
  refine Qac ?_
  refine hK52 _ _ ?_
  refine Qab ?_
  refine Qaa (.int .i64 5) 22 rfl kj kj ?_
  refine Qaa (.int .i64 9) 23 rfl kj kj ?_
  refine Qaa (.int .i64 5) 24 rfl kj kj ?_
  refine Qaa (.int .i64 20) 25 rfl kj kj ?_
  refine Qaa (.int .i64 5) 26 rfl kj kj ?_
  refine Qaa (.int .i64 20) 27 rfl kj kj ?_
  refine Qaa (.int .i64 24) 28 rfl kj kj ?_
  refine Qaa (.slice (some ⟨g3, 0 + 20, none⟩) (24 - 20) (32 - 20)) 29 rfl kj (QaV 23 _ _ _ 20 24 32 g3 0 5 rfl kj kj kj ⟨.i64, by kernel_rfl⟩ ⟨.i64, by kernel_rfl⟩ (by omega) (by omega) (by omega)) ?_
  have r3_16 := (Qad r3_15 e16)
  have r3_17 := (Puts.row p17 r3_16 (Qag r3_2 l6))
  refine Qat (.int .u32 (wv (le4 (sub4 key 5)))) 155 #[.slice (some ⟨g3, 0 + 20, none⟩) (24 - 20) (32 - 20)] 30 rfl kj kj ((Qd2 (sub4 key 5) _ _ _ (QbQ (xs := key) (by rw [hkl]; exact Qby (xs := key) (n := 32) hkl r3_17 (QaA r3_17) (by decide)) 5 (by omega)) (Qbw _ _ (by omega)))) fun W18 e18 => ?_
  have x18 : Ext w W18 := Ext.tr x17 e18
  refine Qaa (.pointer (some ⟨g6, 9, none⟩)) 31 rfl kj kj ?_
  have r6_18 := (Qad r6_17 e18)
  refine Qaj g6 _ (ints .u32 ([1634760805, 857760878, 2036477234, 1797285236, (wv (le4 (sub4 key 0))), (wv (le4 (sub4 key 1))), (wv (le4 (sub4 key 2))), (wv (le4 (sub4 key 3))), (wv (le4 (sub4 key 4))), (wv (le4 (sub4 key 5))), 0, 0, 0, 0, 0, 0])) 199 r6_18 rfl kj (Qak 162 _ _ g6 9 199 _ _ r6_18 rfl kj kj kj (show 9 < 16 by decide)) fun W19 p19 r6_19 => ?_
  have x19 : Ext w W19 := Puts.ext p19 x18 b6
  refine Qac ?_
  refine hK51 _ _ ?_
  refine Qab ?_
  refine Qaa (.int .i64 6) 32 rfl kj kj ?_
  refine Qaa (.int .i64 6) 19 rfl kj kj ?_
  refine Qac ?_
  show Code.rounds _ _ _ 3 _ _
  show Code.wp _ _ (Exit.then (Code.rounds _ _ _ 2) _) _ _
  refine wp_seq_k fun K53 hK53 => ?_
  refine Qab ?_
  refine Qaa (.bool true) 20 rfl kj kj ?_
  refine Qac ?_
  refine hK53 _ _ ?_
  refine wp_seq_k fun K54 hK54 => ?_
  refine cond_true kj ?_
  refine wp_skip ?_
  refine hK54 _ _ ?_
  refine wp_seq_k fun K55 hK55 => ?_
  refine wp_block ?_
  refine wp_seq_k fun K56 hK56 => ?_
  refine Qab ?_
  refine Qaa (.int .i64 6) 21 rfl kj kj ?_
  refine Qaa (.int .i64 6) 8 rfl kj kj ?_
  refine Qac ?_
  refine hK56 _ _ ?_
  refine Qab ?_
  refine Qaa (.int .i64 6) 22 rfl kj kj ?_
  refine Qaa (.int .i64 10) 23 rfl kj kj ?_
  refine Qaa (.int .i64 6) 24 rfl kj kj ?_
  refine Qaa (.int .i64 24) 25 rfl kj kj ?_
  refine Qaa (.int .i64 6) 26 rfl kj kj ?_
  refine Qaa (.int .i64 24) 27 rfl kj kj ?_
  refine Qaa (.int .i64 28) 28 rfl kj kj ?_
  refine Qaa (.slice (some ⟨g3, 0 + 24, none⟩) (28 - 24) (32 - 24)) 29 rfl kj (QaV 23 _ _ _ 24 28 32 g3 0 5 rfl kj kj kj ⟨.i64, by kernel_rfl⟩ ⟨.i64, by kernel_rfl⟩ (by omega) (by omega) (by omega)) ?_
  have r3_18 := (Qad r3_17 e18)
  have r3_19 := (Puts.row p19 r3_18 (Qag r3_2 l6))
  refine Qat (.int .u32 (wv (le4 (sub4 key 6)))) 155 #[.slice (some ⟨g3, 0 + 24, none⟩) (28 - 24) (32 - 24)] 30 rfl kj kj ((Qd2 (sub4 key 6) _ _ _ (QbQ (xs := key) (by rw [hkl]; exact Qby (xs := key) (n := 32) hkl r3_19 (QaA r3_19) (by decide)) 6 (by omega)) (Qbw _ _ (by omega)))) fun W20 e20 => ?_
  have x20 : Ext w W20 := Ext.tr x19 e20
  refine Qaa (.pointer (some ⟨g6, 10, none⟩)) 31 rfl kj kj ?_
  have r6_20 := (Qad r6_19 e20)
  refine Qaj g6 _ (ints .u32 ([1634760805, 857760878, 2036477234, 1797285236, (wv (le4 (sub4 key 0))), (wv (le4 (sub4 key 1))), (wv (le4 (sub4 key 2))), (wv (le4 (sub4 key 3))), (wv (le4 (sub4 key 4))), (wv (le4 (sub4 key 5))), (wv (le4 (sub4 key 6))), 0, 0, 0, 0, 0])) 199 r6_20 rfl kj (Qak 162 _ _ g6 10 199 _ _ r6_20 rfl kj kj kj (show 10 < 16 by decide)) fun W21 p21 r6_21 => ?_
  have x21 : Ext w W21 := Puts.ext p21 x20 b6
  refine Qac ?_
  refine hK55 _ _ ?_
  refine Qab ?_
  refine Qaa (.int .i64 7) 32 rfl kj kj ?_
  refine Qaa (.int .i64 7) 19 rfl kj kj ?_
  refine Qac ?_
  show Code.rounds _ _ _ 2 _ _
  show Code.wp _ _ (Exit.then (Code.rounds _ _ _ 1) _) _ _
  refine wp_seq_k fun K57 hK57 => ?_
  refine Qab ?_
  refine Qaa (.bool true) 20 rfl kj kj ?_
  refine Qac ?_
  refine hK57 _ _ ?_
  refine wp_seq_k fun K58 hK58 => ?_
  refine cond_true kj ?_
  refine wp_skip ?_
  refine hK58 _ _ ?_
  refine wp_seq_k fun K59 hK59 => ?_
  refine wp_block ?_
  refine wp_seq_k fun K60 hK60 => ?_
  refine Qab ?_
  refine Qaa (.int .i64 7) 21 rfl kj kj ?_
  refine Qaa (.int .i64 7) 8 rfl kj kj ?_
  refine Qac ?_
  refine hK60 _ _ ?_
  refine Qab ?_
  refine Qaa (.int .i64 7) 22 rfl kj kj ?_
  refine Qaa (.int .i64 11) 23 rfl kj kj ?_
  refine Qaa (.int .i64 7) 24 rfl kj kj ?_
  refine Qaa (.int .i64 28) 25 rfl kj kj ?_
  refine Qaa (.int .i64 7) 26 rfl kj kj ?_
  refine Qaa (.int .i64 28) 27 rfl kj kj ?_
  refine Qaa (.int .i64 32) 28 rfl kj kj ?_
  refine Qaa (.slice (some ⟨g3, 0 + 28, none⟩) (32 - 28) (32 - 28)) 29 rfl kj (QaV 23 _ _ _ 28 32 32 g3 0 5 rfl kj kj kj ⟨.i64, by kernel_rfl⟩ ⟨.i64, by kernel_rfl⟩ (by omega) (by omega) (by omega)) ?_
  have r3_20 := (Qad r3_19 e20)
  have r3_21 := (Puts.row p21 r3_20 (Qag r3_2 l6))
  refine Qat (.int .u32 (wv (le4 (sub4 key 7)))) 155 #[.slice (some ⟨g3, 0 + 28, none⟩) (32 - 28) (32 - 28)] 30 rfl kj kj ((Qd2 (sub4 key 7) _ _ _ (QbQ (xs := key) (by rw [hkl]; exact Qby (xs := key) (n := 32) hkl r3_21 (QaA r3_21) (by decide)) 7 (by omega)) (Qbw _ _ (by omega)))) fun W22 e22 => ?_
  have x22 : Ext w W22 := Ext.tr x21 e22
  refine Qaa (.pointer (some ⟨g6, 11, none⟩)) 31 rfl kj kj ?_
  have r6_22 := (Qad r6_21 e22)
  refine Qaj g6 _ (ints .u32 ([1634760805, 857760878, 2036477234, 1797285236, (wv (le4 (sub4 key 0))), (wv (le4 (sub4 key 1))), (wv (le4 (sub4 key 2))), (wv (le4 (sub4 key 3))), (wv (le4 (sub4 key 4))), (wv (le4 (sub4 key 5))), (wv (le4 (sub4 key 6))), (wv (le4 (sub4 key 7))), 0, 0, 0, 0])) 199 r6_22 rfl kj (Qak 162 _ _ g6 11 199 _ _ r6_22 rfl kj kj kj (show 11 < 16 by decide)) fun W23 p23 r6_23 => ?_
  have x23 : Ext w W23 := Puts.ext p23 x22 b6
  refine Qac ?_
  refine hK59 _ _ ?_
  refine Qab ?_
  refine Qaa (.int .i64 8) 32 rfl kj kj ?_
  refine Qaa (.int .i64 8) 19 rfl kj kj ?_
  refine Qac ?_
  show Code.rounds _ _ _ 1 _ _
  show Code.wp _ _ (Exit.then (Code.rounds _ _ _ 0) _) _ _
  refine wp_seq_k fun K61 hK61 => ?_
  refine Qab ?_
  refine Qaa (.bool false) 20 rfl kj kj ?_
  refine Qac ?_
  refine hK61 _ _ ?_
  refine wp_seq_k fun K62 hK62 => ?_
  refine cond_false kj ?_
  refine wp_exit ?_
  refine hK27 _ _ ?_
  refine wp_seq_k fun K63 hK63 => ?_
  refine wp_seq_k fun K64 hK64 => ?_
  refine Qab ?_
  refine Qaa (.int .i64 0) 33 rfl kj kj ?_
  refine Qac ?_
  refine hK64 _ _ ?_
  refine wp_block ?_
  refine wp_loop_rounds 4 ?_
  show Code.wp _ _ (Exit.then (Code.rounds _ _ _ 3) _) _ _
  refine wp_seq_k fun K65 hK65 => ?_
  refine Qab ?_
  refine Qaa (.bool true) 34 rfl kj kj ?_
  refine Qac ?_
  refine hK65 _ _ ?_
  refine wp_seq_k fun K66 hK66 => ?_
  refine cond_true kj ?_
  refine wp_skip ?_
  refine hK66 _ _ ?_
  refine wp_seq_k fun K67 hK67 => ?_
  refine wp_block ?_
  refine wp_seq_k fun K68 hK68 => ?_
  refine Qab ?_
  refine Qaa (.int .i64 0) 35 rfl kj kj ?_
  refine Qaa (.int .i64 0) 9 rfl kj kj ?_
  refine Qac ?_
  refine hK68 _ _ ?_
  refine Qab ?_
  refine Qaa (.int .i64 0) 36 rfl kj kj ?_
  refine Qaa (.int .i64 13) 37 rfl kj kj ?_
  refine Qaa (.slice (some ⟨gn, on, none⟩) nonce.length c_n) 38 rfl kj kj ?_
  refine Qaa (.int .i64 0) 39 rfl kj kj ?_
  refine Qaa (.int .i64 0) 40 rfl kj kj ?_
  refine Qaa (.int .i64 0) 41 rfl kj kj ?_
  refine Qaa (.int .i64 0) 42 rfl kj kj ?_
  refine Qaa (.int .i64 4) 43 rfl kj kj ?_
  refine Qaa (.slice (some ⟨gn, on + 0, none⟩) (4 - 0) (c_n - 0)) 44 rfl kj (Qdd 33 _ _ _ 0 4 gn on nonce.length c_n 5 rfl kj kj kj kj kj (by decide) (by omega) (by omega)) ?_
  refine Qat (.int .u32 (wv (le4 (sub4 nonce 0)))) 155 #[.slice (some ⟨gn, on + 0, none⟩) (4 - 0) (c_n - 0)] 45 rfl kj kj ((Qd2 (sub4 nonce 0) _ _ _ (QbQ (xs := nonce) (hn.ext x23) 0 (by omega)) (Qbw _ _ (by omega)))) fun W24 e24 => ?_
  have x24 : Ext w W24 := Ext.tr x23 e24
  refine Qaa (.pointer (some ⟨g6, 13, none⟩)) 46 rfl kj kj ?_
  have r6_24 := (Qad r6_23 e24)
  refine Qaj g6 _ (ints .u32 ([1634760805, 857760878, 2036477234, 1797285236, (wv (le4 (sub4 key 0))), (wv (le4 (sub4 key 1))), (wv (le4 (sub4 key 2))), (wv (le4 (sub4 key 3))), (wv (le4 (sub4 key 4))), (wv (le4 (sub4 key 5))), (wv (le4 (sub4 key 6))), (wv (le4 (sub4 key 7))), 0, (wv (le4 (sub4 nonce 0))), 0, 0])) 199 r6_24 rfl kj (Qak 162 _ _ g6 13 199 _ _ r6_24 rfl kj kj kj (show 13 < 16 by decide)) fun W25 p25 r6_25 => ?_
  have x25 : Ext w W25 := Puts.ext p25 x24 b6
  refine Qac ?_
  refine hK67 _ _ ?_
  refine Qab ?_
  refine Qaa (.int .i64 1) 47 rfl kj kj ?_
  refine Qaa (.int .i64 1) 33 rfl kj kj ?_
  refine Qac ?_
  show Code.rounds _ _ _ 3 _ _
  show Code.wp _ _ (Exit.then (Code.rounds _ _ _ 2) _) _ _
  refine wp_seq_k fun K69 hK69 => ?_
  refine Qab ?_
  refine Qaa (.bool true) 34 rfl kj kj ?_
  refine Qac ?_
  refine hK69 _ _ ?_
  refine wp_seq_k fun K70 hK70 => ?_
  refine cond_true kj ?_
  refine wp_skip ?_
  refine hK70 _ _ ?_
  refine wp_seq_k fun K71 hK71 => ?_
  refine wp_block ?_
  refine wp_seq_k fun K72 hK72 => ?_
  refine Qab ?_
  refine Qaa (.int .i64 1) 35 rfl kj kj ?_
  refine Qaa (.int .i64 1) 9 rfl kj kj ?_
  refine Qac ?_
  refine hK72 _ _ ?_
  refine Qab ?_
  refine Qaa (.int .i64 1) 36 rfl kj kj ?_
  refine Qaa (.int .i64 14) 37 rfl kj kj ?_
  refine Qaa (.slice (some ⟨gn, on, none⟩) nonce.length c_n) 38 rfl kj kj ?_
  refine Qaa (.int .i64 1) 39 rfl kj kj ?_
  refine Qaa (.int .i64 4) 40 rfl kj kj ?_
  refine Qaa (.int .i64 1) 41 rfl kj kj ?_
  refine Qaa (.int .i64 4) 42 rfl kj kj ?_
  refine Qaa (.int .i64 8) 43 rfl kj kj ?_
  refine Qaa (.slice (some ⟨gn, on + 4, none⟩) (8 - 4) (c_n - 4)) 44 rfl kj (Qdd 33 _ _ _ 4 8 gn on nonce.length c_n 5 rfl kj kj kj kj kj (by decide) (by omega) (by omega)) ?_
  refine Qat (.int .u32 (wv (le4 (sub4 nonce 1)))) 155 #[.slice (some ⟨gn, on + 4, none⟩) (8 - 4) (c_n - 4)] 45 rfl kj kj ((Qd2 (sub4 nonce 1) _ _ _ (QbQ (xs := nonce) (hn.ext x25) 1 (by omega)) (Qbw _ _ (by omega)))) fun W26 e26 => ?_
  have x26 : Ext w W26 := Ext.tr x25 e26
  refine Qaa (.pointer (some ⟨g6, 14, none⟩)) 46 rfl kj kj ?_
  have r6_26 := (Qad r6_25 e26)
  refine Qaj g6 _ (ints .u32 ([1634760805, 857760878, 2036477234, 1797285236, (wv (le4 (sub4 key 0))), (wv (le4 (sub4 key 1))), (wv (le4 (sub4 key 2))), (wv (le4 (sub4 key 3))), (wv (le4 (sub4 key 4))), (wv (le4 (sub4 key 5))), (wv (le4 (sub4 key 6))), (wv (le4 (sub4 key 7))), 0, (wv (le4 (sub4 nonce 0))), (wv (le4 (sub4 nonce 1))), 0])) 199 r6_26 rfl kj (Qak 162 _ _ g6 14 199 _ _ r6_26 rfl kj kj kj (show 14 < 16 by decide)) fun W27 p27 r6_27 => ?_
  have x27 : Ext w W27 := Puts.ext p27 x26 b6
  refine Qac ?_
  refine hK71 _ _ ?_
  refine Qab ?_
  refine Qaa (.int .i64 2) 47 rfl kj kj ?_
  refine Qaa (.int .i64 2) 33 rfl kj kj ?_
  refine Qac ?_
  show Code.rounds _ _ _ 2 _ _
  show Code.wp _ _ (Exit.then (Code.rounds _ _ _ 1) _) _ _
  refine wp_seq_k fun K73 hK73 => ?_
  refine Qab ?_
  refine Qaa (.bool true) 34 rfl kj kj ?_
  refine Qac ?_
  refine hK73 _ _ ?_
  refine wp_seq_k fun K74 hK74 => ?_
  refine cond_true kj ?_
  refine wp_skip ?_
  refine hK74 _ _ ?_
  refine wp_seq_k fun K75 hK75 => ?_
  refine wp_block ?_
  refine wp_seq_k fun K76 hK76 => ?_
  refine Qab ?_
  refine Qaa (.int .i64 2) 35 rfl kj kj ?_
  refine Qaa (.int .i64 2) 9 rfl kj kj ?_
  refine Qac ?_
  refine hK76 _ _ ?_
  refine Qab ?_
  refine Qaa (.int .i64 2) 36 rfl kj kj ?_
  refine Qaa (.int .i64 15) 37 rfl kj kj ?_
  refine Qaa (.slice (some ⟨gn, on, none⟩) nonce.length c_n) 38 rfl kj kj ?_
  refine Qaa (.int .i64 2) 39 rfl kj kj ?_
  refine Qaa (.int .i64 8) 40 rfl kj kj ?_
  refine Qaa (.int .i64 2) 41 rfl kj kj ?_
  refine Qaa (.int .i64 8) 42 rfl kj kj ?_
  refine Qaa (.int .i64 12) 43 rfl kj kj ?_
  refine Qaa (.slice (some ⟨gn, on + 8, none⟩) (12 - 8) (c_n - 8)) 44 rfl kj (Qdd 33 _ _ _ 8 12 gn on nonce.length c_n 5 rfl kj kj kj kj kj (by decide) (by omega) (by omega)) ?_
  refine Qat (.int .u32 (wv (le4 (sub4 nonce 2)))) 155 #[.slice (some ⟨gn, on + 8, none⟩) (12 - 8) (c_n - 8)] 45 rfl kj kj ((Qd2 (sub4 nonce 2) _ _ _ (QbQ (xs := nonce) (hn.ext x27) 2 (by omega)) (Qbw _ _ (by omega)))) fun W28 e28 => ?_
  have x28 : Ext w W28 := Ext.tr x27 e28
  refine Qaa (.pointer (some ⟨g6, 15, none⟩)) 46 rfl kj kj ?_
  have r6_28 := (Qad r6_27 e28)
  refine Qaj g6 _ (ints .u32 ([1634760805, 857760878, 2036477234, 1797285236, (wv (le4 (sub4 key 0))), (wv (le4 (sub4 key 1))), (wv (le4 (sub4 key 2))), (wv (le4 (sub4 key 3))), (wv (le4 (sub4 key 4))), (wv (le4 (sub4 key 5))), (wv (le4 (sub4 key 6))), (wv (le4 (sub4 key 7))), 0, (wv (le4 (sub4 nonce 0))), (wv (le4 (sub4 nonce 1))), (wv (le4 (sub4 nonce 2)))])) 199 r6_28 rfl kj (Qak 162 _ _ g6 15 199 _ _ r6_28 rfl kj kj kj (show 15 < 16 by decide)) fun W29 p29 r6_29 => ?_
  have x29 : Ext w W29 := Puts.ext p29 x28 b6
  refine Qac ?_
  refine hK75 _ _ ?_
  refine Qab ?_
  refine Qaa (.int .i64 3) 47 rfl kj kj ?_
  refine Qaa (.int .i64 3) 33 rfl kj kj ?_
  refine Qac ?_
  show Code.rounds _ _ _ 1 _ _
  show Code.wp _ _ (Exit.then (Code.rounds _ _ _ 0) _) _ _
  refine wp_seq_k fun K77 hK77 => ?_
  refine Qab ?_
  refine Qaa (.bool false) 34 rfl kj kj ?_
  refine Qac ?_
  refine hK77 _ _ ?_
  refine wp_seq_k fun K78 hK78 => ?_
  refine cond_false kj ?_
  refine wp_exit ?_
  refine hK63 _ _ ?_
  refine wp_seq_k fun K79 hK79 => ?_
  refine Qab ?_
  refine Qaa (.agg (ints .u32 ([1634760805, 857760878, 2036477234, 1797285236, (wv (le4 (sub4 key 0))), (wv (le4 (sub4 key 1))), (wv (le4 (sub4 key 2))), (wv (le4 (sub4 key 3))), (wv (le4 (sub4 key 4))), (wv (le4 (sub4 key 5))), (wv (le4 (sub4 key 6))), (wv (le4 (sub4 key 7))), 0, (wv (le4 (sub4 nonce 0))), (wv (le4 (sub4 nonce 1))), (wv (le4 (sub4 nonce 2)))]))) 48 rfl kj (Qar 199 _ g6 199 _ _ r6_29 rfl kj kj (isz (n := 16) kj kj)) ?_
  have r4_3 := (Qad r4_2 e3)
  have r4_4 := (Puts.row p4 r4_3 (Qag r4_2 l6))
  have r4_5 := (Puts.row p5 r4_4 (Qag r4_2 l6))
  have r4_6 := (Puts.row p6 r4_5 (Qag r4_2 l6))
  have r4_7 := (Puts.row p7 r4_6 (Qag r4_2 l6))
  have r4_8 := (Qad r4_7 e8)
  have r4_9 := (Puts.row p9 r4_8 (Qag r4_2 l6))
  have r4_10 := (Qad r4_9 e10)
  have r4_11 := (Puts.row p11 r4_10 (Qag r4_2 l6))
  have r4_12 := (Qad r4_11 e12)
  have r4_13 := (Puts.row p13 r4_12 (Qag r4_2 l6))
  have r4_14 := (Qad r4_13 e14)
  have r4_15 := (Puts.row p15 r4_14 (Qag r4_2 l6))
  have r4_16 := (Qad r4_15 e16)
  have r4_17 := (Puts.row p17 r4_16 (Qag r4_2 l6))
  have r4_18 := (Qad r4_17 e18)
  have r4_19 := (Puts.row p19 r4_18 (Qag r4_2 l6))
  have r4_20 := (Qad r4_19 e20)
  have r4_21 := (Puts.row p21 r4_20 (Qag r4_2 l6))
  have r4_22 := (Qad r4_21 e22)
  have r4_23 := (Puts.row p23 r4_22 (Qag r4_2 l6))
  have r4_24 := (Qad r4_23 e24)
  have r4_25 := (Puts.row p25 r4_24 (Qag r4_2 l6))
  have r4_26 := (Qad r4_25 e26)
  have r4_27 := (Puts.row p27 r4_26 (Qag r4_2 l6))
  have r4_28 := (Qad r4_27 e28)
  have r4_29 := (Puts.row p29 r4_28 (Qag r4_2 l6))
  refine Qaj g4 _ (ints .u32 ([1634760805, 857760878, 2036477234, 1797285236, (wv (le4 (sub4 key 0))), (wv (le4 (sub4 key 1))), (wv (le4 (sub4 key 2))), (wv (le4 (sub4 key 3))), (wv (le4 (sub4 key 4))), (wv (le4 (sub4 key 5))), (wv (le4 (sub4 key 6))), (wv (le4 (sub4 key 7))), 0, (wv (le4 (sub4 nonce 0))), (wv (le4 (sub4 nonce 1))), (wv (le4 (sub4 nonce 2)))])) 199 r4_29 rfl kj (Qaq 199 _ _ g4 199 _ _ r4_29 rfl kj kj (isz (n := 16) kj kj) (eqsz (n := 16) kj kj) (Qa7 _ _)) fun W30 p30 r4_30 => ?_
  have x30 : Ext w W30 := Puts.ext p30 x29 b4
  refine Qac ?_
  refine hK79 _ _ ?_
  refine wp_ret ?_
  repeat (first | with_reducible refine goR1 ?_ | with_reducible refine goR2 ?_)
  exact (show bodyPost _ _ _ .ret _ _ from ret1 (.agg (ints .u32 ([1634760805, 857760878, 2036477234, 1797285236, (wv (le4 (sub4 key 0))), (wv (le4 (sub4 key 1))), (wv (le4 (sub4 key 2))), (wv (le4 (sub4 key 3))), (wv (le4 (sub4 key 4))), (wv (le4 (sub4 key 5))), (wv (le4 (sub4 key 6))), (wv (le4 (sub4 key 7))), 0, (wv (le4 (sub4 nonce 0))), (wv (le4 (sub4 nonce 1))), (wv (le4 (sub4 nonce 2)))]))) rfl (Qbx g4 199 _ r4_30 kj kj (isz (n := 16) kj kj)) ⟨rfl, x30⟩)
end Go.Proofs.YtoiendjhplbjjaaDoor.Cha
end
section
namespace Go.Proofs.YtoiendjhplbjjaaDoor.Cha
open Go Go.RowKit
open Rely Auto Own Sha
set_option linter.unusedVariables false
set_option linter.unusedSimpArgs false
open Sha
end Go.Proofs.YtoiendjhplbjjaaDoor.Cha
end
section
namespace Go.Proofs.YtoiendjhplbjjaaDoor.Auto
open Go Go.RowKit
open Rely
set_option linter.unusedVariables false
section
variable {P : Program} {Rd : World → Prop} {w0 : World} {base N : Nat} {L : Env} {U : List Nat} {F : List Kn → Prop} {o : Oper} {os : List Oper} {s : Src} {ss : List Src} {C : List Kn}
theorem Qap (v : Value) (hs : seen C o s = true) (hg : gOk s.guard (get (envS N L (C.map Kn.val) s.reads)) = true) (hd : o.dst.isNone = false)
    (h : ∀ W, (execOp (Rely.look (get (envS N L (C.map Kn.val) s.reads))) o).run P W = .ok (.value v) W)
    (hk : QbM P Rd w0 base N L U F os ss (C ++ [.is v])) : QbM P Rd w0 base N L U F (o :: os) (s :: ss) C :=
  ⟨.is v, (fun hn => by rw [hd] at hn; cases hn), (fun _ => by
    split
    · exact ⟨hs, v, rfl, fun W _ => QbB hg (h W)⟩
    · intro ρ W hR hh
      rw [Qcb hs hh]
      refine QbB hg ?_
      unfold Qce
      rw [Qcy hs hh, h W]
      exact ⟨Ext.refl _, rfl⟩), hk⟩
theorem Qdk (v : Value) (f : FuncId) (args : Array Value) (hu : U.contains C.length = false) (hs : seen C o s = true) (hg : gOk s.guard (get (envS N L (C.map Kn.val) s.reads)) = true) (hd : o.dst.isNone = false)
    (h : ∀ W, (execOp (Rely.look (get (envS N L (C.map Kn.val) s.reads))) o).run P W = .ok (.enter f args) W) (hc : ∀ W, Ext w0 W → Calls P f args W (Ret W v))
    (hk : QbM P Rd w0 base N L U F os ss (C ++ [.is v])) : QbM P Rd w0 base N L U F (o :: os) (s :: ss) C :=
  t_op (.is v) hu hs hg hd (fun W hR => by
    rw [h]
    exact ⟨Ext.refl _, (hc W hR).mono fun _ _ h => h.const⟩) hk
end
end Go.Proofs.YtoiendjhplbjjaaDoor.Auto
end
section
namespace Go.Proofs.YtoiendjhplbjjaaDoor.Cha
open Go Go.RowKit
open Rely Auto Own Sha
set_option linter.unusedVariables false
set_option linter.unusedSimpArgs false
open Sha
def qrt (x : List Wd) (i j k l : Nat) : List Wd := (((x.set i (qA2 (wget x i) (wget x j) (wget x k) (wget x l))).set j (qB2 (wget x i) (wget x j) (wget x k) (wget x l))).set k (qC2 (wget x i) (wget x j) (wget x k) (wget x l))).set l (qD2 (wget x i) (wget x j) (wget x k) (wget x l))
theorem Qcp (x : List Wd) (i j k l : Nat) : (qrt x i j k l).length = x.length := by unfold qrt; simp only [List.length_set]
def dbl (x : List Wd) : List Wd := qrt (qrt (qrt (qrt (qrt (qrt (qrt (qrt (x) 0 4 8 12) 1 5 9 13) 2 6 10 14) 3 7 11 15) 0 5 10 15) 1 6 11 12) 2 7 8 13) 3 4 9 14
theorem Qh1 (x : List Wd) : (dbl x).length = x.length := by unfold dbl; simp only [Qcp]
def rounds (s : List Wd) : Nat → List Wd
  | 0 => s
  | n + 1 => dbl (rounds s n)
theorem Qde (s : List Wd) : ∀ n, (rounds s n).length = s.length
  | 0 => rfl
  | n + 1 => (Qh1 _).trans (Qde s n)
theorem Qa4 {x : List Wd} {n : Nat} (h : x.length = n) : (x.map wv).length = n := by rw [List.length_map, h]
def Qbl (xs : List Int) (n i : Nat) : List Int := xs.take i ++ List.replicate (n - i) 0
theorem QbR (xs : List Int) (n i : Nat) (h : xs.length = n) (hi : i ≤ n) : (Qbl xs n i).length = n := by unfold Qbl; rw [List.length_append, List.length_take, List.length_replicate]; omega
theorem QbC (xs : List Int) (n : Nat) : List.replicate n 0 = Qbl xs n 0 := by unfold Qbl; rw [List.take_zero, Nat.sub_zero]; rfl
theorem Qb2 (xs : List Int) (n : Nat) (h : xs.length = n) : Qbl xs n n = xs := by unfold Qbl; rw [Nat.sub_self, List.replicate_zero, List.append_nil, List.take_of_length_le (by omega)]
theorem QbD (xs : List Int) (n i : Nat) (h : xs.length = n) (hi : i < n) : (Qbl xs n i).set i (nth xs i) = Qbl xs n (i + 1) := by
  have hl : (xs.take i).length = i := by rw [List.length_take]; omega
  unfold Qbl
  rw [List.set_append_right _ _ (by omega), hl, Nat.sub_self, show n - i = (n - (i + 1)) + 1 by omega, List.replicate_succ, List.set_cons_zero]
  have e : xs.take (i + 1) = xs.take i ++ [nth xs i] := by
    rw [List.take_add_one, List.getElem?_eq_getElem (by omega)]
    simp [nth, show i < xs.length by omega]
  rw [e, List.append_assoc]
  rfl
def Qb6 (x s : List Wd) : List Int := (List.range 64).map fun n => wv ((wget x (n / 4) + wget s (n / 4)) >>> (8 * (n % 4))) % 256
theorem QdR (x s : List Wd) : (Qb6 x s).length = 64 := by unfold Qb6; rw [List.length_map, List.length_range]
theorem Qiv (x s : List Wd) (i j : Nat) (hi : i < 16) (hj : j < 4) : IntKind.u8.wrap (wv ((wget x i + wget s i) >>> (8 * j))) = nth (Qb6 x s) (4 * i + j) := by
  have h1 : (4 * i + j) / 4 = i := by omega
  have h2 : (4 * i + j) % 4 = j := by omega
  have h3 : ∀ z : Int, IntKind.u8.wrap z = z % 2 ^ 8 := fun _ => rfl
  unfold nth Qb6
  rw [h3, List.getD_eq_getElem?_getD, List.getElem?_map, List.getElem?_range (by omega), Option.map_some, Option.getD_some, h1, h2]
  rfl
def QaT (ws : List Wd) (number : Int) : List Int := Qb6 (rounds (ws.set 12 (BitVec.ofInt 32 number)) 10) (ws.set 12 (BitVec.ofInt 32 number))
set_option maxRecDepth 100000 in
set_option maxHeartbeats 4000000 in
theorem QgS (ws : List Wd) (number : Int) (tq : TypeId) (w : World) (hq : w.heap[3]? = some (.cells (ints .i64 [0, 4, 8, 12, 1, 5, 9, 13, 2, 6, 10, 14, 3, 7, 11, 15, 0, 5, 10, 15, 1, 6, 11, 12, 2, 7, 8, 13, 3, 4, 9, 14]) tq)) (hw : ws.length = 16) : Calls Tryd.prog 141 #[.agg (ints .u32 (ws.map wv)), .int .i64 number] w (Ret w (.agg (ints .u8 (QaT ws number)))) := by
 refine enter 84 [(0, .agg (ints .u32 (ws.map wv))), (1, .int .i64 number)] Tryd.func141 rfl rfl kj rfl ?_
 refine wp_seq_k fun K2 hK2 => ?_
 refine Qab ?_
 refine Qas (ints .u32 (ws.map wv)) 199 2 rfl kj kj fun g3 W1 l3 e1 r3_1 => ?_
 have x1 : Ext w W1 := Ext.tr (Rely.Ext.refl w) e1
 have b3 : w.heap.size ≤ g3 := Nat.le_trans (Rely.Ext.refl w).size l3
 refine Qas (ints .u8 (List.replicate 64 0)) 164 4 rfl kj kj fun g4 W2 l4 e2 r4_2 => ?_
 have x2 : Ext w W2 := Ext.tr x1 e2
 have b4 : w.heap.size ≤ g4 := Nat.le_trans x1.size l4
 refine Qac ?_
 refine hK2 _ _ ?_
 refine wp_seq_k fun K5 hK5 => ?_
 refine Qab ?_
 refine Qaa (.int .i64 number) 12 rfl kj kj ?_
 refine Qaa (.int .u32 (wv (BitVec.ofInt 32 number))) 13 rfl kj (Qah (u := .int .u32 (IntKind.u32.wrap (number))) kj (congrArg (Value.int .u32) (by rw [Go.Proofs.YtoiendjhplbjjaaDoor.Sha.wrap32, QeS]))) ?_
 refine Qaa (.pointer (some ⟨g3, 12, none⟩)) 14 rfl kj kj ?_
 have r3_2 := (Qad r3_1 e2)
 refine Qaj g3 _ (ints .u32 ((ws.map wv).set 12 (wv (BitVec.ofInt 32 number)))) 199 r3_2 rfl kj (Qak 162 _ _ g3 12 199 _ _ r3_2 rfl kj kj kj (Nat.lt_of_lt_of_eq (show 12 < 16 by decide) (Qa4 hw).symm)) fun W3 p3 r3_3 => ?_
 have x3 : Ext w W3 := Puts.ext p3 x2 b3
 obtain ⟨s, es⟩ : ∃ z : List Wd, z = ws.set 12 (BitVec.ofInt 32 number) := ⟨_, rfl⟩
 have hs : s.length = 16 := by rw [es, List.length_set, hw]
 have r3_3_6 : W3.heap[g3]? = some (.cells (ints .u32 (s.map wv)) 199) := QaD r3_3 (by rw [es, List.map_set])
 refine Qac ?_
 refine hK5 _ _ ?_
 refine wp_seq_k fun K7 hK7 => ?_
 refine Qab ?_
 refine Qaa (.agg (ints .u32 (s.map wv))) 15 rfl kj (Qar 199 _ g3 199 _ _ r3_3_6 rfl kj kj (isz (n := 16) kj ((Qaf _ _).trans (Qa4 hs)))) ?_
 refine Qas (ints .u32 ([0, 0, 0, 0, 0, 0, 0, 0, 0, 0, 0, 0, 0, 0, 0, 0])) 199 5 rfl kj kj fun g8 W4 l8 e4 r8_4 => ?_
 have x4 : Ext w W4 := Ext.tr x3 e4
 have b8 : w.heap.size ≤ g8 := Nat.le_trans x3.size l8
 refine Qaj g8 _ (ints .u32 (s.map wv)) 199 r8_4 rfl kj (Qaq 199 _ _ g8 199 _ _ r8_4 rfl kj kj (isz (n := 16) kj ((Qaf _ _).trans (Qa4 hs))) (eqsz (n := 16) kj ((Qaf _ _).trans (Qa4 hs))) (Qa7 _ _)) fun W5 p5 r8_5 => ?_
 have x5 : Ext w W5 := Puts.ext p5 x4 b8
 refine Qac ?_
 refine hK7 _ _ ?_
 refine wp_seq_k fun K9 hK9 => ?_
 refine wp_seq_k fun K10 hK10 => ?_
 refine Qab ?_
 refine Qaa (.int .i64 0) 16 rfl kj kj ?_
 refine Qac ?_
 refine hK10 _ _ ?_
 refine wp_block ?_
 refine Qbb (fun (s1 : Nat) => [(2, .pointer (some ⟨g3, 0, none⟩)), (4, .pointer (some ⟨g4, 0, none⟩)), (5, .pointer (some ⟨g8, 0, none⟩)), (16, .int .i64 ((s1 : Nat) : Int))]) (fun (s1 : Nat) W => (s1 ≤ 10) ∧ (W.heap[g8]? = some (.cells (ints .u32 ((rounds s s1).map wv)) 199)) ∧ (Qax [g8] W5 W) ∧ (Ext w W)) (fun (s1 : Nat) => 10 - s1) 0 ⟨rfl, rfl, rfl, rfl, trivial⟩ ⟨(Nat.zero_le _), (QaD r8_5 rfl), (Qax.refl [g8] W5), x5⟩ fun s1 X1 V1 hI1 => ?_
 obtain ⟨i, hs1⟩ : ∃ z, z = s1 := ⟨_, rfl⟩
 subst hs1
 obtain ⟨hi, q8_1, kk1, xx1⟩ := hI1
 replace hi : i ≤ 10 := hi
 replace q8_1 : V1.heap[g8]? = some (.cells (ints .u32 ((rounds s i).map wv)) 199) := q8_1
 replace kk1 : Qax [g8] W5 V1 := kk1
 replace xx1 : Ext w V1 := xx1
 have q6 := kk1
 refine wp_seq_k fun K11 hK11 => ?_
 refine Qab ?_
 refine Qaa (.bool (decide (((i : Nat) : Int) < 10))) 17 rfl kj kj ?_
 refine Qac ?_
 refine hK11 _ _ ?_
 refine wp_seq_k fun K12 hK12 => ?_
 refine QaM (t := decide (((i : Nat) : Int) < 10)) kj (fun c13 => ?_) (fun c13 => ?_)
 ·skip
  have hlt17 : i < 10 := by have := of_decide_eq_true c13; omega
  refine wp_skip ?_
  refine hK12 _ _ ?_
  refine wp_seq_k fun K14 hK14 => ?_
  refine wp_block ?_
  refine wp_seq_k fun K15 hK15 => ?_
  refine Qab ?_
  have r1_1 := (Qad hq e1)
  have r1_2 := (Qad r1_1 e2)
  have r1_3 := (Puts.row p3 r1_2 (Qag hq l3))
  have r1_4 := (Qad r1_3 e4)
  have r1_5 := (Puts.row p5 r1_4 (Qag r1_3 l8))
  have r1_6 := (Qax.row q6 r1_5 (Qbi (Qag r1_3 l8) QbJ))
  refine Qaa (.agg (ints .i64 ([0, 4, 8, 12, 1, 5, 9, 13, 2, 6, 10, 14, 3, 7, 11, 15, 0, 5, 10, 15, 1, 6, 11, 12, 2, 7, 8, 13, 3, 4, 9, 14]))) 18 rfl kj (Qar 217 _ 3 tq _ _ r1_6 rfl kj kj (isz (n := 32) kj kj)) ?_
  refine Qaa (.int .i64 0) 19 rfl kj kj ?_
  refine Qac ?_
  refine hK15 _ _ ?_
  refine wp_block ?_
  obtain ⟨x0, ex0⟩ : ∃ z : List Wd, z = rounds s i := ⟨_, rfl⟩
  have h0 : x0.length = 16 := by rw [ex0, Qde, hs]
  have r8_6_16 : V1.heap[g8]? = some (.cells (ints .u32 (x0.map wv)) 199) := QaD q8_1 (by rw [ex0])
  refine wp_loop_rounds 9 ?_
  show Code.wp _ _ (Exit.then (Code.rounds _ _ _ 8) _) _ _
  refine wp_seq_k fun K17 hK17 => ?_
  refine Qab ?_
  refine Qaa (.bool true) 20 rfl kj kj ?_
  refine Qac ?_
  refine hK17 _ _ ?_
  refine wp_seq_k fun K18 hK18 => ?_
  refine cond_true kj ?_
  refine wp_skip ?_
  refine hK18 _ _ ?_
  refine wp_seq_k fun K19 hK19 => ?_
  refine wp_block ?_
  refine wp_seq_k fun K20 hK20 => ?_
  refine Qab ?_
  refine Qaa (.agg (ints .i64 ([0, 4, 8, 12]))) 21 rfl kj kj ?_
  refine Qas ((Array.replicate 4 (.int .i64 0))) 216 7 rfl kj kj fun g21 W7 l21 e7 r21_7 => ?_
  have x7 : Ext w W7 := Ext.tr xx1 e7
  have b21 : w.heap.size ≤ g21 := Nat.le_trans xx1.size l21
  refine Qaj g21 _ (ints .i64 ([0, 4, 8, 12])) 216 r21_7 rfl kj (Qaq 216 _ _ g21 216 _ _ r21_7 rfl kj kj (isz (n := 4) kj kj) (eqsz (n := 4) kj kj) (Qa7 _ _)) fun W8 p8 r21_8 => ?_
  have x8 : Ext w W8 := Puts.ext p8 x7 b21
  refine Qac ?_
  refine hK20 _ _ ?_
  refine QaZ (fun W => W.heap[g21]? = some (.cells (ints .i64 ([0, 4, 8, 12])) 216)) [⟨none, [(7, none)]⟩, ⟨none, [(23, some 0)]⟩, ⟨none, [(7, none)]⟩, ⟨none, [(25, some 2)]⟩, ⟨none, [(7, none)]⟩, ⟨none, [(27, some 4)]⟩, ⟨none, [(7, none)]⟩, ⟨none, [(29, some 6)]⟩, ⟨none, [(7, none)]⟩, ⟨none, [(31, some 8)]⟩, ⟨none, [(5, none), (32, some 9)]⟩, ⟨none, [(33, some 10)]⟩, ⟨none, [(7, none)]⟩, ⟨none, [(35, some 12)]⟩, ⟨none, [(5, none), (36, some 13)]⟩, ⟨none, [(37, some 14)]⟩, ⟨none, [(7, none)]⟩, ⟨none, [(39, some 16)]⟩, ⟨none, [(5, none), (40, some 17)]⟩, ⟨none, [(41, some 18)]⟩, ⟨none, [(7, none)]⟩, ⟨none, [(43, some 20)]⟩, ⟨none, [(5, none), (44, some 21)]⟩, ⟨none, [(45, some 22)]⟩, ⟨none, [(34, some 11), (38, some 15), (42, some 19), (46, some 23)]⟩, ⟨none, [(47, some 24)]⟩, ⟨none, [(22, some 25)]⟩, ⟨none, [(22, some 25)]⟩, ⟨none, [(22, some 25)]⟩, ⟨none, [(22, some 25)]⟩, ⟨none, [(5, none), (24, some 1)]⟩, ⟨none, [(52, some 30), (48, some 26)]⟩, ⟨none, [(5, none), (26, some 3)]⟩, ⟨none, [(53, some 32), (49, some 27)]⟩, ⟨none, [(5, none), (28, some 5)]⟩, ⟨none, [(54, some 34), (50, some 28)]⟩, ⟨none, [(5, none), (30, some 7)]⟩, ⟨none, [(55, some 36), (51, some 29)]⟩] [] [2, 3, 4, 5, 6, 7, 27, 28, 29, 32, 34, 36] kj kj kj (fun W hR => Qad r21_8 hR) fun F hF => ?_
  refine Qap (.pointer (some ⟨g21, 0, none⟩)) kj kj rfl (fun W => by kernel_rfl) ?_
  refine Qa2 (.int .i64 0) kj kj kj rfl (fun W hR => (Qae 3 _ g21 0 216 _ (.int .i64 0) _ (Qad (Qad r21_8 (Qai _)) hR) rfl kj kj kj)) ?_
  refine Qap (.pointer (some ⟨g21, 1, none⟩)) kj kj rfl (fun W => by kernel_rfl) ?_
  refine QaX (.int .i64 4) kj kj kj rfl (fun W hW => (Qae 3 _ g21 1 216 _ (.int .i64 4) _ hW rfl kj kj kj)) ?_
  refine Qap (.pointer (some ⟨g21, 2, none⟩)) kj kj rfl (fun W => by kernel_rfl) ?_
  refine QaX (.int .i64 8) kj kj kj rfl (fun W hW => (Qae 3 _ g21 2 216 _ (.int .i64 8) _ hW rfl kj kj kj)) ?_
  refine Qap (.pointer (some ⟨g21, 3, none⟩)) kj kj rfl (fun W => by kernel_rfl) ?_
  refine QaX (.int .i64 12) kj kj kj rfl (fun W hW => (Qae 3 _ g21 3 216 _ (.int .i64 12) _ hW rfl kj kj kj)) ?_
  refine Qap (.pointer (some ⟨g21, 0, none⟩)) kj kj rfl (fun W => by kernel_rfl) ?_
  refine Qa2 (.int .i64 0) kj kj kj rfl (fun W hR => (Qae 3 _ g21 0 216 _ (.int .i64 0) _ (Qad (Qad r21_8 (Qai _)) hR) rfl kj kj kj)) ?_
  refine Qap (.pointer (some ⟨g8, 0, none⟩)) kj kj rfl (fun W => by kernel_rfl) ?_
  have r8_7 := (Qad r8_6_16 e7)
  have r8_8 := (Puts.row p8 r8_7 (Qag r8_6_16 l21))
  refine Qa2 (.int .u32 (wv (wget x0 0))) kj kj kj rfl (fun W hR => (Qae 162 _ g8 0 199 _ (.int .u32 (wv (wget x0 0))) _ (Qad (Qad r8_8 (Qai _)) hR) rfl kj ((Qay _ _ _ (Nat.lt_of_lt_of_eq (by decide) (Qa4 h0).symm)).trans (congrArg (fun z => some (Value.int .u32 z)) (QaK x0 0))) kj)) ?_
  refine Qap (.pointer (some ⟨g21, 1, none⟩)) kj kj rfl (fun W => by kernel_rfl) ?_
  refine Qa2 (.int .i64 4) kj kj kj rfl (fun W hR => (Qae 3 _ g21 1 216 _ (.int .i64 4) _ (Qad (Qad r21_8 (Qai _)) hR) rfl kj kj kj)) ?_
  refine Qap (.pointer (some ⟨g8, 4, none⟩)) kj kj rfl (fun W => by kernel_rfl) ?_
  refine Qa2 (.int .u32 (wv (wget x0 4))) kj kj kj rfl (fun W hR => (Qae 162 _ g8 4 199 _ (.int .u32 (wv (wget x0 4))) _ (Qad (Qad r8_8 (Qai _)) hR) rfl kj ((Qay _ _ _ (Nat.lt_of_lt_of_eq (by decide) (Qa4 h0).symm)).trans (congrArg (fun z => some (Value.int .u32 z)) (QaK x0 4))) kj)) ?_
  refine Qap (.pointer (some ⟨g21, 2, none⟩)) kj kj rfl (fun W => by kernel_rfl) ?_
  refine Qa2 (.int .i64 8) kj kj kj rfl (fun W hR => (Qae 3 _ g21 2 216 _ (.int .i64 8) _ (Qad (Qad r21_8 (Qai _)) hR) rfl kj kj kj)) ?_
  refine Qap (.pointer (some ⟨g8, 8, none⟩)) kj kj rfl (fun W => by kernel_rfl) ?_
  refine Qa2 (.int .u32 (wv (wget x0 8))) kj kj kj rfl (fun W hR => (Qae 162 _ g8 8 199 _ (.int .u32 (wv (wget x0 8))) _ (Qad (Qad r8_8 (Qai _)) hR) rfl kj ((Qay _ _ _ (Nat.lt_of_lt_of_eq (by decide) (Qa4 h0).symm)).trans (congrArg (fun z => some (Value.int .u32 z)) (QaK x0 8))) kj)) ?_
  refine Qap (.pointer (some ⟨g21, 3, none⟩)) kj kj rfl (fun W => by kernel_rfl) ?_
  refine Qa2 (.int .i64 12) kj kj kj rfl (fun W hR => (Qae 3 _ g21 3 216 _ (.int .i64 12) _ (Qad (Qad r21_8 (Qai _)) hR) rfl kj kj kj)) ?_
  refine Qap (.pointer (some ⟨g8, 12, none⟩)) kj kj rfl (fun W => by kernel_rfl) ?_
  refine Qa2 (.int .u32 (wv (wget x0 12))) kj kj kj rfl (fun W hR => (Qae 162 _ g8 12 199 _ (.int .u32 (wv (wget x0 12))) _ (Qad (Qad r8_8 (Qai _)) hR) rfl kj ((Qay _ _ _ (Nat.lt_of_lt_of_eq (by decide) (Qa4 h0).symm)).trans (congrArg (fun z => some (Value.int .u32 z)) (QaK x0 12))) kj)) ?_
  refine Qdk (.tuple #[.int .u32 (wv (qA2 (wget x0 0) (wget x0 4) (wget x0 8) (wget x0 12))), .int .u32 (wv (qB2 (wget x0 0) (wget x0 4) (wget x0 8) (wget x0 12))), .int .u32 (wv (qC2 (wget x0 0) (wget x0 4) (wget x0 8) (wget x0 12))), .int .u32 (wv (qD2 (wget x0 0) (wget x0 4) (wget x0 8) (wget x0 12)))]) 156 #[.int .u32 (wv (wget x0 0)), .int .u32 (wv (wget x0 4)), .int .u32 (wv (wget x0 8)), .int .u32 (wv (wget x0 12))] kj kj kj rfl (fun W => by kernel_rfl) (fun W hR => (QbW (wget x0 0) (wget x0 4) (wget x0 8) (wget x0 12)) W) ?_
  refine Qap (.tuple #[.int .u32 (wv (qA2 (wget x0 0) (wget x0 4) (wget x0 8) (wget x0 12))), .int .u32 (wv (qB2 (wget x0 0) (wget x0 4) (wget x0 8) (wget x0 12))), .int .u32 (wv (qC2 (wget x0 0) (wget x0 4) (wget x0 8) (wget x0 12))), .int .u32 (wv (qD2 (wget x0 0) (wget x0 4) (wget x0 8) (wget x0 12)))]) kj kj rfl (fun W => by kernel_rfl) ?_
  refine Qap (.int .u32 (wv (qA2 (wget x0 0) (wget x0 4) (wget x0 8) (wget x0 12)))) kj kj rfl (fun W => by kernel_rfl) ?_
  refine Qap (.int .u32 (wv (qB2 (wget x0 0) (wget x0 4) (wget x0 8) (wget x0 12)))) kj kj rfl (fun W => by kernel_rfl) ?_
  refine Qap (.int .u32 (wv (qC2 (wget x0 0) (wget x0 4) (wget x0 8) (wget x0 12)))) kj kj rfl (fun W => by kernel_rfl) ?_
  refine Qap (.int .u32 (wv (qD2 (wget x0 0) (wget x0 4) (wget x0 8) (wget x0 12)))) kj kj rfl (fun W => by kernel_rfl) ?_
  refine Qap (.pointer (some ⟨g8, 0, none⟩)) kj kj rfl (fun W => by kernel_rfl) ?_
  refine QaJ rfl ?_
  refine Qap (.pointer (some ⟨g8, 4, none⟩)) kj kj rfl (fun W => by kernel_rfl) ?_
  refine QaJ rfl ?_
  refine Qap (.pointer (some ⟨g8, 8, none⟩)) kj kj rfl (fun W => by kernel_rfl) ?_
  refine QaJ rfl ?_
  refine Qap (.pointer (some ⟨g8, 12, none⟩)) kj kj rfl (fun W => by kernel_rfl) ?_
  refine QaJ rfl ?_
  refine Qd7 (hF _ kj fun W9 e9 => ?_)
  simp only [List.nil_append, List.cons_append, fins, up]
  clear hF
  have x9 : Ext w W9 := Ext.tr x8 e9
  have r8_9 := (Qad r8_8 e9)
  have r21_9 := (Qad r21_8 e9)
  refine Qa9 _ g8 _ (ints .u32 ((x0.map wv).set 0 (wv (qA2 (wget x0 0) (wget x0 4) (wget x0 8) (wget x0 12))))) 199 r8_9 rfl (Qak 162 _ _ g8 0 199 _ _ r8_9 rfl kj kj kj (Nat.lt_of_lt_of_eq (show 0 < 16 by decide) (Qa4 h0).symm)) (fun W hp => Puts.row hp r21_9 (Qal r8_6_16 l21)) fun W10 p10 r8_10 => ?_
  have x10 : Ext w W10 := Puts.ext p10 x9 b8
  have r21_10 := (Puts.row p10 r21_9 (Qal r8_6_16 l21))
  refine Qa9 _ g8 _ (ints .u32 (((x0.map wv).set 0 (wv (qA2 (wget x0 0) (wget x0 4) (wget x0 8) (wget x0 12)))).set 4 (wv (qB2 (wget x0 0) (wget x0 4) (wget x0 8) (wget x0 12))))) 199 r8_10 rfl (Qak 162 _ _ g8 4 199 _ _ r8_10 rfl kj kj kj (Nat.lt_of_lt_of_eq (show 4 < 16 by decide) ((List.length_set ..).trans (Qa4 h0)).symm)) (fun W hp => Puts.row hp r21_10 (Qal r8_6_16 l21)) fun W11 p11 r8_11 => ?_
  have x11 : Ext w W11 := Puts.ext p11 x10 b8
  have r21_11 := (Puts.row p11 r21_10 (Qal r8_6_16 l21))
  refine Qa9 _ g8 _ (ints .u32 ((((x0.map wv).set 0 (wv (qA2 (wget x0 0) (wget x0 4) (wget x0 8) (wget x0 12)))).set 4 (wv (qB2 (wget x0 0) (wget x0 4) (wget x0 8) (wget x0 12)))).set 8 (wv (qC2 (wget x0 0) (wget x0 4) (wget x0 8) (wget x0 12))))) 199 r8_11 rfl (Qak 162 _ _ g8 8 199 _ _ r8_11 rfl kj kj kj (Nat.lt_of_lt_of_eq (show 8 < 16 by decide) ((List.length_set ..).trans ((List.length_set ..).trans (Qa4 h0))).symm)) (fun W hp => Puts.row hp r21_11 (Qal r8_6_16 l21)) fun W12 p12 r8_12 => ?_
  have x12 : Ext w W12 := Puts.ext p12 x11 b8
  have r21_12 := (Puts.row p12 r21_11 (Qal r8_6_16 l21))
  refine Qa9 _ g8 _ (ints .u32 (((((x0.map wv).set 0 (wv (qA2 (wget x0 0) (wget x0 4) (wget x0 8) (wget x0 12)))).set 4 (wv (qB2 (wget x0 0) (wget x0 4) (wget x0 8) (wget x0 12)))).set 8 (wv (qC2 (wget x0 0) (wget x0 4) (wget x0 8) (wget x0 12)))).set 12 (wv (qD2 (wget x0 0) (wget x0 4) (wget x0 8) (wget x0 12))))) 199 r8_12 rfl (Qak 162 _ _ g8 12 199 _ _ r8_12 rfl kj kj kj (Nat.lt_of_lt_of_eq (show 12 < 16 by decide) ((List.length_set ..).trans ((List.length_set ..).trans ((List.length_set ..).trans (Qa4 h0)))).symm)) (fun W hp => Puts.row hp r21_12 (Qal r8_6_16 l21)) fun W13 p13 r8_13 => ?_
  have x13 : Ext w W13 := Puts.ext p13 x12 b8
  refine Qcw ?_
  obtain ⟨x1, ex1⟩ : ∃ z : List Wd, z = qrt x0 0 4 8 12 := ⟨_, rfl⟩
  have h1 : x1.length = 16 := by rw [ex1, Qcp, h0]
  have r8_13_22 : W13.heap[g8]? = some (.cells (ints .u32 (x1.map wv)) 199) := QaD r8_13 (by rw [ex1]; unfold qrt; simp only [List.map_set])
  refine hK19 _ _ ?_
  refine Qab ?_
  refine Qaa (.int .i64 1) 56 rfl kj kj ?_
  refine Qaa (.int .i64 1) 19 rfl kj kj ?_
  refine Qac ?_
  show Code.rounds _ _ _ 8 _ _
  show Code.wp _ _ (Exit.then (Code.rounds _ _ _ 7) _) _ _
  refine wp_seq_k fun K23 hK23 => ?_
  refine Qab ?_
  refine Qaa (.bool true) 20 rfl kj kj ?_
  refine Qac ?_
  refine hK23 _ _ ?_
  refine wp_seq_k fun K24 hK24 => ?_
  refine cond_true kj ?_
  refine wp_skip ?_
  refine hK24 _ _ ?_
  refine wp_seq_k fun K25 hK25 => ?_
  refine wp_block ?_
  refine wp_seq_k fun K26 hK26 => ?_
  refine Qab ?_
  refine Qaa (.agg (ints .i64 ([1, 5, 9, 13]))) 21 rfl kj kj ?_
  refine Qas ((Array.replicate 4 (.int .i64 0))) 216 7 rfl kj kj fun g27 W14 l27 e14 r27_14 => ?_
  have x14 : Ext w W14 := Ext.tr x13 e14
  have b27 : w.heap.size ≤ g27 := Nat.le_trans x13.size l27
  refine Qaj g27 _ (ints .i64 ([1, 5, 9, 13])) 216 r27_14 rfl kj (Qaq 216 _ _ g27 216 _ _ r27_14 rfl kj kj (isz (n := 4) kj kj) (eqsz (n := 4) kj kj) (Qa7 _ _)) fun W15 p15 r27_15 => ?_
  have x15 : Ext w W15 := Puts.ext p15 x14 b27
  refine Qac ?_
  refine hK26 _ _ ?_
  refine QaZ (fun W => W.heap[g27]? = some (.cells (ints .i64 ([1, 5, 9, 13])) 216)) [⟨none, [(7, none)]⟩, ⟨none, [(23, some 0)]⟩, ⟨none, [(7, none)]⟩, ⟨none, [(25, some 2)]⟩, ⟨none, [(7, none)]⟩, ⟨none, [(27, some 4)]⟩, ⟨none, [(7, none)]⟩, ⟨none, [(29, some 6)]⟩, ⟨none, [(7, none)]⟩, ⟨none, [(31, some 8)]⟩, ⟨none, [(5, none), (32, some 9)]⟩, ⟨none, [(33, some 10)]⟩, ⟨none, [(7, none)]⟩, ⟨none, [(35, some 12)]⟩, ⟨none, [(5, none), (36, some 13)]⟩, ⟨none, [(37, some 14)]⟩, ⟨none, [(7, none)]⟩, ⟨none, [(39, some 16)]⟩, ⟨none, [(5, none), (40, some 17)]⟩, ⟨none, [(41, some 18)]⟩, ⟨none, [(7, none)]⟩, ⟨none, [(43, some 20)]⟩, ⟨none, [(5, none), (44, some 21)]⟩, ⟨none, [(45, some 22)]⟩, ⟨none, [(34, some 11), (38, some 15), (42, some 19), (46, some 23)]⟩, ⟨none, [(47, some 24)]⟩, ⟨none, [(22, some 25)]⟩, ⟨none, [(22, some 25)]⟩, ⟨none, [(22, some 25)]⟩, ⟨none, [(22, some 25)]⟩, ⟨none, [(5, none), (24, some 1)]⟩, ⟨none, [(52, some 30), (48, some 26)]⟩, ⟨none, [(5, none), (26, some 3)]⟩, ⟨none, [(53, some 32), (49, some 27)]⟩, ⟨none, [(5, none), (28, some 5)]⟩, ⟨none, [(54, some 34), (50, some 28)]⟩, ⟨none, [(5, none), (30, some 7)]⟩, ⟨none, [(55, some 36), (51, some 29)]⟩] [] [2, 3, 4, 5, 6, 7, 27, 28, 29, 32, 34, 36] kj kj kj (fun W hR => Qad r27_15 hR) fun F hF => ?_
  refine Qap (.pointer (some ⟨g27, 0, none⟩)) kj kj rfl (fun W => by kernel_rfl) ?_
  refine Qa2 (.int .i64 1) kj kj kj rfl (fun W hR => (Qae 3 _ g27 0 216 _ (.int .i64 1) _ (Qad (Qad r27_15 (Qai _)) hR) rfl kj kj kj)) ?_
  refine Qap (.pointer (some ⟨g27, 1, none⟩)) kj kj rfl (fun W => by kernel_rfl) ?_
  refine QaX (.int .i64 5) kj kj kj rfl (fun W hW => (Qae 3 _ g27 1 216 _ (.int .i64 5) _ hW rfl kj kj kj)) ?_
  refine Qap (.pointer (some ⟨g27, 2, none⟩)) kj kj rfl (fun W => by kernel_rfl) ?_
  refine QaX (.int .i64 9) kj kj kj rfl (fun W hW => (Qae 3 _ g27 2 216 _ (.int .i64 9) _ hW rfl kj kj kj)) ?_
  refine Qap (.pointer (some ⟨g27, 3, none⟩)) kj kj rfl (fun W => by kernel_rfl) ?_
  refine QaX (.int .i64 13) kj kj kj rfl (fun W hW => (Qae 3 _ g27 3 216 _ (.int .i64 13) _ hW rfl kj kj kj)) ?_
  refine Qap (.pointer (some ⟨g27, 0, none⟩)) kj kj rfl (fun W => by kernel_rfl) ?_
  refine Qa2 (.int .i64 1) kj kj kj rfl (fun W hR => (Qae 3 _ g27 0 216 _ (.int .i64 1) _ (Qad (Qad r27_15 (Qai _)) hR) rfl kj kj kj)) ?_
  refine Qap (.pointer (some ⟨g8, 1, none⟩)) kj kj rfl (fun W => by kernel_rfl) ?_
  have r8_14 := (Qad r8_13_22 e14)
  have r8_15 := (Puts.row p15 r8_14 (Qag r8_13_22 l27))
  refine Qa2 (.int .u32 (wv (wget x1 1))) kj kj kj rfl (fun W hR => (Qae 162 _ g8 1 199 _ (.int .u32 (wv (wget x1 1))) _ (Qad (Qad r8_15 (Qai _)) hR) rfl kj ((Qay _ _ _ (Nat.lt_of_lt_of_eq (by decide) (Qa4 h1).symm)).trans (congrArg (fun z => some (Value.int .u32 z)) (QaK x1 1))) kj)) ?_
  refine Qap (.pointer (some ⟨g27, 1, none⟩)) kj kj rfl (fun W => by kernel_rfl) ?_
  refine Qa2 (.int .i64 5) kj kj kj rfl (fun W hR => (Qae 3 _ g27 1 216 _ (.int .i64 5) _ (Qad (Qad r27_15 (Qai _)) hR) rfl kj kj kj)) ?_
  refine Qap (.pointer (some ⟨g8, 5, none⟩)) kj kj rfl (fun W => by kernel_rfl) ?_
  refine Qa2 (.int .u32 (wv (wget x1 5))) kj kj kj rfl (fun W hR => (Qae 162 _ g8 5 199 _ (.int .u32 (wv (wget x1 5))) _ (Qad (Qad r8_15 (Qai _)) hR) rfl kj ((Qay _ _ _ (Nat.lt_of_lt_of_eq (by decide) (Qa4 h1).symm)).trans (congrArg (fun z => some (Value.int .u32 z)) (QaK x1 5))) kj)) ?_
  refine Qap (.pointer (some ⟨g27, 2, none⟩)) kj kj rfl (fun W => by kernel_rfl) ?_
  refine Qa2 (.int .i64 9) kj kj kj rfl (fun W hR => (Qae 3 _ g27 2 216 _ (.int .i64 9) _ (Qad (Qad r27_15 (Qai _)) hR) rfl kj kj kj)) ?_
  refine Qap (.pointer (some ⟨g8, 9, none⟩)) kj kj rfl (fun W => by kernel_rfl) ?_
  refine Qa2 (.int .u32 (wv (wget x1 9))) kj kj kj rfl (fun W hR => (Qae 162 _ g8 9 199 _ (.int .u32 (wv (wget x1 9))) _ (Qad (Qad r8_15 (Qai _)) hR) rfl kj ((Qay _ _ _ (Nat.lt_of_lt_of_eq (by decide) (Qa4 h1).symm)).trans (congrArg (fun z => some (Value.int .u32 z)) (QaK x1 9))) kj)) ?_
  refine Qap (.pointer (some ⟨g27, 3, none⟩)) kj kj rfl (fun W => by kernel_rfl) ?_
  refine Qa2 (.int .i64 13) kj kj kj rfl (fun W hR => (Qae 3 _ g27 3 216 _ (.int .i64 13) _ (Qad (Qad r27_15 (Qai _)) hR) rfl kj kj kj)) ?_
  refine Qap (.pointer (some ⟨g8, 13, none⟩)) kj kj rfl (fun W => by kernel_rfl) ?_
  refine Qa2 (.int .u32 (wv (wget x1 13))) kj kj kj rfl (fun W hR => (Qae 162 _ g8 13 199 _ (.int .u32 (wv (wget x1 13))) _ (Qad (Qad r8_15 (Qai _)) hR) rfl kj ((Qay _ _ _ (Nat.lt_of_lt_of_eq (by decide) (Qa4 h1).symm)).trans (congrArg (fun z => some (Value.int .u32 z)) (QaK x1 13))) kj)) ?_
  refine Qdk (.tuple #[.int .u32 (wv (qA2 (wget x1 1) (wget x1 5) (wget x1 9) (wget x1 13))), .int .u32 (wv (qB2 (wget x1 1) (wget x1 5) (wget x1 9) (wget x1 13))), .int .u32 (wv (qC2 (wget x1 1) (wget x1 5) (wget x1 9) (wget x1 13))), .int .u32 (wv (qD2 (wget x1 1) (wget x1 5) (wget x1 9) (wget x1 13)))]) 156 #[.int .u32 (wv (wget x1 1)), .int .u32 (wv (wget x1 5)), .int .u32 (wv (wget x1 9)), .int .u32 (wv (wget x1 13))] kj kj kj rfl (fun W => by kernel_rfl) (fun W hR => (QbW (wget x1 1) (wget x1 5) (wget x1 9) (wget x1 13)) W) ?_
  refine Qap (.tuple #[.int .u32 (wv (qA2 (wget x1 1) (wget x1 5) (wget x1 9) (wget x1 13))), .int .u32 (wv (qB2 (wget x1 1) (wget x1 5) (wget x1 9) (wget x1 13))), .int .u32 (wv (qC2 (wget x1 1) (wget x1 5) (wget x1 9) (wget x1 13))), .int .u32 (wv (qD2 (wget x1 1) (wget x1 5) (wget x1 9) (wget x1 13)))]) kj kj rfl (fun W => by kernel_rfl) ?_
  refine Qap (.int .u32 (wv (qA2 (wget x1 1) (wget x1 5) (wget x1 9) (wget x1 13)))) kj kj rfl (fun W => by kernel_rfl) ?_
  refine Qap (.int .u32 (wv (qB2 (wget x1 1) (wget x1 5) (wget x1 9) (wget x1 13)))) kj kj rfl (fun W => by kernel_rfl) ?_
  refine Qap (.int .u32 (wv (qC2 (wget x1 1) (wget x1 5) (wget x1 9) (wget x1 13)))) kj kj rfl (fun W => by kernel_rfl) ?_
  refine Qap (.int .u32 (wv (qD2 (wget x1 1) (wget x1 5) (wget x1 9) (wget x1 13)))) kj kj rfl (fun W => by kernel_rfl) ?_
  refine Qap (.pointer (some ⟨g8, 1, none⟩)) kj kj rfl (fun W => by kernel_rfl) ?_
  refine QaJ rfl ?_
  refine Qap (.pointer (some ⟨g8, 5, none⟩)) kj kj rfl (fun W => by kernel_rfl) ?_
  refine QaJ rfl ?_
  refine Qap (.pointer (some ⟨g8, 9, none⟩)) kj kj rfl (fun W => by kernel_rfl) ?_
  refine QaJ rfl ?_
  refine Qap (.pointer (some ⟨g8, 13, none⟩)) kj kj rfl (fun W => by kernel_rfl) ?_
  refine QaJ rfl ?_
  refine Qd7 (hF _ kj fun W16 e16 => ?_)
  simp only [List.nil_append, List.cons_append, fins, up]
  clear hF
  have x16 : Ext w W16 := Ext.tr x15 e16
  have r8_16 := (Qad r8_15 e16)
  have r27_16 := (Qad r27_15 e16)
  refine Qa9 _ g8 _ (ints .u32 ((x1.map wv).set 1 (wv (qA2 (wget x1 1) (wget x1 5) (wget x1 9) (wget x1 13))))) 199 r8_16 rfl (Qak 162 _ _ g8 1 199 _ _ r8_16 rfl kj kj kj (Nat.lt_of_lt_of_eq (show 1 < 16 by decide) (Qa4 h1).symm)) (fun W hp => Puts.row hp r27_16 (Qal r8_13_22 l27)) fun W17 p17 r8_17 => ?_
  have x17 : Ext w W17 := Puts.ext p17 x16 b8
  have r27_17 := (Puts.row p17 r27_16 (Qal r8_13_22 l27))
  refine Qa9 _ g8 _ (ints .u32 (((x1.map wv).set 1 (wv (qA2 (wget x1 1) (wget x1 5) (wget x1 9) (wget x1 13)))).set 5 (wv (qB2 (wget x1 1) (wget x1 5) (wget x1 9) (wget x1 13))))) 199 r8_17 rfl (Qak 162 _ _ g8 5 199 _ _ r8_17 rfl kj kj kj (Nat.lt_of_lt_of_eq (show 5 < 16 by decide) ((List.length_set ..).trans (Qa4 h1)).symm)) (fun W hp => Puts.row hp r27_17 (Qal r8_13_22 l27)) fun W18 p18 r8_18 => ?_
  have x18 : Ext w W18 := Puts.ext p18 x17 b8
  have r27_18 := (Puts.row p18 r27_17 (Qal r8_13_22 l27))
  refine Qa9 _ g8 _ (ints .u32 ((((x1.map wv).set 1 (wv (qA2 (wget x1 1) (wget x1 5) (wget x1 9) (wget x1 13)))).set 5 (wv (qB2 (wget x1 1) (wget x1 5) (wget x1 9) (wget x1 13)))).set 9 (wv (qC2 (wget x1 1) (wget x1 5) (wget x1 9) (wget x1 13))))) 199 r8_18 rfl (Qak 162 _ _ g8 9 199 _ _ r8_18 rfl kj kj kj (Nat.lt_of_lt_of_eq (show 9 < 16 by decide) ((List.length_set ..).trans ((List.length_set ..).trans (Qa4 h1))).symm)) (fun W hp => Puts.row hp r27_18 (Qal r8_13_22 l27)) fun W19 p19 r8_19 => ?_
  have x19 : Ext w W19 := Puts.ext p19 x18 b8
  have r27_19 := (Puts.row p19 r27_18 (Qal r8_13_22 l27))
  refine Qa9 _ g8 _ (ints .u32 (((((x1.map wv).set 1 (wv (qA2 (wget x1 1) (wget x1 5) (wget x1 9) (wget x1 13)))).set 5 (wv (qB2 (wget x1 1) (wget x1 5) (wget x1 9) (wget x1 13)))).set 9 (wv (qC2 (wget x1 1) (wget x1 5) (wget x1 9) (wget x1 13)))).set 13 (wv (qD2 (wget x1 1) (wget x1 5) (wget x1 9) (wget x1 13))))) 199 r8_19 rfl (Qak 162 _ _ g8 13 199 _ _ r8_19 rfl kj kj kj (Nat.lt_of_lt_of_eq (show 13 < 16 by decide) ((List.length_set ..).trans ((List.length_set ..).trans ((List.length_set ..).trans (Qa4 h1)))).symm)) (fun W hp => Puts.row hp r27_19 (Qal r8_13_22 l27)) fun W20 p20 r8_20 => ?_
  have x20 : Ext w W20 := Puts.ext p20 x19 b8
  refine Qcw ?_
  obtain ⟨x2, ex2⟩ : ∃ z : List Wd, z = qrt x1 1 5 9 13 := ⟨_, rfl⟩
  have h2 : x2.length = 16 := by rw [ex2, Qcp, h1]
  have r8_20_28 : W20.heap[g8]? = some (.cells (ints .u32 (x2.map wv)) 199) := QaD r8_20 (by rw [ex2]; unfold qrt; simp only [List.map_set])
  refine hK25 _ _ ?_
  refine Qab ?_
  refine Qaa (.int .i64 2) 56 rfl kj kj ?_
  refine Qaa (.int .i64 2) 19 rfl kj kj ?_
  refine Qac ?_
  show Code.rounds _ _ _ 7 _ _
  show Code.wp _ _ (Exit.then (Code.rounds _ _ _ 6) _) _ _
  refine wp_seq_k fun K29 hK29 => ?_
  refine Qab ?_
  refine Qaa (.bool true) 20 rfl kj kj ?_
  refine Qac ?_
  refine hK29 _ _ ?_
  refine wp_seq_k fun K30 hK30 => ?_
  refine cond_true kj ?_
  refine wp_skip ?_
  refine hK30 _ _ ?_
  refine wp_seq_k fun K31 hK31 => ?_
  refine wp_block ?_
  refine wp_seq_k fun K32 hK32 => ?_
  refine Qab ?_
  refine Qaa (.agg (ints .i64 ([2, 6, 10, 14]))) 21 rfl kj kj ?_
  refine Qas ((Array.replicate 4 (.int .i64 0))) 216 7 rfl kj kj fun g33 W21 l33 e21 r33_21 => ?_
  have x21 : Ext w W21 := Ext.tr x20 e21
  have b33 : w.heap.size ≤ g33 := Nat.le_trans x20.size l33
  refine Qaj g33 _ (ints .i64 ([2, 6, 10, 14])) 216 r33_21 rfl kj (Qaq 216 _ _ g33 216 _ _ r33_21 rfl kj kj (isz (n := 4) kj kj) (eqsz (n := 4) kj kj) (Qa7 _ _)) fun W22 p22 r33_22 => ?_
  have x22 : Ext w W22 := Puts.ext p22 x21 b33
  refine Qac ?_
  refine hK32 _ _ ?_
  refine QaZ (fun W => W.heap[g33]? = some (.cells (ints .i64 ([2, 6, 10, 14])) 216)) [⟨none, [(7, none)]⟩, ⟨none, [(23, some 0)]⟩, ⟨none, [(7, none)]⟩, ⟨none, [(25, some 2)]⟩, ⟨none, [(7, none)]⟩, ⟨none, [(27, some 4)]⟩, ⟨none, [(7, none)]⟩, ⟨none, [(29, some 6)]⟩, ⟨none, [(7, none)]⟩, ⟨none, [(31, some 8)]⟩, ⟨none, [(5, none), (32, some 9)]⟩, ⟨none, [(33, some 10)]⟩, ⟨none, [(7, none)]⟩, ⟨none, [(35, some 12)]⟩, ⟨none, [(5, none), (36, some 13)]⟩, ⟨none, [(37, some 14)]⟩, ⟨none, [(7, none)]⟩, ⟨none, [(39, some 16)]⟩, ⟨none, [(5, none), (40, some 17)]⟩, ⟨none, [(41, some 18)]⟩, ⟨none, [(7, none)]⟩, ⟨none, [(43, some 20)]⟩, ⟨none, [(5, none), (44, some 21)]⟩, ⟨none, [(45, some 22)]⟩, ⟨none, [(34, some 11), (38, some 15), (42, some 19), (46, some 23)]⟩, ⟨none, [(47, some 24)]⟩, ⟨none, [(22, some 25)]⟩, ⟨none, [(22, some 25)]⟩, ⟨none, [(22, some 25)]⟩, ⟨none, [(22, some 25)]⟩, ⟨none, [(5, none), (24, some 1)]⟩, ⟨none, [(52, some 30), (48, some 26)]⟩, ⟨none, [(5, none), (26, some 3)]⟩, ⟨none, [(53, some 32), (49, some 27)]⟩, ⟨none, [(5, none), (28, some 5)]⟩, ⟨none, [(54, some 34), (50, some 28)]⟩, ⟨none, [(5, none), (30, some 7)]⟩, ⟨none, [(55, some 36), (51, some 29)]⟩] [] [2, 3, 4, 5, 6, 7, 27, 28, 29, 32, 34, 36] kj kj kj (fun W hR => Qad r33_22 hR) fun F hF => ?_
  refine Qap (.pointer (some ⟨g33, 0, none⟩)) kj kj rfl (fun W => by kernel_rfl) ?_
  refine Qa2 (.int .i64 2) kj kj kj rfl (fun W hR => (Qae 3 _ g33 0 216 _ (.int .i64 2) _ (Qad (Qad r33_22 (Qai _)) hR) rfl kj kj kj)) ?_
  refine Qap (.pointer (some ⟨g33, 1, none⟩)) kj kj rfl (fun W => by kernel_rfl) ?_
  refine QaX (.int .i64 6) kj kj kj rfl (fun W hW => (Qae 3 _ g33 1 216 _ (.int .i64 6) _ hW rfl kj kj kj)) ?_
  refine Qap (.pointer (some ⟨g33, 2, none⟩)) kj kj rfl (fun W => by kernel_rfl) ?_
  refine QaX (.int .i64 10) kj kj kj rfl (fun W hW => (Qae 3 _ g33 2 216 _ (.int .i64 10) _ hW rfl kj kj kj)) ?_
  refine Qap (.pointer (some ⟨g33, 3, none⟩)) kj kj rfl (fun W => by kernel_rfl) ?_
  refine QaX (.int .i64 14) kj kj kj rfl (fun W hW => (Qae 3 _ g33 3 216 _ (.int .i64 14) _ hW rfl kj kj kj)) ?_
  refine Qap (.pointer (some ⟨g33, 0, none⟩)) kj kj rfl (fun W => by kernel_rfl) ?_
  refine Qa2 (.int .i64 2) kj kj kj rfl (fun W hR => (Qae 3 _ g33 0 216 _ (.int .i64 2) _ (Qad (Qad r33_22 (Qai _)) hR) rfl kj kj kj)) ?_
  refine Qap (.pointer (some ⟨g8, 2, none⟩)) kj kj rfl (fun W => by kernel_rfl) ?_
  have r8_21 := (Qad r8_20_28 e21)
  have r8_22 := (Puts.row p22 r8_21 (Qag r8_20_28 l33))
  refine Qa2 (.int .u32 (wv (wget x2 2))) kj kj kj rfl (fun W hR => (Qae 162 _ g8 2 199 _ (.int .u32 (wv (wget x2 2))) _ (Qad (Qad r8_22 (Qai _)) hR) rfl kj ((Qay _ _ _ (Nat.lt_of_lt_of_eq (by decide) (Qa4 h2).symm)).trans (congrArg (fun z => some (Value.int .u32 z)) (QaK x2 2))) kj)) ?_
  refine Qap (.pointer (some ⟨g33, 1, none⟩)) kj kj rfl (fun W => by kernel_rfl) ?_
  refine Qa2 (.int .i64 6) kj kj kj rfl (fun W hR => (Qae 3 _ g33 1 216 _ (.int .i64 6) _ (Qad (Qad r33_22 (Qai _)) hR) rfl kj kj kj)) ?_
  refine Qap (.pointer (some ⟨g8, 6, none⟩)) kj kj rfl (fun W => by kernel_rfl) ?_
  refine Qa2 (.int .u32 (wv (wget x2 6))) kj kj kj rfl (fun W hR => (Qae 162 _ g8 6 199 _ (.int .u32 (wv (wget x2 6))) _ (Qad (Qad r8_22 (Qai _)) hR) rfl kj ((Qay _ _ _ (Nat.lt_of_lt_of_eq (by decide) (Qa4 h2).symm)).trans (congrArg (fun z => some (Value.int .u32 z)) (QaK x2 6))) kj)) ?_
  refine Qap (.pointer (some ⟨g33, 2, none⟩)) kj kj rfl (fun W => by kernel_rfl) ?_
  refine Qa2 (.int .i64 10) kj kj kj rfl (fun W hR => (Qae 3 _ g33 2 216 _ (.int .i64 10) _ (Qad (Qad r33_22 (Qai _)) hR) rfl kj kj kj)) ?_
  refine Qap (.pointer (some ⟨g8, 10, none⟩)) kj kj rfl (fun W => by kernel_rfl) ?_
  refine Qa2 (.int .u32 (wv (wget x2 10))) kj kj kj rfl (fun W hR => (Qae 162 _ g8 10 199 _ (.int .u32 (wv (wget x2 10))) _ (Qad (Qad r8_22 (Qai _)) hR) rfl kj ((Qay _ _ _ (Nat.lt_of_lt_of_eq (by decide) (Qa4 h2).symm)).trans (congrArg (fun z => some (Value.int .u32 z)) (QaK x2 10))) kj)) ?_
  refine Qap (.pointer (some ⟨g33, 3, none⟩)) kj kj rfl (fun W => by kernel_rfl) ?_
  refine Qa2 (.int .i64 14) kj kj kj rfl (fun W hR => (Qae 3 _ g33 3 216 _ (.int .i64 14) _ (Qad (Qad r33_22 (Qai _)) hR) rfl kj kj kj)) ?_
  refine Qap (.pointer (some ⟨g8, 14, none⟩)) kj kj rfl (fun W => by kernel_rfl) ?_
  refine Qa2 (.int .u32 (wv (wget x2 14))) kj kj kj rfl (fun W hR => (Qae 162 _ g8 14 199 _ (.int .u32 (wv (wget x2 14))) _ (Qad (Qad r8_22 (Qai _)) hR) rfl kj ((Qay _ _ _ (Nat.lt_of_lt_of_eq (by decide) (Qa4 h2).symm)).trans (congrArg (fun z => some (Value.int .u32 z)) (QaK x2 14))) kj)) ?_
  refine Qdk (.tuple #[.int .u32 (wv (qA2 (wget x2 2) (wget x2 6) (wget x2 10) (wget x2 14))), .int .u32 (wv (qB2 (wget x2 2) (wget x2 6) (wget x2 10) (wget x2 14))), .int .u32 (wv (qC2 (wget x2 2) (wget x2 6) (wget x2 10) (wget x2 14))), .int .u32 (wv (qD2 (wget x2 2) (wget x2 6) (wget x2 10) (wget x2 14)))]) 156 #[.int .u32 (wv (wget x2 2)), .int .u32 (wv (wget x2 6)), .int .u32 (wv (wget x2 10)), .int .u32 (wv (wget x2 14))] kj kj kj rfl (fun W => by kernel_rfl) (fun W hR => (QbW (wget x2 2) (wget x2 6) (wget x2 10) (wget x2 14)) W) ?_
  refine Qap (.tuple #[.int .u32 (wv (qA2 (wget x2 2) (wget x2 6) (wget x2 10) (wget x2 14))), .int .u32 (wv (qB2 (wget x2 2) (wget x2 6) (wget x2 10) (wget x2 14))), .int .u32 (wv (qC2 (wget x2 2) (wget x2 6) (wget x2 10) (wget x2 14))), .int .u32 (wv (qD2 (wget x2 2) (wget x2 6) (wget x2 10) (wget x2 14)))]) kj kj rfl (fun W => by kernel_rfl) ?_
  refine Qap (.int .u32 (wv (qA2 (wget x2 2) (wget x2 6) (wget x2 10) (wget x2 14)))) kj kj rfl (fun W => by kernel_rfl) ?_
  refine Qap (.int .u32 (wv (qB2 (wget x2 2) (wget x2 6) (wget x2 10) (wget x2 14)))) kj kj rfl (fun W => by kernel_rfl) ?_
  refine Qap (.int .u32 (wv (qC2 (wget x2 2) (wget x2 6) (wget x2 10) (wget x2 14)))) kj kj rfl (fun W => by kernel_rfl) ?_
  refine Qap (.int .u32 (wv (qD2 (wget x2 2) (wget x2 6) (wget x2 10) (wget x2 14)))) kj kj rfl (fun W => by kernel_rfl) ?_
  refine Qap (.pointer (some ⟨g8, 2, none⟩)) kj kj rfl (fun W => by kernel_rfl) ?_
  refine QaJ rfl ?_
  refine Qap (.pointer (some ⟨g8, 6, none⟩)) kj kj rfl (fun W => by kernel_rfl) ?_
  refine QaJ rfl ?_
  refine Qap (.pointer (some ⟨g8, 10, none⟩)) kj kj rfl (fun W => by kernel_rfl) ?_
  refine QaJ rfl ?_
  refine Qap (.pointer (some ⟨g8, 14, none⟩)) kj kj rfl (fun W => by kernel_rfl) ?_
  refine QaJ rfl ?_
  refine Qd7 (hF _ kj fun W23 e23 => ?_)
  simp only [List.nil_append, List.cons_append, fins, up]
  clear hF
  have x23 : Ext w W23 := Ext.tr x22 e23
  have r8_23 := (Qad r8_22 e23)
  have r33_23 := (Qad r33_22 e23)
  refine Qa9 _ g8 _ (ints .u32 ((x2.map wv).set 2 (wv (qA2 (wget x2 2) (wget x2 6) (wget x2 10) (wget x2 14))))) 199 r8_23 rfl (Qak 162 _ _ g8 2 199 _ _ r8_23 rfl kj kj kj (Nat.lt_of_lt_of_eq (show 2 < 16 by decide) (Qa4 h2).symm)) (fun W hp => Puts.row hp r33_23 (Qal r8_20_28 l33)) fun W24 p24 r8_24 => ?_
  have x24 : Ext w W24 := Puts.ext p24 x23 b8
  have r33_24 := (Puts.row p24 r33_23 (Qal r8_20_28 l33))
  refine Qa9 _ g8 _ (ints .u32 (((x2.map wv).set 2 (wv (qA2 (wget x2 2) (wget x2 6) (wget x2 10) (wget x2 14)))).set 6 (wv (qB2 (wget x2 2) (wget x2 6) (wget x2 10) (wget x2 14))))) 199 r8_24 rfl (Qak 162 _ _ g8 6 199 _ _ r8_24 rfl kj kj kj (Nat.lt_of_lt_of_eq (show 6 < 16 by decide) ((List.length_set ..).trans (Qa4 h2)).symm)) (fun W hp => Puts.row hp r33_24 (Qal r8_20_28 l33)) fun W25 p25 r8_25 => ?_
  have x25 : Ext w W25 := Puts.ext p25 x24 b8
  have r33_25 := (Puts.row p25 r33_24 (Qal r8_20_28 l33))
  refine Qa9 _ g8 _ (ints .u32 ((((x2.map wv).set 2 (wv (qA2 (wget x2 2) (wget x2 6) (wget x2 10) (wget x2 14)))).set 6 (wv (qB2 (wget x2 2) (wget x2 6) (wget x2 10) (wget x2 14)))).set 10 (wv (qC2 (wget x2 2) (wget x2 6) (wget x2 10) (wget x2 14))))) 199 r8_25 rfl (Qak 162 _ _ g8 10 199 _ _ r8_25 rfl kj kj kj (Nat.lt_of_lt_of_eq (show 10 < 16 by decide) ((List.length_set ..).trans ((List.length_set ..).trans (Qa4 h2))).symm)) (fun W hp => Puts.row hp r33_25 (Qal r8_20_28 l33)) fun W26 p26 r8_26 => ?_
  have x26 : Ext w W26 := Puts.ext p26 x25 b8
  have r33_26 := (Puts.row p26 r33_25 (Qal r8_20_28 l33))
  refine Qa9 _ g8 _ (ints .u32 (((((x2.map wv).set 2 (wv (qA2 (wget x2 2) (wget x2 6) (wget x2 10) (wget x2 14)))).set 6 (wv (qB2 (wget x2 2) (wget x2 6) (wget x2 10) (wget x2 14)))).set 10 (wv (qC2 (wget x2 2) (wget x2 6) (wget x2 10) (wget x2 14)))).set 14 (wv (qD2 (wget x2 2) (wget x2 6) (wget x2 10) (wget x2 14))))) 199 r8_26 rfl (Qak 162 _ _ g8 14 199 _ _ r8_26 rfl kj kj kj (Nat.lt_of_lt_of_eq (show 14 < 16 by decide) ((List.length_set ..).trans ((List.length_set ..).trans ((List.length_set ..).trans (Qa4 h2)))).symm)) (fun W hp => Puts.row hp r33_26 (Qal r8_20_28 l33)) fun W27 p27 r8_27 => ?_
  have x27 : Ext w W27 := Puts.ext p27 x26 b8
  refine Qcw ?_
  obtain ⟨x3, ex3⟩ : ∃ z : List Wd, z = qrt x2 2 6 10 14 := ⟨_, rfl⟩
  have h3 : x3.length = 16 := by rw [ex3, Qcp, h2]
  have r8_27_34 : W27.heap[g8]? = some (.cells (ints .u32 (x3.map wv)) 199) := QaD r8_27 (by rw [ex3]; unfold qrt; simp only [List.map_set])
  refine hK31 _ _ ?_
  refine Qab ?_
  refine Qaa (.int .i64 3) 56 rfl kj kj ?_
  refine Qaa (.int .i64 3) 19 rfl kj kj ?_
  refine Qac ?_
  show Code.rounds _ _ _ 6 _ _
  show Code.wp _ _ (Exit.then (Code.rounds _ _ _ 5) _) _ _
  refine wp_seq_k fun K35 hK35 => ?_
  refine Qab ?_
  refine Qaa (.bool true) 20 rfl kj kj ?_
  refine Qac ?_
  refine hK35 _ _ ?_
  refine wp_seq_k fun K36 hK36 => ?_
  refine cond_true kj ?_
  refine wp_skip ?_
  refine hK36 _ _ ?_
  refine wp_seq_k fun K37 hK37 => ?_
  refine wp_block ?_
  refine wp_seq_k fun K38 hK38 => ?_
  refine Qab ?_
  refine Qaa (.agg (ints .i64 ([3, 7, 11, 15]))) 21 rfl kj kj ?_
  refine Qas ((Array.replicate 4 (.int .i64 0))) 216 7 rfl kj kj fun g39 W28 l39 e28 r39_28 => ?_
  have x28 : Ext w W28 := Ext.tr x27 e28
  have b39 : w.heap.size ≤ g39 := Nat.le_trans x27.size l39
  refine Qaj g39 _ (ints .i64 ([3, 7, 11, 15])) 216 r39_28 rfl kj (Qaq 216 _ _ g39 216 _ _ r39_28 rfl kj kj (isz (n := 4) kj kj) (eqsz (n := 4) kj kj) (Qa7 _ _)) fun W29 p29 r39_29 => ?_
  have x29 : Ext w W29 := Puts.ext p29 x28 b39
  refine Qac ?_
  refine hK38 _ _ ?_
  refine QaZ (fun W => W.heap[g39]? = some (.cells (ints .i64 ([3, 7, 11, 15])) 216)) [⟨none, [(7, none)]⟩, ⟨none, [(23, some 0)]⟩, ⟨none, [(7, none)]⟩, ⟨none, [(25, some 2)]⟩, ⟨none, [(7, none)]⟩, ⟨none, [(27, some 4)]⟩, ⟨none, [(7, none)]⟩, ⟨none, [(29, some 6)]⟩, ⟨none, [(7, none)]⟩, ⟨none, [(31, some 8)]⟩, ⟨none, [(5, none), (32, some 9)]⟩, ⟨none, [(33, some 10)]⟩, ⟨none, [(7, none)]⟩, ⟨none, [(35, some 12)]⟩, ⟨none, [(5, none), (36, some 13)]⟩, ⟨none, [(37, some 14)]⟩, ⟨none, [(7, none)]⟩, ⟨none, [(39, some 16)]⟩, ⟨none, [(5, none), (40, some 17)]⟩, ⟨none, [(41, some 18)]⟩, ⟨none, [(7, none)]⟩, ⟨none, [(43, some 20)]⟩, ⟨none, [(5, none), (44, some 21)]⟩, ⟨none, [(45, some 22)]⟩, ⟨none, [(34, some 11), (38, some 15), (42, some 19), (46, some 23)]⟩, ⟨none, [(47, some 24)]⟩, ⟨none, [(22, some 25)]⟩, ⟨none, [(22, some 25)]⟩, ⟨none, [(22, some 25)]⟩, ⟨none, [(22, some 25)]⟩, ⟨none, [(5, none), (24, some 1)]⟩, ⟨none, [(52, some 30), (48, some 26)]⟩, ⟨none, [(5, none), (26, some 3)]⟩, ⟨none, [(53, some 32), (49, some 27)]⟩, ⟨none, [(5, none), (28, some 5)]⟩, ⟨none, [(54, some 34), (50, some 28)]⟩, ⟨none, [(5, none), (30, some 7)]⟩, ⟨none, [(55, some 36), (51, some 29)]⟩] [] [2, 3, 4, 5, 6, 7, 27, 28, 29, 32, 34, 36] kj kj kj (fun W hR => Qad r39_29 hR) fun F hF => ?_
  refine Qap (.pointer (some ⟨g39, 0, none⟩)) kj kj rfl (fun W => by kernel_rfl) ?_
  refine Qa2 (.int .i64 3) kj kj kj rfl (fun W hR => (Qae 3 _ g39 0 216 _ (.int .i64 3) _ (Qad (Qad r39_29 (Qai _)) hR) rfl kj kj kj)) ?_
  refine Qap (.pointer (some ⟨g39, 1, none⟩)) kj kj rfl (fun W => by kernel_rfl) ?_
  refine QaX (.int .i64 7) kj kj kj rfl (fun W hW => (Qae 3 _ g39 1 216 _ (.int .i64 7) _ hW rfl kj kj kj)) ?_
  refine Qap (.pointer (some ⟨g39, 2, none⟩)) kj kj rfl (fun W => by kernel_rfl) ?_
  refine QaX (.int .i64 11) kj kj kj rfl (fun W hW => (Qae 3 _ g39 2 216 _ (.int .i64 11) _ hW rfl kj kj kj)) ?_
  refine Qap (.pointer (some ⟨g39, 3, none⟩)) kj kj rfl (fun W => by kernel_rfl) ?_
  refine QaX (.int .i64 15) kj kj kj rfl (fun W hW => (Qae 3 _ g39 3 216 _ (.int .i64 15) _ hW rfl kj kj kj)) ?_
  refine Qap (.pointer (some ⟨g39, 0, none⟩)) kj kj rfl (fun W => by kernel_rfl) ?_
  refine Qa2 (.int .i64 3) kj kj kj rfl (fun W hR => (Qae 3 _ g39 0 216 _ (.int .i64 3) _ (Qad (Qad r39_29 (Qai _)) hR) rfl kj kj kj)) ?_
  refine Qap (.pointer (some ⟨g8, 3, none⟩)) kj kj rfl (fun W => by kernel_rfl) ?_
  have r8_28 := (Qad r8_27_34 e28)
  have r8_29 := (Puts.row p29 r8_28 (Qag r8_27_34 l39))
  refine Qa2 (.int .u32 (wv (wget x3 3))) kj kj kj rfl (fun W hR => (Qae 162 _ g8 3 199 _ (.int .u32 (wv (wget x3 3))) _ (Qad (Qad r8_29 (Qai _)) hR) rfl kj ((Qay _ _ _ (Nat.lt_of_lt_of_eq (by decide) (Qa4 h3).symm)).trans (congrArg (fun z => some (Value.int .u32 z)) (QaK x3 3))) kj)) ?_
  refine Qap (.pointer (some ⟨g39, 1, none⟩)) kj kj rfl (fun W => by kernel_rfl) ?_
  refine Qa2 (.int .i64 7) kj kj kj rfl (fun W hR => (Qae 3 _ g39 1 216 _ (.int .i64 7) _ (Qad (Qad r39_29 (Qai _)) hR) rfl kj kj kj)) ?_
  refine Qap (.pointer (some ⟨g8, 7, none⟩)) kj kj rfl (fun W => by kernel_rfl) ?_
  refine Qa2 (.int .u32 (wv (wget x3 7))) kj kj kj rfl (fun W hR => (Qae 162 _ g8 7 199 _ (.int .u32 (wv (wget x3 7))) _ (Qad (Qad r8_29 (Qai _)) hR) rfl kj ((Qay _ _ _ (Nat.lt_of_lt_of_eq (by decide) (Qa4 h3).symm)).trans (congrArg (fun z => some (Value.int .u32 z)) (QaK x3 7))) kj)) ?_
  refine Qap (.pointer (some ⟨g39, 2, none⟩)) kj kj rfl (fun W => by kernel_rfl) ?_
  refine Qa2 (.int .i64 11) kj kj kj rfl (fun W hR => (Qae 3 _ g39 2 216 _ (.int .i64 11) _ (Qad (Qad r39_29 (Qai _)) hR) rfl kj kj kj)) ?_
  refine Qap (.pointer (some ⟨g8, 11, none⟩)) kj kj rfl (fun W => by kernel_rfl) ?_
  refine Qa2 (.int .u32 (wv (wget x3 11))) kj kj kj rfl (fun W hR => (Qae 162 _ g8 11 199 _ (.int .u32 (wv (wget x3 11))) _ (Qad (Qad r8_29 (Qai _)) hR) rfl kj ((Qay _ _ _ (Nat.lt_of_lt_of_eq (by decide) (Qa4 h3).symm)).trans (congrArg (fun z => some (Value.int .u32 z)) (QaK x3 11))) kj)) ?_
  refine Qap (.pointer (some ⟨g39, 3, none⟩)) kj kj rfl (fun W => by kernel_rfl) ?_
  refine Qa2 (.int .i64 15) kj kj kj rfl (fun W hR => (Qae 3 _ g39 3 216 _ (.int .i64 15) _ (Qad (Qad r39_29 (Qai _)) hR) rfl kj kj kj)) ?_
  refine Qap (.pointer (some ⟨g8, 15, none⟩)) kj kj rfl (fun W => by kernel_rfl) ?_
  refine Qa2 (.int .u32 (wv (wget x3 15))) kj kj kj rfl (fun W hR => (Qae 162 _ g8 15 199 _ (.int .u32 (wv (wget x3 15))) _ (Qad (Qad r8_29 (Qai _)) hR) rfl kj ((Qay _ _ _ (Nat.lt_of_lt_of_eq (by decide) (Qa4 h3).symm)).trans (congrArg (fun z => some (Value.int .u32 z)) (QaK x3 15))) kj)) ?_
  refine Qdk (.tuple #[.int .u32 (wv (qA2 (wget x3 3) (wget x3 7) (wget x3 11) (wget x3 15))), .int .u32 (wv (qB2 (wget x3 3) (wget x3 7) (wget x3 11) (wget x3 15))), .int .u32 (wv (qC2 (wget x3 3) (wget x3 7) (wget x3 11) (wget x3 15))), .int .u32 (wv (qD2 (wget x3 3) (wget x3 7) (wget x3 11) (wget x3 15)))]) 156 #[.int .u32 (wv (wget x3 3)), .int .u32 (wv (wget x3 7)), .int .u32 (wv (wget x3 11)), .int .u32 (wv (wget x3 15))] kj kj kj rfl (fun W => by kernel_rfl) (fun W hR => (QbW (wget x3 3) (wget x3 7) (wget x3 11) (wget x3 15)) W) ?_
  refine Qap (.tuple #[.int .u32 (wv (qA2 (wget x3 3) (wget x3 7) (wget x3 11) (wget x3 15))), .int .u32 (wv (qB2 (wget x3 3) (wget x3 7) (wget x3 11) (wget x3 15))), .int .u32 (wv (qC2 (wget x3 3) (wget x3 7) (wget x3 11) (wget x3 15))), .int .u32 (wv (qD2 (wget x3 3) (wget x3 7) (wget x3 11) (wget x3 15)))]) kj kj rfl (fun W => by kernel_rfl) ?_
  refine Qap (.int .u32 (wv (qA2 (wget x3 3) (wget x3 7) (wget x3 11) (wget x3 15)))) kj kj rfl (fun W => by kernel_rfl) ?_
  refine Qap (.int .u32 (wv (qB2 (wget x3 3) (wget x3 7) (wget x3 11) (wget x3 15)))) kj kj rfl (fun W => by kernel_rfl) ?_
  refine Qap (.int .u32 (wv (qC2 (wget x3 3) (wget x3 7) (wget x3 11) (wget x3 15)))) kj kj rfl (fun W => by kernel_rfl) ?_
  refine Qap (.int .u32 (wv (qD2 (wget x3 3) (wget x3 7) (wget x3 11) (wget x3 15)))) kj kj rfl (fun W => by kernel_rfl) ?_
  refine Qap (.pointer (some ⟨g8, 3, none⟩)) kj kj rfl (fun W => by kernel_rfl) ?_
  refine QaJ rfl ?_
  refine Qap (.pointer (some ⟨g8, 7, none⟩)) kj kj rfl (fun W => by kernel_rfl) ?_
  refine QaJ rfl ?_
  refine Qap (.pointer (some ⟨g8, 11, none⟩)) kj kj rfl (fun W => by kernel_rfl) ?_
  refine QaJ rfl ?_
  refine Qap (.pointer (some ⟨g8, 15, none⟩)) kj kj rfl (fun W => by kernel_rfl) ?_
  refine QaJ rfl ?_
  refine Qd7 (hF _ kj fun W30 e30 => ?_)
  simp only [List.nil_append, List.cons_append, fins, up]
  clear hF
  have x30 : Ext w W30 := Ext.tr x29 e30
  have r8_30 := (Qad r8_29 e30)
  have r39_30 := (Qad r39_29 e30)
  refine Qa9 _ g8 _ (ints .u32 ((x3.map wv).set 3 (wv (qA2 (wget x3 3) (wget x3 7) (wget x3 11) (wget x3 15))))) 199 r8_30 rfl (Qak 162 _ _ g8 3 199 _ _ r8_30 rfl kj kj kj (Nat.lt_of_lt_of_eq (show 3 < 16 by decide) (Qa4 h3).symm)) (fun W hp => Puts.row hp r39_30 (Qal r8_27_34 l39)) fun W31 p31 r8_31 => ?_
  have x31 : Ext w W31 := Puts.ext p31 x30 b8
  have r39_31 := (Puts.row p31 r39_30 (Qal r8_27_34 l39))
  refine Qa9 _ g8 _ (ints .u32 (((x3.map wv).set 3 (wv (qA2 (wget x3 3) (wget x3 7) (wget x3 11) (wget x3 15)))).set 7 (wv (qB2 (wget x3 3) (wget x3 7) (wget x3 11) (wget x3 15))))) 199 r8_31 rfl (Qak 162 _ _ g8 7 199 _ _ r8_31 rfl kj kj kj (Nat.lt_of_lt_of_eq (show 7 < 16 by decide) ((List.length_set ..).trans (Qa4 h3)).symm)) (fun W hp => Puts.row hp r39_31 (Qal r8_27_34 l39)) fun W32 p32 r8_32 => ?_
  have x32 : Ext w W32 := Puts.ext p32 x31 b8
  have r39_32 := (Puts.row p32 r39_31 (Qal r8_27_34 l39))
  refine Qa9 _ g8 _ (ints .u32 ((((x3.map wv).set 3 (wv (qA2 (wget x3 3) (wget x3 7) (wget x3 11) (wget x3 15)))).set 7 (wv (qB2 (wget x3 3) (wget x3 7) (wget x3 11) (wget x3 15)))).set 11 (wv (qC2 (wget x3 3) (wget x3 7) (wget x3 11) (wget x3 15))))) 199 r8_32 rfl (Qak 162 _ _ g8 11 199 _ _ r8_32 rfl kj kj kj (Nat.lt_of_lt_of_eq (show 11 < 16 by decide) ((List.length_set ..).trans ((List.length_set ..).trans (Qa4 h3))).symm)) (fun W hp => Puts.row hp r39_32 (Qal r8_27_34 l39)) fun W33 p33 r8_33 => ?_
  have x33 : Ext w W33 := Puts.ext p33 x32 b8
  have r39_33 := (Puts.row p33 r39_32 (Qal r8_27_34 l39))
  refine Qa9 _ g8 _ (ints .u32 (((((x3.map wv).set 3 (wv (qA2 (wget x3 3) (wget x3 7) (wget x3 11) (wget x3 15)))).set 7 (wv (qB2 (wget x3 3) (wget x3 7) (wget x3 11) (wget x3 15)))).set 11 (wv (qC2 (wget x3 3) (wget x3 7) (wget x3 11) (wget x3 15)))).set 15 (wv (qD2 (wget x3 3) (wget x3 7) (wget x3 11) (wget x3 15))))) 199 r8_33 rfl (Qak 162 _ _ g8 15 199 _ _ r8_33 rfl kj kj kj (Nat.lt_of_lt_of_eq (show 15 < 16 by decide) ((List.length_set ..).trans ((List.length_set ..).trans ((List.length_set ..).trans (Qa4 h3)))).symm)) (fun W hp => Puts.row hp r39_33 (Qal r8_27_34 l39)) fun W34 p34 r8_34 => ?_
  have x34 : Ext w W34 := Puts.ext p34 x33 b8
  refine Qcw ?_
  obtain ⟨x4, ex4⟩ : ∃ z : List Wd, z = qrt x3 3 7 11 15 := ⟨_, rfl⟩
  have h4 : x4.length = 16 := by rw [ex4, Qcp, h3]
  have r8_34_40 : W34.heap[g8]? = some (.cells (ints .u32 (x4.map wv)) 199) := QaD r8_34 (by rw [ex4]; unfold qrt; simp only [List.map_set])
  refine hK37 _ _ ?_
  refine Qab ?_
  refine Qaa (.int .i64 4) 56 rfl kj kj ?_
  refine Qaa (.int .i64 4) 19 rfl kj kj ?_
  refine Qac ?_
  show Code.rounds _ _ _ 5 _ _
  show Code.wp _ _ (Exit.then (Code.rounds _ _ _ 4) _) _ _
  refine wp_seq_k fun K41 hK41 => ?_
  refine Qab ?_
  refine Qaa (.bool true) 20 rfl kj kj ?_
  refine Qac ?_
  refine hK41 _ _ ?_
  refine wp_seq_k fun K42 hK42 => ?_
  refine cond_true kj ?_
  refine wp_skip ?_
  refine hK42 _ _ ?_
  refine wp_seq_k fun K43 hK43 => ?_
  refine wp_block ?_
  refine wp_seq_k fun K44 hK44 => ?_
  refine Qab ?_
  refine Qaa (.agg (ints .i64 ([0, 5, 10, 15]))) 21 rfl kj kj ?_
  refine Qas ((Array.replicate 4 (.int .i64 0))) 216 7 rfl kj kj fun g45 W35 l45 e35 r45_35 => ?_
  have x35 : Ext w W35 := Ext.tr x34 e35
  have b45 : w.heap.size ≤ g45 := Nat.le_trans x34.size l45
  refine Qaj g45 _ (ints .i64 ([0, 5, 10, 15])) 216 r45_35 rfl kj (Qaq 216 _ _ g45 216 _ _ r45_35 rfl kj kj (isz (n := 4) kj kj) (eqsz (n := 4) kj kj) (Qa7 _ _)) fun W36 p36 r45_36 => ?_
  have x36 : Ext w W36 := Puts.ext p36 x35 b45
  refine Qac ?_
  refine hK44 _ _ ?_
  refine QaZ (fun W => W.heap[g45]? = some (.cells (ints .i64 ([0, 5, 10, 15])) 216)) [⟨none, [(7, none)]⟩, ⟨none, [(23, some 0)]⟩, ⟨none, [(7, none)]⟩, ⟨none, [(25, some 2)]⟩, ⟨none, [(7, none)]⟩, ⟨none, [(27, some 4)]⟩, ⟨none, [(7, none)]⟩, ⟨none, [(29, some 6)]⟩, ⟨none, [(7, none)]⟩, ⟨none, [(31, some 8)]⟩, ⟨none, [(5, none), (32, some 9)]⟩, ⟨none, [(33, some 10)]⟩, ⟨none, [(7, none)]⟩, ⟨none, [(35, some 12)]⟩, ⟨none, [(5, none), (36, some 13)]⟩, ⟨none, [(37, some 14)]⟩, ⟨none, [(7, none)]⟩, ⟨none, [(39, some 16)]⟩, ⟨none, [(5, none), (40, some 17)]⟩, ⟨none, [(41, some 18)]⟩, ⟨none, [(7, none)]⟩, ⟨none, [(43, some 20)]⟩, ⟨none, [(5, none), (44, some 21)]⟩, ⟨none, [(45, some 22)]⟩, ⟨none, [(34, some 11), (38, some 15), (42, some 19), (46, some 23)]⟩, ⟨none, [(47, some 24)]⟩, ⟨none, [(22, some 25)]⟩, ⟨none, [(22, some 25)]⟩, ⟨none, [(22, some 25)]⟩, ⟨none, [(22, some 25)]⟩, ⟨none, [(5, none), (24, some 1)]⟩, ⟨none, [(52, some 30), (48, some 26)]⟩, ⟨none, [(5, none), (26, some 3)]⟩, ⟨none, [(53, some 32), (49, some 27)]⟩, ⟨none, [(5, none), (28, some 5)]⟩, ⟨none, [(54, some 34), (50, some 28)]⟩, ⟨none, [(5, none), (30, some 7)]⟩, ⟨none, [(55, some 36), (51, some 29)]⟩] [] [2, 3, 4, 5, 6, 7, 27, 28, 29, 32, 34, 36] kj kj kj (fun W hR => Qad r45_36 hR) fun F hF => ?_
  refine Qap (.pointer (some ⟨g45, 0, none⟩)) kj kj rfl (fun W => by kernel_rfl) ?_
  refine Qa2 (.int .i64 0) kj kj kj rfl (fun W hR => (Qae 3 _ g45 0 216 _ (.int .i64 0) _ (Qad (Qad r45_36 (Qai _)) hR) rfl kj kj kj)) ?_
  refine Qap (.pointer (some ⟨g45, 1, none⟩)) kj kj rfl (fun W => by kernel_rfl) ?_
  refine QaX (.int .i64 5) kj kj kj rfl (fun W hW => (Qae 3 _ g45 1 216 _ (.int .i64 5) _ hW rfl kj kj kj)) ?_
  refine Qap (.pointer (some ⟨g45, 2, none⟩)) kj kj rfl (fun W => by kernel_rfl) ?_
  refine QaX (.int .i64 10) kj kj kj rfl (fun W hW => (Qae 3 _ g45 2 216 _ (.int .i64 10) _ hW rfl kj kj kj)) ?_
  refine Qap (.pointer (some ⟨g45, 3, none⟩)) kj kj rfl (fun W => by kernel_rfl) ?_
  refine QaX (.int .i64 15) kj kj kj rfl (fun W hW => (Qae 3 _ g45 3 216 _ (.int .i64 15) _ hW rfl kj kj kj)) ?_
  refine Qap (.pointer (some ⟨g45, 0, none⟩)) kj kj rfl (fun W => by kernel_rfl) ?_
  refine Qa2 (.int .i64 0) kj kj kj rfl (fun W hR => (Qae 3 _ g45 0 216 _ (.int .i64 0) _ (Qad (Qad r45_36 (Qai _)) hR) rfl kj kj kj)) ?_
  refine Qap (.pointer (some ⟨g8, 0, none⟩)) kj kj rfl (fun W => by kernel_rfl) ?_
  have r8_35 := (Qad r8_34_40 e35)
  have r8_36 := (Puts.row p36 r8_35 (Qag r8_34_40 l45))
  refine Qa2 (.int .u32 (wv (wget x4 0))) kj kj kj rfl (fun W hR => (Qae 162 _ g8 0 199 _ (.int .u32 (wv (wget x4 0))) _ (Qad (Qad r8_36 (Qai _)) hR) rfl kj ((Qay _ _ _ (Nat.lt_of_lt_of_eq (by decide) (Qa4 h4).symm)).trans (congrArg (fun z => some (Value.int .u32 z)) (QaK x4 0))) kj)) ?_
  refine Qap (.pointer (some ⟨g45, 1, none⟩)) kj kj rfl (fun W => by kernel_rfl) ?_
  refine Qa2 (.int .i64 5) kj kj kj rfl (fun W hR => (Qae 3 _ g45 1 216 _ (.int .i64 5) _ (Qad (Qad r45_36 (Qai _)) hR) rfl kj kj kj)) ?_
  refine Qap (.pointer (some ⟨g8, 5, none⟩)) kj kj rfl (fun W => by kernel_rfl) ?_
  refine Qa2 (.int .u32 (wv (wget x4 5))) kj kj kj rfl (fun W hR => (Qae 162 _ g8 5 199 _ (.int .u32 (wv (wget x4 5))) _ (Qad (Qad r8_36 (Qai _)) hR) rfl kj ((Qay _ _ _ (Nat.lt_of_lt_of_eq (by decide) (Qa4 h4).symm)).trans (congrArg (fun z => some (Value.int .u32 z)) (QaK x4 5))) kj)) ?_
  refine Qap (.pointer (some ⟨g45, 2, none⟩)) kj kj rfl (fun W => by kernel_rfl) ?_
  refine Qa2 (.int .i64 10) kj kj kj rfl (fun W hR => (Qae 3 _ g45 2 216 _ (.int .i64 10) _ (Qad (Qad r45_36 (Qai _)) hR) rfl kj kj kj)) ?_
  refine Qap (.pointer (some ⟨g8, 10, none⟩)) kj kj rfl (fun W => by kernel_rfl) ?_
  refine Qa2 (.int .u32 (wv (wget x4 10))) kj kj kj rfl (fun W hR => (Qae 162 _ g8 10 199 _ (.int .u32 (wv (wget x4 10))) _ (Qad (Qad r8_36 (Qai _)) hR) rfl kj ((Qay _ _ _ (Nat.lt_of_lt_of_eq (by decide) (Qa4 h4).symm)).trans (congrArg (fun z => some (Value.int .u32 z)) (QaK x4 10))) kj)) ?_
  refine Qap (.pointer (some ⟨g45, 3, none⟩)) kj kj rfl (fun W => by kernel_rfl) ?_
  refine Qa2 (.int .i64 15) kj kj kj rfl (fun W hR => (Qae 3 _ g45 3 216 _ (.int .i64 15) _ (Qad (Qad r45_36 (Qai _)) hR) rfl kj kj kj)) ?_
  refine Qap (.pointer (some ⟨g8, 15, none⟩)) kj kj rfl (fun W => by kernel_rfl) ?_
  refine Qa2 (.int .u32 (wv (wget x4 15))) kj kj kj rfl (fun W hR => (Qae 162 _ g8 15 199 _ (.int .u32 (wv (wget x4 15))) _ (Qad (Qad r8_36 (Qai _)) hR) rfl kj ((Qay _ _ _ (Nat.lt_of_lt_of_eq (by decide) (Qa4 h4).symm)).trans (congrArg (fun z => some (Value.int .u32 z)) (QaK x4 15))) kj)) ?_
  refine Qdk (.tuple #[.int .u32 (wv (qA2 (wget x4 0) (wget x4 5) (wget x4 10) (wget x4 15))), .int .u32 (wv (qB2 (wget x4 0) (wget x4 5) (wget x4 10) (wget x4 15))), .int .u32 (wv (qC2 (wget x4 0) (wget x4 5) (wget x4 10) (wget x4 15))), .int .u32 (wv (qD2 (wget x4 0) (wget x4 5) (wget x4 10) (wget x4 15)))]) 156 #[.int .u32 (wv (wget x4 0)), .int .u32 (wv (wget x4 5)), .int .u32 (wv (wget x4 10)), .int .u32 (wv (wget x4 15))] kj kj kj rfl (fun W => by kernel_rfl) (fun W hR => (QbW (wget x4 0) (wget x4 5) (wget x4 10) (wget x4 15)) W) ?_
  refine Qap (.tuple #[.int .u32 (wv (qA2 (wget x4 0) (wget x4 5) (wget x4 10) (wget x4 15))), .int .u32 (wv (qB2 (wget x4 0) (wget x4 5) (wget x4 10) (wget x4 15))), .int .u32 (wv (qC2 (wget x4 0) (wget x4 5) (wget x4 10) (wget x4 15))), .int .u32 (wv (qD2 (wget x4 0) (wget x4 5) (wget x4 10) (wget x4 15)))]) kj kj rfl (fun W => by kernel_rfl) ?_
  refine Qap (.int .u32 (wv (qA2 (wget x4 0) (wget x4 5) (wget x4 10) (wget x4 15)))) kj kj rfl (fun W => by kernel_rfl) ?_
  refine Qap (.int .u32 (wv (qB2 (wget x4 0) (wget x4 5) (wget x4 10) (wget x4 15)))) kj kj rfl (fun W => by kernel_rfl) ?_
  refine Qap (.int .u32 (wv (qC2 (wget x4 0) (wget x4 5) (wget x4 10) (wget x4 15)))) kj kj rfl (fun W => by kernel_rfl) ?_
  refine Qap (.int .u32 (wv (qD2 (wget x4 0) (wget x4 5) (wget x4 10) (wget x4 15)))) kj kj rfl (fun W => by kernel_rfl) ?_
  refine Qap (.pointer (some ⟨g8, 0, none⟩)) kj kj rfl (fun W => by kernel_rfl) ?_
  refine QaJ rfl ?_
  refine Qap (.pointer (some ⟨g8, 5, none⟩)) kj kj rfl (fun W => by kernel_rfl) ?_
  refine QaJ rfl ?_
  refine Qap (.pointer (some ⟨g8, 10, none⟩)) kj kj rfl (fun W => by kernel_rfl) ?_
  refine QaJ rfl ?_
  refine Qap (.pointer (some ⟨g8, 15, none⟩)) kj kj rfl (fun W => by kernel_rfl) ?_
  refine QaJ rfl ?_
  refine Qd7 (hF _ kj fun W37 e37 => ?_)
  simp only [List.nil_append, List.cons_append, fins, up]
  clear hF
  have x37 : Ext w W37 := Ext.tr x36 e37
  have r8_37 := (Qad r8_36 e37)
  have r45_37 := (Qad r45_36 e37)
  refine Qa9 _ g8 _ (ints .u32 ((x4.map wv).set 0 (wv (qA2 (wget x4 0) (wget x4 5) (wget x4 10) (wget x4 15))))) 199 r8_37 rfl (Qak 162 _ _ g8 0 199 _ _ r8_37 rfl kj kj kj (Nat.lt_of_lt_of_eq (show 0 < 16 by decide) (Qa4 h4).symm)) (fun W hp => Puts.row hp r45_37 (Qal r8_34_40 l45)) fun W38 p38 r8_38 => ?_
  have x38 : Ext w W38 := Puts.ext p38 x37 b8
  have r45_38 := (Puts.row p38 r45_37 (Qal r8_34_40 l45))
  refine Qa9 _ g8 _ (ints .u32 (((x4.map wv).set 0 (wv (qA2 (wget x4 0) (wget x4 5) (wget x4 10) (wget x4 15)))).set 5 (wv (qB2 (wget x4 0) (wget x4 5) (wget x4 10) (wget x4 15))))) 199 r8_38 rfl (Qak 162 _ _ g8 5 199 _ _ r8_38 rfl kj kj kj (Nat.lt_of_lt_of_eq (show 5 < 16 by decide) ((List.length_set ..).trans (Qa4 h4)).symm)) (fun W hp => Puts.row hp r45_38 (Qal r8_34_40 l45)) fun W39 p39 r8_39 => ?_
  have x39 : Ext w W39 := Puts.ext p39 x38 b8
  have r45_39 := (Puts.row p39 r45_38 (Qal r8_34_40 l45))
  refine Qa9 _ g8 _ (ints .u32 ((((x4.map wv).set 0 (wv (qA2 (wget x4 0) (wget x4 5) (wget x4 10) (wget x4 15)))).set 5 (wv (qB2 (wget x4 0) (wget x4 5) (wget x4 10) (wget x4 15)))).set 10 (wv (qC2 (wget x4 0) (wget x4 5) (wget x4 10) (wget x4 15))))) 199 r8_39 rfl (Qak 162 _ _ g8 10 199 _ _ r8_39 rfl kj kj kj (Nat.lt_of_lt_of_eq (show 10 < 16 by decide) ((List.length_set ..).trans ((List.length_set ..).trans (Qa4 h4))).symm)) (fun W hp => Puts.row hp r45_39 (Qal r8_34_40 l45)) fun W40 p40 r8_40 => ?_
  have x40 : Ext w W40 := Puts.ext p40 x39 b8
  have r45_40 := (Puts.row p40 r45_39 (Qal r8_34_40 l45))
  refine Qa9 _ g8 _ (ints .u32 (((((x4.map wv).set 0 (wv (qA2 (wget x4 0) (wget x4 5) (wget x4 10) (wget x4 15)))).set 5 (wv (qB2 (wget x4 0) (wget x4 5) (wget x4 10) (wget x4 15)))).set 10 (wv (qC2 (wget x4 0) (wget x4 5) (wget x4 10) (wget x4 15)))).set 15 (wv (qD2 (wget x4 0) (wget x4 5) (wget x4 10) (wget x4 15))))) 199 r8_40 rfl (Qak 162 _ _ g8 15 199 _ _ r8_40 rfl kj kj kj (Nat.lt_of_lt_of_eq (show 15 < 16 by decide) ((List.length_set ..).trans ((List.length_set ..).trans ((List.length_set ..).trans (Qa4 h4)))).symm)) (fun W hp => Puts.row hp r45_40 (Qal r8_34_40 l45)) fun W41 p41 r8_41 => ?_
  have x41 : Ext w W41 := Puts.ext p41 x40 b8
  refine Qcw ?_
  obtain ⟨x5, ex5⟩ : ∃ z : List Wd, z = qrt x4 0 5 10 15 := ⟨_, rfl⟩
  have h5 : x5.length = 16 := by rw [ex5, Qcp, h4]
  have r8_41_46 : W41.heap[g8]? = some (.cells (ints .u32 (x5.map wv)) 199) := QaD r8_41 (by rw [ex5]; unfold qrt; simp only [List.map_set])
  refine hK43 _ _ ?_
  refine Qab ?_
  refine Qaa (.int .i64 5) 56 rfl kj kj ?_
  refine Qaa (.int .i64 5) 19 rfl kj kj ?_
  refine Qac ?_
  show Code.rounds _ _ _ 4 _ _
  show Code.wp _ _ (Exit.then (Code.rounds _ _ _ 3) _) _ _
  refine wp_seq_k fun K47 hK47 => ?_
  refine Qab ?_
  refine Qaa (.bool true) 20 rfl kj kj ?_
  refine Qac ?_
  refine hK47 _ _ ?_
  refine wp_seq_k fun K48 hK48 => ?_
  refine cond_true kj ?_
  refine wp_skip ?_
  refine hK48 _ _ ?_
  refine wp_seq_k fun K49 hK49 => ?_
  refine wp_block ?_
  refine wp_seq_k fun K50 hK50 => ?_
  refine Qab ?_
  refine Qaa (.agg (ints .i64 ([1, 6, 11, 12]))) 21 rfl kj kj ?_
  refine Qas ((Array.replicate 4 (.int .i64 0))) 216 7 rfl kj kj fun g51 W42 l51 e42 r51_42 => ?_
  have x42 : Ext w W42 := Ext.tr x41 e42
  have b51 : w.heap.size ≤ g51 := Nat.le_trans x41.size l51
  refine Qaj g51 _ (ints .i64 ([1, 6, 11, 12])) 216 r51_42 rfl kj (Qaq 216 _ _ g51 216 _ _ r51_42 rfl kj kj (isz (n := 4) kj kj) (eqsz (n := 4) kj kj) (Qa7 _ _)) fun W43 p43 r51_43 => ?_
  have x43 : Ext w W43 := Puts.ext p43 x42 b51
  refine Qac ?_
  refine hK50 _ _ ?_
  refine QaZ (fun W => W.heap[g51]? = some (.cells (ints .i64 ([1, 6, 11, 12])) 216)) [⟨none, [(7, none)]⟩, ⟨none, [(23, some 0)]⟩, ⟨none, [(7, none)]⟩, ⟨none, [(25, some 2)]⟩, ⟨none, [(7, none)]⟩, ⟨none, [(27, some 4)]⟩, ⟨none, [(7, none)]⟩, ⟨none, [(29, some 6)]⟩, ⟨none, [(7, none)]⟩, ⟨none, [(31, some 8)]⟩, ⟨none, [(5, none), (32, some 9)]⟩, ⟨none, [(33, some 10)]⟩, ⟨none, [(7, none)]⟩, ⟨none, [(35, some 12)]⟩, ⟨none, [(5, none), (36, some 13)]⟩, ⟨none, [(37, some 14)]⟩, ⟨none, [(7, none)]⟩, ⟨none, [(39, some 16)]⟩, ⟨none, [(5, none), (40, some 17)]⟩, ⟨none, [(41, some 18)]⟩, ⟨none, [(7, none)]⟩, ⟨none, [(43, some 20)]⟩, ⟨none, [(5, none), (44, some 21)]⟩, ⟨none, [(45, some 22)]⟩, ⟨none, [(34, some 11), (38, some 15), (42, some 19), (46, some 23)]⟩, ⟨none, [(47, some 24)]⟩, ⟨none, [(22, some 25)]⟩, ⟨none, [(22, some 25)]⟩, ⟨none, [(22, some 25)]⟩, ⟨none, [(22, some 25)]⟩, ⟨none, [(5, none), (24, some 1)]⟩, ⟨none, [(52, some 30), (48, some 26)]⟩, ⟨none, [(5, none), (26, some 3)]⟩, ⟨none, [(53, some 32), (49, some 27)]⟩, ⟨none, [(5, none), (28, some 5)]⟩, ⟨none, [(54, some 34), (50, some 28)]⟩, ⟨none, [(5, none), (30, some 7)]⟩, ⟨none, [(55, some 36), (51, some 29)]⟩] [] [2, 3, 4, 5, 6, 7, 27, 28, 29, 32, 34, 36] kj kj kj (fun W hR => Qad r51_43 hR) fun F hF => ?_
  refine Qap (.pointer (some ⟨g51, 0, none⟩)) kj kj rfl (fun W => by kernel_rfl) ?_
  refine Qa2 (.int .i64 1) kj kj kj rfl (fun W hR => (Qae 3 _ g51 0 216 _ (.int .i64 1) _ (Qad (Qad r51_43 (Qai _)) hR) rfl kj kj kj)) ?_
  refine Qap (.pointer (some ⟨g51, 1, none⟩)) kj kj rfl (fun W => by kernel_rfl) ?_
  refine QaX (.int .i64 6) kj kj kj rfl (fun W hW => (Qae 3 _ g51 1 216 _ (.int .i64 6) _ hW rfl kj kj kj)) ?_
  refine Qap (.pointer (some ⟨g51, 2, none⟩)) kj kj rfl (fun W => by kernel_rfl) ?_
  refine QaX (.int .i64 11) kj kj kj rfl (fun W hW => (Qae 3 _ g51 2 216 _ (.int .i64 11) _ hW rfl kj kj kj)) ?_
  refine Qap (.pointer (some ⟨g51, 3, none⟩)) kj kj rfl (fun W => by kernel_rfl) ?_
  refine QaX (.int .i64 12) kj kj kj rfl (fun W hW => (Qae 3 _ g51 3 216 _ (.int .i64 12) _ hW rfl kj kj kj)) ?_
  refine Qap (.pointer (some ⟨g51, 0, none⟩)) kj kj rfl (fun W => by kernel_rfl) ?_
  refine Qa2 (.int .i64 1) kj kj kj rfl (fun W hR => (Qae 3 _ g51 0 216 _ (.int .i64 1) _ (Qad (Qad r51_43 (Qai _)) hR) rfl kj kj kj)) ?_
  refine Qap (.pointer (some ⟨g8, 1, none⟩)) kj kj rfl (fun W => by kernel_rfl) ?_
  have r8_42 := (Qad r8_41_46 e42)
  have r8_43 := (Puts.row p43 r8_42 (Qag r8_41_46 l51))
  refine Qa2 (.int .u32 (wv (wget x5 1))) kj kj kj rfl (fun W hR => (Qae 162 _ g8 1 199 _ (.int .u32 (wv (wget x5 1))) _ (Qad (Qad r8_43 (Qai _)) hR) rfl kj ((Qay _ _ _ (Nat.lt_of_lt_of_eq (by decide) (Qa4 h5).symm)).trans (congrArg (fun z => some (Value.int .u32 z)) (QaK x5 1))) kj)) ?_
  refine Qap (.pointer (some ⟨g51, 1, none⟩)) kj kj rfl (fun W => by kernel_rfl) ?_
  refine Qa2 (.int .i64 6) kj kj kj rfl (fun W hR => (Qae 3 _ g51 1 216 _ (.int .i64 6) _ (Qad (Qad r51_43 (Qai _)) hR) rfl kj kj kj)) ?_
  refine Qap (.pointer (some ⟨g8, 6, none⟩)) kj kj rfl (fun W => by kernel_rfl) ?_
  refine Qa2 (.int .u32 (wv (wget x5 6))) kj kj kj rfl (fun W hR => (Qae 162 _ g8 6 199 _ (.int .u32 (wv (wget x5 6))) _ (Qad (Qad r8_43 (Qai _)) hR) rfl kj ((Qay _ _ _ (Nat.lt_of_lt_of_eq (by decide) (Qa4 h5).symm)).trans (congrArg (fun z => some (Value.int .u32 z)) (QaK x5 6))) kj)) ?_
  refine Qap (.pointer (some ⟨g51, 2, none⟩)) kj kj rfl (fun W => by kernel_rfl) ?_
  refine Qa2 (.int .i64 11) kj kj kj rfl (fun W hR => (Qae 3 _ g51 2 216 _ (.int .i64 11) _ (Qad (Qad r51_43 (Qai _)) hR) rfl kj kj kj)) ?_
  refine Qap (.pointer (some ⟨g8, 11, none⟩)) kj kj rfl (fun W => by kernel_rfl) ?_
  refine Qa2 (.int .u32 (wv (wget x5 11))) kj kj kj rfl (fun W hR => (Qae 162 _ g8 11 199 _ (.int .u32 (wv (wget x5 11))) _ (Qad (Qad r8_43 (Qai _)) hR) rfl kj ((Qay _ _ _ (Nat.lt_of_lt_of_eq (by decide) (Qa4 h5).symm)).trans (congrArg (fun z => some (Value.int .u32 z)) (QaK x5 11))) kj)) ?_
  refine Qap (.pointer (some ⟨g51, 3, none⟩)) kj kj rfl (fun W => by kernel_rfl) ?_
  refine Qa2 (.int .i64 12) kj kj kj rfl (fun W hR => (Qae 3 _ g51 3 216 _ (.int .i64 12) _ (Qad (Qad r51_43 (Qai _)) hR) rfl kj kj kj)) ?_
  refine Qap (.pointer (some ⟨g8, 12, none⟩)) kj kj rfl (fun W => by kernel_rfl) ?_
  refine Qa2 (.int .u32 (wv (wget x5 12))) kj kj kj rfl (fun W hR => (Qae 162 _ g8 12 199 _ (.int .u32 (wv (wget x5 12))) _ (Qad (Qad r8_43 (Qai _)) hR) rfl kj ((Qay _ _ _ (Nat.lt_of_lt_of_eq (by decide) (Qa4 h5).symm)).trans (congrArg (fun z => some (Value.int .u32 z)) (QaK x5 12))) kj)) ?_
  refine Qdk (.tuple #[.int .u32 (wv (qA2 (wget x5 1) (wget x5 6) (wget x5 11) (wget x5 12))), .int .u32 (wv (qB2 (wget x5 1) (wget x5 6) (wget x5 11) (wget x5 12))), .int .u32 (wv (qC2 (wget x5 1) (wget x5 6) (wget x5 11) (wget x5 12))), .int .u32 (wv (qD2 (wget x5 1) (wget x5 6) (wget x5 11) (wget x5 12)))]) 156 #[.int .u32 (wv (wget x5 1)), .int .u32 (wv (wget x5 6)), .int .u32 (wv (wget x5 11)), .int .u32 (wv (wget x5 12))] kj kj kj rfl (fun W => by kernel_rfl) (fun W hR => (QbW (wget x5 1) (wget x5 6) (wget x5 11) (wget x5 12)) W) ?_
  refine Qap (.tuple #[.int .u32 (wv (qA2 (wget x5 1) (wget x5 6) (wget x5 11) (wget x5 12))), .int .u32 (wv (qB2 (wget x5 1) (wget x5 6) (wget x5 11) (wget x5 12))), .int .u32 (wv (qC2 (wget x5 1) (wget x5 6) (wget x5 11) (wget x5 12))), .int .u32 (wv (qD2 (wget x5 1) (wget x5 6) (wget x5 11) (wget x5 12)))]) kj kj rfl (fun W => by kernel_rfl) ?_
  refine Qap (.int .u32 (wv (qA2 (wget x5 1) (wget x5 6) (wget x5 11) (wget x5 12)))) kj kj rfl (fun W => by kernel_rfl) ?_
  refine Qap (.int .u32 (wv (qB2 (wget x5 1) (wget x5 6) (wget x5 11) (wget x5 12)))) kj kj rfl (fun W => by kernel_rfl) ?_
  refine Qap (.int .u32 (wv (qC2 (wget x5 1) (wget x5 6) (wget x5 11) (wget x5 12)))) kj kj rfl (fun W => by kernel_rfl) ?_
  refine Qap (.int .u32 (wv (qD2 (wget x5 1) (wget x5 6) (wget x5 11) (wget x5 12)))) kj kj rfl (fun W => by kernel_rfl) ?_
  refine Qap (.pointer (some ⟨g8, 1, none⟩)) kj kj rfl (fun W => by kernel_rfl) ?_
  refine QaJ rfl ?_
  refine Qap (.pointer (some ⟨g8, 6, none⟩)) kj kj rfl (fun W => by kernel_rfl) ?_
  refine QaJ rfl ?_
  refine Qap (.pointer (some ⟨g8, 11, none⟩)) kj kj rfl (fun W => by kernel_rfl) ?_
  refine QaJ rfl ?_
  refine Qap (.pointer (some ⟨g8, 12, none⟩)) kj kj rfl (fun W => by kernel_rfl) ?_
  refine QaJ rfl ?_
  refine Qd7 (hF _ kj fun W44 e44 => ?_)
  simp only [List.nil_append, List.cons_append, fins, up]
  clear hF
  have x44 : Ext w W44 := Ext.tr x43 e44
  have r8_44 := (Qad r8_43 e44)
  have r51_44 := (Qad r51_43 e44)
  refine Qa9 _ g8 _ (ints .u32 ((x5.map wv).set 1 (wv (qA2 (wget x5 1) (wget x5 6) (wget x5 11) (wget x5 12))))) 199 r8_44 rfl (Qak 162 _ _ g8 1 199 _ _ r8_44 rfl kj kj kj (Nat.lt_of_lt_of_eq (show 1 < 16 by decide) (Qa4 h5).symm)) (fun W hp => Puts.row hp r51_44 (Qal r8_41_46 l51)) fun W45 p45 r8_45 => ?_
  have x45 : Ext w W45 := Puts.ext p45 x44 b8
  have r51_45 := (Puts.row p45 r51_44 (Qal r8_41_46 l51))
  refine Qa9 _ g8 _ (ints .u32 (((x5.map wv).set 1 (wv (qA2 (wget x5 1) (wget x5 6) (wget x5 11) (wget x5 12)))).set 6 (wv (qB2 (wget x5 1) (wget x5 6) (wget x5 11) (wget x5 12))))) 199 r8_45 rfl (Qak 162 _ _ g8 6 199 _ _ r8_45 rfl kj kj kj (Nat.lt_of_lt_of_eq (show 6 < 16 by decide) ((List.length_set ..).trans (Qa4 h5)).symm)) (fun W hp => Puts.row hp r51_45 (Qal r8_41_46 l51)) fun W46 p46 r8_46 => ?_
  have x46 : Ext w W46 := Puts.ext p46 x45 b8
  have r51_46 := (Puts.row p46 r51_45 (Qal r8_41_46 l51))
  refine Qa9 _ g8 _ (ints .u32 ((((x5.map wv).set 1 (wv (qA2 (wget x5 1) (wget x5 6) (wget x5 11) (wget x5 12)))).set 6 (wv (qB2 (wget x5 1) (wget x5 6) (wget x5 11) (wget x5 12)))).set 11 (wv (qC2 (wget x5 1) (wget x5 6) (wget x5 11) (wget x5 12))))) 199 r8_46 rfl (Qak 162 _ _ g8 11 199 _ _ r8_46 rfl kj kj kj (Nat.lt_of_lt_of_eq (show 11 < 16 by decide) ((List.length_set ..).trans ((List.length_set ..).trans (Qa4 h5))).symm)) (fun W hp => Puts.row hp r51_46 (Qal r8_41_46 l51)) fun W47 p47 r8_47 => ?_
  have x47 : Ext w W47 := Puts.ext p47 x46 b8
  have r51_47 := (Puts.row p47 r51_46 (Qal r8_41_46 l51))
  refine Qa9 _ g8 _ (ints .u32 (((((x5.map wv).set 1 (wv (qA2 (wget x5 1) (wget x5 6) (wget x5 11) (wget x5 12)))).set 6 (wv (qB2 (wget x5 1) (wget x5 6) (wget x5 11) (wget x5 12)))).set 11 (wv (qC2 (wget x5 1) (wget x5 6) (wget x5 11) (wget x5 12)))).set 12 (wv (qD2 (wget x5 1) (wget x5 6) (wget x5 11) (wget x5 12))))) 199 r8_47 rfl (Qak 162 _ _ g8 12 199 _ _ r8_47 rfl kj kj kj (Nat.lt_of_lt_of_eq (show 12 < 16 by decide) ((List.length_set ..).trans ((List.length_set ..).trans ((List.length_set ..).trans (Qa4 h5)))).symm)) (fun W hp => Puts.row hp r51_47 (Qal r8_41_46 l51)) fun W48 p48 r8_48 => ?_
  have x48 : Ext w W48 := Puts.ext p48 x47 b8
  refine Qcw ?_
  obtain ⟨x6, ex6⟩ : ∃ z : List Wd, z = qrt x5 1 6 11 12 := ⟨_, rfl⟩
  have h6 : x6.length = 16 := by rw [ex6, Qcp, h5]
  have r8_48_52 : W48.heap[g8]? = some (.cells (ints .u32 (x6.map wv)) 199) := QaD r8_48 (by rw [ex6]; unfold qrt; simp only [List.map_set])
  refine hK49 _ _ ?_
  refine Qab ?_
  refine Qaa (.int .i64 6) 56 rfl kj kj ?_
  refine Qaa (.int .i64 6) 19 rfl kj kj ?_
  refine Qac ?_
  show Code.rounds _ _ _ 3 _ _
  show Code.wp _ _ (Exit.then (Code.rounds _ _ _ 2) _) _ _
  refine wp_seq_k fun K53 hK53 => ?_
  refine Qab ?_
  refine Qaa (.bool true) 20 rfl kj kj ?_
  refine Qac ?_
  refine hK53 _ _ ?_
  refine wp_seq_k fun K54 hK54 => ?_
  refine cond_true kj ?_
  refine wp_skip ?_
  refine hK54 _ _ ?_
  refine wp_seq_k fun K55 hK55 => ?_
  refine wp_block ?_
  refine wp_seq_k fun K56 hK56 => ?_
  refine Qab ?_
  refine Qaa (.agg (ints .i64 ([2, 7, 8, 13]))) 21 rfl kj kj ?_
  refine Qas ((Array.replicate 4 (.int .i64 0))) 216 7 rfl kj kj fun g57 W49 l57 e49 r57_49 => ?_
  have x49 : Ext w W49 := Ext.tr x48 e49
  have b57 : w.heap.size ≤ g57 := Nat.le_trans x48.size l57
  refine Qaj g57 _ (ints .i64 ([2, 7, 8, 13])) 216 r57_49 rfl kj (Qaq 216 _ _ g57 216 _ _ r57_49 rfl kj kj (isz (n := 4) kj kj) (eqsz (n := 4) kj kj) (Qa7 _ _)) fun W50 p50 r57_50 => ?_
  have x50 : Ext w W50 := Puts.ext p50 x49 b57
  refine Qac ?_
  refine hK56 _ _ ?_
  refine QaZ (fun W => W.heap[g57]? = some (.cells (ints .i64 ([2, 7, 8, 13])) 216)) [⟨none, [(7, none)]⟩, ⟨none, [(23, some 0)]⟩, ⟨none, [(7, none)]⟩, ⟨none, [(25, some 2)]⟩, ⟨none, [(7, none)]⟩, ⟨none, [(27, some 4)]⟩, ⟨none, [(7, none)]⟩, ⟨none, [(29, some 6)]⟩, ⟨none, [(7, none)]⟩, ⟨none, [(31, some 8)]⟩, ⟨none, [(5, none), (32, some 9)]⟩, ⟨none, [(33, some 10)]⟩, ⟨none, [(7, none)]⟩, ⟨none, [(35, some 12)]⟩, ⟨none, [(5, none), (36, some 13)]⟩, ⟨none, [(37, some 14)]⟩, ⟨none, [(7, none)]⟩, ⟨none, [(39, some 16)]⟩, ⟨none, [(5, none), (40, some 17)]⟩, ⟨none, [(41, some 18)]⟩, ⟨none, [(7, none)]⟩, ⟨none, [(43, some 20)]⟩, ⟨none, [(5, none), (44, some 21)]⟩, ⟨none, [(45, some 22)]⟩, ⟨none, [(34, some 11), (38, some 15), (42, some 19), (46, some 23)]⟩, ⟨none, [(47, some 24)]⟩, ⟨none, [(22, some 25)]⟩, ⟨none, [(22, some 25)]⟩, ⟨none, [(22, some 25)]⟩, ⟨none, [(22, some 25)]⟩, ⟨none, [(5, none), (24, some 1)]⟩, ⟨none, [(52, some 30), (48, some 26)]⟩, ⟨none, [(5, none), (26, some 3)]⟩, ⟨none, [(53, some 32), (49, some 27)]⟩, ⟨none, [(5, none), (28, some 5)]⟩, ⟨none, [(54, some 34), (50, some 28)]⟩, ⟨none, [(5, none), (30, some 7)]⟩, ⟨none, [(55, some 36), (51, some 29)]⟩] [] [2, 3, 4, 5, 6, 7, 27, 28, 29, 32, 34, 36] kj kj kj (fun W hR => Qad r57_50 hR) fun F hF => ?_
  refine Qap (.pointer (some ⟨g57, 0, none⟩)) kj kj rfl (fun W => by kernel_rfl) ?_
  refine Qa2 (.int .i64 2) kj kj kj rfl (fun W hR => (Qae 3 _ g57 0 216 _ (.int .i64 2) _ (Qad (Qad r57_50 (Qai _)) hR) rfl kj kj kj)) ?_
  refine Qap (.pointer (some ⟨g57, 1, none⟩)) kj kj rfl (fun W => by kernel_rfl) ?_
  refine QaX (.int .i64 7) kj kj kj rfl (fun W hW => (Qae 3 _ g57 1 216 _ (.int .i64 7) _ hW rfl kj kj kj)) ?_
  refine Qap (.pointer (some ⟨g57, 2, none⟩)) kj kj rfl (fun W => by kernel_rfl) ?_
  refine QaX (.int .i64 8) kj kj kj rfl (fun W hW => (Qae 3 _ g57 2 216 _ (.int .i64 8) _ hW rfl kj kj kj)) ?_
  refine Qap (.pointer (some ⟨g57, 3, none⟩)) kj kj rfl (fun W => by kernel_rfl) ?_
  refine QaX (.int .i64 13) kj kj kj rfl (fun W hW => (Qae 3 _ g57 3 216 _ (.int .i64 13) _ hW rfl kj kj kj)) ?_
  refine Qap (.pointer (some ⟨g57, 0, none⟩)) kj kj rfl (fun W => by kernel_rfl) ?_
  refine Qa2 (.int .i64 2) kj kj kj rfl (fun W hR => (Qae 3 _ g57 0 216 _ (.int .i64 2) _ (Qad (Qad r57_50 (Qai _)) hR) rfl kj kj kj)) ?_
  refine Qap (.pointer (some ⟨g8, 2, none⟩)) kj kj rfl (fun W => by kernel_rfl) ?_
  have r8_49 := (Qad r8_48_52 e49)
  have r8_50 := (Puts.row p50 r8_49 (Qag r8_48_52 l57))
  refine Qa2 (.int .u32 (wv (wget x6 2))) kj kj kj rfl (fun W hR => (Qae 162 _ g8 2 199 _ (.int .u32 (wv (wget x6 2))) _ (Qad (Qad r8_50 (Qai _)) hR) rfl kj ((Qay _ _ _ (Nat.lt_of_lt_of_eq (by decide) (Qa4 h6).symm)).trans (congrArg (fun z => some (Value.int .u32 z)) (QaK x6 2))) kj)) ?_
  refine Qap (.pointer (some ⟨g57, 1, none⟩)) kj kj rfl (fun W => by kernel_rfl) ?_
  refine Qa2 (.int .i64 7) kj kj kj rfl (fun W hR => (Qae 3 _ g57 1 216 _ (.int .i64 7) _ (Qad (Qad r57_50 (Qai _)) hR) rfl kj kj kj)) ?_
  refine Qap (.pointer (some ⟨g8, 7, none⟩)) kj kj rfl (fun W => by kernel_rfl) ?_
  refine Qa2 (.int .u32 (wv (wget x6 7))) kj kj kj rfl (fun W hR => (Qae 162 _ g8 7 199 _ (.int .u32 (wv (wget x6 7))) _ (Qad (Qad r8_50 (Qai _)) hR) rfl kj ((Qay _ _ _ (Nat.lt_of_lt_of_eq (by decide) (Qa4 h6).symm)).trans (congrArg (fun z => some (Value.int .u32 z)) (QaK x6 7))) kj)) ?_
  refine Qap (.pointer (some ⟨g57, 2, none⟩)) kj kj rfl (fun W => by kernel_rfl) ?_
  refine Qa2 (.int .i64 8) kj kj kj rfl (fun W hR => (Qae 3 _ g57 2 216 _ (.int .i64 8) _ (Qad (Qad r57_50 (Qai _)) hR) rfl kj kj kj)) ?_
  refine Qap (.pointer (some ⟨g8, 8, none⟩)) kj kj rfl (fun W => by kernel_rfl) ?_
  refine Qa2 (.int .u32 (wv (wget x6 8))) kj kj kj rfl (fun W hR => (Qae 162 _ g8 8 199 _ (.int .u32 (wv (wget x6 8))) _ (Qad (Qad r8_50 (Qai _)) hR) rfl kj ((Qay _ _ _ (Nat.lt_of_lt_of_eq (by decide) (Qa4 h6).symm)).trans (congrArg (fun z => some (Value.int .u32 z)) (QaK x6 8))) kj)) ?_
  refine Qap (.pointer (some ⟨g57, 3, none⟩)) kj kj rfl (fun W => by kernel_rfl) ?_
  refine Qa2 (.int .i64 13) kj kj kj rfl (fun W hR => (Qae 3 _ g57 3 216 _ (.int .i64 13) _ (Qad (Qad r57_50 (Qai _)) hR) rfl kj kj kj)) ?_
  refine Qap (.pointer (some ⟨g8, 13, none⟩)) kj kj rfl (fun W => by kernel_rfl) ?_
  refine Qa2 (.int .u32 (wv (wget x6 13))) kj kj kj rfl (fun W hR => (Qae 162 _ g8 13 199 _ (.int .u32 (wv (wget x6 13))) _ (Qad (Qad r8_50 (Qai _)) hR) rfl kj ((Qay _ _ _ (Nat.lt_of_lt_of_eq (by decide) (Qa4 h6).symm)).trans (congrArg (fun z => some (Value.int .u32 z)) (QaK x6 13))) kj)) ?_
  refine Qdk (.tuple #[.int .u32 (wv (qA2 (wget x6 2) (wget x6 7) (wget x6 8) (wget x6 13))), .int .u32 (wv (qB2 (wget x6 2) (wget x6 7) (wget x6 8) (wget x6 13))), .int .u32 (wv (qC2 (wget x6 2) (wget x6 7) (wget x6 8) (wget x6 13))), .int .u32 (wv (qD2 (wget x6 2) (wget x6 7) (wget x6 8) (wget x6 13)))]) 156 #[.int .u32 (wv (wget x6 2)), .int .u32 (wv (wget x6 7)), .int .u32 (wv (wget x6 8)), .int .u32 (wv (wget x6 13))] kj kj kj rfl (fun W => by kernel_rfl) (fun W hR => (QbW (wget x6 2) (wget x6 7) (wget x6 8) (wget x6 13)) W) ?_
  refine Qap (.tuple #[.int .u32 (wv (qA2 (wget x6 2) (wget x6 7) (wget x6 8) (wget x6 13))), .int .u32 (wv (qB2 (wget x6 2) (wget x6 7) (wget x6 8) (wget x6 13))), .int .u32 (wv (qC2 (wget x6 2) (wget x6 7) (wget x6 8) (wget x6 13))), .int .u32 (wv (qD2 (wget x6 2) (wget x6 7) (wget x6 8) (wget x6 13)))]) kj kj rfl (fun W => by kernel_rfl) ?_
  refine Qap (.int .u32 (wv (qA2 (wget x6 2) (wget x6 7) (wget x6 8) (wget x6 13)))) kj kj rfl (fun W => by kernel_rfl) ?_
  refine Qap (.int .u32 (wv (qB2 (wget x6 2) (wget x6 7) (wget x6 8) (wget x6 13)))) kj kj rfl (fun W => by kernel_rfl) ?_
  refine Qap (.int .u32 (wv (qC2 (wget x6 2) (wget x6 7) (wget x6 8) (wget x6 13)))) kj kj rfl (fun W => by kernel_rfl) ?_
  refine Qap (.int .u32 (wv (qD2 (wget x6 2) (wget x6 7) (wget x6 8) (wget x6 13)))) kj kj rfl (fun W => by kernel_rfl) ?_
  refine Qap (.pointer (some ⟨g8, 2, none⟩)) kj kj rfl (fun W => by kernel_rfl) ?_
  refine QaJ rfl ?_
  refine Qap (.pointer (some ⟨g8, 7, none⟩)) kj kj rfl (fun W => by kernel_rfl) ?_
  refine QaJ rfl ?_
  refine Qap (.pointer (some ⟨g8, 8, none⟩)) kj kj rfl (fun W => by kernel_rfl) ?_
  refine QaJ rfl ?_
  refine Qap (.pointer (some ⟨g8, 13, none⟩)) kj kj rfl (fun W => by kernel_rfl) ?_
  refine QaJ rfl ?_
  refine Qd7 (hF _ kj fun W51 e51 => ?_)
  simp only [List.nil_append, List.cons_append, fins, up]
  clear hF
  have x51 : Ext w W51 := Ext.tr x50 e51
  have r8_51 := (Qad r8_50 e51)
  have r57_51 := (Qad r57_50 e51)
  refine Qa9 _ g8 _ (ints .u32 ((x6.map wv).set 2 (wv (qA2 (wget x6 2) (wget x6 7) (wget x6 8) (wget x6 13))))) 199 r8_51 rfl (Qak 162 _ _ g8 2 199 _ _ r8_51 rfl kj kj kj (Nat.lt_of_lt_of_eq (show 2 < 16 by decide) (Qa4 h6).symm)) (fun W hp => Puts.row hp r57_51 (Qal r8_48_52 l57)) fun W52 p52 r8_52 => ?_
  have x52 : Ext w W52 := Puts.ext p52 x51 b8
  have r57_52 := (Puts.row p52 r57_51 (Qal r8_48_52 l57))
  refine Qa9 _ g8 _ (ints .u32 (((x6.map wv).set 2 (wv (qA2 (wget x6 2) (wget x6 7) (wget x6 8) (wget x6 13)))).set 7 (wv (qB2 (wget x6 2) (wget x6 7) (wget x6 8) (wget x6 13))))) 199 r8_52 rfl (Qak 162 _ _ g8 7 199 _ _ r8_52 rfl kj kj kj (Nat.lt_of_lt_of_eq (show 7 < 16 by decide) ((List.length_set ..).trans (Qa4 h6)).symm)) (fun W hp => Puts.row hp r57_52 (Qal r8_48_52 l57)) fun W53 p53 r8_53 => ?_
  have x53 : Ext w W53 := Puts.ext p53 x52 b8
  have r57_53 := (Puts.row p53 r57_52 (Qal r8_48_52 l57))
  refine Qa9 _ g8 _ (ints .u32 ((((x6.map wv).set 2 (wv (qA2 (wget x6 2) (wget x6 7) (wget x6 8) (wget x6 13)))).set 7 (wv (qB2 (wget x6 2) (wget x6 7) (wget x6 8) (wget x6 13)))).set 8 (wv (qC2 (wget x6 2) (wget x6 7) (wget x6 8) (wget x6 13))))) 199 r8_53 rfl (Qak 162 _ _ g8 8 199 _ _ r8_53 rfl kj kj kj (Nat.lt_of_lt_of_eq (show 8 < 16 by decide) ((List.length_set ..).trans ((List.length_set ..).trans (Qa4 h6))).symm)) (fun W hp => Puts.row hp r57_53 (Qal r8_48_52 l57)) fun W54 p54 r8_54 => ?_
  have x54 : Ext w W54 := Puts.ext p54 x53 b8
  have r57_54 := (Puts.row p54 r57_53 (Qal r8_48_52 l57))
  refine Qa9 _ g8 _ (ints .u32 (((((x6.map wv).set 2 (wv (qA2 (wget x6 2) (wget x6 7) (wget x6 8) (wget x6 13)))).set 7 (wv (qB2 (wget x6 2) (wget x6 7) (wget x6 8) (wget x6 13)))).set 8 (wv (qC2 (wget x6 2) (wget x6 7) (wget x6 8) (wget x6 13)))).set 13 (wv (qD2 (wget x6 2) (wget x6 7) (wget x6 8) (wget x6 13))))) 199 r8_54 rfl (Qak 162 _ _ g8 13 199 _ _ r8_54 rfl kj kj kj (Nat.lt_of_lt_of_eq (show 13 < 16 by decide) ((List.length_set ..).trans ((List.length_set ..).trans ((List.length_set ..).trans (Qa4 h6)))).symm)) (fun W hp => Puts.row hp r57_54 (Qal r8_48_52 l57)) fun W55 p55 r8_55 => ?_
  have x55 : Ext w W55 := Puts.ext p55 x54 b8
  refine Qcw ?_
  obtain ⟨x7, ex7⟩ : ∃ z : List Wd, z = qrt x6 2 7 8 13 := ⟨_, rfl⟩
  have h7 : x7.length = 16 := by rw [ex7, Qcp, h6]
  have r8_55_58 : W55.heap[g8]? = some (.cells (ints .u32 (x7.map wv)) 199) := QaD r8_55 (by rw [ex7]; unfold qrt; simp only [List.map_set])
  refine hK55 _ _ ?_
  refine Qab ?_
  refine Qaa (.int .i64 7) 56 rfl kj kj ?_
  refine Qaa (.int .i64 7) 19 rfl kj kj ?_
  refine Qac ?_
  show Code.rounds _ _ _ 2 _ _
  show Code.wp _ _ (Exit.then (Code.rounds _ _ _ 1) _) _ _
  refine wp_seq_k fun K59 hK59 => ?_
  refine Qab ?_
  refine Qaa (.bool true) 20 rfl kj kj ?_
  refine Qac ?_
  refine hK59 _ _ ?_
  refine wp_seq_k fun K60 hK60 => ?_
  refine cond_true kj ?_
  refine wp_skip ?_
  refine hK60 _ _ ?_
  refine wp_seq_k fun K61 hK61 => ?_
  refine wp_block ?_
  refine wp_seq_k fun K62 hK62 => ?_
  refine Qab ?_
  refine Qaa (.agg (ints .i64 ([3, 4, 9, 14]))) 21 rfl kj kj ?_
  refine Qas ((Array.replicate 4 (.int .i64 0))) 216 7 rfl kj kj fun g63 W56 l63 e56 r63_56 => ?_
  have x56 : Ext w W56 := Ext.tr x55 e56
  have b63 : w.heap.size ≤ g63 := Nat.le_trans x55.size l63
  refine Qaj g63 _ (ints .i64 ([3, 4, 9, 14])) 216 r63_56 rfl kj (Qaq 216 _ _ g63 216 _ _ r63_56 rfl kj kj (isz (n := 4) kj kj) (eqsz (n := 4) kj kj) (Qa7 _ _)) fun W57 p57 r63_57 => ?_
  have x57 : Ext w W57 := Puts.ext p57 x56 b63
  refine Qac ?_
  refine hK62 _ _ ?_
  refine QaZ (fun W => W.heap[g63]? = some (.cells (ints .i64 ([3, 4, 9, 14])) 216)) [⟨none, [(7, none)]⟩, ⟨none, [(23, some 0)]⟩, ⟨none, [(7, none)]⟩, ⟨none, [(25, some 2)]⟩, ⟨none, [(7, none)]⟩, ⟨none, [(27, some 4)]⟩, ⟨none, [(7, none)]⟩, ⟨none, [(29, some 6)]⟩, ⟨none, [(7, none)]⟩, ⟨none, [(31, some 8)]⟩, ⟨none, [(5, none), (32, some 9)]⟩, ⟨none, [(33, some 10)]⟩, ⟨none, [(7, none)]⟩, ⟨none, [(35, some 12)]⟩, ⟨none, [(5, none), (36, some 13)]⟩, ⟨none, [(37, some 14)]⟩, ⟨none, [(7, none)]⟩, ⟨none, [(39, some 16)]⟩, ⟨none, [(5, none), (40, some 17)]⟩, ⟨none, [(41, some 18)]⟩, ⟨none, [(7, none)]⟩, ⟨none, [(43, some 20)]⟩, ⟨none, [(5, none), (44, some 21)]⟩, ⟨none, [(45, some 22)]⟩, ⟨none, [(34, some 11), (38, some 15), (42, some 19), (46, some 23)]⟩, ⟨none, [(47, some 24)]⟩, ⟨none, [(22, some 25)]⟩, ⟨none, [(22, some 25)]⟩, ⟨none, [(22, some 25)]⟩, ⟨none, [(22, some 25)]⟩, ⟨none, [(5, none), (24, some 1)]⟩, ⟨none, [(52, some 30), (48, some 26)]⟩, ⟨none, [(5, none), (26, some 3)]⟩, ⟨none, [(53, some 32), (49, some 27)]⟩, ⟨none, [(5, none), (28, some 5)]⟩, ⟨none, [(54, some 34), (50, some 28)]⟩, ⟨none, [(5, none), (30, some 7)]⟩, ⟨none, [(55, some 36), (51, some 29)]⟩] [] [2, 3, 4, 5, 6, 7, 27, 28, 29, 32, 34, 36] kj kj kj (fun W hR => Qad r63_57 hR) fun F hF => ?_
  refine Qap (.pointer (some ⟨g63, 0, none⟩)) kj kj rfl (fun W => by kernel_rfl) ?_
  refine Qa2 (.int .i64 3) kj kj kj rfl (fun W hR => (Qae 3 _ g63 0 216 _ (.int .i64 3) _ (Qad (Qad r63_57 (Qai _)) hR) rfl kj kj kj)) ?_
  refine Qap (.pointer (some ⟨g63, 1, none⟩)) kj kj rfl (fun W => by kernel_rfl) ?_
  refine QaX (.int .i64 4) kj kj kj rfl (fun W hW => (Qae 3 _ g63 1 216 _ (.int .i64 4) _ hW rfl kj kj kj)) ?_
  refine Qap (.pointer (some ⟨g63, 2, none⟩)) kj kj rfl (fun W => by kernel_rfl) ?_
  refine QaX (.int .i64 9) kj kj kj rfl (fun W hW => (Qae 3 _ g63 2 216 _ (.int .i64 9) _ hW rfl kj kj kj)) ?_
  refine Qap (.pointer (some ⟨g63, 3, none⟩)) kj kj rfl (fun W => by kernel_rfl) ?_
  refine QaX (.int .i64 14) kj kj kj rfl (fun W hW => (Qae 3 _ g63 3 216 _ (.int .i64 14) _ hW rfl kj kj kj)) ?_
  refine Qap (.pointer (some ⟨g63, 0, none⟩)) kj kj rfl (fun W => by kernel_rfl) ?_
  refine Qa2 (.int .i64 3) kj kj kj rfl (fun W hR => (Qae 3 _ g63 0 216 _ (.int .i64 3) _ (Qad (Qad r63_57 (Qai _)) hR) rfl kj kj kj)) ?_
  refine Qap (.pointer (some ⟨g8, 3, none⟩)) kj kj rfl (fun W => by kernel_rfl) ?_
  have r8_56 := (Qad r8_55_58 e56)
  have r8_57 := (Puts.row p57 r8_56 (Qag r8_55_58 l63))
  refine Qa2 (.int .u32 (wv (wget x7 3))) kj kj kj rfl (fun W hR => (Qae 162 _ g8 3 199 _ (.int .u32 (wv (wget x7 3))) _ (Qad (Qad r8_57 (Qai _)) hR) rfl kj ((Qay _ _ _ (Nat.lt_of_lt_of_eq (by decide) (Qa4 h7).symm)).trans (congrArg (fun z => some (Value.int .u32 z)) (QaK x7 3))) kj)) ?_
  refine Qap (.pointer (some ⟨g63, 1, none⟩)) kj kj rfl (fun W => by kernel_rfl) ?_
  refine Qa2 (.int .i64 4) kj kj kj rfl (fun W hR => (Qae 3 _ g63 1 216 _ (.int .i64 4) _ (Qad (Qad r63_57 (Qai _)) hR) rfl kj kj kj)) ?_
  refine Qap (.pointer (some ⟨g8, 4, none⟩)) kj kj rfl (fun W => by kernel_rfl) ?_
  refine Qa2 (.int .u32 (wv (wget x7 4))) kj kj kj rfl (fun W hR => (Qae 162 _ g8 4 199 _ (.int .u32 (wv (wget x7 4))) _ (Qad (Qad r8_57 (Qai _)) hR) rfl kj ((Qay _ _ _ (Nat.lt_of_lt_of_eq (by decide) (Qa4 h7).symm)).trans (congrArg (fun z => some (Value.int .u32 z)) (QaK x7 4))) kj)) ?_
  refine Qap (.pointer (some ⟨g63, 2, none⟩)) kj kj rfl (fun W => by kernel_rfl) ?_
  refine Qa2 (.int .i64 9) kj kj kj rfl (fun W hR => (Qae 3 _ g63 2 216 _ (.int .i64 9) _ (Qad (Qad r63_57 (Qai _)) hR) rfl kj kj kj)) ?_
  refine Qap (.pointer (some ⟨g8, 9, none⟩)) kj kj rfl (fun W => by kernel_rfl) ?_
  refine Qa2 (.int .u32 (wv (wget x7 9))) kj kj kj rfl (fun W hR => (Qae 162 _ g8 9 199 _ (.int .u32 (wv (wget x7 9))) _ (Qad (Qad r8_57 (Qai _)) hR) rfl kj ((Qay _ _ _ (Nat.lt_of_lt_of_eq (by decide) (Qa4 h7).symm)).trans (congrArg (fun z => some (Value.int .u32 z)) (QaK x7 9))) kj)) ?_
  refine Qap (.pointer (some ⟨g63, 3, none⟩)) kj kj rfl (fun W => by kernel_rfl) ?_
  refine Qa2 (.int .i64 14) kj kj kj rfl (fun W hR => (Qae 3 _ g63 3 216 _ (.int .i64 14) _ (Qad (Qad r63_57 (Qai _)) hR) rfl kj kj kj)) ?_
  refine Qap (.pointer (some ⟨g8, 14, none⟩)) kj kj rfl (fun W => by kernel_rfl) ?_
  refine Qa2 (.int .u32 (wv (wget x7 14))) kj kj kj rfl (fun W hR => (Qae 162 _ g8 14 199 _ (.int .u32 (wv (wget x7 14))) _ (Qad (Qad r8_57 (Qai _)) hR) rfl kj ((Qay _ _ _ (Nat.lt_of_lt_of_eq (by decide) (Qa4 h7).symm)).trans (congrArg (fun z => some (Value.int .u32 z)) (QaK x7 14))) kj)) ?_
  refine Qdk (.tuple #[.int .u32 (wv (qA2 (wget x7 3) (wget x7 4) (wget x7 9) (wget x7 14))), .int .u32 (wv (qB2 (wget x7 3) (wget x7 4) (wget x7 9) (wget x7 14))), .int .u32 (wv (qC2 (wget x7 3) (wget x7 4) (wget x7 9) (wget x7 14))), .int .u32 (wv (qD2 (wget x7 3) (wget x7 4) (wget x7 9) (wget x7 14)))]) 156 #[.int .u32 (wv (wget x7 3)), .int .u32 (wv (wget x7 4)), .int .u32 (wv (wget x7 9)), .int .u32 (wv (wget x7 14))] kj kj kj rfl (fun W => by kernel_rfl) (fun W hR => (QbW (wget x7 3) (wget x7 4) (wget x7 9) (wget x7 14)) W) ?_
  refine Qap (.tuple #[.int .u32 (wv (qA2 (wget x7 3) (wget x7 4) (wget x7 9) (wget x7 14))), .int .u32 (wv (qB2 (wget x7 3) (wget x7 4) (wget x7 9) (wget x7 14))), .int .u32 (wv (qC2 (wget x7 3) (wget x7 4) (wget x7 9) (wget x7 14))), .int .u32 (wv (qD2 (wget x7 3) (wget x7 4) (wget x7 9) (wget x7 14)))]) kj kj rfl (fun W => by kernel_rfl) ?_
  refine Qap (.int .u32 (wv (qA2 (wget x7 3) (wget x7 4) (wget x7 9) (wget x7 14)))) kj kj rfl (fun W => by kernel_rfl) ?_
  refine Qap (.int .u32 (wv (qB2 (wget x7 3) (wget x7 4) (wget x7 9) (wget x7 14)))) kj kj rfl (fun W => by kernel_rfl) ?_
  refine Qap (.int .u32 (wv (qC2 (wget x7 3) (wget x7 4) (wget x7 9) (wget x7 14)))) kj kj rfl (fun W => by kernel_rfl) ?_
  refine Qap (.int .u32 (wv (qD2 (wget x7 3) (wget x7 4) (wget x7 9) (wget x7 14)))) kj kj rfl (fun W => by kernel_rfl) ?_
  refine Qap (.pointer (some ⟨g8, 3, none⟩)) kj kj rfl (fun W => by kernel_rfl) ?_
  refine QaJ rfl ?_
  refine Qap (.pointer (some ⟨g8, 4, none⟩)) kj kj rfl (fun W => by kernel_rfl) ?_
  refine QaJ rfl ?_
  refine Qap (.pointer (some ⟨g8, 9, none⟩)) kj kj rfl (fun W => by kernel_rfl) ?_
  refine QaJ rfl ?_
  refine Qap (.pointer (some ⟨g8, 14, none⟩)) kj kj rfl (fun W => by kernel_rfl) ?_
  refine QaJ rfl ?_
  refine Qd7 (hF _ kj fun W58 e58 => ?_)
  simp only [List.nil_append, List.cons_append, fins, up]
  clear hF
  have x58 : Ext w W58 := Ext.tr x57 e58
  have r8_58 := (Qad r8_57 e58)
  have r63_58 := (Qad r63_57 e58)
  refine Qa9 _ g8 _ (ints .u32 ((x7.map wv).set 3 (wv (qA2 (wget x7 3) (wget x7 4) (wget x7 9) (wget x7 14))))) 199 r8_58 rfl (Qak 162 _ _ g8 3 199 _ _ r8_58 rfl kj kj kj (Nat.lt_of_lt_of_eq (show 3 < 16 by decide) (Qa4 h7).symm)) (fun W hp => Puts.row hp r63_58 (Qal r8_55_58 l63)) fun W59 p59 r8_59 => ?_
  have x59 : Ext w W59 := Puts.ext p59 x58 b8
  have r63_59 := (Puts.row p59 r63_58 (Qal r8_55_58 l63))
  refine Qa9 _ g8 _ (ints .u32 (((x7.map wv).set 3 (wv (qA2 (wget x7 3) (wget x7 4) (wget x7 9) (wget x7 14)))).set 4 (wv (qB2 (wget x7 3) (wget x7 4) (wget x7 9) (wget x7 14))))) 199 r8_59 rfl (Qak 162 _ _ g8 4 199 _ _ r8_59 rfl kj kj kj (Nat.lt_of_lt_of_eq (show 4 < 16 by decide) ((List.length_set ..).trans (Qa4 h7)).symm)) (fun W hp => Puts.row hp r63_59 (Qal r8_55_58 l63)) fun W60 p60 r8_60 => ?_
  have x60 : Ext w W60 := Puts.ext p60 x59 b8
  have r63_60 := (Puts.row p60 r63_59 (Qal r8_55_58 l63))
  refine Qa9 _ g8 _ (ints .u32 ((((x7.map wv).set 3 (wv (qA2 (wget x7 3) (wget x7 4) (wget x7 9) (wget x7 14)))).set 4 (wv (qB2 (wget x7 3) (wget x7 4) (wget x7 9) (wget x7 14)))).set 9 (wv (qC2 (wget x7 3) (wget x7 4) (wget x7 9) (wget x7 14))))) 199 r8_60 rfl (Qak 162 _ _ g8 9 199 _ _ r8_60 rfl kj kj kj (Nat.lt_of_lt_of_eq (show 9 < 16 by decide) ((List.length_set ..).trans ((List.length_set ..).trans (Qa4 h7))).symm)) (fun W hp => Puts.row hp r63_60 (Qal r8_55_58 l63)) fun W61 p61 r8_61 => ?_
  have x61 : Ext w W61 := Puts.ext p61 x60 b8
  have r63_61 := (Puts.row p61 r63_60 (Qal r8_55_58 l63))
  refine Qa9 _ g8 _ (ints .u32 (((((x7.map wv).set 3 (wv (qA2 (wget x7 3) (wget x7 4) (wget x7 9) (wget x7 14)))).set 4 (wv (qB2 (wget x7 3) (wget x7 4) (wget x7 9) (wget x7 14)))).set 9 (wv (qC2 (wget x7 3) (wget x7 4) (wget x7 9) (wget x7 14)))).set 14 (wv (qD2 (wget x7 3) (wget x7 4) (wget x7 9) (wget x7 14))))) 199 r8_61 rfl (Qak 162 _ _ g8 14 199 _ _ r8_61 rfl kj kj kj (Nat.lt_of_lt_of_eq (show 14 < 16 by decide) ((List.length_set ..).trans ((List.length_set ..).trans ((List.length_set ..).trans (Qa4 h7)))).symm)) (fun W hp => Puts.row hp r63_61 (Qal r8_55_58 l63)) fun W62 p62 r8_62 => ?_
  have x62 : Ext w W62 := Puts.ext p62 x61 b8
  refine Qcw ?_
  obtain ⟨x8, ex8⟩ : ∃ z : List Wd, z = qrt x7 3 4 9 14 := ⟨_, rfl⟩
  have h8 : x8.length = 16 := by rw [ex8, Qcp, h7]
  have r8_62_64 : W62.heap[g8]? = some (.cells (ints .u32 (x8.map wv)) 199) := QaD r8_62 (by rw [ex8]; unfold qrt; simp only [List.map_set])
  refine hK61 _ _ ?_
  refine Qab ?_
  refine Qaa (.int .i64 8) 56 rfl kj kj ?_
  refine Qaa (.int .i64 8) 19 rfl kj kj ?_
  refine Qac ?_
  show Code.rounds _ _ _ 1 _ _
  show Code.wp _ _ (Exit.then (Code.rounds _ _ _ 0) _) _ _
  refine wp_seq_k fun K65 hK65 => ?_
  refine Qab ?_
  refine Qaa (.bool false) 20 rfl kj kj ?_
  refine Qac ?_
  refine hK65 _ _ ?_
  refine wp_seq_k fun K66 hK66 => ?_
  refine cond_false kj ?_
  refine wp_exit ?_
  refine hK14 _ _ ?_
  refine Qab ?_
  refine Qaa (.int .i64 ((i + 1 : Nat) : Int)) 57 rfl kj (Qah (u := .int .i64 (IntKind.i64.wrap (((i : Nat) : Int) + 1))) kj (congrArg (Value.int .i64) (i64n _ _ (by omega) (by omega)))) ?_
  refine Qaa (.int .i64 ((i + 1 : Nat) : Int)) 16 rfl kj kj ?_
  refine Qac ?_
  repeat (first | with_reducible refine goX1 ?_ | with_reducible refine goX2 ?_ | with_reducible refine goX3 ?_)
  exact QaQ (i + 1) ⟨rfl, rfl, rfl, rfl, trivial⟩ ⟨(by omega), (QaD r8_62_64 (by rw [ex8, ex7, ex6, ex5, ex4, ex3, ex2, ex1, ex0]; rfl)), (Qax.puts (Qax.puts (Qax.puts (Qax.puts (Qax.step (Qax.puts (Qax.step (Qax.puts (Qax.puts (Qax.puts (Qax.puts (Qax.step (Qax.puts (Qax.step (Qax.puts (Qax.puts (Qax.puts (Qax.puts (Qax.step (Qax.puts (Qax.step (Qax.puts (Qax.puts (Qax.puts (Qax.puts (Qax.step (Qax.puts (Qax.step (Qax.puts (Qax.puts (Qax.puts (Qax.puts (Qax.step (Qax.puts (Qax.step (Qax.puts (Qax.puts (Qax.puts (Qax.puts (Qax.step (Qax.puts (Qax.step (Qax.puts (Qax.puts (Qax.puts (Qax.puts (Qax.step (Qax.puts (Qax.step (Qax.puts (Qax.puts (Qax.puts (Qax.puts (Qax.step (Qax.puts (Qax.step q6 e7) p8 (.inr (Nat.le_trans (Qax.size q6) (Nat.le_trans (Nat.le_refl _) l21)))) e9) p10 (.inl (by simp))) p11 (.inl (by simp))) p12 (.inl (by simp))) p13 (.inl (by simp))) e14) p15 (.inr (Nat.le_trans (Qax.size q6) (Nat.le_trans (Nat.le_trans (Nat.le_trans (Nat.le_trans (Nat.le_trans (Nat.le_trans (Nat.le_trans (Nat.le_trans (Nat.le_refl _) e7.size) (Nat.le_of_eq p8.2.2.2.1.symm)) e9.size) (Nat.le_of_eq p10.2.2.2.1.symm)) (Nat.le_of_eq p11.2.2.2.1.symm)) (Nat.le_of_eq p12.2.2.2.1.symm)) (Nat.le_of_eq p13.2.2.2.1.symm)) l27)))) e16) p17 (.inl (by simp))) p18 (.inl (by simp))) p19 (.inl (by simp))) p20 (.inl (by simp))) e21) p22 (.inr (Nat.le_trans (Qax.size q6) (Nat.le_trans (Nat.le_trans (Nat.le_trans (Nat.le_trans (Nat.le_trans (Nat.le_trans (Nat.le_trans (Nat.le_trans (Nat.le_trans (Nat.le_trans (Nat.le_trans (Nat.le_trans (Nat.le_trans (Nat.le_trans (Nat.le_trans (Nat.le_refl _) e7.size) (Nat.le_of_eq p8.2.2.2.1.symm)) e9.size) (Nat.le_of_eq p10.2.2.2.1.symm)) (Nat.le_of_eq p11.2.2.2.1.symm)) (Nat.le_of_eq p12.2.2.2.1.symm)) (Nat.le_of_eq p13.2.2.2.1.symm)) e14.size) (Nat.le_of_eq p15.2.2.2.1.symm)) e16.size) (Nat.le_of_eq p17.2.2.2.1.symm)) (Nat.le_of_eq p18.2.2.2.1.symm)) (Nat.le_of_eq p19.2.2.2.1.symm)) (Nat.le_of_eq p20.2.2.2.1.symm)) l33)))) e23) p24 (.inl (by simp))) p25 (.inl (by simp))) p26 (.inl (by simp))) p27 (.inl (by simp))) e28) p29 (.inr (Nat.le_trans (Qax.size q6) (Nat.le_trans (Nat.le_trans (Nat.le_trans (Nat.le_trans (Nat.le_trans (Nat.le_trans (Nat.le_trans (Nat.le_trans (Nat.le_trans (Nat.le_trans (Nat.le_trans (Nat.le_trans (Nat.le_trans (Nat.le_trans (Nat.le_trans (Nat.le_trans (Nat.le_trans (Nat.le_trans (Nat.le_trans (Nat.le_trans (Nat.le_trans (Nat.le_trans (Nat.le_refl _) e7.size) (Nat.le_of_eq p8.2.2.2.1.symm)) e9.size) (Nat.le_of_eq p10.2.2.2.1.symm)) (Nat.le_of_eq p11.2.2.2.1.symm)) (Nat.le_of_eq p12.2.2.2.1.symm)) (Nat.le_of_eq p13.2.2.2.1.symm)) e14.size) (Nat.le_of_eq p15.2.2.2.1.symm)) e16.size) (Nat.le_of_eq p17.2.2.2.1.symm)) (Nat.le_of_eq p18.2.2.2.1.symm)) (Nat.le_of_eq p19.2.2.2.1.symm)) (Nat.le_of_eq p20.2.2.2.1.symm)) e21.size) (Nat.le_of_eq p22.2.2.2.1.symm)) e23.size) (Nat.le_of_eq p24.2.2.2.1.symm)) (Nat.le_of_eq p25.2.2.2.1.symm)) (Nat.le_of_eq p26.2.2.2.1.symm)) (Nat.le_of_eq p27.2.2.2.1.symm)) l39)))) e30) p31 (.inl (by simp))) p32 (.inl (by simp))) p33 (.inl (by simp))) p34 (.inl (by simp))) e35) p36 (.inr (Nat.le_trans (Qax.size q6) (Nat.le_trans (Nat.le_trans (Nat.le_trans (Nat.le_trans (Nat.le_trans (Nat.le_trans (Nat.le_trans (Nat.le_trans (Nat.le_trans (Nat.le_trans (Nat.le_trans (Nat.le_trans (Nat.le_trans (Nat.le_trans (Nat.le_trans (Nat.le_trans (Nat.le_trans (Nat.le_trans (Nat.le_trans (Nat.le_trans (Nat.le_trans (Nat.le_trans (Nat.le_trans (Nat.le_trans (Nat.le_trans (Nat.le_trans (Nat.le_trans (Nat.le_trans (Nat.le_trans (Nat.le_refl _) e7.size) (Nat.le_of_eq p8.2.2.2.1.symm)) e9.size) (Nat.le_of_eq p10.2.2.2.1.symm)) (Nat.le_of_eq p11.2.2.2.1.symm)) (Nat.le_of_eq p12.2.2.2.1.symm)) (Nat.le_of_eq p13.2.2.2.1.symm)) e14.size) (Nat.le_of_eq p15.2.2.2.1.symm)) e16.size) (Nat.le_of_eq p17.2.2.2.1.symm)) (Nat.le_of_eq p18.2.2.2.1.symm)) (Nat.le_of_eq p19.2.2.2.1.symm)) (Nat.le_of_eq p20.2.2.2.1.symm)) e21.size) (Nat.le_of_eq p22.2.2.2.1.symm)) e23.size) (Nat.le_of_eq p24.2.2.2.1.symm)) (Nat.le_of_eq p25.2.2.2.1.symm)) (Nat.le_of_eq p26.2.2.2.1.symm)) (Nat.le_of_eq p27.2.2.2.1.symm)) e28.size) (Nat.le_of_eq p29.2.2.2.1.symm)) e30.size) (Nat.le_of_eq p31.2.2.2.1.symm)) (Nat.le_of_eq p32.2.2.2.1.symm)) (Nat.le_of_eq p33.2.2.2.1.symm)) (Nat.le_of_eq p34.2.2.2.1.symm)) l45)))) e37) p38 (.inl (by simp))) p39 (.inl (by simp))) p40 (.inl (by simp))) p41 (.inl (by simp))) e42) p43 (.inr (Nat.le_trans (Qax.size q6) (Nat.le_trans (Nat.le_trans (Nat.le_trans (Nat.le_trans (Nat.le_trans (Nat.le_trans (Nat.le_trans (Nat.le_trans (Nat.le_trans (Nat.le_trans (Nat.le_trans (Nat.le_trans (Nat.le_trans (Nat.le_trans (Nat.le_trans (Nat.le_trans (Nat.le_trans (Nat.le_trans (Nat.le_trans (Nat.le_trans (Nat.le_trans (Nat.le_trans (Nat.le_trans (Nat.le_trans (Nat.le_trans (Nat.le_trans (Nat.le_trans (Nat.le_trans (Nat.le_trans (Nat.le_trans (Nat.le_trans (Nat.le_trans (Nat.le_trans (Nat.le_trans (Nat.le_trans (Nat.le_trans (Nat.le_refl _) e7.size) (Nat.le_of_eq p8.2.2.2.1.symm)) e9.size) (Nat.le_of_eq p10.2.2.2.1.symm)) (Nat.le_of_eq p11.2.2.2.1.symm)) (Nat.le_of_eq p12.2.2.2.1.symm)) (Nat.le_of_eq p13.2.2.2.1.symm)) e14.size) (Nat.le_of_eq p15.2.2.2.1.symm)) e16.size) (Nat.le_of_eq p17.2.2.2.1.symm)) (Nat.le_of_eq p18.2.2.2.1.symm)) (Nat.le_of_eq p19.2.2.2.1.symm)) (Nat.le_of_eq p20.2.2.2.1.symm)) e21.size) (Nat.le_of_eq p22.2.2.2.1.symm)) e23.size) (Nat.le_of_eq p24.2.2.2.1.symm)) (Nat.le_of_eq p25.2.2.2.1.symm)) (Nat.le_of_eq p26.2.2.2.1.symm)) (Nat.le_of_eq p27.2.2.2.1.symm)) e28.size) (Nat.le_of_eq p29.2.2.2.1.symm)) e30.size) (Nat.le_of_eq p31.2.2.2.1.symm)) (Nat.le_of_eq p32.2.2.2.1.symm)) (Nat.le_of_eq p33.2.2.2.1.symm)) (Nat.le_of_eq p34.2.2.2.1.symm)) e35.size) (Nat.le_of_eq p36.2.2.2.1.symm)) e37.size) (Nat.le_of_eq p38.2.2.2.1.symm)) (Nat.le_of_eq p39.2.2.2.1.symm)) (Nat.le_of_eq p40.2.2.2.1.symm)) (Nat.le_of_eq p41.2.2.2.1.symm)) l51)))) e44) p45 (.inl (by simp))) p46 (.inl (by simp))) p47 (.inl (by simp))) p48 (.inl (by simp))) e49) p50 (.inr (Nat.le_trans (Qax.size q6) (Nat.le_trans (Nat.le_trans (Nat.le_trans (Nat.le_trans (Nat.le_trans (Nat.le_trans (Nat.le_trans (Nat.le_trans (Nat.le_trans (Nat.le_trans (Nat.le_trans (Nat.le_trans (Nat.le_trans (Nat.le_trans (Nat.le_trans (Nat.le_trans (Nat.le_trans (Nat.le_trans (Nat.le_trans (Nat.le_trans (Nat.le_trans (Nat.le_trans (Nat.le_trans (Nat.le_trans (Nat.le_trans (Nat.le_trans (Nat.le_trans (Nat.le_trans (Nat.le_trans (Nat.le_trans (Nat.le_trans (Nat.le_trans (Nat.le_trans (Nat.le_trans (Nat.le_trans (Nat.le_trans (Nat.le_trans (Nat.le_trans (Nat.le_trans (Nat.le_trans (Nat.le_trans (Nat.le_trans (Nat.le_trans (Nat.le_refl _) e7.size) (Nat.le_of_eq p8.2.2.2.1.symm)) e9.size) (Nat.le_of_eq p10.2.2.2.1.symm)) (Nat.le_of_eq p11.2.2.2.1.symm)) (Nat.le_of_eq p12.2.2.2.1.symm)) (Nat.le_of_eq p13.2.2.2.1.symm)) e14.size) (Nat.le_of_eq p15.2.2.2.1.symm)) e16.size) (Nat.le_of_eq p17.2.2.2.1.symm)) (Nat.le_of_eq p18.2.2.2.1.symm)) (Nat.le_of_eq p19.2.2.2.1.symm)) (Nat.le_of_eq p20.2.2.2.1.symm)) e21.size) (Nat.le_of_eq p22.2.2.2.1.symm)) e23.size) (Nat.le_of_eq p24.2.2.2.1.symm)) (Nat.le_of_eq p25.2.2.2.1.symm)) (Nat.le_of_eq p26.2.2.2.1.symm)) (Nat.le_of_eq p27.2.2.2.1.symm)) e28.size) (Nat.le_of_eq p29.2.2.2.1.symm)) e30.size) (Nat.le_of_eq p31.2.2.2.1.symm)) (Nat.le_of_eq p32.2.2.2.1.symm)) (Nat.le_of_eq p33.2.2.2.1.symm)) (Nat.le_of_eq p34.2.2.2.1.symm)) e35.size) (Nat.le_of_eq p36.2.2.2.1.symm)) e37.size) (Nat.le_of_eq p38.2.2.2.1.symm)) (Nat.le_of_eq p39.2.2.2.1.symm)) (Nat.le_of_eq p40.2.2.2.1.symm)) (Nat.le_of_eq p41.2.2.2.1.symm)) e42.size) (Nat.le_of_eq p43.2.2.2.1.symm)) e44.size) (Nat.le_of_eq p45.2.2.2.1.symm)) (Nat.le_of_eq p46.2.2.2.1.symm)) (Nat.le_of_eq p47.2.2.2.1.symm)) (Nat.le_of_eq p48.2.2.2.1.symm)) l57)))) e51) p52 (.inl (by simp))) p53 (.inl (by simp))) p54 (.inl (by simp))) p55 (.inl (by simp))) e56) p57 (.inr (Nat.le_trans (Qax.size q6) (Nat.le_trans (Nat.le_trans (Nat.le_trans (Nat.le_trans (Nat.le_trans (Nat.le_trans (Nat.le_trans (Nat.le_trans (Nat.le_trans (Nat.le_trans (Nat.le_trans (Nat.le_trans (Nat.le_trans (Nat.le_trans (Nat.le_trans (Nat.le_trans (Nat.le_trans (Nat.le_trans (Nat.le_trans (Nat.le_trans (Nat.le_trans (Nat.le_trans (Nat.le_trans (Nat.le_trans (Nat.le_trans (Nat.le_trans (Nat.le_trans (Nat.le_trans (Nat.le_trans (Nat.le_trans (Nat.le_trans (Nat.le_trans (Nat.le_trans (Nat.le_trans (Nat.le_trans (Nat.le_trans (Nat.le_trans (Nat.le_trans (Nat.le_trans (Nat.le_trans (Nat.le_trans (Nat.le_trans (Nat.le_trans (Nat.le_trans (Nat.le_trans (Nat.le_trans (Nat.le_trans (Nat.le_trans (Nat.le_trans (Nat.le_trans (Nat.le_refl _) e7.size) (Nat.le_of_eq p8.2.2.2.1.symm)) e9.size) (Nat.le_of_eq p10.2.2.2.1.symm)) (Nat.le_of_eq p11.2.2.2.1.symm)) (Nat.le_of_eq p12.2.2.2.1.symm)) (Nat.le_of_eq p13.2.2.2.1.symm)) e14.size) (Nat.le_of_eq p15.2.2.2.1.symm)) e16.size) (Nat.le_of_eq p17.2.2.2.1.symm)) (Nat.le_of_eq p18.2.2.2.1.symm)) (Nat.le_of_eq p19.2.2.2.1.symm)) (Nat.le_of_eq p20.2.2.2.1.symm)) e21.size) (Nat.le_of_eq p22.2.2.2.1.symm)) e23.size) (Nat.le_of_eq p24.2.2.2.1.symm)) (Nat.le_of_eq p25.2.2.2.1.symm)) (Nat.le_of_eq p26.2.2.2.1.symm)) (Nat.le_of_eq p27.2.2.2.1.symm)) e28.size) (Nat.le_of_eq p29.2.2.2.1.symm)) e30.size) (Nat.le_of_eq p31.2.2.2.1.symm)) (Nat.le_of_eq p32.2.2.2.1.symm)) (Nat.le_of_eq p33.2.2.2.1.symm)) (Nat.le_of_eq p34.2.2.2.1.symm)) e35.size) (Nat.le_of_eq p36.2.2.2.1.symm)) e37.size) (Nat.le_of_eq p38.2.2.2.1.symm)) (Nat.le_of_eq p39.2.2.2.1.symm)) (Nat.le_of_eq p40.2.2.2.1.symm)) (Nat.le_of_eq p41.2.2.2.1.symm)) e42.size) (Nat.le_of_eq p43.2.2.2.1.symm)) e44.size) (Nat.le_of_eq p45.2.2.2.1.symm)) (Nat.le_of_eq p46.2.2.2.1.symm)) (Nat.le_of_eq p47.2.2.2.1.symm)) (Nat.le_of_eq p48.2.2.2.1.symm)) e49.size) (Nat.le_of_eq p50.2.2.2.1.symm)) e51.size) (Nat.le_of_eq p52.2.2.2.1.symm)) (Nat.le_of_eq p53.2.2.2.1.symm)) (Nat.le_of_eq p54.2.2.2.1.symm)) (Nat.le_of_eq p55.2.2.2.1.symm)) l63)))) e58) p59 (.inl (by simp))) p60 (.inl (by simp))) p61 (.inl (by simp))) p62 (.inl (by simp))), x62⟩ (by omega)
 ·skip
  have heq17 : i = 10 := by have := of_decide_eq_false c13; omega
  obtain ⟨xF, exF⟩ : ∃ z : List Wd, z = rounds s 10 := ⟨_, rfl⟩
  have hxF : xF.length = 16 := by rw [exF, Qde, hs]
  subst heq17
  have r8_6_67 : V1.heap[g8]? = some (.cells (ints .u32 (xF.map wv)) 199) := QaD q8_1 (by rw [exF])
  refine wp_exit ?_
  refine hK9 _ _ ?_
  refine wp_seq_k fun K68 hK68 => ?_
  refine Qab ?_
  refine Qas (ints .u8 (List.replicate 64 0)) 164 8 rfl kj kj fun g69 W7 l69 e7 r69_7 => ?_
  have x7 : Ext w W7 := Ext.tr xx1 e7
  have b69 : w.heap.size ≤ g69 := Nat.le_trans xx1.size l69
  refine Qac ?_
  refine hK68 _ _ ?_
  refine wp_seq_k fun K70 hK70 => ?_
  refine wp_seq_k fun K71 hK71 => ?_
  refine Qab ?_
  refine Qaa (.int .i64 0) 58 rfl kj kj ?_
  refine Qac ?_
  refine hK71 _ _ ?_
  refine wp_block ?_
  have hP : (Qb6 xF s).length = 64 := QdR _ _
  refine Qbb (fun (s2 : Nat) => [(2, .pointer (some ⟨g3, 0, none⟩)), (4, .pointer (some ⟨g4, 0, none⟩)), (5, .pointer (some ⟨g8, 0, none⟩)), (8, .pointer (some ⟨g69, 0, none⟩)), (58, .int .i64 ((s2 : Nat) : Int))]) (fun (s2 : Nat) W => (s2 ≤ 16) ∧ (W.heap[g69]? = some (.cells (ints .u8 (Qbl (Qb6 xF s) 64 (4 * s2))) 164)) ∧ (Qax [g69] W7 W) ∧ (Ext w W)) (fun (s2 : Nat) => 16 - s2) 0 ⟨rfl, rfl, rfl, rfl, rfl, trivial⟩ ⟨(Nat.zero_le _), (QaD r69_7 (QbC _ 64)), (Qax.refl [g69] W7), x7⟩ fun s2 X2 V2 hI2 => ?_
  obtain ⟨i, hs2⟩ : ∃ z, z = s2 := ⟨_, rfl⟩
  subst hs2
  obtain ⟨hi, q69_2, kk2, xx2⟩ := hI2
  replace hi : i ≤ 16 := hi
  replace q69_2 : V2.heap[g69]? = some (.cells (ints .u8 (Qbl (Qb6 xF s) 64 (4 * i))) 164) := q69_2
  replace kk2 : Qax [g69] W7 V2 := kk2
  replace xx2 : Ext w V2 := xx2
  have q8 := kk2
  refine wp_seq_k fun K72 hK72 => ?_
  refine Qab ?_
  refine Qaa (.bool (decide (((i : Nat) : Int) < 16))) 59 rfl kj kj ?_
  refine Qac ?_
  refine hK72 _ _ ?_
  refine wp_seq_k fun K73 hK73 => ?_
  refine QaM (t := decide (((i : Nat) : Int) < 16)) kj (fun c74 => ?_) (fun c74 => ?_)
  ·skip
   have hlt59 : i < 16 := by have := of_decide_eq_true c74; omega
   refine wp_skip ?_
   refine hK73 _ _ ?_
   refine wp_seq_k fun K75 hK75 => ?_
   refine wp_block ?_
   refine wp_seq_k fun K76 hK76 => ?_
   refine Qab ?_
   refine Qaa (.int .i64 ((i : Nat) : Int)) 60 rfl kj kj ?_
   refine Qaa (.int .i64 ((i : Nat) : Int)) 9 rfl kj kj ?_
   refine Qac ?_
   refine hK76 _ _ ?_
   refine wp_seq_k fun K77 hK77 => ?_
   refine Qbg 7 [⟨none, [(9, none)]⟩, ⟨none, [(5, none), (61, some 0)]⟩, ⟨none, [(62, some 1)]⟩, ⟨none, [(9, none)]⟩, ⟨none, [(2, none), (64, some 3)]⟩, ⟨none, [(65, some 4)]⟩, ⟨none, [(63, some 2), (66, some 5)]⟩] kj kj fun F hF => ?_
   refine Qau (.int .i64 ((i : Nat) : Int)) kj kj (fun W => by kernel_rfl) ?_
   refine Qau (.pointer (some ⟨g8, i, none⟩)) kj kj (fun W => (QaY _ _ _ .i64 (i) _ 16 162 rfl kj kj kj kj (by omega))) ?_
   have r8_7 := (Qad r8_6_67 e7)
   have r8_8 := (Qax.row q8 r8_7 (Qbi (Qag r8_6_67 l69) QbJ))
   refine Qba (.int .u32 (wv (wget xF i))) kj kj (fun W hR => (Qae 162 _ g8 i 199 _ (.int .u32 (wv (wget xF i))) _ (Qad (Qad r8_8 (Qai _)) hR) rfl kj ((Qay _ _ _ (Nat.lt_of_lt_of_eq (by omega) (Qa4 hxF).symm)).trans (congrArg (fun z => some (Value.int .u32 z)) (QaK xF i))) kj)) ?_
   refine Qau (.int .i64 ((i : Nat) : Int)) kj kj (fun W => by kernel_rfl) ?_
   refine Qau (.pointer (some ⟨g3, i, none⟩)) kj kj (fun W => (QaY _ _ _ .i64 (i) _ 16 162 rfl kj kj kj kj (by omega))) ?_
   have r3_4 := (Qad r3_3_6 e4)
   have r3_5 := (Puts.row p5 r3_4 (Qag r3_3_6 l8))
   have r3_6 := (Qax.row q6 r3_5 (Qbi (Qag r3_3_6 l8) QbJ))
   have r3_7 := (Qad r3_6 e7)
   have r3_8 := (Qax.row q8 r3_7 (Qbi (Qag r3_6 l69) QbJ))
   refine Qba (.int .u32 (wv (wget s i))) kj kj (fun W hR => (Qae 162 _ g3 i 199 _ (.int .u32 (wv (wget s i))) _ (Qad (Qad r3_8 (Qai _)) hR) rfl kj ((Qay _ _ _ (Nat.lt_of_lt_of_eq (by omega) (Qa4 hs).symm)).trans (congrArg (fun z => some (Value.int .u32 z)) (QaK s i))) kj)) ?_
   refine Qau (.int .u32 (wv (((wget xF i)) + ((wget s i))))) kj kj (fun W => (Qah (u := .int .u32 (IntKind.u32.wrap (wv (wget xF i) + wv (wget s i)))) kj (congrArg (Value.int .u32) (QfC _ _)))) ?_
   refine Qbn (hF _ kj fun W9 e9 => ?_)
   simp only [ups, up, Kn.val, List.take_succ_cons, List.take_zero, List.drop_succ_cons, List.drop_zero, List.nil_append, List.cons_append]
   clear hF
   have x9 : Ext w W9 := Ext.tr xx2 e9
   refine Qaa (.int .u32 (wv (((wget xF i)) + ((wget s i))))) 10 rfl kj kj ?_
   refine Qac ?_
   refine hK77 _ _ ?_
   refine wp_seq_k fun K78 hK78 => ?_
   refine Qab ?_
   refine Qaa (.int .i64 0) 68 rfl kj kj ?_
   refine Qac ?_
   refine hK78 _ _ ?_
   refine wp_block ?_
   have r69_9 := (Qad q69_2 e9)
   refine Qbb (fun (s3 : Nat) => [(2, .pointer (some ⟨g3, 0, none⟩)), (4, .pointer (some ⟨g4, 0, none⟩)), (5, .pointer (some ⟨g8, 0, none⟩)), (8, .pointer (some ⟨g69, 0, none⟩)), (58, .int .i64 ((i : Nat) : Int)), (9, .int .i64 ((i : Nat) : Int)), (10, .int .u32 (wv (wget xF i + wget s i))), (68, .int .i64 ((s3 : Nat) : Int))]) (fun (s3 : Nat) W => (s3 ≤ 4) ∧ (W.heap[g69]? = some (.cells (ints .u8 (Qbl (Qb6 xF s) 64 (4 * i + s3))) 164)) ∧ (Qax [g69] W9 W) ∧ (Ext w W)) (fun (s3 : Nat) => 4 - s3) 0 ⟨rfl, rfl, rfl, rfl, rfl, rfl, rfl, rfl, trivial⟩ ⟨(Nat.zero_le _), (QaD r69_9 rfl), (Qax.refl [g69] W9), x9⟩ fun s3 X3 V3 hI3 => ?_
   obtain ⟨j, hs3⟩ : ∃ z, z = s3 := ⟨_, rfl⟩
   subst hs3
   obtain ⟨hj, q69_3, kk3, xx3⟩ := hI3
   replace hj : j ≤ 4 := hj
   replace q69_3 : V3.heap[g69]? = some (.cells (ints .u8 (Qbl (Qb6 xF s) 64 (4 * i + j))) 164) := q69_3
   replace kk3 : Qax [g69] W9 V3 := kk3
   replace xx3 : Ext w V3 := xx3
   have q10 := kk3
   refine wp_seq_k fun K79 hK79 => ?_
   refine Qab ?_
   refine Qaa (.bool (decide (((j : Nat) : Int) < 4))) 69 rfl kj kj ?_
   refine Qac ?_
   refine hK79 _ _ ?_
   refine wp_seq_k fun K80 hK80 => ?_
   refine QaM (t := decide (((j : Nat) : Int) < 4)) kj (fun c81 => ?_) (fun c81 => ?_)
   ·skip
    have hlt69 : j < 4 := by have := of_decide_eq_true c81; omega
    refine wp_skip ?_
    refine hK80 _ _ ?_
    refine wp_seq_k fun K82 hK82 => ?_
    refine wp_block ?_
    refine wp_seq_k fun K83 hK83 => ?_
    refine Qab ?_
    refine Qaa (.int .i64 ((j : Nat) : Int)) 70 rfl kj kj ?_
    refine Qaa (.int .i64 ((j : Nat) : Int)) 11 rfl kj kj ?_
    refine Qac ?_
    refine hK83 _ _ ?_
    refine Qab ?_
    refine Qaa (.int .i64 ((i : Nat) : Int)) 71 rfl kj kj ?_
    refine Qaa (.int .i64 ((4 * i : Nat) : Int)) 72 rfl kj (Qah (u := .int .i64 (IntKind.i64.wrap (4 * ((i : Nat) : Int)))) kj (congrArg (Value.int .i64) (i64n _ _ (by omega) (by omega)))) ?_
    refine Qaa (.int .i64 ((j : Nat) : Int)) 73 rfl kj kj ?_
    refine Qaa (.int .i64 (((4 * i) + j : Nat) : Int)) 74 rfl kj (Qah (u := .int .i64 (IntKind.i64.wrap (((4 * i : Nat) : Int) + ((j : Nat) : Int)))) kj (congrArg (Value.int .i64) (i64n _ _ (by omega) (by omega)))) ?_
    refine Qaa (.int .u32 (wv (wget xF i + wget s i))) 75 rfl kj kj ?_
    refine Qaa (.int .i64 ((j : Nat) : Int)) 76 rfl kj kj ?_
    refine Qaa (.int .i64 ((8 * j : Nat) : Int)) 77 rfl kj (Qah (u := .int .i64 (IntKind.i64.wrap (8 * ((j : Nat) : Int)))) kj (congrArg (Value.int .i64) (i64n _ _ (by omega) (by omega)))) ?_
    refine Qaa (.int .u32 (wv ((wget xF i + wget s i) >>> (8 * j)))) 78 rfl kj (QaF .shr _ _ _ _ .u32 .i64 _ _ _ rfl kj kj (Qc5 _ _ _ _ _ _ (by omega) (QhA _ _ (8 * j) rfl (by omega)))) ?_
    refine Qaa (.int .u8 (nth (Qb6 xF s) (4 * i + j))) 79 rfl kj (Qah (u := .int .u8 (IntKind.u8.wrap (wv ((wget xF i + wget s i) >>> (8 * j))))) kj (congrArg (Value.int .u8) (Qiv xF s i j hlt59 hlt69))) ?_
    refine Qaa (.pointer (some ⟨g69, (4 * i) + j, none⟩)) 80 rfl kj (QaY _ _ _ .i64 ((4 * i) + j) _ 64 5 rfl kj kj kj kj (by omega)) ?_
    refine Qaj g69 _ (ints .u8 ((Qbl (Qb6 xF s) 64 (4 * i + j)).set ((4 * i) + j) (nth (Qb6 xF s) (4 * i + j)))) 164 q69_3 rfl kj (Qak 5 _ _ g69 ((4 * i) + j) 164 _ _ q69_3 rfl kj kj kj (Nat.lt_of_lt_of_eq (by omega) (QbR _ 64 _ hP (by omega)).symm)) fun W11 p11 r69_11 => ?_
    have x11 : Ext w W11 := Puts.ext p11 xx3 b69
    refine Qac ?_
    refine hK82 _ _ ?_
    refine Qab ?_
    refine Qaa (.int .i64 ((j + 1 : Nat) : Int)) 81 rfl kj (Qah (u := .int .i64 (IntKind.i64.wrap (((j : Nat) : Int) + 1))) kj (congrArg (Value.int .i64) (i64n _ _ (by omega) (by omega)))) ?_
    refine Qaa (.int .i64 ((j + 1 : Nat) : Int)) 68 rfl kj kj ?_
    refine Qac ?_
    repeat (first | with_reducible refine goX1 ?_ | with_reducible refine goX2 ?_ | with_reducible refine goX3 ?_)
    exact QaQ (j + 1) ⟨rfl, rfl, rfl, rfl, rfl, rfl, rfl, rfl, trivial⟩ ⟨(by omega), (QaD r69_11 (QbD _ 64 (4 * i + j) hP (by omega))), (Qax.puts q10 p11 (.inl (by simp))), x11⟩ (by omega)
   ·skip
    have heq69 : j = 4 := by have := of_decide_eq_false c81; omega
    refine wp_exit ?_
    refine hK75 _ _ ?_
    refine Qab ?_
    refine Qaa (.int .i64 ((i + 1 : Nat) : Int)) 82 rfl kj (Qah (u := .int .i64 (IntKind.i64.wrap (((i : Nat) : Int) + 1))) kj (congrArg (Value.int .i64) (i64n _ _ (by omega) (by omega)))) ?_
    refine Qaa (.int .i64 ((i + 1 : Nat) : Int)) 58 rfl kj kj ?_
    refine Qac ?_
    repeat (first | with_reducible refine goX1 ?_ | with_reducible refine goX2 ?_ | with_reducible refine goX3 ?_)
    exact QaQ (i + 1) ⟨rfl, rfl, rfl, rfl, rfl, trivial⟩ ⟨(by omega), (QaD q69_3 (by rw [heq69]; rfl)), (Qax.keeps (Qax.step q8 e9) q10 (Qho (.inl (by simp)) QhO)), xx3⟩ (by omega)
  ·skip
   have heq59 : i = 16 := by have := of_decide_eq_false c74; omega
   subst heq59
   have r69_8_84 : V2.heap[g69]? = some (.cells (ints .u8 (Qb6 xF s)) 164) := QaD q69_2 (Qb2 _ 64 hP)
   refine wp_exit ?_
   refine hK70 _ _ ?_
   refine wp_seq_k fun K85 hK85 => ?_
   refine Qab ?_
   refine Qaa (.agg (ints .u8 (Qb6 xF s))) 83 rfl kj (Qar 164 _ g69 164 _ _ r69_8_84 rfl kj kj (isz (n := 64) kj ((Qaf _ _).trans hP))) ?_
   have r4_3 := (Puts.row p3 r4_2 (Qal r3_1 l4))
   have r4_4 := (Qad r4_3 e4)
   have r4_5 := (Puts.row p5 r4_4 (Qag r4_3 l8))
   have r4_6 := (Qax.row q6 r4_5 (Qbi (Qag r4_3 l8) QbJ))
   have r4_7 := (Qad r4_6 e7)
   have r4_8 := (Qax.row q8 r4_7 (Qbi (Qag r4_6 l69) QbJ))
   refine Qaj g4 _ (ints .u8 (Qb6 xF s)) 164 r4_8 rfl kj (Qaq 164 _ _ g4 164 _ _ r4_8 rfl kj kj (isz (n := 64) kj ((Qaf _ _).trans hP)) (eqsz (n := 64) ((Qaf _ _).trans (List.length_replicate (n := 64))) ((Qaf _ _).trans hP)) (Qa7 _ _)) fun W9 p9 r4_9 => ?_
   have x9 : Ext w W9 := Puts.ext p9 xx2 b4
   refine Qac ?_
   refine hK85 _ _ ?_
   refine wp_ret ?_
   repeat (first | with_reducible refine goR1 ?_ | with_reducible refine goR2 ?_)
   exact (show bodyPost _ _ _ .ret _ _ from ret1 (.agg (ints .u8 (Qb6 xF s))) rfl (Qbx g4 164 _ r4_9 kj kj (isz (n := 64) kj ((Qaf _ _).trans hP))) ⟨by unfold QaT; rw [exF, es], x9⟩)
end Go.Proofs.YtoiendjhplbjjaaDoor.Cha
end
section
namespace Go.Proofs.YtoiendjhplbjjaaDoor.Cha
open Go Go.RowKit
open Rely Auto Own Sha
set_option linter.unusedVariables false
set_option linter.unusedSimpArgs false
open Sha
def QaE (key nonce : List Int) : List Wd := [1634760805, 857760878, 2036477234, 1797285236, le4 (sub4 key 0), le4 (sub4 key 1), le4 (sub4 key 2), le4 (sub4 key 3), le4 (sub4 key 4), le4 (sub4 key 5), le4 (sub4 key 6), le4 (sub4 key 7), 0, le4 (sub4 nonce 0), le4 (sub4 nonce 1), le4 (sub4 nonce 2)]
theorem Qc7 (key nonce : List Int) : (QaE key nonce).length = 16 := rfl
theorem QgP (key nonce : List Int) : ([1634760805, 857760878, 2036477234, 1797285236, wv (le4 (sub4 key 0)), wv (le4 (sub4 key 1)), wv (le4 (sub4 key 2)), wv (le4 (sub4 key 3)), wv (le4 (sub4 key 4)), wv (le4 (sub4 key 5)), wv (le4 (sub4 key 6)), wv (le4 (sub4 key 7)), 0, wv (le4 (sub4 nonce 0)), wv (le4 (sub4 nonce 1)), wv (le4 (sub4 nonce 2))] : List Int) = (QaE key nonce).map wv := rfl
theorem Qbk (ws : List Wd) (n : Int) : (QaT ws n).length = 64 := QdR _ _
set_option maxRecDepth 100000 in
set_option maxHeartbeats 4000000 in
theorem Qh5 (key nonce : List Int) (v : Value) (B : Nat) (number : Int) (th tq : TypeId) (w : World) (hh : w.heap[2]? = some (.cells (ints .u32 [1634760805, 857760878, 2036477234, 1797285236]) th)) (hq : w.heap[3]? = some (.cells (ints .i64 [0, 4, 8, 12, 1, 5, 9, 13, 2, 6, 10, 14, 3, 7, 11, 15, 0, 5, 10, 15, 1, 6, 11, 12, 2, 7, 8, 13, 3, 4, 9, 14]) tq)) (hkl : key.length = 32) (hn : RdK .u8 B nonce v w) (h : nonce.length = 12) (h1 : 0 ≤ number) (h2 : number ≤ 4294967295) : Calls Tryd.prog 124 #[.agg (ints .u8 key), v, .int .i64 number] w (Ret w (.tuple #[.agg (ints .u8 (QaT (QaE key nonce) number)), .nilIface])) := by
  obtain ⟨a_n, c_n, rfl, -⟩ := id hn
  refine enter 21 [(0, .agg (ints .u8 (key))), (1, .slice a_n nonce.length c_n), (2, .int .i64 number)] Tryd.func124 rfl rfl kj rfl ?_
  refine wp_seq_k fun K3 hK3 => ?_
  refine Qab ?_
  refine Qas (ints .u8 (key)) 23 3 rfl kj kj fun g4 W1 l4 e1 r4_1 => ?_
  have x1 : Ext w W1 := Ext.tr (Rely.Ext.refl w) e1
  have b4 : w.heap.size ≤ g4 := Nat.le_trans (Rely.Ext.refl w).size l4
  refine Qas (ints .u8 (List.replicate 64 0)) 164 6 rfl kj kj fun g5 W2 l5 e2 r5_2 => ?_
  have x2 : Ext w W2 := Ext.tr x1 e2
  have b5 : w.heap.size ≤ g5 := Nat.le_trans x1.size l5
  refine Qaa (.nilIface) 7 rfl kj kj ?_
  refine Qac ?_
  refine hK3 _ _ ?_
  refine wp_seq_k fun K6 hK6 => ?_
  refine wp_seq_k fun K7 hK7 => ?_
  refine Qab ?_
  refine Qaa (.slice a_n nonce.length c_n) 9 rfl kj kj ?_
  refine Qaa (.int .i64 number) 10 rfl kj kj ?_
  refine Qat (.nilIface) 122 #[.slice a_n nonce.length c_n, .int .i64 number] 11 rfl kj kj ((check_D nonce _ _ number _ (RdK.ext hn x2) h h1 h2)) fun W3 e3 => ?_
  have x3 : Ext w W3 := Ext.tr x2 e3
  refine Qaa (.nilIface) 8 rfl kj kj ?_
  refine Qac ?_
  refine hK7 _ _ ?_
  refine wp_seq_k fun K8 hK8 => ?_
  refine Qab ?_
  refine Qaa (.nilIface) 12 rfl kj kj ?_
  refine Qaa (.bool false) 13 rfl kj kj ?_
  refine Qac ?_
  refine hK8 _ _ ?_
  refine cond_false kj ?_
  refine wp_skip ?_
  refine hK6 _ _ ?_
  refine wp_seq_k fun K9 hK9 => ?_
  refine Qab ?_
  have r4_2 := (Qad r4_1 e2)
  have r4_3 := (Qad r4_2 e3)
  refine Qaa (.agg (ints .u8 (key))) 16 rfl kj (Qar 23 _ g4 23 _ _ r4_3 rfl kj kj (isz (n := 32) kj ((Qaf _ _).trans hkl))) ?_
  refine Qaa (.slice a_n nonce.length c_n) 17 rfl kj kj ?_
  have r2_1 := (Qad hh e1)
  have r2_2 := (Qad r2_1 e2)
  have r2_3 := (Qad r2_2 e3)
  refine Qat (.agg (ints .u32 ((QaE key nonce).map wv))) 139 #[.agg (ints .u8 (key)), .slice a_n nonce.length c_n] 18 rfl kj kj ((by rw [← QgP]; exact QgQ key nonce _ _ th _ r2_3 hkl (RdK.ext hn x3) h)) fun W4 e4 => ?_
  have x4 : Ext w W4 := Ext.tr x3 e4
  refine Qaa (.int .i64 number) 19 rfl kj kj ?_
  have r1_1 := (Qad hq e1)
  have r1_2 := (Qad r1_1 e2)
  have r1_3 := (Qad r1_2 e3)
  have r1_4 := (Qad r1_3 e4)
  refine Qat (.agg (ints .u8 (QaT (QaE key nonce) number))) 141 #[.agg (ints .u32 ((QaE key nonce).map wv)), .int .i64 number] 20 rfl kj kj ((QgS (QaE key nonce) number tq _ r1_4 (Qc7 _ _))) fun W5 e5 => ?_
  have x5 : Ext w W5 := Ext.tr x4 e5
  have r5_3 := (Qad r5_2 e3)
  have r5_4 := (Qad r5_3 e4)
  have r5_5 := (Qad r5_4 e5)
  refine Qaj g5 _ (ints .u8 (QaT (QaE key nonce) number)) 164 r5_5 rfl kj (Qaq 164 _ _ g5 164 _ _ r5_5 rfl kj kj (isz (n := 64) kj ((Qaf _ _).trans (Qbk _ _))) (eqsz (n := 64) ((Qaf _ _).trans (List.length_replicate (n := 64))) ((Qaf _ _).trans (Qbk _ _))) (Qa7 _ _)) fun W6 p6 r5_6 => ?_
  have x6 : Ext w W6 := Puts.ext p6 x5 b5
  refine Qaa (.nilIface) 7 rfl kj kj ?_
  refine Qac ?_
  refine hK9 _ _ ?_
  refine wp_ret ?_
  repeat (first | with_reducible refine goR1 ?_ | with_reducible refine goR2 ?_)
  exact (show bodyPost _ _ _ .ret _ _ from ret2 (.agg (ints .u8 (QaT (QaE key nonce) number))) (.nilIface) rfl (Qbx g5 164 _ r5_6 kj kj (isz (n := 64) kj ((Qaf _ _).trans (Qbk _ _)))) (Qa0 kj) ⟨rfl, x6⟩)
end Go.Proofs.YtoiendjhplbjjaaDoor.Cha
end
section
namespace Go.Proofs.YtoiendjhplbjjaaDoor.Cha
open Go Go.RowKit
open Rely Auto Own Sha
set_option linter.unusedVariables false
set_option linter.unusedSimpArgs false
open Sha
theorem QaN {b : List Int} (h : Qan b) (j : Nat) : 0 ≤ nth b j ∧ nth b j < 256 := by
  unfold nth
  rw [List.getD_eq_getElem?_getD]
  rcases Nat.lt_or_ge j b.length with hj | hj
  · rw [List.getElem?_eq_getElem hj]
    have h1 := h _ (List.getElem_mem hj)
    show 0 ≤ b[j] ∧ b[j] < 256
    omega
  · rw [List.getElem?_eq_none hj]; decide
def mxv (text : List Int) (ws : List Wd) (num : Int) (f : Nat → Nat) (m : Nat) : List Int := (List.range m).map fun i => bits .xor .u8 (nth text i) (nth (QaT ws (num + ((f (i / 64) : Nat) : Int))) (i % 64))
def mixV (ws : List Wd) (num : Int) (text : List Int) : List Int := mxv text ws num id text.length
theorem QcL (text : List Int) (ws : List Wd) (num : Int) (f : Nat → Nat) (m : Nat) : (mxv text ws num f m).length = m := by simp [mxv]
end Go.Proofs.YtoiendjhplbjjaaDoor.Cha
end
section
namespace Go.Proofs.YtoiendjhplbjjaaDoor.Sha
open Go Go.RowKit
open Rely Auto Own
set_option linter.unusedVariables false
set_option linter.unusedSimpArgs false
theorem Qec {k : IntKind} {B : Nat} {ys : List Int} {a : Option Addr} {n c : Nat} {W : World} (h : RdK k B ys (.slice a n c) W) (h0 : 0 < ys.length) : ∃ g o, a = some ⟨g, o, none⟩ ∧ g < B ∧ ∀ i, i < ys.length → W.cell? ⟨g, o + i, none⟩ = some (.int k (nth ys i)) := by
  obtain ⟨a', cap', e, h2, h3, h4, h5⟩ := h
  simp only [Value.slice.injEq] at e
  obtain ⟨rfl, -, -⟩ := e
  rcases h5 with h5 | ⟨g, o, q1, q2, q3, q4⟩
  · rw [h5] at h0; simp at h0
  · exact ⟨g, o, q1, q2, q4⟩
section
variable {P : Program} {ρ : Operand → Value} {o : Oper} {w : World}
theorem QaR (t : TypeId) (x y : Operand) (k : IntKind) (n g off len cap : Nat) (e : TypeId) (a : Option Addr) (z : Int) (ha : a = some ⟨g, off, none⟩) (hz : z = (n : Int)) (ho : o.op = .indexAddr t x y) (hx : ρ x = .slice a len cap) (hy : ρ y = .int k z)
    (hu : P.underlying t = some (.slice e)) (hs : (P.info? e).map (·.size) = some 1) (hn : n < len) : (execOp ρ o).run P w = .ok (.value (.pointer (some ⟨g, off + n, none⟩))) w := by
  subst ha; subst hz
  exact Qbr t x y k n g off len cap e ho hx hy hu hs hn
end
theorem QbV {P : Program} {ρ : Operand → Value} {o : Oper} {w : World} (x : Operand) (i : Nat) (vs : Array Value) (u : Value) (ho : o.op = .extract x i) (hx : ρ x = .tuple vs) (hi : vs[i]? = some u) : (execOp ρ o).run P w = .ok (.value u) w := by
  unfold execOp
  simp [ho, hx, Instr.extract, hi]
theorem QhR {k : IntKind} {T : TypeId} {base g : Nat} {xs : List Int} {v : Value} {W : World} (h : OwnN k T base xs v W) (hg : W.heap.size ≤ g) : v.ownBlock ≠ some g := fun e => by have := h.lt e; omega
theorem QhE (zs : List Int) (m : Nat) (y : Int) (h : m < zs.length) : zs.take m ++ [y] ++ zs.drop (m + 1) = zs.set m y := by
  rw [List.set_eq_take_append_cons_drop, if_pos h, List.append_assoc]; rfl
theorem Qet {P : Program} {k : IntKind} {T : TypeId} {b : Nat} {ρ : Operand → Value} {o : Oper} {W : World} (s x : Operand) (t : TypeId) (ho : o.op = .call { callee := .builtin .append, args := #[s, x], argTypes := #[t, t] })
    (ht : P.underlying t = some (.slice T)) (hi : (P.info? T).map (fun i => (i.zero, i.size, i.bytes)) = some (some (.int k 0), 1, b)) {g m n gy : Nat} {zs : List Int} {y : Int} {Ty : TypeId} (hs : ρ s = .slice (some ⟨g, 0, none⟩) m n) (hx : ρ x = .slice (some ⟨gy, 0, none⟩) 1 1)
    (hg : W.heap[g]? = some (.cells (ints k zs) T)) (hz : zs.length = n) (hm : m < n) (hy : W.heap[gy]? = some (.cells (ints k [y]) Ty)) :
    (execOp ρ o).run P W = .ok (.value (.slice (some ⟨g, 0, none⟩) (m + 1) n)) (W.setRow g (ints k (zs.set m y))) := by
  obtain ⟨i, hq, hi1, hi2, hi3⟩ := QhX hi
  have hr := run_append_room (P := P) W t o.type T i ht hq g m n (ints k zs) hg ⟨gy, 0, none⟩ 1 1 ([y].map (Value.int k)) (by simp [hi2]) (Qhq (k := k) (ys := [y]) fun j hj => by rw [Nat.zero_add]; exact QcB hy (Qay k [y] j hj)) (Qhn _ [y]) (by omega) (by rw [hi2, Qaf]; simp; omega)
  have e : ((ints k zs).toList.take (m * i.size) ++ [y].map (Value.int k) ++ (ints k zs).toList.drop (m * i.size + ([y].map (Value.int k)).length)).toArray = ints k (zs.set m y) := by
    rw [← QhE zs m y (by omega), hi2, Nat.mul_one]
    simp [ints]
  rw [e] at hr
  unfold execOp
  simp only [ho, resolve, invoke, builtin, Sem.run_bind, Sem.run_pure, Result.andThen_ok, List.map_toArray, List.map_cons, List.map_nil, hs, hx, hr]
section
variable {ds : List Deferred} {Fe : Fence} {nf : Nat} {P : Program} {ops : Array Oper} {Q : Exit → Act → World → Prop} {rest : List Oper} {o : Oper} {N : Nat} {L : Env} {w : World}
theorem Qhx {g : Nat} {old cs : Array Value} {T : TypeId} (v : Value) (d : Nat) (hd : o.dst = some d) (hF : Free Fe nf P) (hnd : QbA o = true) (hg : QbG ops o N L = some true) (r : w.heap[g]? = some (.cells old T)) (h : (execOp (Rely.look (envN N L)) o).run P w = .ok (.value v) (w.setRow g cs))
    (k : ∀ W' : World, Puts w g W' → W'.heap[g]? = some (.cells cs T) → WLI Fe nf P ops Q rest (Qaw ds N ((d, v) :: L)) W') : WLI Fe nf P ops Q (o :: rest) (Qaw ds N L) w :=
  Qgd _ _ d hd hF hnd hg h (k _ (Qb9 _ _ _) (setRow_heap _ _ _ _ _ _ r))
end
section
variable {ds : List Deferred} {P : Program} {ops : Array Oper} {Q : Exit → Act → World → Prop} {rest : List Oper} {o : Oper} {N : Nat} {L : Env} {w : World}
theorem QfH (cs : Array Value) (T : TypeId) (m n d : Nat) (hd : o.dst = some d) (hg : QbG ops o N L = some true) (h : (execOp (Rely.look (envN N L)) o).run P w = .ok (.value (.slice (some ⟨w.heap.size, 0, none⟩) m n)) (w.alloc (.cells cs T)))
    (k : ∀ (g : Nat) (W : World), w.heap.size ≤ g → Ext w W → W.heap[g]? = some (.cells cs T) → WL P ops Q rest (Qaw ds N ((d, .slice (some ⟨g, 0, none⟩) m n) :: L)) W) : WL P ops Q (o :: rest) (Qaw ds N L) w :=
  Qcm _ _ d hd hg h (k _ _ (Nat.le_refl _) (QbK _ _) (heap_alloc_new _ _))
end
theorem QfK {P : Program} {ρ : Operand → Value} {o : Oper} {w : World} {k : IntKind} (t : TypeId) (x y : Operand) (kl kc : IntKind) (m n : Nat) (e : TypeId) (ho : o.op = .makeSlice t x y) (hx : ρ x = .int kl m) (hy : ρ y = .int kc n)
    (hu : P.underlying t = some (.slice e)) (hi : (P.info? e).map (fun i => (i.zero, i.size, i.bytes)) = some (some (.int k 0), 1, 8) ∨ (P.info? e).map (fun i => (i.zero, i.size, i.bytes)) = some (some (.int k 0), 1, 1)) (hm : m ≤ n) (hn : n ≤ 16777216) :
    (execOp ρ o).run P w = .ok (.value (.slice (some ⟨w.heap.size, 0, none⟩) m n)) (w.alloc (.cells (ints k (List.replicate n 0)) e)) := by
  cases hq : P.info? e with
  | none => rcases hi with hi | hi <;> simp [hq] at hi
  | some i =>
    have hz : i.zero = some (.int k 0) ∧ i.size = 1 ∧ i.bytes ≤ 8 := by
      rcases hi with hi | hi <;> simp [hq] at hi <;> exact ⟨hi.1, hi.2.1, by omega⟩
    have hb : (i.bytes : Int) * (n : Int) ≤ 281474976710656 := by
      have h1 : (i.bytes : Int) * (n : Int) ≤ 8 * (n : Int) := Int.mul_le_mul_of_nonneg_right (by omega) (by omega)
      omega
    have h := run_make w t e i (.int k 0) hu hq hz.1 kl kc (m : Int) (n : Int) (by omega) (by omega) hb (by omega)
    rw [hz.2.1, Int.toNat_natCast, Int.toNat_natCast, Qe1] at h
    unfold execOp
    simp only [ho, hx, hy, Sem.run_bind, Sem.run_pure, h, Result.andThen_ok]
theorem Qdq {gs : List Nat} {V W : World} (q : Qax gs V W) (h : ∀ g ∈ gs, ∃ cs t, V.heap[g]? = some (.cells cs t)) : KeepsOthers V W :=
  ⟨q.size, fun k o hk ho => by
    by_cases e : k ∈ gs
    · obtain ⟨cs, t, r⟩ := h k e
      rw [r] at hk
      cases hk
      cases ho
    · exact (q.block k (QaA hk) e).trans hk⟩
end Go.Proofs.YtoiendjhplbjjaaDoor.Sha
end
section
namespace Go.Proofs.YtoiendjhplbjjaaDoor.Auto
open Go Go.RowKit
open Rely Own
set_option linter.unusedVariables false
set_option linter.unusedSimpArgs false
variable {ds : List Deferred}
section
variable {P : Program} {R : World → World → Prop} {w0 : World} {N : Nat} {L : Env} {F : List KE → Prop} {o : Oper} {os : List Oper} {s : Src} {ss : List Src} {C : List KE}
end
theorem Qf5 {P : Program} {Fe : Fence} {nf : Nat} {id : Nat} {Q : Exit → Act → World → Prop} {N : Nat} {L : Env} {w : World} {l : List Oper} (R : World → World → Prop) (hrf : ∀ W, R W W) (htr : ∀ {a b c : World}, R a b → R b c → R a c) (n : Nat) (S : List Src) (hFr : Free Fe nf P) (hdf : (l.all QbA) = true) (hm : P.follows .mixedOrders = true) (hok : ok l n N S = true)
    (h : ∀ F : List KE → Prop, (∀ C, (∀ W, R w.drew W → finE (fun L W => WLI Fe nf P l.toArray Q (l.drop n) (Qaw ds N L) W) (l.take n) C L W) → F C) → Qbj P R w.drew N L F (l.take n) S []) :
    (Code.region id l.toArray true).wpIn Fe nf P Q (Qaw ds N L) w := by
  refine Qdu R n N S hFr.fn hFr.dp hFr.calls hdf hm hok (Qc8 N L) hrf (fun a b => htr a b) fun F r0 hr hF => ?_
  rw [Qbz] at hr
  subst hr
  have := h (fun C => ∀ W, R w.drew W → finE (fun L W => WLI Fe nf P l.toArray Q (l.drop n) (Qaw ds N L) W) (l.take n) C L W) (fun C h => h)
  exact Qcl (G := F) (fun C h => hF.out fun W hR => QgD (Q := fun a W => wpListIn Fe nf P l.toArray Q (l.drop n) a W) _ _ _ (QcW (fun L W h => h.out) _ _ _ _ (h W hR))) _ _ [] this
def QdN (g : Nat) (X Y : Obj) (A B : World) : Prop := ExtB g A B ∧ (B.heap[g]? = A.heap[g]? ∨ B.heap[g]? = some Y)
theorem Qgl (g : Nat) (A : World) : ExtB g A A := ⟨rfl, rfl, rfl, Nat.le_refl _, fun _ _ _ => rfl⟩
theorem Qf7 {g : Nat} {A B C : World} (h : ExtB g A B) (k : ExtB g B C) : ExtB g A C :=
  ⟨k.1.trans h.1, k.2.1.trans h.2.1, k.2.2.1.trans h.2.2.1, Nat.le_trans h.2.2.2.1 k.2.2.2.1, fun i hi hn => (k.2.2.2.2 i (Nat.lt_of_lt_of_le hi h.2.2.2.1) hn).trans (h.2.2.2.2 i hi hn)⟩
theorem QdN.refl (g : Nat) (X Y : Obj) (A : World) : QdN g X Y A A := ⟨Qgl g A, .inl rfl⟩
theorem QdN.trans {g : Nat} {X Y : Obj} {A B C : World} (h : QdN g X Y A B) (k : QdN g X Y B C) : QdN g X Y A C :=
  ⟨Qf7 h.1 k.1, by
    rcases k.2 with q | q
    · rcases h.2 with r | r
      · exact .inl (q.trans r)
      · exact .inr (q.trans r)
    · exact .inr q⟩
theorem QdN.row {g : Nat} {X Y : Obj} {A B : World} (h : QdN g X Y A B) (hX : A.heap[g]? = some X) : B.heap[g]? = some X ∨ B.heap[g]? = some Y := by
  rcases h.2 with q | q
  · exact .inl (q.trans hX)
  · exact .inr q
theorem QdN.stable (g : Nat) (X Y : Obj) (v : Value) : Qbq (QdN g X Y) (fun u W => u = v ∧ W.heap[g]? = some Y) := fun _ _ _ hR h => ⟨h.1, by
  rcases hR.2 with q | q
  · exact q.trans h.2
  · exact q⟩
theorem RdK.keepC {k : IntKind} {B : Nat} {gs : List Nat} {ys : List Int} {v : Value} {V W : World} (h : RdK k B ys v V) (q : QbE gs V W) (hc : ∀ c ∈ gs, B ≤ c) : RdK k B ys v W := by
  obtain ⟨a, cap, rfl, h1, h2, h3, h4⟩ := h
  refine ⟨a, cap, rfl, h1, h2, h3, ?_⟩
  rcases h4 with h4 | ⟨g, o, e, hB, hl, hcell⟩
  · exact .inl h4
  · exact .inr ⟨g, o, e, hB, Nat.lt_of_lt_of_le hl q.1, fun i hi => q.cell (hcell i hi) (fun hm => by have := hc g hm; omega)⟩
theorem OwnN.keepC {k : IntKind} {T : TypeId} {base : Nat} {gs : List Nat} {xs : List Int} {v : Value} {V W : World} (h : OwnN k T base xs v V) (q : QbE gs V W) (hc : ∀ c ∈ gs, c < base) : OwnN k T base xs v W := by
  refine h.keep fun g hg => ?_
  have hge := h.ge hg
  rcases h.1.2 with ⟨rfl, _⟩ | ⟨g', c, cur, rfl, h2, h3, _⟩
  · cases hg
  · obtain rfl : g' = g := by simpa [Value.ownBlock] using hg
    rw [h3]
    exact q.2 _ _ _ _ h3 (fun hm => by have := hc _ hm; omega)
end Go.Proofs.YtoiendjhplbjjaaDoor.Auto
end
section
namespace Go.Proofs.YtoiendjhplbjjaaDoor.Auto
open Go Go.RowKit
open Rely Own
set_option linter.unusedVariables false
set_option linter.unusedSimpArgs false
variable {ds : List Deferred} {Fe : Fence} {nf : Nat}
section
variable {P : Program} {ops : Array Oper} {Q : Exit → Act → World → Prop} {rest : List Oper} {o : Oper} {N : Nat} {L : Env} {w : World}
theorem Qhy (v : Value) (f : FuncId) (args : Array Value) (d : Nat) (hd : o.dst = some d) (hF : Free Fe nf P) (hnd : QbA o = true) (hg : QbG ops o N L = some true) (h : (execOp (Rely.look (envN N L)) o).run P w = .ok (.enter f args) w)
    (hc : Calls P f args w (Ret w v)) (k : ∀ W : World, Ext w W → WLI Fe nf P ops Q rest (Qaw ds N ((d, v) :: L)) W) : WLI Fe nf P ops Q (o :: rest) (Qaw ds N L) w :=
  Qge hF hnd hg fun K hK => by
    rw [h]
    refine ⟨hF.dp, (hF.calls hc).mono ?_⟩
    rintro e w' ⟨rfl, hw⟩
    show K _ _
    rw [hd, Qbd]
    exact hK _ _ (k _ hw)
end
section
variable {P : Program} {Q : Exit → Act → World → Prop} {w : World} {N : Nat} {L : Env}
end
theorem Qeu (N : Nat) (L : Env) (p q : Nat) (v u : Value) : ({ tmps := (#[p, q].zip #[v, u]).foldl (fun t (p, v) => t.setIfInBounds p v) (Qaw ds N L).tmps, defers := [] } : Act) = Qaw [] N ((q, u) :: (p, v) :: L) := by
  rw [← Qbd, ← Qbd]
  simp [Act.put, Qaw]
theorem QeG {α : Type} {P : Program} {g : Operand} {p q : Tmp} {assign body : Code} {Q : Exit → Act → World → Prop} {N : Nat} {L : Env} {w : World}
    {gf : Nat} {lb : Array Value} (hg : Rely.look (envN N L) g = .func (.func gf) #[] lb) (eg : ∀ args w, (callFunc gf args).run P w = .ok (.enter gf args) w)
    {enc enc2 : α → Value} {Kp : World → World → Prop} {S Sp : List α → Prop} {M : Nat} {w0 : World} (hseq : SeqStopsK Fence.wide 2 P gf lb (fun x => #[enc x, enc2 x]) Kp S Sp M w0)
    (hKt : ∀ {A B C : World}, Kp A B → Kp B C → Kp A C) (hKb : ∀ (W : World) (l : Nat) (o o' : Obj), w.heap.size ≤ l → W.heap[l]? = some o → o.isCells = false → o.isWalk = false → Kp W (W.putObj l o')) (hb0 : Below w0.heap.size w0 w)
    (I : List α → World → Prop) (Ix : Code → List α → World → Prop) (hI : OwnFrom w.heap.size I) (hIx : ∀ c, OwnFrom w.heap.size (Ix c)) (h0 : I [] w)
    (hKe : ∀ {A B : World}, Ext A B → Kp A B) (hIe : ∀ pre {A B : World}, I pre A → Ext A B → I pre B) (hIs : ∀ pre W, I pre W → w.heap.size ≤ W.heap.size)
    (asg : α → Nat → Env) (cs : α → Array Value) (T : TypeId)
    (hassign : ∀ (l : Nat) (x : α) (W : World) (K : Act → World → Prop), (∀ g W', W.heap.size ≤ g → Ext W W' → W'.heap[g]? = some (.cells (cs x) T) → K (Qaw [] N (asg x g ++ L)) W') → assign.wpIn (Fence.wide.inRound l) 1 P (Exit.then K (fun _ _ _ => False)) (Qaw [] N ((q, enc2 x) :: (p, enc x) :: L)) W)
    (hbody : ∀ (l : Nat) (pre : List α) (x : α) (g : Nat) (W : World), w.heap.size ≤ g → I pre W → W.heap[g]? = some (.cells (cs x) T) → pre.length < M → body.wpIn (Fence.wide.inRound l) 1 P (ownPostK Kp I Ix (pre ++ [x]) W) (Qaw [] N (asg x g ++ L)) W)
    (hdone : ∀ (D : Nat) (xs : List α) (W : World), w.heap.size ≤ D → S xs → I xs W → W.heap[D]? = some (.deferred (some [])) → Q .normal (Qaw (mark D :: ds) N L) W)
    (hstop : ∀ (D : Nat) (c : Code) (pre : List α) (W : World), w.heap.size ≤ D → Sp pre → Ix c pre W → W.heap[D]? = some (.deferred (some [])) → c.wp P Q (Qaw (mark D :: ds) N L) W) :
    (Code.rangeFunc g #[p, q] assign body).wp P Q (Qaw ds N L) w := by
  refine (wpIn_wide (n := 3)).1 ?_
  refine wpIn_rangeFunc_ownH rfl (by omega) (by rw [Qb3]; exact hg) trivial eg (w0 := w0) hseq hKt hKb hb0 (fun _ => rfl) I Ix hI hIx h0
    (fun x a' W => ∃ g, a' = Qaw [] N (asg x g ++ L) ∧ w.heap.size ≤ g ∧ W.heap[g]? = some (.cells (cs x) T)) ?_ (fun l pre x W K hi hK => ?_) ?_ ?_ ?_
  · rintro x a' _ X Y row ⟨g, e, hl, r⟩ hgr hr
    exact ⟨g, e, hl, Qcn r hgr (fun q e => (hr q e).2)⟩
  · rw [Qeu]
    refine hassign l x W K fun g W' hg' e r => hK _ _ ((Qgb e).from _) (hKe e) (hIe pre hi e) ⟨g, rfl, Nat.le_trans (hIs pre W hi) hg', r⟩
  · rintro l pre x a' W _ _ hi ⟨g, rfl, hl, r⟩ hlen
    exact wpIn_mono (hbody l pre x g W hl hi r hlen) ownPostG_of_ownPostK
  · intro D xs W h1 h2 h3 h4
    exact hdone D xs W h1 h2 h3 h4
  · intro D c pre W h1 h2 h3 h4
    exact wpIn_wide.2 (hstop D c pre W h1 h2 h3 h4)
theorem QeL {α : Type} {P : Program} {body : Code} {Q : Exit → Act → World → Prop} {N : Nat} {L : Env} {w : World} (live : α → Env) (I : α → World → Prop) (μ : α → Nat) (s0 : α) (hL : QeR L (live s0)) (h0 : I s0 w)
    (round : ∀ (s : α) (X : Env) (W : World), I s W → body.wpIn Fe nf P (Exit.then (Goes ds N live I μ s) Q) (Qaw ds N (live s ++ X)) W) : (Code.loop body).wpIn Fe nf P Q (Qaw ds N L) w := by
  rw [← QdJ hL]
  refine Go.wpIn_loop_ghost (fun n a W => ∃ (s : α) (X : Env), a = Qaw ds N (live s ++ X) ∧ I s W ∧ μ s = n) (μ s0) ⟨s0, L, rfl, h0, rfl⟩ ?_
  rintro n a W ⟨s, X, rfl, hI, rfl⟩
  refine wpIn_mono (round s X W hI) fun e a' w' h => ?_
  cases e <;> try exact h
  obtain ⟨s', X', h1, h2, h3⟩ := h
  exact ⟨μ s', h3, s', X', h1, h2, rfl⟩
theorem Qf6 {P : Program} {id : Nat} {Q : Exit → Act → World → Prop} {N : Nat} {L : Env} {w : World} {l : List Oper} (n : Nat) (S : List Src) (hFr : Free Fe nf P) (hdf : (l.all QbA) = true) (hm : P.follows .mixedOrders = true) (hok : ok l n N S = true)
    (h : ∀ F : List KE → Prop, (∀ C, (∀ W, Ext w W → finE (fun L W => WLI Fe nf P l.toArray Q (l.drop n) (Qaw ds N L) W) (l.take n) C L W) → F C) → Qbj P Ext w.drew N L F (l.take n) S []) :
    (Code.region id l.toArray true).wpIn Fe nf P Q (Qaw ds N L) w :=
  Qf5 Ext Rely.Ext.refl Rely.Ext.trans n S hFr hdf hm hok fun F hF => h F fun C hC => hF C fun W hR => hC W (Rely.Ext.trans (Qai w) hR)
section
variable {P : Program} {ops : Array Oper} {Q : Exit → Act → World → Prop} {rest : List Oper} {o : Oper} {N : Nat} {L : Env} {W : World}
end
theorem goXj {K : Act → World → Prop} {Q : Exit → Act → World → Prop} {a : Act} {w : World} {n m : Nat} (h : n ≠ m) (k : Q (.exit n) a w) : Exit.inBlock m Q (.exit n) a w := by
  unfold Exit.inBlock
  simp [h]
  exact k
end Go.Proofs.YtoiendjhplbjjaaDoor.Auto
end
section
namespace Go.Proofs.YtoiendjhplbjjaaDoor.Cha
open Go Go.RowKit
open Rely Auto Own Sha
set_option linter.unusedVariables false
set_option linter.unusedSimpArgs false
open Sha
set_option maxRecDepth 100000 in
set_option maxHeartbeats 4000000 in
theorem Qex (m : Nat) (gs : List Nat) (g1 g2 : Nat) (ws : List Wd) (number : Int) (r : Nat) (tq : TypeId) (w : World) (hr : number + (r : Int) = 4294967296) (h1 : 0 ≤ number) (h2 : number ≤ 4294967295) (hw : ws.length = 16)
  (hqw : w.heap[3]? = some (.cells (ints .i64 [0, 4, 8, 12, 1, 5, 9, 13, 2, 6, 10, 14, 3, 7, 11, 15, 0, 5, 10, 15, 1, 6, 11, 12, 2, 7, 8, 13, 3, 4, 9, 14]) tq)) (r1w : w.heap[g1]? = some (.cells #[.int .i64 number] 3)) (r2w : w.heap[g2]? = some (.cells (ints .u32 (ws.map wv)) 199)) (n1 : g1 ∉ gs) (n2 : g2 ∉ gs) (nq : 3 ∉ gs) :
  SeqStopsK Fence.wide m Tryd.prog 140 #[.pointer (some ⟨g1, 0, none⟩), .pointer (some ⟨g2, 0, none⟩)] (fun i : Nat => #[Value.int .i64 (number + ((i : Nat) : Int)), Value.agg (ints .u8 (QaT ws (number + ((i : Nat) : Int))))]) (QbE gs) (fun ys => ys = List.range r) (fun ys => ∃ k, ys = List.range k ∧ k ≤ r) r w := fun l J Jx Wi hW hJ hJx hY h0 => by
 refine callsIn_wide.2 ?_
 have hqi := Qad hqw hW
 have r1 := Qad r1w hW
 have r2 := Qad r2w hW
 refine enter 17 [(0, .func (.yield l) #[] #[]), (1, .pointer (some ⟨g1, 0, none⟩)), (2, .pointer (some ⟨g2, 0, none⟩))] Tryd.func140 rfl rfl kj rfl ?_
 refine wp_seq_k fun K4 hK4 => ?_
 refine Qab ?_
 refine Qaa (.int .i64 number) 5 rfl kj (Qae 3 _ g1 0 3 _ (.int .i64 number) _ r1 rfl kj kj kj) ?_
 refine Qaa (.int .i64 number) 4 rfl kj kj ?_
 refine Qac ?_
 refine hK4 _ _ ?_
 refine wp_block ?_
 refine Qbb (fun (s1 : Nat) => [(0, .func (.yield l) #[] #[]), (1, .pointer (some ⟨g1, 0, none⟩)), (2, .pointer (some ⟨g2, 0, none⟩)), (4, .int .i64 (number + ((s1 : Nat) : Int)))]) (fun (s1 : Nat) W => (s1 ≤ r) ∧ (J (List.range s1) W) ∧ (W.heap[g1]? = some (.cells #[.int .i64 number] 3)) ∧ (W.heap[g2]? = some (.cells (ints .u32 (ws.map wv)) 199)) ∧ (W.heap[3]? = some (.cells (ints .i64 [0, 4, 8, 12, 1, 5, 9, 13, 2, 6, 10, 14, 3, 7, 11, 15, 0, 5, 10, 15, 1, 6, 11, 12, 2, 7, 8, 13, 3, 4, 9, 14]) tq)) ∧ (Grew Wi W)) (fun (s1 : Nat) => r - s1) 0 ⟨rfl, rfl, rfl, (congrArg (Value.int .i64) (show number = number + ((0 : Nat) : Int) by omega)), trivial⟩ ⟨(Nat.zero_le _), (show J (List.range 0) _ from h0), r1, r2, hqi, (Grew.refl Wi)⟩ fun s1 X1 V1 hI1 => ?_
 obtain ⟨k, hs1⟩ : ∃ z, z = s1 := ⟨_, rfl⟩
 subst hs1
 obtain ⟨hkl_, hJ1, rr1, rr2, rrq, xx1⟩ := hI1
 replace hkl_ : k ≤ r := hkl_
 replace hJ1 : J (List.range k) V1 := hJ1
 replace rr1 : V1.heap[g1]? = some (.cells #[.int .i64 number] 3) := rr1
 replace rr2 : V1.heap[g2]? = some (.cells (ints .u32 (ws.map wv)) 199) := rr2
 replace rrq : V1.heap[3]? = some (.cells (ints .i64 [0, 4, 8, 12, 1, 5, 9, 13, 2, 6, 10, 14, 3, 7, 11, 15, 0, 5, 10, 15, 1, 6, 11, 12, 2, 7, 8, 13, 3, 4, 9, 14]) tq) := rrq
 replace xx1 : Grew Wi V1 := xx1
 refine wp_seq_k fun K5 hK5 => ?_
 refine wp_seq_k fun K6 hK6 => ?_
 refine Qab ?_
 refine Qaa (.int .i64 (number + ((k : Nat) : Int))) 6 rfl kj kj ?_
 refine Qaa (.bool (decide ((number + ((k : Nat) : Int)) ≤ 4294967295))) 7 rfl kj kj ?_
 refine Qac ?_
 refine hK6 _ _ ?_
 refine QaM (t := decide ((number + ((k : Nat) : Int)) ≤ 4294967295)) kj (fun c7 => ?_) (fun c7 => ?_)
 ·skip
  have hlt : k < r := by have := of_decide_eq_true c7; omega
  refine wp_skip ?_
  refine hK5 _ _ ?_
  refine wp_seq_k fun K8 hK8 => ?_
  refine wp_block ?_
  refine wp_seq_k fun K9 hK9 => ?_
  refine (wpIn_wide (n := m)).1 ?_
  refine Qbo ?_
  refine Qb7 (.func (.yield l) #[] #[]) 10 rfl (Qbv _ _) rfl kj kj ?_
  refine Qb7 (.int .i64 (number + ((k : Nat) : Int))) 11 rfl (Qbv _ _) rfl kj kj ?_
  refine Qb7 (.agg (ints .u32 (ws.map wv))) 12 rfl (Qbv _ _) rfl kj (Qar 199 _ g2 199 _ _ rr2 rfl kj kj (isz (n := 16) kj ((Qaf _ _).trans (Qa4 hw)))) ?_
  refine Qb7 (.int .i64 (number + ((k : Nat) : Int))) 13 rfl (Qbv _ _) rfl kj kj ?_
  refine Qhy (.agg (ints .u8 (QaT ws (number + ((k : Nat) : Int))))) 141 #[.agg (ints .u32 (ws.map wv)), .int .i64 (number + ((k : Nat) : Int))] 14 rfl (Qbv _ _) rfl kj kj ((QgS ws (number + ((k : Nat) : Int)) tq _ rrq hw)) fun W2 e2 => ?_
  have x2 : Grew Wi W2 := Grew.ext xx1 e2
  have y1_2 : Ext V1 W2 := (Rely.Ext.trans (Rely.Ext.refl V1) e2)
  have f11_2 := QfA hJ hJ1 y1_2
  refine Qg9 (m := m) (l := l) (args := #[.int .i64 (number + ((k : Nat) : Int)), .agg (ints .u8 (QaT ws (number + ((k : Nat) : Int))))]) 15 rfl rfl kj kj (hY (List.range k) k W2 f11_2 (by rw [List.length_range]; omega)) (fun W' hA => ?_) (fun W' hA => ?_)
  ·skip
   obtain ⟨W3, hW3⟩ : ∃ z, z = W' := ⟨_, rfl⟩
   rw [← hW3] at hA ⊢
   obtain ⟨hj10, hk10⟩ := hA
   have x3 : Grew Wi W3 := Grew.keepC x2 hk10
   refine Qb7 (.bool false) 16 rfl (Qbv _ _) rfl kj kj ?_
   refine QcT ?_
   refine hK9 _ _ ?_
   refine cond_false kj ?_
   refine wp_skip ?_
   refine hK8 _ _ ?_
   refine Qab ?_
   refine Qaa (.int .i64 (number + ((k : Nat) : Int))) 8 rfl kj kj ?_
   refine Qaa (.int .i64 (number + ((k + 1 : Nat) : Int))) 9 rfl kj (Qah (u := .int .i64 (IntKind.i64.wrap ((number + ((k : Nat) : Int)) + 1))) kj (congrArg (Value.int .i64) (by rw [show number + ((k : Nat) : Int) + 1 = number + ((k + 1 : Nat) : Int) by omega]; exact IntWalk.i64_in _ (by omega)))) ?_
   refine Qaa (.int .i64 (number + ((k + 1 : Nat) : Int))) 4 rfl kj kj ?_
   refine Qac ?_
   have r2_2 := (Qad rr1 e2)
   have r2_3 := (QbE.row hk10 r2_2 n1)
   have r3_2 := (Qad rr2 e2)
   have r3_3 := (QbE.row hk10 r3_2 n2)
   have r1_2 := (Qad rrq e2)
   have r1_3 := (QbE.row hk10 r1_2 nq)
   repeat (first | with_reducible refine goX1 ?_ | with_reducible refine goX2 ?_ | with_reducible refine goX3 ?_)
   exact QaQ (k + 1) ⟨rfl, rfl, rfl, rfl, trivial⟩ ⟨(by omega), (by rw [List.range_succ]; exact hj10), r2_3, r3_3, r1_3, x3⟩ (by show r - (k + 1) < r - k; omega)
  ·skip
   obtain ⟨W3, hW3⟩ : ∃ z, z = W' := ⟨_, rfl⟩
   rw [← hW3] at hA ⊢
   refine Qb7 (.bool true) 16 rfl (Qbv _ _) rfl kj kj ?_
   refine QcT ?_
   refine hK9 _ _ ?_
   refine cond_true kj ?_
   refine wp_ret ?_
   repeat (first | with_reducible refine goR1 ?_ | with_reducible refine goR2 ?_)
   exact (show bodyPost _ _ _ .ret _ _ from ret0 rfl ⟨⟨_, rfl⟩, .inr ⟨_, ⟨k + 1, List.range_succ.symm, hlt⟩, hA⟩⟩)
 ·skip
  have hke : k = r := by have := of_decide_eq_false c7; omega
  refine wp_exit ?_
  repeat (first | with_reducible refine goX1 ?_ | with_reducible refine goX2 ?_ | with_reducible refine goX3 ?_)
  exact (show bodyPost _ _ _ .normal _ _ from end0 rfl ⟨⟨_, rfl⟩, .inl ⟨_, congrArg List.range hke, hJ1⟩⟩)
set_option maxRecDepth 100000 in
set_option maxHeartbeats 4000000 in
theorem Qg2 (key nonce : List Int) (v : Value) (B : Nat) (number : Int) (th tq : TypeId) (w : World) (hh : w.heap[2]? = some (.cells (ints .u32 [1634760805, 857760878, 2036477234, 1797285236]) th)) (hq : w.heap[3]? = some (.cells (ints .i64 [0, 4, 8, 12, 1, 5, 9, 13, 2, 6, 10, 14, 3, 7, 11, 15, 0, 5, 10, 15, 1, 6, 11, 12, 2, 7, 8, 13, 3, 4, 9, 14]) tq)) (hkl : key.length = 32) (hn : RdK .u8 B nonce v w) (h : nonce.length = 12) (h1 : 0 ≤ number) (h2 : number ≤ 4294967295) : Calls Tryd.prog 123 #[.agg (ints .u8 key), v, .int .i64 number] w (Qca w (fun v W => ∃ g1 g2, v = .func (.func 140) #[] #[.pointer (some ⟨g1, 0, none⟩), .pointer (some ⟨g2, 0, none⟩)] ∧ w.heap.size ≤ g1 ∧ w.heap.size ≤ g2 ∧ W.heap[g1]? = some (.cells #[.int .i64 number] 3) ∧ W.heap[g2]? = some (.cells (ints .u32 ((QaE key nonce).map wv)) 199))) := by
  obtain ⟨a_n, c_n, rfl, -⟩ := id hn
  refine enter 16 [(0, .agg (ints .u8 (key))), (1, .slice a_n nonce.length c_n), (2, .int .i64 number)] Tryd.func123 rfl rfl kj rfl ?_
  refine wp_seq_k fun K3 hK3 => ?_
  refine Qab ?_
  refine Qas (ints .u8 (key)) 23 3 rfl kj kj fun g4 W1 l4 e1 r4_1 => ?_
  have x1 : Ext w W1 := Ext.tr (Rely.Ext.refl w) e1
  have b4 : w.heap.size ≤ g4 := Nat.le_trans (Rely.Ext.refl w).size l4
  refine Qas (#[.int .i64 number]) 3 5 rfl kj kj fun g5 W2 l5 e2 r5_2 => ?_
  have x2 : Ext w W2 := Ext.tr x1 e2
  have b5 : w.heap.size ≤ g5 := Nat.le_trans x1.size l5
  refine Qaa (.nilFunc) 6 rfl kj kj ?_
  refine Qac ?_
  refine hK3 _ _ ?_
  refine wp_seq_k fun K6 hK6 => ?_
  refine wp_seq_k fun K7 hK7 => ?_
  refine Qab ?_
  refine Qaa (.slice a_n nonce.length c_n) 8 rfl kj kj ?_
  refine Qaa (.int .i64 number) 9 rfl kj (Qae 3 _ g5 0 3 _ (.int .i64 number) _ r5_2 rfl kj kj kj) ?_
  refine Qat (.nilIface) 122 #[.slice a_n nonce.length c_n, .int .i64 number] 10 rfl kj kj ((check_D nonce _ _ number _ (RdK.ext hn x2) h h1 h2)) fun W3 e3 => ?_
  have x3 : Ext w W3 := Ext.tr x2 e3
  refine Qaa (.bool false) 11 rfl kj kj ?_
  refine Qac ?_
  refine hK7 _ _ ?_
  refine cond_false kj ?_
  refine wp_skip ?_
  refine hK6 _ _ ?_
  refine wp_seq_k fun K8 hK8 => ?_
  refine Qab ?_
  have r4_2 := (Qad r4_1 e2)
  have r4_3 := (Qad r4_2 e3)
  refine Qaa (.agg (ints .u8 (key))) 12 rfl kj (Qar 23 _ g4 23 _ _ r4_3 rfl kj kj (isz (n := 32) kj ((Qaf _ _).trans hkl))) ?_
  refine Qaa (.slice a_n nonce.length c_n) 13 rfl kj kj ?_
  have r2_1 := (Qad hh e1)
  have r2_2 := (Qad r2_1 e2)
  have r2_3 := (Qad r2_2 e3)
  refine Qat (.agg (ints .u32 ((QaE key nonce).map wv))) 139 #[.agg (ints .u8 (key)), .slice a_n nonce.length c_n] 14 rfl kj kj ((by rw [← QgP]; exact QgQ key nonce _ _ th _ r2_3 hkl (RdK.ext hn x3) h)) fun W4 e4 => ?_
  have x4 : Ext w W4 := Ext.tr x3 e4
  refine Qas (ints .u32 ([0, 0, 0, 0, 0, 0, 0, 0, 0, 0, 0, 0, 0, 0, 0, 0])) 199 7 rfl kj kj fun g9 W5 l9 e5 r9_5 => ?_
  have x5 : Ext w W5 := Ext.tr x4 e5
  have b9 : w.heap.size ≤ g9 := Nat.le_trans x4.size l9
  refine Qaj g9 _ (ints .u32 ((QaE key nonce).map wv)) 199 r9_5 rfl kj (Qaq 199 _ _ g9 199 _ _ r9_5 rfl kj kj (isz (n := 16) kj ((Qaf _ _).trans (Qa4 (Qc7 _ _)))) (eqsz (n := 16) kj ((Qaf _ _).trans (Qa4 (Qc7 _ _)))) (Qa7 _ _)) fun W6 p6 r9_6 => ?_
  have x6 : Ext w W6 := Puts.ext p6 x5 b9
  refine Qac ?_
  refine hK8 _ _ ?_
  refine wp_seq_k fun K10 hK10 => ?_
  refine Qab ?_
  refine Qaa (.func (.func 140) #[] #[.pointer (some ⟨g5, 0, none⟩), .pointer (some ⟨g9, 0, none⟩)]) 15 rfl kj kj ?_
  refine Qaa (.func (.func 140) #[] #[.pointer (some ⟨g5, 0, none⟩), .pointer (some ⟨g9, 0, none⟩)]) 6 rfl kj kj ?_
  refine Qac ?_
  refine hK10 _ _ ?_
  refine wp_ret ?_
  repeat (first | with_reducible refine goR1 ?_ | with_reducible refine goR2 ?_)
  have r5_3 := (Qad r5_2 e3)
  have r5_4 := (Qad r5_3 e4)
  have r5_5 := (Qad r5_4 e5)
  have r5_6 := (Puts.row p6 r5_5 (Qag r5_4 l9))
  exact (show bodyPost _ _ _ .ret _ _ from ret1 (.func (.func 140) #[] #[.pointer (some ⟨g5, 0, none⟩), .pointer (some ⟨g9, 0, none⟩)]) rfl (Qa0 kj) ⟨_, rfl, x6, _, _, rfl, b5, b9, r5_6, r9_6⟩)
end Go.Proofs.YtoiendjhplbjjaaDoor.Cha
end
section
namespace Go.Proofs.YtoiendjhplbjjaaDoor.Cha
open Go Go.RowKit
open Rely Auto Own Sha
set_option linter.unusedVariables false
set_option linter.unusedSimpArgs false
open Sha
def pg (pre : List Nat) (j : Nat) : Nat := pre.getD j 0
theorem Qhl (pre : List Nat) (x : Nat) : pg (pre ++ [x]) pre.length = x := by simp [pg]
theorem Qip (pre : List Nat) (x j : Nat) (h : j < pre.length) : pg (pre ++ [x]) j = pg pre j := by
  unfold pg
  rw [List.getD_eq_getElem?_getD, List.getD_eq_getElem?_getD, List.getElem?_append_left h]
theorem Qg3 (k j : Nat) (h : j < k) : pg (List.range k) j = j := by
  unfold pg
  rw [List.getD_eq_getElem?_getD, List.getElem?_range h]; rfl
theorem Qfc (text : List Int) (ws : List Wd) (num : Int) (f g : Nat → Nat) (n m : Nat) (h : ∀ i, i < m → f (i / 64) = g (i / 64)) : (mxv text ws num f n).take m = (mxv text ws num g n).take m := by
  unfold mxv
  rw [← List.map_take, ← List.map_take, List.take_range]
  refine List.map_congr_left fun i hi => ?_
  rw [List.mem_range] at hi
  rw [h i (by omega)]
theorem QfT (text : List Int) (ws : List Wd) (num : Int) (f : Nat → Nat) (n m : Nat) (h : m < n) : nth (mxv text ws num f n) m = bits .xor .u8 (nth text m) (nth (QaT ws (num + ((f (m / 64) : Nat) : Int))) (m % 64)) := by
  rw [show nth (mxv text ws num f n) m = (mxv text ws num f n).getD m 0 from rfl]
  unfold mxv
  rw [List.getD_eq_getElem?_getD, List.getElem?_map, List.getElem?_range h]; rfl
theorem Qhr (text : List Int) (ws : List Wd) (num : Int) (pre : List Nat) (x n : Nat) : Qbl (mxv text ws num (pg pre) n) n (64 * pre.length) = Qbl (mxv text ws num (pg (pre ++ [x])) n) n (64 * pre.length) := by
  unfold Qbl
  rw [Qfc text ws num (pg pre) (pg (pre ++ [x])) n _ fun i hi => (Qip pre x (i / 64) (by omega)).symm]
theorem QhS (text : List Int) (ws : List Wd) (num : Int) (pre : List Nat) (x n j : Nat) (hj : j < 64) (h : 64 * pre.length + j < n) : nth (mxv text ws num (pg (pre ++ [x])) n) (64 * pre.length + j) = bits .xor .u8 (nth text (64 * pre.length + j)) (nth (QaT ws (num + ((x : Nat) : Int))) j) := by
  rw [QfT _ _ _ _ _ _ h, show (64 * pre.length + j) / 64 = pre.length by omega, show (64 * pre.length + j) % 64 = j by omega, Qhl]
theorem QfU (text : List Int) (ws : List Wd) (num : Int) (k : Nat) (h : text.length ≤ 64 * k) : mxv text ws num (pg (List.range k)) text.length = mixV ws num text := by
  have h2 := Qfc text ws num (pg (List.range k)) id text.length text.length fun i hi => Qg3 k (i / 64) (by omega)
  rw [List.take_of_length_le (by rw [QcL]; omega), List.take_of_length_le (by rw [QcL]; omega)] at h2
  exact h2
theorem Qbu (ws : List Wd) (num : Int) (text : List Int) : (mixV ws num text).length = text.length := QcL _ _ _ _ _
set_option maxRecDepth 100000 in
set_option maxHeartbeats 4000000 in
theorem Qiy (key nonce text : List Int) (v v2 : Value) (B B2 : Nat) (number : Int) (th tq : TypeId) (w : World) (hh : w.heap[2]? = some (.cells (ints .u32 [1634760805, 857760878, 2036477234, 1797285236]) th)) (hq : w.heap[3]? = some (.cells (ints .i64 [0, 4, 8, 12, 1, 5, 9, 13, 2, 6, 10, 14, 3, 7, 11, 15, 0, 5, 10, 15, 1, 6, 11, 12, 2, 7, 8, 13, 3, 4, 9, 14]) tq)) (hkl : key.length = 32) (hn : RdK .u8 B nonce v w) (ht : RdK .u8 B2 text v2 w) (h : nonce.length = 12) (r : Nat) (hr : number + (r : Int) = 4294967296) (h1 : 0 ≤ number) (h2 : number ≤ 4294967295) (hfit : text.length ≤ 64 * r) (htl : text.length ≤ 2000000) : Calls Tryd.prog 103 #[.agg (ints .u8 key), v, .int .i64 number, v2] w (Qca w (fun v W => ∃ u, v = .tuple #[u, .nilIface] ∧ OwnN .u8 5 w.heap.size (mixV (QaE key nonce) number text) u W)) := by
 obtain ⟨a_n, c_n, rfl, -⟩ := id hn
 obtain ⟨a_t, c_t, rfl, -⟩ := id ht
 refine QhZ 64 [(0, .agg (ints .u8 (key))), (1, .slice a_n nonce.length c_n), (2, .int .i64 number), (3, .slice a_t text.length c_t)] Tryd.func103 rfl rfl kj rfl ?_
 refine wp_seq_k fun K3 hK3 => ?_
 refine Qab ?_
 refine Qas (ints .u8 (key)) 23 4 rfl kj kj fun g4 W1 l4 e1 r4_1 => ?_
 have x1 : Ext w W1 := Ext.tr (Rely.Ext.refl w) e1
 have b4 : w.heap.size ≤ g4 := Nat.le_trans (Rely.Ext.refl w).size l4
 refine Qas (#[.slice a_t text.length c_t]) 33 7 rfl kj kj fun g5 W2 l5 e2 r5_2 => ?_
 have x2 : Ext w W2 := Ext.tr x1 e2
 have b5 : w.heap.size ≤ g5 := Nat.le_trans x1.size l5
 refine Qaa (.slice none 0 0) 8 rfl kj kj ?_
 refine Qaa (.nilIface) 9 rfl kj kj ?_
 refine Qac ?_
 refine hK3 _ _ ?_
 refine wp_scope_straight ?_
 refine wp_seq_k fun K6 hK6 => ?_
 refine wp_seq_k fun K7 hK7 => ?_
 refine Qab ?_
 refine Qaa (.slice a_n nonce.length c_n) 17 rfl kj kj ?_
 refine Qaa (.int .i64 number) 18 rfl kj kj ?_
 refine Qat (.nilIface) 122 #[.slice a_n nonce.length c_n, .int .i64 number] 19 rfl kj kj ((check_D nonce _ _ number _ (RdK.ext hn x2) h h1 h2)) fun W3 e3 => ?_
 have x3 : Ext w W3 := Ext.tr x2 e3
 refine Qaa (.nilIface) 10 rfl kj kj ?_
 refine Qac ?_
 refine hK7 _ _ ?_
 refine wp_seq_k fun K8 hK8 => ?_
 refine Qab ?_
 refine Qaa (.nilIface) 20 rfl kj kj ?_
 refine Qaa (.bool false) 21 rfl kj kj ?_
 refine Qac ?_
 refine hK8 _ _ ?_
 refine cond_false kj ?_
 refine wp_skip ?_
 refine hK6 _ _ ?_
 refine wp_seq_k fun K9 hK9 => ?_
 refine wp_seq_k fun K10 hK10 => ?_
 refine Qab ?_
 have r5_3 := (Qad r5_2 e3)
 refine Qaa (.slice a_t text.length c_t) 23 rfl kj (Qae 33 _ g5 0 33 _ (.slice a_t text.length c_t) _ r5_3 rfl kj kj kj) ?_
 refine Qaa (.int .i64 ((text.length : Nat) : Int)) 24 rfl kj kj ?_
 refine Qaa (.int .i64 ((text.length + 64 : Nat) : Int)) 25 rfl kj (Qah (u := .int .i64 (IntKind.i64.wrap (((text.length : Nat) : Int) + 64))) kj (congrArg (Value.int .i64) (i64n _ _ (by omega) (by omega)))) ?_
 refine Qaa (.int .i64 (((text.length + 64) - 1 : Nat) : Int)) 26 rfl kj (Qah (u := .int .i64 (IntKind.i64.wrap (((text.length + 64 : Nat) : Int) - 1))) kj (congrArg (Value.int .i64) (i64n _ _ (by omega) (by omega)))) ?_
 refine Qaa (.int .i64 ((((text.length + 64) - 1) / 64 : Nat) : Int)) 27 rfl kj (Qah (u := .int .i64 (IntKind.i64.wrap (Int.tdiv ((((text.length + 64) - 1 : Nat) : Int)) (64)))) kj (congrArg (Value.int .i64) (Qdh _ 64 (by omega)))) ?_
 refine Qaa (.int .i64 ((((text.length + 64) - 1) / 64 : Nat) : Int)) 11 rfl kj kj ?_
 refine Qac ?_
 refine hK10 _ _ ?_
 refine wp_seq_k fun K11 hK11 => ?_
 refine Qab ?_
 refine Qaa (.int .i64 ((((text.length + 64) - 1) / 64 : Nat) : Int)) 28 rfl kj kj ?_
 refine Qaa (.int .i64 number) 29 rfl kj kj ?_
 refine Qaa (.int .i64 (((r - 1 : Nat) : Int))) 30 rfl kj (Qah (u := .int .i64 (IntKind.i64.wrap (4294967295 - number))) kj (congrArg (Value.int .i64) (by rw [show (4294967295 - number : Int) = ((r - 1 : Nat) : Int) by omega]; exact IntWalk.i64_in _ (by omega)))) ?_
 refine Qaa (.int .i64 (((r - 1) + 1 : Nat) : Int)) 31 rfl kj (Qah (u := .int .i64 (IntKind.i64.wrap ((((r - 1 : Nat) : Int)) + 1))) kj (congrArg (Value.int .i64) (i64n _ _ (by omega) (by omega)))) ?_
 refine Qaa (.bool false) 32 rfl kj (Qah (u := .bool (decide (((((text.length + 64) - 1) / 64 : Nat) : Int) > (((r - 1) + 1 : Nat) : Int)))) kj (congrArg Value.bool (decide_eq_false (by omega)))) ?_
 refine Qac ?_
 refine hK11 _ _ ?_
 refine cond_false kj ?_
 refine wp_skip ?_
 refine hK9 _ _ ?_
 refine wp_seq_k fun K12 hK12 => ?_
 refine Qab ?_
 refine Qaa (.slice a_t text.length c_t) 34 rfl kj (Qae 33 _ g5 0 33 _ (.slice a_t text.length c_t) _ r5_3 rfl kj kj kj) ?_
 refine Qaa (.int .i64 ((text.length : Nat) : Int)) 35 rfl kj kj ?_
 refine QfH (ints .u8 (List.replicate (text.length) 0)) 5 0 (text.length) 36 rfl kj (QfK 33 _ _ .i64 .i64 0 (text.length) 5 rfl kj kj kj (.inr kj) (Nat.zero_le _) (by omega)) fun g13 W4 l13 e4 r13_4 => ?_
 have x4 : Ext w W4 := Ext.tr x3 e4
 have b13 : w.heap.size ≤ g13 := Nat.le_trans x3.size l13
 refine Qas (#[.slice none 0 0]) 33 12 rfl kj kj fun g14 W5 l14 e5 r14_5 => ?_
 have x5 : Ext w W5 := Ext.tr x4 e5
 have b14 : w.heap.size ≤ g14 := Nat.le_trans x4.size l14
 refine Qaj g14 _ (#[.slice (some ⟨g13, 0, none⟩) 0 text.length]) 33 r14_5 rfl kj (Qbh 33 _ _ g14 0 33 _ (.slice (some ⟨g13, 0, none⟩) 0 text.length) r14_5 rfl kj kj kj kj kj rfl) fun W6 p6 r14_6 => ?_
 have x6 : Ext w W6 := Puts.ext p6 x5 b14
 refine Qac ?_
 refine hK12 _ _ ?_
 refine wp_seq_k fun K15 hK15 => ?_
 refine wp_label ?_
 refine hK15 _ _ ?_
 refine wp_seq_k fun K16 hK16 => ?_
 refine wp_seq_k fun K17 hK17 => ?_
 refine Qab ?_
 have r4_2 := (Qad r4_1 e2)
 have r4_3 := (Qad r4_2 e3)
 have r4_4 := (Qad r4_3 e4)
 have r4_5 := (Qad r4_4 e5)
 have r4_6 := (Puts.row p6 r4_5 (Qag r4_4 l14))
 refine Qaa (.agg (ints .u8 (key))) 37 rfl kj (Qar 23 _ g4 23 _ _ r4_6 rfl kj kj (isz (n := 32) kj ((Qaf _ _).trans hkl))) ?_
 refine Qaa (.slice a_n nonce.length c_n) 38 rfl kj kj ?_
 refine Qaa (.int .i64 number) 39 rfl kj kj ?_
 have r2_1 := (Qad hh e1)
 have r2_2 := (Qad r2_1 e2)
 have r2_3 := (Qad r2_2 e3)
 have r2_4 := (Qad r2_3 e4)
 have r2_5 := (Qad r2_4 e5)
 have r2_6 := (Puts.row p6 r2_5 (Qag r2_4 l14))
 have r1_1 := (Qad hq e1)
 have r1_2 := (Qad r1_1 e2)
 have r1_3 := (Qad r1_2 e3)
 have r1_4 := (Qad r1_3 e4)
 have r1_5 := (Qad r1_4 e5)
 have r1_6 := (Puts.row p6 r1_5 (Qag r1_4 l14))
 refine Qa8 (fun v W' => (fun v W => ∃ g1 g2, v = .func (.func 140) #[] #[.pointer (some ⟨g1, 0, none⟩), .pointer (some ⟨g2, 0, none⟩)] ∧ W6.heap.size ≤ g1 ∧ W6.heap.size ≤ g2 ∧ W.heap[g1]? = some (.cells #[.int .i64 number] 3) ∧ W.heap[g2]? = some (.cells (ints .u32 ((QaE key nonce).map wv)) 199)) v W' ∧ Ext W6 W') 123 #[.agg (ints .u8 (key)), .slice a_n nonce.length c_n, .int .i64 number] 40 rfl kj kj ((Qg2 key nonce _ _ number th tq _ r2_6 r1_6 hkl (RdK.ext hn x6) h h1 h2).mono (by rintro e w' ⟨v, rfl, e1, hv⟩; exact ⟨v, rfl, hv, e1⟩)) fun vv18 W7 hh18 => ?_
 obtain ⟨hv18, e7⟩ := hh18
 have x7 : Ext w W7 := Ext.tr x6 e7
 obtain ⟨gp1, gp2, rfl, lp1, lp2, rp1, rp2⟩ := hv18
 refine Qac ?_
 refine hK17 _ _ ?_
 refine wp_block ?_
 have r5_4 := (Qad r5_3 e4)
 have r5_5 := (Qad r5_4 e5)
 have r5_6 := (Puts.row p6 r5_5 (Qag r5_4 l14))
 have r5_7 := (Qad r5_6 e7)
 have r14_7 := (Qad r14_6 e7)
 have r13_5 := (Qad r13_4 e5)
 have r13_6 := (Puts.row p6 r13_5 (Qag r13_4 l14))
 have r13_7 := (Qad r13_6 e7)
 have r1_7 := (Qad r1_6 e7)
 have nb712 : g5 ≠ g14 := (Qag r5_4 l14)
 have nb7O : g5 ≠ g13 := (Qag r5_3 l13)
 have nb127 : g14 ≠ g5 := (Qal r5_4 l14)
 have nb12O : g14 ≠ g13 := (Qal r13_4 l14)
 have nbO7 : g13 ≠ g5 := (Qal r5_3 l13)
 have nbO12 : g13 ≠ g14 := (Qag r13_4 l14)
 have hgs : ∀ c ∈ ([g14, g13] : List Nat), w.heap.size ≤ c := (fun c hc => by simp only [List.mem_cons, List.not_mem_nil, or_false] at hc; rcases hc with rfl | rfl; exact b14; exact b13)
 have hgp : ∀ c ∈ ([g14, g13] : List Nat), c < W6.heap.size := (fun c hc => by simp only [List.mem_cons, List.not_mem_nil, or_false] at hc; rcases hc with rfl | rfl; exact QaA r14_6; exact QaA r13_6)
 refine QeG (gf := 140) (lb := #[.pointer (some ⟨gp1, 0, none⟩), .pointer (some ⟨gp2, 0, none⟩)]) (enc := fun x : Nat => .int .i64 (number + ((x : Nat) : Int))) (enc2 := fun x : Nat => .agg (ints .u8 (QaT (QaE key nonce) (number + ((x : Nat) : Int))))) kj (enters_of Tryd.func140 kj rfl) (Qex 2 [g14, g13] gp1 gp2 (QaE key nonce) number r tq W7 hr h1 h2 (Qc7 _ _) r1_7 rp1 rp2 (fun hm => by have := hgp _ hm; omega) (fun hm => by have := hgp _ hm; omega) (fun hm => by have h1 := hgs _ hm; have h2 := QaA hq; omega)) (fun h k => QbE.trans h k) QbE.book (Below.refl _ _)
   (fun pre W => ((W.heap[g5]? = some (.cells (#[.slice a_t text.length c_t]) 33)) ∧ (W.heap[g14]? = some (.cells (#[.slice (some ⟨g13, 0, none⟩) (64 * pre.length) text.length]) 33)) ∧ (W.heap[g13]? = some (.cells (ints .u8 (Qbl (mxv text (QaE key nonce) number (pg pre) text.length) text.length (64 * pre.length))) 5)) ∧ 64 * pre.length ≤ text.length ∧ W7.heap.size ≤ W.heap.size) ∧ Ext w W)
   (fun c pre W => (c = .exit 0 ∧ text.length ≤ 64 * pre.length ∧ (W.heap[g14]? = some (.cells (#[.slice (some ⟨g13, 0, none⟩) (text.length) text.length]) 33)) ∧ (W.heap[g13]? = some (.cells (ints .u8 (Qbl (mxv text (QaE key nonce) number (pg pre) text.length) text.length (text.length))) 5))) ∧ Ext w W) (OwnFrom.and (Own.from (fun s A B row hs hg hr => ⟨Qcn hs.1 hg hr, Qcn hs.2.1 hg hr, Qcn hs.2.2.1 hg hr, hs.2.2.2.1, Nat.le_trans hs.2.2.2.2 hg.size⟩) _) (ownFrom_below (Nat.le_refl _) x7.size)) (fun c => OwnFrom.and (Own.from (fun s A B row hs hg hr => ⟨hs.1, hs.2.1, Qcn hs.2.2.1 hg hr, Qcn hs.2.2.2 hg hr⟩) _) (ownFrom_below (Nat.le_refl _) x7.size)) ⟨⟨r5_7, r14_7, QaD r13_7 (QbC _ _), Nat.zero_le _, Nat.le_refl _⟩, x7⟩ (fun e => QbE.ext e) (fun pre A B h e => ⟨⟨Qad h.1.1 e, Qad h.1.2.1 e, Qad h.1.2.2.1 e, h.1.2.2.2.1, Nat.le_trans h.1.2.2.2.2 e.size⟩, Rely.Ext.trans h.2 e⟩) (fun pre W h => h.1.2.2.2.2) (fun x g => [(14, .pointer (some ⟨g, 0, none⟩)), (42, .agg (ints .u8 (QaT (QaE key nonce) (number + ((x : Nat) : Int))))), (41, .int .i64 (number + ((x : Nat) : Int)))]) (fun x => ints .u8 (QaT (QaE key nonce) (number + ((x : Nat) : Int)))) 164 (fun l x W K hK => ?_) (fun l pre x gP Wr hgP hI rP hp => ?_) (fun D ys W lD hS hI rD => ?_) (fun D c pre W lD hSp hIx rD => ?_)
 ·skip
  refine Qbo ?_
  refine QgB (ints .u8 (List.replicate 64 0)) 164 14 rfl (QaU l 1 _) rfl kj kj fun g301 W1 l301 e1 r301_1 => ?_
  have x1 : Ext W W1 := Ext.tr (Rely.Ext.refl W) e1
  have b301 : W.heap.size ≤ g301 := Nat.le_trans (Rely.Ext.refl W).size l301
  refine Qfi g301 _ (ints .u8 (QaT (QaE key nonce) (number + ((x : Nat) : Int)))) 164 r301_1 rfl (QaU l 1 _) rfl kj (Qaq 164 _ _ g301 164 _ _ r301_1 rfl kj kj (isz (n := 64) kj ((Qaf _ _).trans (Qbk _ _))) (eqsz (n := 64) ((Qaf _ _).trans (List.length_replicate (n := 64))) ((Qaf _ _).trans (Qbk _ _))) (Qa7 _ _)) fun W2 p2 r301_2 => ?_
  have x2 : Ext W W2 := Puts.ext p2 x1 b301
  refine QcT ?_
  have y0_1 : Ext W W1 := (Rely.Ext.trans (Rely.Ext.refl W) e1)
  have y0_2 : Ext W W2 := (Puts.ext p2 y0_1 l301)
  exact hK _ _ l301 y0_2 r301_2
 ·skip
  obtain ⟨⟨q7, q12, qO, hml, hsz⟩, xx⟩ := hI
  replace qO := QaD qO (Qhr text (QaE key nonce) number pre x text.length)
  have hl1 : (pre ++ [x]).length = pre.length + 1 := by simp
  have n147 : gP ≠ g5 := by have h1 := QaA r5_7; omega
  have n1412 : gP ≠ g14 := by have h1 := QaA r14_7; omega
  have n14O : gP ≠ g13 := by have h1 := QaA r13_7; omega
  refine wpIn_block ?_
  refine wpIn_seq_k fun K505 hK505 => ?_
  refine Qbo ?_
  refine Qb7 (.agg (ints .u8 (QaT (QaE key nonce) (number + ((x : Nat) : Int))))) 43 rfl (QaU l 1 _) rfl kj (Qar 164 _ gP 164 _ _ rP rfl kj kj (isz (n := 64) kj ((Qaf _ _).trans (Qbk _ _)))) ?_
  refine Qb7 (.int .i64 0) 44 rfl (QaU l 1 _) rfl kj kj ?_
  refine QcT ?_
  refine hK505 _ _ ?_
  refine wpIn_block ?_
  refine QeL (fun (s1 : Nat) => [(7, .pointer (some ⟨g5, 0, none⟩)), (12, .pointer (some ⟨g14, 0, none⟩)), (43, .agg (ints .u8 (QaT (QaE key nonce) (number + ((x : Nat) : Int))))), (44, .int .i64 ((s1 : Nat) : Int))]) (fun (s1 : Nat) W => (s1 ≤ 64) ∧ (64 * pre.length + s1 ≤ text.length) ∧ (W.heap[g14]? = some (.cells (#[.slice (some ⟨g13, 0, none⟩) (64 * pre.length + s1) text.length]) 33)) ∧ (W.heap[g13]? = some (.cells (ints .u8 (Qbl (mxv text (QaE key nonce) number (pg (pre ++ [x])) text.length) text.length (64 * pre.length + s1))) 5)) ∧ (Qax [g14, g13] Wr W) ∧ (Ext w W)) (fun (s1 : Nat) => 64 - s1) 0 ⟨rfl, rfl, rfl, rfl, trivial⟩ ⟨(Nat.zero_le _), (by omega), q12, qO, (Qax.refl [g14, g13] Wr), xx⟩ fun s1 X1 V1 hI1 => ?_
  obtain ⟨j, hs1⟩ : ∃ z, z = s1 := ⟨_, rfl⟩
  subst hs1
  obtain ⟨hj, hmj, q503_1, q501_1, kk1, xx1⟩ := hI1
  replace hj : j ≤ 64 := hj
  replace hmj : 64 * pre.length + j ≤ text.length := hmj
  replace q503_1 : V1.heap[g14]? = some (.cells (#[.slice (some ⟨g13, 0, none⟩) (64 * pre.length + j) text.length]) 33) := q503_1
  replace q501_1 : V1.heap[g13]? = some (.cells (ints .u8 (Qbl (mxv text (QaE key nonce) number (pg (pre ++ [x])) text.length) text.length (64 * pre.length + j))) 5) := q501_1
  replace kk1 : Qax [g14, g13] Wr V1 := kk1
  replace xx1 : Ext w V1 := xx1
  have q1 := kk1
  refine wpIn_seq_k fun K506 hK506 => ?_
  refine Qbo ?_
  refine Qb7 (.bool (decide (((j : Nat) : Int) < 64))) 45 rfl (QaU l 1 _) rfl kj kj ?_
  refine QcT ?_
  refine hK506 _ _ ?_
  refine wpIn_seq_k fun K507 hK507 => ?_
  refine QcU (t := decide (((j : Nat) : Int) < 64)) kj (fun c508 => ?_) (fun c508 => ?_)
  ·skip
   have hlt45 : j < 64 := by have := of_decide_eq_true c508; omega
   refine wpIn_skip ?_
   refine hK507 _ _ ?_
   refine wpIn_seq_k fun K509 hK509 => ?_
   refine wpIn_block ?_
   refine wpIn_seq_k fun K510 hK510 => ?_
   refine Qbo ?_
   refine Qb7 (.int .u8 (nth (QaT (QaE key nonce) (number + ((x : Nat) : Int))) j)) 46 rfl (QaU l 1 _) rfl kj (Qa1 164 _ _ .i64 .u8 (QaT (QaE key nonce) (number + ((x : Nat) : Int))) j 64 5 (nth (QaT (QaE key nonce) (number + ((x : Nat) : Int))) j) rfl kj kj kj kj kj (Qbk _ _) (by omega) rfl) ?_
   refine Qb7 (.int .u8 (nth (QaT (QaE key nonce) (number + ((x : Nat) : Int))) j)) 16 rfl (QaU l 1 _) rfl kj kj ?_
   refine QcT ?_
   refine hK510 _ _ ?_
   refine wpIn_seq_k fun K511 hK511 => ?_
   refine wpIn_seq_k fun K512 hK512 => ?_
   refine Qbo ?_
   refine Qb7 (.slice (some ⟨g13, 0, none⟩) (64 * pre.length + j) text.length) 47 rfl (QaU l 1 _) rfl kj (Qae 33 _ g14 0 33 _ (.slice (some ⟨g13, 0, none⟩) (64 * pre.length + j) text.length) _ q503_1 rfl kj kj kj) ?_
   refine Qb7 (.int .i64 ((64 * pre.length + j : Nat) : Int)) 48 rfl (QaU l 1 _) rfl kj kj ?_
   have r502_1 := (Qax.row q1 q7 (Qbi nb712 (Qbi nb7O QbJ)))
   refine Qb7 (.slice a_t text.length c_t) 49 rfl (QaU l 1 _) rfl kj (Qae 33 _ g5 0 33 _ (.slice a_t text.length c_t) _ r502_1 rfl kj kj kj) ?_
   refine Qb7 (.int .i64 ((text.length : Nat) : Int)) 50 rfl (QaU l 1 _) rfl kj kj ?_
   refine Qb7 (.bool ((((64 * pre.length + j : Nat) : Int) == ((text.length : Nat) : Int)))) 51 rfl (QaU l 1 _) rfl kj kj ?_
   refine QcT ?_
   refine hK512 _ _ ?_
   refine QcU (t := (((64 * pre.length + j : Nat) : Int) == ((text.length : Nat) : Int))) kj (fun c513 => ?_) (fun c513 => ?_)
   ·skip
    have hmn : 64 * pre.length + j = text.length := by have := eq_of_beq c513; omega
    refine wpIn_exit ?_
    repeat (first | with_reducible refine goX1 ?_ | with_reducible refine goXj (by decide) ?_)
    have hq12 := q503_1
    have hqO := q501_1
    rw [hmn] at hq12 hqO
    exact ⟨(Qdq q1 (fun c hc => by simp only [List.mem_cons, List.not_mem_nil, or_false] at hc; rcases hc with rfl | rfl; exact ⟨_, _, q12⟩; exact ⟨_, _, qO⟩)), ⟨rfl, by rw [hl1]; omega, hq12, hqO⟩, xx1⟩
   ·skip
    have hmn : 64 * pre.length + j < text.length := by
     rcases Nat.lt_or_ge (64 * pre.length + j) text.length with hh | hh
     ·exact hh
     ·exfalso; have e : (((64 * pre.length + j : Nat) : Int) == ((text.length : Nat) : Int)) = true := by rw [beq_iff_eq]; omega
      rw [e] at c513; cases c513
    obtain ⟨gt, ot, hat, -, hlt_, hct⟩ := Qd9 (RdK.ext ht xx1) (by omega)
    refine wpIn_skip ?_
    refine hK511 _ _ ?_
    refine Qf6 9 [⟨none, [(12, none)]⟩, ⟨none, [(7, none)]⟩, ⟨none, [(12, none)]⟩, ⟨none, [(54, some 2)]⟩, ⟨none, [(53, some 1), (55, some 3)]⟩, ⟨none, [(56, some 4)]⟩, ⟨none, [(16, none)]⟩, ⟨none, [(57, some 5), (58, some 6)]⟩, ⟨none, [(59, some 7)]⟩] (QaU l 1 _) rfl kj kj fun F hF => ?_
    refine Qbm (Qam _) (.slice (some ⟨g13, 0, none⟩) (64 * pre.length + j) text.length) kj kj (fun W hR => (Qae 33 _ g14 0 33 _ (.slice (some ⟨g13, 0, none⟩) (64 * pre.length + j) text.length) _ (Qad (Qad q503_1 (Qai _)) hR) rfl kj kj kj)) ?_
    refine Qbm (Qam _) (.slice a_t text.length c_t) kj kj (fun W hR => (Qae 33 _ g5 0 33 _ (.slice a_t text.length c_t) _ (Qad (Qad r502_1 (Qai _)) hR) rfl kj kj kj)) ?_
    refine Qbm (Qam _) (.slice (some ⟨g13, 0, none⟩) (64 * pre.length + j) text.length) kj kj (fun W hR => (Qae 33 _ g14 0 33 _ (.slice (some ⟨g13, 0, none⟩) (64 * pre.length + j) text.length) _ (Qad (Qad q503_1 (Qai _)) hR) rfl kj kj kj)) ?_
    refine Qa5 (Qam _) (.int .i64 ((64 * pre.length + j : Nat) : Int)) kj kj (fun W => by kernel_rfl) ?_
    refine Qa5 (Qam _) (.pointer (some ⟨gt, ot + (64 * pre.length + j), none⟩)) kj kj (fun W => (QaR 33 _ _ .i64 (64 * pre.length + j) gt ot text.length c_t 5 a_t _ hat rfl rfl kj kj kj kj (Nat.lt_of_lt_of_eq (show 64 * pre.length + j < text.length by omega) (rfl : text.length = text.length).symm))) ?_
    refine Qbm (Qam _) (.int .u8 (nth (text) ((64 * pre.length + j)))) kj kj (fun W hR => (Qa6 5 _ _ (.int .u8 (nth (text) ((64 * pre.length + j)))) ((Below.cell (Rely.Ext.trans (Qai _) hR) hlt_).trans (hct (64 * pre.length + j) (Nat.lt_of_lt_of_eq (show 64 * pre.length + j < text.length by omega) (rfl : text.length = text.length).symm))) rfl kj kj)) ?_
    refine Qa5 (Qam _) (.int .u8 (nth (QaT (QaE key nonce) (number + ((x : Nat) : Int))) j)) kj kj (fun W => by kernel_rfl) ?_
    refine Qa5 (Qam _) (.int .u8 (bits .xor .u8 ((nth (text) ((64 * pre.length + j)))) ((nth (QaT (QaE key nonce) (number + ((x : Nat) : Int))) j)))) kj kj (fun W => by kernel_rfl) ?_
    refine Qhb (Qam _) (ints .u8 ([(bits .xor .u8 ((nth (text) ((64 * pre.length + j)))) ((nth (QaT (QaE key nonce) (number + ((x : Nat) : Int))) j)))])) 5 1 (NewS.stable _ _ _ _) kj kj (fun W => by kernel_rfl) ?_
    refine QcZ (hF _ fun W2 e2 => ?_)
    simp only [List.nil_append, List.cons_append, List.take_succ_cons, List.take_zero, List.drop_succ_cons, List.drop_zero, finE, up]
    intro vv514 hv514
    clear hF
    have x2 : Ext w W2 := Ext.tr xx1 e2
    obtain ⟨g514, rfl, l514, r514_2⟩ := hv514
    have b514 : w.heap.size ≤ g514 := Nat.le_trans xx1.size l514
    have r501_2 := (Qad q501_1 e2)
    refine Qhx (.slice (some ⟨g13, 0, none⟩) (64 * pre.length + j + 1) text.length) 61 rfl (QaU l 1 _) rfl kj r501_2 (Qet (k := .u8) (b := 1) (.tmp 52) (.tmp 60) 33 rfl kj kj kj kj r501_2 (QbR _ _ _ (QcL _ _ _ _ _) (by omega)) (by omega) r514_2) fun W3 p3 r501_3 => ?_
    have x3 : Ext w W3 := Puts.ext p3 x2 b13
    have r501_3_515 : W3.heap[g13]? = some (.cells (ints .u8 (Qbl (mxv text (QaE key nonce) number (pg (pre ++ [x])) text.length) text.length (64 * pre.length + (j + 1)))) 5) := QaD r501_3 (by rw [← QhS text (QaE key nonce) number pre x text.length j hlt45 hmn]; exact QbD _ text.length (64 * pre.length + j) (QcL _ _ _ _ _) hmn)
    have r503_2 := (Qad q503_1 e2)
    have r503_3 := (Puts.row p3 r503_2 nb12O)
    refine Qfi g14 _ (#[.slice (some ⟨g13, 0, none⟩) (64 * pre.length + j + 1) text.length]) 33 r503_3 rfl (QaU l 1 _) rfl kj (Qbh 33 _ _ g14 0 33 _ (.slice (some ⟨g13, 0, none⟩) (64 * pre.length + j + 1) text.length) r503_3 rfl kj kj kj kj kj rfl) fun W4 p4 r503_4 => ?_
    have x4 : Ext w W4 := Puts.ext p4 x3 b14
    refine QcT ?_
    refine hK509 _ _ ?_
    refine Qbo ?_
    refine Qb7 (.int .i64 ((j + 1 : Nat) : Int)) 62 rfl (QaU l 1 _) rfl kj (Qah (u := .int .i64 (IntKind.i64.wrap (((j : Nat) : Int) + 1))) kj (congrArg (Value.int .i64) (i64n _ _ (by omega) (by omega)))) ?_
    refine Qb7 (.int .i64 ((j + 1 : Nat) : Int)) 44 rfl (QaU l 1 _) rfl kj kj ?_
    refine QcT ?_
    have r501_4 := (Puts.row p4 r501_3_515 nbO12)
    repeat (first | with_reducible refine goX1 ?_ | with_reducible refine goX2 ?_ | with_reducible refine goX3 ?_)
    exact QaQ (j + 1) ⟨rfl, rfl, rfl, rfl, trivial⟩ ⟨(by omega), (by omega), r503_4, r501_4, (Qax.puts (Qax.puts (Qax.step q1 e2) p3 (.inl (by simp))) p4 (.inl (by simp))), x4⟩ (by show 64 - (j + 1) < 64 - j; omega)
  ·skip
   have heq45 : j = 64 := by have := of_decide_eq_false c508; omega
   refine wpIn_exit ?_
   subst heq45
   repeat (first | with_reducible refine goX1 ?_ | with_reducible refine goX2 ?_ | with_reducible refine goX3 ?_)
   have r502_1 := (Qax.row q1 q7 (Qbi nb712 (Qbi nb7O QbJ)))
   exact ⟨(Qdq q1 (fun c hc => by simp only [List.mem_cons, List.not_mem_nil, or_false] at hc; rcases hc with rfl | rfl; exact ⟨_, _, q12⟩; exact ⟨_, _, qO⟩)), (QbE.keeps q1), ⟨r502_1, by rw [hl1, Nat.mul_add]; exact q503_1, by rw [hl1, Nat.mul_add]; exact q501_1, by rw [hl1]; omega, Nat.le_trans hsz (Nat.le_trans (Nat.le_refl _) (Qax.size q1))⟩, xx1⟩
 ·obtain ⟨⟨-, q12, qO, hml, -⟩, xx⟩ := hI
  subst hS
  rw [List.length_range] at q12 qO hml
  have hge : text.length ≤ 64 * r := by omega
  have hee : 64 * r = text.length := by omega
  rw [hee] at q12 qO
  have qO2 := QaD (QaD qO (Qb2 _ _ (QcL _ _ _ _ _))) (QfU text (QaE key nonce) number r hge)
  have bD : w.heap.size ≤ D := Nat.le_trans x7.size lD
  refine hK16 _ _ ?_
  refine wp_seq_k fun K20 hK20 => ?_
  refine Qab ?_
  refine Qaa (.slice (some ⟨g13, 0, none⟩) text.length text.length) 63 rfl kj (Qae 33 _ g14 0 33 _ (.slice (some ⟨g13, 0, none⟩) text.length text.length) _ q12 rfl kj kj kj) ?_
  refine Qaa (.slice (some ⟨g13, 0, none⟩) text.length text.length) 8 rfl kj kj ?_
  refine Qaa (.nilIface) 9 rfl kj kj ?_
  refine Qac ?_
  refine hK20 _ _ ?_
  refine wp_ret ?_
  repeat (first | with_reducible refine goR1 ?_ | with_reducible refine goR2 ?_)
  exact (show bodyPostM _ _ _ _ _ .ret _ _ from QhI (.slice (some ⟨g13, 0, none⟩) text.length text.length) (.nilIface) rfl rD (Qa0 kj) (Qa0 kj) ⟨_, rfl, QeW xx bD rD _, _, rfl, QcE (Qbu _ _ _) b13 (QeV qO2 rD _) (by simp only [maxLen]; omega)⟩)
 ·obtain ⟨⟨rfl, hge, q12, qO⟩, xx⟩ := hIx
  obtain ⟨kR, rfl, -⟩ := hSp
  rw [List.length_range] at hge
  have qO2 := QaD (QaD qO (Qb2 _ _ (QcL _ _ _ _ _))) (QfU text (QaE key nonce) number kR hge)
  have bD : w.heap.size ≤ D := Nat.le_trans x7.size lD
  refine wp_exit ?_
  refine hK16 _ _ ?_
  refine wp_seq_k fun K22 hK22 => ?_
  refine Qab ?_
  refine Qaa (.slice (some ⟨g13, 0, none⟩) text.length text.length) 63 rfl kj (Qae 33 _ g14 0 33 _ (.slice (some ⟨g13, 0, none⟩) text.length text.length) _ q12 rfl kj kj kj) ?_
  refine Qaa (.slice (some ⟨g13, 0, none⟩) text.length text.length) 8 rfl kj kj ?_
  refine Qaa (.nilIface) 9 rfl kj kj ?_
  refine Qac ?_
  refine hK22 _ _ ?_
  refine wp_ret ?_
  repeat (first | with_reducible refine goR1 ?_ | with_reducible refine goR2 ?_)
  exact (show bodyPostM _ _ _ _ _ .ret _ _ from QhI (.slice (some ⟨g13, 0, none⟩) text.length text.length) (.nilIface) rfl rD (Qa0 kj) (Qa0 kj) ⟨_, rfl, QeW xx bD rD _, _, rfl, QcE (Qbu _ _ _) b13 (QeV qO2 rD _) (by simp only [maxLen]; omega)⟩)
end Go.Proofs.YtoiendjhplbjjaaDoor.Cha
end
section
namespace Go.Proofs.YtoiendjhplbjjaaDoor.Sha
open Go Go.RowKit
open Rely Auto Own
set_option linter.unusedVariables false
set_option linter.unusedSimpArgs false
section
variable {P : Program} {ρ : Operand → Value} {o : Oper} {w : World}
theorem Qc9 (t : TypeId) (x z : Operand) (h : Nat) (e : TypeId) (ho : o.op = .slice t x none (some z) none) {a : Option Addr} {len cap : Nat} (hx : ρ x = .slice a len cap)
    (hu : P.underlying t = some (.slice e)) (hs : (P.info? e).map (·.size) = some 1) (kz : IntKind) (hz : ρ z = .int kz (h : Int)) (h2 : h ≤ cap) :
    (execOp ρ o).run P w = .ok (.value (.slice a h cap)) w := by
  cases hq : P.info? e with
  | none => simp [hq] at hs
  | some i =>
    have hs' : i.size = 1 := by simpa [hq] using hs
    unfold execOp
    have hadd : ∀ a : Option Addr, Option.map (fun x => x.add 0) a = a := fun a => by
      cases a with
      | none => rfl
      | some a => obtain ⟨b, o, s⟩ := a; cases s <;> simp [Addr.add]
    simp [ho, hx, hz, Instr.sliceAt, Instr.slice, Instr.sliceBounds, run_sliceBound, run_underlying hu, sizeOf, typeInfo, hq, hs', h2, hadd]
end
section
variable {ds : List Deferred} {P : Program} {ops : Array Oper} {Q : Exit → Act → World → Prop} {rest : List Oper} {o : Oper} {N : Nat} {L : Env} {w : World}
end
def Qgt (T : TypeId) (base : Nat) (t : List Int) (v : Value) (W : World) : Prop := ∃ g c, v = .slice (some ⟨g, 0, none⟩) t.length c ∧ OwnN .u8 T base (t ++ [165, 90]) (.slice (some ⟨g, 0, none⟩) (t ++ [165, 90]).length c) W
theorem Qgt.ext {T : TypeId} {base : Nat} {t : List Int} {v : Value} {W W' : World} (h : Qgt T base t v W) (e : Ext W W') : Qgt T base t v W' := by
  obtain ⟨g, c, rfl, h2⟩ := h
  exact ⟨g, c, rfl, h2.ext e⟩
theorem Qgt.rd {T : TypeId} {base : Nat} {t : List Int} {v : Value} {W : World} (h : Qgt T base t v W) : RdK .u8 W.heap.size t v W := by
  obtain ⟨g, c, rfl, h2⟩ := h
  obtain ⟨a, cap, e, q2, q3, q4, q5⟩ := OwnN.rd h2
  simp only [Value.slice.injEq] at e
  obtain ⟨rfl, -, rfl⟩ := e
  rw [List.length_append] at q2
  refine ⟨_, _, rfl, by omega, q3, q4, .inr ?_⟩
  rcases q5 with q5 | ⟨g', o, e1, e2, e3, e4⟩
  · simp at q5
  · refine ⟨g', o, e1, e2, e3, fun i hi => ?_⟩
    rw [e4 i (by rw [List.length_append]; omega)]
    simp [nth, List.getElem?_append_left hi]
def Qco (a : Option Addr) (c l : Nat) : Option Addr := if c = l then a else a.map fun z => z.add l
theorem QcA {P : Program} {ρ : Operand → Value} {o : Oper} {w : World} (t : TypeId) (x z : Operand) (l : Nat) (e : TypeId) (ho : o.op = .slice t x (some z) none none) {a : Option Addr} {len cap : Nat} (hx : ρ x = .slice a len cap)
    (hu : P.underlying t = some (.slice e)) (hs : (P.info? e).map (·.size) = some 1) (kz : IntKind) (hz : ρ z = .int kz (l : Int)) (h1 : l ≤ len) (h2 : len ≤ cap) :
    (execOp ρ o).run P w = .ok (.value (.slice (Qco a cap l) (len - l) (cap - l))) w := by
  cases hq : P.info? e with
  | none => simp [hq] at hs
  | some i =>
    have hs' : i.size = 1 := by simpa [hq] using hs
    unfold execOp Qco
    have hadd : ∀ a : Option Addr, Option.map (fun x => x.add 0) a = a := fun a => by
      cases a with
      | none => rfl
      | some a => obtain ⟨b, o, s⟩ := a; cases s <;> simp [Addr.add]
    by_cases hc : cap = l
    · simp [ho, hx, hz, Instr.sliceAt, Instr.slice, Instr.sliceBounds, run_sliceBound, run_underlying hu, sizeOf, typeInfo, hq, hs', h1, h2, hadd, hc]
    · simp [ho, hx, hz, Instr.sliceAt, Instr.slice, Instr.sliceBounds, run_sliceBound, run_underlying hu, sizeOf, typeInfo, hq, hs', h1, h2, hadd, hc]
theorem Qdx {k : IntKind} {B n c : Nat} {ys : List Int} {a : Option Addr} {W : World} (h : RdK k B ys (.slice a n c) W) (l : Nat) (hl : l ≤ ys.length) : RdK k B (ys.drop l) (.slice (Qco a c l) (n - l) (c - l)) W := by
  obtain ⟨a', cap, e, h2, h3, h4, h5⟩ := h
  simp only [Value.slice.injEq] at e
  obtain ⟨rfl, rfl, rfl⟩ := e
  refine ⟨_, _, by rw [List.length_drop], by rw [List.length_drop]; omega, by omega, ?_, ?_⟩
  · intro e
    unfold Qco at e
    split at e
    · omega
    · have := h4 (by cases a <;> simp_all); omega
  · rcases h5 with h5 | ⟨g, o, rfl, q2, q3, q4⟩
    · left; rw [h5]; simp
    · rcases Nat.lt_or_ge l ys.length with hlt | hge
      · right
        refine ⟨g, o + l, ?_, q2, q3, fun i hi => ?_⟩
        · unfold Qco
          rw [if_neg (by omega), Option.map_some]
          simp [Addr.add]
        · rw [List.length_drop] at hi
          rw [Nat.add_assoc, q4 (l + i) (by omega)]
          simp [nth]
      · left; exact List.drop_of_length_le hge
theorem Qeb {k : IntKind} {B n c : Nat} {ys : List Int} {a : Option Addr} {W : World} (h : RdK k B ys (.slice a n c) W) (l : Nat) (hl : l ≤ ys.length) : RdK k B (ys.take l) (.slice a l c) W := by
  obtain ⟨a', cap, e, h2, h3, h4, h5⟩ := h
  simp only [Value.slice.injEq] at e
  obtain ⟨rfl, rfl, rfl⟩ := e
  have hlen : (ys.take l).length = l := by rw [List.length_take]; omega
  refine ⟨_, _, by rw [hlen], by omega, h3, h4, ?_⟩
  rcases h5 with rfl | ⟨g, off, rfl, q2, q3, q4⟩
  · exact .inl (by simp)
  · refine .inr ⟨g, off, rfl, q2, q3, fun i hi => ?_⟩
    rw [hlen] at hi
    rw [q4 i (by omega)]
    simp [nth, List.getElem?_take, hi]
end Go.Proofs.YtoiendjhplbjjaaDoor.Sha
end
section
namespace Go.Proofs.YtoiendjhplbjjaaDoor.Cha
open Go Go.RowKit
open Rely Auto Own Sha
set_option linter.unusedVariables false
set_option linter.unusedSimpArgs false
open Sha
theorem Qgo (x y : Int) : bits .xor .u8 x y = (((BitVec.ofInt 8 x) ^^^ (BitVec.ofInt 8 y)).toNat : Int) := by
  have h : bits .xor .u8 x y = IntKind.u8.wrap (((BitVec.ofInt 8 x) ^^^ (BitVec.ofInt 8 y)).toNat : Int) := rfl
  have h3 : ∀ z : Int, IntKind.u8.wrap z = z % 256 := fun _ => rfl
  rw [h, h3]
  have := ((BitVec.ofInt 8 x) ^^^ (BitVec.ofInt 8 y)).isLt
  omega
theorem Qdj (a b : Int) (h0 : 0 ≤ a) (h1 : a ≤ 255) : bits .xor .u8 (bits .xor .u8 a b) b = a := by
  rw [Qgo, Qgo]
  have e : BitVec.ofInt 8 (((BitVec.ofInt 8 a) ^^^ (BitVec.ofInt 8 b)).toNat : Int) = (BitVec.ofInt 8 a) ^^^ (BitVec.ofInt 8 b) := by
    apply BitVec.eq_of_toNat_eq
    rw [BitVec.toNat_ofInt]
    have := ((BitVec.ofInt 8 a) ^^^ (BitVec.ofInt 8 b)).isLt
    omega
  rw [e, BitVec.xor_assoc, BitVec.xor_self, BitVec.xor_zero, BitVec.toNat_ofInt]
  omega
theorem QdT (ws : List Wd) (num : Int) (text : List Int) : Qan (mixV ws num text) := fun n hn => by
  unfold mixV mxv at hn
  obtain ⟨i, -, rfl⟩ := List.mem_map.1 hn
  rw [Qgo]
  have := ((BitVec.ofInt 8 (nth text i)) ^^^ (BitVec.ofInt 8 (nth (QaT ws (num + ((id (i / 64) : Nat) : Int))) (i % 64)))).isLt
  omega
theorem Qff (ws : List Wd) (num : Int) (text : List Int) (i : Nat) (h : i < text.length) : nth (mixV ws num text) i = bits .xor .u8 (nth text i) (nth (QaT ws (num + ((i / 64 : Nat) : Int))) (i % 64)) := QfT text ws num id text.length i h
theorem Qhp {xs ys : List Int} (hl : xs.length = ys.length) (h : ∀ i, i < xs.length → nth xs i = nth ys i) : xs = ys := by
  apply List.ext_getElem? 
  intro i
  rcases Nat.lt_or_ge i xs.length with hi | hi
  · have h1 := h i hi
    unfold nth at h1
    rw [List.getD_eq_getElem?_getD, List.getD_eq_getElem?_getD, List.getElem?_eq_getElem hi, List.getElem?_eq_getElem (by omega)] at h1
    rw [List.getElem?_eq_getElem hi, List.getElem?_eq_getElem (by omega)]
    exact congrArg some h1
  · rw [List.getElem?_eq_none hi, List.getElem?_eq_none (by omega)]
theorem Qhu (ws : List Wd) (num : Int) (text : List Int) (hb : Qan text) : mixV ws num (mixV ws num text) = text := by
  refine Qhp (by rw [Qbu, Qbu]) fun i hi => ?_
  rw [Qbu, Qbu] at hi
  rw [Qff _ _ _ _ (by rw [Qbu]; exact hi), Qff _ _ _ _ hi]
  have h := QaN hb i
  exact Qdj _ _ (by omega) (by omega)
theorem Qee (xs : List Int) (k i : Nat) (h : i < k) : nth (xs.take k) i = nth xs i := by
  unfold nth; rw [List.getD_eq_getElem?_getD, List.getD_eq_getElem?_getD, List.getElem?_take, if_pos h]
theorem Qfa (xs : List Int) (k i : Nat) : nth (xs.drop k) i = nth xs (k + i) := by
  unfold nth; rw [List.getD_eq_getElem?_getD, List.getD_eq_getElem?_getD, List.getElem?_drop]
def MixR (base : Nat) (xs : List Int) : Value → World → Prop := fun v W => ∃ u, v = .tuple #[u, .nilIface] ∧ OwnN .u8 5 base xs u W
theorem Qcr (base : Nat) (xs : List Int) : Qbq Ext (MixR base xs) := fun _ _ _ hR ⟨u, e, h⟩ => ⟨u, e, h.ext hR⟩
theorem MixG (n0 : Nat) (key nonce text : List Int) (v v2 : Value) (B B2 : Nat) (number : Int) (th tq : TypeId) (w : World) (hh : w.heap[2]? = some (.cells (ints .u32 [1634760805, 857760878, 2036477234, 1797285236]) th)) (hq : w.heap[3]? = some (.cells (ints .i64 [0, 4, 8, 12, 1, 5, 9, 13, 2, 6, 10, 14, 3, 7, 11, 15, 0, 5, 10, 15, 1, 6, 11, 12, 2, 7, 8, 13, 3, 4, 9, 14]) tq)) (hkl : key.length = 32) (hn : RdK .u8 B nonce v w) (ht : RdK .u8 B2 text v2 w) (h : nonce.length = 12) (r : Nat) (hr : number + (r : Int) = 4294967296) (h1 : 0 ≤ number) (h2 : number ≤ 4294967295) (hfit : text.length ≤ 64 * r) (htl : text.length ≤ 2000000) (hn0 : n0 ≤ w.heap.size) :
    Calls Tryd.prog 103 #[.agg (ints .u8 key), v, .int .i64 number, v2] w (Qca w (MixR n0 (mixV (QaE key nonce) number text))) :=
  (Qiy key nonce text v v2 B B2 number th tq w hh hq hkl hn ht h r hr h1 h2 hfit htl).mono fun e W' hg => by
    obtain ⟨v', e1, e2, u, e3, e4⟩ := hg
    exact ⟨v', e1, e2, u, e3, e4.base hn0⟩
theorem u64n (n : Nat) (hn : n < 18446744073709551616) : IntKind.u64.wrap ((n : Nat) : Int) = ((n : Nat) : Int) := by
  have : ∀ z : Int, IntKind.u64.wrap z = z % 2 ^ 64 := fun _ => rfl
  rw [this]; omega
theorem Qib {P : Program} {w : World} (t : TypeId) (k : IntKind) (a b r : Int) (hb : b ≠ 0) (h : a.tmod b = r) : (binOp .rem t (.int k a) (.int k b)).run P w = .ok (.int k r) w := by
  subst h
  unfold binOp Op.intDiv
  simp [hb]
end Go.Proofs.YtoiendjhplbjjaaDoor.Cha
end
section
namespace Go.Proofs.YtoiendjhplbjjaaDoor.Ae
open Go Go.RowKit
open Rely Auto Own Sha Cha
set_option linter.unusedVariables false
set_option linter.unusedSimpArgs false
def lev : List Int → Int
  | [] => 0
  | a :: t => a + 256 * lev t
def p256 (n : Nat) : Int := 256 ^ n
theorem QgT : p256 0 = 1 := rfl
theorem Qc1 (n : Nat) : p256 (n + 1) = 256 * p256 n := by unfold p256; rw [Int.pow_succ, Int.mul_comm]
theorem Qcq (m n : Nat) : p256 (m + n) = p256 m * p256 n := by unfold p256; rw [Int.pow_add]
theorem QbX (n : Nat) : 0 < p256 n := Int.pow_pos (by decide)
theorem Qeg : ∀ (xs : List Int) (x : Int), lev (xs ++ [x]) = lev xs + x * p256 xs.length
  | [], x => by simp [lev, QgT]
  | a :: t, x => by
    rw [List.cons_append, lev, Qeg t x, lev, List.length_cons, Qc1]
    grind
theorem Qb1 : ∀ {xs : List Int}, Qan xs → 0 ≤ lev xs
  | [], _ => by simp [lev]
  | a :: t, h => by
    have h1 := h a (List.mem_cons_self ..)
    have h2 := Qb1 (xs := t) fun x hx => h x (List.mem_cons_of_mem _ hx)
    rw [lev]; omega
theorem QdE : ∀ {xs : List Int}, Qan xs → lev xs < p256 xs.length
  | [], _ => by simp [lev, QgT]
  | a :: t, h => by
    have h1 := h a (List.mem_cons_self ..)
    have h2 := QdE (xs := t) fun x hx => h x (List.mem_cons_of_mem _ hx)
    rw [lev, List.length_cons, Qc1]; omega
theorem QcQ (xs : List Int) (i : Nat) (h : i < xs.length) : lev (xs.take (i + 1)) = lev (xs.take i) + nth xs i * p256 i := by
  have e : xs.take (i + 1) = xs.take i ++ [nth xs i] := by
    rw [List.take_add_one, List.getElem?_eq_getElem h]
    simp [nth, h]
  rw [e, Qeg, List.length_take, Nat.min_eq_left (by omega)]
theorem QgF (a b : Int) : a / 256 / b = a / (256 * b) := by rw [Int.ediv_ediv, if_neg (by omega)]; exact Int.sub_zero _
theorem Qe3 : ∀ (xs : List Int) (i : Nat), Qan xs → nth xs i = lev xs / p256 i % 256
  | [], i, _ => by
    have : nth ([] : List Int) i = 0 := by simp [nth]
    rw [this]; simp [lev]
  | a :: t, 0, h => by
    have h1 := h a (List.mem_cons_self ..)
    show a = lev (a :: t) / 1 % 256
    rw [lev]; omega
  | a :: t, i + 1, h => by
    have h1 := h a (List.mem_cons_self ..)
    show nth t i = _
    rw [Qe3 t i fun x hx => h x (List.mem_cons_of_mem _ hx), lev, Qc1, ← QgF, show (a + 256 * lev t) / 256 = lev t by omega]
theorem Qci {a b : List Int} (ha : Qan a) (hb : Qan b) : Qan (a ++ b) := fun x hx => by
  rcases List.mem_append.1 hx with h | h
  · exact ha x h
  · exact hb x h
theorem QaH {a : List Int} (ha : Qan a) (n : Nat) : Qan (a.take n) := fun x hx => ha x (List.mem_of_mem_take hx)
theorem Qbe {a : List Int} (ha : Qan a) (n : Nat) : Qan (a.drop n) := fun x hx => ha x (List.mem_of_mem_drop hx)
theorem Qbp {a : List Int} (ha : Qan a) (n : Nat) {x : Int} (h0 : 0 ≤ x) (h1 : x ≤ 255) : Qan (a.set n x) := fun y hy => by
  rcases List.mem_or_eq_of_mem_set hy with h | h
  · exact ha y h
  · subst h; exact ⟨h0, h1⟩
def PP : Int := 1361129467683753853853498429727072845819
def Qc0 (r : Int) (t : List Int) : Nat → Int
  | 0 => 0
  | n + 1 => (Qc0 r t n + lev (((t.drop (16 * n)).take 16) ++ [1])) * r % PP
def QcJ (r : Int) (t : List Int) : Int := Qc0 r t ((t.length + 15) / 16)
def by16 (v : Int) : List Int := (List.range 16).map fun i => v / p256 i % 256
def tagV (r s : Int) (t : List Int) : List Int := by16 (QcJ r t + s)
theorem QaC (v : Int) : (by16 v).length = 16 := by simp [by16]
theorem Qf9 (v : Int) : Qan (by16 v) := fun x hx => by
  obtain ⟨i, -, rfl⟩ := List.mem_map.1 hx
  omega
theorem QgI (v : Int) (i : Nat) (h : i < 16) : nth (by16 v) i = v / p256 i % 256 := by
  unfold nth by16
  rw [List.getD_eq_getElem?_getD, List.getElem?_map, List.getElem?_range h]; rfl
end Go.Proofs.YtoiendjhplbjjaaDoor.Ae
end
section
namespace Go.Proofs.YtoiendjhplbjjaaDoor.Ae
open Go Go.RowKit
open Rely Auto Own Sha
set_option linter.unusedVariables false
set_option linter.unusedSimpArgs false
open Sha Cha
theorem Qd6 (b : List Int) (i : Nat) (h : i < b.length) : b.take (i + 1) = b.take i ++ [nth b i] := by
  rw [List.take_add_one, List.getElem?_eq_getElem h]
  simp [nth, h]
end Go.Proofs.YtoiendjhplbjjaaDoor.Ae
end
section
namespace Go.Proofs.YtoiendjhplbjjaaDoor.Ae
open Go Go.RowKit
open Rely Auto Own Sha
set_option linter.unusedVariables false
set_option linter.unusedSimpArgs false
open Sha Cha
theorem times_zero {a b os : List Int} {i : Nat} (ha : Qan a) (hb : Qan b) (ho : Qan os) (hi : i ≤ a.length) (hv : lev os = lev (a.take i) * lev b) : nth os (i + b.length) = 0 := by
  rw [Qe3 os _ ho]
  have h1 := QdE (QaH ha i)
  have h2 := QdE hb
  have h3 := Qb1 (QaH ha i)
  have h4 := Qb1 hb
  rw [List.length_take, Nat.min_eq_left hi] at h1
  have h5 : lev os < p256 (i + b.length) := by
    rw [hv, Qcq]
    exact Int.lt_of_le_of_lt (Int.mul_le_mul_of_nonneg_left (Int.le_of_lt h2) h3) (Int.mul_lt_mul_of_pos_right h1 (QbX _))
  rw [Int.ediv_eq_zero_of_lt (Qb1 ho) h5]; rfl
end Go.Proofs.YtoiendjhplbjjaaDoor.Ae
end
section
namespace Go.Proofs.YtoiendjhplbjjaaDoor.Ae
open Go Go.RowKit
open Rely Auto Own Sha
set_option linter.unusedVariables false
set_option linter.unusedSimpArgs false
open Sha Cha
theorem p16 : p256 16 = 340282366920938463463374607431768211456 := by decide +kernel
end Go.Proofs.YtoiendjhplbjjaaDoor.Ae
end
section
namespace Go.Proofs.YtoiendjhplbjjaaDoor.Ae
open Go Go.RowKit
open Rely Auto Own Sha
set_option linter.unusedVariables false
set_option linter.unusedSimpArgs false
open Sha Cha
theorem QfN {k : IntKind} {T : TypeId} {g n l h : Nat} {xs : List Int} {W : World} (hn : xs.length = n) (r : W.heap[g]? = some (.cells (ints k xs) T)) (h1 : l ≤ h) (h2 : h ≤ n) (h3 : n ≤ maxLen) : RdK k W.heap.size ((xs.drop l).take (h - l)) (.slice (some ⟨g, l, none⟩) (h - l) (n - l)) W :=
  QeF l (by rw [List.length_take, List.length_drop]; omega) r (fun i hi => by rw [Qee _ _ _ hi, Qfa]; exact Qay k xs (l + i) (by omega)) (QaA r) (by omega) (by omega)
def Qds (b : List Int) : List Int :=
  let b1 := b.set 3 (nth b 3 % 16)
  let b2 := b1.set 7 (nth b1 7 % 16)
  let b3 := b2.set 11 (nth b2 11 % 16)
  let b4 := b3.set 15 (nth b3 15 % 16)
  let b5 := b4.set 4 (nth b4 4 / 4 * 4)
  let b6 := b5.set 8 (nth b5 8 / 4 * 4)
  b6.set 12 (nth b6 12 / 4 * 4)
def rOf (key : List Int) : Int := lev (Qds ((key.drop 0).take (16 - 0)))
def sOf (key : List Int) : Int := lev ((key.drop 16).take (32 - 16))
theorem QdP {x c r q y : Int} (h : x % PP = q) (hy : y % PP = (x + c) * r % PP) : y % PP = (q + c) * r % PP := by
  rw [hy, ← h, Int.mul_emod (x + c), Int.add_emod x c, Int.mul_emod (x % PP + c), Int.add_emod (x % PP) c, Int.emod_emod_of_dvd x (Int.dvd_refl PP)]
end Go.Proofs.YtoiendjhplbjjaaDoor.Ae
end
section
namespace Go.Proofs.YtoiendjhplbjjaaDoor.Ae
open Go Go.RowKit
open Rely Auto Own Sha
set_option linter.unusedVariables false
set_option linter.unusedSimpArgs false
open Sha Cha
def isW (x : Int) : Prop := 0 ≤ x ∧ x < 18446744073709551616
theorem QbS (x y c : Int) (hx : isW x) (hy : isW y) (hc : 0 ≤ c ∧ c ≤ 1) :
    ∃ s d : Int, isW s ∧ (0 ≤ d ∧ d ≤ 1) ∧ s + 18446744073709551616 * d = x + y + c ∧
      ∀ W, (callFunc 166 #[.int .u64 x, .int .u64 y, .int .u64 c]).run Tryd.prog W = .ok (.value (.tuple #[.int .u64 s, .int .u64 d])) W := by
  unfold isW at hx hy
  refine ⟨(x + y + c) % 18446744073709551616, (x + y + c) / 18446744073709551616, ⟨by omega, by omega⟩, by omega, by omega, fun W => ?_⟩
  rw [run_callFunc_extern Tryd.func166 kj kj kj (e := add64Entry) kj, run_add64 x y c hx.1 hy.1 hc.1 hc.2]
  rfl
theorem maskN (a : Int) (h : isW a) : bits .and .u64 a 4294967295 = a % 4294967296 := by
  obtain ⟨A, rfl⟩ := Int.eq_ofNat_of_zero_le h.1
  have h := bits_and_u64_nat A 4294967295 (by have := h.2; omega) (by omega)
  have e : A &&& 4294967295 = A % 4294967296 := Nat.and_two_pow_sub_one_eq_mod A 32
  rw [e] at h
  exact h
theorem QgM (a : Int) (h : isW a) : IntKind.u64.wrap a = a := by rw [IntKind.wrap_u64]; have := h.1; have := h.2; omega
theorem QfW (x y : Int) (hx : isW x) (hy : isW y) :
    ∃ hi lo : Int, isW hi ∧ isW lo ∧ lo + 18446744073709551616 * hi = x * y ∧ ∀ w, Calls Tryd.prog 169 #[.int .u64 x, .int .u64 y] w (fun e w' => e = .returned (.tuple #[.int .u64 hi, .int .u64 lo]) ∧ w' = w) := by
  obtain ⟨X, rfl⟩ := Int.eq_ofNat_of_zero_le hx.1
  obtain ⟨Y, rfl⟩ := Int.eq_ofNat_of_zero_le hy.1
  have hX : X < 18446744073709551616 := by have := hx.2; omega
  have hY : Y < 18446744073709551616 := by have := hy.2; omega
  have hXY : X * Y < 18446744073709551616 * 18446744073709551616 := Nat.mul_lt_mul'' hX hY
  refine ⟨((X * Y / 18446744073709551616 : Nat) : Int), ((X * Y % 18446744073709551616 : Nat) : Int), ⟨by omega, by omega⟩, ⟨by omega, by omega⟩, ?_, fun w => ?_⟩
  · rw [← Int.natCast_mul]; omega
  obtain ⟨bd, bt, bw, hhi⟩ := Lib.mul64_hi X Y hX hY
  have ba := Lib.half_mul_le (a := X / 4294967296) (b := Y / 4294967296) (by omega) (by omega)
  have bb := Lib.half_mul_le (a := X / 4294967296) (b := Y % 4294967296) (by omega) (by omega)
  have bc := Lib.half_mul_le (a := X % 4294967296) (b := Y / 4294967296) (by omega) (by omega)
  have ba' : X / 4294967296 * (Y / 4294967296) < 18446744073709551616 := by omega
  have bb' : X / 4294967296 * (Y % 4294967296) < 18446744073709551616 := by omega
  have bc' : X % 4294967296 * (Y / 4294967296) < 18446744073709551616 := by omega
  have bh1 : X / 4294967296 * (Y / 4294967296) + (X / 4294967296 * (Y % 4294967296) + X % 4294967296 * (Y % 4294967296) / 4294967296) / 4294967296 < 18446744073709551616 := by omega
  have bh : X / 4294967296 * (Y / 4294967296) + (X / 4294967296 * (Y % 4294967296) + X % 4294967296 * (Y % 4294967296) / 4294967296) / 4294967296 + ((X / 4294967296 * (Y % 4294967296) + X % 4294967296 * (Y % 4294967296) / 4294967296) % 4294967296 + X % 4294967296 * (Y / 4294967296)) / 4294967296 < 18446744073709551616 := by omega
  go_enter Tryd.func169, Tryd.ntmps169
  go_wp2
  simp only [Mul64.maskN X hX, Mul64.maskN Y hY, Mul64.divN, Mul64.mulN, Mul64.addN, Mul64.wrapN _ bd, Mul64.wrapN _ bb', Mul64.wrapN _ bt, Mul64.maskN _ bt, Mul64.wrapN _ bc', Mul64.wrapN _ bw, Mul64.wrapN _ ba', Mul64.wrapN _ bh1, Mul64.wrapN _ bh, Mul64.wrapM (X * Y)]
  rw [hhi]
  go_ret2
  exact ⟨rfl, rfl⟩
theorem QaW : isW 0 := ⟨by decide, by decide⟩
def nw3 (v : Int) : List Int := [v % 18446744073709551616, v / 18446744073709551616 % 18446744073709551616, v / 340282366920938463463374607431768211456 % 18446744073709551616]
theorem QgV {a b c v : Int} (ha : isW a) (hb : isW b) (hc : isW c) (h : a + 18446744073709551616 * b + 340282366920938463463374607431768211456 * c = v) : [a, b, c] = nw3 v := by
  obtain ⟨a0, a1⟩ := ha
  obtain ⟨b0, b1⟩ := hb
  obtain ⟨c0, c1⟩ := hc
  subst h
  unfold nw3
  have e1 : (a + 18446744073709551616 * b + 340282366920938463463374607431768211456 * c) % 18446744073709551616 = a := by omega
  have e2 : (a + 18446744073709551616 * b + 340282366920938463463374607431768211456 * c) / 18446744073709551616 % 18446744073709551616 = b := by omega
  have e3 : (a + 18446744073709551616 * b + 340282366920938463463374607431768211456 * c) / 340282366920938463463374607431768211456 % 18446744073709551616 = c := by omega
  rw [e1, e2, e3]
theorem QbL (v : Int) : isW (v % 18446744073709551616) := ⟨by omega, by omega⟩
theorem Qed (v : Int) (h0 : 0 ≤ v) (h : v < 6277101735386680763835789423207666416102355444464034512896) : v % 18446744073709551616 + 18446744073709551616 * (v / 18446744073709551616 % 18446744073709551616) + 340282366920938463463374607431768211456 * (v / 340282366920938463463374607431768211456 % 18446744073709551616) = v := by omega
theorem Qhm (t : Nat) (ht : t < 8) : 0 < p256 t ∧ 256 * p256 t ≤ 18446744073709551616 := by
  have : ∀ t : Fin 8, 0 < p256 t.1 ∧ 256 * p256 t.1 ≤ 18446744073709551616 := by decide +kernel
  exact this ⟨t, ht⟩
theorem QfR (u x : Int) (t : Nat) (h0 : 0 ≤ u) (h1 : u < p256 t) (hx : 0 ≤ x ∧ x < 256) (ht : t < 8) : bits .or .u64 u (x * p256 t) = u + x * p256 t := by
  obtain ⟨U, rfl⟩ := Int.eq_ofNat_of_zero_le h0
  obtain ⟨X, rfl⟩ := Int.eq_ofNat_of_zero_le hx.1
  obtain ⟨q0, q1⟩ := Qhm t ht
  have e : p256 t = ((2 ^ (8 * t) : Nat) : Int) := by unfold p256; rw [Nat.pow_mul]; simp
  have hX : X < 256 := by omega
  rw [e] at h1 q0 q1 ⊢
  have hU : U < 2 ^ (8 * t) := by omega
  have q2 : 256 * 2 ^ (8 * t) ≤ 18446744073709551616 := by omega
  have hm : X * 2 ^ (8 * t) + 2 ^ (8 * t) ≤ 18446744073709551616 := by
    have : (X + 1) * 2 ^ (8 * t) ≤ 256 * 2 ^ (8 * t) := Nat.mul_le_mul_right _ hX
    rw [Nat.succ_mul] at this; omega
  rw [← Int.natCast_mul, bits_or_u64_nat U (X * 2 ^ (8 * t)) (by omega) (by omega)]
  have h := Nat.shiftLeft_add_eq_or_of_lt hU X
  rw [Nat.shiftLeft_eq] at h
  rw [Nat.or_comm, ← h]
  rw [Int.natCast_add]; omega
theorem Qil (x : Int) (t : Nat) (c : Int) (hc : c = ((8 * t : Nat) : Int)) (hx : 0 ≤ x ∧ x < 256) (ht : t < 8) : IntKind.u64.wrap (x * 2 ^ min c.toNat IntKind.u64.bits) = x * p256 t := by
  subst hc
  have hm : min (((8 * t : Nat) : Int)).toNat IntKind.u64.bits = 8 * t := by show min (((8 * t : Nat) : Int)).toNat 64 = 8 * t; omega
  have e : (2 : Int) ^ (8 * t) = p256 t := by unfold p256; rw [Int.pow_mul]; rfl
  obtain ⟨q0, q1⟩ := Qhm t ht
  rw [hm, e]
  have h1 : 0 ≤ x * p256 t := Int.mul_nonneg hx.1 (by omega)
  have h2 : x * p256 t ≤ 255 * p256 t := Int.mul_le_mul_of_nonneg_right (by omega) (by omega)
  exact QgM _ ⟨h1, by omega⟩
theorem Qft (v x : Int) (i : Nat) (hi : i < 24) (h0 : 0 ≤ v) (h1 : v < p256 i) (hx : 0 ≤ x ∧ x < 256) :
    bits .or .u64 (nth (nw3 v) (i / 8)) (x * p256 (i % 8)) = nth (nw3 (v + x * p256 i)) (i / 8) ∧ (nw3 v).set (i / 8) (nth (nw3 (v + x * p256 i)) (i / 8)) = nw3 (v + x * p256 i) := by
  obtain ⟨t, et⟩ : ∃ t, t = i % 8 := ⟨_, rfl⟩
  have ht : t < 8 := by omega
  obtain ⟨q0, q1⟩ := Qhm t ht
  obtain ⟨z, ez⟩ : ∃ z, z = x * p256 t := ⟨_, rfl⟩
  have hz0 : 0 ≤ z := by rw [ez]; exact Int.mul_nonneg hx.1 (by omega)
  have hz1 : z ≤ 255 * p256 t := by rw [ez]; exact Int.mul_le_mul_of_nonneg_right (by omega) (by omega)
  rw [← et]
  have hp8 : p256 8 = 18446744073709551616 := by decide +kernel
  have hp16 : p256 16 = 340282366920938463463374607431768211456 := p16
  rcases (show i = t ∨ i = 8 + t ∨ i = 16 + t by omega) with e | e | e
  · have hd : i / 8 = 0 := by omega
    have hv : v < p256 t := by rw [e] at h1; exact h1
    have hxp : x * p256 i = z := by rw [e, ez]
    rw [hd, hxp]
    have e1 : nth (nw3 v) 0 = v := by show v % _ = v; omega
    have e2 : nth (nw3 (v + z)) 0 = v + z := by show (v + z) % _ = v + z; omega
    rw [e1, e2]
    refine ⟨by rw [QfR v x t h0 hv hx ht, ez], ?_⟩
    show [v + z, v / 18446744073709551616 % 18446744073709551616, v / 340282366920938463463374607431768211456 % 18446744073709551616] = [(v + z) % 18446744073709551616, (v + z) / 18446744073709551616 % 18446744073709551616, (v + z) / 340282366920938463463374607431768211456 % 18446744073709551616]
    congr 1
    · omega
    · congr 1
      · omega
      · congr 1; omega
  · have hd : i / 8 = 1 := by omega
    have hpi : p256 i = 18446744073709551616 * p256 t := by rw [e, Qcq, hp8]
    have hv : v < 18446744073709551616 * p256 t := by rw [hpi] at h1; exact h1
    have hxp : x * p256 i = 18446744073709551616 * z := by rw [hpi, ez]; grind
    rw [hd, hxp]
    have e1 : nth (nw3 v) 1 = v / 18446744073709551616 := by show v / _ % _ = v / _; omega
    have e2 : nth (nw3 (v + 18446744073709551616 * z)) 1 = v / 18446744073709551616 + z := by show (v + _ * z) / _ % _ = _; omega
    rw [e1, e2]
    refine ⟨by rw [QfR (v / 18446744073709551616) x t (by omega) (by omega) hx ht, ez], ?_⟩
    show [v % 18446744073709551616, v / 18446744073709551616 + z, v / 340282366920938463463374607431768211456 % 18446744073709551616] = [(v + 18446744073709551616 * z) % 18446744073709551616, (v + 18446744073709551616 * z) / 18446744073709551616 % 18446744073709551616, (v + 18446744073709551616 * z) / 340282366920938463463374607431768211456 % 18446744073709551616]
    congr 1
    · omega
    · congr 1
      · omega
      · congr 1; omega
  · have hd : i / 8 = 2 := by omega
    have hpi : p256 i = 340282366920938463463374607431768211456 * p256 t := by rw [e, Qcq, hp16]
    have hv : v < 340282366920938463463374607431768211456 * p256 t := by rw [hpi] at h1; exact h1
    have hxp : x * p256 i = 340282366920938463463374607431768211456 * z := by rw [hpi, ez]; grind
    rw [hd, hxp]
    have e1 : nth (nw3 v) 2 = v / 340282366920938463463374607431768211456 := by show v / _ % _ = v / _; omega
    have e2 : nth (nw3 (v + 340282366920938463463374607431768211456 * z)) 2 = v / 340282366920938463463374607431768211456 + z := by show (v + _ * z) / _ % _ = _; omega
    rw [e1, e2]
    refine ⟨by rw [QfR (v / 340282366920938463463374607431768211456) x t (by omega) (by omega) hx ht, ez], ?_⟩
    show [v % 18446744073709551616, v / 18446744073709551616 % 18446744073709551616, v / 340282366920938463463374607431768211456 + z] = [(v + 340282366920938463463374607431768211456 * z) % 18446744073709551616, (v + 340282366920938463463374607431768211456 * z) / 18446744073709551616 % 18446744073709551616, (v + 340282366920938463463374607431768211456 * z) / 340282366920938463463374607431768211456 % 18446744073709551616]
    congr 1
    · omega
    · congr 1
      · omega
      · congr 1; omega
theorem Qav (v : Int) : (nw3 v).length = 3 := rfl
set_option maxHeartbeats 4000000 in
theorem Qio (m0_ m1_ m2_ n0_ n1_ n2_ v : Int) (hm0_ : isW m0_) (hm1_ : isW m1_) (hm2_ : isW m2_) (hn0_ : isW n0_) (hn1_ : isW n1_) (hn2_ : isW n2_) (hv : (m0_ + 18446744073709551616 * m1_ + 340282366920938463463374607431768211456 * m2_) + (n0_ + 18446744073709551616 * n1_ + 340282366920938463463374607431768211456 * n2_) = v) (hlt : v < 6277101735386680763835789423207666416102355444464034512896) (w : World) :
    Calls Tryd.prog 159 #[.agg (ints .u64 [m0_, m1_, m2_]), .agg (ints .u64 [n0_, n1_, n2_])] w (Ret w (.agg (ints .u64 (nw3 v)))) := by
  refine enter 25 [(0, .agg (ints .u64 ([m0_, m1_, m2_]))), (1, .agg (ints .u64 ([n0_, n1_, n2_])))] Tryd.func159 rfl rfl kj rfl ?_
  refine wp_seq_k fun K1 hK1 => ?_
  refine Qab ?_
  refine Qas (ints .u64 ([m0_, m1_, m2_])) 221 2 rfl kj kj fun g2 W1 l2 e1 r2_1 => ?_
  have x1 : Ext w W1 := Ext.tr (Rely.Ext.refl w) e1
  have b2 : w.heap.size ≤ g2 := Nat.le_trans (Rely.Ext.refl w).size l2
  refine Qas (ints .u64 ([n0_, n1_, n2_])) 221 3 rfl kj kj fun g3 W2 l3 e2 r3_2 => ?_
  have x2 : Ext w W2 := Ext.tr x1 e2
  have b3 : w.heap.size ≤ g3 := Nat.le_trans x1.size l3
  refine Qas (ints .u64 ([0, 0, 0])) 221 4 rfl kj kj fun g4 W3 l4 e3 r4_3 => ?_
  have x3 : Ext w W3 := Ext.tr x2 e3
  have b4 : w.heap.size ≤ g4 := Nat.le_trans x2.size l4
  refine Qac ?_
  refine hK1 _ _ ?_
  refine wp_seq_k fun K5 hK5 => ?_
  refine Qab ?_
  refine Qaa (.int .u64 0) 5 rfl kj kj ?_
  refine Qac ?_
  refine hK5 _ _ ?_
  refine wp_seq_k fun K6 hK6 => ?_
  refine wp_seq_k fun K7 hK7 => ?_
  refine Qab ?_
  refine Qaa (.int .i64 0) 7 rfl kj kj ?_
  refine Qac ?_
  refine hK7 _ _ ?_
  refine wp_block ?_
  refine wp_loop_rounds 4 ?_
  show Code.wp _ _ (Exit.then (Code.rounds _ _ _ 3) _) _ _
  refine wp_seq_k fun K8 hK8 => ?_
  refine Qab ?_
  refine Qaa (.bool true) 8 rfl kj kj ?_
  refine Qac ?_
  refine hK8 _ _ ?_
  refine wp_seq_k fun K9 hK9 => ?_
  refine cond_true kj ?_
  refine wp_skip ?_
  refine hK9 _ _ ?_
  refine wp_seq_k fun K10 hK10 => ?_
  refine wp_block ?_
  refine wp_seq_k fun K11 hK11 => ?_
  refine Qab ?_
  refine Qaa (.int .i64 0) 9 rfl kj kj ?_
  refine Qaa (.int .i64 0) 6 rfl kj kj ?_
  refine Qac ?_
  refine hK11 _ _ ?_
  refine QaZ (fun W => True) [⟨none, [(6, none)]⟩, ⟨none, [(6, none)]⟩, ⟨none, [(2, none), (12, some 1)]⟩, ⟨none, [(13, some 2)]⟩, ⟨none, [(6, none)]⟩, ⟨none, [(3, none), (15, some 4)]⟩, ⟨none, [(16, some 5)]⟩, ⟨none, [(5, none)]⟩, ⟨none, [(14, some 3), (17, some 6), (18, some 7)]⟩, ⟨none, [(19, some 8)]⟩, ⟨none, [(10, some 9)]⟩, ⟨none, [(10, some 9)]⟩, ⟨none, [(2, none), (11, some 0)]⟩, ⟨none, [(22, some 12), (20, some 10)]⟩, ⟨none, [(21, some 11)]⟩] [] [11, 14] kj kj kj (fun W hR => trivial) fun F hF => ?_
  refine Qap (.int .i64 0) kj kj rfl (fun W => by kernel_rfl) ?_
  refine Qap (.int .i64 0) kj kj rfl (fun W => by kernel_rfl) ?_
  refine Qap (.pointer (some ⟨g2, 0, none⟩)) kj kj rfl (fun W => by kernel_rfl) ?_
  have r2_2 := (Qad r2_1 e2)
  have r2_3 := (Qad r2_2 e3)
  refine Qa2 (.int .u64 m0_) kj kj kj rfl (fun W hR => (Qae 129 _ g2 0 221 _ (.int .u64 m0_) _ (Qad (Qad r2_3 (Qai _)) hR) rfl kj kj kj)) ?_
  refine Qap (.int .i64 0) kj kj rfl (fun W => by kernel_rfl) ?_
  refine Qap (.pointer (some ⟨g3, 0, none⟩)) kj kj rfl (fun W => by kernel_rfl) ?_
  have r3_3 := (Qad r3_2 e3)
  refine Qa2 (.int .u64 n0_) kj kj kj rfl (fun W hR => (Qae 129 _ g3 0 221 _ (.int .u64 n0_) _ (Qad (Qad r3_3 (Qai _)) hR) rfl kj kj kj)) ?_
  refine Qap (.int .u64 0) kj kj rfl (fun W => by kernel_rfl) ?_
  obtain ⟨s1, d1, hs1, hd1, he1, ra1⟩ := QbS (m0_) (n0_) (0) hm0_ hn0_ ⟨by decide, by decide⟩
  refine Qap (.tuple #[.int .u64 (s1), .int .u64 (d1)]) kj kj rfl (fun W => (QaP (f := 166) (args := #[.int .u64 m0_, .int .u64 n0_, .int .u64 0]) _ _ _ rfl kj kj (ra1 _))) ?_
  refine Qap (.tuple #[.int .u64 (s1), .int .u64 (d1)]) kj kj rfl (fun W => by kernel_rfl) ?_
  refine Qap (.int .u64 (s1)) kj kj rfl (fun W => by kernel_rfl) ?_
  refine Qap (.int .u64 (d1)) kj kj rfl (fun W => by kernel_rfl) ?_
  refine Qap (.pointer (some ⟨g2, 0, none⟩)) kj kj rfl (fun W => by kernel_rfl) ?_
  refine QaJ rfl ?_
  refine Qap (.int .u64 (d1)) kj kj rfl (fun W => by kernel_rfl) ?_
  refine Qd7 (hF _ kj fun W4 e4 => ?_)
  simp only [List.nil_append, List.cons_append, fins, up]
  clear hF
  have x4 : Ext w W4 := Ext.tr x3 e4
  have r2_4 := (Qad r2_3 e4)
  refine Qa9 _ g2 _ (ints .u64 ([(s1), m1_, m2_])) 221 r2_4 rfl (Qak 129 _ _ g2 0 221 _ _ r2_4 rfl kj kj kj (show 0 < 3 by decide)) (fun W hp => trivial) fun W5 p5 r2_5 => ?_
  have x5 : Ext w W5 := Puts.ext p5 x4 b2
  refine Qcw ?_
  refine hK10 _ _ ?_
  refine Qab ?_
  refine Qaa (.int .i64 1) 23 rfl kj kj ?_
  refine Qaa (.int .i64 1) 7 rfl kj kj ?_
  refine Qac ?_
  show Code.rounds _ _ _ 3 _ _
  show Code.wp _ _ (Exit.then (Code.rounds _ _ _ 2) _) _ _
  refine wp_seq_k fun K12 hK12 => ?_
  refine Qab ?_
  refine Qaa (.bool true) 8 rfl kj kj ?_
  refine Qac ?_
  refine hK12 _ _ ?_
  refine wp_seq_k fun K13 hK13 => ?_
  refine cond_true kj ?_
  refine wp_skip ?_
  refine hK13 _ _ ?_
  refine wp_seq_k fun K14 hK14 => ?_
  refine wp_block ?_
  refine wp_seq_k fun K15 hK15 => ?_
  refine Qab ?_
  refine Qaa (.int .i64 1) 9 rfl kj kj ?_
  refine Qaa (.int .i64 1) 6 rfl kj kj ?_
  refine Qac ?_
  refine hK15 _ _ ?_
  refine QaZ (fun W => True) [⟨none, [(6, none)]⟩, ⟨none, [(6, none)]⟩, ⟨none, [(2, none), (12, some 1)]⟩, ⟨none, [(13, some 2)]⟩, ⟨none, [(6, none)]⟩, ⟨none, [(3, none), (15, some 4)]⟩, ⟨none, [(16, some 5)]⟩, ⟨none, [(5, none)]⟩, ⟨none, [(14, some 3), (17, some 6), (18, some 7)]⟩, ⟨none, [(19, some 8)]⟩, ⟨none, [(10, some 9)]⟩, ⟨none, [(10, some 9)]⟩, ⟨none, [(2, none), (11, some 0)]⟩, ⟨none, [(22, some 12), (20, some 10)]⟩, ⟨none, [(21, some 11)]⟩] [] [11, 14] kj kj kj (fun W hR => trivial) fun F hF => ?_
  refine Qap (.int .i64 1) kj kj rfl (fun W => by kernel_rfl) ?_
  refine Qap (.int .i64 1) kj kj rfl (fun W => by kernel_rfl) ?_
  refine Qap (.pointer (some ⟨g2, 1, none⟩)) kj kj rfl (fun W => by kernel_rfl) ?_
  refine Qa2 (.int .u64 m1_) kj kj kj rfl (fun W hR => (Qae 129 _ g2 1 221 _ (.int .u64 m1_) _ (Qad (Qad r2_5 (Qai _)) hR) rfl kj kj kj)) ?_
  refine Qap (.int .i64 1) kj kj rfl (fun W => by kernel_rfl) ?_
  refine Qap (.pointer (some ⟨g3, 1, none⟩)) kj kj rfl (fun W => by kernel_rfl) ?_
  have r3_4 := (Qad r3_3 e4)
  have r3_5 := (Puts.row p5 r3_4 (Qal r2_1 l3))
  refine Qa2 (.int .u64 n1_) kj kj kj rfl (fun W hR => (Qae 129 _ g3 1 221 _ (.int .u64 n1_) _ (Qad (Qad r3_5 (Qai _)) hR) rfl kj kj kj)) ?_
  refine Qap (.int .u64 (d1)) kj kj rfl (fun W => by kernel_rfl) ?_
  obtain ⟨s2, d2, hs2, hd2, he2, ra2⟩ := QbS (m1_) (n1_) (d1) hm1_ hn1_ hd1
  refine Qap (.tuple #[.int .u64 (s2), .int .u64 (d2)]) kj kj rfl (fun W => (QaP (f := 166) (args := #[.int .u64 m1_, .int .u64 n1_, .int .u64 (d1)]) _ _ _ rfl kj kj (ra2 _))) ?_
  refine Qap (.tuple #[.int .u64 (s2), .int .u64 (d2)]) kj kj rfl (fun W => by kernel_rfl) ?_
  refine Qap (.int .u64 (s2)) kj kj rfl (fun W => by kernel_rfl) ?_
  refine Qap (.int .u64 (d2)) kj kj rfl (fun W => by kernel_rfl) ?_
  refine Qap (.pointer (some ⟨g2, 1, none⟩)) kj kj rfl (fun W => by kernel_rfl) ?_
  refine QaJ rfl ?_
  refine Qap (.int .u64 (d2)) kj kj rfl (fun W => by kernel_rfl) ?_
  refine Qd7 (hF _ kj fun W6 e6 => ?_)
  simp only [List.nil_append, List.cons_append, fins, up]
  clear hF
  have x6 : Ext w W6 := Ext.tr x5 e6
  have r2_6 := (Qad r2_5 e6)
  refine Qa9 _ g2 _ (ints .u64 ([(s1), (s2), m2_])) 221 r2_6 rfl (Qak 129 _ _ g2 1 221 _ _ r2_6 rfl kj kj kj (show 1 < 3 by decide)) (fun W hp => trivial) fun W7 p7 r2_7 => ?_
  have x7 : Ext w W7 := Puts.ext p7 x6 b2
  refine Qcw ?_
  refine hK14 _ _ ?_
  refine Qab ?_
  refine Qaa (.int .i64 2) 23 rfl kj kj ?_
  refine Qaa (.int .i64 2) 7 rfl kj kj ?_
  refine Qac ?_
  show Code.rounds _ _ _ 2 _ _
  show Code.wp _ _ (Exit.then (Code.rounds _ _ _ 1) _) _ _
  refine wp_seq_k fun K16 hK16 => ?_
  refine Qab ?_
  refine Qaa (.bool true) 8 rfl kj kj ?_
  refine Qac ?_
  refine hK16 _ _ ?_
  refine wp_seq_k fun K17 hK17 => ?_
  refine cond_true kj ?_
  refine wp_skip ?_
  refine hK17 _ _ ?_
  refine wp_seq_k fun K18 hK18 => ?_
  refine wp_block ?_
  refine wp_seq_k fun K19 hK19 => ?_
  refine Qab ?_
  refine Qaa (.int .i64 2) 9 rfl kj kj ?_
  refine Qaa (.int .i64 2) 6 rfl kj kj ?_
  refine Qac ?_
  refine hK19 _ _ ?_
  refine QaZ (fun W => True) [⟨none, [(6, none)]⟩, ⟨none, [(6, none)]⟩, ⟨none, [(2, none), (12, some 1)]⟩, ⟨none, [(13, some 2)]⟩, ⟨none, [(6, none)]⟩, ⟨none, [(3, none), (15, some 4)]⟩, ⟨none, [(16, some 5)]⟩, ⟨none, [(5, none)]⟩, ⟨none, [(14, some 3), (17, some 6), (18, some 7)]⟩, ⟨none, [(19, some 8)]⟩, ⟨none, [(10, some 9)]⟩, ⟨none, [(10, some 9)]⟩, ⟨none, [(2, none), (11, some 0)]⟩, ⟨none, [(22, some 12), (20, some 10)]⟩, ⟨none, [(21, some 11)]⟩] [] [11, 14] kj kj kj (fun W hR => trivial) fun F hF => ?_
  refine Qap (.int .i64 2) kj kj rfl (fun W => by kernel_rfl) ?_
  refine Qap (.int .i64 2) kj kj rfl (fun W => by kernel_rfl) ?_
  refine Qap (.pointer (some ⟨g2, 2, none⟩)) kj kj rfl (fun W => by kernel_rfl) ?_
  refine Qa2 (.int .u64 m2_) kj kj kj rfl (fun W hR => (Qae 129 _ g2 2 221 _ (.int .u64 m2_) _ (Qad (Qad r2_7 (Qai _)) hR) rfl kj kj kj)) ?_
  refine Qap (.int .i64 2) kj kj rfl (fun W => by kernel_rfl) ?_
  refine Qap (.pointer (some ⟨g3, 2, none⟩)) kj kj rfl (fun W => by kernel_rfl) ?_
  have r3_6 := (Qad r3_5 e6)
  have r3_7 := (Puts.row p7 r3_6 (Qal r2_1 l3))
  refine Qa2 (.int .u64 n2_) kj kj kj rfl (fun W hR => (Qae 129 _ g3 2 221 _ (.int .u64 n2_) _ (Qad (Qad r3_7 (Qai _)) hR) rfl kj kj kj)) ?_
  refine Qap (.int .u64 (d2)) kj kj rfl (fun W => by kernel_rfl) ?_
  obtain ⟨s3, d3, hs3, hd3, he3, ra3⟩ := QbS (m2_) (n2_) (d2) hm2_ hn2_ hd2
  refine Qap (.tuple #[.int .u64 (s3), .int .u64 (d3)]) kj kj rfl (fun W => (QaP (f := 166) (args := #[.int .u64 m2_, .int .u64 n2_, .int .u64 (d2)]) _ _ _ rfl kj kj (ra3 _))) ?_
  refine Qap (.tuple #[.int .u64 (s3), .int .u64 (d3)]) kj kj rfl (fun W => by kernel_rfl) ?_
  refine Qap (.int .u64 (s3)) kj kj rfl (fun W => by kernel_rfl) ?_
  refine Qap (.int .u64 (d3)) kj kj rfl (fun W => by kernel_rfl) ?_
  refine Qap (.pointer (some ⟨g2, 2, none⟩)) kj kj rfl (fun W => by kernel_rfl) ?_
  refine QaJ rfl ?_
  refine Qap (.int .u64 (d3)) kj kj rfl (fun W => by kernel_rfl) ?_
  refine Qd7 (hF _ kj fun W8 e8 => ?_)
  simp only [List.nil_append, List.cons_append, fins, up]
  clear hF
  have x8 : Ext w W8 := Ext.tr x7 e8
  have r2_8 := (Qad r2_7 e8)
  refine Qa9 _ g2 _ (ints .u64 ([(s1), (s2), (s3)])) 221 r2_8 rfl (Qak 129 _ _ g2 2 221 _ _ r2_8 rfl kj kj kj (show 2 < 3 by decide)) (fun W hp => trivial) fun W9 p9 r2_9 => ?_
  have x9 : Ext w W9 := Puts.ext p9 x8 b2
  refine Qcw ?_
  refine hK18 _ _ ?_
  refine Qab ?_
  refine Qaa (.int .i64 3) 23 rfl kj kj ?_
  refine Qaa (.int .i64 3) 7 rfl kj kj ?_
  refine Qac ?_
  show Code.rounds _ _ _ 1 _ _
  show Code.wp _ _ (Exit.then (Code.rounds _ _ _ 0) _) _ _
  refine wp_seq_k fun K20 hK20 => ?_
  refine Qab ?_
  refine Qaa (.bool false) 8 rfl kj kj ?_
  refine Qac ?_
  refine hK20 _ _ ?_
  refine wp_seq_k fun K21 hK21 => ?_
  refine cond_false kj ?_
  refine wp_exit ?_
  refine hK6 _ _ ?_
  refine wp_seq_k fun K22 hK22 => ?_
  refine Qab ?_
  refine Qaa (.agg (ints .u64 ([(s1), (s2), (s3)]))) 24 rfl kj (Qar 221 _ g2 221 _ _ r2_9 rfl kj kj (isz (n := 3) kj kj)) ?_
  have r4_4 := (Qad r4_3 e4)
  have r4_5 := (Puts.row p5 r4_4 (Qal r2_2 l4))
  have r4_6 := (Qad r4_5 e6)
  have r4_7 := (Puts.row p7 r4_6 (Qal r2_2 l4))
  have r4_8 := (Qad r4_7 e8)
  have r4_9 := (Puts.row p9 r4_8 (Qal r2_2 l4))
  refine Qaj g4 _ (ints .u64 ([(s1), (s2), (s3)])) 221 r4_9 rfl kj (Qaq 221 _ _ g4 221 _ _ r4_9 rfl kj kj (isz (n := 3) kj kj) (eqsz (n := 3) kj kj) (Qa7 _ _)) fun W10 p10 r4_10 => ?_
  have x10 : Ext w W10 := Puts.ext p10 x9 b4
  refine Qac ?_
  refine hK22 _ _ ?_
  refine wp_ret ?_
  repeat (first | with_reducible refine goR1 ?_ | with_reducible refine goR2 ?_)
  exact (show bodyPost _ _ _ .ret _ _ from ret1 (.agg (ints .u64 ([(s1), (s2), (s3)]))) rfl (Qbx g4 221 _ r4_10 kj kj (isz (n := 3) kj kj)) ⟨by rw [QgV (v := v) hs1 hs2 hs3 (by obtain ⟨hs10, hs11⟩ := hs1; obtain ⟨hs20, hs21⟩ := hs2; obtain ⟨hs30, hs31⟩ := hs3; omega)], x10⟩)
theorem QeH (a b : Int) (ha : 0 ≤ a) (hb : 0 ≤ b) (ha2 : a < 6277101735386680763835789423207666416102355444464034512896) (hb2 : b < 6277101735386680763835789423207666416102355444464034512896) (hlt : a + b < 6277101735386680763835789423207666416102355444464034512896) (w : World) :
    Calls Tryd.prog 159 #[.agg (ints .u64 (nw3 a)), .agg (ints .u64 (nw3 b))] w (Ret w (.agg (ints .u64 (nw3 (a + b))))) :=
  Qio _ _ _ _ _ _ (a + b) (QbL _) (QbL _) (QbL _) (QbL _) (QbL _) (QbL _) (by rw [Qed a ha ha2, Qed b hb hb2]) hlt w
set_option maxHeartbeats 4000000 in
theorem QfD (b : List Int) (v : Value) (B : Nat) (w : World) (hb : RdK .u8 B b v w) (hl : b.length ≤ 24) (hbb : Qan b) : Calls Tryd.prog 157 #[v] w (Ret w (.agg (ints .u64 (nw3 (lev b))))) := by
 obtain ⟨a_b, c_b, rfl, -⟩ := id hb
 refine enter 27 [(0, .slice a_b b.length c_b)] Tryd.func157 rfl rfl kj rfl ?_
 refine wp_seq_k fun K1 hK1 => ?_
 refine Qab ?_
 refine Qas (ints .u64 ([0, 0, 0])) 221 2 rfl kj kj fun g2 W1 l2 e1 r2_1 => ?_
 have x1 : Ext w W1 := Ext.tr (Rely.Ext.refl w) e1
 have b2 : w.heap.size ≤ g2 := Nat.le_trans (Rely.Ext.refl w).size l2
 refine Qac ?_
 refine hK1 _ _ ?_
 refine wp_seq_k fun K3 hK3 => ?_
 refine Qab ?_
 refine Qas (ints .u64 ([0, 0, 0])) 221 3 rfl kj kj fun g4 W2 l4 e2 r4_2 => ?_
 have x2 : Ext w W2 := Ext.tr x1 e2
 have b4 : w.heap.size ≤ g4 := Nat.le_trans x1.size l4
 refine Qac ?_
 refine hK3 _ _ ?_
 refine wp_seq_k fun K5 hK5 => ?_
 refine wp_seq_k fun K6 hK6 => ?_
 refine Qab ?_
 refine Qaa (.slice a_b b.length c_b) 6 rfl kj kj ?_
 refine Qaa (.int .i64 ((b.length : Nat) : Int)) 7 rfl kj kj ?_
 refine Qaa (.int .i64 0) 8 rfl kj kj ?_
 refine Qac ?_
 refine hK6 _ _ ?_
 refine wp_block ?_
 have r4_2_7 : W2.heap[g4]? = some (.cells (ints .u64 (nw3 (lev (b.take 0)))) 221) := QaD r4_2 (by rw [List.take_zero]; rfl)
 refine Qbb (fun (s1 : Nat) => [(2, .pointer (some ⟨g2, 0, none⟩)), (3, .pointer (some ⟨g4, 0, none⟩)), (6, .slice a_b b.length c_b), (7, .int .i64 ((b.length : Nat) : Int)), (8, .int .i64 ((s1 : Nat) : Int))]) (fun (s1 : Nat) W => (s1 ≤ b.length) ∧ (W.heap[g4]? = some (.cells (ints .u64 (nw3 (lev (b.take s1)))) 221)) ∧ (Qax [g4] W2 W) ∧ (Ext w W)) (fun (s1 : Nat) => b.length - s1) 0 ⟨rfl, rfl, rfl, rfl, rfl, trivial⟩ ⟨(Nat.zero_le _), r4_2_7, (Qax.refl [g4] W2), x2⟩ fun s1 X1 V1 hI1 => ?_
 obtain ⟨i, hs1⟩ : ∃ z, z = s1 := ⟨_, rfl⟩
 subst hs1
 obtain ⟨hi, q4_1, kk1, xx1⟩ := hI1
 replace hi : i ≤ b.length := hi
 replace q4_1 : V1.heap[g4]? = some (.cells (ints .u64 (nw3 (lev (b.take i)))) 221) := q4_1
 replace kk1 : Qax [g4] W2 V1 := kk1
 replace xx1 : Ext w V1 := xx1
 have q3 := kk1
 refine wp_seq_k fun K8 hK8 => ?_
 refine Qab ?_
 refine Qaa (.bool (decide (((i : Nat) : Int) < ((b.length : Nat) : Int)))) 9 rfl kj kj ?_
 refine Qac ?_
 refine hK8 _ _ ?_
 refine wp_seq_k fun K9 hK9 => ?_
 refine QaM (t := decide (((i : Nat) : Int) < ((b.length : Nat) : Int))) kj (fun c10 => ?_) (fun c10 => ?_)
 ·skip
  have hlt9 : i < b.length := by have := of_decide_eq_true c10; omega
  obtain ⟨grb11, orb11, harb11, -, hlrb11, hcrb11⟩ := Qd9 (RdK.ext hb xx1) (by omega)
  have hbi := QaN hbb i
  have hn0 := Qb1 (QaH hbb i)
  have hn1 := QdE (QaH hbb i)
  rw [List.length_take, Nat.min_eq_left (by omega)] at hn1
  obtain ⟨hst1, hst2⟩ := Qft (lev (b.take i)) (nth b i) i (by omega) hn0 hn1 hbi
  rw [← QcQ b i hlt9] at hst1 hst2
  refine wp_skip ?_
  refine hK9 _ _ ?_
  refine wp_seq_k fun K12 hK12 => ?_
  refine wp_block ?_
  refine wp_seq_k fun K13 hK13 => ?_
  refine Qab ?_
  refine Qaa (.int .i64 ((i : Nat) : Int)) 10 rfl kj kj ?_
  refine Qaa (.pointer (some ⟨grb11, orb11 + i, none⟩)) 11 rfl kj (QaR 33 _ _ .i64 i grb11 orb11 b.length c_b 5 a_b _ harb11 rfl rfl kj kj kj kj (Nat.lt_of_lt_of_eq (show i < (b).length by omega) (rfl : (b).length = (b).length).symm)) ?_
  refine Qaa (.int .u8 (nth (b) (i))) 12 rfl kj (Qa6 5 _ _ (.int .u8 (nth (b) (i))) (hcrb11 i (Nat.lt_of_lt_of_eq (show i < (b).length by omega) (rfl : (b).length = (b).length).symm)) rfl kj kj) ?_
  refine Qaa (.int .i64 ((i : Nat) : Int)) 4 rfl kj kj ?_
  refine Qaa (.int .u8 (nth (b) (i))) 5 rfl kj kj ?_
  refine Qac ?_
  refine hK13 _ _ ?_
  refine QaS 10 [⟨none, [(4, none)]⟩, ⟨none, [(13, some 0)]⟩, ⟨none, [(3, none), (14, some 1)]⟩, ⟨none, [(15, some 2)]⟩, ⟨none, [(5, none)]⟩, ⟨none, [(17, some 4)]⟩, ⟨none, [(4, none)]⟩, ⟨none, [(19, some 6)]⟩, ⟨none, [(20, some 7)]⟩, ⟨none, [(18, some 5), (21, some 8)]⟩] kj kj fun F hF => ?_
  refine Qa5 (Qam _) (.int .i64 ((i : Nat) : Int)) kj kj (fun W => by kernel_rfl) ?_
  refine Qa5 (Qam _) (.int .i64 ((i / 8 : Nat) : Int)) kj kj (fun W => (Qah (u := .int .i64 (IntKind.i64.wrap (Int.tdiv (((i : Nat) : Int)) (8)))) kj (congrArg (Value.int .i64) (Qdh _ 8 (by omega))))) ?_
  refine Qa5 (Qam _) (.pointer (some ⟨g4, i / 8, none⟩)) kj kj (fun W => (QaY _ _ _ .i64 (i / 8) _ 3 129 rfl kj kj kj kj (by omega))) ?_
  refine Qbm (Qam _) (.int .u64 (nth (nw3 (lev (b.take i))) (i / 8))) kj kj (fun W hR => (Qae 129 _ g4 (i / 8) 221 _ (.int .u64 (nth (nw3 (lev (b.take i))) (i / 8))) _ (Qad (Qad q4_1 (Qai _)) hR) rfl kj (Qay _ _ _ (Nat.lt_of_lt_of_eq (by omega) (Qav _).symm)) kj)) ?_
  refine Qa5 (Qam _) (.int .u8 (nth (b) (i))) kj kj (fun W => by kernel_rfl) ?_
  refine Qa5 (Qam _) (.int .u64 (nth b i)) kj kj (fun W => (Qah (u := .int .u64 (IntKind.u64.wrap (nth (b) (i)))) kj (congrArg (Value.int .u64) (QgM _ ⟨hbi.1, by omega⟩)))) ?_
  refine Qa5 (Qam _) (.int .i64 ((i : Nat) : Int)) kj kj (fun W => by kernel_rfl) ?_
  refine Qa5 (Qam _) (.int .i64 ((i % 8 : Nat) : Int)) kj kj (fun W => (Qah (u := .int .i64 (Int.tmod (((i : Nat) : Int)) (8))) kj (congrArg (Value.int .i64) (QcK _ 8)))) ?_
  refine Qa5 (Qam _) (.int .i64 ((8 * (i % 8) : Nat) : Int)) kj kj (fun W => (Qah (u := .int .i64 (IntKind.i64.wrap (8 * ((i % 8 : Nat) : Int)))) kj (congrArg (Value.int .i64) (i64n _ _ (by omega) (by omega))))) ?_
  refine Qa5 (Qam _) (.int .u64 (nth b i * p256 (i % 8))) kj kj (fun W => (QaF .shl _ _ _ _ .u64 .i64 _ _ _ rfl kj kj (Qcj _ _ _ _ _ _ (by omega) (Qil _ (i % 8) _ rfl hbi (by omega))))) ?_
  refine QcZ (hF _ fun W4 e4 => ?_)
  simp only [List.nil_append, List.cons_append, List.take_succ_cons, List.take_zero, List.drop_succ_cons, List.drop_zero, finE, up]
  clear hF
  have x4 : Ext w W4 := Ext.tr xx1 e4
  refine Qaa (.int .u64 (nth (nw3 (lev (b.take (i + 1)))) (i / 8))) 23 rfl kj (Qah (u := .int .u64 (bits .or .u64 ((nth (nw3 (lev (b.take i))) (i / 8))) ((nth b i * p256 (i % 8))))) kj (congrArg (Value.int .u64) hst1)) ?_
  refine Qaa (.pointer (some ⟨g4, i / 8, none⟩)) 24 rfl kj (QaY _ _ _ .i64 (i / 8) _ 3 129 rfl kj kj kj kj (by omega)) ?_
  have r4_4 := (Qad q4_1 e4)
  refine Qaj g4 _ (ints .u64 ((nw3 (lev (b.take i))).set (i / 8) (nth (nw3 (lev (b.take (i + 1)))) (i / 8)))) 221 r4_4 rfl kj (Qak 129 _ _ g4 (i / 8) 221 _ _ r4_4 rfl kj kj kj (Nat.lt_of_lt_of_eq (by omega) (Qav _).symm)) fun W5 p5 r4_5 => ?_
  have x5 : Ext w W5 := Puts.ext p5 x4 b4
  refine Qac ?_
  refine hK12 _ _ ?_
  refine Qab ?_
  refine Qaa (.int .i64 ((i + 1 : Nat) : Int)) 25 rfl kj (Qah (u := .int .i64 (IntKind.i64.wrap (((i : Nat) : Int) + 1))) kj (congrArg (Value.int .i64) (i64n _ _ (by omega) (by omega)))) ?_
  refine Qaa (.int .i64 ((i + 1 : Nat) : Int)) 8 rfl kj kj ?_
  refine Qac ?_
  repeat (first | with_reducible refine goX1 ?_ | with_reducible refine goX2 ?_ | with_reducible refine goX3 ?_)
  exact QaQ (i + 1) ⟨rfl, rfl, rfl, rfl, rfl, trivial⟩ ⟨(show i + 1 ≤ b.length by omega), (QaD r4_5 hst2), (Qax.puts (Qax.step q3 e4) p5 (.inl (by simp))), x5⟩ (by show b.length - (i + 1) < b.length - i; omega)
 ·skip
  have heq9 : i = b.length := by have := of_decide_eq_false c10; omega
  subst heq9
  have r4_3_14 : V1.heap[g4]? = some (.cells (ints .u64 (nw3 (lev b))) 221) := QaD q4_1 (by rw [List.take_length])
  refine wp_exit ?_
  refine hK5 _ _ ?_
  refine wp_seq_k fun K15 hK15 => ?_
  refine Qab ?_
  refine Qaa (.agg (ints .u64 (nw3 (lev b)))) 26 rfl kj (Qar 221 _ g4 221 _ _ r4_3_14 rfl kj kj (isz (n := 3) kj ((Qaf _ _).trans (Qav _)))) ?_
  have r2_2 := (Qad r2_1 e2)
  have r2_3 := (Qax.row q3 r2_2 (Qbi (Qag r2_1 l4) QbJ))
  refine Qaj g2 _ (ints .u64 (nw3 (lev b))) 221 r2_3 rfl kj (Qaq 221 _ _ g2 221 _ _ r2_3 rfl kj kj (isz (n := 3) kj ((Qaf _ _).trans (Qav _))) (eqsz (n := 3) kj ((Qaf _ _).trans (Qav _))) (Qa7 _ _)) fun W4 p4 r2_4 => ?_
  have x4 : Ext w W4 := Puts.ext p4 xx1 b2
  refine Qac ?_
  refine hK15 _ _ ?_
  refine wp_ret ?_
  repeat (first | with_reducible refine goR1 ?_ | with_reducible refine goR2 ?_)
  exact (show bodyPost _ _ _ .ret _ _ from ret1 (.agg (ints .u64 (nw3 (lev b)))) rfl (Qbx g2 221 _ r2_4 kj kj (isz (n := 3) kj ((Qaf _ _).trans (Qav _)))) ⟨rfl, x4⟩)
end Go.Proofs.YtoiendjhplbjjaaDoor.Ae
end
