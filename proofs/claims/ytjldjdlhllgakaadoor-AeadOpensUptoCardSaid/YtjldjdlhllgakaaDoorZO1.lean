/- Texts of this claim, joined (O1). -/
import Derived.Test.YtjldjdlhllgakaaDoorZO0
import Derived.RangeFuncNested
import Derived.Scope
import Derived.Sort.LoopGhostIn

section
namespace Go.Proofs.YtjldjdlhllgakaaDoor.Cha
open Go Go.RowKit
open Rely Auto Own Sha
set_option linter.unusedVariables false
set_option linter.unusedSimpArgs false
open Sha
theorem QdU {P : Program} {ρ : Operand → Value} {o : Oper} {w : World} (t : TypeId) (x y z : Operand) (l h g off len cap : Nat) (e : TypeId) (ho : o.op = .slice t x (some y) (some z) none) (hx : ρ x = .slice (some ⟨g, off, none⟩) len cap)
    (hu : P.underlying t = some (.slice e)) (hs : (P.info? e).map (·.size) = some 1) (hy : ρ y = .int .i64 (l : Int)) (hz : ρ z = .int .i64 (h : Int)) (h1 : l ≤ h) (h2 : h ≤ cap) (h3 : l < cap) :
    (execOp ρ o).run P w = .ok (.value (.slice (some ⟨g, off + l, none⟩) (h - l) (cap - l))) w := by
  cases hq : P.info? e with
  | none => simp [hq] at hs
  | some i =>
    have hs' : i.size = 1 := by simpa [hq] using hs
    have hadd : (⟨g, off, none⟩ : Addr).add l = ⟨g, off + l, none⟩ := WideShapes.add_plain ..
    have hne : ¬ cap = l := by omega
    unfold execOp
    simp [ho, hx, hy, hz, Instr.sliceAt, Instr.slice, Instr.sliceBounds, run_sliceBound, run_underlying hu, sizeOf, typeInfo, hq, hs', h1, h2, hadd, hne]
def sub4 (b : List Int) (i : Nat) : List Int := (b.drop (4 * i)).take 4
theorem QbV (b : List Int) (i : Nat) (h : 4 * i + 4 ≤ b.length) : (sub4 b i).length = 4 := by
  unfold sub4
  rw [List.length_take, List.length_drop]; omega
theorem QdA (b : List Int) (i j : Nat) (h : j < 4) : nth (sub4 b i) j = nth b (4 * i + j) := by
  unfold nth sub4
  rw [List.getD_eq_getElem?_getD, List.getD_eq_getElem?_getD, List.getElem?_take, if_pos h, List.getElem?_drop]
theorem Qc9 {B g o c : Nat} {xs : List Int} {W : World} (hx : RdK .u8 B xs (.slice (some ⟨g, o, none⟩) xs.length c) W) (i : Nat) (hi : 4 * i + 4 ≤ xs.length) : RdK .u8 B (sub4 xs i) (.slice (some ⟨g, o + 4 * i, none⟩) 4 (c - 4 * i)) W := by
  obtain ⟨a, cap, e, h2, h3, h4, h5⟩ := hx
  simp only [Value.slice.injEq] at e
  obtain ⟨rfl, -, rfl⟩ := e
  have hl := QbV xs i hi
  rcases h5 with h5 | ⟨g', o', q1, q2, q3, q4⟩
  · rw [h5] at hi; simp at hi
  · obtain ⟨rfl, rfl⟩ : g = g' ∧ o = o' := by simpa using q1
    refine ⟨some ⟨g, o + 4 * i, none⟩, c - 4 * i, by rw [hl], by omega, by omega, (fun h => by cases h), .inr ⟨g, o + 4 * i, rfl, q2, q3, fun j hj => ?_⟩⟩
    rw [QdA _ _ _ (by omega), Nat.add_assoc]
    exact q4 _ (by omega)
set_option maxRecDepth 100000 in
set_option maxHeartbeats 4000000 in
theorem Qjd (key nonce : List Int) (v : Value) (B : Nat) (th : TypeId) (w : World) (hh : w.heap[0]? = some (.cells (ints .u32 [1634760805, 857760878, 2036477234, 1797285236]) th)) (hkl : key.length = 32) (hn : RdK .u8 B nonce v w) (hnl : nonce.length = 12) : Calls Tryd.prog 50 #[.agg (ints .u8 key), v] w (Ret w (.agg (ints .u32 [1634760805, 857760878, 2036477234, 1797285236, wv (le4 (sub4 key 0)), wv (le4 (sub4 key 1)), wv (le4 (sub4 key 2)), wv (le4 (sub4 key 3)), wv (le4 (sub4 key 4)), wv (le4 (sub4 key 5)), wv (le4 (sub4 key 6)), wv (le4 (sub4 key 7)), 0, wv (le4 (sub4 nonce 0)), wv (le4 (sub4 nonce 1)), wv (le4 (sub4 nonce 2))]))) := by
  obtain ⟨a_n, c_n, rfl, hnc, -, -, -⟩ := id hn
  obtain ⟨gn, on, rfl, -, hgn, hcn⟩ := Qb4 hn (by omega)
  refine enter 49 [(0, .agg (ints .u8 (key))), (1, .slice (some ⟨gn, on, none⟩) nonce.length c_n)] Tryd.func50 rfl rfl kj rfl ?_
  refine wp_seq_k fun K2 hK2 => ?_
  refine Qab ?_
  refine Qar (ints .u8 (key)) 23 2 rfl kj kj fun g3 W1 l3 e1 r3_1 => ?_
  have x1 : Ext w W1 := Ext.tr (Rely.Ext.refl w) e1
  have b3 : w.heap.size ≤ g3 := Nat.le_trans (Rely.Ext.refl w).size l3
  refine Qar (ints .u32 ([0, 0, 0, 0, 0, 0, 0, 0, 0, 0, 0, 0, 0, 0, 0, 0])) 88 4 rfl kj kj fun g4 W2 l4 e2 r4_2 => ?_
  have x2 : Ext w W2 := Ext.tr x1 e2
  have b4 : w.heap.size ≤ g4 := Nat.le_trans x1.size l4
  refine Qac ?_
  refine hK2 _ _ ?_
  refine wp_seq_k fun K5 hK5 => ?_
  refine Qab ?_
  refine Qar (ints .u32 ([0, 0, 0, 0, 0, 0, 0, 0, 0, 0, 0, 0, 0, 0, 0, 0])) 88 5 rfl kj kj fun g6 W3 l6 e3 r6_3 => ?_
  have x3 : Ext w W3 := Ext.tr x2 e3
  have b6 : w.heap.size ≤ g6 := Nat.le_trans x2.size l6
  refine Qac ?_
  refine hK5 _ _ ?_
  refine wp_seq_k fun K7 hK7 => ?_
  refine wp_seq_k fun K8 hK8 => ?_
  refine Qab ?_
  have r1_1 := (Qad hh e1)
  have r1_2 := (Qad r1_1 e2)
  have r1_3 := (Qad r1_2 e3)
  refine Qaa (.agg (ints .u32 ([1634760805, 857760878, 2036477234, 1797285236]))) 10 rfl kj (Qau 98 _ 0 th _ _ r1_3 rfl kj kj (isz (n := 4) kj kj)) ?_
  refine Qaa (.int .i64 0) 11 rfl kj kj ?_
  refine Qac ?_
  refine hK8 _ _ ?_
  refine wp_block ?_
  refine wp_loop_rounds 5 ?_
  show Code.wp _ _ (Exit.then (Code.rounds _ _ _ 4) _) _ _
  refine wp_seq_k fun K9 hK9 => ?_
  refine Qab ?_
  refine Qaa (.bool true) 12 rfl kj kj ?_
  refine Qac ?_
  refine hK9 _ _ ?_
  refine wp_seq_k fun K10 hK10 => ?_
  refine cond_true kj ?_
  refine wp_skip ?_
  refine hK10 _ _ ?_
  refine wp_seq_k fun K11 hK11 => ?_
  refine wp_block ?_
  refine wp_seq_k fun K12 hK12 => ?_
  refine Qab ?_
  refine Qaa (.int .i64 0) 13 rfl kj kj ?_
  refine Qaa (.int .u32 1634760805) 14 rfl kj (QaI 98 _ _ .i64 .u32 ([1634760805, 857760878, 2036477234, 1797285236]) 0 4 87 1634760805 rfl kj kj kj kj kj rfl (by decide) rfl) ?_
  refine Qaa (.int .i64 0) 6 rfl kj kj ?_
  refine Qaa (.int .u32 1634760805) 7 rfl kj kj ?_
  refine Qac ?_
  refine hK12 _ _ ?_
  refine Qab ?_
  refine Qaa (.int .i64 0) 15 rfl kj kj ?_
  refine Qaa (.int .u32 1634760805) 16 rfl kj kj ?_
  refine Qaa (.pointer (some ⟨g6, 0, none⟩)) 17 rfl kj kj ?_
  refine Qal g6 _ (ints .u32 ([1634760805, 0, 0, 0, 0, 0, 0, 0, 0, 0, 0, 0, 0, 0, 0, 0])) 88 r6_3 rfl kj (Qan 87 _ _ g6 0 88 _ _ r6_3 rfl kj kj kj (show 0 < 16 by decide)) fun W4 p4 r6_4 => ?_
  have x4 : Ext w W4 := Puts.ext p4 x3 b6
  refine Qac ?_
  refine hK11 _ _ ?_
  refine Qab ?_
  refine Qaa (.int .i64 1) 18 rfl kj kj ?_
  refine Qaa (.int .i64 1) 11 rfl kj kj ?_
  refine Qac ?_
  show Code.rounds _ _ _ 4 _ _
  show Code.wp _ _ (Exit.then (Code.rounds _ _ _ 3) _) _ _
  refine wp_seq_k fun K13 hK13 => ?_
  refine Qab ?_
  refine Qaa (.bool true) 12 rfl kj kj ?_
  refine Qac ?_
  refine hK13 _ _ ?_
  refine wp_seq_k fun K14 hK14 => ?_
  refine cond_true kj ?_
  refine wp_skip ?_
  refine hK14 _ _ ?_
  refine wp_seq_k fun K15 hK15 => ?_
  refine wp_block ?_
  refine wp_seq_k fun K16 hK16 => ?_
  refine Qab ?_
  refine Qaa (.int .i64 1) 13 rfl kj kj ?_
  refine Qaa (.int .u32 857760878) 14 rfl kj (QaI 98 _ _ .i64 .u32 ([1634760805, 857760878, 2036477234, 1797285236]) 1 4 87 857760878 rfl kj kj kj kj kj rfl (by decide) rfl) ?_
  refine Qaa (.int .i64 1) 6 rfl kj kj ?_
  refine Qaa (.int .u32 857760878) 7 rfl kj kj ?_
  refine Qac ?_
  refine hK16 _ _ ?_
  refine Qab ?_
  refine Qaa (.int .i64 1) 15 rfl kj kj ?_
  refine Qaa (.int .u32 857760878) 16 rfl kj kj ?_
  refine Qaa (.pointer (some ⟨g6, 1, none⟩)) 17 rfl kj kj ?_
  refine Qal g6 _ (ints .u32 ([1634760805, 857760878, 0, 0, 0, 0, 0, 0, 0, 0, 0, 0, 0, 0, 0, 0])) 88 r6_4 rfl kj (Qan 87 _ _ g6 1 88 _ _ r6_4 rfl kj kj kj (show 1 < 16 by decide)) fun W5 p5 r6_5 => ?_
  have x5 : Ext w W5 := Puts.ext p5 x4 b6
  refine Qac ?_
  refine hK15 _ _ ?_
  refine Qab ?_
  refine Qaa (.int .i64 2) 18 rfl kj kj ?_
  refine Qaa (.int .i64 2) 11 rfl kj kj ?_
  refine Qac ?_
  show Code.rounds _ _ _ 3 _ _
  show Code.wp _ _ (Exit.then (Code.rounds _ _ _ 2) _) _ _
  refine wp_seq_k fun K17 hK17 => ?_
  refine Qab ?_
  refine Qaa (.bool true) 12 rfl kj kj ?_
  refine Qac ?_
  refine hK17 _ _ ?_
  refine wp_seq_k fun K18 hK18 => ?_
  refine cond_true kj ?_
  refine wp_skip ?_
  refine hK18 _ _ ?_
  refine wp_seq_k fun K19 hK19 => ?_
  refine wp_block ?_
  refine wp_seq_k fun K20 hK20 => ?_
  refine Qab ?_
  refine Qaa (.int .i64 2) 13 rfl kj kj ?_
  refine Qaa (.int .u32 2036477234) 14 rfl kj (QaI 98 _ _ .i64 .u32 ([1634760805, 857760878, 2036477234, 1797285236]) 2 4 87 2036477234 rfl kj kj kj kj kj rfl (by decide) rfl) ?_
  refine Qaa (.int .i64 2) 6 rfl kj kj ?_
  refine Qaa (.int .u32 2036477234) 7 rfl kj kj ?_
  refine Qac ?_
  refine hK20 _ _ ?_
  refine Qab ?_
  refine Qaa (.int .i64 2) 15 rfl kj kj ?_
  refine Qaa (.int .u32 2036477234) 16 rfl kj kj ?_
  refine Qaa (.pointer (some ⟨g6, 2, none⟩)) 17 rfl kj kj ?_
  refine Qal g6 _ (ints .u32 ([1634760805, 857760878, 2036477234, 0, 0, 0, 0, 0, 0, 0, 0, 0, 0, 0, 0, 0])) 88 r6_5 rfl kj (Qan 87 _ _ g6 2 88 _ _ r6_5 rfl kj kj kj (show 2 < 16 by decide)) fun W6 p6 r6_6 => ?_
  have x6 : Ext w W6 := Puts.ext p6 x5 b6
  refine Qac ?_
  refine hK19 _ _ ?_
  refine Qab ?_
  refine Qaa (.int .i64 3) 18 rfl kj kj ?_
  refine Qaa (.int .i64 3) 11 rfl kj kj ?_
  refine Qac ?_
  show Code.rounds _ _ _ 2 _ _
  show Code.wp _ _ (Exit.then (Code.rounds _ _ _ 1) _) _ _
  refine wp_seq_k fun K21 hK21 => ?_
  refine Qab ?_
  refine Qaa (.bool true) 12 rfl kj kj ?_
  refine Qac ?_
  refine hK21 _ _ ?_
  refine wp_seq_k fun K22 hK22 => ?_
  refine cond_true kj ?_
  refine wp_skip ?_
  refine hK22 _ _ ?_
  refine wp_seq_k fun K23 hK23 => ?_
  refine wp_block ?_
  refine wp_seq_k fun K24 hK24 => ?_
  refine Qab ?_
  refine Qaa (.int .i64 3) 13 rfl kj kj ?_
  refine Qaa (.int .u32 1797285236) 14 rfl kj (QaI 98 _ _ .i64 .u32 ([1634760805, 857760878, 2036477234, 1797285236]) 3 4 87 1797285236 rfl kj kj kj kj kj rfl (by decide) rfl) ?_
  refine Qaa (.int .i64 3) 6 rfl kj kj ?_
  refine Qaa (.int .u32 1797285236) 7 rfl kj kj ?_
  refine Qac ?_
  refine hK24 _ _ ?_
  refine Qab ?_
  refine Qaa (.int .i64 3) 15 rfl kj kj ?_
  refine Qaa (.int .u32 1797285236) 16 rfl kj kj ?_
  refine Qaa (.pointer (some ⟨g6, 3, none⟩)) 17 rfl kj kj ?_
  refine Qal g6 _ (ints .u32 ([1634760805, 857760878, 2036477234, 1797285236, 0, 0, 0, 0, 0, 0, 0, 0, 0, 0, 0, 0])) 88 r6_6 rfl kj (Qan 87 _ _ g6 3 88 _ _ r6_6 rfl kj kj kj (show 3 < 16 by decide)) fun W7 p7 r6_7 => ?_
  have x7 : Ext w W7 := Puts.ext p7 x6 b6
  refine Qac ?_
  refine hK23 _ _ ?_
  refine Qab ?_
  refine Qaa (.int .i64 4) 18 rfl kj kj ?_
  refine Qaa (.int .i64 4) 11 rfl kj kj ?_
  refine Qac ?_
  show Code.rounds _ _ _ 1 _ _
  show Code.wp _ _ (Exit.then (Code.rounds _ _ _ 0) _) _ _
  refine wp_seq_k fun K25 hK25 => ?_
  refine Qab ?_
  refine Qaa (.bool false) 12 rfl kj kj ?_
  refine Qac ?_
  refine hK25 _ _ ?_
  refine wp_seq_k fun K26 hK26 => ?_
  refine cond_false kj ?_
  refine wp_exit ?_
  refine hK7 _ _ ?_
  refine wp_seq_k fun K27 hK27 => ?_
  refine wp_seq_k fun K28 hK28 => ?_
  refine Qab ?_
  refine Qaa (.int .i64 0) 19 rfl kj kj ?_
  refine Qac ?_
  refine hK28 _ _ ?_
  refine wp_block ?_
  refine wp_loop_rounds 9 ?_
  show Code.wp _ _ (Exit.then (Code.rounds _ _ _ 8) _) _ _
  refine wp_seq_k fun K29 hK29 => ?_
  refine Qab ?_
  refine Qaa (.bool true) 20 rfl kj kj ?_
  refine Qac ?_
  refine hK29 _ _ ?_
  refine wp_seq_k fun K30 hK30 => ?_
  refine cond_true kj ?_
  refine wp_skip ?_
  refine hK30 _ _ ?_
  refine wp_seq_k fun K31 hK31 => ?_
  refine wp_block ?_
  refine wp_seq_k fun K32 hK32 => ?_
  refine Qab ?_
  refine Qaa (.int .i64 0) 21 rfl kj kj ?_
  refine Qaa (.int .i64 0) 8 rfl kj kj ?_
  refine Qac ?_
  refine hK32 _ _ ?_
  refine Qab ?_
  refine Qaa (.int .i64 0) 22 rfl kj kj ?_
  refine Qaa (.int .i64 4) 23 rfl kj kj ?_
  refine Qaa (.int .i64 0) 24 rfl kj kj ?_
  refine Qaa (.int .i64 0) 25 rfl kj kj ?_
  refine Qaa (.int .i64 0) 26 rfl kj kj ?_
  refine Qaa (.int .i64 0) 27 rfl kj kj ?_
  refine Qaa (.int .i64 4) 28 rfl kj kj ?_
  refine Qaa (.slice (some ⟨g3, 0 + 0, none⟩) (4 - 0) (32 - 0)) 29 rfl kj (Qbd 23 _ _ _ 0 4 32 g3 0 5 rfl kj kj kj ⟨.i64, by kernel_rfl⟩ ⟨.i64, by kernel_rfl⟩ (by omega) (by omega) (by omega)) ?_
  have r3_2 := (Qad r3_1 e2)
  have r3_3 := (Qad r3_2 e3)
  have r3_4 := (Puts.row p4 r3_3 (Qag r3_2 l6))
  have r3_5 := (Puts.row p5 r3_4 (Qag r3_2 l6))
  have r3_6 := (Puts.row p6 r3_5 (Qag r3_2 l6))
  have r3_7 := (Puts.row p7 r3_6 (Qag r3_2 l6))
  refine Qa6 (.int .u32 (wv (le4 (sub4 key 0)))) 57 #[.slice (some ⟨g3, 0 + 0, none⟩) (4 - 0) (32 - 0)] 30 rfl kj kj ((Qe2 (sub4 key 0) _ _ _ (Qc9 (xs := key) (by rw [hkl]; exact QaP (xs := key) (n := 32) hkl r3_7 (QaA r3_7) (by decide)) 0 (by omega)) (QbV _ _ (by omega)))) fun W8 e8 => ?_
  have x8 : Ext w W8 := Ext.tr x7 e8
  refine Qaa (.pointer (some ⟨g6, 4, none⟩)) 31 rfl kj kj ?_
  have r6_8 := (Qad r6_7 e8)
  refine Qal g6 _ (ints .u32 ([1634760805, 857760878, 2036477234, 1797285236, (wv (le4 (sub4 key 0))), 0, 0, 0, 0, 0, 0, 0, 0, 0, 0, 0])) 88 r6_8 rfl kj (Qan 87 _ _ g6 4 88 _ _ r6_8 rfl kj kj kj (show 4 < 16 by decide)) fun W9 p9 r6_9 => ?_
  have x9 : Ext w W9 := Puts.ext p9 x8 b6
  refine Qac ?_
  refine hK31 _ _ ?_
  refine Qab ?_
  refine Qaa (.int .i64 1) 32 rfl kj kj ?_
  refine Qaa (.int .i64 1) 19 rfl kj kj ?_
  refine Qac ?_
  show Code.rounds _ _ _ 8 _ _
  show Code.wp _ _ (Exit.then (Code.rounds _ _ _ 7) _) _ _
  refine wp_seq_k fun K33 hK33 => ?_
  refine Qab ?_
  refine Qaa (.bool true) 20 rfl kj kj ?_
  refine Qac ?_
  refine hK33 _ _ ?_
  refine wp_seq_k fun K34 hK34 => ?_
  refine cond_true kj ?_
  refine wp_skip ?_
  refine hK34 _ _ ?_
  refine wp_seq_k fun K35 hK35 => ?_
  refine wp_block ?_
  refine wp_seq_k fun K36 hK36 => ?_
  refine Qab ?_
  refine Qaa (.int .i64 1) 21 rfl kj kj ?_
  refine Qaa (.int .i64 1) 8 rfl kj kj ?_
  refine Qac ?_
  refine hK36 _ _ ?_
  refine Qab ?_
  refine Qaa (.int .i64 1) 22 rfl kj kj ?_
  refine Qaa (.int .i64 5) 23 rfl kj kj ?_
  refine Qaa (.int .i64 1) 24 rfl kj kj ?_
  refine Qaa (.int .i64 4) 25 rfl kj kj ?_
  refine Qaa (.int .i64 1) 26 rfl kj kj ?_
  refine Qaa (.int .i64 4) 27 rfl kj kj ?_
  refine Qaa (.int .i64 8) 28 rfl kj kj ?_
  refine Qaa (.slice (some ⟨g3, 0 + 4, none⟩) (8 - 4) (32 - 4)) 29 rfl kj (Qbd 23 _ _ _ 4 8 32 g3 0 5 rfl kj kj kj ⟨.i64, by kernel_rfl⟩ ⟨.i64, by kernel_rfl⟩ (by omega) (by omega) (by omega)) ?_
  have r3_8 := (Qad r3_7 e8)
  have r3_9 := (Puts.row p9 r3_8 (Qag r3_2 l6))
  refine Qa6 (.int .u32 (wv (le4 (sub4 key 1)))) 57 #[.slice (some ⟨g3, 0 + 4, none⟩) (8 - 4) (32 - 4)] 30 rfl kj kj ((Qe2 (sub4 key 1) _ _ _ (Qc9 (xs := key) (by rw [hkl]; exact QaP (xs := key) (n := 32) hkl r3_9 (QaA r3_9) (by decide)) 1 (by omega)) (QbV _ _ (by omega)))) fun W10 e10 => ?_
  have x10 : Ext w W10 := Ext.tr x9 e10
  refine Qaa (.pointer (some ⟨g6, 5, none⟩)) 31 rfl kj kj ?_
  have r6_10 := (Qad r6_9 e10)
  refine Qal g6 _ (ints .u32 ([1634760805, 857760878, 2036477234, 1797285236, (wv (le4 (sub4 key 0))), (wv (le4 (sub4 key 1))), 0, 0, 0, 0, 0, 0, 0, 0, 0, 0])) 88 r6_10 rfl kj (Qan 87 _ _ g6 5 88 _ _ r6_10 rfl kj kj kj (show 5 < 16 by decide)) fun W11 p11 r6_11 => ?_
  have x11 : Ext w W11 := Puts.ext p11 x10 b6
  refine Qac ?_
  refine hK35 _ _ ?_
  refine Qab ?_
  refine Qaa (.int .i64 2) 32 rfl kj kj ?_
  refine Qaa (.int .i64 2) 19 rfl kj kj ?_
  refine Qac ?_
  show Code.rounds _ _ _ 7 _ _
  show Code.wp _ _ (Exit.then (Code.rounds _ _ _ 6) _) _ _
  refine wp_seq_k fun K37 hK37 => ?_
  refine Qab ?_
  refine Qaa (.bool true) 20 rfl kj kj ?_
  refine Qac ?_
  refine hK37 _ _ ?_
  refine wp_seq_k fun K38 hK38 => ?_
  refine cond_true kj ?_
  refine wp_skip ?_
  refine hK38 _ _ ?_
  refine wp_seq_k fun K39 hK39 => ?_
  refine wp_block ?_
  refine wp_seq_k fun K40 hK40 => ?_
  refine Qab ?_
  refine Qaa (.int .i64 2) 21 rfl kj kj ?_
  refine Qaa (.int .i64 2) 8 rfl kj kj ?_
  refine Qac ?_
  refine hK40 _ _ ?_
  refine Qab ?_
  refine Qaa (.int .i64 2) 22 rfl kj kj ?_
  refine Qaa (.int .i64 6) 23 rfl kj kj ?_
  refine Qaa (.int .i64 2) 24 rfl kj kj ?_
  refine Qaa (.int .i64 8) 25 rfl kj kj ?_
  refine Qaa (.int .i64 2) 26 rfl kj kj ?_
  refine Qaa (.int .i64 8) 27 rfl kj kj ?_
  refine Qaa (.int .i64 12) 28 rfl kj kj ?_
  refine Qaa (.slice (some ⟨g3, 0 + 8, none⟩) (12 - 8) (32 - 8)) 29 rfl kj (Qbd 23 _ _ _ 8 12 32 g3 0 5 rfl kj kj kj ⟨.i64, by kernel_rfl⟩ ⟨.i64, by kernel_rfl⟩ (by omega) (by omega) (by omega)) ?_
  have r3_10 := (Qad r3_9 e10)
  have r3_11 := (Puts.row p11 r3_10 (Qag r3_2 l6))
  refine Qa6 (.int .u32 (wv (le4 (sub4 key 2)))) 57 #[.slice (some ⟨g3, 0 + 8, none⟩) (12 - 8) (32 - 8)] 30 rfl kj kj ((Qe2 (sub4 key 2) _ _ _ (Qc9 (xs := key) (by rw [hkl]; exact QaP (xs := key) (n := 32) hkl r3_11 (QaA r3_11) (by decide)) 2 (by omega)) (QbV _ _ (by omega)))) fun W12 e12 => ?_
  have x12 : Ext w W12 := Ext.tr x11 e12
  refine Qaa (.pointer (some ⟨g6, 6, none⟩)) 31 rfl kj kj ?_
  have r6_12 := (Qad r6_11 e12)
  refine Qal g6 _ (ints .u32 ([1634760805, 857760878, 2036477234, 1797285236, (wv (le4 (sub4 key 0))), (wv (le4 (sub4 key 1))), (wv (le4 (sub4 key 2))), 0, 0, 0, 0, 0, 0, 0, 0, 0])) 88 r6_12 rfl kj (Qan 87 _ _ g6 6 88 _ _ r6_12 rfl kj kj kj (show 6 < 16 by decide)) fun W13 p13 r6_13 => ?_
  have x13 : Ext w W13 := Puts.ext p13 x12 b6
  refine Qac ?_
  refine hK39 _ _ ?_
  refine Qab ?_
  refine Qaa (.int .i64 3) 32 rfl kj kj ?_
  refine Qaa (.int .i64 3) 19 rfl kj kj ?_
  refine Qac ?_
  show Code.rounds _ _ _ 6 _ _
  show Code.wp _ _ (Exit.then (Code.rounds _ _ _ 5) _) _ _
  refine wp_seq_k fun K41 hK41 => ?_
  refine Qab ?_
  refine Qaa (.bool true) 20 rfl kj kj ?_
  refine Qac ?_
  refine hK41 _ _ ?_
  refine wp_seq_k fun K42 hK42 => ?_
  refine cond_true kj ?_
  refine wp_skip ?_
  refine hK42 _ _ ?_
  refine wp_seq_k fun K43 hK43 => ?_
  refine wp_block ?_
  refine wp_seq_k fun K44 hK44 => ?_
  refine Qab ?_
  refine Qaa (.int .i64 3) 21 rfl kj kj ?_
  refine Qaa (.int .i64 3) 8 rfl kj kj ?_
  refine Qac ?_
  refine hK44 _ _ ?_
  refine Qab ?_
  refine Qaa (.int .i64 3) 22 rfl kj kj ?_
  refine Qaa (.int .i64 7) 23 rfl kj kj ?_
  refine Qaa (.int .i64 3) 24 rfl kj kj ?_
  refine Qaa (.int .i64 12) 25 rfl kj kj ?_
  refine Qaa (.int .i64 3) 26 rfl kj kj ?_
  refine Qaa (.int .i64 12) 27 rfl kj kj ?_
  refine Qaa (.int .i64 16) 28 rfl kj kj ?_
  refine Qaa (.slice (some ⟨g3, 0 + 12, none⟩) (16 - 12) (32 - 12)) 29 rfl kj (Qbd 23 _ _ _ 12 16 32 g3 0 5 rfl kj kj kj ⟨.i64, by kernel_rfl⟩ ⟨.i64, by kernel_rfl⟩ (by omega) (by omega) (by omega)) ?_
  have r3_12 := (Qad r3_11 e12)
  have r3_13 := (Puts.row p13 r3_12 (Qag r3_2 l6))
  refine Qa6 (.int .u32 (wv (le4 (sub4 key 3)))) 57 #[.slice (some ⟨g3, 0 + 12, none⟩) (16 - 12) (32 - 12)] 30 rfl kj kj ((Qe2 (sub4 key 3) _ _ _ (Qc9 (xs := key) (by rw [hkl]; exact QaP (xs := key) (n := 32) hkl r3_13 (QaA r3_13) (by decide)) 3 (by omega)) (QbV _ _ (by omega)))) fun W14 e14 => ?_
  have x14 : Ext w W14 := Ext.tr x13 e14
  refine Qaa (.pointer (some ⟨g6, 7, none⟩)) 31 rfl kj kj ?_
  have r6_14 := (Qad r6_13 e14)
  refine Qal g6 _ (ints .u32 ([1634760805, 857760878, 2036477234, 1797285236, (wv (le4 (sub4 key 0))), (wv (le4 (sub4 key 1))), (wv (le4 (sub4 key 2))), (wv (le4 (sub4 key 3))), 0, 0, 0, 0, 0, 0, 0, 0])) 88 r6_14 rfl kj (Qan 87 _ _ g6 7 88 _ _ r6_14 rfl kj kj kj (show 7 < 16 by decide)) fun W15 p15 r6_15 => ?_
  have x15 : Ext w W15 := Puts.ext p15 x14 b6
  refine Qac ?_
  refine hK43 _ _ ?_
  refine Qab ?_
  refine Qaa (.int .i64 4) 32 rfl kj kj ?_
  refine Qaa (.int .i64 4) 19 rfl kj kj ?_
  refine Qac ?_
  show Code.rounds _ _ _ 5 _ _
  show Code.wp _ _ (Exit.then (Code.rounds _ _ _ 4) _) _ _
  refine wp_seq_k fun K45 hK45 => ?_
  refine Qab ?_
  refine Qaa (.bool true) 20 rfl kj kj ?_
  refine Qac ?_
  refine hK45 _ _ ?_
  refine wp_seq_k fun K46 hK46 => ?_
  refine cond_true kj ?_
  refine wp_skip ?_
  refine hK46 _ _ ?_
  refine wp_seq_k fun K47 hK47 => ?_
  refine wp_block ?_
  refine wp_seq_k fun K48 hK48 => ?_
  refine Qab ?_
  refine Qaa (.int .i64 4) 21 rfl kj kj ?_
  refine Qaa (.int .i64 4) 8 rfl kj kj ?_
  refine Qac ?_
  refine hK48 _ _ ?_
  refine Qab ?_
  refine Qaa (.int .i64 4) 22 rfl kj kj ?_
  refine Qaa (.int .i64 8) 23 rfl kj kj ?_
  refine Qaa (.int .i64 4) 24 rfl kj kj ?_
  refine Qaa (.int .i64 16) 25 rfl kj kj ?_
  refine Qaa (.int .i64 4) 26 rfl kj kj ?_
  refine Qaa (.int .i64 16) 27 rfl kj kj ?_
  refine Qaa (.int .i64 20) 28 rfl kj kj ?_
  refine Qaa (.slice (some ⟨g3, 0 + 16, none⟩) (20 - 16) (32 - 16)) 29 rfl kj (Qbd 23 _ _ _ 16 20 32 g3 0 5 rfl kj kj kj ⟨.i64, by kernel_rfl⟩ ⟨.i64, by kernel_rfl⟩ (by omega) (by omega) (by omega)) ?_
  have r3_14 := (Qad r3_13 e14)
  have r3_15 := (Puts.row p15 r3_14 (Qag r3_2 l6))
  refine Qa6 (.int .u32 (wv (le4 (sub4 key 4)))) 57 #[.slice (some ⟨g3, 0 + 16, none⟩) (20 - 16) (32 - 16)] 30 rfl kj kj ((Qe2 (sub4 key 4) _ _ _ (Qc9 (xs := key) (by rw [hkl]; exact QaP (xs := key) (n := 32) hkl r3_15 (QaA r3_15) (by decide)) 4 (by omega)) (QbV _ _ (by omega)))) fun W16 e16 => ?_
  have x16 : Ext w W16 := Ext.tr x15 e16
  refine Qaa (.pointer (some ⟨g6, 8, none⟩)) 31 rfl kj kj ?_
  have r6_16 := (Qad r6_15 e16)
  refine Qal g6 _ (ints .u32 ([1634760805, 857760878, 2036477234, 1797285236, (wv (le4 (sub4 key 0))), (wv (le4 (sub4 key 1))), (wv (le4 (sub4 key 2))), (wv (le4 (sub4 key 3))), (wv (le4 (sub4 key 4))), 0, 0, 0, 0, 0, 0, 0])) 88 r6_16 rfl kj (Qan 87 _ _ g6 8 88 _ _ r6_16 rfl kj kj kj (show 8 < 16 by decide)) fun W17 p17 r6_17 => ?_
  have x17 : Ext w W17 := Puts.ext p17 x16 b6
  refine Qac ?_
  refine hK47 _ _ ?_
  refine Qab ?_
  refine Qaa (.int .i64 5) 32 rfl kj kj ?_
  refine Qaa (.int .i64 5) 19 rfl kj kj ?_
  refine Qac ?_
  show Code.rounds _ _ _ 4 _ _
  show Code.wp _ _ (Exit.then (Code.rounds _ _ _ 3) _) _ _
  refine wp_seq_k fun K49 hK49 => ?_
  refine Qab ?_
  refine Qaa (.bool true) 20 rfl kj kj ?_
  refine Qac ?_
  refine hK49 _ _ ?_
  refine wp_seq_k fun K50 hK50 => ?_
  refine cond_true kj ?_
  refine wp_skip ?_
  refine hK50 _ _ ?_
  refine wp_seq_k fun K51 hK51 => ?_
  refine wp_block ?_
  refine wp_seq_k fun K52 hK52 => ?_
  refine Qab ?_
  refine Qaa (.int .i64 5) 21 rfl kj kj ?_
  refine Qaa (.int .i64 5) 8 rfl kj kj ?_
  refine Qac ?_
  refine hK52 _ _ ?_
  refine Qab ?_
  refine Qaa (.int .i64 5) 22 rfl kj kj ?_
  refine Qaa (.int .i64 9) 23 rfl kj kj ?_
  refine Qaa (.int .i64 5) 24 rfl kj kj ?_
  refine Qaa (.int .i64 20) 25 rfl kj kj ?_
  refine Qaa (.int .i64 5) 26 rfl kj kj ?_
  refine Qaa (.int .i64 20) 27 rfl kj kj ?_
  refine Qaa (.int .i64 24) 28 rfl kj kj ?_
  refine Qaa (.slice (some ⟨g3, 0 + 20, none⟩) (24 - 20) (32 - 20)) 29 rfl kj (Qbd 23 _ _ _ 20 24 32 g3 0 5 rfl kj kj kj ⟨.i64, by kernel_rfl⟩ ⟨.i64, by kernel_rfl⟩ (by omega) (by omega) (by omega)) ?_
  have r3_16 := (Qad r3_15 e16)
  have r3_17 := (Puts.row p17 r3_16 (Qag r3_2 l6))
  refine Qa6 (.int .u32 (wv (le4 (sub4 key 5)))) 57 #[.slice (some ⟨g3, 0 + 20, none⟩) (24 - 20) (32 - 20)] 30 rfl kj kj ((Qe2 (sub4 key 5) _ _ _ (Qc9 (xs := key) (by rw [hkl]; exact QaP (xs := key) (n := 32) hkl r3_17 (QaA r3_17) (by decide)) 5 (by omega)) (QbV _ _ (by omega)))) fun W18 e18 => ?_
  have x18 : Ext w W18 := Ext.tr x17 e18
  refine Qaa (.pointer (some ⟨g6, 9, none⟩)) 31 rfl kj kj ?_
  have r6_18 := (Qad r6_17 e18)
  refine Qal g6 _ (ints .u32 ([1634760805, 857760878, 2036477234, 1797285236, (wv (le4 (sub4 key 0))), (wv (le4 (sub4 key 1))), (wv (le4 (sub4 key 2))), (wv (le4 (sub4 key 3))), (wv (le4 (sub4 key 4))), (wv (le4 (sub4 key 5))), 0, 0, 0, 0, 0, 0])) 88 r6_18 rfl kj (Qan 87 _ _ g6 9 88 _ _ r6_18 rfl kj kj kj (show 9 < 16 by decide)) fun W19 p19 r6_19 => ?_
  have x19 : Ext w W19 := Puts.ext p19 x18 b6
  refine Qac ?_
  refine hK51 _ _ ?_
  refine Qab ?_
  refine Qaa (.int .i64 6) 32 rfl kj kj ?_
  refine Qaa (.int .i64 6) 19 rfl kj kj ?_
  refine Qac ?_
  show Code.rounds _ _ _ 3 _ _
  show Code.wp _ _ (Exit.then (Code.rounds _ _ _ 2) _) _ _
  refine wp_seq_k fun K53 hK53 => ?_
  refine Qab ?_
  refine Qaa (.bool true) 20 rfl kj kj ?_
  refine Qac ?_
  refine hK53 _ _ ?_
  refine wp_seq_k fun K54 hK54 => ?_
  refine cond_true kj ?_
  refine wp_skip ?_
  refine hK54 _ _ ?_
  refine wp_seq_k fun K55 hK55 => ?_
  refine wp_block ?_
  refine wp_seq_k fun K56 hK56 => ?_
  refine Qab ?_
  refine Qaa (.int .i64 6) 21 rfl kj kj ?_
  refine Qaa (.int .i64 6) 8 rfl kj kj ?_
  refine Qac ?_
  refine hK56 _ _ ?_
  refine Qab ?_
  refine Qaa (.int .i64 6) 22 rfl kj kj ?_
  refine Qaa (.int .i64 10) 23 rfl kj kj ?_
  refine Qaa (.int .i64 6) 24 rfl kj kj ?_
  refine Qaa (.int .i64 24) 25 rfl kj kj ?_
  refine Qaa (.int .i64 6) 26 rfl kj kj ?_
  refine Qaa (.int .i64 24) 27 rfl kj kj ?_
  refine Qaa (.int .i64 28) 28 rfl kj kj ?_
  refine Qaa (.slice (some ⟨g3, 0 + 24, none⟩) (28 - 24) (32 - 24)) 29 rfl kj (Qbd 23 _ _ _ 24 28 32 g3 0 5 rfl kj kj kj ⟨.i64, by kernel_rfl⟩ ⟨.i64, by kernel_rfl⟩ (by omega) (by omega) (by omega)) ?_
  have r3_18 := (Qad r3_17 e18)
  have r3_19 := (Puts.row p19 r3_18 (Qag r3_2 l6))
  refine Qa6 (.int .u32 (wv (le4 (sub4 key 6)))) 57 #[.slice (some ⟨g3, 0 + 24, none⟩) (28 - 24) (32 - 24)] 30 rfl kj kj ((Qe2 (sub4 key 6) _ _ _ (Qc9 (xs := key) (by rw [hkl]; exact QaP (xs := key) (n := 32) hkl r3_19 (QaA r3_19) (by decide)) 6 (by omega)) (QbV _ _ (by omega)))) fun W20 e20 => ?_
  have x20 : Ext w W20 := Ext.tr x19 e20
  refine Qaa (.pointer (some ⟨g6, 10, none⟩)) 31 rfl kj kj ?_
  have r6_20 := (Qad r6_19 e20)
  refine Qal g6 _ (ints .u32 ([1634760805, 857760878, 2036477234, 1797285236, (wv (le4 (sub4 key 0))), (wv (le4 (sub4 key 1))), (wv (le4 (sub4 key 2))), (wv (le4 (sub4 key 3))), (wv (le4 (sub4 key 4))), (wv (le4 (sub4 key 5))), (wv (le4 (sub4 key 6))), 0, 0, 0, 0, 0])) 88 r6_20 rfl kj (Qan 87 _ _ g6 10 88 _ _ r6_20 rfl kj kj kj (show 10 < 16 by decide)) fun W21 p21 r6_21 => ?_
  have x21 : Ext w W21 := Puts.ext p21 x20 b6
  refine Qac ?_
  refine hK55 _ _ ?_
  refine Qab ?_
  refine Qaa (.int .i64 7) 32 rfl kj kj ?_
  refine Qaa (.int .i64 7) 19 rfl kj kj ?_
  refine Qac ?_
  show Code.rounds _ _ _ 2 _ _
  show Code.wp _ _ (Exit.then (Code.rounds _ _ _ 1) _) _ _
  refine wp_seq_k fun K57 hK57 => ?_
  refine Qab ?_
  refine Qaa (.bool true) 20 rfl kj kj ?_
  refine Qac ?_
  refine hK57 _ _ ?_
  refine wp_seq_k fun K58 hK58 => ?_
  refine cond_true kj ?_
  refine wp_skip ?_
  refine hK58 _ _ ?_
  refine wp_seq_k fun K59 hK59 => ?_
  refine wp_block ?_
  refine wp_seq_k fun K60 hK60 => ?_
  refine Qab ?_
  refine Qaa (.int .i64 7) 21 rfl kj kj ?_
  refine Qaa (.int .i64 7) 8 rfl kj kj ?_
  refine Qac ?_
  refine hK60 _ _ ?_
  refine Qab ?_
  refine Qaa (.int .i64 7) 22 rfl kj kj ?_
  refine Qaa (.int .i64 11) 23 rfl kj kj ?_
  refine Qaa (.int .i64 7) 24 rfl kj kj ?_
  refine Qaa (.int .i64 28) 25 rfl kj kj ?_
  refine Qaa (.int .i64 7) 26 rfl kj kj ?_
  refine Qaa (.int .i64 28) 27 rfl kj kj ?_
  refine Qaa (.int .i64 32) 28 rfl kj kj ?_
  refine Qaa (.slice (some ⟨g3, 0 + 28, none⟩) (32 - 28) (32 - 28)) 29 rfl kj (Qbd 23 _ _ _ 28 32 32 g3 0 5 rfl kj kj kj ⟨.i64, by kernel_rfl⟩ ⟨.i64, by kernel_rfl⟩ (by omega) (by omega) (by omega)) ?_
  have r3_20 := (Qad r3_19 e20)
  have r3_21 := (Puts.row p21 r3_20 (Qag r3_2 l6))
  refine Qa6 (.int .u32 (wv (le4 (sub4 key 7)))) 57 #[.slice (some ⟨g3, 0 + 28, none⟩) (32 - 28) (32 - 28)] 30 rfl kj kj ((Qe2 (sub4 key 7) _ _ _ (Qc9 (xs := key) (by rw [hkl]; exact QaP (xs := key) (n := 32) hkl r3_21 (QaA r3_21) (by decide)) 7 (by omega)) (QbV _ _ (by omega)))) fun W22 e22 => ?_
  have x22 : Ext w W22 := Ext.tr x21 e22
  refine Qaa (.pointer (some ⟨g6, 11, none⟩)) 31 rfl kj kj ?_
  have r6_22 := (Qad r6_21 e22)
  refine Qal g6 _ (ints .u32 ([1634760805, 857760878, 2036477234, 1797285236, (wv (le4 (sub4 key 0))), (wv (le4 (sub4 key 1))), (wv (le4 (sub4 key 2))), (wv (le4 (sub4 key 3))), (wv (le4 (sub4 key 4))), (wv (le4 (sub4 key 5))), (wv (le4 (sub4 key 6))), (wv (le4 (sub4 key 7))), 0, 0, 0, 0])) 88 r6_22 rfl kj (Qan 87 _ _ g6 11 88 _ _ r6_22 rfl kj kj kj (show 11 < 16 by decide)) fun W23 p23 r6_23 => ?_
  have x23 : Ext w W23 := Puts.ext p23 x22 b6
  refine Qac ?_
  refine hK59 _ _ ?_
  refine Qab ?_
  refine Qaa (.int .i64 8) 32 rfl kj kj ?_
  refine Qaa (.int .i64 8) 19 rfl kj kj ?_
  refine Qac ?_
  show Code.rounds _ _ _ 1 _ _
  show Code.wp _ _ (Exit.then (Code.rounds _ _ _ 0) _) _ _
  refine wp_seq_k fun K61 hK61 => ?_
  refine Qab ?_
  refine Qaa (.bool false) 20 rfl kj kj ?_
  refine Qac ?_
  refine hK61 _ _ ?_
  refine wp_seq_k fun K62 hK62 => ?_
  refine cond_false kj ?_
  refine wp_exit ?_
  refine hK27 _ _ ?_
  refine wp_seq_k fun K63 hK63 => ?_
  refine wp_seq_k fun K64 hK64 => ?_
  refine Qab ?_
  refine Qaa (.int .i64 0) 33 rfl kj kj ?_
  refine Qac ?_
  refine hK64 _ _ ?_
  refine wp_block ?_
  refine wp_loop_rounds 4 ?_
  show Code.wp _ _ (Exit.then (Code.rounds _ _ _ 3) _) _ _
  refine wp_seq_k fun K65 hK65 => ?_
  refine Qab ?_
  refine Qaa (.bool true) 34 rfl kj kj ?_
  refine Qac ?_
  refine hK65 _ _ ?_
  refine wp_seq_k fun K66 hK66 => ?_
  refine cond_true kj ?_
  refine wp_skip ?_
  refine hK66 _ _ ?_
  refine wp_seq_k fun K67 hK67 => ?_
  refine wp_block ?_
  refine wp_seq_k fun K68 hK68 => ?_
  refine Qab ?_
  refine Qaa (.int .i64 0) 35 rfl kj kj ?_
  refine Qaa (.int .i64 0) 9 rfl kj kj ?_
  refine Qac ?_
  refine hK68 _ _ ?_
  refine Qab ?_
  refine Qaa (.int .i64 0) 36 rfl kj kj ?_
  refine Qaa (.int .i64 13) 37 rfl kj kj ?_
  refine Qaa (.slice (some ⟨gn, on, none⟩) nonce.length c_n) 38 rfl kj kj ?_
  refine Qaa (.int .i64 0) 39 rfl kj kj ?_
  refine Qaa (.int .i64 0) 40 rfl kj kj ?_
  refine Qaa (.int .i64 0) 41 rfl kj kj ?_
  refine Qaa (.int .i64 0) 42 rfl kj kj ?_
  refine Qaa (.int .i64 4) 43 rfl kj kj ?_
  refine Qaa (.slice (some ⟨gn, on + 0, none⟩) (4 - 0) (c_n - 0)) 44 rfl kj (QdU 24 _ _ _ 0 4 gn on nonce.length c_n 5 rfl kj kj kj kj kj (by decide) (by omega) (by omega)) ?_
  refine Qa6 (.int .u32 (wv (le4 (sub4 nonce 0)))) 57 #[.slice (some ⟨gn, on + 0, none⟩) (4 - 0) (c_n - 0)] 45 rfl kj kj ((Qe2 (sub4 nonce 0) _ _ _ (Qc9 (xs := nonce) (hn.ext x23) 0 (by omega)) (QbV _ _ (by omega)))) fun W24 e24 => ?_
  have x24 : Ext w W24 := Ext.tr x23 e24
  refine Qaa (.pointer (some ⟨g6, 13, none⟩)) 46 rfl kj kj ?_
  have r6_24 := (Qad r6_23 e24)
  refine Qal g6 _ (ints .u32 ([1634760805, 857760878, 2036477234, 1797285236, (wv (le4 (sub4 key 0))), (wv (le4 (sub4 key 1))), (wv (le4 (sub4 key 2))), (wv (le4 (sub4 key 3))), (wv (le4 (sub4 key 4))), (wv (le4 (sub4 key 5))), (wv (le4 (sub4 key 6))), (wv (le4 (sub4 key 7))), 0, (wv (le4 (sub4 nonce 0))), 0, 0])) 88 r6_24 rfl kj (Qan 87 _ _ g6 13 88 _ _ r6_24 rfl kj kj kj (show 13 < 16 by decide)) fun W25 p25 r6_25 => ?_
  have x25 : Ext w W25 := Puts.ext p25 x24 b6
  refine Qac ?_
  refine hK67 _ _ ?_
  refine Qab ?_
  refine Qaa (.int .i64 1) 47 rfl kj kj ?_
  refine Qaa (.int .i64 1) 33 rfl kj kj ?_
  refine Qac ?_
  show Code.rounds _ _ _ 3 _ _
  show Code.wp _ _ (Exit.then (Code.rounds _ _ _ 2) _) _ _
  refine wp_seq_k fun K69 hK69 => ?_
  refine Qab ?_
  refine Qaa (.bool true) 34 rfl kj kj ?_
  refine Qac ?_
  refine hK69 _ _ ?_
  refine wp_seq_k fun K70 hK70 => ?_
  refine cond_true kj ?_
  refine wp_skip ?_
  refine hK70 _ _ ?_
  refine wp_seq_k fun K71 hK71 => ?_
  refine wp_block ?_
  refine wp_seq_k fun K72 hK72 => ?_
  refine Qab ?_
  refine Qaa (.int .i64 1) 35 rfl kj kj ?_
  refine Qaa (.int .i64 1) 9 rfl kj kj ?_
  refine Qac ?_
  refine hK72 _ _ ?_
  refine Qab ?_
  refine Qaa (.int .i64 1) 36 rfl kj kj ?_
  refine Qaa (.int .i64 14) 37 rfl kj kj ?_
  refine Qaa (.slice (some ⟨gn, on, none⟩) nonce.length c_n) 38 rfl kj kj ?_
  refine Qaa (.int .i64 1) 39 rfl kj kj ?_
  refine Qaa (.int .i64 4) 40 rfl kj kj ?_
  refine Qaa (.int .i64 1) 41 rfl kj kj ?_
  refine Qaa (.int .i64 4) 42 rfl kj kj ?_
  refine Qaa (.int .i64 8) 43 rfl kj kj ?_
  refine Qaa (.slice (some ⟨gn, on + 4, none⟩) (8 - 4) (c_n - 4)) 44 rfl kj (QdU 24 _ _ _ 4 8 gn on nonce.length c_n 5 rfl kj kj kj kj kj (by decide) (by omega) (by omega)) ?_
  refine Qa6 (.int .u32 (wv (le4 (sub4 nonce 1)))) 57 #[.slice (some ⟨gn, on + 4, none⟩) (8 - 4) (c_n - 4)] 45 rfl kj kj ((Qe2 (sub4 nonce 1) _ _ _ (Qc9 (xs := nonce) (hn.ext x25) 1 (by omega)) (QbV _ _ (by omega)))) fun W26 e26 => ?_
  have x26 : Ext w W26 := Ext.tr x25 e26
  refine Qaa (.pointer (some ⟨g6, 14, none⟩)) 46 rfl kj kj ?_
  have r6_26 := (Qad r6_25 e26)
  refine Qal g6 _ (ints .u32 ([1634760805, 857760878, 2036477234, 1797285236, (wv (le4 (sub4 key 0))), (wv (le4 (sub4 key 1))), (wv (le4 (sub4 key 2))), (wv (le4 (sub4 key 3))), (wv (le4 (sub4 key 4))), (wv (le4 (sub4 key 5))), (wv (le4 (sub4 key 6))), (wv (le4 (sub4 key 7))), 0, (wv (le4 (sub4 nonce 0))), (wv (le4 (sub4 nonce 1))), 0])) 88 r6_26 rfl kj (Qan 87 _ _ g6 14 88 _ _ r6_26 rfl kj kj kj (show 14 < 16 by decide)) fun W27 p27 r6_27 => ?_
  have x27 : Ext w W27 := Puts.ext p27 x26 b6
  refine Qac ?_
  refine hK71 _ _ ?_
  refine Qab ?_
  refine Qaa (.int .i64 2) 47 rfl kj kj ?_
  refine Qaa (.int .i64 2) 33 rfl kj kj ?_
  refine Qac ?_
  show Code.rounds _ _ _ 2 _ _
  show Code.wp _ _ (Exit.then (Code.rounds _ _ _ 1) _) _ _
  refine wp_seq_k fun K73 hK73 => ?_
  refine Qab ?_
  refine Qaa (.bool true) 34 rfl kj kj ?_
  refine Qac ?_
  refine hK73 _ _ ?_
  refine wp_seq_k fun K74 hK74 => ?_
  refine cond_true kj ?_
  refine wp_skip ?_
  refine hK74 _ _ ?_
  refine wp_seq_k fun K75 hK75 => ?_
  refine wp_block ?_
  refine wp_seq_k fun K76 hK76 => ?_
  refine Qab ?_
  refine Qaa (.int .i64 2) 35 rfl kj kj ?_
  refine Qaa (.int .i64 2) 9 rfl kj kj ?_
  refine Qac ?_
  refine hK76 _ _ ?_
  refine Qab ?_
  refine Qaa (.int .i64 2) 36 rfl kj kj ?_
  refine Qaa (.int .i64 15) 37 rfl kj kj ?_
  refine Qaa (.slice (some ⟨gn, on, none⟩) nonce.length c_n) 38 rfl kj kj ?_
  refine Qaa (.int .i64 2) 39 rfl kj kj ?_
  refine Qaa (.int .i64 8) 40 rfl kj kj ?_
  refine Qaa (.int .i64 2) 41 rfl kj kj ?_
  refine Qaa (.int .i64 8) 42 rfl kj kj ?_
  refine Qaa (.int .i64 12) 43 rfl kj kj ?_
  refine Qaa (.slice (some ⟨gn, on + 8, none⟩) (12 - 8) (c_n - 8)) 44 rfl kj (QdU 24 _ _ _ 8 12 gn on nonce.length c_n 5 rfl kj kj kj kj kj (by decide) (by omega) (by omega)) ?_
  refine Qa6 (.int .u32 (wv (le4 (sub4 nonce 2)))) 57 #[.slice (some ⟨gn, on + 8, none⟩) (12 - 8) (c_n - 8)] 45 rfl kj kj ((Qe2 (sub4 nonce 2) _ _ _ (Qc9 (xs := nonce) (hn.ext x27) 2 (by omega)) (QbV _ _ (by omega)))) fun W28 e28 => ?_
  have x28 : Ext w W28 := Ext.tr x27 e28
  refine Qaa (.pointer (some ⟨g6, 15, none⟩)) 46 rfl kj kj ?_
  have r6_28 := (Qad r6_27 e28)
  refine Qal g6 _ (ints .u32 ([1634760805, 857760878, 2036477234, 1797285236, (wv (le4 (sub4 key 0))), (wv (le4 (sub4 key 1))), (wv (le4 (sub4 key 2))), (wv (le4 (sub4 key 3))), (wv (le4 (sub4 key 4))), (wv (le4 (sub4 key 5))), (wv (le4 (sub4 key 6))), (wv (le4 (sub4 key 7))), 0, (wv (le4 (sub4 nonce 0))), (wv (le4 (sub4 nonce 1))), (wv (le4 (sub4 nonce 2)))])) 88 r6_28 rfl kj (Qan 87 _ _ g6 15 88 _ _ r6_28 rfl kj kj kj (show 15 < 16 by decide)) fun W29 p29 r6_29 => ?_
  have x29 : Ext w W29 := Puts.ext p29 x28 b6
  refine Qac ?_
  refine hK75 _ _ ?_
  refine Qab ?_
  refine Qaa (.int .i64 3) 47 rfl kj kj ?_
  refine Qaa (.int .i64 3) 33 rfl kj kj ?_
  refine Qac ?_
  show Code.rounds _ _ _ 1 _ _
  show Code.wp _ _ (Exit.then (Code.rounds _ _ _ 0) _) _ _
  refine wp_seq_k fun K77 hK77 => ?_
  refine Qab ?_
  refine Qaa (.bool false) 34 rfl kj kj ?_
  refine Qac ?_
  refine hK77 _ _ ?_
  refine wp_seq_k fun K78 hK78 => ?_
  refine cond_false kj ?_
  refine wp_exit ?_
  refine hK63 _ _ ?_
  refine wp_seq_k fun K79 hK79 => ?_
  refine Qab ?_
  refine Qaa (.agg (ints .u32 ([1634760805, 857760878, 2036477234, 1797285236, (wv (le4 (sub4 key 0))), (wv (le4 (sub4 key 1))), (wv (le4 (sub4 key 2))), (wv (le4 (sub4 key 3))), (wv (le4 (sub4 key 4))), (wv (le4 (sub4 key 5))), (wv (le4 (sub4 key 6))), (wv (le4 (sub4 key 7))), 0, (wv (le4 (sub4 nonce 0))), (wv (le4 (sub4 nonce 1))), (wv (le4 (sub4 nonce 2)))]))) 48 rfl kj (Qau 88 _ g6 88 _ _ r6_29 rfl kj kj (isz (n := 16) kj kj)) ?_
  have r4_3 := (Qad r4_2 e3)
  have r4_4 := (Puts.row p4 r4_3 (Qag r4_2 l6))
  have r4_5 := (Puts.row p5 r4_4 (Qag r4_2 l6))
  have r4_6 := (Puts.row p6 r4_5 (Qag r4_2 l6))
  have r4_7 := (Puts.row p7 r4_6 (Qag r4_2 l6))
  have r4_8 := (Qad r4_7 e8)
  have r4_9 := (Puts.row p9 r4_8 (Qag r4_2 l6))
  have r4_10 := (Qad r4_9 e10)
  have r4_11 := (Puts.row p11 r4_10 (Qag r4_2 l6))
  have r4_12 := (Qad r4_11 e12)
  have r4_13 := (Puts.row p13 r4_12 (Qag r4_2 l6))
  have r4_14 := (Qad r4_13 e14)
  have r4_15 := (Puts.row p15 r4_14 (Qag r4_2 l6))
  have r4_16 := (Qad r4_15 e16)
  have r4_17 := (Puts.row p17 r4_16 (Qag r4_2 l6))
  have r4_18 := (Qad r4_17 e18)
  have r4_19 := (Puts.row p19 r4_18 (Qag r4_2 l6))
  have r4_20 := (Qad r4_19 e20)
  have r4_21 := (Puts.row p21 r4_20 (Qag r4_2 l6))
  have r4_22 := (Qad r4_21 e22)
  have r4_23 := (Puts.row p23 r4_22 (Qag r4_2 l6))
  have r4_24 := (Qad r4_23 e24)
  have r4_25 := (Puts.row p25 r4_24 (Qag r4_2 l6))
  have r4_26 := (Qad r4_25 e26)
  have r4_27 := (Puts.row p27 r4_26 (Qag r4_2 l6))
  have r4_28 := (Qad r4_27 e28)
  have r4_29 := (Puts.row p29 r4_28 (Qag r4_2 l6))
  refine Qal g4 _ (ints .u32 ([1634760805, 857760878, 2036477234, 1797285236, (wv (le4 (sub4 key 0))), (wv (le4 (sub4 key 1))), (wv (le4 (sub4 key 2))), (wv (le4 (sub4 key 3))), (wv (le4 (sub4 key 4))), (wv (le4 (sub4 key 5))), (wv (le4 (sub4 key 6))), (wv (le4 (sub4 key 7))), 0, (wv (le4 (sub4 nonce 0))), (wv (le4 (sub4 nonce 1))), (wv (le4 (sub4 nonce 2)))])) 88 r4_29 rfl kj (Qap 88 _ _ g4 88 _ _ r4_29 rfl kj kj (isz (n := 16) kj kj) (eqsz (n := 16) kj kj) (QaB _ _)) fun W30 p30 r4_30 => ?_
  have x30 : Ext w W30 := Puts.ext p30 x29 b4
  refine Qac ?_
  refine hK79 _ _ ?_
  refine wp_ret ?_
  repeat (first | with_reducible refine goR1 ?_ | with_reducible refine goR2 ?_)
  exact (show bodyPost _ _ _ .ret _ _ from ret1 (.agg (ints .u32 ([1634760805, 857760878, 2036477234, 1797285236, (wv (le4 (sub4 key 0))), (wv (le4 (sub4 key 1))), (wv (le4 (sub4 key 2))), (wv (le4 (sub4 key 3))), (wv (le4 (sub4 key 4))), (wv (le4 (sub4 key 5))), (wv (le4 (sub4 key 6))), (wv (le4 (sub4 key 7))), 0, (wv (le4 (sub4 nonce 0))), (wv (le4 (sub4 nonce 1))), (wv (le4 (sub4 nonce 2)))]))) rfl (Qbw g4 88 _ r4_30 kj kj (isz (n := 16) kj kj)) ⟨rfl, x30⟩)
end Go.Proofs.YtjldjdlhllgakaaDoor.Cha
end
section
namespace Go.Proofs.YtjldjdlhllgakaaDoor.Cha
open Go Go.RowKit
open Rely Auto Own Sha
set_option linter.unusedVariables false
set_option linter.unusedSimpArgs false
open Sha
end Go.Proofs.YtjldjdlhllgakaaDoor.Cha
end
section
namespace Go.Proofs.YtjldjdlhllgakaaDoor.Auto
open Go Go.RowKit
open Rely
set_option linter.unusedVariables false
section
variable {P : Program} {Rd : World → Prop} {w0 : World} {base N : Nat} {L : Env} {U : List Nat} {F : List Kn → Prop} {o : Oper} {os : List Oper} {s : Src} {ss : List Src} {C : List Kn}
theorem Qay (v : Value) (hs : seen C o s = true) (hg : gOk s.guard (get (envS N L (C.map Kn.val) s.reads)) = true) (hd : o.dst.isNone = false)
    (h : ∀ W, (execOp (Rely.look (get (envS N L (C.map Kn.val) s.reads))) o).run P W = .ok (.value v) W)
    (hk : Qcx P Rd w0 base N L U F os ss (C ++ [.is v])) : Qcx P Rd w0 base N L U F (o :: os) (s :: ss) C :=
  ⟨.is v, (fun hn => by rw [hd] at hn; cases hn), (fun _ => by
    split
    · exact ⟨hs, v, rfl, fun W _ => QbZ hg (h W)⟩
    · intro ρ W hR hh
      rw [Qcn hs hh]
      refine QbZ hg ?_
      unfold Qcd
      rw [Qc6 hs hh, h W]
      exact ⟨Ext.refl _, rfl⟩), hk⟩
theorem Qef (v : Value) (f : FuncId) (args : Array Value) (hu : U.contains C.length = false) (hs : seen C o s = true) (hg : gOk s.guard (get (envS N L (C.map Kn.val) s.reads)) = true) (hd : o.dst.isNone = false)
    (h : ∀ W, (execOp (Rely.look (get (envS N L (C.map Kn.val) s.reads))) o).run P W = .ok (.enter f args) W) (hc : ∀ W, Ext w0 W → Calls P f args W (Ret W v))
    (hk : Qcx P Rd w0 base N L U F os ss (C ++ [.is v])) : Qcx P Rd w0 base N L U F (o :: os) (s :: ss) C :=
  t_op (.is v) hu hs hg hd (fun W hR => by
    rw [h]
    exact ⟨Ext.refl _, (hc W hR).mono fun _ _ h => h.const⟩) hk
end
end Go.Proofs.YtjldjdlhllgakaaDoor.Auto
end
section
namespace Go.Proofs.YtjldjdlhllgakaaDoor.Cha
open Go Go.RowKit
open Rely Auto Own Sha
set_option linter.unusedVariables false
set_option linter.unusedSimpArgs false
open Sha
def qrt (x : List Wd) (i j k l : Nat) : List Wd := (((x.set i (qA2 (wget x i) (wget x j) (wget x k) (wget x l))).set j (qB2 (wget x i) (wget x j) (wget x k) (wget x l))).set k (qC2 (wget x i) (wget x j) (wget x k) (wget x l))).set l (qD2 (wget x i) (wget x j) (wget x k) (wget x l))
theorem QbM (x : List Wd) (i j k l : Nat) : (qrt x i j k l).length = x.length := by unfold qrt; simp only [List.length_set]
def dbl (x : List Wd) : List Wd := qrt (qrt (qrt (qrt (qrt (qrt (qrt (qrt (x) 0 4 8 12) 1 5 9 13) 2 6 10 14) 3 7 11 15) 0 5 10 15) 1 6 11 12) 2 7 8 13) 3 4 9 14
theorem QjM (x : List Wd) : (dbl x).length = x.length := by unfold dbl; simp only [QbM]
def rounds (s : List Wd) : Nat → List Wd
  | 0 => s
  | n + 1 => dbl (rounds s n)
theorem QcT (s : List Wd) : ∀ n, (rounds s n).length = s.length
  | 0 => rfl
  | n + 1 => (QjM _).trans (QcT s n)
theorem Qa9 {x : List Wd} {n : Nat} (h : x.length = n) : (x.map wv).length = n := by rw [List.length_map, h]
def Qbs (xs : List Int) (n i : Nat) : List Int := xs.take i ++ List.replicate (n - i) 0
theorem Qb9 (xs : List Int) (n i : Nat) (h : xs.length = n) (hi : i ≤ n) : (Qbs xs n i).length = n := by unfold Qbs; rw [List.length_append, List.length_take, List.length_replicate]; omega
theorem Qb5 (xs : List Int) (n : Nat) : List.replicate n 0 = Qbs xs n 0 := by unfold Qbs; rw [List.take_zero, Nat.sub_zero]; rfl
theorem QbG (xs : List Int) (n : Nat) (h : xs.length = n) : Qbs xs n n = xs := by unfold Qbs; rw [Nat.sub_self, List.replicate_zero, List.append_nil, List.take_of_length_le (by omega)]
theorem Qb6 (xs : List Int) (n i : Nat) (h : xs.length = n) (hi : i < n) : (Qbs xs n i).set i (nth xs i) = Qbs xs n (i + 1) := by
  have hl : (xs.take i).length = i := by rw [List.length_take]; omega
  unfold Qbs
  rw [List.set_append_right _ _ (by omega), hl, Nat.sub_self, show n - i = (n - (i + 1)) + 1 by omega, List.replicate_succ, List.set_cons_zero]
  have e : xs.take (i + 1) = xs.take i ++ [nth xs i] := by
    rw [List.take_add_one, List.getElem?_eq_getElem (by omega)]
    simp [nth, show i < xs.length by omega]
  rw [e, List.append_assoc]
  rfl
def Qb7 (x s : List Wd) : List Int := (List.range 64).map fun n => wv ((wget x (n / 4) + wget s (n / 4)) >>> (8 * (n % 4))) % 256
theorem QdW (x s : List Wd) : (Qb7 x s).length = 64 := by unfold Qb7; rw [List.length_map, List.length_range]
theorem Qkq (x s : List Wd) (i j : Nat) (hi : i < 16) (hj : j < 4) : IntKind.u8.wrap (wv ((wget x i + wget s i) >>> (8 * j))) = nth (Qb7 x s) (4 * i + j) := by
  have h1 : (4 * i + j) / 4 = i := by omega
  have h2 : (4 * i + j) % 4 = j := by omega
  have h3 : ∀ z : Int, IntKind.u8.wrap z = z % 2 ^ 8 := fun _ => rfl
  unfold nth Qb7
  rw [h3, List.getD_eq_getElem?_getD, List.getElem?_map, List.getElem?_range (by omega), Option.map_some, Option.getD_some, h1, h2]
  rfl
def QaS (ws : List Wd) (number : Int) : List Int := Qb7 (rounds (ws.set 12 (BitVec.ofInt 32 number)) 10) (ws.set 12 (BitVec.ofInt 32 number))
set_option maxRecDepth 100000 in
set_option maxHeartbeats 4000000 in
theorem Qjh (ws : List Wd) (number : Int) (tq : TypeId) (w : World) (hq : w.heap[1]? = some (.cells (ints .i64 [0, 4, 8, 12, 1, 5, 9, 13, 2, 6, 10, 14, 3, 7, 11, 15, 0, 5, 10, 15, 1, 6, 11, 12, 2, 7, 8, 13, 3, 4, 9, 14]) tq)) (hw : ws.length = 16) : Calls Tryd.prog 52 #[.agg (ints .u32 (ws.map wv)), .int .i64 number] w (Ret w (.agg (ints .u8 (QaS ws number)))) := by
 refine enter 84 [(0, .agg (ints .u32 (ws.map wv))), (1, .int .i64 number)] Tryd.func52 rfl rfl kj rfl ?_
 refine wp_seq_k fun K2 hK2 => ?_
 refine Qab ?_
 refine Qar (ints .u32 (ws.map wv)) 88 2 rfl kj kj fun g3 W1 l3 e1 r3_1 => ?_
 have x1 : Ext w W1 := Ext.tr (Rely.Ext.refl w) e1
 have b3 : w.heap.size ≤ g3 := Nat.le_trans (Rely.Ext.refl w).size l3
 refine Qar (ints .u8 (List.replicate 64 0)) 78 4 rfl kj kj fun g4 W2 l4 e2 r4_2 => ?_
 have x2 : Ext w W2 := Ext.tr x1 e2
 have b4 : w.heap.size ≤ g4 := Nat.le_trans x1.size l4
 refine Qac ?_
 refine hK2 _ _ ?_
 refine wp_seq_k fun K5 hK5 => ?_
 refine Qab ?_
 refine Qaa (.int .i64 number) 12 rfl kj kj ?_
 refine Qaa (.int .u32 (wv (BitVec.ofInt 32 number))) 13 rfl kj (Qah (u := .int .u32 (IntKind.u32.wrap (number))) kj (congrArg (Value.int .u32) (by rw [Go.Proofs.YtjldjdlhllgakaaDoor.Sha.wrap32, Qfi]))) ?_
 refine Qaa (.pointer (some ⟨g3, 12, none⟩)) 14 rfl kj kj ?_
 have r3_2 := (Qad r3_1 e2)
 refine Qal g3 _ (ints .u32 ((ws.map wv).set 12 (wv (BitVec.ofInt 32 number)))) 88 r3_2 rfl kj (Qan 87 _ _ g3 12 88 _ _ r3_2 rfl kj kj kj (Nat.lt_of_lt_of_eq (show 12 < 16 by decide) (Qa9 hw).symm)) fun W3 p3 r3_3 => ?_
 have x3 : Ext w W3 := Puts.ext p3 x2 b3
 obtain ⟨s, es⟩ : ∃ z : List Wd, z = ws.set 12 (BitVec.ofInt 32 number) := ⟨_, rfl⟩
 have hs : s.length = 16 := by rw [es, List.length_set, hw]
 have r3_3_6 : W3.heap[g3]? = some (.cells (ints .u32 (s.map wv)) 88) := QaO r3_3 (by rw [es, List.map_set])
 refine Qac ?_
 refine hK5 _ _ ?_
 refine wp_seq_k fun K7 hK7 => ?_
 refine Qab ?_
 refine Qaa (.agg (ints .u32 (s.map wv))) 15 rfl kj (Qau 88 _ g3 88 _ _ r3_3_6 rfl kj kj (isz (n := 16) kj ((Qaf _ _).trans (Qa9 hs)))) ?_
 refine Qar (ints .u32 ([0, 0, 0, 0, 0, 0, 0, 0, 0, 0, 0, 0, 0, 0, 0, 0])) 88 5 rfl kj kj fun g8 W4 l8 e4 r8_4 => ?_
 have x4 : Ext w W4 := Ext.tr x3 e4
 have b8 : w.heap.size ≤ g8 := Nat.le_trans x3.size l8
 refine Qal g8 _ (ints .u32 (s.map wv)) 88 r8_4 rfl kj (Qap 88 _ _ g8 88 _ _ r8_4 rfl kj kj (isz (n := 16) kj ((Qaf _ _).trans (Qa9 hs))) (eqsz (n := 16) kj ((Qaf _ _).trans (Qa9 hs))) (QaB _ _)) fun W5 p5 r8_5 => ?_
 have x5 : Ext w W5 := Puts.ext p5 x4 b8
 refine Qac ?_
 refine hK7 _ _ ?_
 refine wp_seq_k fun K9 hK9 => ?_
 refine wp_seq_k fun K10 hK10 => ?_
 refine Qab ?_
 refine Qaa (.int .i64 0) 16 rfl kj kj ?_
 refine Qac ?_
 refine hK10 _ _ ?_
 refine wp_block ?_
 refine QaH (fun (s1 : Nat) => [(2, .pointer (some ⟨g3, 0, none⟩)), (4, .pointer (some ⟨g4, 0, none⟩)), (5, .pointer (some ⟨g8, 0, none⟩)), (16, .int .i64 ((s1 : Nat) : Int))]) (fun (s1 : Nat) W => (s1 ≤ 10) ∧ (W.heap[g8]? = some (.cells (ints .u32 ((rounds s s1).map wv)) 88)) ∧ (Qax [g8] W5 W) ∧ (Ext w W)) (fun (s1 : Nat) => 10 - s1) 0 ⟨rfl, rfl, rfl, rfl, trivial⟩ ⟨(Nat.zero_le _), (QaO r8_5 rfl), (Qax.refl [g8] W5), x5⟩ fun s1 X1 V1 hI1 => ?_
 obtain ⟨i, hs1⟩ : ∃ z, z = s1 := ⟨_, rfl⟩
 subst hs1
 obtain ⟨hi, q8_1, kk1, xx1⟩ := hI1
 replace hi : i ≤ 10 := hi
 replace q8_1 : V1.heap[g8]? = some (.cells (ints .u32 ((rounds s i).map wv)) 88) := q8_1
 replace kk1 : Qax [g8] W5 V1 := kk1
 replace xx1 : Ext w V1 := xx1
 have q6 := kk1
 refine wp_seq_k fun K11 hK11 => ?_
 refine Qab ?_
 refine Qaa (.bool (decide (((i : Nat) : Int) < 10))) 17 rfl kj kj ?_
 refine Qac ?_
 refine hK11 _ _ ?_
 refine wp_seq_k fun K12 hK12 => ?_
 refine Qa8 (t := decide (((i : Nat) : Int) < 10)) kj (fun c13 => ?_) (fun c13 => ?_)
 ·skip
  have hlt17 : i < 10 := by have := of_decide_eq_true c13; omega
  refine wp_skip ?_
  refine hK12 _ _ ?_
  refine wp_seq_k fun K14 hK14 => ?_
  refine wp_block ?_
  refine wp_seq_k fun K15 hK15 => ?_
  refine Qab ?_
  have r1_1 := (Qad hq e1)
  have r1_2 := (Qad r1_1 e2)
  have r1_3 := (Puts.row p3 r1_2 (Qag hq l3))
  have r1_4 := (Qad r1_3 e4)
  have r1_5 := (Puts.row p5 r1_4 (Qag r1_3 l8))
  have r1_6 := (Qax.row q6 r1_5 (Qbi (Qag r1_3 l8) Qb8))
  refine Qaa (.agg (ints .i64 ([0, 4, 8, 12, 1, 5, 9, 13, 2, 6, 10, 14, 3, 7, 11, 15, 0, 5, 10, 15, 1, 6, 11, 12, 2, 7, 8, 13, 3, 4, 9, 14]))) 18 rfl kj (Qau 100 _ 1 tq _ _ r1_6 rfl kj kj (isz (n := 32) kj kj)) ?_
  refine Qaa (.int .i64 0) 19 rfl kj kj ?_
  refine Qac ?_
  refine hK15 _ _ ?_
  refine wp_block ?_
  obtain ⟨x0, ex0⟩ : ∃ z : List Wd, z = rounds s i := ⟨_, rfl⟩
  have h0 : x0.length = 16 := by rw [ex0, QcT, hs]
  have r8_6_16 : V1.heap[g8]? = some (.cells (ints .u32 (x0.map wv)) 88) := QaO q8_1 (by rw [ex0])
  refine wp_loop_rounds 9 ?_
  show Code.wp _ _ (Exit.then (Code.rounds _ _ _ 8) _) _ _
  refine wp_seq_k fun K17 hK17 => ?_
  refine Qab ?_
  refine Qaa (.bool true) 20 rfl kj kj ?_
  refine Qac ?_
  refine hK17 _ _ ?_
  refine wp_seq_k fun K18 hK18 => ?_
  refine cond_true kj ?_
  refine wp_skip ?_
  refine hK18 _ _ ?_
  refine wp_seq_k fun K19 hK19 => ?_
  refine wp_block ?_
  refine wp_seq_k fun K20 hK20 => ?_
  refine Qab ?_
  refine Qaa (.agg (ints .i64 ([0, 4, 8, 12]))) 21 rfl kj kj ?_
  refine Qar ((Array.replicate 4 (.int .i64 0))) 68 7 rfl kj kj fun g21 W7 l21 e7 r21_7 => ?_
  have x7 : Ext w W7 := Ext.tr xx1 e7
  have b21 : w.heap.size ≤ g21 := Nat.le_trans xx1.size l21
  refine Qal g21 _ (ints .i64 ([0, 4, 8, 12])) 68 r21_7 rfl kj (Qap 68 _ _ g21 68 _ _ r21_7 rfl kj kj (isz (n := 4) kj kj) (eqsz (n := 4) kj kj) (QaB _ _)) fun W8 p8 r21_8 => ?_
  have x8 : Ext w W8 := Puts.ext p8 x7 b21
  refine Qac ?_
  refine hK20 _ _ ?_
  refine Qb3 (fun W => W.heap[g21]? = some (.cells (ints .i64 ([0, 4, 8, 12])) 68)) [⟨none, [(7, none)]⟩, ⟨none, [(23, some 0)]⟩, ⟨none, [(7, none)]⟩, ⟨none, [(25, some 2)]⟩, ⟨none, [(7, none)]⟩, ⟨none, [(27, some 4)]⟩, ⟨none, [(7, none)]⟩, ⟨none, [(29, some 6)]⟩, ⟨none, [(7, none)]⟩, ⟨none, [(31, some 8)]⟩, ⟨none, [(5, none), (32, some 9)]⟩, ⟨none, [(33, some 10)]⟩, ⟨none, [(7, none)]⟩, ⟨none, [(35, some 12)]⟩, ⟨none, [(5, none), (36, some 13)]⟩, ⟨none, [(37, some 14)]⟩, ⟨none, [(7, none)]⟩, ⟨none, [(39, some 16)]⟩, ⟨none, [(5, none), (40, some 17)]⟩, ⟨none, [(41, some 18)]⟩, ⟨none, [(7, none)]⟩, ⟨none, [(43, some 20)]⟩, ⟨none, [(5, none), (44, some 21)]⟩, ⟨none, [(45, some 22)]⟩, ⟨none, [(34, some 11), (38, some 15), (42, some 19), (46, some 23)]⟩, ⟨none, [(47, some 24)]⟩, ⟨none, [(22, some 25)]⟩, ⟨none, [(22, some 25)]⟩, ⟨none, [(22, some 25)]⟩, ⟨none, [(22, some 25)]⟩, ⟨none, [(5, none), (24, some 1)]⟩, ⟨none, [(52, some 30), (48, some 26)]⟩, ⟨none, [(5, none), (26, some 3)]⟩, ⟨none, [(53, some 32), (49, some 27)]⟩, ⟨none, [(5, none), (28, some 5)]⟩, ⟨none, [(54, some 34), (50, some 28)]⟩, ⟨none, [(5, none), (30, some 7)]⟩, ⟨none, [(55, some 36), (51, some 29)]⟩] [] [2, 3, 4, 5, 6, 7, 27, 28, 29, 32, 34, 36] kj kj kj (fun W hR => Qad r21_8 hR) fun F hF => ?_
  refine Qay (.pointer (some ⟨g21, 0, none⟩)) kj kj rfl (fun W => by kernel_rfl) ?_
  refine QaK (.int .i64 0) kj kj kj rfl (fun W hR => (Qae 3 _ g21 0 68 _ (.int .i64 0) _ (Qad (Qad r21_8 (Qai _)) hR) rfl kj kj kj)) ?_
  refine Qay (.pointer (some ⟨g21, 1, none⟩)) kj kj rfl (fun W => by kernel_rfl) ?_
  refine Qbz (.int .i64 4) kj kj kj rfl (fun W hW => (Qae 3 _ g21 1 68 _ (.int .i64 4) _ hW rfl kj kj kj)) ?_
  refine Qay (.pointer (some ⟨g21, 2, none⟩)) kj kj rfl (fun W => by kernel_rfl) ?_
  refine Qbz (.int .i64 8) kj kj kj rfl (fun W hW => (Qae 3 _ g21 2 68 _ (.int .i64 8) _ hW rfl kj kj kj)) ?_
  refine Qay (.pointer (some ⟨g21, 3, none⟩)) kj kj rfl (fun W => by kernel_rfl) ?_
  refine Qbz (.int .i64 12) kj kj kj rfl (fun W hW => (Qae 3 _ g21 3 68 _ (.int .i64 12) _ hW rfl kj kj kj)) ?_
  refine Qay (.pointer (some ⟨g21, 0, none⟩)) kj kj rfl (fun W => by kernel_rfl) ?_
  refine QaK (.int .i64 0) kj kj kj rfl (fun W hR => (Qae 3 _ g21 0 68 _ (.int .i64 0) _ (Qad (Qad r21_8 (Qai _)) hR) rfl kj kj kj)) ?_
  refine Qay (.pointer (some ⟨g8, 0, none⟩)) kj kj rfl (fun W => by kernel_rfl) ?_
  have r8_7 := (Qad r8_6_16 e7)
  have r8_8 := (Puts.row p8 r8_7 (Qag r8_6_16 l21))
  refine QaK (.int .u32 (wv (wget x0 0))) kj kj kj rfl (fun W hR => (Qae 87 _ g8 0 88 _ (.int .u32 (wv (wget x0 0))) _ (Qad (Qad r8_8 (Qai _)) hR) rfl kj ((Qa7 _ _ _ (Nat.lt_of_lt_of_eq (by decide) (Qa9 h0).symm)).trans (congrArg (fun z => some (Value.int .u32 z)) (QaM x0 0))) kj)) ?_
  refine Qay (.pointer (some ⟨g21, 1, none⟩)) kj kj rfl (fun W => by kernel_rfl) ?_
  refine QaK (.int .i64 4) kj kj kj rfl (fun W hR => (Qae 3 _ g21 1 68 _ (.int .i64 4) _ (Qad (Qad r21_8 (Qai _)) hR) rfl kj kj kj)) ?_
  refine Qay (.pointer (some ⟨g8, 4, none⟩)) kj kj rfl (fun W => by kernel_rfl) ?_
  refine QaK (.int .u32 (wv (wget x0 4))) kj kj kj rfl (fun W hR => (Qae 87 _ g8 4 88 _ (.int .u32 (wv (wget x0 4))) _ (Qad (Qad r8_8 (Qai _)) hR) rfl kj ((Qa7 _ _ _ (Nat.lt_of_lt_of_eq (by decide) (Qa9 h0).symm)).trans (congrArg (fun z => some (Value.int .u32 z)) (QaM x0 4))) kj)) ?_
  refine Qay (.pointer (some ⟨g21, 2, none⟩)) kj kj rfl (fun W => by kernel_rfl) ?_
  refine QaK (.int .i64 8) kj kj kj rfl (fun W hR => (Qae 3 _ g21 2 68 _ (.int .i64 8) _ (Qad (Qad r21_8 (Qai _)) hR) rfl kj kj kj)) ?_
  refine Qay (.pointer (some ⟨g8, 8, none⟩)) kj kj rfl (fun W => by kernel_rfl) ?_
  refine QaK (.int .u32 (wv (wget x0 8))) kj kj kj rfl (fun W hR => (Qae 87 _ g8 8 88 _ (.int .u32 (wv (wget x0 8))) _ (Qad (Qad r8_8 (Qai _)) hR) rfl kj ((Qa7 _ _ _ (Nat.lt_of_lt_of_eq (by decide) (Qa9 h0).symm)).trans (congrArg (fun z => some (Value.int .u32 z)) (QaM x0 8))) kj)) ?_
  refine Qay (.pointer (some ⟨g21, 3, none⟩)) kj kj rfl (fun W => by kernel_rfl) ?_
  refine QaK (.int .i64 12) kj kj kj rfl (fun W hR => (Qae 3 _ g21 3 68 _ (.int .i64 12) _ (Qad (Qad r21_8 (Qai _)) hR) rfl kj kj kj)) ?_
  refine Qay (.pointer (some ⟨g8, 12, none⟩)) kj kj rfl (fun W => by kernel_rfl) ?_
  refine QaK (.int .u32 (wv (wget x0 12))) kj kj kj rfl (fun W hR => (Qae 87 _ g8 12 88 _ (.int .u32 (wv (wget x0 12))) _ (Qad (Qad r8_8 (Qai _)) hR) rfl kj ((Qa7 _ _ _ (Nat.lt_of_lt_of_eq (by decide) (Qa9 h0).symm)).trans (congrArg (fun z => some (Value.int .u32 z)) (QaM x0 12))) kj)) ?_
  refine Qef (.tuple #[.int .u32 (wv (qA2 (wget x0 0) (wget x0 4) (wget x0 8) (wget x0 12))), .int .u32 (wv (qB2 (wget x0 0) (wget x0 4) (wget x0 8) (wget x0 12))), .int .u32 (wv (qC2 (wget x0 0) (wget x0 4) (wget x0 8) (wget x0 12))), .int .u32 (wv (qD2 (wget x0 0) (wget x0 4) (wget x0 8) (wget x0 12)))]) 58 #[.int .u32 (wv (wget x0 0)), .int .u32 (wv (wget x0 4)), .int .u32 (wv (wget x0 8)), .int .u32 (wv (wget x0 12))] kj kj kj rfl (fun W => by kernel_rfl) (fun W hR => (QcN (wget x0 0) (wget x0 4) (wget x0 8) (wget x0 12)) W) ?_
  refine Qay (.tuple #[.int .u32 (wv (qA2 (wget x0 0) (wget x0 4) (wget x0 8) (wget x0 12))), .int .u32 (wv (qB2 (wget x0 0) (wget x0 4) (wget x0 8) (wget x0 12))), .int .u32 (wv (qC2 (wget x0 0) (wget x0 4) (wget x0 8) (wget x0 12))), .int .u32 (wv (qD2 (wget x0 0) (wget x0 4) (wget x0 8) (wget x0 12)))]) kj kj rfl (fun W => by kernel_rfl) ?_
  refine Qay (.int .u32 (wv (qA2 (wget x0 0) (wget x0 4) (wget x0 8) (wget x0 12)))) kj kj rfl (fun W => by kernel_rfl) ?_
  refine Qay (.int .u32 (wv (qB2 (wget x0 0) (wget x0 4) (wget x0 8) (wget x0 12)))) kj kj rfl (fun W => by kernel_rfl) ?_
  refine Qay (.int .u32 (wv (qC2 (wget x0 0) (wget x0 4) (wget x0 8) (wget x0 12)))) kj kj rfl (fun W => by kernel_rfl) ?_
  refine Qay (.int .u32 (wv (qD2 (wget x0 0) (wget x0 4) (wget x0 8) (wget x0 12)))) kj kj rfl (fun W => by kernel_rfl) ?_
  refine Qay (.pointer (some ⟨g8, 0, none⟩)) kj kj rfl (fun W => by kernel_rfl) ?_
  refine Qbb rfl ?_
  refine Qay (.pointer (some ⟨g8, 4, none⟩)) kj kj rfl (fun W => by kernel_rfl) ?_
  refine Qbb rfl ?_
  refine Qay (.pointer (some ⟨g8, 8, none⟩)) kj kj rfl (fun W => by kernel_rfl) ?_
  refine Qbb rfl ?_
  refine Qay (.pointer (some ⟨g8, 12, none⟩)) kj kj rfl (fun W => by kernel_rfl) ?_
  refine Qbb rfl ?_
  refine Qe5 (hF _ kj fun W9 e9 => ?_)
  simp only [List.nil_append, List.cons_append, fins, up]
  clear hF
  have x9 : Ext w W9 := Ext.tr x8 e9
  have r8_9 := (Qad r8_8 e9)
  have r21_9 := (Qad r21_8 e9)
  refine QaQ _ g8 _ (ints .u32 ((x0.map wv).set 0 (wv (qA2 (wget x0 0) (wget x0 4) (wget x0 8) (wget x0 12))))) 88 r8_9 rfl (Qan 87 _ _ g8 0 88 _ _ r8_9 rfl kj kj kj (Nat.lt_of_lt_of_eq (show 0 < 16 by decide) (Qa9 h0).symm)) (fun W hp => Puts.row hp r21_9 (Qat r8_6_16 l21)) fun W10 p10 r8_10 => ?_
  have x10 : Ext w W10 := Puts.ext p10 x9 b8
  have r21_10 := (Puts.row p10 r21_9 (Qat r8_6_16 l21))
  refine QaQ _ g8 _ (ints .u32 (((x0.map wv).set 0 (wv (qA2 (wget x0 0) (wget x0 4) (wget x0 8) (wget x0 12)))).set 4 (wv (qB2 (wget x0 0) (wget x0 4) (wget x0 8) (wget x0 12))))) 88 r8_10 rfl (Qan 87 _ _ g8 4 88 _ _ r8_10 rfl kj kj kj (Nat.lt_of_lt_of_eq (show 4 < 16 by decide) ((List.length_set ..).trans (Qa9 h0)).symm)) (fun W hp => Puts.row hp r21_10 (Qat r8_6_16 l21)) fun W11 p11 r8_11 => ?_
  have x11 : Ext w W11 := Puts.ext p11 x10 b8
  have r21_11 := (Puts.row p11 r21_10 (Qat r8_6_16 l21))
  refine QaQ _ g8 _ (ints .u32 ((((x0.map wv).set 0 (wv (qA2 (wget x0 0) (wget x0 4) (wget x0 8) (wget x0 12)))).set 4 (wv (qB2 (wget x0 0) (wget x0 4) (wget x0 8) (wget x0 12)))).set 8 (wv (qC2 (wget x0 0) (wget x0 4) (wget x0 8) (wget x0 12))))) 88 r8_11 rfl (Qan 87 _ _ g8 8 88 _ _ r8_11 rfl kj kj kj (Nat.lt_of_lt_of_eq (show 8 < 16 by decide) ((List.length_set ..).trans ((List.length_set ..).trans (Qa9 h0))).symm)) (fun W hp => Puts.row hp r21_11 (Qat r8_6_16 l21)) fun W12 p12 r8_12 => ?_
  have x12 : Ext w W12 := Puts.ext p12 x11 b8
  have r21_12 := (Puts.row p12 r21_11 (Qat r8_6_16 l21))
  refine QaQ _ g8 _ (ints .u32 (((((x0.map wv).set 0 (wv (qA2 (wget x0 0) (wget x0 4) (wget x0 8) (wget x0 12)))).set 4 (wv (qB2 (wget x0 0) (wget x0 4) (wget x0 8) (wget x0 12)))).set 8 (wv (qC2 (wget x0 0) (wget x0 4) (wget x0 8) (wget x0 12)))).set 12 (wv (qD2 (wget x0 0) (wget x0 4) (wget x0 8) (wget x0 12))))) 88 r8_12 rfl (Qan 87 _ _ g8 12 88 _ _ r8_12 rfl kj kj kj (Nat.lt_of_lt_of_eq (show 12 < 16 by decide) ((List.length_set ..).trans ((List.length_set ..).trans ((List.length_set ..).trans (Qa9 h0)))).symm)) (fun W hp => Puts.row hp r21_12 (Qat r8_6_16 l21)) fun W13 p13 r8_13 => ?_
  have x13 : Ext w W13 := Puts.ext p13 x12 b8
  refine Qdl ?_
  obtain ⟨x1, ex1⟩ : ∃ z : List Wd, z = qrt x0 0 4 8 12 := ⟨_, rfl⟩
  have h1 : x1.length = 16 := by rw [ex1, QbM, h0]
  have r8_13_22 : W13.heap[g8]? = some (.cells (ints .u32 (x1.map wv)) 88) := QaO r8_13 (by rw [ex1]; unfold qrt; simp only [List.map_set])
  refine hK19 _ _ ?_
  refine Qab ?_
  refine Qaa (.int .i64 1) 56 rfl kj kj ?_
  refine Qaa (.int .i64 1) 19 rfl kj kj ?_
  refine Qac ?_
  show Code.rounds _ _ _ 8 _ _
  show Code.wp _ _ (Exit.then (Code.rounds _ _ _ 7) _) _ _
  refine wp_seq_k fun K23 hK23 => ?_
  refine Qab ?_
  refine Qaa (.bool true) 20 rfl kj kj ?_
  refine Qac ?_
  refine hK23 _ _ ?_
  refine wp_seq_k fun K24 hK24 => ?_
  refine cond_true kj ?_
  refine wp_skip ?_
  refine hK24 _ _ ?_
  refine wp_seq_k fun K25 hK25 => ?_
  refine wp_block ?_
  refine wp_seq_k fun K26 hK26 => ?_
  refine Qab ?_
  refine Qaa (.agg (ints .i64 ([1, 5, 9, 13]))) 21 rfl kj kj ?_
  refine Qar ((Array.replicate 4 (.int .i64 0))) 68 7 rfl kj kj fun g27 W14 l27 e14 r27_14 => ?_
  have x14 : Ext w W14 := Ext.tr x13 e14
  have b27 : w.heap.size ≤ g27 := Nat.le_trans x13.size l27
  refine Qal g27 _ (ints .i64 ([1, 5, 9, 13])) 68 r27_14 rfl kj (Qap 68 _ _ g27 68 _ _ r27_14 rfl kj kj (isz (n := 4) kj kj) (eqsz (n := 4) kj kj) (QaB _ _)) fun W15 p15 r27_15 => ?_
  have x15 : Ext w W15 := Puts.ext p15 x14 b27
  refine Qac ?_
  refine hK26 _ _ ?_
  refine Qb3 (fun W => W.heap[g27]? = some (.cells (ints .i64 ([1, 5, 9, 13])) 68)) [⟨none, [(7, none)]⟩, ⟨none, [(23, some 0)]⟩, ⟨none, [(7, none)]⟩, ⟨none, [(25, some 2)]⟩, ⟨none, [(7, none)]⟩, ⟨none, [(27, some 4)]⟩, ⟨none, [(7, none)]⟩, ⟨none, [(29, some 6)]⟩, ⟨none, [(7, none)]⟩, ⟨none, [(31, some 8)]⟩, ⟨none, [(5, none), (32, some 9)]⟩, ⟨none, [(33, some 10)]⟩, ⟨none, [(7, none)]⟩, ⟨none, [(35, some 12)]⟩, ⟨none, [(5, none), (36, some 13)]⟩, ⟨none, [(37, some 14)]⟩, ⟨none, [(7, none)]⟩, ⟨none, [(39, some 16)]⟩, ⟨none, [(5, none), (40, some 17)]⟩, ⟨none, [(41, some 18)]⟩, ⟨none, [(7, none)]⟩, ⟨none, [(43, some 20)]⟩, ⟨none, [(5, none), (44, some 21)]⟩, ⟨none, [(45, some 22)]⟩, ⟨none, [(34, some 11), (38, some 15), (42, some 19), (46, some 23)]⟩, ⟨none, [(47, some 24)]⟩, ⟨none, [(22, some 25)]⟩, ⟨none, [(22, some 25)]⟩, ⟨none, [(22, some 25)]⟩, ⟨none, [(22, some 25)]⟩, ⟨none, [(5, none), (24, some 1)]⟩, ⟨none, [(52, some 30), (48, some 26)]⟩, ⟨none, [(5, none), (26, some 3)]⟩, ⟨none, [(53, some 32), (49, some 27)]⟩, ⟨none, [(5, none), (28, some 5)]⟩, ⟨none, [(54, some 34), (50, some 28)]⟩, ⟨none, [(5, none), (30, some 7)]⟩, ⟨none, [(55, some 36), (51, some 29)]⟩] [] [2, 3, 4, 5, 6, 7, 27, 28, 29, 32, 34, 36] kj kj kj (fun W hR => Qad r27_15 hR) fun F hF => ?_
  refine Qay (.pointer (some ⟨g27, 0, none⟩)) kj kj rfl (fun W => by kernel_rfl) ?_
  refine QaK (.int .i64 1) kj kj kj rfl (fun W hR => (Qae 3 _ g27 0 68 _ (.int .i64 1) _ (Qad (Qad r27_15 (Qai _)) hR) rfl kj kj kj)) ?_
  refine Qay (.pointer (some ⟨g27, 1, none⟩)) kj kj rfl (fun W => by kernel_rfl) ?_
  refine Qbz (.int .i64 5) kj kj kj rfl (fun W hW => (Qae 3 _ g27 1 68 _ (.int .i64 5) _ hW rfl kj kj kj)) ?_
  refine Qay (.pointer (some ⟨g27, 2, none⟩)) kj kj rfl (fun W => by kernel_rfl) ?_
  refine Qbz (.int .i64 9) kj kj kj rfl (fun W hW => (Qae 3 _ g27 2 68 _ (.int .i64 9) _ hW rfl kj kj kj)) ?_
  refine Qay (.pointer (some ⟨g27, 3, none⟩)) kj kj rfl (fun W => by kernel_rfl) ?_
  refine Qbz (.int .i64 13) kj kj kj rfl (fun W hW => (Qae 3 _ g27 3 68 _ (.int .i64 13) _ hW rfl kj kj kj)) ?_
  refine Qay (.pointer (some ⟨g27, 0, none⟩)) kj kj rfl (fun W => by kernel_rfl) ?_
  refine QaK (.int .i64 1) kj kj kj rfl (fun W hR => (Qae 3 _ g27 0 68 _ (.int .i64 1) _ (Qad (Qad r27_15 (Qai _)) hR) rfl kj kj kj)) ?_
  refine Qay (.pointer (some ⟨g8, 1, none⟩)) kj kj rfl (fun W => by kernel_rfl) ?_
  have r8_14 := (Qad r8_13_22 e14)
  have r8_15 := (Puts.row p15 r8_14 (Qag r8_13_22 l27))
  refine QaK (.int .u32 (wv (wget x1 1))) kj kj kj rfl (fun W hR => (Qae 87 _ g8 1 88 _ (.int .u32 (wv (wget x1 1))) _ (Qad (Qad r8_15 (Qai _)) hR) rfl kj ((Qa7 _ _ _ (Nat.lt_of_lt_of_eq (by decide) (Qa9 h1).symm)).trans (congrArg (fun z => some (Value.int .u32 z)) (QaM x1 1))) kj)) ?_
  refine Qay (.pointer (some ⟨g27, 1, none⟩)) kj kj rfl (fun W => by kernel_rfl) ?_
  refine QaK (.int .i64 5) kj kj kj rfl (fun W hR => (Qae 3 _ g27 1 68 _ (.int .i64 5) _ (Qad (Qad r27_15 (Qai _)) hR) rfl kj kj kj)) ?_
  refine Qay (.pointer (some ⟨g8, 5, none⟩)) kj kj rfl (fun W => by kernel_rfl) ?_
  refine QaK (.int .u32 (wv (wget x1 5))) kj kj kj rfl (fun W hR => (Qae 87 _ g8 5 88 _ (.int .u32 (wv (wget x1 5))) _ (Qad (Qad r8_15 (Qai _)) hR) rfl kj ((Qa7 _ _ _ (Nat.lt_of_lt_of_eq (by decide) (Qa9 h1).symm)).trans (congrArg (fun z => some (Value.int .u32 z)) (QaM x1 5))) kj)) ?_
  refine Qay (.pointer (some ⟨g27, 2, none⟩)) kj kj rfl (fun W => by kernel_rfl) ?_
  refine QaK (.int .i64 9) kj kj kj rfl (fun W hR => (Qae 3 _ g27 2 68 _ (.int .i64 9) _ (Qad (Qad r27_15 (Qai _)) hR) rfl kj kj kj)) ?_
  refine Qay (.pointer (some ⟨g8, 9, none⟩)) kj kj rfl (fun W => by kernel_rfl) ?_
  refine QaK (.int .u32 (wv (wget x1 9))) kj kj kj rfl (fun W hR => (Qae 87 _ g8 9 88 _ (.int .u32 (wv (wget x1 9))) _ (Qad (Qad r8_15 (Qai _)) hR) rfl kj ((Qa7 _ _ _ (Nat.lt_of_lt_of_eq (by decide) (Qa9 h1).symm)).trans (congrArg (fun z => some (Value.int .u32 z)) (QaM x1 9))) kj)) ?_
  refine Qay (.pointer (some ⟨g27, 3, none⟩)) kj kj rfl (fun W => by kernel_rfl) ?_
  refine QaK (.int .i64 13) kj kj kj rfl (fun W hR => (Qae 3 _ g27 3 68 _ (.int .i64 13) _ (Qad (Qad r27_15 (Qai _)) hR) rfl kj kj kj)) ?_
  refine Qay (.pointer (some ⟨g8, 13, none⟩)) kj kj rfl (fun W => by kernel_rfl) ?_
  refine QaK (.int .u32 (wv (wget x1 13))) kj kj kj rfl (fun W hR => (Qae 87 _ g8 13 88 _ (.int .u32 (wv (wget x1 13))) _ (Qad (Qad r8_15 (Qai _)) hR) rfl kj ((Qa7 _ _ _ (Nat.lt_of_lt_of_eq (by decide) (Qa9 h1).symm)).trans (congrArg (fun z => some (Value.int .u32 z)) (QaM x1 13))) kj)) ?_
  refine Qef (.tuple #[.int .u32 (wv (qA2 (wget x1 1) (wget x1 5) (wget x1 9) (wget x1 13))), .int .u32 (wv (qB2 (wget x1 1) (wget x1 5) (wget x1 9) (wget x1 13))), .int .u32 (wv (qC2 (wget x1 1) (wget x1 5) (wget x1 9) (wget x1 13))), .int .u32 (wv (qD2 (wget x1 1) (wget x1 5) (wget x1 9) (wget x1 13)))]) 58 #[.int .u32 (wv (wget x1 1)), .int .u32 (wv (wget x1 5)), .int .u32 (wv (wget x1 9)), .int .u32 (wv (wget x1 13))] kj kj kj rfl (fun W => by kernel_rfl) (fun W hR => (QcN (wget x1 1) (wget x1 5) (wget x1 9) (wget x1 13)) W) ?_
  refine Qay (.tuple #[.int .u32 (wv (qA2 (wget x1 1) (wget x1 5) (wget x1 9) (wget x1 13))), .int .u32 (wv (qB2 (wget x1 1) (wget x1 5) (wget x1 9) (wget x1 13))), .int .u32 (wv (qC2 (wget x1 1) (wget x1 5) (wget x1 9) (wget x1 13))), .int .u32 (wv (qD2 (wget x1 1) (wget x1 5) (wget x1 9) (wget x1 13)))]) kj kj rfl (fun W => by kernel_rfl) ?_
  refine Qay (.int .u32 (wv (qA2 (wget x1 1) (wget x1 5) (wget x1 9) (wget x1 13)))) kj kj rfl (fun W => by kernel_rfl) ?_
  refine Qay (.int .u32 (wv (qB2 (wget x1 1) (wget x1 5) (wget x1 9) (wget x1 13)))) kj kj rfl (fun W => by kernel_rfl) ?_
  refine Qay (.int .u32 (wv (qC2 (wget x1 1) (wget x1 5) (wget x1 9) (wget x1 13)))) kj kj rfl (fun W => by kernel_rfl) ?_
  refine Qay (.int .u32 (wv (qD2 (wget x1 1) (wget x1 5) (wget x1 9) (wget x1 13)))) kj kj rfl (fun W => by kernel_rfl) ?_
  refine Qay (.pointer (some ⟨g8, 1, none⟩)) kj kj rfl (fun W => by kernel_rfl) ?_
  refine Qbb rfl ?_
  refine Qay (.pointer (some ⟨g8, 5, none⟩)) kj kj rfl (fun W => by kernel_rfl) ?_
  refine Qbb rfl ?_
  refine Qay (.pointer (some ⟨g8, 9, none⟩)) kj kj rfl (fun W => by kernel_rfl) ?_
  refine Qbb rfl ?_
  refine Qay (.pointer (some ⟨g8, 13, none⟩)) kj kj rfl (fun W => by kernel_rfl) ?_
  refine Qbb rfl ?_
  refine Qe5 (hF _ kj fun W16 e16 => ?_)
  simp only [List.nil_append, List.cons_append, fins, up]
  clear hF
  have x16 : Ext w W16 := Ext.tr x15 e16
  have r8_16 := (Qad r8_15 e16)
  have r27_16 := (Qad r27_15 e16)
  refine QaQ _ g8 _ (ints .u32 ((x1.map wv).set 1 (wv (qA2 (wget x1 1) (wget x1 5) (wget x1 9) (wget x1 13))))) 88 r8_16 rfl (Qan 87 _ _ g8 1 88 _ _ r8_16 rfl kj kj kj (Nat.lt_of_lt_of_eq (show 1 < 16 by decide) (Qa9 h1).symm)) (fun W hp => Puts.row hp r27_16 (Qat r8_13_22 l27)) fun W17 p17 r8_17 => ?_
  have x17 : Ext w W17 := Puts.ext p17 x16 b8
  have r27_17 := (Puts.row p17 r27_16 (Qat r8_13_22 l27))
  refine QaQ _ g8 _ (ints .u32 (((x1.map wv).set 1 (wv (qA2 (wget x1 1) (wget x1 5) (wget x1 9) (wget x1 13)))).set 5 (wv (qB2 (wget x1 1) (wget x1 5) (wget x1 9) (wget x1 13))))) 88 r8_17 rfl (Qan 87 _ _ g8 5 88 _ _ r8_17 rfl kj kj kj (Nat.lt_of_lt_of_eq (show 5 < 16 by decide) ((List.length_set ..).trans (Qa9 h1)).symm)) (fun W hp => Puts.row hp r27_17 (Qat r8_13_22 l27)) fun W18 p18 r8_18 => ?_
  have x18 : Ext w W18 := Puts.ext p18 x17 b8
  have r27_18 := (Puts.row p18 r27_17 (Qat r8_13_22 l27))
  refine QaQ _ g8 _ (ints .u32 ((((x1.map wv).set 1 (wv (qA2 (wget x1 1) (wget x1 5) (wget x1 9) (wget x1 13)))).set 5 (wv (qB2 (wget x1 1) (wget x1 5) (wget x1 9) (wget x1 13)))).set 9 (wv (qC2 (wget x1 1) (wget x1 5) (wget x1 9) (wget x1 13))))) 88 r8_18 rfl (Qan 87 _ _ g8 9 88 _ _ r8_18 rfl kj kj kj (Nat.lt_of_lt_of_eq (show 9 < 16 by decide) ((List.length_set ..).trans ((List.length_set ..).trans (Qa9 h1))).symm)) (fun W hp => Puts.row hp r27_18 (Qat r8_13_22 l27)) fun W19 p19 r8_19 => ?_
  have x19 : Ext w W19 := Puts.ext p19 x18 b8
  have r27_19 := (Puts.row p19 r27_18 (Qat r8_13_22 l27))
  refine QaQ _ g8 _ (ints .u32 (((((x1.map wv).set 1 (wv (qA2 (wget x1 1) (wget x1 5) (wget x1 9) (wget x1 13)))).set 5 (wv (qB2 (wget x1 1) (wget x1 5) (wget x1 9) (wget x1 13)))).set 9 (wv (qC2 (wget x1 1) (wget x1 5) (wget x1 9) (wget x1 13)))).set 13 (wv (qD2 (wget x1 1) (wget x1 5) (wget x1 9) (wget x1 13))))) 88 r8_19 rfl (Qan 87 _ _ g8 13 88 _ _ r8_19 rfl kj kj kj (Nat.lt_of_lt_of_eq (show 13 < 16 by decide) ((List.length_set ..).trans ((List.length_set ..).trans ((List.length_set ..).trans (Qa9 h1)))).symm)) (fun W hp => Puts.row hp r27_19 (Qat r8_13_22 l27)) fun W20 p20 r8_20 => ?_
  have x20 : Ext w W20 := Puts.ext p20 x19 b8
  refine Qdl ?_
  obtain ⟨x2, ex2⟩ : ∃ z : List Wd, z = qrt x1 1 5 9 13 := ⟨_, rfl⟩
  have h2 : x2.length = 16 := by rw [ex2, QbM, h1]
  have r8_20_28 : W20.heap[g8]? = some (.cells (ints .u32 (x2.map wv)) 88) := QaO r8_20 (by rw [ex2]; unfold qrt; simp only [List.map_set])
  refine hK25 _ _ ?_
  refine Qab ?_
  refine Qaa (.int .i64 2) 56 rfl kj kj ?_
  refine Qaa (.int .i64 2) 19 rfl kj kj ?_
  refine Qac ?_
  show Code.rounds _ _ _ 7 _ _
  show Code.wp _ _ (Exit.then (Code.rounds _ _ _ 6) _) _ _
  refine wp_seq_k fun K29 hK29 => ?_
  refine Qab ?_
  refine Qaa (.bool true) 20 rfl kj kj ?_
  refine Qac ?_
  refine hK29 _ _ ?_
  refine wp_seq_k fun K30 hK30 => ?_
  refine cond_true kj ?_
  refine wp_skip ?_
  refine hK30 _ _ ?_
  refine wp_seq_k fun K31 hK31 => ?_
  refine wp_block ?_
  refine wp_seq_k fun K32 hK32 => ?_
  refine Qab ?_
  refine Qaa (.agg (ints .i64 ([2, 6, 10, 14]))) 21 rfl kj kj ?_
  refine Qar ((Array.replicate 4 (.int .i64 0))) 68 7 rfl kj kj fun g33 W21 l33 e21 r33_21 => ?_
  have x21 : Ext w W21 := Ext.tr x20 e21
  have b33 : w.heap.size ≤ g33 := Nat.le_trans x20.size l33
  refine Qal g33 _ (ints .i64 ([2, 6, 10, 14])) 68 r33_21 rfl kj (Qap 68 _ _ g33 68 _ _ r33_21 rfl kj kj (isz (n := 4) kj kj) (eqsz (n := 4) kj kj) (QaB _ _)) fun W22 p22 r33_22 => ?_
  have x22 : Ext w W22 := Puts.ext p22 x21 b33
  refine Qac ?_
  refine hK32 _ _ ?_
  refine Qb3 (fun W => W.heap[g33]? = some (.cells (ints .i64 ([2, 6, 10, 14])) 68)) [⟨none, [(7, none)]⟩, ⟨none, [(23, some 0)]⟩, ⟨none, [(7, none)]⟩, ⟨none, [(25, some 2)]⟩, ⟨none, [(7, none)]⟩, ⟨none, [(27, some 4)]⟩, ⟨none, [(7, none)]⟩, ⟨none, [(29, some 6)]⟩, ⟨none, [(7, none)]⟩, ⟨none, [(31, some 8)]⟩, ⟨none, [(5, none), (32, some 9)]⟩, ⟨none, [(33, some 10)]⟩, ⟨none, [(7, none)]⟩, ⟨none, [(35, some 12)]⟩, ⟨none, [(5, none), (36, some 13)]⟩, ⟨none, [(37, some 14)]⟩, ⟨none, [(7, none)]⟩, ⟨none, [(39, some 16)]⟩, ⟨none, [(5, none), (40, some 17)]⟩, ⟨none, [(41, some 18)]⟩, ⟨none, [(7, none)]⟩, ⟨none, [(43, some 20)]⟩, ⟨none, [(5, none), (44, some 21)]⟩, ⟨none, [(45, some 22)]⟩, ⟨none, [(34, some 11), (38, some 15), (42, some 19), (46, some 23)]⟩, ⟨none, [(47, some 24)]⟩, ⟨none, [(22, some 25)]⟩, ⟨none, [(22, some 25)]⟩, ⟨none, [(22, some 25)]⟩, ⟨none, [(22, some 25)]⟩, ⟨none, [(5, none), (24, some 1)]⟩, ⟨none, [(52, some 30), (48, some 26)]⟩, ⟨none, [(5, none), (26, some 3)]⟩, ⟨none, [(53, some 32), (49, some 27)]⟩, ⟨none, [(5, none), (28, some 5)]⟩, ⟨none, [(54, some 34), (50, some 28)]⟩, ⟨none, [(5, none), (30, some 7)]⟩, ⟨none, [(55, some 36), (51, some 29)]⟩] [] [2, 3, 4, 5, 6, 7, 27, 28, 29, 32, 34, 36] kj kj kj (fun W hR => Qad r33_22 hR) fun F hF => ?_
  refine Qay (.pointer (some ⟨g33, 0, none⟩)) kj kj rfl (fun W => by kernel_rfl) ?_
  refine QaK (.int .i64 2) kj kj kj rfl (fun W hR => (Qae 3 _ g33 0 68 _ (.int .i64 2) _ (Qad (Qad r33_22 (Qai _)) hR) rfl kj kj kj)) ?_
  refine Qay (.pointer (some ⟨g33, 1, none⟩)) kj kj rfl (fun W => by kernel_rfl) ?_
  refine Qbz (.int .i64 6) kj kj kj rfl (fun W hW => (Qae 3 _ g33 1 68 _ (.int .i64 6) _ hW rfl kj kj kj)) ?_
  refine Qay (.pointer (some ⟨g33, 2, none⟩)) kj kj rfl (fun W => by kernel_rfl) ?_
  refine Qbz (.int .i64 10) kj kj kj rfl (fun W hW => (Qae 3 _ g33 2 68 _ (.int .i64 10) _ hW rfl kj kj kj)) ?_
  refine Qay (.pointer (some ⟨g33, 3, none⟩)) kj kj rfl (fun W => by kernel_rfl) ?_
  refine Qbz (.int .i64 14) kj kj kj rfl (fun W hW => (Qae 3 _ g33 3 68 _ (.int .i64 14) _ hW rfl kj kj kj)) ?_
  refine Qay (.pointer (some ⟨g33, 0, none⟩)) kj kj rfl (fun W => by kernel_rfl) ?_
  refine QaK (.int .i64 2) kj kj kj rfl (fun W hR => (Qae 3 _ g33 0 68 _ (.int .i64 2) _ (Qad (Qad r33_22 (Qai _)) hR) rfl kj kj kj)) ?_
  refine Qay (.pointer (some ⟨g8, 2, none⟩)) kj kj rfl (fun W => by kernel_rfl) ?_
  have r8_21 := (Qad r8_20_28 e21)
  have r8_22 := (Puts.row p22 r8_21 (Qag r8_20_28 l33))
  refine QaK (.int .u32 (wv (wget x2 2))) kj kj kj rfl (fun W hR => (Qae 87 _ g8 2 88 _ (.int .u32 (wv (wget x2 2))) _ (Qad (Qad r8_22 (Qai _)) hR) rfl kj ((Qa7 _ _ _ (Nat.lt_of_lt_of_eq (by decide) (Qa9 h2).symm)).trans (congrArg (fun z => some (Value.int .u32 z)) (QaM x2 2))) kj)) ?_
  refine Qay (.pointer (some ⟨g33, 1, none⟩)) kj kj rfl (fun W => by kernel_rfl) ?_
  refine QaK (.int .i64 6) kj kj kj rfl (fun W hR => (Qae 3 _ g33 1 68 _ (.int .i64 6) _ (Qad (Qad r33_22 (Qai _)) hR) rfl kj kj kj)) ?_
  refine Qay (.pointer (some ⟨g8, 6, none⟩)) kj kj rfl (fun W => by kernel_rfl) ?_
  refine QaK (.int .u32 (wv (wget x2 6))) kj kj kj rfl (fun W hR => (Qae 87 _ g8 6 88 _ (.int .u32 (wv (wget x2 6))) _ (Qad (Qad r8_22 (Qai _)) hR) rfl kj ((Qa7 _ _ _ (Nat.lt_of_lt_of_eq (by decide) (Qa9 h2).symm)).trans (congrArg (fun z => some (Value.int .u32 z)) (QaM x2 6))) kj)) ?_
  refine Qay (.pointer (some ⟨g33, 2, none⟩)) kj kj rfl (fun W => by kernel_rfl) ?_
  refine QaK (.int .i64 10) kj kj kj rfl (fun W hR => (Qae 3 _ g33 2 68 _ (.int .i64 10) _ (Qad (Qad r33_22 (Qai _)) hR) rfl kj kj kj)) ?_
  refine Qay (.pointer (some ⟨g8, 10, none⟩)) kj kj rfl (fun W => by kernel_rfl) ?_
  refine QaK (.int .u32 (wv (wget x2 10))) kj kj kj rfl (fun W hR => (Qae 87 _ g8 10 88 _ (.int .u32 (wv (wget x2 10))) _ (Qad (Qad r8_22 (Qai _)) hR) rfl kj ((Qa7 _ _ _ (Nat.lt_of_lt_of_eq (by decide) (Qa9 h2).symm)).trans (congrArg (fun z => some (Value.int .u32 z)) (QaM x2 10))) kj)) ?_
  refine Qay (.pointer (some ⟨g33, 3, none⟩)) kj kj rfl (fun W => by kernel_rfl) ?_
  refine QaK (.int .i64 14) kj kj kj rfl (fun W hR => (Qae 3 _ g33 3 68 _ (.int .i64 14) _ (Qad (Qad r33_22 (Qai _)) hR) rfl kj kj kj)) ?_
  refine Qay (.pointer (some ⟨g8, 14, none⟩)) kj kj rfl (fun W => by kernel_rfl) ?_
  refine QaK (.int .u32 (wv (wget x2 14))) kj kj kj rfl (fun W hR => (Qae 87 _ g8 14 88 _ (.int .u32 (wv (wget x2 14))) _ (Qad (Qad r8_22 (Qai _)) hR) rfl kj ((Qa7 _ _ _ (Nat.lt_of_lt_of_eq (by decide) (Qa9 h2).symm)).trans (congrArg (fun z => some (Value.int .u32 z)) (QaM x2 14))) kj)) ?_
  refine Qef (.tuple #[.int .u32 (wv (qA2 (wget x2 2) (wget x2 6) (wget x2 10) (wget x2 14))), .int .u32 (wv (qB2 (wget x2 2) (wget x2 6) (wget x2 10) (wget x2 14))), .int .u32 (wv (qC2 (wget x2 2) (wget x2 6) (wget x2 10) (wget x2 14))), .int .u32 (wv (qD2 (wget x2 2) (wget x2 6) (wget x2 10) (wget x2 14)))]) 58 #[.int .u32 (wv (wget x2 2)), .int .u32 (wv (wget x2 6)), .int .u32 (wv (wget x2 10)), .int .u32 (wv (wget x2 14))] kj kj kj rfl (fun W => by kernel_rfl) (fun W hR => (QcN (wget x2 2) (wget x2 6) (wget x2 10) (wget x2 14)) W) ?_
  refine Qay (.tuple #[.int .u32 (wv (qA2 (wget x2 2) (wget x2 6) (wget x2 10) (wget x2 14))), .int .u32 (wv (qB2 (wget x2 2) (wget x2 6) (wget x2 10) (wget x2 14))), .int .u32 (wv (qC2 (wget x2 2) (wget x2 6) (wget x2 10) (wget x2 14))), .int .u32 (wv (qD2 (wget x2 2) (wget x2 6) (wget x2 10) (wget x2 14)))]) kj kj rfl (fun W => by kernel_rfl) ?_
  refine Qay (.int .u32 (wv (qA2 (wget x2 2) (wget x2 6) (wget x2 10) (wget x2 14)))) kj kj rfl (fun W => by kernel_rfl) ?_
  refine Qay (.int .u32 (wv (qB2 (wget x2 2) (wget x2 6) (wget x2 10) (wget x2 14)))) kj kj rfl (fun W => by kernel_rfl) ?_
  refine Qay (.int .u32 (wv (qC2 (wget x2 2) (wget x2 6) (wget x2 10) (wget x2 14)))) kj kj rfl (fun W => by kernel_rfl) ?_
  refine Qay (.int .u32 (wv (qD2 (wget x2 2) (wget x2 6) (wget x2 10) (wget x2 14)))) kj kj rfl (fun W => by kernel_rfl) ?_
  refine Qay (.pointer (some ⟨g8, 2, none⟩)) kj kj rfl (fun W => by kernel_rfl) ?_
  refine Qbb rfl ?_
  refine Qay (.pointer (some ⟨g8, 6, none⟩)) kj kj rfl (fun W => by kernel_rfl) ?_
  refine Qbb rfl ?_
  refine Qay (.pointer (some ⟨g8, 10, none⟩)) kj kj rfl (fun W => by kernel_rfl) ?_
  refine Qbb rfl ?_
  refine Qay (.pointer (some ⟨g8, 14, none⟩)) kj kj rfl (fun W => by kernel_rfl) ?_
  refine Qbb rfl ?_
  refine Qe5 (hF _ kj fun W23 e23 => ?_)
  simp only [List.nil_append, List.cons_append, fins, up]
  clear hF
  have x23 : Ext w W23 := Ext.tr x22 e23
  have r8_23 := (Qad r8_22 e23)
  have r33_23 := (Qad r33_22 e23)
  refine QaQ _ g8 _ (ints .u32 ((x2.map wv).set 2 (wv (qA2 (wget x2 2) (wget x2 6) (wget x2 10) (wget x2 14))))) 88 r8_23 rfl (Qan 87 _ _ g8 2 88 _ _ r8_23 rfl kj kj kj (Nat.lt_of_lt_of_eq (show 2 < 16 by decide) (Qa9 h2).symm)) (fun W hp => Puts.row hp r33_23 (Qat r8_20_28 l33)) fun W24 p24 r8_24 => ?_
  have x24 : Ext w W24 := Puts.ext p24 x23 b8
  have r33_24 := (Puts.row p24 r33_23 (Qat r8_20_28 l33))
  refine QaQ _ g8 _ (ints .u32 (((x2.map wv).set 2 (wv (qA2 (wget x2 2) (wget x2 6) (wget x2 10) (wget x2 14)))).set 6 (wv (qB2 (wget x2 2) (wget x2 6) (wget x2 10) (wget x2 14))))) 88 r8_24 rfl (Qan 87 _ _ g8 6 88 _ _ r8_24 rfl kj kj kj (Nat.lt_of_lt_of_eq (show 6 < 16 by decide) ((List.length_set ..).trans (Qa9 h2)).symm)) (fun W hp => Puts.row hp r33_24 (Qat r8_20_28 l33)) fun W25 p25 r8_25 => ?_
  have x25 : Ext w W25 := Puts.ext p25 x24 b8
  have r33_25 := (Puts.row p25 r33_24 (Qat r8_20_28 l33))
  refine QaQ _ g8 _ (ints .u32 ((((x2.map wv).set 2 (wv (qA2 (wget x2 2) (wget x2 6) (wget x2 10) (wget x2 14)))).set 6 (wv (qB2 (wget x2 2) (wget x2 6) (wget x2 10) (wget x2 14)))).set 10 (wv (qC2 (wget x2 2) (wget x2 6) (wget x2 10) (wget x2 14))))) 88 r8_25 rfl (Qan 87 _ _ g8 10 88 _ _ r8_25 rfl kj kj kj (Nat.lt_of_lt_of_eq (show 10 < 16 by decide) ((List.length_set ..).trans ((List.length_set ..).trans (Qa9 h2))).symm)) (fun W hp => Puts.row hp r33_25 (Qat r8_20_28 l33)) fun W26 p26 r8_26 => ?_
  have x26 : Ext w W26 := Puts.ext p26 x25 b8
  have r33_26 := (Puts.row p26 r33_25 (Qat r8_20_28 l33))
  refine QaQ _ g8 _ (ints .u32 (((((x2.map wv).set 2 (wv (qA2 (wget x2 2) (wget x2 6) (wget x2 10) (wget x2 14)))).set 6 (wv (qB2 (wget x2 2) (wget x2 6) (wget x2 10) (wget x2 14)))).set 10 (wv (qC2 (wget x2 2) (wget x2 6) (wget x2 10) (wget x2 14)))).set 14 (wv (qD2 (wget x2 2) (wget x2 6) (wget x2 10) (wget x2 14))))) 88 r8_26 rfl (Qan 87 _ _ g8 14 88 _ _ r8_26 rfl kj kj kj (Nat.lt_of_lt_of_eq (show 14 < 16 by decide) ((List.length_set ..).trans ((List.length_set ..).trans ((List.length_set ..).trans (Qa9 h2)))).symm)) (fun W hp => Puts.row hp r33_26 (Qat r8_20_28 l33)) fun W27 p27 r8_27 => ?_
  have x27 : Ext w W27 := Puts.ext p27 x26 b8
  refine Qdl ?_
  obtain ⟨x3, ex3⟩ : ∃ z : List Wd, z = qrt x2 2 6 10 14 := ⟨_, rfl⟩
  have h3 : x3.length = 16 := by rw [ex3, QbM, h2]
  have r8_27_34 : W27.heap[g8]? = some (.cells (ints .u32 (x3.map wv)) 88) := QaO r8_27 (by rw [ex3]; unfold qrt; simp only [List.map_set])
  refine hK31 _ _ ?_
  refine Qab ?_
  refine Qaa (.int .i64 3) 56 rfl kj kj ?_
  refine Qaa (.int .i64 3) 19 rfl kj kj ?_
  refine Qac ?_
  show Code.rounds _ _ _ 6 _ _
  show Code.wp _ _ (Exit.then (Code.rounds _ _ _ 5) _) _ _
  refine wp_seq_k fun K35 hK35 => ?_
  refine Qab ?_
  refine Qaa (.bool true) 20 rfl kj kj ?_
  refine Qac ?_
  refine hK35 _ _ ?_
  refine wp_seq_k fun K36 hK36 => ?_
  refine cond_true kj ?_
  refine wp_skip ?_
  refine hK36 _ _ ?_
  refine wp_seq_k fun K37 hK37 => ?_
  refine wp_block ?_
  refine wp_seq_k fun K38 hK38 => ?_
  refine Qab ?_
  refine Qaa (.agg (ints .i64 ([3, 7, 11, 15]))) 21 rfl kj kj ?_
  refine Qar ((Array.replicate 4 (.int .i64 0))) 68 7 rfl kj kj fun g39 W28 l39 e28 r39_28 => ?_
  have x28 : Ext w W28 := Ext.tr x27 e28
  have b39 : w.heap.size ≤ g39 := Nat.le_trans x27.size l39
  refine Qal g39 _ (ints .i64 ([3, 7, 11, 15])) 68 r39_28 rfl kj (Qap 68 _ _ g39 68 _ _ r39_28 rfl kj kj (isz (n := 4) kj kj) (eqsz (n := 4) kj kj) (QaB _ _)) fun W29 p29 r39_29 => ?_
  have x29 : Ext w W29 := Puts.ext p29 x28 b39
  refine Qac ?_
  refine hK38 _ _ ?_
  refine Qb3 (fun W => W.heap[g39]? = some (.cells (ints .i64 ([3, 7, 11, 15])) 68)) [⟨none, [(7, none)]⟩, ⟨none, [(23, some 0)]⟩, ⟨none, [(7, none)]⟩, ⟨none, [(25, some 2)]⟩, ⟨none, [(7, none)]⟩, ⟨none, [(27, some 4)]⟩, ⟨none, [(7, none)]⟩, ⟨none, [(29, some 6)]⟩, ⟨none, [(7, none)]⟩, ⟨none, [(31, some 8)]⟩, ⟨none, [(5, none), (32, some 9)]⟩, ⟨none, [(33, some 10)]⟩, ⟨none, [(7, none)]⟩, ⟨none, [(35, some 12)]⟩, ⟨none, [(5, none), (36, some 13)]⟩, ⟨none, [(37, some 14)]⟩, ⟨none, [(7, none)]⟩, ⟨none, [(39, some 16)]⟩, ⟨none, [(5, none), (40, some 17)]⟩, ⟨none, [(41, some 18)]⟩, ⟨none, [(7, none)]⟩, ⟨none, [(43, some 20)]⟩, ⟨none, [(5, none), (44, some 21)]⟩, ⟨none, [(45, some 22)]⟩, ⟨none, [(34, some 11), (38, some 15), (42, some 19), (46, some 23)]⟩, ⟨none, [(47, some 24)]⟩, ⟨none, [(22, some 25)]⟩, ⟨none, [(22, some 25)]⟩, ⟨none, [(22, some 25)]⟩, ⟨none, [(22, some 25)]⟩, ⟨none, [(5, none), (24, some 1)]⟩, ⟨none, [(52, some 30), (48, some 26)]⟩, ⟨none, [(5, none), (26, some 3)]⟩, ⟨none, [(53, some 32), (49, some 27)]⟩, ⟨none, [(5, none), (28, some 5)]⟩, ⟨none, [(54, some 34), (50, some 28)]⟩, ⟨none, [(5, none), (30, some 7)]⟩, ⟨none, [(55, some 36), (51, some 29)]⟩] [] [2, 3, 4, 5, 6, 7, 27, 28, 29, 32, 34, 36] kj kj kj (fun W hR => Qad r39_29 hR) fun F hF => ?_
  refine Qay (.pointer (some ⟨g39, 0, none⟩)) kj kj rfl (fun W => by kernel_rfl) ?_
  refine QaK (.int .i64 3) kj kj kj rfl (fun W hR => (Qae 3 _ g39 0 68 _ (.int .i64 3) _ (Qad (Qad r39_29 (Qai _)) hR) rfl kj kj kj)) ?_
  refine Qay (.pointer (some ⟨g39, 1, none⟩)) kj kj rfl (fun W => by kernel_rfl) ?_
  refine Qbz (.int .i64 7) kj kj kj rfl (fun W hW => (Qae 3 _ g39 1 68 _ (.int .i64 7) _ hW rfl kj kj kj)) ?_
  refine Qay (.pointer (some ⟨g39, 2, none⟩)) kj kj rfl (fun W => by kernel_rfl) ?_
  refine Qbz (.int .i64 11) kj kj kj rfl (fun W hW => (Qae 3 _ g39 2 68 _ (.int .i64 11) _ hW rfl kj kj kj)) ?_
  refine Qay (.pointer (some ⟨g39, 3, none⟩)) kj kj rfl (fun W => by kernel_rfl) ?_
  refine Qbz (.int .i64 15) kj kj kj rfl (fun W hW => (Qae 3 _ g39 3 68 _ (.int .i64 15) _ hW rfl kj kj kj)) ?_
  refine Qay (.pointer (some ⟨g39, 0, none⟩)) kj kj rfl (fun W => by kernel_rfl) ?_
  refine QaK (.int .i64 3) kj kj kj rfl (fun W hR => (Qae 3 _ g39 0 68 _ (.int .i64 3) _ (Qad (Qad r39_29 (Qai _)) hR) rfl kj kj kj)) ?_
  refine Qay (.pointer (some ⟨g8, 3, none⟩)) kj kj rfl (fun W => by kernel_rfl) ?_
  have r8_28 := (Qad r8_27_34 e28)
  have r8_29 := (Puts.row p29 r8_28 (Qag r8_27_34 l39))
  refine QaK (.int .u32 (wv (wget x3 3))) kj kj kj rfl (fun W hR => (Qae 87 _ g8 3 88 _ (.int .u32 (wv (wget x3 3))) _ (Qad (Qad r8_29 (Qai _)) hR) rfl kj ((Qa7 _ _ _ (Nat.lt_of_lt_of_eq (by decide) (Qa9 h3).symm)).trans (congrArg (fun z => some (Value.int .u32 z)) (QaM x3 3))) kj)) ?_
  refine Qay (.pointer (some ⟨g39, 1, none⟩)) kj kj rfl (fun W => by kernel_rfl) ?_
  refine QaK (.int .i64 7) kj kj kj rfl (fun W hR => (Qae 3 _ g39 1 68 _ (.int .i64 7) _ (Qad (Qad r39_29 (Qai _)) hR) rfl kj kj kj)) ?_
  refine Qay (.pointer (some ⟨g8, 7, none⟩)) kj kj rfl (fun W => by kernel_rfl) ?_
  refine QaK (.int .u32 (wv (wget x3 7))) kj kj kj rfl (fun W hR => (Qae 87 _ g8 7 88 _ (.int .u32 (wv (wget x3 7))) _ (Qad (Qad r8_29 (Qai _)) hR) rfl kj ((Qa7 _ _ _ (Nat.lt_of_lt_of_eq (by decide) (Qa9 h3).symm)).trans (congrArg (fun z => some (Value.int .u32 z)) (QaM x3 7))) kj)) ?_
  refine Qay (.pointer (some ⟨g39, 2, none⟩)) kj kj rfl (fun W => by kernel_rfl) ?_
  refine QaK (.int .i64 11) kj kj kj rfl (fun W hR => (Qae 3 _ g39 2 68 _ (.int .i64 11) _ (Qad (Qad r39_29 (Qai _)) hR) rfl kj kj kj)) ?_
  refine Qay (.pointer (some ⟨g8, 11, none⟩)) kj kj rfl (fun W => by kernel_rfl) ?_
  refine QaK (.int .u32 (wv (wget x3 11))) kj kj kj rfl (fun W hR => (Qae 87 _ g8 11 88 _ (.int .u32 (wv (wget x3 11))) _ (Qad (Qad r8_29 (Qai _)) hR) rfl kj ((Qa7 _ _ _ (Nat.lt_of_lt_of_eq (by decide) (Qa9 h3).symm)).trans (congrArg (fun z => some (Value.int .u32 z)) (QaM x3 11))) kj)) ?_
  refine Qay (.pointer (some ⟨g39, 3, none⟩)) kj kj rfl (fun W => by kernel_rfl) ?_
  refine QaK (.int .i64 15) kj kj kj rfl (fun W hR => (Qae 3 _ g39 3 68 _ (.int .i64 15) _ (Qad (Qad r39_29 (Qai _)) hR) rfl kj kj kj)) ?_
  refine Qay (.pointer (some ⟨g8, 15, none⟩)) kj kj rfl (fun W => by kernel_rfl) ?_
  refine QaK (.int .u32 (wv (wget x3 15))) kj kj kj rfl (fun W hR => (Qae 87 _ g8 15 88 _ (.int .u32 (wv (wget x3 15))) _ (Qad (Qad r8_29 (Qai _)) hR) rfl kj ((Qa7 _ _ _ (Nat.lt_of_lt_of_eq (by decide) (Qa9 h3).symm)).trans (congrArg (fun z => some (Value.int .u32 z)) (QaM x3 15))) kj)) ?_
  refine Qef (.tuple #[.int .u32 (wv (qA2 (wget x3 3) (wget x3 7) (wget x3 11) (wget x3 15))), .int .u32 (wv (qB2 (wget x3 3) (wget x3 7) (wget x3 11) (wget x3 15))), .int .u32 (wv (qC2 (wget x3 3) (wget x3 7) (wget x3 11) (wget x3 15))), .int .u32 (wv (qD2 (wget x3 3) (wget x3 7) (wget x3 11) (wget x3 15)))]) 58 #[.int .u32 (wv (wget x3 3)), .int .u32 (wv (wget x3 7)), .int .u32 (wv (wget x3 11)), .int .u32 (wv (wget x3 15))] kj kj kj rfl (fun W => by kernel_rfl) (fun W hR => (QcN (wget x3 3) (wget x3 7) (wget x3 11) (wget x3 15)) W) ?_
  refine Qay (.tuple #[.int .u32 (wv (qA2 (wget x3 3) (wget x3 7) (wget x3 11) (wget x3 15))), .int .u32 (wv (qB2 (wget x3 3) (wget x3 7) (wget x3 11) (wget x3 15))), .int .u32 (wv (qC2 (wget x3 3) (wget x3 7) (wget x3 11) (wget x3 15))), .int .u32 (wv (qD2 (wget x3 3) (wget x3 7) (wget x3 11) (wget x3 15)))]) kj kj rfl (fun W => by kernel_rfl) ?_
  refine Qay (.int .u32 (wv (qA2 (wget x3 3) (wget x3 7) (wget x3 11) (wget x3 15)))) kj kj rfl (fun W => by kernel_rfl) ?_
  refine Qay (.int .u32 (wv (qB2 (wget x3 3) (wget x3 7) (wget x3 11) (wget x3 15)))) kj kj rfl (fun W => by kernel_rfl) ?_
  refine Qay (.int .u32 (wv (qC2 (wget x3 3) (wget x3 7) (wget x3 11) (wget x3 15)))) kj kj rfl (fun W => by kernel_rfl) ?_
  refine Qay (.int .u32 (wv (qD2 (wget x3 3) (wget x3 7) (wget x3 11) (wget x3 15)))) kj kj rfl (fun W => by kernel_rfl) ?_
  refine Qay (.pointer (some ⟨g8, 3, none⟩)) kj kj rfl (fun W => by kernel_rfl) ?_
  refine Qbb rfl ?_
  refine Qay (.pointer (some ⟨g8, 7, none⟩)) kj kj rfl (fun W => by kernel_rfl) ?_
  refine Qbb rfl ?_
  refine Qay (.pointer (some ⟨g8, 11, none⟩)) kj kj rfl (fun W => by kernel_rfl) ?_
  refine Qbb rfl ?_
  refine Qay (.pointer (some ⟨g8, 15, none⟩)) kj kj rfl (fun W => by kernel_rfl) ?_
  refine Qbb rfl ?_
  refine Qe5 (hF _ kj fun W30 e30 => ?_)
  simp only [List.nil_append, List.cons_append, fins, up]
  clear hF
  have x30 : Ext w W30 := Ext.tr x29 e30
  have r8_30 := (Qad r8_29 e30)
  have r39_30 := (Qad r39_29 e30)
  refine QaQ _ g8 _ (ints .u32 ((x3.map wv).set 3 (wv (qA2 (wget x3 3) (wget x3 7) (wget x3 11) (wget x3 15))))) 88 r8_30 rfl (Qan 87 _ _ g8 3 88 _ _ r8_30 rfl kj kj kj (Nat.lt_of_lt_of_eq (show 3 < 16 by decide) (Qa9 h3).symm)) (fun W hp => Puts.row hp r39_30 (Qat r8_27_34 l39)) fun W31 p31 r8_31 => ?_
  have x31 : Ext w W31 := Puts.ext p31 x30 b8
  have r39_31 := (Puts.row p31 r39_30 (Qat r8_27_34 l39))
  refine QaQ _ g8 _ (ints .u32 (((x3.map wv).set 3 (wv (qA2 (wget x3 3) (wget x3 7) (wget x3 11) (wget x3 15)))).set 7 (wv (qB2 (wget x3 3) (wget x3 7) (wget x3 11) (wget x3 15))))) 88 r8_31 rfl (Qan 87 _ _ g8 7 88 _ _ r8_31 rfl kj kj kj (Nat.lt_of_lt_of_eq (show 7 < 16 by decide) ((List.length_set ..).trans (Qa9 h3)).symm)) (fun W hp => Puts.row hp r39_31 (Qat r8_27_34 l39)) fun W32 p32 r8_32 => ?_
  have x32 : Ext w W32 := Puts.ext p32 x31 b8
  have r39_32 := (Puts.row p32 r39_31 (Qat r8_27_34 l39))
  refine QaQ _ g8 _ (ints .u32 ((((x3.map wv).set 3 (wv (qA2 (wget x3 3) (wget x3 7) (wget x3 11) (wget x3 15)))).set 7 (wv (qB2 (wget x3 3) (wget x3 7) (wget x3 11) (wget x3 15)))).set 11 (wv (qC2 (wget x3 3) (wget x3 7) (wget x3 11) (wget x3 15))))) 88 r8_32 rfl (Qan 87 _ _ g8 11 88 _ _ r8_32 rfl kj kj kj (Nat.lt_of_lt_of_eq (show 11 < 16 by decide) ((List.length_set ..).trans ((List.length_set ..).trans (Qa9 h3))).symm)) (fun W hp => Puts.row hp r39_32 (Qat r8_27_34 l39)) fun W33 p33 r8_33 => ?_
  have x33 : Ext w W33 := Puts.ext p33 x32 b8
  have r39_33 := (Puts.row p33 r39_32 (Qat r8_27_34 l39))
  refine QaQ _ g8 _ (ints .u32 (((((x3.map wv).set 3 (wv (qA2 (wget x3 3) (wget x3 7) (wget x3 11) (wget x3 15)))).set 7 (wv (qB2 (wget x3 3) (wget x3 7) (wget x3 11) (wget x3 15)))).set 11 (wv (qC2 (wget x3 3) (wget x3 7) (wget x3 11) (wget x3 15)))).set 15 (wv (qD2 (wget x3 3) (wget x3 7) (wget x3 11) (wget x3 15))))) 88 r8_33 rfl (Qan 87 _ _ g8 15 88 _ _ r8_33 rfl kj kj kj (Nat.lt_of_lt_of_eq (show 15 < 16 by decide) ((List.length_set ..).trans ((List.length_set ..).trans ((List.length_set ..).trans (Qa9 h3)))).symm)) (fun W hp => Puts.row hp r39_33 (Qat r8_27_34 l39)) fun W34 p34 r8_34 => ?_
  have x34 : Ext w W34 := Puts.ext p34 x33 b8
  refine Qdl ?_
  obtain ⟨x4, ex4⟩ : ∃ z : List Wd, z = qrt x3 3 7 11 15 := ⟨_, rfl⟩
  have h4 : x4.length = 16 := by rw [ex4, QbM, h3]
  have r8_34_40 : W34.heap[g8]? = some (.cells (ints .u32 (x4.map wv)) 88) := QaO r8_34 (by rw [ex4]; unfold qrt; simp only [List.map_set])
  refine hK37 _ _ ?_
  refine Qab ?_
  refine Qaa (.int .i64 4) 56 rfl kj kj ?_
  refine Qaa (.int .i64 4) 19 rfl kj kj ?_
  refine Qac ?_
  show Code.rounds _ _ _ 5 _ _
  show Code.wp _ _ (Exit.then (Code.rounds _ _ _ 4) _) _ _
  refine wp_seq_k fun K41 hK41 => ?_
  refine Qab ?_
  refine Qaa (.bool true) 20 rfl kj kj ?_
  refine Qac ?_
  refine hK41 _ _ ?_
  refine wp_seq_k fun K42 hK42 => ?_
  refine cond_true kj ?_
  refine wp_skip ?_
  refine hK42 _ _ ?_
  refine wp_seq_k fun K43 hK43 => ?_
  refine wp_block ?_
  refine wp_seq_k fun K44 hK44 => ?_
  refine Qab ?_
  refine Qaa (.agg (ints .i64 ([0, 5, 10, 15]))) 21 rfl kj kj ?_
  refine Qar ((Array.replicate 4 (.int .i64 0))) 68 7 rfl kj kj fun g45 W35 l45 e35 r45_35 => ?_
  have x35 : Ext w W35 := Ext.tr x34 e35
  have b45 : w.heap.size ≤ g45 := Nat.le_trans x34.size l45
  refine Qal g45 _ (ints .i64 ([0, 5, 10, 15])) 68 r45_35 rfl kj (Qap 68 _ _ g45 68 _ _ r45_35 rfl kj kj (isz (n := 4) kj kj) (eqsz (n := 4) kj kj) (QaB _ _)) fun W36 p36 r45_36 => ?_
  have x36 : Ext w W36 := Puts.ext p36 x35 b45
  refine Qac ?_
  refine hK44 _ _ ?_
  refine Qb3 (fun W => W.heap[g45]? = some (.cells (ints .i64 ([0, 5, 10, 15])) 68)) [⟨none, [(7, none)]⟩, ⟨none, [(23, some 0)]⟩, ⟨none, [(7, none)]⟩, ⟨none, [(25, some 2)]⟩, ⟨none, [(7, none)]⟩, ⟨none, [(27, some 4)]⟩, ⟨none, [(7, none)]⟩, ⟨none, [(29, some 6)]⟩, ⟨none, [(7, none)]⟩, ⟨none, [(31, some 8)]⟩, ⟨none, [(5, none), (32, some 9)]⟩, ⟨none, [(33, some 10)]⟩, ⟨none, [(7, none)]⟩, ⟨none, [(35, some 12)]⟩, ⟨none, [(5, none), (36, some 13)]⟩, ⟨none, [(37, some 14)]⟩, ⟨none, [(7, none)]⟩, ⟨none, [(39, some 16)]⟩, ⟨none, [(5, none), (40, some 17)]⟩, ⟨none, [(41, some 18)]⟩, ⟨none, [(7, none)]⟩, ⟨none, [(43, some 20)]⟩, ⟨none, [(5, none), (44, some 21)]⟩, ⟨none, [(45, some 22)]⟩, ⟨none, [(34, some 11), (38, some 15), (42, some 19), (46, some 23)]⟩, ⟨none, [(47, some 24)]⟩, ⟨none, [(22, some 25)]⟩, ⟨none, [(22, some 25)]⟩, ⟨none, [(22, some 25)]⟩, ⟨none, [(22, some 25)]⟩, ⟨none, [(5, none), (24, some 1)]⟩, ⟨none, [(52, some 30), (48, some 26)]⟩, ⟨none, [(5, none), (26, some 3)]⟩, ⟨none, [(53, some 32), (49, some 27)]⟩, ⟨none, [(5, none), (28, some 5)]⟩, ⟨none, [(54, some 34), (50, some 28)]⟩, ⟨none, [(5, none), (30, some 7)]⟩, ⟨none, [(55, some 36), (51, some 29)]⟩] [] [2, 3, 4, 5, 6, 7, 27, 28, 29, 32, 34, 36] kj kj kj (fun W hR => Qad r45_36 hR) fun F hF => ?_
  refine Qay (.pointer (some ⟨g45, 0, none⟩)) kj kj rfl (fun W => by kernel_rfl) ?_
  refine QaK (.int .i64 0) kj kj kj rfl (fun W hR => (Qae 3 _ g45 0 68 _ (.int .i64 0) _ (Qad (Qad r45_36 (Qai _)) hR) rfl kj kj kj)) ?_
  refine Qay (.pointer (some ⟨g45, 1, none⟩)) kj kj rfl (fun W => by kernel_rfl) ?_
  refine Qbz (.int .i64 5) kj kj kj rfl (fun W hW => (Qae 3 _ g45 1 68 _ (.int .i64 5) _ hW rfl kj kj kj)) ?_
  refine Qay (.pointer (some ⟨g45, 2, none⟩)) kj kj rfl (fun W => by kernel_rfl) ?_
  refine Qbz (.int .i64 10) kj kj kj rfl (fun W hW => (Qae 3 _ g45 2 68 _ (.int .i64 10) _ hW rfl kj kj kj)) ?_
  refine Qay (.pointer (some ⟨g45, 3, none⟩)) kj kj rfl (fun W => by kernel_rfl) ?_
  refine Qbz (.int .i64 15) kj kj kj rfl (fun W hW => (Qae 3 _ g45 3 68 _ (.int .i64 15) _ hW rfl kj kj kj)) ?_
  refine Qay (.pointer (some ⟨g45, 0, none⟩)) kj kj rfl (fun W => by kernel_rfl) ?_
  refine QaK (.int .i64 0) kj kj kj rfl (fun W hR => (Qae 3 _ g45 0 68 _ (.int .i64 0) _ (Qad (Qad r45_36 (Qai _)) hR) rfl kj kj kj)) ?_
  refine Qay (.pointer (some ⟨g8, 0, none⟩)) kj kj rfl (fun W => by kernel_rfl) ?_
  have r8_35 := (Qad r8_34_40 e35)
  have r8_36 := (Puts.row p36 r8_35 (Qag r8_34_40 l45))
  refine QaK (.int .u32 (wv (wget x4 0))) kj kj kj rfl (fun W hR => (Qae 87 _ g8 0 88 _ (.int .u32 (wv (wget x4 0))) _ (Qad (Qad r8_36 (Qai _)) hR) rfl kj ((Qa7 _ _ _ (Nat.lt_of_lt_of_eq (by decide) (Qa9 h4).symm)).trans (congrArg (fun z => some (Value.int .u32 z)) (QaM x4 0))) kj)) ?_
  refine Qay (.pointer (some ⟨g45, 1, none⟩)) kj kj rfl (fun W => by kernel_rfl) ?_
  refine QaK (.int .i64 5) kj kj kj rfl (fun W hR => (Qae 3 _ g45 1 68 _ (.int .i64 5) _ (Qad (Qad r45_36 (Qai _)) hR) rfl kj kj kj)) ?_
  refine Qay (.pointer (some ⟨g8, 5, none⟩)) kj kj rfl (fun W => by kernel_rfl) ?_
  refine QaK (.int .u32 (wv (wget x4 5))) kj kj kj rfl (fun W hR => (Qae 87 _ g8 5 88 _ (.int .u32 (wv (wget x4 5))) _ (Qad (Qad r8_36 (Qai _)) hR) rfl kj ((Qa7 _ _ _ (Nat.lt_of_lt_of_eq (by decide) (Qa9 h4).symm)).trans (congrArg (fun z => some (Value.int .u32 z)) (QaM x4 5))) kj)) ?_
  refine Qay (.pointer (some ⟨g45, 2, none⟩)) kj kj rfl (fun W => by kernel_rfl) ?_
  refine QaK (.int .i64 10) kj kj kj rfl (fun W hR => (Qae 3 _ g45 2 68 _ (.int .i64 10) _ (Qad (Qad r45_36 (Qai _)) hR) rfl kj kj kj)) ?_
  refine Qay (.pointer (some ⟨g8, 10, none⟩)) kj kj rfl (fun W => by kernel_rfl) ?_
  refine QaK (.int .u32 (wv (wget x4 10))) kj kj kj rfl (fun W hR => (Qae 87 _ g8 10 88 _ (.int .u32 (wv (wget x4 10))) _ (Qad (Qad r8_36 (Qai _)) hR) rfl kj ((Qa7 _ _ _ (Nat.lt_of_lt_of_eq (by decide) (Qa9 h4).symm)).trans (congrArg (fun z => some (Value.int .u32 z)) (QaM x4 10))) kj)) ?_
  refine Qay (.pointer (some ⟨g45, 3, none⟩)) kj kj rfl (fun W => by kernel_rfl) ?_
  refine QaK (.int .i64 15) kj kj kj rfl (fun W hR => (Qae 3 _ g45 3 68 _ (.int .i64 15) _ (Qad (Qad r45_36 (Qai _)) hR) rfl kj kj kj)) ?_
  refine Qay (.pointer (some ⟨g8, 15, none⟩)) kj kj rfl (fun W => by kernel_rfl) ?_
  refine QaK (.int .u32 (wv (wget x4 15))) kj kj kj rfl (fun W hR => (Qae 87 _ g8 15 88 _ (.int .u32 (wv (wget x4 15))) _ (Qad (Qad r8_36 (Qai _)) hR) rfl kj ((Qa7 _ _ _ (Nat.lt_of_lt_of_eq (by decide) (Qa9 h4).symm)).trans (congrArg (fun z => some (Value.int .u32 z)) (QaM x4 15))) kj)) ?_
  refine Qef (.tuple #[.int .u32 (wv (qA2 (wget x4 0) (wget x4 5) (wget x4 10) (wget x4 15))), .int .u32 (wv (qB2 (wget x4 0) (wget x4 5) (wget x4 10) (wget x4 15))), .int .u32 (wv (qC2 (wget x4 0) (wget x4 5) (wget x4 10) (wget x4 15))), .int .u32 (wv (qD2 (wget x4 0) (wget x4 5) (wget x4 10) (wget x4 15)))]) 58 #[.int .u32 (wv (wget x4 0)), .int .u32 (wv (wget x4 5)), .int .u32 (wv (wget x4 10)), .int .u32 (wv (wget x4 15))] kj kj kj rfl (fun W => by kernel_rfl) (fun W hR => (QcN (wget x4 0) (wget x4 5) (wget x4 10) (wget x4 15)) W) ?_
  refine Qay (.tuple #[.int .u32 (wv (qA2 (wget x4 0) (wget x4 5) (wget x4 10) (wget x4 15))), .int .u32 (wv (qB2 (wget x4 0) (wget x4 5) (wget x4 10) (wget x4 15))), .int .u32 (wv (qC2 (wget x4 0) (wget x4 5) (wget x4 10) (wget x4 15))), .int .u32 (wv (qD2 (wget x4 0) (wget x4 5) (wget x4 10) (wget x4 15)))]) kj kj rfl (fun W => by kernel_rfl) ?_
  refine Qay (.int .u32 (wv (qA2 (wget x4 0) (wget x4 5) (wget x4 10) (wget x4 15)))) kj kj rfl (fun W => by kernel_rfl) ?_
  refine Qay (.int .u32 (wv (qB2 (wget x4 0) (wget x4 5) (wget x4 10) (wget x4 15)))) kj kj rfl (fun W => by kernel_rfl) ?_
  refine Qay (.int .u32 (wv (qC2 (wget x4 0) (wget x4 5) (wget x4 10) (wget x4 15)))) kj kj rfl (fun W => by kernel_rfl) ?_
  refine Qay (.int .u32 (wv (qD2 (wget x4 0) (wget x4 5) (wget x4 10) (wget x4 15)))) kj kj rfl (fun W => by kernel_rfl) ?_
  refine Qay (.pointer (some ⟨g8, 0, none⟩)) kj kj rfl (fun W => by kernel_rfl) ?_
  refine Qbb rfl ?_
  refine Qay (.pointer (some ⟨g8, 5, none⟩)) kj kj rfl (fun W => by kernel_rfl) ?_
  refine Qbb rfl ?_
  refine Qay (.pointer (some ⟨g8, 10, none⟩)) kj kj rfl (fun W => by kernel_rfl) ?_
  refine Qbb rfl ?_
  refine Qay (.pointer (some ⟨g8, 15, none⟩)) kj kj rfl (fun W => by kernel_rfl) ?_
  refine Qbb rfl ?_
  refine Qe5 (hF _ kj fun W37 e37 => ?_)
  simp only [List.nil_append, List.cons_append, fins, up]
  clear hF
  have x37 : Ext w W37 := Ext.tr x36 e37
  have r8_37 := (Qad r8_36 e37)
  have r45_37 := (Qad r45_36 e37)
  refine QaQ _ g8 _ (ints .u32 ((x4.map wv).set 0 (wv (qA2 (wget x4 0) (wget x4 5) (wget x4 10) (wget x4 15))))) 88 r8_37 rfl (Qan 87 _ _ g8 0 88 _ _ r8_37 rfl kj kj kj (Nat.lt_of_lt_of_eq (show 0 < 16 by decide) (Qa9 h4).symm)) (fun W hp => Puts.row hp r45_37 (Qat r8_34_40 l45)) fun W38 p38 r8_38 => ?_
  have x38 : Ext w W38 := Puts.ext p38 x37 b8
  have r45_38 := (Puts.row p38 r45_37 (Qat r8_34_40 l45))
  refine QaQ _ g8 _ (ints .u32 (((x4.map wv).set 0 (wv (qA2 (wget x4 0) (wget x4 5) (wget x4 10) (wget x4 15)))).set 5 (wv (qB2 (wget x4 0) (wget x4 5) (wget x4 10) (wget x4 15))))) 88 r8_38 rfl (Qan 87 _ _ g8 5 88 _ _ r8_38 rfl kj kj kj (Nat.lt_of_lt_of_eq (show 5 < 16 by decide) ((List.length_set ..).trans (Qa9 h4)).symm)) (fun W hp => Puts.row hp r45_38 (Qat r8_34_40 l45)) fun W39 p39 r8_39 => ?_
  have x39 : Ext w W39 := Puts.ext p39 x38 b8
  have r45_39 := (Puts.row p39 r45_38 (Qat r8_34_40 l45))
  refine QaQ _ g8 _ (ints .u32 ((((x4.map wv).set 0 (wv (qA2 (wget x4 0) (wget x4 5) (wget x4 10) (wget x4 15)))).set 5 (wv (qB2 (wget x4 0) (wget x4 5) (wget x4 10) (wget x4 15)))).set 10 (wv (qC2 (wget x4 0) (wget x4 5) (wget x4 10) (wget x4 15))))) 88 r8_39 rfl (Qan 87 _ _ g8 10 88 _ _ r8_39 rfl kj kj kj (Nat.lt_of_lt_of_eq (show 10 < 16 by decide) ((List.length_set ..).trans ((List.length_set ..).trans (Qa9 h4))).symm)) (fun W hp => Puts.row hp r45_39 (Qat r8_34_40 l45)) fun W40 p40 r8_40 => ?_
  have x40 : Ext w W40 := Puts.ext p40 x39 b8
  have r45_40 := (Puts.row p40 r45_39 (Qat r8_34_40 l45))
  refine QaQ _ g8 _ (ints .u32 (((((x4.map wv).set 0 (wv (qA2 (wget x4 0) (wget x4 5) (wget x4 10) (wget x4 15)))).set 5 (wv (qB2 (wget x4 0) (wget x4 5) (wget x4 10) (wget x4 15)))).set 10 (wv (qC2 (wget x4 0) (wget x4 5) (wget x4 10) (wget x4 15)))).set 15 (wv (qD2 (wget x4 0) (wget x4 5) (wget x4 10) (wget x4 15))))) 88 r8_40 rfl (Qan 87 _ _ g8 15 88 _ _ r8_40 rfl kj kj kj (Nat.lt_of_lt_of_eq (show 15 < 16 by decide) ((List.length_set ..).trans ((List.length_set ..).trans ((List.length_set ..).trans (Qa9 h4)))).symm)) (fun W hp => Puts.row hp r45_40 (Qat r8_34_40 l45)) fun W41 p41 r8_41 => ?_
  have x41 : Ext w W41 := Puts.ext p41 x40 b8
  refine Qdl ?_
  obtain ⟨x5, ex5⟩ : ∃ z : List Wd, z = qrt x4 0 5 10 15 := ⟨_, rfl⟩
  have h5 : x5.length = 16 := by rw [ex5, QbM, h4]
  have r8_41_46 : W41.heap[g8]? = some (.cells (ints .u32 (x5.map wv)) 88) := QaO r8_41 (by rw [ex5]; unfold qrt; simp only [List.map_set])
  refine hK43 _ _ ?_
  refine Qab ?_
  refine Qaa (.int .i64 5) 56 rfl kj kj ?_
  refine Qaa (.int .i64 5) 19 rfl kj kj ?_
  refine Qac ?_
  show Code.rounds _ _ _ 4 _ _
  show Code.wp _ _ (Exit.then (Code.rounds _ _ _ 3) _) _ _
  refine wp_seq_k fun K47 hK47 => ?_
  refine Qab ?_
  refine Qaa (.bool true) 20 rfl kj kj ?_
  refine Qac ?_
  refine hK47 _ _ ?_
  refine wp_seq_k fun K48 hK48 => ?_
  refine cond_true kj ?_
  refine wp_skip ?_
  refine hK48 _ _ ?_
  refine wp_seq_k fun K49 hK49 => ?_
  refine wp_block ?_
  refine wp_seq_k fun K50 hK50 => ?_
  refine Qab ?_
  refine Qaa (.agg (ints .i64 ([1, 6, 11, 12]))) 21 rfl kj kj ?_
  refine Qar ((Array.replicate 4 (.int .i64 0))) 68 7 rfl kj kj fun g51 W42 l51 e42 r51_42 => ?_
  have x42 : Ext w W42 := Ext.tr x41 e42
  have b51 : w.heap.size ≤ g51 := Nat.le_trans x41.size l51
  refine Qal g51 _ (ints .i64 ([1, 6, 11, 12])) 68 r51_42 rfl kj (Qap 68 _ _ g51 68 _ _ r51_42 rfl kj kj (isz (n := 4) kj kj) (eqsz (n := 4) kj kj) (QaB _ _)) fun W43 p43 r51_43 => ?_
  have x43 : Ext w W43 := Puts.ext p43 x42 b51
  refine Qac ?_
  refine hK50 _ _ ?_
  refine Qb3 (fun W => W.heap[g51]? = some (.cells (ints .i64 ([1, 6, 11, 12])) 68)) [⟨none, [(7, none)]⟩, ⟨none, [(23, some 0)]⟩, ⟨none, [(7, none)]⟩, ⟨none, [(25, some 2)]⟩, ⟨none, [(7, none)]⟩, ⟨none, [(27, some 4)]⟩, ⟨none, [(7, none)]⟩, ⟨none, [(29, some 6)]⟩, ⟨none, [(7, none)]⟩, ⟨none, [(31, some 8)]⟩, ⟨none, [(5, none), (32, some 9)]⟩, ⟨none, [(33, some 10)]⟩, ⟨none, [(7, none)]⟩, ⟨none, [(35, some 12)]⟩, ⟨none, [(5, none), (36, some 13)]⟩, ⟨none, [(37, some 14)]⟩, ⟨none, [(7, none)]⟩, ⟨none, [(39, some 16)]⟩, ⟨none, [(5, none), (40, some 17)]⟩, ⟨none, [(41, some 18)]⟩, ⟨none, [(7, none)]⟩, ⟨none, [(43, some 20)]⟩, ⟨none, [(5, none), (44, some 21)]⟩, ⟨none, [(45, some 22)]⟩, ⟨none, [(34, some 11), (38, some 15), (42, some 19), (46, some 23)]⟩, ⟨none, [(47, some 24)]⟩, ⟨none, [(22, some 25)]⟩, ⟨none, [(22, some 25)]⟩, ⟨none, [(22, some 25)]⟩, ⟨none, [(22, some 25)]⟩, ⟨none, [(5, none), (24, some 1)]⟩, ⟨none, [(52, some 30), (48, some 26)]⟩, ⟨none, [(5, none), (26, some 3)]⟩, ⟨none, [(53, some 32), (49, some 27)]⟩, ⟨none, [(5, none), (28, some 5)]⟩, ⟨none, [(54, some 34), (50, some 28)]⟩, ⟨none, [(5, none), (30, some 7)]⟩, ⟨none, [(55, some 36), (51, some 29)]⟩] [] [2, 3, 4, 5, 6, 7, 27, 28, 29, 32, 34, 36] kj kj kj (fun W hR => Qad r51_43 hR) fun F hF => ?_
  refine Qay (.pointer (some ⟨g51, 0, none⟩)) kj kj rfl (fun W => by kernel_rfl) ?_
  refine QaK (.int .i64 1) kj kj kj rfl (fun W hR => (Qae 3 _ g51 0 68 _ (.int .i64 1) _ (Qad (Qad r51_43 (Qai _)) hR) rfl kj kj kj)) ?_
  refine Qay (.pointer (some ⟨g51, 1, none⟩)) kj kj rfl (fun W => by kernel_rfl) ?_
  refine Qbz (.int .i64 6) kj kj kj rfl (fun W hW => (Qae 3 _ g51 1 68 _ (.int .i64 6) _ hW rfl kj kj kj)) ?_
  refine Qay (.pointer (some ⟨g51, 2, none⟩)) kj kj rfl (fun W => by kernel_rfl) ?_
  refine Qbz (.int .i64 11) kj kj kj rfl (fun W hW => (Qae 3 _ g51 2 68 _ (.int .i64 11) _ hW rfl kj kj kj)) ?_
  refine Qay (.pointer (some ⟨g51, 3, none⟩)) kj kj rfl (fun W => by kernel_rfl) ?_
  refine Qbz (.int .i64 12) kj kj kj rfl (fun W hW => (Qae 3 _ g51 3 68 _ (.int .i64 12) _ hW rfl kj kj kj)) ?_
  refine Qay (.pointer (some ⟨g51, 0, none⟩)) kj kj rfl (fun W => by kernel_rfl) ?_
  refine QaK (.int .i64 1) kj kj kj rfl (fun W hR => (Qae 3 _ g51 0 68 _ (.int .i64 1) _ (Qad (Qad r51_43 (Qai _)) hR) rfl kj kj kj)) ?_
  refine Qay (.pointer (some ⟨g8, 1, none⟩)) kj kj rfl (fun W => by kernel_rfl) ?_
  have r8_42 := (Qad r8_41_46 e42)
  have r8_43 := (Puts.row p43 r8_42 (Qag r8_41_46 l51))
  refine QaK (.int .u32 (wv (wget x5 1))) kj kj kj rfl (fun W hR => (Qae 87 _ g8 1 88 _ (.int .u32 (wv (wget x5 1))) _ (Qad (Qad r8_43 (Qai _)) hR) rfl kj ((Qa7 _ _ _ (Nat.lt_of_lt_of_eq (by decide) (Qa9 h5).symm)).trans (congrArg (fun z => some (Value.int .u32 z)) (QaM x5 1))) kj)) ?_
  refine Qay (.pointer (some ⟨g51, 1, none⟩)) kj kj rfl (fun W => by kernel_rfl) ?_
  refine QaK (.int .i64 6) kj kj kj rfl (fun W hR => (Qae 3 _ g51 1 68 _ (.int .i64 6) _ (Qad (Qad r51_43 (Qai _)) hR) rfl kj kj kj)) ?_
  refine Qay (.pointer (some ⟨g8, 6, none⟩)) kj kj rfl (fun W => by kernel_rfl) ?_
  refine QaK (.int .u32 (wv (wget x5 6))) kj kj kj rfl (fun W hR => (Qae 87 _ g8 6 88 _ (.int .u32 (wv (wget x5 6))) _ (Qad (Qad r8_43 (Qai _)) hR) rfl kj ((Qa7 _ _ _ (Nat.lt_of_lt_of_eq (by decide) (Qa9 h5).symm)).trans (congrArg (fun z => some (Value.int .u32 z)) (QaM x5 6))) kj)) ?_
  refine Qay (.pointer (some ⟨g51, 2, none⟩)) kj kj rfl (fun W => by kernel_rfl) ?_
  refine QaK (.int .i64 11) kj kj kj rfl (fun W hR => (Qae 3 _ g51 2 68 _ (.int .i64 11) _ (Qad (Qad r51_43 (Qai _)) hR) rfl kj kj kj)) ?_
  refine Qay (.pointer (some ⟨g8, 11, none⟩)) kj kj rfl (fun W => by kernel_rfl) ?_
  refine QaK (.int .u32 (wv (wget x5 11))) kj kj kj rfl (fun W hR => (Qae 87 _ g8 11 88 _ (.int .u32 (wv (wget x5 11))) _ (Qad (Qad r8_43 (Qai _)) hR) rfl kj ((Qa7 _ _ _ (Nat.lt_of_lt_of_eq (by decide) (Qa9 h5).symm)).trans (congrArg (fun z => some (Value.int .u32 z)) (QaM x5 11))) kj)) ?_
  refine Qay (.pointer (some ⟨g51, 3, none⟩)) kj kj rfl (fun W => by kernel_rfl) ?_
  refine QaK (.int .i64 12) kj kj kj rfl (fun W hR => (Qae 3 _ g51 3 68 _ (.int .i64 12) _ (Qad (Qad r51_43 (Qai _)) hR) rfl kj kj kj)) ?_
  refine Qay (.pointer (some ⟨g8, 12, none⟩)) kj kj rfl (fun W => by kernel_rfl) ?_
  refine QaK (.int .u32 (wv (wget x5 12))) kj kj kj rfl (fun W hR => (Qae 87 _ g8 12 88 _ (.int .u32 (wv (wget x5 12))) _ (Qad (Qad r8_43 (Qai _)) hR) rfl kj ((Qa7 _ _ _ (Nat.lt_of_lt_of_eq (by decide) (Qa9 h5).symm)).trans (congrArg (fun z => some (Value.int .u32 z)) (QaM x5 12))) kj)) ?_
  refine Qef (.tuple #[.int .u32 (wv (qA2 (wget x5 1) (wget x5 6) (wget x5 11) (wget x5 12))), .int .u32 (wv (qB2 (wget x5 1) (wget x5 6) (wget x5 11) (wget x5 12))), .int .u32 (wv (qC2 (wget x5 1) (wget x5 6) (wget x5 11) (wget x5 12))), .int .u32 (wv (qD2 (wget x5 1) (wget x5 6) (wget x5 11) (wget x5 12)))]) 58 #[.int .u32 (wv (wget x5 1)), .int .u32 (wv (wget x5 6)), .int .u32 (wv (wget x5 11)), .int .u32 (wv (wget x5 12))] kj kj kj rfl (fun W => by kernel_rfl) (fun W hR => (QcN (wget x5 1) (wget x5 6) (wget x5 11) (wget x5 12)) W) ?_
  refine Qay (.tuple #[.int .u32 (wv (qA2 (wget x5 1) (wget x5 6) (wget x5 11) (wget x5 12))), .int .u32 (wv (qB2 (wget x5 1) (wget x5 6) (wget x5 11) (wget x5 12))), .int .u32 (wv (qC2 (wget x5 1) (wget x5 6) (wget x5 11) (wget x5 12))), .int .u32 (wv (qD2 (wget x5 1) (wget x5 6) (wget x5 11) (wget x5 12)))]) kj kj rfl (fun W => by kernel_rfl) ?_
  refine Qay (.int .u32 (wv (qA2 (wget x5 1) (wget x5 6) (wget x5 11) (wget x5 12)))) kj kj rfl (fun W => by kernel_rfl) ?_
  refine Qay (.int .u32 (wv (qB2 (wget x5 1) (wget x5 6) (wget x5 11) (wget x5 12)))) kj kj rfl (fun W => by kernel_rfl) ?_
  refine Qay (.int .u32 (wv (qC2 (wget x5 1) (wget x5 6) (wget x5 11) (wget x5 12)))) kj kj rfl (fun W => by kernel_rfl) ?_
  refine Qay (.int .u32 (wv (qD2 (wget x5 1) (wget x5 6) (wget x5 11) (wget x5 12)))) kj kj rfl (fun W => by kernel_rfl) ?_
  refine Qay (.pointer (some ⟨g8, 1, none⟩)) kj kj rfl (fun W => by kernel_rfl) ?_
  refine Qbb rfl ?_
  refine Qay (.pointer (some ⟨g8, 6, none⟩)) kj kj rfl (fun W => by kernel_rfl) ?_
  refine Qbb rfl ?_
  refine Qay (.pointer (some ⟨g8, 11, none⟩)) kj kj rfl (fun W => by kernel_rfl) ?_
  refine Qbb rfl ?_
  refine Qay (.pointer (some ⟨g8, 12, none⟩)) kj kj rfl (fun W => by kernel_rfl) ?_
  refine Qbb rfl ?_
  refine Qe5 (hF _ kj fun W44 e44 => ?_)
  simp only [List.nil_append, List.cons_append, fins, up]
  clear hF
  have x44 : Ext w W44 := Ext.tr x43 e44
  have r8_44 := (Qad r8_43 e44)
  have r51_44 := (Qad r51_43 e44)
  refine QaQ _ g8 _ (ints .u32 ((x5.map wv).set 1 (wv (qA2 (wget x5 1) (wget x5 6) (wget x5 11) (wget x5 12))))) 88 r8_44 rfl (Qan 87 _ _ g8 1 88 _ _ r8_44 rfl kj kj kj (Nat.lt_of_lt_of_eq (show 1 < 16 by decide) (Qa9 h5).symm)) (fun W hp => Puts.row hp r51_44 (Qat r8_41_46 l51)) fun W45 p45 r8_45 => ?_
  have x45 : Ext w W45 := Puts.ext p45 x44 b8
  have r51_45 := (Puts.row p45 r51_44 (Qat r8_41_46 l51))
  refine QaQ _ g8 _ (ints .u32 (((x5.map wv).set 1 (wv (qA2 (wget x5 1) (wget x5 6) (wget x5 11) (wget x5 12)))).set 6 (wv (qB2 (wget x5 1) (wget x5 6) (wget x5 11) (wget x5 12))))) 88 r8_45 rfl (Qan 87 _ _ g8 6 88 _ _ r8_45 rfl kj kj kj (Nat.lt_of_lt_of_eq (show 6 < 16 by decide) ((List.length_set ..).trans (Qa9 h5)).symm)) (fun W hp => Puts.row hp r51_45 (Qat r8_41_46 l51)) fun W46 p46 r8_46 => ?_
  have x46 : Ext w W46 := Puts.ext p46 x45 b8
  have r51_46 := (Puts.row p46 r51_45 (Qat r8_41_46 l51))
  refine QaQ _ g8 _ (ints .u32 ((((x5.map wv).set 1 (wv (qA2 (wget x5 1) (wget x5 6) (wget x5 11) (wget x5 12)))).set 6 (wv (qB2 (wget x5 1) (wget x5 6) (wget x5 11) (wget x5 12)))).set 11 (wv (qC2 (wget x5 1) (wget x5 6) (wget x5 11) (wget x5 12))))) 88 r8_46 rfl (Qan 87 _ _ g8 11 88 _ _ r8_46 rfl kj kj kj (Nat.lt_of_lt_of_eq (show 11 < 16 by decide) ((List.length_set ..).trans ((List.length_set ..).trans (Qa9 h5))).symm)) (fun W hp => Puts.row hp r51_46 (Qat r8_41_46 l51)) fun W47 p47 r8_47 => ?_
  have x47 : Ext w W47 := Puts.ext p47 x46 b8
  have r51_47 := (Puts.row p47 r51_46 (Qat r8_41_46 l51))
  refine QaQ _ g8 _ (ints .u32 (((((x5.map wv).set 1 (wv (qA2 (wget x5 1) (wget x5 6) (wget x5 11) (wget x5 12)))).set 6 (wv (qB2 (wget x5 1) (wget x5 6) (wget x5 11) (wget x5 12)))).set 11 (wv (qC2 (wget x5 1) (wget x5 6) (wget x5 11) (wget x5 12)))).set 12 (wv (qD2 (wget x5 1) (wget x5 6) (wget x5 11) (wget x5 12))))) 88 r8_47 rfl (Qan 87 _ _ g8 12 88 _ _ r8_47 rfl kj kj kj (Nat.lt_of_lt_of_eq (show 12 < 16 by decide) ((List.length_set ..).trans ((List.length_set ..).trans ((List.length_set ..).trans (Qa9 h5)))).symm)) (fun W hp => Puts.row hp r51_47 (Qat r8_41_46 l51)) fun W48 p48 r8_48 => ?_
  have x48 : Ext w W48 := Puts.ext p48 x47 b8
  refine Qdl ?_
  obtain ⟨x6, ex6⟩ : ∃ z : List Wd, z = qrt x5 1 6 11 12 := ⟨_, rfl⟩
  have h6 : x6.length = 16 := by rw [ex6, QbM, h5]
  have r8_48_52 : W48.heap[g8]? = some (.cells (ints .u32 (x6.map wv)) 88) := QaO r8_48 (by rw [ex6]; unfold qrt; simp only [List.map_set])
  refine hK49 _ _ ?_
  refine Qab ?_
  refine Qaa (.int .i64 6) 56 rfl kj kj ?_
  refine Qaa (.int .i64 6) 19 rfl kj kj ?_
  refine Qac ?_
  show Code.rounds _ _ _ 3 _ _
  show Code.wp _ _ (Exit.then (Code.rounds _ _ _ 2) _) _ _
  refine wp_seq_k fun K53 hK53 => ?_
  refine Qab ?_
  refine Qaa (.bool true) 20 rfl kj kj ?_
  refine Qac ?_
  refine hK53 _ _ ?_
  refine wp_seq_k fun K54 hK54 => ?_
  refine cond_true kj ?_
  refine wp_skip ?_
  refine hK54 _ _ ?_
  refine wp_seq_k fun K55 hK55 => ?_
  refine wp_block ?_
  refine wp_seq_k fun K56 hK56 => ?_
  refine Qab ?_
  refine Qaa (.agg (ints .i64 ([2, 7, 8, 13]))) 21 rfl kj kj ?_
  refine Qar ((Array.replicate 4 (.int .i64 0))) 68 7 rfl kj kj fun g57 W49 l57 e49 r57_49 => ?_
  have x49 : Ext w W49 := Ext.tr x48 e49
  have b57 : w.heap.size ≤ g57 := Nat.le_trans x48.size l57
  refine Qal g57 _ (ints .i64 ([2, 7, 8, 13])) 68 r57_49 rfl kj (Qap 68 _ _ g57 68 _ _ r57_49 rfl kj kj (isz (n := 4) kj kj) (eqsz (n := 4) kj kj) (QaB _ _)) fun W50 p50 r57_50 => ?_
  have x50 : Ext w W50 := Puts.ext p50 x49 b57
  refine Qac ?_
  refine hK56 _ _ ?_
  refine Qb3 (fun W => W.heap[g57]? = some (.cells (ints .i64 ([2, 7, 8, 13])) 68)) [⟨none, [(7, none)]⟩, ⟨none, [(23, some 0)]⟩, ⟨none, [(7, none)]⟩, ⟨none, [(25, some 2)]⟩, ⟨none, [(7, none)]⟩, ⟨none, [(27, some 4)]⟩, ⟨none, [(7, none)]⟩, ⟨none, [(29, some 6)]⟩, ⟨none, [(7, none)]⟩, ⟨none, [(31, some 8)]⟩, ⟨none, [(5, none), (32, some 9)]⟩, ⟨none, [(33, some 10)]⟩, ⟨none, [(7, none)]⟩, ⟨none, [(35, some 12)]⟩, ⟨none, [(5, none), (36, some 13)]⟩, ⟨none, [(37, some 14)]⟩, ⟨none, [(7, none)]⟩, ⟨none, [(39, some 16)]⟩, ⟨none, [(5, none), (40, some 17)]⟩, ⟨none, [(41, some 18)]⟩, ⟨none, [(7, none)]⟩, ⟨none, [(43, some 20)]⟩, ⟨none, [(5, none), (44, some 21)]⟩, ⟨none, [(45, some 22)]⟩, ⟨none, [(34, some 11), (38, some 15), (42, some 19), (46, some 23)]⟩, ⟨none, [(47, some 24)]⟩, ⟨none, [(22, some 25)]⟩, ⟨none, [(22, some 25)]⟩, ⟨none, [(22, some 25)]⟩, ⟨none, [(22, some 25)]⟩, ⟨none, [(5, none), (24, some 1)]⟩, ⟨none, [(52, some 30), (48, some 26)]⟩, ⟨none, [(5, none), (26, some 3)]⟩, ⟨none, [(53, some 32), (49, some 27)]⟩, ⟨none, [(5, none), (28, some 5)]⟩, ⟨none, [(54, some 34), (50, some 28)]⟩, ⟨none, [(5, none), (30, some 7)]⟩, ⟨none, [(55, some 36), (51, some 29)]⟩] [] [2, 3, 4, 5, 6, 7, 27, 28, 29, 32, 34, 36] kj kj kj (fun W hR => Qad r57_50 hR) fun F hF => ?_
  refine Qay (.pointer (some ⟨g57, 0, none⟩)) kj kj rfl (fun W => by kernel_rfl) ?_
  refine QaK (.int .i64 2) kj kj kj rfl (fun W hR => (Qae 3 _ g57 0 68 _ (.int .i64 2) _ (Qad (Qad r57_50 (Qai _)) hR) rfl kj kj kj)) ?_
  refine Qay (.pointer (some ⟨g57, 1, none⟩)) kj kj rfl (fun W => by kernel_rfl) ?_
  refine Qbz (.int .i64 7) kj kj kj rfl (fun W hW => (Qae 3 _ g57 1 68 _ (.int .i64 7) _ hW rfl kj kj kj)) ?_
  refine Qay (.pointer (some ⟨g57, 2, none⟩)) kj kj rfl (fun W => by kernel_rfl) ?_
  refine Qbz (.int .i64 8) kj kj kj rfl (fun W hW => (Qae 3 _ g57 2 68 _ (.int .i64 8) _ hW rfl kj kj kj)) ?_
  refine Qay (.pointer (some ⟨g57, 3, none⟩)) kj kj rfl (fun W => by kernel_rfl) ?_
  refine Qbz (.int .i64 13) kj kj kj rfl (fun W hW => (Qae 3 _ g57 3 68 _ (.int .i64 13) _ hW rfl kj kj kj)) ?_
  refine Qay (.pointer (some ⟨g57, 0, none⟩)) kj kj rfl (fun W => by kernel_rfl) ?_
  refine QaK (.int .i64 2) kj kj kj rfl (fun W hR => (Qae 3 _ g57 0 68 _ (.int .i64 2) _ (Qad (Qad r57_50 (Qai _)) hR) rfl kj kj kj)) ?_
  refine Qay (.pointer (some ⟨g8, 2, none⟩)) kj kj rfl (fun W => by kernel_rfl) ?_
  have r8_49 := (Qad r8_48_52 e49)
  have r8_50 := (Puts.row p50 r8_49 (Qag r8_48_52 l57))
  refine QaK (.int .u32 (wv (wget x6 2))) kj kj kj rfl (fun W hR => (Qae 87 _ g8 2 88 _ (.int .u32 (wv (wget x6 2))) _ (Qad (Qad r8_50 (Qai _)) hR) rfl kj ((Qa7 _ _ _ (Nat.lt_of_lt_of_eq (by decide) (Qa9 h6).symm)).trans (congrArg (fun z => some (Value.int .u32 z)) (QaM x6 2))) kj)) ?_
  refine Qay (.pointer (some ⟨g57, 1, none⟩)) kj kj rfl (fun W => by kernel_rfl) ?_
  refine QaK (.int .i64 7) kj kj kj rfl (fun W hR => (Qae 3 _ g57 1 68 _ (.int .i64 7) _ (Qad (Qad r57_50 (Qai _)) hR) rfl kj kj kj)) ?_
  refine Qay (.pointer (some ⟨g8, 7, none⟩)) kj kj rfl (fun W => by kernel_rfl) ?_
  refine QaK (.int .u32 (wv (wget x6 7))) kj kj kj rfl (fun W hR => (Qae 87 _ g8 7 88 _ (.int .u32 (wv (wget x6 7))) _ (Qad (Qad r8_50 (Qai _)) hR) rfl kj ((Qa7 _ _ _ (Nat.lt_of_lt_of_eq (by decide) (Qa9 h6).symm)).trans (congrArg (fun z => some (Value.int .u32 z)) (QaM x6 7))) kj)) ?_
  refine Qay (.pointer (some ⟨g57, 2, none⟩)) kj kj rfl (fun W => by kernel_rfl) ?_
  refine QaK (.int .i64 8) kj kj kj rfl (fun W hR => (Qae 3 _ g57 2 68 _ (.int .i64 8) _ (Qad (Qad r57_50 (Qai _)) hR) rfl kj kj kj)) ?_
  refine Qay (.pointer (some ⟨g8, 8, none⟩)) kj kj rfl (fun W => by kernel_rfl) ?_
  refine QaK (.int .u32 (wv (wget x6 8))) kj kj kj rfl (fun W hR => (Qae 87 _ g8 8 88 _ (.int .u32 (wv (wget x6 8))) _ (Qad (Qad r8_50 (Qai _)) hR) rfl kj ((Qa7 _ _ _ (Nat.lt_of_lt_of_eq (by decide) (Qa9 h6).symm)).trans (congrArg (fun z => some (Value.int .u32 z)) (QaM x6 8))) kj)) ?_
  refine Qay (.pointer (some ⟨g57, 3, none⟩)) kj kj rfl (fun W => by kernel_rfl) ?_
  refine QaK (.int .i64 13) kj kj kj rfl (fun W hR => (Qae 3 _ g57 3 68 _ (.int .i64 13) _ (Qad (Qad r57_50 (Qai _)) hR) rfl kj kj kj)) ?_
  refine Qay (.pointer (some ⟨g8, 13, none⟩)) kj kj rfl (fun W => by kernel_rfl) ?_
  refine QaK (.int .u32 (wv (wget x6 13))) kj kj kj rfl (fun W hR => (Qae 87 _ g8 13 88 _ (.int .u32 (wv (wget x6 13))) _ (Qad (Qad r8_50 (Qai _)) hR) rfl kj ((Qa7 _ _ _ (Nat.lt_of_lt_of_eq (by decide) (Qa9 h6).symm)).trans (congrArg (fun z => some (Value.int .u32 z)) (QaM x6 13))) kj)) ?_
  refine Qef (.tuple #[.int .u32 (wv (qA2 (wget x6 2) (wget x6 7) (wget x6 8) (wget x6 13))), .int .u32 (wv (qB2 (wget x6 2) (wget x6 7) (wget x6 8) (wget x6 13))), .int .u32 (wv (qC2 (wget x6 2) (wget x6 7) (wget x6 8) (wget x6 13))), .int .u32 (wv (qD2 (wget x6 2) (wget x6 7) (wget x6 8) (wget x6 13)))]) 58 #[.int .u32 (wv (wget x6 2)), .int .u32 (wv (wget x6 7)), .int .u32 (wv (wget x6 8)), .int .u32 (wv (wget x6 13))] kj kj kj rfl (fun W => by kernel_rfl) (fun W hR => (QcN (wget x6 2) (wget x6 7) (wget x6 8) (wget x6 13)) W) ?_
  refine Qay (.tuple #[.int .u32 (wv (qA2 (wget x6 2) (wget x6 7) (wget x6 8) (wget x6 13))), .int .u32 (wv (qB2 (wget x6 2) (wget x6 7) (wget x6 8) (wget x6 13))), .int .u32 (wv (qC2 (wget x6 2) (wget x6 7) (wget x6 8) (wget x6 13))), .int .u32 (wv (qD2 (wget x6 2) (wget x6 7) (wget x6 8) (wget x6 13)))]) kj kj rfl (fun W => by kernel_rfl) ?_
  refine Qay (.int .u32 (wv (qA2 (wget x6 2) (wget x6 7) (wget x6 8) (wget x6 13)))) kj kj rfl (fun W => by kernel_rfl) ?_
  refine Qay (.int .u32 (wv (qB2 (wget x6 2) (wget x6 7) (wget x6 8) (wget x6 13)))) kj kj rfl (fun W => by kernel_rfl) ?_
  refine Qay (.int .u32 (wv (qC2 (wget x6 2) (wget x6 7) (wget x6 8) (wget x6 13)))) kj kj rfl (fun W => by kernel_rfl) ?_
  refine Qay (.int .u32 (wv (qD2 (wget x6 2) (wget x6 7) (wget x6 8) (wget x6 13)))) kj kj rfl (fun W => by kernel_rfl) ?_
  refine Qay (.pointer (some ⟨g8, 2, none⟩)) kj kj rfl (fun W => by kernel_rfl) ?_
  refine Qbb rfl ?_
  refine Qay (.pointer (some ⟨g8, 7, none⟩)) kj kj rfl (fun W => by kernel_rfl) ?_
  refine Qbb rfl ?_
  refine Qay (.pointer (some ⟨g8, 8, none⟩)) kj kj rfl (fun W => by kernel_rfl) ?_
  refine Qbb rfl ?_
  refine Qay (.pointer (some ⟨g8, 13, none⟩)) kj kj rfl (fun W => by kernel_rfl) ?_
  refine Qbb rfl ?_
  refine Qe5 (hF _ kj fun W51 e51 => ?_)
  simp only [List.nil_append, List.cons_append, fins, up]
  clear hF
  have x51 : Ext w W51 := Ext.tr x50 e51
  have r8_51 := (Qad r8_50 e51)
  have r57_51 := (Qad r57_50 e51)
  refine QaQ _ g8 _ (ints .u32 ((x6.map wv).set 2 (wv (qA2 (wget x6 2) (wget x6 7) (wget x6 8) (wget x6 13))))) 88 r8_51 rfl (Qan 87 _ _ g8 2 88 _ _ r8_51 rfl kj kj kj (Nat.lt_of_lt_of_eq (show 2 < 16 by decide) (Qa9 h6).symm)) (fun W hp => Puts.row hp r57_51 (Qat r8_48_52 l57)) fun W52 p52 r8_52 => ?_
  have x52 : Ext w W52 := Puts.ext p52 x51 b8
  have r57_52 := (Puts.row p52 r57_51 (Qat r8_48_52 l57))
  refine QaQ _ g8 _ (ints .u32 (((x6.map wv).set 2 (wv (qA2 (wget x6 2) (wget x6 7) (wget x6 8) (wget x6 13)))).set 7 (wv (qB2 (wget x6 2) (wget x6 7) (wget x6 8) (wget x6 13))))) 88 r8_52 rfl (Qan 87 _ _ g8 7 88 _ _ r8_52 rfl kj kj kj (Nat.lt_of_lt_of_eq (show 7 < 16 by decide) ((List.length_set ..).trans (Qa9 h6)).symm)) (fun W hp => Puts.row hp r57_52 (Qat r8_48_52 l57)) fun W53 p53 r8_53 => ?_
  have x53 : Ext w W53 := Puts.ext p53 x52 b8
  have r57_53 := (Puts.row p53 r57_52 (Qat r8_48_52 l57))
  refine QaQ _ g8 _ (ints .u32 ((((x6.map wv).set 2 (wv (qA2 (wget x6 2) (wget x6 7) (wget x6 8) (wget x6 13)))).set 7 (wv (qB2 (wget x6 2) (wget x6 7) (wget x6 8) (wget x6 13)))).set 8 (wv (qC2 (wget x6 2) (wget x6 7) (wget x6 8) (wget x6 13))))) 88 r8_53 rfl (Qan 87 _ _ g8 8 88 _ _ r8_53 rfl kj kj kj (Nat.lt_of_lt_of_eq (show 8 < 16 by decide) ((List.length_set ..).trans ((List.length_set ..).trans (Qa9 h6))).symm)) (fun W hp => Puts.row hp r57_53 (Qat r8_48_52 l57)) fun W54 p54 r8_54 => ?_
  have x54 : Ext w W54 := Puts.ext p54 x53 b8
  have r57_54 := (Puts.row p54 r57_53 (Qat r8_48_52 l57))
  refine QaQ _ g8 _ (ints .u32 (((((x6.map wv).set 2 (wv (qA2 (wget x6 2) (wget x6 7) (wget x6 8) (wget x6 13)))).set 7 (wv (qB2 (wget x6 2) (wget x6 7) (wget x6 8) (wget x6 13)))).set 8 (wv (qC2 (wget x6 2) (wget x6 7) (wget x6 8) (wget x6 13)))).set 13 (wv (qD2 (wget x6 2) (wget x6 7) (wget x6 8) (wget x6 13))))) 88 r8_54 rfl (Qan 87 _ _ g8 13 88 _ _ r8_54 rfl kj kj kj (Nat.lt_of_lt_of_eq (show 13 < 16 by decide) ((List.length_set ..).trans ((List.length_set ..).trans ((List.length_set ..).trans (Qa9 h6)))).symm)) (fun W hp => Puts.row hp r57_54 (Qat r8_48_52 l57)) fun W55 p55 r8_55 => ?_
  have x55 : Ext w W55 := Puts.ext p55 x54 b8
  refine Qdl ?_
  obtain ⟨x7, ex7⟩ : ∃ z : List Wd, z = qrt x6 2 7 8 13 := ⟨_, rfl⟩
  have h7 : x7.length = 16 := by rw [ex7, QbM, h6]
  have r8_55_58 : W55.heap[g8]? = some (.cells (ints .u32 (x7.map wv)) 88) := QaO r8_55 (by rw [ex7]; unfold qrt; simp only [List.map_set])
  refine hK55 _ _ ?_
  refine Qab ?_
  refine Qaa (.int .i64 7) 56 rfl kj kj ?_
  refine Qaa (.int .i64 7) 19 rfl kj kj ?_
  refine Qac ?_
  show Code.rounds _ _ _ 2 _ _
  show Code.wp _ _ (Exit.then (Code.rounds _ _ _ 1) _) _ _
  refine wp_seq_k fun K59 hK59 => ?_
  refine Qab ?_
  refine Qaa (.bool true) 20 rfl kj kj ?_
  refine Qac ?_
  refine hK59 _ _ ?_
  refine wp_seq_k fun K60 hK60 => ?_
  refine cond_true kj ?_
  refine wp_skip ?_
  refine hK60 _ _ ?_
  refine wp_seq_k fun K61 hK61 => ?_
  refine wp_block ?_
  refine wp_seq_k fun K62 hK62 => ?_
  refine Qab ?_
  refine Qaa (.agg (ints .i64 ([3, 4, 9, 14]))) 21 rfl kj kj ?_
  refine Qar ((Array.replicate 4 (.int .i64 0))) 68 7 rfl kj kj fun g63 W56 l63 e56 r63_56 => ?_
  have x56 : Ext w W56 := Ext.tr x55 e56
  have b63 : w.heap.size ≤ g63 := Nat.le_trans x55.size l63
  refine Qal g63 _ (ints .i64 ([3, 4, 9, 14])) 68 r63_56 rfl kj (Qap 68 _ _ g63 68 _ _ r63_56 rfl kj kj (isz (n := 4) kj kj) (eqsz (n := 4) kj kj) (QaB _ _)) fun W57 p57 r63_57 => ?_
  have x57 : Ext w W57 := Puts.ext p57 x56 b63
  refine Qac ?_
  refine hK62 _ _ ?_
  refine Qb3 (fun W => W.heap[g63]? = some (.cells (ints .i64 ([3, 4, 9, 14])) 68)) [⟨none, [(7, none)]⟩, ⟨none, [(23, some 0)]⟩, ⟨none, [(7, none)]⟩, ⟨none, [(25, some 2)]⟩, ⟨none, [(7, none)]⟩, ⟨none, [(27, some 4)]⟩, ⟨none, [(7, none)]⟩, ⟨none, [(29, some 6)]⟩, ⟨none, [(7, none)]⟩, ⟨none, [(31, some 8)]⟩, ⟨none, [(5, none), (32, some 9)]⟩, ⟨none, [(33, some 10)]⟩, ⟨none, [(7, none)]⟩, ⟨none, [(35, some 12)]⟩, ⟨none, [(5, none), (36, some 13)]⟩, ⟨none, [(37, some 14)]⟩, ⟨none, [(7, none)]⟩, ⟨none, [(39, some 16)]⟩, ⟨none, [(5, none), (40, some 17)]⟩, ⟨none, [(41, some 18)]⟩, ⟨none, [(7, none)]⟩, ⟨none, [(43, some 20)]⟩, ⟨none, [(5, none), (44, some 21)]⟩, ⟨none, [(45, some 22)]⟩, ⟨none, [(34, some 11), (38, some 15), (42, some 19), (46, some 23)]⟩, ⟨none, [(47, some 24)]⟩, ⟨none, [(22, some 25)]⟩, ⟨none, [(22, some 25)]⟩, ⟨none, [(22, some 25)]⟩, ⟨none, [(22, some 25)]⟩, ⟨none, [(5, none), (24, some 1)]⟩, ⟨none, [(52, some 30), (48, some 26)]⟩, ⟨none, [(5, none), (26, some 3)]⟩, ⟨none, [(53, some 32), (49, some 27)]⟩, ⟨none, [(5, none), (28, some 5)]⟩, ⟨none, [(54, some 34), (50, some 28)]⟩, ⟨none, [(5, none), (30, some 7)]⟩, ⟨none, [(55, some 36), (51, some 29)]⟩] [] [2, 3, 4, 5, 6, 7, 27, 28, 29, 32, 34, 36] kj kj kj (fun W hR => Qad r63_57 hR) fun F hF => ?_
  refine Qay (.pointer (some ⟨g63, 0, none⟩)) kj kj rfl (fun W => by kernel_rfl) ?_
  refine QaK (.int .i64 3) kj kj kj rfl (fun W hR => (Qae 3 _ g63 0 68 _ (.int .i64 3) _ (Qad (Qad r63_57 (Qai _)) hR) rfl kj kj kj)) ?_
  refine Qay (.pointer (some ⟨g63, 1, none⟩)) kj kj rfl (fun W => by kernel_rfl) ?_
  refine Qbz (.int .i64 4) kj kj kj rfl (fun W hW => (Qae 3 _ g63 1 68 _ (.int .i64 4) _ hW rfl kj kj kj)) ?_
  refine Qay (.pointer (some ⟨g63, 2, none⟩)) kj kj rfl (fun W => by kernel_rfl) ?_
  refine Qbz (.int .i64 9) kj kj kj rfl (fun W hW => (Qae 3 _ g63 2 68 _ (.int .i64 9) _ hW rfl kj kj kj)) ?_
  refine Qay (.pointer (some ⟨g63, 3, none⟩)) kj kj rfl (fun W => by kernel_rfl) ?_
  refine Qbz (.int .i64 14) kj kj kj rfl (fun W hW => (Qae 3 _ g63 3 68 _ (.int .i64 14) _ hW rfl kj kj kj)) ?_
  refine Qay (.pointer (some ⟨g63, 0, none⟩)) kj kj rfl (fun W => by kernel_rfl) ?_
  refine QaK (.int .i64 3) kj kj kj rfl (fun W hR => (Qae 3 _ g63 0 68 _ (.int .i64 3) _ (Qad (Qad r63_57 (Qai _)) hR) rfl kj kj kj)) ?_
  refine Qay (.pointer (some ⟨g8, 3, none⟩)) kj kj rfl (fun W => by kernel_rfl) ?_
  have r8_56 := (Qad r8_55_58 e56)
  have r8_57 := (Puts.row p57 r8_56 (Qag r8_55_58 l63))
  refine QaK (.int .u32 (wv (wget x7 3))) kj kj kj rfl (fun W hR => (Qae 87 _ g8 3 88 _ (.int .u32 (wv (wget x7 3))) _ (Qad (Qad r8_57 (Qai _)) hR) rfl kj ((Qa7 _ _ _ (Nat.lt_of_lt_of_eq (by decide) (Qa9 h7).symm)).trans (congrArg (fun z => some (Value.int .u32 z)) (QaM x7 3))) kj)) ?_
  refine Qay (.pointer (some ⟨g63, 1, none⟩)) kj kj rfl (fun W => by kernel_rfl) ?_
  refine QaK (.int .i64 4) kj kj kj rfl (fun W hR => (Qae 3 _ g63 1 68 _ (.int .i64 4) _ (Qad (Qad r63_57 (Qai _)) hR) rfl kj kj kj)) ?_
  refine Qay (.pointer (some ⟨g8, 4, none⟩)) kj kj rfl (fun W => by kernel_rfl) ?_
  refine QaK (.int .u32 (wv (wget x7 4))) kj kj kj rfl (fun W hR => (Qae 87 _ g8 4 88 _ (.int .u32 (wv (wget x7 4))) _ (Qad (Qad r8_57 (Qai _)) hR) rfl kj ((Qa7 _ _ _ (Nat.lt_of_lt_of_eq (by decide) (Qa9 h7).symm)).trans (congrArg (fun z => some (Value.int .u32 z)) (QaM x7 4))) kj)) ?_
  refine Qay (.pointer (some ⟨g63, 2, none⟩)) kj kj rfl (fun W => by kernel_rfl) ?_
  refine QaK (.int .i64 9) kj kj kj rfl (fun W hR => (Qae 3 _ g63 2 68 _ (.int .i64 9) _ (Qad (Qad r63_57 (Qai _)) hR) rfl kj kj kj)) ?_
  refine Qay (.pointer (some ⟨g8, 9, none⟩)) kj kj rfl (fun W => by kernel_rfl) ?_
  refine QaK (.int .u32 (wv (wget x7 9))) kj kj kj rfl (fun W hR => (Qae 87 _ g8 9 88 _ (.int .u32 (wv (wget x7 9))) _ (Qad (Qad r8_57 (Qai _)) hR) rfl kj ((Qa7 _ _ _ (Nat.lt_of_lt_of_eq (by decide) (Qa9 h7).symm)).trans (congrArg (fun z => some (Value.int .u32 z)) (QaM x7 9))) kj)) ?_
  refine Qay (.pointer (some ⟨g63, 3, none⟩)) kj kj rfl (fun W => by kernel_rfl) ?_
  refine QaK (.int .i64 14) kj kj kj rfl (fun W hR => (Qae 3 _ g63 3 68 _ (.int .i64 14) _ (Qad (Qad r63_57 (Qai _)) hR) rfl kj kj kj)) ?_
  refine Qay (.pointer (some ⟨g8, 14, none⟩)) kj kj rfl (fun W => by kernel_rfl) ?_
  refine QaK (.int .u32 (wv (wget x7 14))) kj kj kj rfl (fun W hR => (Qae 87 _ g8 14 88 _ (.int .u32 (wv (wget x7 14))) _ (Qad (Qad r8_57 (Qai _)) hR) rfl kj ((Qa7 _ _ _ (Nat.lt_of_lt_of_eq (by decide) (Qa9 h7).symm)).trans (congrArg (fun z => some (Value.int .u32 z)) (QaM x7 14))) kj)) ?_
  refine Qef (.tuple #[.int .u32 (wv (qA2 (wget x7 3) (wget x7 4) (wget x7 9) (wget x7 14))), .int .u32 (wv (qB2 (wget x7 3) (wget x7 4) (wget x7 9) (wget x7 14))), .int .u32 (wv (qC2 (wget x7 3) (wget x7 4) (wget x7 9) (wget x7 14))), .int .u32 (wv (qD2 (wget x7 3) (wget x7 4) (wget x7 9) (wget x7 14)))]) 58 #[.int .u32 (wv (wget x7 3)), .int .u32 (wv (wget x7 4)), .int .u32 (wv (wget x7 9)), .int .u32 (wv (wget x7 14))] kj kj kj rfl (fun W => by kernel_rfl) (fun W hR => (QcN (wget x7 3) (wget x7 4) (wget x7 9) (wget x7 14)) W) ?_
  refine Qay (.tuple #[.int .u32 (wv (qA2 (wget x7 3) (wget x7 4) (wget x7 9) (wget x7 14))), .int .u32 (wv (qB2 (wget x7 3) (wget x7 4) (wget x7 9) (wget x7 14))), .int .u32 (wv (qC2 (wget x7 3) (wget x7 4) (wget x7 9) (wget x7 14))), .int .u32 (wv (qD2 (wget x7 3) (wget x7 4) (wget x7 9) (wget x7 14)))]) kj kj rfl (fun W => by kernel_rfl) ?_
  refine Qay (.int .u32 (wv (qA2 (wget x7 3) (wget x7 4) (wget x7 9) (wget x7 14)))) kj kj rfl (fun W => by kernel_rfl) ?_
  refine Qay (.int .u32 (wv (qB2 (wget x7 3) (wget x7 4) (wget x7 9) (wget x7 14)))) kj kj rfl (fun W => by kernel_rfl) ?_
  refine Qay (.int .u32 (wv (qC2 (wget x7 3) (wget x7 4) (wget x7 9) (wget x7 14)))) kj kj rfl (fun W => by kernel_rfl) ?_
  refine Qay (.int .u32 (wv (qD2 (wget x7 3) (wget x7 4) (wget x7 9) (wget x7 14)))) kj kj rfl (fun W => by kernel_rfl) ?_
  refine Qay (.pointer (some ⟨g8, 3, none⟩)) kj kj rfl (fun W => by kernel_rfl) ?_
  refine Qbb rfl ?_
  refine Qay (.pointer (some ⟨g8, 4, none⟩)) kj kj rfl (fun W => by kernel_rfl) ?_
  refine Qbb rfl ?_
  refine Qay (.pointer (some ⟨g8, 9, none⟩)) kj kj rfl (fun W => by kernel_rfl) ?_
  refine Qbb rfl ?_
  refine Qay (.pointer (some ⟨g8, 14, none⟩)) kj kj rfl (fun W => by kernel_rfl) ?_
  refine Qbb rfl ?_
  refine Qe5 (hF _ kj fun W58 e58 => ?_)
  simp only [List.nil_append, List.cons_append, fins, up]
  clear hF
  have x58 : Ext w W58 := Ext.tr x57 e58
  have r8_58 := (Qad r8_57 e58)
  have r63_58 := (Qad r63_57 e58)
  refine QaQ _ g8 _ (ints .u32 ((x7.map wv).set 3 (wv (qA2 (wget x7 3) (wget x7 4) (wget x7 9) (wget x7 14))))) 88 r8_58 rfl (Qan 87 _ _ g8 3 88 _ _ r8_58 rfl kj kj kj (Nat.lt_of_lt_of_eq (show 3 < 16 by decide) (Qa9 h7).symm)) (fun W hp => Puts.row hp r63_58 (Qat r8_55_58 l63)) fun W59 p59 r8_59 => ?_
  have x59 : Ext w W59 := Puts.ext p59 x58 b8
  have r63_59 := (Puts.row p59 r63_58 (Qat r8_55_58 l63))
  refine QaQ _ g8 _ (ints .u32 (((x7.map wv).set 3 (wv (qA2 (wget x7 3) (wget x7 4) (wget x7 9) (wget x7 14)))).set 4 (wv (qB2 (wget x7 3) (wget x7 4) (wget x7 9) (wget x7 14))))) 88 r8_59 rfl (Qan 87 _ _ g8 4 88 _ _ r8_59 rfl kj kj kj (Nat.lt_of_lt_of_eq (show 4 < 16 by decide) ((List.length_set ..).trans (Qa9 h7)).symm)) (fun W hp => Puts.row hp r63_59 (Qat r8_55_58 l63)) fun W60 p60 r8_60 => ?_
  have x60 : Ext w W60 := Puts.ext p60 x59 b8
  have r63_60 := (Puts.row p60 r63_59 (Qat r8_55_58 l63))
  refine QaQ _ g8 _ (ints .u32 ((((x7.map wv).set 3 (wv (qA2 (wget x7 3) (wget x7 4) (wget x7 9) (wget x7 14)))).set 4 (wv (qB2 (wget x7 3) (wget x7 4) (wget x7 9) (wget x7 14)))).set 9 (wv (qC2 (wget x7 3) (wget x7 4) (wget x7 9) (wget x7 14))))) 88 r8_60 rfl (Qan 87 _ _ g8 9 88 _ _ r8_60 rfl kj kj kj (Nat.lt_of_lt_of_eq (show 9 < 16 by decide) ((List.length_set ..).trans ((List.length_set ..).trans (Qa9 h7))).symm)) (fun W hp => Puts.row hp r63_60 (Qat r8_55_58 l63)) fun W61 p61 r8_61 => ?_
  have x61 : Ext w W61 := Puts.ext p61 x60 b8
  have r63_61 := (Puts.row p61 r63_60 (Qat r8_55_58 l63))
  refine QaQ _ g8 _ (ints .u32 (((((x7.map wv).set 3 (wv (qA2 (wget x7 3) (wget x7 4) (wget x7 9) (wget x7 14)))).set 4 (wv (qB2 (wget x7 3) (wget x7 4) (wget x7 9) (wget x7 14)))).set 9 (wv (qC2 (wget x7 3) (wget x7 4) (wget x7 9) (wget x7 14)))).set 14 (wv (qD2 (wget x7 3) (wget x7 4) (wget x7 9) (wget x7 14))))) 88 r8_61 rfl (Qan 87 _ _ g8 14 88 _ _ r8_61 rfl kj kj kj (Nat.lt_of_lt_of_eq (show 14 < 16 by decide) ((List.length_set ..).trans ((List.length_set ..).trans ((List.length_set ..).trans (Qa9 h7)))).symm)) (fun W hp => Puts.row hp r63_61 (Qat r8_55_58 l63)) fun W62 p62 r8_62 => ?_
  have x62 : Ext w W62 := Puts.ext p62 x61 b8
  refine Qdl ?_
  obtain ⟨x8, ex8⟩ : ∃ z : List Wd, z = qrt x7 3 4 9 14 := ⟨_, rfl⟩
  have h8 : x8.length = 16 := by rw [ex8, QbM, h7]
  have r8_62_64 : W62.heap[g8]? = some (.cells (ints .u32 (x8.map wv)) 88) := QaO r8_62 (by rw [ex8]; unfold qrt; simp only [List.map_set])
  refine hK61 _ _ ?_
  refine Qab ?_
  refine Qaa (.int .i64 8) 56 rfl kj kj ?_
  refine Qaa (.int .i64 8) 19 rfl kj kj ?_
  refine Qac ?_
  show Code.rounds _ _ _ 1 _ _
  show Code.wp _ _ (Exit.then (Code.rounds _ _ _ 0) _) _ _
  refine wp_seq_k fun K65 hK65 => ?_
  refine Qab ?_
  refine Qaa (.bool false) 20 rfl kj kj ?_
  refine Qac ?_
  refine hK65 _ _ ?_
  refine wp_seq_k fun K66 hK66 => ?_
  refine cond_false kj ?_
  refine wp_exit ?_
  refine hK14 _ _ ?_
  refine Qab ?_
  refine Qaa (.int .i64 ((i + 1 : Nat) : Int)) 57 rfl kj (Qah (u := .int .i64 (IntKind.i64.wrap (((i : Nat) : Int) + 1))) kj (congrArg (Value.int .i64) (i64n _ _ (by omega) (by omega)))) ?_
  refine Qaa (.int .i64 ((i + 1 : Nat) : Int)) 16 rfl kj kj ?_
  refine Qac ?_
  repeat (first | with_reducible refine goX1 ?_ | with_reducible refine goX2 ?_ | with_reducible refine goX3 ?_)
  exact Qaz (i + 1) ⟨rfl, rfl, rfl, rfl, trivial⟩ ⟨(by omega), (QaO r8_62_64 (by rw [ex8, ex7, ex6, ex5, ex4, ex3, ex2, ex1, ex0]; rfl)), (Qax.puts (Qax.puts (Qax.puts (Qax.puts (Qax.step (Qax.puts (Qax.step (Qax.puts (Qax.puts (Qax.puts (Qax.puts (Qax.step (Qax.puts (Qax.step (Qax.puts (Qax.puts (Qax.puts (Qax.puts (Qax.step (Qax.puts (Qax.step (Qax.puts (Qax.puts (Qax.puts (Qax.puts (Qax.step (Qax.puts (Qax.step (Qax.puts (Qax.puts (Qax.puts (Qax.puts (Qax.step (Qax.puts (Qax.step (Qax.puts (Qax.puts (Qax.puts (Qax.puts (Qax.step (Qax.puts (Qax.step (Qax.puts (Qax.puts (Qax.puts (Qax.puts (Qax.step (Qax.puts (Qax.step (Qax.puts (Qax.puts (Qax.puts (Qax.puts (Qax.step (Qax.puts (Qax.step q6 e7) p8 (.inr (Nat.le_trans (Qax.size q6) (Nat.le_trans (Nat.le_refl _) l21)))) e9) p10 (.inl (by simp))) p11 (.inl (by simp))) p12 (.inl (by simp))) p13 (.inl (by simp))) e14) p15 (.inr (Nat.le_trans (Qax.size q6) (Nat.le_trans (Nat.le_trans (Nat.le_trans (Nat.le_trans (Nat.le_trans (Nat.le_trans (Nat.le_trans (Nat.le_trans (Nat.le_refl _) e7.size) (Nat.le_of_eq p8.2.2.2.1.symm)) e9.size) (Nat.le_of_eq p10.2.2.2.1.symm)) (Nat.le_of_eq p11.2.2.2.1.symm)) (Nat.le_of_eq p12.2.2.2.1.symm)) (Nat.le_of_eq p13.2.2.2.1.symm)) l27)))) e16) p17 (.inl (by simp))) p18 (.inl (by simp))) p19 (.inl (by simp))) p20 (.inl (by simp))) e21) p22 (.inr (Nat.le_trans (Qax.size q6) (Nat.le_trans (Nat.le_trans (Nat.le_trans (Nat.le_trans (Nat.le_trans (Nat.le_trans (Nat.le_trans (Nat.le_trans (Nat.le_trans (Nat.le_trans (Nat.le_trans (Nat.le_trans (Nat.le_trans (Nat.le_trans (Nat.le_trans (Nat.le_refl _) e7.size) (Nat.le_of_eq p8.2.2.2.1.symm)) e9.size) (Nat.le_of_eq p10.2.2.2.1.symm)) (Nat.le_of_eq p11.2.2.2.1.symm)) (Nat.le_of_eq p12.2.2.2.1.symm)) (Nat.le_of_eq p13.2.2.2.1.symm)) e14.size) (Nat.le_of_eq p15.2.2.2.1.symm)) e16.size) (Nat.le_of_eq p17.2.2.2.1.symm)) (Nat.le_of_eq p18.2.2.2.1.symm)) (Nat.le_of_eq p19.2.2.2.1.symm)) (Nat.le_of_eq p20.2.2.2.1.symm)) l33)))) e23) p24 (.inl (by simp))) p25 (.inl (by simp))) p26 (.inl (by simp))) p27 (.inl (by simp))) e28) p29 (.inr (Nat.le_trans (Qax.size q6) (Nat.le_trans (Nat.le_trans (Nat.le_trans (Nat.le_trans (Nat.le_trans (Nat.le_trans (Nat.le_trans (Nat.le_trans (Nat.le_trans (Nat.le_trans (Nat.le_trans (Nat.le_trans (Nat.le_trans (Nat.le_trans (Nat.le_trans (Nat.le_trans (Nat.le_trans (Nat.le_trans (Nat.le_trans (Nat.le_trans (Nat.le_trans (Nat.le_trans (Nat.le_refl _) e7.size) (Nat.le_of_eq p8.2.2.2.1.symm)) e9.size) (Nat.le_of_eq p10.2.2.2.1.symm)) (Nat.le_of_eq p11.2.2.2.1.symm)) (Nat.le_of_eq p12.2.2.2.1.symm)) (Nat.le_of_eq p13.2.2.2.1.symm)) e14.size) (Nat.le_of_eq p15.2.2.2.1.symm)) e16.size) (Nat.le_of_eq p17.2.2.2.1.symm)) (Nat.le_of_eq p18.2.2.2.1.symm)) (Nat.le_of_eq p19.2.2.2.1.symm)) (Nat.le_of_eq p20.2.2.2.1.symm)) e21.size) (Nat.le_of_eq p22.2.2.2.1.symm)) e23.size) (Nat.le_of_eq p24.2.2.2.1.symm)) (Nat.le_of_eq p25.2.2.2.1.symm)) (Nat.le_of_eq p26.2.2.2.1.symm)) (Nat.le_of_eq p27.2.2.2.1.symm)) l39)))) e30) p31 (.inl (by simp))) p32 (.inl (by simp))) p33 (.inl (by simp))) p34 (.inl (by simp))) e35) p36 (.inr (Nat.le_trans (Qax.size q6) (Nat.le_trans (Nat.le_trans (Nat.le_trans (Nat.le_trans (Nat.le_trans (Nat.le_trans (Nat.le_trans (Nat.le_trans (Nat.le_trans (Nat.le_trans (Nat.le_trans (Nat.le_trans (Nat.le_trans (Nat.le_trans (Nat.le_trans (Nat.le_trans (Nat.le_trans (Nat.le_trans (Nat.le_trans (Nat.le_trans (Nat.le_trans (Nat.le_trans (Nat.le_trans (Nat.le_trans (Nat.le_trans (Nat.le_trans (Nat.le_trans (Nat.le_trans (Nat.le_trans (Nat.le_refl _) e7.size) (Nat.le_of_eq p8.2.2.2.1.symm)) e9.size) (Nat.le_of_eq p10.2.2.2.1.symm)) (Nat.le_of_eq p11.2.2.2.1.symm)) (Nat.le_of_eq p12.2.2.2.1.symm)) (Nat.le_of_eq p13.2.2.2.1.symm)) e14.size) (Nat.le_of_eq p15.2.2.2.1.symm)) e16.size) (Nat.le_of_eq p17.2.2.2.1.symm)) (Nat.le_of_eq p18.2.2.2.1.symm)) (Nat.le_of_eq p19.2.2.2.1.symm)) (Nat.le_of_eq p20.2.2.2.1.symm)) e21.size) (Nat.le_of_eq p22.2.2.2.1.symm)) e23.size) (Nat.le_of_eq p24.2.2.2.1.symm)) (Nat.le_of_eq p25.2.2.2.1.symm)) (Nat.le_of_eq p26.2.2.2.1.symm)) (Nat.le_of_eq p27.2.2.2.1.symm)) e28.size) (Nat.le_of_eq p29.2.2.2.1.symm)) e30.size) (Nat.le_of_eq p31.2.2.2.1.symm)) (Nat.le_of_eq p32.2.2.2.1.symm)) (Nat.le_of_eq p33.2.2.2.1.symm)) (Nat.le_of_eq p34.2.2.2.1.symm)) l45)))) e37) p38 (.inl (by simp))) p39 (.inl (by simp))) p40 (.inl (by simp))) p41 (.inl (by simp))) e42) p43 (.inr (Nat.le_trans (Qax.size q6) (Nat.le_trans (Nat.le_trans (Nat.le_trans (Nat.le_trans (Nat.le_trans (Nat.le_trans (Nat.le_trans (Nat.le_trans (Nat.le_trans (Nat.le_trans (Nat.le_trans (Nat.le_trans (Nat.le_trans (Nat.le_trans (Nat.le_trans (Nat.le_trans (Nat.le_trans (Nat.le_trans (Nat.le_trans (Nat.le_trans (Nat.le_trans (Nat.le_trans (Nat.le_trans (Nat.le_trans (Nat.le_trans (Nat.le_trans (Nat.le_trans (Nat.le_trans (Nat.le_trans (Nat.le_trans (Nat.le_trans (Nat.le_trans (Nat.le_trans (Nat.le_trans (Nat.le_trans (Nat.le_trans (Nat.le_refl _) e7.size) (Nat.le_of_eq p8.2.2.2.1.symm)) e9.size) (Nat.le_of_eq p10.2.2.2.1.symm)) (Nat.le_of_eq p11.2.2.2.1.symm)) (Nat.le_of_eq p12.2.2.2.1.symm)) (Nat.le_of_eq p13.2.2.2.1.symm)) e14.size) (Nat.le_of_eq p15.2.2.2.1.symm)) e16.size) (Nat.le_of_eq p17.2.2.2.1.symm)) (Nat.le_of_eq p18.2.2.2.1.symm)) (Nat.le_of_eq p19.2.2.2.1.symm)) (Nat.le_of_eq p20.2.2.2.1.symm)) e21.size) (Nat.le_of_eq p22.2.2.2.1.symm)) e23.size) (Nat.le_of_eq p24.2.2.2.1.symm)) (Nat.le_of_eq p25.2.2.2.1.symm)) (Nat.le_of_eq p26.2.2.2.1.symm)) (Nat.le_of_eq p27.2.2.2.1.symm)) e28.size) (Nat.le_of_eq p29.2.2.2.1.symm)) e30.size) (Nat.le_of_eq p31.2.2.2.1.symm)) (Nat.le_of_eq p32.2.2.2.1.symm)) (Nat.le_of_eq p33.2.2.2.1.symm)) (Nat.le_of_eq p34.2.2.2.1.symm)) e35.size) (Nat.le_of_eq p36.2.2.2.1.symm)) e37.size) (Nat.le_of_eq p38.2.2.2.1.symm)) (Nat.le_of_eq p39.2.2.2.1.symm)) (Nat.le_of_eq p40.2.2.2.1.symm)) (Nat.le_of_eq p41.2.2.2.1.symm)) l51)))) e44) p45 (.inl (by simp))) p46 (.inl (by simp))) p47 (.inl (by simp))) p48 (.inl (by simp))) e49) p50 (.inr (Nat.le_trans (Qax.size q6) (Nat.le_trans (Nat.le_trans (Nat.le_trans (Nat.le_trans (Nat.le_trans (Nat.le_trans (Nat.le_trans (Nat.le_trans (Nat.le_trans (Nat.le_trans (Nat.le_trans (Nat.le_trans (Nat.le_trans (Nat.le_trans (Nat.le_trans (Nat.le_trans (Nat.le_trans (Nat.le_trans (Nat.le_trans (Nat.le_trans (Nat.le_trans (Nat.le_trans (Nat.le_trans (Nat.le_trans (Nat.le_trans (Nat.le_trans (Nat.le_trans (Nat.le_trans (Nat.le_trans (Nat.le_trans (Nat.le_trans (Nat.le_trans (Nat.le_trans (Nat.le_trans (Nat.le_trans (Nat.le_trans (Nat.le_trans (Nat.le_trans (Nat.le_trans (Nat.le_trans (Nat.le_trans (Nat.le_trans (Nat.le_trans (Nat.le_refl _) e7.size) (Nat.le_of_eq p8.2.2.2.1.symm)) e9.size) (Nat.le_of_eq p10.2.2.2.1.symm)) (Nat.le_of_eq p11.2.2.2.1.symm)) (Nat.le_of_eq p12.2.2.2.1.symm)) (Nat.le_of_eq p13.2.2.2.1.symm)) e14.size) (Nat.le_of_eq p15.2.2.2.1.symm)) e16.size) (Nat.le_of_eq p17.2.2.2.1.symm)) (Nat.le_of_eq p18.2.2.2.1.symm)) (Nat.le_of_eq p19.2.2.2.1.symm)) (Nat.le_of_eq p20.2.2.2.1.symm)) e21.size) (Nat.le_of_eq p22.2.2.2.1.symm)) e23.size) (Nat.le_of_eq p24.2.2.2.1.symm)) (Nat.le_of_eq p25.2.2.2.1.symm)) (Nat.le_of_eq p26.2.2.2.1.symm)) (Nat.le_of_eq p27.2.2.2.1.symm)) e28.size) (Nat.le_of_eq p29.2.2.2.1.symm)) e30.size) (Nat.le_of_eq p31.2.2.2.1.symm)) (Nat.le_of_eq p32.2.2.2.1.symm)) (Nat.le_of_eq p33.2.2.2.1.symm)) (Nat.le_of_eq p34.2.2.2.1.symm)) e35.size) (Nat.le_of_eq p36.2.2.2.1.symm)) e37.size) (Nat.le_of_eq p38.2.2.2.1.symm)) (Nat.le_of_eq p39.2.2.2.1.symm)) (Nat.le_of_eq p40.2.2.2.1.symm)) (Nat.le_of_eq p41.2.2.2.1.symm)) e42.size) (Nat.le_of_eq p43.2.2.2.1.symm)) e44.size) (Nat.le_of_eq p45.2.2.2.1.symm)) (Nat.le_of_eq p46.2.2.2.1.symm)) (Nat.le_of_eq p47.2.2.2.1.symm)) (Nat.le_of_eq p48.2.2.2.1.symm)) l57)))) e51) p52 (.inl (by simp))) p53 (.inl (by simp))) p54 (.inl (by simp))) p55 (.inl (by simp))) e56) p57 (.inr (Nat.le_trans (Qax.size q6) (Nat.le_trans (Nat.le_trans (Nat.le_trans (Nat.le_trans (Nat.le_trans (Nat.le_trans (Nat.le_trans (Nat.le_trans (Nat.le_trans (Nat.le_trans (Nat.le_trans (Nat.le_trans (Nat.le_trans (Nat.le_trans (Nat.le_trans (Nat.le_trans (Nat.le_trans (Nat.le_trans (Nat.le_trans (Nat.le_trans (Nat.le_trans (Nat.le_trans (Nat.le_trans (Nat.le_trans (Nat.le_trans (Nat.le_trans (Nat.le_trans (Nat.le_trans (Nat.le_trans (Nat.le_trans (Nat.le_trans (Nat.le_trans (Nat.le_trans (Nat.le_trans (Nat.le_trans (Nat.le_trans (Nat.le_trans (Nat.le_trans (Nat.le_trans (Nat.le_trans (Nat.le_trans (Nat.le_trans (Nat.le_trans (Nat.le_trans (Nat.le_trans (Nat.le_trans (Nat.le_trans (Nat.le_trans (Nat.le_trans (Nat.le_trans (Nat.le_refl _) e7.size) (Nat.le_of_eq p8.2.2.2.1.symm)) e9.size) (Nat.le_of_eq p10.2.2.2.1.symm)) (Nat.le_of_eq p11.2.2.2.1.symm)) (Nat.le_of_eq p12.2.2.2.1.symm)) (Nat.le_of_eq p13.2.2.2.1.symm)) e14.size) (Nat.le_of_eq p15.2.2.2.1.symm)) e16.size) (Nat.le_of_eq p17.2.2.2.1.symm)) (Nat.le_of_eq p18.2.2.2.1.symm)) (Nat.le_of_eq p19.2.2.2.1.symm)) (Nat.le_of_eq p20.2.2.2.1.symm)) e21.size) (Nat.le_of_eq p22.2.2.2.1.symm)) e23.size) (Nat.le_of_eq p24.2.2.2.1.symm)) (Nat.le_of_eq p25.2.2.2.1.symm)) (Nat.le_of_eq p26.2.2.2.1.symm)) (Nat.le_of_eq p27.2.2.2.1.symm)) e28.size) (Nat.le_of_eq p29.2.2.2.1.symm)) e30.size) (Nat.le_of_eq p31.2.2.2.1.symm)) (Nat.le_of_eq p32.2.2.2.1.symm)) (Nat.le_of_eq p33.2.2.2.1.symm)) (Nat.le_of_eq p34.2.2.2.1.symm)) e35.size) (Nat.le_of_eq p36.2.2.2.1.symm)) e37.size) (Nat.le_of_eq p38.2.2.2.1.symm)) (Nat.le_of_eq p39.2.2.2.1.symm)) (Nat.le_of_eq p40.2.2.2.1.symm)) (Nat.le_of_eq p41.2.2.2.1.symm)) e42.size) (Nat.le_of_eq p43.2.2.2.1.symm)) e44.size) (Nat.le_of_eq p45.2.2.2.1.symm)) (Nat.le_of_eq p46.2.2.2.1.symm)) (Nat.le_of_eq p47.2.2.2.1.symm)) (Nat.le_of_eq p48.2.2.2.1.symm)) e49.size) (Nat.le_of_eq p50.2.2.2.1.symm)) e51.size) (Nat.le_of_eq p52.2.2.2.1.symm)) (Nat.le_of_eq p53.2.2.2.1.symm)) (Nat.le_of_eq p54.2.2.2.1.symm)) (Nat.le_of_eq p55.2.2.2.1.symm)) l63)))) e58) p59 (.inl (by simp))) p60 (.inl (by simp))) p61 (.inl (by simp))) p62 (.inl (by simp))), x62⟩ (by omega)
 ·skip
  have heq17 : i = 10 := by have := of_decide_eq_false c13; omega
  obtain ⟨xF, exF⟩ : ∃ z : List Wd, z = rounds s 10 := ⟨_, rfl⟩
  have hxF : xF.length = 16 := by rw [exF, QcT, hs]
  subst heq17
  have r8_6_67 : V1.heap[g8]? = some (.cells (ints .u32 (xF.map wv)) 88) := QaO q8_1 (by rw [exF])
  refine wp_exit ?_
  refine hK9 _ _ ?_
  refine wp_seq_k fun K68 hK68 => ?_
  refine Qab ?_
  refine Qar (ints .u8 (List.replicate 64 0)) 78 8 rfl kj kj fun g69 W7 l69 e7 r69_7 => ?_
  have x7 : Ext w W7 := Ext.tr xx1 e7
  have b69 : w.heap.size ≤ g69 := Nat.le_trans xx1.size l69
  refine Qac ?_
  refine hK68 _ _ ?_
  refine wp_seq_k fun K70 hK70 => ?_
  refine wp_seq_k fun K71 hK71 => ?_
  refine Qab ?_
  refine Qaa (.int .i64 0) 58 rfl kj kj ?_
  refine Qac ?_
  refine hK71 _ _ ?_
  refine wp_block ?_
  have hP : (Qb7 xF s).length = 64 := QdW _ _
  refine QaH (fun (s2 : Nat) => [(2, .pointer (some ⟨g3, 0, none⟩)), (4, .pointer (some ⟨g4, 0, none⟩)), (5, .pointer (some ⟨g8, 0, none⟩)), (8, .pointer (some ⟨g69, 0, none⟩)), (58, .int .i64 ((s2 : Nat) : Int))]) (fun (s2 : Nat) W => (s2 ≤ 16) ∧ (W.heap[g69]? = some (.cells (ints .u8 (Qbs (Qb7 xF s) 64 (4 * s2))) 78)) ∧ (Qax [g69] W7 W) ∧ (Ext w W)) (fun (s2 : Nat) => 16 - s2) 0 ⟨rfl, rfl, rfl, rfl, rfl, trivial⟩ ⟨(Nat.zero_le _), (QaO r69_7 (Qb5 _ 64)), (Qax.refl [g69] W7), x7⟩ fun s2 X2 V2 hI2 => ?_
  obtain ⟨i, hs2⟩ : ∃ z, z = s2 := ⟨_, rfl⟩
  subst hs2
  obtain ⟨hi, q69_2, kk2, xx2⟩ := hI2
  replace hi : i ≤ 16 := hi
  replace q69_2 : V2.heap[g69]? = some (.cells (ints .u8 (Qbs (Qb7 xF s) 64 (4 * i))) 78) := q69_2
  replace kk2 : Qax [g69] W7 V2 := kk2
  replace xx2 : Ext w V2 := xx2
  have q8 := kk2
  refine wp_seq_k fun K72 hK72 => ?_
  refine Qab ?_
  refine Qaa (.bool (decide (((i : Nat) : Int) < 16))) 59 rfl kj kj ?_
  refine Qac ?_
  refine hK72 _ _ ?_
  refine wp_seq_k fun K73 hK73 => ?_
  refine Qa8 (t := decide (((i : Nat) : Int) < 16)) kj (fun c74 => ?_) (fun c74 => ?_)
  ·skip
   have hlt59 : i < 16 := by have := of_decide_eq_true c74; omega
   refine wp_skip ?_
   refine hK73 _ _ ?_
   refine wp_seq_k fun K75 hK75 => ?_
   refine wp_block ?_
   refine wp_seq_k fun K76 hK76 => ?_
   refine Qab ?_
   refine Qaa (.int .i64 ((i : Nat) : Int)) 60 rfl kj kj ?_
   refine Qaa (.int .i64 ((i : Nat) : Int)) 9 rfl kj kj ?_
   refine Qac ?_
   refine hK76 _ _ ?_
   refine wp_seq_k fun K77 hK77 => ?_
   refine Qbf 7 [⟨none, [(9, none)]⟩, ⟨none, [(5, none), (61, some 0)]⟩, ⟨none, [(62, some 1)]⟩, ⟨none, [(9, none)]⟩, ⟨none, [(2, none), (64, some 3)]⟩, ⟨none, [(65, some 4)]⟩, ⟨none, [(63, some 2), (66, some 5)]⟩] kj kj fun F hF => ?_
   refine Qak (.int .i64 ((i : Nat) : Int)) kj kj (fun W => by kernel_rfl) ?_
   refine Qak (.pointer (some ⟨g8, i, none⟩)) kj kj (fun W => (QaZ _ _ _ .i64 (i) _ 16 87 rfl kj kj kj kj (by omega))) ?_
   have r8_7 := (Qad r8_6_67 e7)
   have r8_8 := (Qax.row q8 r8_7 (Qbi (Qag r8_6_67 l69) Qb8))
   refine QaL (.int .u32 (wv (wget xF i))) kj kj (fun W hR => (Qae 87 _ g8 i 88 _ (.int .u32 (wv (wget xF i))) _ (Qad (Qad r8_8 (Qai _)) hR) rfl kj ((Qa7 _ _ _ (Nat.lt_of_lt_of_eq (by omega) (Qa9 hxF).symm)).trans (congrArg (fun z => some (Value.int .u32 z)) (QaM xF i))) kj)) ?_
   refine Qak (.int .i64 ((i : Nat) : Int)) kj kj (fun W => by kernel_rfl) ?_
   refine Qak (.pointer (some ⟨g3, i, none⟩)) kj kj (fun W => (QaZ _ _ _ .i64 (i) _ 16 87 rfl kj kj kj kj (by omega))) ?_
   have r3_4 := (Qad r3_3_6 e4)
   have r3_5 := (Puts.row p5 r3_4 (Qag r3_3_6 l8))
   have r3_6 := (Qax.row q6 r3_5 (Qbi (Qag r3_3_6 l8) Qb8))
   have r3_7 := (Qad r3_6 e7)
   have r3_8 := (Qax.row q8 r3_7 (Qbi (Qag r3_6 l69) Qb8))
   refine QaL (.int .u32 (wv (wget s i))) kj kj (fun W hR => (Qae 87 _ g3 i 88 _ (.int .u32 (wv (wget s i))) _ (Qad (Qad r3_8 (Qai _)) hR) rfl kj ((Qa7 _ _ _ (Nat.lt_of_lt_of_eq (by omega) (Qa9 hs).symm)).trans (congrArg (fun z => some (Value.int .u32 z)) (QaM s i))) kj)) ?_
   refine Qak (.int .u32 (wv (((wget xF i)) + ((wget s i))))) kj kj (fun W => (Qah (u := .int .u32 (IntKind.u32.wrap (wv (wget xF i) + wv (wget s i)))) kj (congrArg (Value.int .u32) (Qd9 _ _)))) ?_
   refine Qbn (hF _ kj fun W9 e9 => ?_)
   simp only [ups, up, Kn.val, List.take_succ_cons, List.take_zero, List.drop_succ_cons, List.drop_zero, List.nil_append, List.cons_append]
   clear hF
   have x9 : Ext w W9 := Ext.tr xx2 e9
   refine Qaa (.int .u32 (wv (((wget xF i)) + ((wget s i))))) 10 rfl kj kj ?_
   refine Qac ?_
   refine hK77 _ _ ?_
   refine wp_seq_k fun K78 hK78 => ?_
   refine Qab ?_
   refine Qaa (.int .i64 0) 68 rfl kj kj ?_
   refine Qac ?_
   refine hK78 _ _ ?_
   refine wp_block ?_
   have r69_9 := (Qad q69_2 e9)
   refine QaH (fun (s3 : Nat) => [(2, .pointer (some ⟨g3, 0, none⟩)), (4, .pointer (some ⟨g4, 0, none⟩)), (5, .pointer (some ⟨g8, 0, none⟩)), (8, .pointer (some ⟨g69, 0, none⟩)), (58, .int .i64 ((i : Nat) : Int)), (9, .int .i64 ((i : Nat) : Int)), (10, .int .u32 (wv (wget xF i + wget s i))), (68, .int .i64 ((s3 : Nat) : Int))]) (fun (s3 : Nat) W => (s3 ≤ 4) ∧ (W.heap[g69]? = some (.cells (ints .u8 (Qbs (Qb7 xF s) 64 (4 * i + s3))) 78)) ∧ (Qax [g69] W9 W) ∧ (Ext w W)) (fun (s3 : Nat) => 4 - s3) 0 ⟨rfl, rfl, rfl, rfl, rfl, rfl, rfl, rfl, trivial⟩ ⟨(Nat.zero_le _), (QaO r69_9 rfl), (Qax.refl [g69] W9), x9⟩ fun s3 X3 V3 hI3 => ?_
   obtain ⟨j, hs3⟩ : ∃ z, z = s3 := ⟨_, rfl⟩
   subst hs3
   obtain ⟨hj, q69_3, kk3, xx3⟩ := hI3
   replace hj : j ≤ 4 := hj
   replace q69_3 : V3.heap[g69]? = some (.cells (ints .u8 (Qbs (Qb7 xF s) 64 (4 * i + j))) 78) := q69_3
   replace kk3 : Qax [g69] W9 V3 := kk3
   replace xx3 : Ext w V3 := xx3
   have q10 := kk3
   refine wp_seq_k fun K79 hK79 => ?_
   refine Qab ?_
   refine Qaa (.bool (decide (((j : Nat) : Int) < 4))) 69 rfl kj kj ?_
   refine Qac ?_
   refine hK79 _ _ ?_
   refine wp_seq_k fun K80 hK80 => ?_
   refine Qa8 (t := decide (((j : Nat) : Int) < 4)) kj (fun c81 => ?_) (fun c81 => ?_)
   ·skip
    have hlt69 : j < 4 := by have := of_decide_eq_true c81; omega
    refine wp_skip ?_
    refine hK80 _ _ ?_
    refine wp_seq_k fun K82 hK82 => ?_
    refine wp_block ?_
    refine wp_seq_k fun K83 hK83 => ?_
    refine Qab ?_
    refine Qaa (.int .i64 ((j : Nat) : Int)) 70 rfl kj kj ?_
    refine Qaa (.int .i64 ((j : Nat) : Int)) 11 rfl kj kj ?_
    refine Qac ?_
    refine hK83 _ _ ?_
    refine Qab ?_
    refine Qaa (.int .i64 ((i : Nat) : Int)) 71 rfl kj kj ?_
    refine Qaa (.int .i64 ((4 * i : Nat) : Int)) 72 rfl kj (Qah (u := .int .i64 (IntKind.i64.wrap (4 * ((i : Nat) : Int)))) kj (congrArg (Value.int .i64) (i64n _ _ (by omega) (by omega)))) ?_
    refine Qaa (.int .i64 ((j : Nat) : Int)) 73 rfl kj kj ?_
    refine Qaa (.int .i64 (((4 * i) + j : Nat) : Int)) 74 rfl kj (Qah (u := .int .i64 (IntKind.i64.wrap (((4 * i : Nat) : Int) + ((j : Nat) : Int)))) kj (congrArg (Value.int .i64) (i64n _ _ (by omega) (by omega)))) ?_
    refine Qaa (.int .u32 (wv (wget xF i + wget s i))) 75 rfl kj kj ?_
    refine Qaa (.int .i64 ((j : Nat) : Int)) 76 rfl kj kj ?_
    refine Qaa (.int .i64 ((8 * j : Nat) : Int)) 77 rfl kj (Qah (u := .int .i64 (IntKind.i64.wrap (8 * ((j : Nat) : Int)))) kj (congrArg (Value.int .i64) (i64n _ _ (by omega) (by omega)))) ?_
    refine Qaa (.int .u32 (wv ((wget xF i + wget s i) >>> (8 * j)))) 78 rfl kj (QbH .shr _ _ _ _ .u32 .i64 _ _ _ rfl kj kj (QeN _ _ _ _ _ _ (by omega) (Qis _ _ (8 * j) rfl (by omega)))) ?_
    refine Qaa (.int .u8 (nth (Qb7 xF s) (4 * i + j))) 79 rfl kj (Qah (u := .int .u8 (IntKind.u8.wrap (wv ((wget xF i + wget s i) >>> (8 * j))))) kj (congrArg (Value.int .u8) (Qkq xF s i j hlt59 hlt69))) ?_
    refine Qaa (.pointer (some ⟨g69, (4 * i) + j, none⟩)) 80 rfl kj (QaZ _ _ _ .i64 ((4 * i) + j) _ 64 5 rfl kj kj kj kj (by omega)) ?_
    refine Qal g69 _ (ints .u8 ((Qbs (Qb7 xF s) 64 (4 * i + j)).set ((4 * i) + j) (nth (Qb7 xF s) (4 * i + j)))) 78 q69_3 rfl kj (Qan 5 _ _ g69 ((4 * i) + j) 78 _ _ q69_3 rfl kj kj kj (Nat.lt_of_lt_of_eq (by omega) (Qb9 _ 64 _ hP (by omega)).symm)) fun W11 p11 r69_11 => ?_
    have x11 : Ext w W11 := Puts.ext p11 xx3 b69
    refine Qac ?_
    refine hK82 _ _ ?_
    refine Qab ?_
    refine Qaa (.int .i64 ((j + 1 : Nat) : Int)) 81 rfl kj (Qah (u := .int .i64 (IntKind.i64.wrap (((j : Nat) : Int) + 1))) kj (congrArg (Value.int .i64) (i64n _ _ (by omega) (by omega)))) ?_
    refine Qaa (.int .i64 ((j + 1 : Nat) : Int)) 68 rfl kj kj ?_
    refine Qac ?_
    repeat (first | with_reducible refine goX1 ?_ | with_reducible refine goX2 ?_ | with_reducible refine goX3 ?_)
    exact Qaz (j + 1) ⟨rfl, rfl, rfl, rfl, rfl, rfl, rfl, rfl, trivial⟩ ⟨(by omega), (QaO r69_11 (Qb6 _ 64 (4 * i + j) hP (by omega))), (Qax.puts q10 p11 (.inl (by simp))), x11⟩ (by omega)
   ·skip
    have heq69 : j = 4 := by have := of_decide_eq_false c81; omega
    refine wp_exit ?_
    refine hK75 _ _ ?_
    refine Qab ?_
    refine Qaa (.int .i64 ((i + 1 : Nat) : Int)) 82 rfl kj (Qah (u := .int .i64 (IntKind.i64.wrap (((i : Nat) : Int) + 1))) kj (congrArg (Value.int .i64) (i64n _ _ (by omega) (by omega)))) ?_
    refine Qaa (.int .i64 ((i + 1 : Nat) : Int)) 58 rfl kj kj ?_
    refine Qac ?_
    repeat (first | with_reducible refine goX1 ?_ | with_reducible refine goX2 ?_ | with_reducible refine goX3 ?_)
    exact Qaz (i + 1) ⟨rfl, rfl, rfl, rfl, rfl, trivial⟩ ⟨(by omega), (QaO q69_3 (by rw [heq69]; rfl)), (Qax.keeps (Qax.step q8 e9) q10 (QhL (.inl (by simp)) Qji)), xx3⟩ (by omega)
  ·skip
   have heq59 : i = 16 := by have := of_decide_eq_false c74; omega
   subst heq59
   have r69_8_84 : V2.heap[g69]? = some (.cells (ints .u8 (Qb7 xF s)) 78) := QaO q69_2 (QbG _ 64 hP)
   refine wp_exit ?_
   refine hK70 _ _ ?_
   refine wp_seq_k fun K85 hK85 => ?_
   refine Qab ?_
   refine Qaa (.agg (ints .u8 (Qb7 xF s))) 83 rfl kj (Qau 78 _ g69 78 _ _ r69_8_84 rfl kj kj (isz (n := 64) kj ((Qaf _ _).trans hP))) ?_
   have r4_3 := (Puts.row p3 r4_2 (Qat r3_1 l4))
   have r4_4 := (Qad r4_3 e4)
   have r4_5 := (Puts.row p5 r4_4 (Qag r4_3 l8))
   have r4_6 := (Qax.row q6 r4_5 (Qbi (Qag r4_3 l8) Qb8))
   have r4_7 := (Qad r4_6 e7)
   have r4_8 := (Qax.row q8 r4_7 (Qbi (Qag r4_6 l69) Qb8))
   refine Qal g4 _ (ints .u8 (Qb7 xF s)) 78 r4_8 rfl kj (Qap 78 _ _ g4 78 _ _ r4_8 rfl kj kj (isz (n := 64) kj ((Qaf _ _).trans hP)) (eqsz (n := 64) ((Qaf _ _).trans (List.length_replicate (n := 64))) ((Qaf _ _).trans hP)) (QaB _ _)) fun W9 p9 r4_9 => ?_
   have x9 : Ext w W9 := Puts.ext p9 xx2 b4
   refine Qac ?_
   refine hK85 _ _ ?_
   refine wp_ret ?_
   repeat (first | with_reducible refine goR1 ?_ | with_reducible refine goR2 ?_)
   exact (show bodyPost _ _ _ .ret _ _ from ret1 (.agg (ints .u8 (Qb7 xF s))) rfl (Qbw g4 78 _ r4_9 kj kj (isz (n := 64) kj ((Qaf _ _).trans hP))) ⟨by unfold QaS; rw [exF, es], x9⟩)
end Go.Proofs.YtjldjdlhllgakaaDoor.Cha
end
section
namespace Go.Proofs.YtjldjdlhllgakaaDoor.Cha
open Go Go.RowKit
open Rely Auto Own Sha
set_option linter.unusedVariables false
set_option linter.unusedSimpArgs false
open Sha
def QaG (key nonce : List Int) : List Wd := [1634760805, 857760878, 2036477234, 1797285236, le4 (sub4 key 0), le4 (sub4 key 1), le4 (sub4 key 2), le4 (sub4 key 3), le4 (sub4 key 4), le4 (sub4 key 5), le4 (sub4 key 6), le4 (sub4 key 7), 0, le4 (sub4 nonce 0), le4 (sub4 nonce 1), le4 (sub4 nonce 2)]
theorem Qdu (key nonce : List Int) : (QaG key nonce).length = 16 := rfl
theorem Qjc (key nonce : List Int) : ([1634760805, 857760878, 2036477234, 1797285236, wv (le4 (sub4 key 0)), wv (le4 (sub4 key 1)), wv (le4 (sub4 key 2)), wv (le4 (sub4 key 3)), wv (le4 (sub4 key 4)), wv (le4 (sub4 key 5)), wv (le4 (sub4 key 6)), wv (le4 (sub4 key 7)), 0, wv (le4 (sub4 nonce 0)), wv (le4 (sub4 nonce 1)), wv (le4 (sub4 nonce 2))] : List Int) = (QaG key nonce).map wv := rfl
theorem Qbe (ws : List Wd) (n : Int) : (QaS ws n).length = 64 := QdW _ _
set_option maxRecDepth 100000 in
set_option maxHeartbeats 4000000 in
theorem QjQ (key nonce : List Int) (v : Value) (B : Nat) (number : Int) (th tq : TypeId) (w : World) (hh : w.heap[0]? = some (.cells (ints .u32 [1634760805, 857760878, 2036477234, 1797285236]) th)) (hq : w.heap[1]? = some (.cells (ints .i64 [0, 4, 8, 12, 1, 5, 9, 13, 2, 6, 10, 14, 3, 7, 11, 15, 0, 5, 10, 15, 1, 6, 11, 12, 2, 7, 8, 13, 3, 4, 9, 14]) tq)) (hkl : key.length = 32) (hn : RdK .u8 B nonce v w) (h : nonce.length = 12) (h1 : 0 ≤ number) (h2 : number ≤ 4294967295) : Calls Tryd.prog 43 #[.agg (ints .u8 key), v, .int .i64 number] w (Ret w (.tuple #[.agg (ints .u8 (QaS (QaG key nonce) number)), .nilIface])) := by
  obtain ⟨a_n, c_n, rfl, -⟩ := id hn
  refine enter 21 [(0, .agg (ints .u8 (key))), (1, .slice a_n nonce.length c_n), (2, .int .i64 number)] Tryd.func43 rfl rfl kj rfl ?_
  refine wp_seq_k fun K3 hK3 => ?_
  refine Qab ?_
  refine Qar (ints .u8 (key)) 23 3 rfl kj kj fun g4 W1 l4 e1 r4_1 => ?_
  have x1 : Ext w W1 := Ext.tr (Rely.Ext.refl w) e1
  have b4 : w.heap.size ≤ g4 := Nat.le_trans (Rely.Ext.refl w).size l4
  refine Qar (ints .u8 (List.replicate 64 0)) 78 6 rfl kj kj fun g5 W2 l5 e2 r5_2 => ?_
  have x2 : Ext w W2 := Ext.tr x1 e2
  have b5 : w.heap.size ≤ g5 := Nat.le_trans x1.size l5
  refine Qaa (.nilIface) 7 rfl kj kj ?_
  refine Qac ?_
  refine hK3 _ _ ?_
  refine wp_seq_k fun K6 hK6 => ?_
  refine wp_seq_k fun K7 hK7 => ?_
  refine Qab ?_
  refine Qaa (.slice a_n nonce.length c_n) 9 rfl kj kj ?_
  refine Qaa (.int .i64 number) 10 rfl kj kj ?_
  refine Qa6 (.nilIface) 41 #[.slice a_n nonce.length c_n, .int .i64 number] 11 rfl kj kj ((Qg0 nonce _ _ number _ (RdK.ext hn x2) h h1 h2)) fun W3 e3 => ?_
  have x3 : Ext w W3 := Ext.tr x2 e3
  refine Qaa (.nilIface) 8 rfl kj kj ?_
  refine Qac ?_
  refine hK7 _ _ ?_
  refine wp_seq_k fun K8 hK8 => ?_
  refine Qab ?_
  refine Qaa (.nilIface) 12 rfl kj kj ?_
  refine Qaa (.bool false) 13 rfl kj kj ?_
  refine Qac ?_
  refine hK8 _ _ ?_
  refine cond_false kj ?_
  refine wp_skip ?_
  refine hK6 _ _ ?_
  refine wp_seq_k fun K9 hK9 => ?_
  refine Qab ?_
  have r4_2 := (Qad r4_1 e2)
  have r4_3 := (Qad r4_2 e3)
  refine Qaa (.agg (ints .u8 (key))) 16 rfl kj (Qau 23 _ g4 23 _ _ r4_3 rfl kj kj (isz (n := 32) kj ((Qaf _ _).trans hkl))) ?_
  refine Qaa (.slice a_n nonce.length c_n) 17 rfl kj kj ?_
  have r2_1 := (Qad hh e1)
  have r2_2 := (Qad r2_1 e2)
  have r2_3 := (Qad r2_2 e3)
  refine Qa6 (.agg (ints .u32 ((QaG key nonce).map wv))) 50 #[.agg (ints .u8 (key)), .slice a_n nonce.length c_n] 18 rfl kj kj ((by rw [← Qjc]; exact Qjd key nonce _ _ th _ r2_3 hkl (RdK.ext hn x3) h)) fun W4 e4 => ?_
  have x4 : Ext w W4 := Ext.tr x3 e4
  refine Qaa (.int .i64 number) 19 rfl kj kj ?_
  have r1_1 := (Qad hq e1)
  have r1_2 := (Qad r1_1 e2)
  have r1_3 := (Qad r1_2 e3)
  have r1_4 := (Qad r1_3 e4)
  refine Qa6 (.agg (ints .u8 (QaS (QaG key nonce) number))) 52 #[.agg (ints .u32 ((QaG key nonce).map wv)), .int .i64 number] 20 rfl kj kj ((Qjh (QaG key nonce) number tq _ r1_4 (Qdu _ _))) fun W5 e5 => ?_
  have x5 : Ext w W5 := Ext.tr x4 e5
  have r5_3 := (Qad r5_2 e3)
  have r5_4 := (Qad r5_3 e4)
  have r5_5 := (Qad r5_4 e5)
  refine Qal g5 _ (ints .u8 (QaS (QaG key nonce) number)) 78 r5_5 rfl kj (Qap 78 _ _ g5 78 _ _ r5_5 rfl kj kj (isz (n := 64) kj ((Qaf _ _).trans (Qbe _ _))) (eqsz (n := 64) ((Qaf _ _).trans (List.length_replicate (n := 64))) ((Qaf _ _).trans (Qbe _ _))) (QaB _ _)) fun W6 p6 r5_6 => ?_
  have x6 : Ext w W6 := Puts.ext p6 x5 b5
  refine Qaa (.nilIface) 7 rfl kj kj ?_
  refine Qac ?_
  refine hK9 _ _ ?_
  refine wp_ret ?_
  repeat (first | with_reducible refine goR1 ?_ | with_reducible refine goR2 ?_)
  exact (show bodyPost _ _ _ .ret _ _ from ret2 (.agg (ints .u8 (QaS (QaG key nonce) number))) (.nilIface) rfl (Qbw g5 78 _ r5_6 kj kj (isz (n := 64) kj ((Qaf _ _).trans (Qbe _ _)))) (QaC kj) ⟨rfl, x6⟩)
end Go.Proofs.YtjldjdlhllgakaaDoor.Cha
end
section
namespace Go.Proofs.YtjldjdlhllgakaaDoor.Cha
open Go Go.RowKit
open Rely Auto Own Sha
set_option linter.unusedVariables false
set_option linter.unusedSimpArgs false
open Sha
theorem Qa1 {b : List Int} (h : Qaj b) (j : Nat) : 0 ≤ nth b j ∧ nth b j < 256 := by
  unfold nth
  rw [List.getD_eq_getElem?_getD]
  rcases Nat.lt_or_ge j b.length with hj | hj
  · rw [List.getElem?_eq_getElem hj]
    have h1 := h _ (List.getElem_mem hj)
    show 0 ≤ b[j] ∧ b[j] < 256
    omega
  · rw [List.getElem?_eq_none hj]; decide
def mxv (text : List Int) (ws : List Wd) (num : Int) (f : Nat → Nat) (m : Nat) : List Int := (List.range m).map fun i => bits .xor .u8 (nth text i) (nth (QaS ws (num + ((f (i / 64) : Nat) : Int))) (i % 64))
def mixV (ws : List Wd) (num : Int) (text : List Int) : List Int := mxv text ws num id text.length
theorem Qdo (text : List Int) (ws : List Wd) (num : Int) (f : Nat → Nat) (m : Nat) : (mxv text ws num f m).length = m := by simp [mxv]
theorem Qi7 (text : List Int) (ws : List Wd) (num : Int) (f : Nat → Nat) (m : Nat) : mxv text ws num f (m + 1) = mxv text ws num f m ++ [bits .xor .u8 (nth text m) (nth (QaS ws (num + ((f (m / 64) : Nat) : Int))) (m % 64))] := by simp [mxv, List.range_succ]
end Go.Proofs.YtjldjdlhllgakaaDoor.Cha
end
section
namespace Go.Proofs.YtjldjdlhllgakaaDoor.Sha
open Go Go.RowKit
open Rely Auto Own
set_option linter.unusedVariables false
set_option linter.unusedSimpArgs false
theorem QgD {k : IntKind} {B : Nat} {ys : List Int} {a : Option Addr} {n c : Nat} {W : World} (h : RdK k B ys (.slice a n c) W) (h0 : 0 < ys.length) : ∃ g o, a = some ⟨g, o, none⟩ ∧ g < B ∧ ∀ i, i < ys.length → W.cell? ⟨g, o + i, none⟩ = some (.int k (nth ys i)) := by
  obtain ⟨a', cap', e, h2, h3, h4, h5⟩ := h
  simp only [Value.slice.injEq] at e
  obtain ⟨rfl, -, -⟩ := e
  rcases h5 with h5 | ⟨g, o, q1, q2, q3, q4⟩
  · rw [h5] at h0; simp at h0
  · exact ⟨g, o, q1, q2, q4⟩
section
variable {P : Program} {ρ : Operand → Value} {o : Oper} {w : World}
theorem QaJ (t : TypeId) (x y : Operand) (k : IntKind) (n g off len cap : Nat) (e : TypeId) (a : Option Addr) (z : Int) (ha : a = some ⟨g, off, none⟩) (hz : z = (n : Int)) (ho : o.op = .indexAddr t x y) (hx : ρ x = .slice a len cap) (hy : ρ y = .int k z)
    (hu : P.underlying t = some (.slice e)) (hs : (P.info? e).map (·.size) = some 1) (hn : n < len) : (execOp ρ o).run P w = .ok (.value (.pointer (some ⟨g, off + n, none⟩))) w := by
  subst ha; subst hz
  exact Qbp t x y k n g off len cap e ho hx hy hu hs hn
end
theorem QfS {v : Value} : ∀ c ∈ ([] : List Nat), v.ownBlock ≠ some c := fun _ h => by simp at h
theorem QeJ {v : Value} {g : Nat} {gs : List Nat} (h : v.ownBlock ≠ some g) (h2 : ∀ c ∈ gs, v.ownBlock ≠ some c) : ∀ c ∈ g :: gs, v.ownBlock ≠ some c := fun c hc => by
  rcases List.mem_cons.1 hc with e | e
  · rw [e]; exact h
  · exact h2 c e
theorem OwnN.keepsL {k : IntKind} {T : TypeId} {base : Nat} {gs : List Nat} {xs : List Int} {v : Value} {V W : World} (h : OwnN k T base xs v V) (q : Qax gs V W) (hn : ∀ c ∈ gs, v.ownBlock ≠ some c) : OwnN k T base xs v W :=
  h.keep fun g hg => q.block g (h.lt hg) (fun hm => hn g hm hg)
theorem run_extractT {P : Program} {ρ : Operand → Value} {o : Oper} {w : World} (x : Operand) (i : Nat) (vs : Array Value) (u : Value) (ho : o.op = .extract x i) (hx : ρ x = .tuple vs) (hi : vs[i]? = some u) : (execOp ρ o).run P w = .ok (.value u) w := by
  unfold execOp
  simp [ho, hx, Instr.extract, hi]
theorem Qdh {k : IntKind} {T : TypeId} {base g : Nat} {xs : List Int} {v : Value} {W : World} (h : OwnN k T base xs v W) (hg : W.heap.size ≤ g) : v.ownBlock ≠ some g := fun e => by have := h.lt e; omega
theorem Qba {k : IntKind} {xs : List Int} {rest : Array Value} {i : Nat} (h : i < xs.length) : (ints k xs ++ rest)[i]? = some (.int k (nth xs i)) := by
  rw [Array.getElem?_append_left (by rw [Qaf]; exact h)]
  exact Qa7 k xs i h
theorem Qiz (k : IntKind) (xs : List Int) (rest : Array Value) (i : Nat) (v : Int) (h : i < xs.length) : (ints k xs ++ rest).setIfInBounds i (.int k v) = ints k (xs.set i v) ++ rest := by
  apply Array.ext'
  simp [ints, List.set_append_left, h]
theorem Qbq {W : World} {g : Nat} {k : IntKind} {a b : List Int} {rest : Array Value} {t : TypeId} (r : W.heap[g]? = some (.cells (ints k a ++ rest) t)) (h : a = b) : W.heap[g]? = some (.cells (ints k b ++ rest) t) := h ▸ r
theorem Qb0 {P : Program} {ρ : Operand → Value} {o : Oper} {w : World} {k : IntKind} (ty : TypeId) (x y : Operand) (g off : Nat) (t : TypeId) (rest : Array Value) (xs : List Int) (v : Int) (hg : w.heap[g]? = some (.cells (ints k xs ++ rest) t))
    (ho : o.op = .store ty x y) (hx : ρ x = .pointer (some ⟨g, off, none⟩)) (hy : ρ y = .int k v) (hi : (P.info? ty).map (·.size) = some 1) (hs : off < xs.length) :
    (execOp ρ o).run P w = .ok .skip (w.setRow g (ints k (xs.set off v) ++ rest)) := by
  rw [← Qiz k xs rest off v hs]
  exact QbX ty x y g off t _ _ hg ho hx hy hi (by rw [Array.size_append, Qaf]; simp; omega) rfl rfl
theorem Qb1 {P : Program} {ρ : Operand → Value} {o : Oper} {w : World} (ty : TypeId) (x y : Operand) (g off : Nat) (t : TypeId) (rest : Array Value) (ws : List Wd) (z : Wd) (hg : w.heap[g]? = some (.cells (ints .u32 (ws.map wv) ++ rest) t))
    (ho : o.op = .store ty x y) (hx : ρ x = .pointer (some ⟨g, off, none⟩)) (hy : ρ y = .int .u32 (wv z)) (hi : (P.info? ty).map (·.size) = some 1) (hs : off < (ws.map wv).length) :
    (execOp ρ o).run P w = .ok .skip (w.setRow g (ints .u32 ((ws.set off z).map wv) ++ rest)) := by
  rw [List.map_set]
  exact Qb0 ty x y g off t rest _ _ hg ho hx hy hi hs
theorem QdF {k : IntKind} {T : TypeId} {base n : Nat} {xs : List Int} {v : Value} {W : World} (h : OwnN k T base xs v W) (hn : xs.length = n) (h0 : 0 < n) :
    ∃ g c rest, v = .slice (some ⟨g, 0, none⟩) n c ∧ base ≤ g ∧ W.heap[g]? = some (.cells (ints k xs ++ rest) T) ∧ n + rest.size = c ∧ c ≤ maxLen := by
  subst hn
  obtain ⟨g, c, cur, h1, h2, h3, h4, h5, h6, h7⟩ := QdG h h0
  have e : cur = ints k xs ++ (cur.toList.drop xs.length).toArray := by
    apply Array.ext'
    rw [Array.toList_append]
    show cur.toList = xs.map (Value.int k) ++ cur.toList.drop xs.length
    rw [← h7, List.take_append_drop]
  refine ⟨g, c, (cur.toList.drop xs.length).toArray, h1, h2, e ▸ h3, ?_, h6⟩
  have h8 : ((cur.toList.drop xs.length).toArray).size = cur.size - xs.length := by simp
  omega
theorem Qfs {k : IntKind} {T : TypeId} {g n c : Nat} {xs : List Int} {rest : Array Value} {W : World} (hn : xs.length = n) (r : W.heap[g]? = some (.cells (ints k xs ++ rest) T)) (hc : n + rest.size = c ∧ c ≤ maxLen) : RdK k W.heap.size xs (.slice (some ⟨g, 0, none⟩) n c) W :=
  Qfr 0 hn r (fun i hi => by rw [Nat.zero_add]; exact Qba (by omega)) (QaA r) (by omega) hc.2
theorem QjX (zs : List Int) (m : Nat) (y : Int) (h : m < zs.length) : zs.take m ++ [y] ++ zs.drop (m + 1) = zs.set m y := by
  rw [List.set_eq_take_append_cons_drop, if_pos h, List.append_assoc]; rfl
theorem QfJ {P : Program} {k : IntKind} {T : TypeId} {b : Nat} {ρ : Operand → Value} {o : Oper} {W : World} (s x : Operand) (t : TypeId) (ho : o.op = .call { callee := .builtin .append, args := #[s, x], argTypes := #[t, t] })
    (ht : P.underlying t = some (.slice T)) (hi : (P.info? T).map (fun i => (i.zero, i.size, i.bytes)) = some (some (.int k 0), 1, b)) {g m n gy : Nat} {zs : List Int} {y : Int} {Ty : TypeId} (hs : ρ s = .slice (some ⟨g, 0, none⟩) m n) (hx : ρ x = .slice (some ⟨gy, 0, none⟩) 1 1)
    (hg : W.heap[g]? = some (.cells (ints k zs) T)) (hz : zs.length = n) (hm : m < n) (hy : W.heap[gy]? = some (.cells (ints k [y]) Ty)) :
    (execOp ρ o).run P W = .ok (.value (.slice (some ⟨g, 0, none⟩) (m + 1) n)) (W.setRow g (ints k (zs.set m y))) := by
  obtain ⟨i, hq, hi1, hi2, hi3⟩ := QjH hi
  have hr := run_append_room (P := P) W t o.type T i ht hq g m n (ints k zs) hg ⟨gy, 0, none⟩ 1 1 ([y].map (Value.int k)) (by simp [hi2]) (Qi6 (k := k) (ys := [y]) fun j hj => by rw [Nat.zero_add]; exact QbO hy (Qa7 k [y] j hj)) (Qi4 _ [y]) (by omega) (by rw [hi2, Qaf]; simp; omega)
  have e : ((ints k zs).toList.take (m * i.size) ++ [y].map (Value.int k) ++ (ints k zs).toList.drop (m * i.size + ([y].map (Value.int k)).length)).toArray = ints k (zs.set m y) := by
    rw [← QjX zs m y (by omega), hi2, Nat.mul_one]
    simp [ints]
  rw [e] at hr
  unfold execOp
  simp only [ho, resolve, invoke, builtin, Sem.run_bind, Sem.run_pure, Result.andThen_ok, List.map_toArray, List.map_cons, List.map_nil, hs, hx, hr]
section
variable {ds : List Deferred} {Fe : Fence} {nf : Nat} {P : Program} {ops : Array Oper} {Q : Exit → Act → World → Prop} {rest : List Oper} {o : Oper} {N : Nat} {L : Env} {w : World}
theorem QjI {g : Nat} {old cs : Array Value} {T : TypeId} (v : Value) (d : Nat) (hd : o.dst = some d) (hF : Free Fe nf P) (hnd : Qcq o = true) (hg : Qcf ops o N L = some true) (r : w.heap[g]? = some (.cells old T)) (h : (execOp (Rely.look (envN N L)) o).run P w = .ok (.value v) (w.setRow g cs))
    (k : ∀ W' : World, Puts w g W' → W'.heap[g]? = some (.cells cs T) → WLI Fe nf P ops Q rest (Qa0 ds N ((d, v) :: L)) W') : WLI Fe nf P ops Q (o :: rest) (Qa0 ds N L) w :=
  QhZ _ _ d hd hF hnd hg h (k _ (QbY _ _ _) (setRow_heap _ _ _ _ _ _ r))
end
section
variable {ds : List Deferred} {P : Program} {ops : Array Oper} {Q : Exit → Act → World → Prop} {rest : List Oper} {o : Oper} {N : Nat} {L : Env} {w : World}
theorem Qh8 (cs : Array Value) (T : TypeId) (m n d : Nat) (hd : o.dst = some d) (hg : Qcf ops o N L = some true) (h : (execOp (Rely.look (envN N L)) o).run P w = .ok (.value (.slice (some ⟨w.heap.size, 0, none⟩) m n)) (w.alloc (.cells cs T)))
    (k : ∀ (g : Nat) (W : World), w.heap.size ≤ g → Ext w W → W.heap[g]? = some (.cells cs T) → WL P ops Q rest (Qa0 ds N ((d, .slice (some ⟨g, 0, none⟩) m n) :: L)) W) : WL P ops Q (o :: rest) (Qa0 ds N L) w :=
  Qcy _ _ d hd hg h (k _ _ (Nat.le_refl _) (QbU _ _) (heap_alloc_new _ _))
end
theorem QhB {P : Program} {ρ : Operand → Value} {o : Oper} {w : World} {k : IntKind} (t : TypeId) (x y : Operand) (kl kc : IntKind) (m n : Nat) (e : TypeId) (ho : o.op = .makeSlice t x y) (hx : ρ x = .int kl m) (hy : ρ y = .int kc n)
    (hu : P.underlying t = some (.slice e)) (hi : (P.info? e).map (fun i => (i.zero, i.size, i.bytes)) = some (some (.int k 0), 1, 8) ∨ (P.info? e).map (fun i => (i.zero, i.size, i.bytes)) = some (some (.int k 0), 1, 1)) (hm : m ≤ n) (hn : n ≤ 16777216) :
    (execOp ρ o).run P w = .ok (.value (.slice (some ⟨w.heap.size, 0, none⟩) m n)) (w.alloc (.cells (ints k (List.replicate n 0)) e)) := by
  cases hq : P.info? e with
  | none => rcases hi with hi | hi <;> simp [hq] at hi
  | some i =>
    have hz : i.zero = some (.int k 0) ∧ i.size = 1 ∧ i.bytes ≤ 8 := by
      rcases hi with hi | hi <;> simp [hq] at hi <;> exact ⟨hi.1, hi.2.1, by omega⟩
    have hb : (i.bytes : Int) * (n : Int) ≤ 281474976710656 := by
      have h1 : (i.bytes : Int) * (n : Int) ≤ 8 * (n : Int) := Int.mul_le_mul_of_nonneg_right (by omega) (by omega)
      omega
    have h := run_make w t e i (.int k 0) hu hq hz.1 kl kc (m : Int) (n : Int) (by omega) (by omega) hb (by omega)
    rw [hz.2.1, Int.toNat_natCast, Int.toNat_natCast, QeK] at h
    unfold execOp
    simp only [ho, hx, hy, Sem.run_bind, Sem.run_pure, h, Result.andThen_ok]
theorem Qen {gs : List Nat} {V W : World} (q : Qax gs V W) (h : ∀ g ∈ gs, ∃ cs t, V.heap[g]? = some (.cells cs t)) : KeepsOthers V W :=
  ⟨q.size, fun k o hk ho => by
    by_cases e : k ∈ gs
    · obtain ⟨cs, t, r⟩ := h k e
      rw [r] at hk
      cases hk
      cases ho
    · exact (q.block k (QaA hk) e).trans hk⟩
end Go.Proofs.YtjldjdlhllgakaaDoor.Sha
end
section
namespace Go.Proofs.YtjldjdlhllgakaaDoor.Auto
open Go Go.RowKit
open Rely Own
set_option linter.unusedVariables false
set_option linter.unusedSimpArgs false
variable {ds : List Deferred}
section
variable {P : Program} {R : World → World → Prop} {w0 : World} {N : Nat} {L : Env} {F : List KE → Prop} {o : Oper} {os : List Oper} {s : Src} {ss : List Src} {C : List KE}
theorem x_op (k : KE) (hk0 : k.ok R) (hs : seen (C.map KE.kn) o s = true) (hg : gOk s.guard (get (envS N L ((C.map KE.kn).map Kn.val) s.reads)) = true)
    (h : ∀ W, R w0 W → Qci P R W k.fact ((execOp (Rely.look (get (envS N L ((C.map KE.kn).map Kn.val) s.reads))) o).run P W))
    (hk : Qbt P R w0 N L F os ss (C ++ [k])) : Qbt P R w0 N L F (o :: os) (s :: ss) C :=
  ⟨k, hk0, fun ρ W hR hh => by
    have hh' : Qcs (envN N L) ((C.map KE.kn).map (Kn.fact 0)) ρ W s.reads := by
      refine QfX s.reads ?_ hh
      have := hs
      simp only [seen, Bool.and_eq_true] at this
      exact this.1.1.2
    rw [Qcn hs hh']
    refine QbZ hg ?_
    unfold Qcd
    rw [Qc6 hs hh']
    exact h W hR, hk⟩
theorem Qiq (hrf : ∀ W, R W W) (v : Value) (hs : seen (C.map KE.kn) o s = true) (hg : gOk s.guard (get (envS N L ((C.map KE.kn).map Kn.val) s.reads)) = true)
    (h : ∀ W, R w0 W → (execOp (Rely.look (get (envS N L ((C.map KE.kn).map Kn.val) s.reads))) o).run P W = .ok (.value v) W)
    (hk : Qbt P R w0 N L F os ss (C ++ [.is v])) : Qbt P R w0 N L F (o :: os) (s :: ss) C :=
  x_op (.is v) trivial hs hg (fun W hR => by rw [h W hR]; exact ⟨hrf _, rfl⟩) hk
end
theorem Qhu {P : Program} {Fe : Fence} {nf : Nat} {id : Nat} {Q : Exit → Act → World → Prop} {N : Nat} {L : Env} {w : World} {l : List Oper} (R : World → World → Prop) (hrf : ∀ W, R W W) (htr : ∀ {a b c : World}, R a b → R b c → R a c) (n : Nat) (S : List Src) (hFr : Free Fe nf P) (hdf : (l.all Qcq) = true) (hm : P.follows .mixedOrders = true) (hok : ok l n N S = true)
    (h : ∀ F : List KE → Prop, (∀ C, (∀ W, R w.drew W → finE (fun L W => WLI Fe nf P l.toArray Q (l.drop n) (Qa0 ds N L) W) (l.take n) C L W) → F C) → Qbt P R w.drew N L F (l.take n) S []) :
    (Code.region id l.toArray true).wpIn Fe nf P Q (Qa0 ds N L) w := by
  refine Qeq R n N S hFr.fn hFr.dp hFr.calls hdf hm hok (Qc2 N L) hrf (fun a b => htr a b) fun F r0 hr hF => ?_
  rw [QbB] at hr
  subst hr
  have := h (fun C => ∀ W, R w.drew W → finE (fun L W => WLI Fe nf P l.toArray Q (l.drop n) (Qa0 ds N L) W) (l.take n) C L W) (fun C h => h)
  exact Qcg (G := F) (fun C h => hF.out fun W hR => Qie (Q := fun a W => wpListIn Fe nf P l.toArray Q (l.drop n) a W) _ _ _ (Qdp (fun L W h => h.out) _ _ _ _ (h W hR))) _ _ [] this
def QeT (g : Nat) (X Y : Obj) (A B : World) : Prop := ExtB g A B ∧ (B.heap[g]? = A.heap[g]? ∨ B.heap[g]? = some Y)
theorem Qig (g : Nat) (A : World) : ExtB g A A := ⟨rfl, rfl, rfl, Nat.le_refl _, fun _ _ _ => rfl⟩
theorem Qhw {g : Nat} {A B C : World} (h : ExtB g A B) (k : ExtB g B C) : ExtB g A C :=
  ⟨k.1.trans h.1, k.2.1.trans h.2.1, k.2.2.1.trans h.2.2.1, Nat.le_trans h.2.2.2.1 k.2.2.2.1, fun i hi hn => (k.2.2.2.2 i (Nat.lt_of_lt_of_le hi h.2.2.2.1) hn).trans (h.2.2.2.2 i hi hn)⟩
theorem QeT.refl (g : Nat) (X Y : Obj) (A : World) : QeT g X Y A A := ⟨Qig g A, .inl rfl⟩
theorem QeT.trans {g : Nat} {X Y : Obj} {A B C : World} (h : QeT g X Y A B) (k : QeT g X Y B C) : QeT g X Y A C :=
  ⟨Qhw h.1 k.1, by
    rcases k.2 with q | q
    · rcases h.2 with r | r
      · exact .inl (q.trans r)
      · exact .inr (q.trans r)
    · exact .inr q⟩
theorem QeT.row {g : Nat} {X Y : Obj} {A B : World} (h : QeT g X Y A B) (hX : A.heap[g]? = some X) : B.heap[g]? = some X ∨ B.heap[g]? = some Y := by
  rcases h.2 with q | q
  · exact .inl (q.trans hX)
  · exact .inr q
theorem QeT.stable (g : Nat) (X Y : Obj) (v : Value) : QbA (QeT g X Y) (fun u W => u = v ∧ W.heap[g]? = some Y) := fun _ _ _ hR h => ⟨h.1, by
  rcases hR.2 with q | q
  · exact q.trans h.2
  · exact q⟩
theorem RdK.keepC {k : IntKind} {B : Nat} {gs : List Nat} {ys : List Int} {v : Value} {V W : World} (h : RdK k B ys v V) (q : Qcr gs V W) (hc : ∀ c ∈ gs, B ≤ c) : RdK k B ys v W := by
  obtain ⟨a, cap, rfl, h1, h2, h3, h4⟩ := h
  refine ⟨a, cap, rfl, h1, h2, h3, ?_⟩
  rcases h4 with h4 | ⟨g, o, e, hB, hl, hcell⟩
  · exact .inl h4
  · exact .inr ⟨g, o, e, hB, Nat.lt_of_lt_of_le hl q.1, fun i hi => q.cell (hcell i hi) (fun hm => by have := hc g hm; omega)⟩
theorem OwnN.keepC {k : IntKind} {T : TypeId} {base : Nat} {gs : List Nat} {xs : List Int} {v : Value} {V W : World} (h : OwnN k T base xs v V) (q : Qcr gs V W) (hc : ∀ c ∈ gs, c < base) : OwnN k T base xs v W := by
  refine h.keep fun g hg => ?_
  have hge := h.ge hg
  rcases h.1.2 with ⟨rfl, _⟩ | ⟨g', c, cur, rfl, h2, h3, _⟩
  · cases hg
  · obtain rfl : g' = g := by simpa [Value.ownBlock] using hg
    rw [h3]
    exact q.2 _ _ _ _ h3 (fun hm => by have := hc _ hm; omega)
end Go.Proofs.YtjldjdlhllgakaaDoor.Auto
end
section
namespace Go.Proofs.YtjldjdlhllgakaaDoor.Auto
open Go Go.RowKit
open Rely Own
set_option linter.unusedVariables false
set_option linter.unusedSimpArgs false
variable {ds : List Deferred} {Fe : Fence} {nf : Nat}
section
variable {P : Program} {ops : Array Oper} {Q : Exit → Act → World → Prop} {rest : List Oper} {o : Oper} {N : Nat} {L : Env} {w : World}
theorem QjJ (v : Value) (f : FuncId) (args : Array Value) (d : Nat) (hd : o.dst = some d) (hF : Free Fe nf P) (hnd : Qcq o = true) (hg : Qcf ops o N L = some true) (h : (execOp (Rely.look (envN N L)) o).run P w = .ok (.enter f args) w)
    (hc : Calls P f args w (Ret w v)) (k : ∀ W : World, Ext w W → WLI Fe nf P ops Q rest (Qa0 ds N ((d, v) :: L)) W) : WLI Fe nf P ops Q (o :: rest) (Qa0 ds N L) w :=
  Qia hF hnd hg fun K hK => by
    rw [h]
    refine ⟨hF.dp, (hF.calls hc).mono ?_⟩
    rintro e w' ⟨rfl, hw⟩
    show K _ _
    rw [hd, QbD]
    exact hK _ _ (k _ hw)
end
section
variable {P : Program} {Q : Exit → Act → World → Prop} {w : World} {N : Nat} {L : Env}
end
theorem QfL (N : Nat) (L : Env) (p q : Nat) (v u : Value) : ({ tmps := (#[p, q].zip #[v, u]).foldl (fun t (p, v) => t.setIfInBounds p v) (Qa0 ds N L).tmps, defers := [] } : Act) = Qa0 [] N ((q, u) :: (p, v) :: L) := by
  rw [← QbD, ← QbD]
  simp [Act.put, Qa0]
theorem Qgk {α : Type} {P : Program} {g : Operand} {p q : Tmp} {assign body : Code} {Q : Exit → Act → World → Prop} {N : Nat} {L : Env} {w : World}
    {gf : Nat} {lb : Array Value} (hg : Rely.look (envN N L) g = .func (.func gf) #[] lb) (eg : ∀ args w, (callFunc gf args).run P w = .ok (.enter gf args) w)
    {enc enc2 : α → Value} {Kp : World → World → Prop} {S Sp : List α → Prop} {M : Nat} {w0 : World} (hseq : SeqStopsK Fence.wide 2 P gf lb (fun x => #[enc x, enc2 x]) Kp S Sp M w0)
    (hKt : ∀ {A B C : World}, Kp A B → Kp B C → Kp A C) (hKb : ∀ (W : World) (l : Nat) (o o' : Obj), w.heap.size ≤ l → W.heap[l]? = some o → o.isCells = false → o.isWalk = false → Kp W (W.putObj l o')) (hb0 : Below w0.heap.size w0 w)
    (I : List α → World → Prop) (Ix : Code → List α → World → Prop) (hI : OwnFrom w.heap.size I) (hIx : ∀ c, OwnFrom w.heap.size (Ix c)) (h0 : I [] w)
    (hKe : ∀ {A B : World}, Ext A B → Kp A B) (hIe : ∀ pre {A B : World}, I pre A → Ext A B → I pre B) (hIs : ∀ pre W, I pre W → w.heap.size ≤ W.heap.size)
    (asg : α → Nat → Env) (cs : α → Array Value) (T : TypeId)
    (hassign : ∀ (l : Nat) (x : α) (W : World) (K : Act → World → Prop), (∀ g W', W.heap.size ≤ g → Ext W W' → W'.heap[g]? = some (.cells (cs x) T) → K (Qa0 [] N (asg x g ++ L)) W') → assign.wpIn (Fence.wide.inRound l) 1 P (Exit.then K (fun _ _ _ => False)) (Qa0 [] N ((q, enc2 x) :: (p, enc x) :: L)) W)
    (hbody : ∀ (l : Nat) (pre : List α) (x : α) (g : Nat) (W : World), w.heap.size ≤ g → I pre W → W.heap[g]? = some (.cells (cs x) T) → pre.length < M → body.wpIn (Fence.wide.inRound l) 1 P (ownPostK Kp I Ix (pre ++ [x]) W) (Qa0 [] N (asg x g ++ L)) W)
    (hdone : ∀ (D : Nat) (xs : List α) (W : World), w.heap.size ≤ D → S xs → I xs W → W.heap[D]? = some (.deferred (some [])) → Q .normal (Qa0 (mark D :: ds) N L) W)
    (hstop : ∀ (D : Nat) (c : Code) (pre : List α) (W : World), w.heap.size ≤ D → Sp pre → Ix c pre W → W.heap[D]? = some (.deferred (some [])) → c.wp P Q (Qa0 (mark D :: ds) N L) W) :
    (Code.rangeFunc g #[p, q] assign body).wp P Q (Qa0 ds N L) w := by
  refine (wpIn_wide (n := 3)).1 ?_
  refine wpIn_rangeFunc_ownH rfl (by omega) (by rw [Qce]; exact hg) trivial eg (w0 := w0) hseq hKt hKb hb0 (fun _ => rfl) I Ix hI hIx h0
    (fun x a' W => ∃ g, a' = Qa0 [] N (asg x g ++ L) ∧ w.heap.size ≤ g ∧ W.heap[g]? = some (.cells (cs x) T)) ?_ (fun l pre x W K hi hK => ?_) ?_ ?_ ?_
  · rintro x a' _ X Y row ⟨g, e, hl, r⟩ hgr hr
    exact ⟨g, e, hl, Qdb r hgr (fun q e => (hr q e).2)⟩
  · rw [QfL]
    refine hassign l x W K fun g W' hg' e r => hK _ _ ((QhY e).from _) (hKe e) (hIe pre hi e) ⟨g, rfl, Nat.le_trans (hIs pre W hi) hg', r⟩
  · rintro l pre x a' W _ _ hi ⟨g, rfl, hl, r⟩ hlen
    exact wpIn_mono (hbody l pre x g W hl hi r hlen) ownPostG_of_ownPostK
  · intro D xs W h1 h2 h3 h4
    exact hdone D xs W h1 h2 h3 h4
  · intro D c pre W h1 h2 h3 h4
    exact wpIn_wide.2 (hstop D c pre W h1 h2 h3 h4)
theorem Qgp {α : Type} {P : Program} {body : Code} {Q : Exit → Act → World → Prop} {N : Nat} {L : Env} {w : World} (live : α → Env) (I : α → World → Prop) (μ : α → Nat) (s0 : α) (hL : Qg6 L (live s0)) (h0 : I s0 w)
    (round : ∀ (s : α) (X : Env) (W : World), I s W → body.wpIn Fe nf P (Exit.then (Goes ds N live I μ s) Q) (Qa0 ds N (live s ++ X)) W) : (Code.loop body).wpIn Fe nf P Q (Qa0 ds N L) w := by
  rw [← QeO hL]
  refine Go.wpIn_loop_ghost (fun n a W => ∃ (s : α) (X : Env), a = Qa0 ds N (live s ++ X) ∧ I s W ∧ μ s = n) (μ s0) ⟨s0, L, rfl, h0, rfl⟩ ?_
  rintro n a W ⟨s, X, rfl, hI, rfl⟩
  refine wpIn_mono (round s X W hI) fun e a' w' h => ?_
  cases e <;> try exact h
  obtain ⟨s', X', h1, h2, h3⟩ := h
  exact ⟨μ s', h3, s', X', h1, h2, rfl⟩
theorem Qhv {P : Program} {id : Nat} {Q : Exit → Act → World → Prop} {N : Nat} {L : Env} {w : World} {l : List Oper} (n : Nat) (S : List Src) (hFr : Free Fe nf P) (hdf : (l.all Qcq) = true) (hm : P.follows .mixedOrders = true) (hok : ok l n N S = true)
    (h : ∀ F : List KE → Prop, (∀ C, (∀ W, Ext w W → finE (fun L W => WLI Fe nf P l.toArray Q (l.drop n) (Qa0 ds N L) W) (l.take n) C L W) → F C) → Qbt P Ext w.drew N L F (l.take n) S []) :
    (Code.region id l.toArray true).wpIn Fe nf P Q (Qa0 ds N L) w :=
  Qhu Ext Rely.Ext.refl Rely.Ext.trans n S hFr hdf hm hok fun F hF => h F fun C hC => hF C fun W hR => hC W (Rely.Ext.trans (Qai w) hR)
section
variable {P : Program} {ops : Array Oper} {Q : Exit → Act → World → Prop} {rest : List Oper} {o : Oper} {N : Nat} {L : Env} {W : World}
end
theorem goXj {K : Act → World → Prop} {Q : Exit → Act → World → Prop} {a : Act} {w : World} {n m : Nat} (h : n ≠ m) (k : Q (.exit n) a w) : Exit.inBlock m Q (.exit n) a w := by
  unfold Exit.inBlock
  simp [h]
  exact k
end Go.Proofs.YtjldjdlhllgakaaDoor.Auto
end
section
namespace Go.Proofs.YtjldjdlhllgakaaDoor.Cha
open Go Go.RowKit
open Rely Auto Own Sha
set_option linter.unusedVariables false
set_option linter.unusedSimpArgs false
open Sha
set_option maxRecDepth 100000 in
set_option maxHeartbeats 4000000 in
theorem QfM (m : Nat) (gs : List Nat) (g1 g2 : Nat) (ws : List Wd) (number : Int) (r : Nat) (tq : TypeId) (w : World) (hr : number + (r : Int) = 4294967296) (h1 : 0 ≤ number) (h2 : number ≤ 4294967295) (hw : ws.length = 16)
  (hqw : w.heap[1]? = some (.cells (ints .i64 [0, 4, 8, 12, 1, 5, 9, 13, 2, 6, 10, 14, 3, 7, 11, 15, 0, 5, 10, 15, 1, 6, 11, 12, 2, 7, 8, 13, 3, 4, 9, 14]) tq)) (r1w : w.heap[g1]? = some (.cells #[.int .i64 number] 3)) (r2w : w.heap[g2]? = some (.cells (ints .u32 (ws.map wv)) 88)) (n1 : g1 ∉ gs) (n2 : g2 ∉ gs) (nq : 1 ∉ gs) :
  SeqStopsK Fence.wide m Tryd.prog 51 #[.pointer (some ⟨g1, 0, none⟩), .pointer (some ⟨g2, 0, none⟩)] (fun i : Nat => #[Value.int .i64 (number + ((i : Nat) : Int)), Value.agg (ints .u8 (QaS ws (number + ((i : Nat) : Int))))]) (Qcr gs) (fun ys => ys = List.range r) (fun ys => ∃ k, ys = List.range k ∧ k ≤ r) r w := fun l J Jx Wi hW hJ hJx hY h0 => by
 refine callsIn_wide.2 ?_
 have hqi := Qad hqw hW
 have r1 := Qad r1w hW
 have r2 := Qad r2w hW
 refine enter 17 [(0, .func (.yield l) #[] #[]), (1, .pointer (some ⟨g1, 0, none⟩)), (2, .pointer (some ⟨g2, 0, none⟩))] Tryd.func51 rfl rfl kj rfl ?_
 refine wp_seq_k fun K4 hK4 => ?_
 refine Qab ?_
 refine Qaa (.int .i64 number) 5 rfl kj (Qae 3 _ g1 0 3 _ (.int .i64 number) _ r1 rfl kj kj kj) ?_
 refine Qaa (.int .i64 number) 4 rfl kj kj ?_
 refine Qac ?_
 refine hK4 _ _ ?_
 refine wp_block ?_
 refine QaH (fun (s1 : Nat) => [(0, .func (.yield l) #[] #[]), (1, .pointer (some ⟨g1, 0, none⟩)), (2, .pointer (some ⟨g2, 0, none⟩)), (4, .int .i64 (number + ((s1 : Nat) : Int)))]) (fun (s1 : Nat) W => (s1 ≤ r) ∧ (J (List.range s1) W) ∧ (W.heap[g1]? = some (.cells #[.int .i64 number] 3)) ∧ (W.heap[g2]? = some (.cells (ints .u32 (ws.map wv)) 88)) ∧ (W.heap[1]? = some (.cells (ints .i64 [0, 4, 8, 12, 1, 5, 9, 13, 2, 6, 10, 14, 3, 7, 11, 15, 0, 5, 10, 15, 1, 6, 11, 12, 2, 7, 8, 13, 3, 4, 9, 14]) tq)) ∧ (Grew Wi W)) (fun (s1 : Nat) => r - s1) 0 ⟨rfl, rfl, rfl, (congrArg (Value.int .i64) (show number = number + ((0 : Nat) : Int) by omega)), trivial⟩ ⟨(Nat.zero_le _), (show J (List.range 0) _ from h0), r1, r2, hqi, (Grew.refl Wi)⟩ fun s1 X1 V1 hI1 => ?_
 obtain ⟨k, hs1⟩ : ∃ z, z = s1 := ⟨_, rfl⟩
 subst hs1
 obtain ⟨hkl_, hJ1, rr1, rr2, rrq, xx1⟩ := hI1
 replace hkl_ : k ≤ r := hkl_
 replace hJ1 : J (List.range k) V1 := hJ1
 replace rr1 : V1.heap[g1]? = some (.cells #[.int .i64 number] 3) := rr1
 replace rr2 : V1.heap[g2]? = some (.cells (ints .u32 (ws.map wv)) 88) := rr2
 replace rrq : V1.heap[1]? = some (.cells (ints .i64 [0, 4, 8, 12, 1, 5, 9, 13, 2, 6, 10, 14, 3, 7, 11, 15, 0, 5, 10, 15, 1, 6, 11, 12, 2, 7, 8, 13, 3, 4, 9, 14]) tq) := rrq
 replace xx1 : Grew Wi V1 := xx1
 refine wp_seq_k fun K5 hK5 => ?_
 refine wp_seq_k fun K6 hK6 => ?_
 refine Qab ?_
 refine Qaa (.int .i64 (number + ((k : Nat) : Int))) 6 rfl kj kj ?_
 refine Qaa (.bool (decide ((number + ((k : Nat) : Int)) ≤ 4294967295))) 7 rfl kj kj ?_
 refine Qac ?_
 refine hK6 _ _ ?_
 refine Qa8 (t := decide ((number + ((k : Nat) : Int)) ≤ 4294967295)) kj (fun c7 => ?_) (fun c7 => ?_)
 ·skip
  have hlt : k < r := by have := of_decide_eq_true c7; omega
  refine wp_skip ?_
  refine hK5 _ _ ?_
  refine wp_seq_k fun K8 hK8 => ?_
  refine wp_block ?_
  refine wp_seq_k fun K9 hK9 => ?_
  refine (wpIn_wide (n := m)).1 ?_
  refine QbL ?_
  refine Qcm (.func (.yield l) #[] #[]) 10 rfl (QbS _ _) rfl kj kj ?_
  refine Qcm (.int .i64 (number + ((k : Nat) : Int))) 11 rfl (QbS _ _) rfl kj kj ?_
  refine Qcm (.agg (ints .u32 (ws.map wv))) 12 rfl (QbS _ _) rfl kj (Qau 88 _ g2 88 _ _ rr2 rfl kj kj (isz (n := 16) kj ((Qaf _ _).trans (Qa9 hw)))) ?_
  refine Qcm (.int .i64 (number + ((k : Nat) : Int))) 13 rfl (QbS _ _) rfl kj kj ?_
  refine QjJ (.agg (ints .u8 (QaS ws (number + ((k : Nat) : Int))))) 52 #[.agg (ints .u32 (ws.map wv)), .int .i64 (number + ((k : Nat) : Int))] 14 rfl (QbS _ _) rfl kj kj ((Qjh ws (number + ((k : Nat) : Int)) tq _ rrq hw)) fun W2 e2 => ?_
  have x2 : Grew Wi W2 := Grew.ext xx1 e2
  have y1_2 : Ext V1 W2 := (Rely.Ext.trans (Rely.Ext.refl V1) e2)
  have f11_2 := Qh1 hJ hJ1 y1_2
  refine QiE (m := m) (l := l) (args := #[.int .i64 (number + ((k : Nat) : Int)), .agg (ints .u8 (QaS ws (number + ((k : Nat) : Int))))]) 15 rfl rfl kj kj (hY (List.range k) k W2 f11_2 (by rw [List.length_range]; omega)) (fun W' hA => ?_) (fun W' hA => ?_)
  ·skip
   obtain ⟨W3, hW3⟩ : ∃ z, z = W' := ⟨_, rfl⟩
   rw [← hW3] at hA ⊢
   obtain ⟨hj10, hk10⟩ := hA
   have x3 : Grew Wi W3 := Grew.keepC x2 hk10
   refine Qcm (.bool false) 16 rfl (QbS _ _) rfl kj kj ?_
   refine QdK ?_
   refine hK9 _ _ ?_
   refine cond_false kj ?_
   refine wp_skip ?_
   refine hK8 _ _ ?_
   refine Qab ?_
   refine Qaa (.int .i64 (number + ((k : Nat) : Int))) 8 rfl kj kj ?_
   refine Qaa (.int .i64 (number + ((k + 1 : Nat) : Int))) 9 rfl kj (Qah (u := .int .i64 (IntKind.i64.wrap ((number + ((k : Nat) : Int)) + 1))) kj (congrArg (Value.int .i64) (by rw [show number + ((k : Nat) : Int) + 1 = number + ((k + 1 : Nat) : Int) by omega]; exact IntWalk.i64_in _ (by omega)))) ?_
   refine Qaa (.int .i64 (number + ((k + 1 : Nat) : Int))) 4 rfl kj kj ?_
   refine Qac ?_
   have r2_2 := (Qad rr1 e2)
   have r2_3 := (Qcr.row hk10 r2_2 n1)
   have r3_2 := (Qad rr2 e2)
   have r3_3 := (Qcr.row hk10 r3_2 n2)
   have r1_2 := (Qad rrq e2)
   have r1_3 := (Qcr.row hk10 r1_2 nq)
   repeat (first | with_reducible refine goX1 ?_ | with_reducible refine goX2 ?_ | with_reducible refine goX3 ?_)
   exact Qaz (k + 1) ⟨rfl, rfl, rfl, rfl, trivial⟩ ⟨(by omega), (by rw [List.range_succ]; exact hj10), r2_3, r3_3, r1_3, x3⟩ (by show r - (k + 1) < r - k; omega)
  ·skip
   obtain ⟨W3, hW3⟩ : ∃ z, z = W' := ⟨_, rfl⟩
   rw [← hW3] at hA ⊢
   refine Qcm (.bool true) 16 rfl (QbS _ _) rfl kj kj ?_
   refine QdK ?_
   refine hK9 _ _ ?_
   refine cond_true kj ?_
   refine wp_ret ?_
   repeat (first | with_reducible refine goR1 ?_ | with_reducible refine goR2 ?_)
   exact (show bodyPost _ _ _ .ret _ _ from ret0 rfl ⟨⟨_, rfl⟩, .inr ⟨_, ⟨k + 1, List.range_succ.symm, hlt⟩, hA⟩⟩)
 ·skip
  have hke : k = r := by have := of_decide_eq_false c7; omega
  refine wp_exit ?_
  repeat (first | with_reducible refine goX1 ?_ | with_reducible refine goX2 ?_ | with_reducible refine goX3 ?_)
  exact (show bodyPost _ _ _ .normal _ _ from end0 rfl ⟨⟨_, rfl⟩, .inl ⟨_, congrArg List.range hke, hJ1⟩⟩)
set_option maxRecDepth 100000 in
set_option maxHeartbeats 4000000 in
theorem Qi0 (key nonce : List Int) (v : Value) (B : Nat) (number : Int) (th tq : TypeId) (w : World) (hh : w.heap[0]? = some (.cells (ints .u32 [1634760805, 857760878, 2036477234, 1797285236]) th)) (hq : w.heap[1]? = some (.cells (ints .i64 [0, 4, 8, 12, 1, 5, 9, 13, 2, 6, 10, 14, 3, 7, 11, 15, 0, 5, 10, 15, 1, 6, 11, 12, 2, 7, 8, 13, 3, 4, 9, 14]) tq)) (hkl : key.length = 32) (hn : RdK .u8 B nonce v w) (h : nonce.length = 12) (h1 : 0 ≤ number) (h2 : number ≤ 4294967295) : Calls Tryd.prog 42 #[.agg (ints .u8 key), v, .int .i64 number] w (Qcb w (fun v W => ∃ g1 g2, v = .func (.func 51) #[] #[.pointer (some ⟨g1, 0, none⟩), .pointer (some ⟨g2, 0, none⟩)] ∧ w.heap.size ≤ g1 ∧ w.heap.size ≤ g2 ∧ W.heap[g1]? = some (.cells #[.int .i64 number] 3) ∧ W.heap[g2]? = some (.cells (ints .u32 ((QaG key nonce).map wv)) 88))) := by
  obtain ⟨a_n, c_n, rfl, -⟩ := id hn
  refine enter 16 [(0, .agg (ints .u8 (key))), (1, .slice a_n nonce.length c_n), (2, .int .i64 number)] Tryd.func42 rfl rfl kj rfl ?_
  refine wp_seq_k fun K3 hK3 => ?_
  refine Qab ?_
  refine Qar (ints .u8 (key)) 23 3 rfl kj kj fun g4 W1 l4 e1 r4_1 => ?_
  have x1 : Ext w W1 := Ext.tr (Rely.Ext.refl w) e1
  have b4 : w.heap.size ≤ g4 := Nat.le_trans (Rely.Ext.refl w).size l4
  refine Qar (#[.int .i64 number]) 3 5 rfl kj kj fun g5 W2 l5 e2 r5_2 => ?_
  have x2 : Ext w W2 := Ext.tr x1 e2
  have b5 : w.heap.size ≤ g5 := Nat.le_trans x1.size l5
  refine Qaa (.nilFunc) 6 rfl kj kj ?_
  refine Qac ?_
  refine hK3 _ _ ?_
  refine wp_seq_k fun K6 hK6 => ?_
  refine wp_seq_k fun K7 hK7 => ?_
  refine Qab ?_
  refine Qaa (.slice a_n nonce.length c_n) 8 rfl kj kj ?_
  refine Qaa (.int .i64 number) 9 rfl kj (Qae 3 _ g5 0 3 _ (.int .i64 number) _ r5_2 rfl kj kj kj) ?_
  refine Qa6 (.nilIface) 41 #[.slice a_n nonce.length c_n, .int .i64 number] 10 rfl kj kj ((Qg0 nonce _ _ number _ (RdK.ext hn x2) h h1 h2)) fun W3 e3 => ?_
  have x3 : Ext w W3 := Ext.tr x2 e3
  refine Qaa (.bool false) 11 rfl kj kj ?_
  refine Qac ?_
  refine hK7 _ _ ?_
  refine cond_false kj ?_
  refine wp_skip ?_
  refine hK6 _ _ ?_
  refine wp_seq_k fun K8 hK8 => ?_
  refine Qab ?_
  have r4_2 := (Qad r4_1 e2)
  have r4_3 := (Qad r4_2 e3)
  refine Qaa (.agg (ints .u8 (key))) 12 rfl kj (Qau 23 _ g4 23 _ _ r4_3 rfl kj kj (isz (n := 32) kj ((Qaf _ _).trans hkl))) ?_
  refine Qaa (.slice a_n nonce.length c_n) 13 rfl kj kj ?_
  have r2_1 := (Qad hh e1)
  have r2_2 := (Qad r2_1 e2)
  have r2_3 := (Qad r2_2 e3)
  refine Qa6 (.agg (ints .u32 ((QaG key nonce).map wv))) 50 #[.agg (ints .u8 (key)), .slice a_n nonce.length c_n] 14 rfl kj kj ((by rw [← Qjc]; exact Qjd key nonce _ _ th _ r2_3 hkl (RdK.ext hn x3) h)) fun W4 e4 => ?_
  have x4 : Ext w W4 := Ext.tr x3 e4
  refine Qar (ints .u32 ([0, 0, 0, 0, 0, 0, 0, 0, 0, 0, 0, 0, 0, 0, 0, 0])) 88 7 rfl kj kj fun g9 W5 l9 e5 r9_5 => ?_
  have x5 : Ext w W5 := Ext.tr x4 e5
  have b9 : w.heap.size ≤ g9 := Nat.le_trans x4.size l9
  refine Qal g9 _ (ints .u32 ((QaG key nonce).map wv)) 88 r9_5 rfl kj (Qap 88 _ _ g9 88 _ _ r9_5 rfl kj kj (isz (n := 16) kj ((Qaf _ _).trans (Qa9 (Qdu _ _)))) (eqsz (n := 16) kj ((Qaf _ _).trans (Qa9 (Qdu _ _)))) (QaB _ _)) fun W6 p6 r9_6 => ?_
  have x6 : Ext w W6 := Puts.ext p6 x5 b9
  refine Qac ?_
  refine hK8 _ _ ?_
  refine wp_seq_k fun K10 hK10 => ?_
  refine Qab ?_
  refine Qaa (.func (.func 51) #[] #[.pointer (some ⟨g5, 0, none⟩), .pointer (some ⟨g9, 0, none⟩)]) 15 rfl kj kj ?_
  refine Qaa (.func (.func 51) #[] #[.pointer (some ⟨g5, 0, none⟩), .pointer (some ⟨g9, 0, none⟩)]) 6 rfl kj kj ?_
  refine Qac ?_
  refine hK10 _ _ ?_
  refine wp_ret ?_
  repeat (first | with_reducible refine goR1 ?_ | with_reducible refine goR2 ?_)
  have r5_3 := (Qad r5_2 e3)
  have r5_4 := (Qad r5_3 e4)
  have r5_5 := (Qad r5_4 e5)
  have r5_6 := (Puts.row p6 r5_5 (Qag r5_4 l9))
  exact (show bodyPost _ _ _ .ret _ _ from ret1 (.func (.func 51) #[] #[.pointer (some ⟨g5, 0, none⟩), .pointer (some ⟨g9, 0, none⟩)]) rfl (QaC kj) ⟨_, rfl, x6, _, _, rfl, b5, b9, r5_6, r9_6⟩)
end Go.Proofs.YtjldjdlhllgakaaDoor.Cha
end
section
namespace Go.Proofs.YtjldjdlhllgakaaDoor.Cha
open Go Go.RowKit
open Rely Auto Own Sha
set_option linter.unusedVariables false
set_option linter.unusedSimpArgs false
open Sha
def pg (pre : List Nat) (j : Nat) : Nat := pre.getD j 0
theorem Qj8 (pre : List Nat) (x : Nat) : pg (pre ++ [x]) pre.length = x := by simp [pg]
theorem Qk7 (pre : List Nat) (x j : Nat) (h : j < pre.length) : pg (pre ++ [x]) j = pg pre j := by
  unfold pg
  rw [List.getD_eq_getElem?_getD, List.getD_eq_getElem?_getD, List.getElem?_append_left h]
theorem Qi1 (k j : Nat) (h : j < k) : pg (List.range k) j = j := by
  unfold pg
  rw [List.getD_eq_getElem?_getD, List.getElem?_range h]; rfl
theorem QgJ (text : List Int) (ws : List Wd) (num : Int) (f g : Nat → Nat) (n m : Nat) (h : ∀ i, i < m → f (i / 64) = g (i / 64)) : (mxv text ws num f n).take m = (mxv text ws num g n).take m := by
  unfold mxv
  rw [← List.map_take, ← List.map_take, List.take_range]
  refine List.map_congr_left fun i hi => ?_
  rw [List.mem_range] at hi
  rw [h i (by omega)]
theorem QhP (text : List Int) (ws : List Wd) (num : Int) (f : Nat → Nat) (n m : Nat) (h : m < n) : nth (mxv text ws num f n) m = bits .xor .u8 (nth text m) (nth (QaS ws (num + ((f (m / 64) : Nat) : Int))) (m % 64)) := by
  rw [show nth (mxv text ws num f n) m = (mxv text ws num f n).getD m 0 from rfl]
  unfold mxv
  rw [List.getD_eq_getElem?_getD, List.getElem?_map, List.getElem?_range h]; rfl
theorem QjB (text : List Int) (ws : List Wd) (num : Int) (pre : List Nat) (x n : Nat) : Qbs (mxv text ws num (pg pre) n) n (64 * pre.length) = Qbs (mxv text ws num (pg (pre ++ [x])) n) n (64 * pre.length) := by
  unfold Qbs
  rw [QgJ text ws num (pg pre) (pg (pre ++ [x])) n _ fun i hi => (Qk7 pre x (i / 64) (by omega)).symm]
theorem Qki (text : List Int) (ws : List Wd) (num : Int) (pre : List Nat) (x n j : Nat) (hj : j < 64) (h : 64 * pre.length + j < n) : nth (mxv text ws num (pg (pre ++ [x])) n) (64 * pre.length + j) = bits .xor .u8 (nth text (64 * pre.length + j)) (nth (QaS ws (num + ((x : Nat) : Int))) j) := by
  rw [QhP _ _ _ _ _ _ h, show (64 * pre.length + j) / 64 = pre.length by omega, show (64 * pre.length + j) % 64 = j by omega, Qj8]
theorem QhQ (text : List Int) (ws : List Wd) (num : Int) (k : Nat) (h : text.length ≤ 64 * k) : mxv text ws num (pg (List.range k)) text.length = mixV ws num text := by
  have h2 := QgJ text ws num (pg (List.range k)) id text.length text.length fun i hi => Qi1 k (i / 64) (by omega)
  rw [List.take_of_length_le (by rw [Qdo]; omega), List.take_of_length_le (by rw [Qdo]; omega)] at h2
  exact h2
theorem QbJ (ws : List Wd) (num : Int) (text : List Int) : (mixV ws num text).length = text.length := Qdo _ _ _ _ _
set_option maxRecDepth 100000 in
set_option maxHeartbeats 4000000 in
theorem QkB (key nonce text : List Int) (v v2 : Value) (B B2 : Nat) (number : Int) (th tq : TypeId) (w : World) (hh : w.heap[0]? = some (.cells (ints .u32 [1634760805, 857760878, 2036477234, 1797285236]) th)) (hq : w.heap[1]? = some (.cells (ints .i64 [0, 4, 8, 12, 1, 5, 9, 13, 2, 6, 10, 14, 3, 7, 11, 15, 0, 5, 10, 15, 1, 6, 11, 12, 2, 7, 8, 13, 3, 4, 9, 14]) tq)) (hkl : key.length = 32) (hn : RdK .u8 B nonce v w) (ht : RdK .u8 B2 text v2 w) (h : nonce.length = 12) (r : Nat) (hr : number + (r : Int) = 4294967296) (h1 : 0 ≤ number) (h2 : number ≤ 4294967295) (hfit : text.length ≤ 64 * r) (htl : text.length ≤ 2000000) : Calls Tryd.prog 32 #[.agg (ints .u8 key), v, .int .i64 number, v2] w (Qcb w (fun v W => ∃ u, v = .tuple #[u, .nilIface] ∧ OwnN .u8 5 w.heap.size (mixV (QaG key nonce) number text) u W)) := by
 obtain ⟨a_n, c_n, rfl, -⟩ := id hn
 obtain ⟨a_t, c_t, rfl, -⟩ := id ht
 refine Qko 64 [(0, .agg (ints .u8 (key))), (1, .slice a_n nonce.length c_n), (2, .int .i64 number), (3, .slice a_t text.length c_t)] Tryd.func32 rfl rfl kj rfl ?_
 refine wp_seq_k fun K3 hK3 => ?_
 refine Qab ?_
 refine Qar (ints .u8 (key)) 23 4 rfl kj kj fun g4 W1 l4 e1 r4_1 => ?_
 have x1 : Ext w W1 := Ext.tr (Rely.Ext.refl w) e1
 have b4 : w.heap.size ≤ g4 := Nat.le_trans (Rely.Ext.refl w).size l4
 refine Qar (#[.slice a_t text.length c_t]) 24 7 rfl kj kj fun g5 W2 l5 e2 r5_2 => ?_
 have x2 : Ext w W2 := Ext.tr x1 e2
 have b5 : w.heap.size ≤ g5 := Nat.le_trans x1.size l5
 refine Qaa (.slice none 0 0) 8 rfl kj kj ?_
 refine Qaa (.nilIface) 9 rfl kj kj ?_
 refine Qac ?_
 refine hK3 _ _ ?_
 refine wp_scope_straight ?_
 refine wp_seq_k fun K6 hK6 => ?_
 refine wp_seq_k fun K7 hK7 => ?_
 refine Qab ?_
 refine Qaa (.slice a_n nonce.length c_n) 17 rfl kj kj ?_
 refine Qaa (.int .i64 number) 18 rfl kj kj ?_
 refine Qa6 (.nilIface) 41 #[.slice a_n nonce.length c_n, .int .i64 number] 19 rfl kj kj ((Qg0 nonce _ _ number _ (RdK.ext hn x2) h h1 h2)) fun W3 e3 => ?_
 have x3 : Ext w W3 := Ext.tr x2 e3
 refine Qaa (.nilIface) 10 rfl kj kj ?_
 refine Qac ?_
 refine hK7 _ _ ?_
 refine wp_seq_k fun K8 hK8 => ?_
 refine Qab ?_
 refine Qaa (.nilIface) 20 rfl kj kj ?_
 refine Qaa (.bool false) 21 rfl kj kj ?_
 refine Qac ?_
 refine hK8 _ _ ?_
 refine cond_false kj ?_
 refine wp_skip ?_
 refine hK6 _ _ ?_
 refine wp_seq_k fun K9 hK9 => ?_
 refine wp_seq_k fun K10 hK10 => ?_
 refine Qab ?_
 have r5_3 := (Qad r5_2 e3)
 refine Qaa (.slice a_t text.length c_t) 23 rfl kj (Qae 24 _ g5 0 24 _ (.slice a_t text.length c_t) _ r5_3 rfl kj kj kj) ?_
 refine Qaa (.int .i64 ((text.length : Nat) : Int)) 24 rfl kj kj ?_
 refine Qaa (.int .i64 ((text.length + 64 : Nat) : Int)) 25 rfl kj (Qah (u := .int .i64 (IntKind.i64.wrap (((text.length : Nat) : Int) + 64))) kj (congrArg (Value.int .i64) (i64n _ _ (by omega) (by omega)))) ?_
 refine Qaa (.int .i64 (((text.length + 64) - 1 : Nat) : Int)) 26 rfl kj (Qah (u := .int .i64 (IntKind.i64.wrap (((text.length + 64 : Nat) : Int) - 1))) kj (congrArg (Value.int .i64) (i64n _ _ (by omega) (by omega)))) ?_
 refine Qaa (.int .i64 ((((text.length + 64) - 1) / 64 : Nat) : Int)) 27 rfl kj (Qah (u := .int .i64 (IntKind.i64.wrap (Int.tdiv ((((text.length + 64) - 1 : Nat) : Int)) (64)))) kj (congrArg (Value.int .i64) (Qde _ 64 (by omega)))) ?_
 refine Qaa (.int .i64 ((((text.length + 64) - 1) / 64 : Nat) : Int)) 11 rfl kj kj ?_
 refine Qac ?_
 refine hK10 _ _ ?_
 refine wp_seq_k fun K11 hK11 => ?_
 refine Qab ?_
 refine Qaa (.int .i64 ((((text.length + 64) - 1) / 64 : Nat) : Int)) 28 rfl kj kj ?_
 refine Qaa (.int .i64 number) 29 rfl kj kj ?_
 refine Qaa (.int .i64 (((r - 1 : Nat) : Int))) 30 rfl kj (Qah (u := .int .i64 (IntKind.i64.wrap (4294967295 - number))) kj (congrArg (Value.int .i64) (by rw [show (4294967295 - number : Int) = ((r - 1 : Nat) : Int) by omega]; exact IntWalk.i64_in _ (by omega)))) ?_
 refine Qaa (.int .i64 (((r - 1) + 1 : Nat) : Int)) 31 rfl kj (Qah (u := .int .i64 (IntKind.i64.wrap ((((r - 1 : Nat) : Int)) + 1))) kj (congrArg (Value.int .i64) (i64n _ _ (by omega) (by omega)))) ?_
 refine Qaa (.bool false) 32 rfl kj (Qah (u := .bool (decide (((((text.length + 64) - 1) / 64 : Nat) : Int) > (((r - 1) + 1 : Nat) : Int)))) kj (congrArg Value.bool (decide_eq_false (by omega)))) ?_
 refine Qac ?_
 refine hK11 _ _ ?_
 refine cond_false kj ?_
 refine wp_skip ?_
 refine hK9 _ _ ?_
 refine wp_seq_k fun K12 hK12 => ?_
 refine Qab ?_
 refine Qaa (.slice a_t text.length c_t) 34 rfl kj (Qae 24 _ g5 0 24 _ (.slice a_t text.length c_t) _ r5_3 rfl kj kj kj) ?_
 refine Qaa (.int .i64 ((text.length : Nat) : Int)) 35 rfl kj kj ?_
 refine Qh8 (ints .u8 (List.replicate (text.length) 0)) 5 0 (text.length) 36 rfl kj (QhB 24 _ _ .i64 .i64 0 (text.length) 5 rfl kj kj kj (.inr kj) (Nat.zero_le _) (by omega)) fun g13 W4 l13 e4 r13_4 => ?_
 have x4 : Ext w W4 := Ext.tr x3 e4
 have b13 : w.heap.size ≤ g13 := Nat.le_trans x3.size l13
 refine Qar (#[.slice none 0 0]) 24 12 rfl kj kj fun g14 W5 l14 e5 r14_5 => ?_
 have x5 : Ext w W5 := Ext.tr x4 e5
 have b14 : w.heap.size ≤ g14 := Nat.le_trans x4.size l14
 refine Qal g14 _ (#[.slice (some ⟨g13, 0, none⟩) 0 text.length]) 24 r14_5 rfl kj (QbX 24 _ _ g14 0 24 _ (.slice (some ⟨g13, 0, none⟩) 0 text.length) r14_5 rfl kj kj kj kj kj rfl) fun W6 p6 r14_6 => ?_
 have x6 : Ext w W6 := Puts.ext p6 x5 b14
 refine Qac ?_
 refine hK12 _ _ ?_
 refine wp_seq_k fun K15 hK15 => ?_
 refine wp_label ?_
 refine hK15 _ _ ?_
 refine wp_seq_k fun K16 hK16 => ?_
 refine wp_seq_k fun K17 hK17 => ?_
 refine Qab ?_
 have r4_2 := (Qad r4_1 e2)
 have r4_3 := (Qad r4_2 e3)
 have r4_4 := (Qad r4_3 e4)
 have r4_5 := (Qad r4_4 e5)
 have r4_6 := (Puts.row p6 r4_5 (Qag r4_4 l14))
 refine Qaa (.agg (ints .u8 (key))) 37 rfl kj (Qau 23 _ g4 23 _ _ r4_6 rfl kj kj (isz (n := 32) kj ((Qaf _ _).trans hkl))) ?_
 refine Qaa (.slice a_n nonce.length c_n) 38 rfl kj kj ?_
 refine Qaa (.int .i64 number) 39 rfl kj kj ?_
 have r2_1 := (Qad hh e1)
 have r2_2 := (Qad r2_1 e2)
 have r2_3 := (Qad r2_2 e3)
 have r2_4 := (Qad r2_3 e4)
 have r2_5 := (Qad r2_4 e5)
 have r2_6 := (Puts.row p6 r2_5 (Qag r2_4 l14))
 have r1_1 := (Qad hq e1)
 have r1_2 := (Qad r1_1 e2)
 have r1_3 := (Qad r1_2 e3)
 have r1_4 := (Qad r1_3 e4)
 have r1_5 := (Qad r1_4 e5)
 have r1_6 := (Puts.row p6 r1_5 (Qag r1_4 l14))
 refine Qaw (fun v W' => (fun v W => ∃ g1 g2, v = .func (.func 51) #[] #[.pointer (some ⟨g1, 0, none⟩), .pointer (some ⟨g2, 0, none⟩)] ∧ W6.heap.size ≤ g1 ∧ W6.heap.size ≤ g2 ∧ W.heap[g1]? = some (.cells #[.int .i64 number] 3) ∧ W.heap[g2]? = some (.cells (ints .u32 ((QaG key nonce).map wv)) 88)) v W' ∧ Ext W6 W') 42 #[.agg (ints .u8 (key)), .slice a_n nonce.length c_n, .int .i64 number] 40 rfl kj kj ((Qi0 key nonce _ _ number th tq _ r2_6 r1_6 hkl (RdK.ext hn x6) h h1 h2).mono (by rintro e w' ⟨v, rfl, e1, hv⟩; exact ⟨v, rfl, hv, e1⟩)) fun vv18 W7 hh18 => ?_
 obtain ⟨hv18, e7⟩ := hh18
 have x7 : Ext w W7 := Ext.tr x6 e7
 obtain ⟨gp1, gp2, rfl, lp1, lp2, rp1, rp2⟩ := hv18
 refine Qac ?_
 refine hK17 _ _ ?_
 refine wp_block ?_
 have r5_4 := (Qad r5_3 e4)
 have r5_5 := (Qad r5_4 e5)
 have r5_6 := (Puts.row p6 r5_5 (Qag r5_4 l14))
 have r5_7 := (Qad r5_6 e7)
 have r14_7 := (Qad r14_6 e7)
 have r13_5 := (Qad r13_4 e5)
 have r13_6 := (Puts.row p6 r13_5 (Qag r13_4 l14))
 have r13_7 := (Qad r13_6 e7)
 have r1_7 := (Qad r1_6 e7)
 have nb712 : g5 ≠ g14 := (Qag r5_4 l14)
 have nb7O : g5 ≠ g13 := (Qag r5_3 l13)
 have nb127 : g14 ≠ g5 := (Qat r5_4 l14)
 have nb12O : g14 ≠ g13 := (Qat r13_4 l14)
 have nbO7 : g13 ≠ g5 := (Qat r5_3 l13)
 have nbO12 : g13 ≠ g14 := (Qag r13_4 l14)
 have hgs : ∀ c ∈ ([g14, g13] : List Nat), w.heap.size ≤ c := (fun c hc => by simp only [List.mem_cons, List.not_mem_nil, or_false] at hc; rcases hc with rfl | rfl; exact b14; exact b13)
 have hgp : ∀ c ∈ ([g14, g13] : List Nat), c < W6.heap.size := (fun c hc => by simp only [List.mem_cons, List.not_mem_nil, or_false] at hc; rcases hc with rfl | rfl; exact QaA r14_6; exact QaA r13_6)
 refine Qgk (gf := 51) (lb := #[.pointer (some ⟨gp1, 0, none⟩), .pointer (some ⟨gp2, 0, none⟩)]) (enc := fun x : Nat => .int .i64 (number + ((x : Nat) : Int))) (enc2 := fun x : Nat => .agg (ints .u8 (QaS (QaG key nonce) (number + ((x : Nat) : Int))))) kj (enters_of Tryd.func51 kj rfl) (QfM 2 [g14, g13] gp1 gp2 (QaG key nonce) number r tq W7 hr h1 h2 (Qdu _ _) r1_7 rp1 rp2 (fun hm => by have := hgp _ hm; omega) (fun hm => by have := hgp _ hm; omega) (fun hm => by have h1 := hgs _ hm; have h2 := QaA hq; omega)) (fun h k => Qcr.trans h k) Qcr.book (Below.refl _ _)
   (fun pre W => ((W.heap[g5]? = some (.cells (#[.slice a_t text.length c_t]) 24)) ∧ (W.heap[g14]? = some (.cells (#[.slice (some ⟨g13, 0, none⟩) (64 * pre.length) text.length]) 24)) ∧ (W.heap[g13]? = some (.cells (ints .u8 (Qbs (mxv text (QaG key nonce) number (pg pre) text.length) text.length (64 * pre.length))) 5)) ∧ 64 * pre.length ≤ text.length ∧ W7.heap.size ≤ W.heap.size) ∧ Ext w W)
   (fun c pre W => (c = .exit 0 ∧ text.length ≤ 64 * pre.length ∧ (W.heap[g14]? = some (.cells (#[.slice (some ⟨g13, 0, none⟩) (text.length) text.length]) 24)) ∧ (W.heap[g13]? = some (.cells (ints .u8 (Qbs (mxv text (QaG key nonce) number (pg pre) text.length) text.length (text.length))) 5))) ∧ Ext w W) (OwnFrom.and (Own.from (fun s A B row hs hg hr => ⟨Qdb hs.1 hg hr, Qdb hs.2.1 hg hr, Qdb hs.2.2.1 hg hr, hs.2.2.2.1, Nat.le_trans hs.2.2.2.2 hg.size⟩) _) (ownFrom_below (Nat.le_refl _) x7.size)) (fun c => OwnFrom.and (Own.from (fun s A B row hs hg hr => ⟨hs.1, hs.2.1, Qdb hs.2.2.1 hg hr, Qdb hs.2.2.2 hg hr⟩) _) (ownFrom_below (Nat.le_refl _) x7.size)) ⟨⟨r5_7, r14_7, QaO r13_7 (Qb5 _ _), Nat.zero_le _, Nat.le_refl _⟩, x7⟩ (fun e => Qcr.ext e) (fun pre A B h e => ⟨⟨Qad h.1.1 e, Qad h.1.2.1 e, Qad h.1.2.2.1 e, h.1.2.2.2.1, Nat.le_trans h.1.2.2.2.2 e.size⟩, Rely.Ext.trans h.2 e⟩) (fun pre W h => h.1.2.2.2.2) (fun x g => [(14, .pointer (some ⟨g, 0, none⟩)), (42, .agg (ints .u8 (QaS (QaG key nonce) (number + ((x : Nat) : Int))))), (41, .int .i64 (number + ((x : Nat) : Int)))]) (fun x => ints .u8 (QaS (QaG key nonce) (number + ((x : Nat) : Int)))) 78 (fun l x W K hK => ?_) (fun l pre x gP Wr hgP hI rP hp => ?_) (fun D ys W lD hS hI rD => ?_) (fun D c pre W lD hSp hIx rD => ?_)
 ·skip
  refine QbL ?_
  refine QiG (ints .u8 (List.replicate 64 0)) 78 14 rfl (Qbu l 1 _) rfl kj kj fun g301 W1 l301 e1 r301_1 => ?_
  have x1 : Ext W W1 := Ext.tr (Rely.Ext.refl W) e1
  have b301 : W.heap.size ≤ g301 := Nat.le_trans (Rely.Ext.refl W).size l301
  refine QgQ g301 _ (ints .u8 (QaS (QaG key nonce) (number + ((x : Nat) : Int)))) 78 r301_1 rfl (Qbu l 1 _) rfl kj (Qap 78 _ _ g301 78 _ _ r301_1 rfl kj kj (isz (n := 64) kj ((Qaf _ _).trans (Qbe _ _))) (eqsz (n := 64) ((Qaf _ _).trans (List.length_replicate (n := 64))) ((Qaf _ _).trans (Qbe _ _))) (QaB _ _)) fun W2 p2 r301_2 => ?_
  have x2 : Ext W W2 := Puts.ext p2 x1 b301
  refine QdK ?_
  have y0_1 : Ext W W1 := (Rely.Ext.trans (Rely.Ext.refl W) e1)
  have y0_2 : Ext W W2 := (Puts.ext p2 y0_1 l301)
  exact hK _ _ l301 y0_2 r301_2
 ·skip
  obtain ⟨⟨q7, q12, qO, hml, hsz⟩, xx⟩ := hI
  replace qO := QaO qO (QjB text (QaG key nonce) number pre x text.length)
  have hl1 : (pre ++ [x]).length = pre.length + 1 := by simp
  have n147 : gP ≠ g5 := by have h1 := QaA r5_7; omega
  have n1412 : gP ≠ g14 := by have h1 := QaA r14_7; omega
  have n14O : gP ≠ g13 := by have h1 := QaA r13_7; omega
  refine wpIn_block ?_
  refine wpIn_seq_k fun K505 hK505 => ?_
  refine QbL ?_
  refine Qcm (.agg (ints .u8 (QaS (QaG key nonce) (number + ((x : Nat) : Int))))) 43 rfl (Qbu l 1 _) rfl kj (Qau 78 _ gP 78 _ _ rP rfl kj kj (isz (n := 64) kj ((Qaf _ _).trans (Qbe _ _)))) ?_
  refine Qcm (.int .i64 0) 44 rfl (Qbu l 1 _) rfl kj kj ?_
  refine QdK ?_
  refine hK505 _ _ ?_
  refine wpIn_block ?_
  refine Qgp (fun (s1 : Nat) => [(7, .pointer (some ⟨g5, 0, none⟩)), (12, .pointer (some ⟨g14, 0, none⟩)), (43, .agg (ints .u8 (QaS (QaG key nonce) (number + ((x : Nat) : Int))))), (44, .int .i64 ((s1 : Nat) : Int))]) (fun (s1 : Nat) W => (s1 ≤ 64) ∧ (64 * pre.length + s1 ≤ text.length) ∧ (W.heap[g14]? = some (.cells (#[.slice (some ⟨g13, 0, none⟩) (64 * pre.length + s1) text.length]) 24)) ∧ (W.heap[g13]? = some (.cells (ints .u8 (Qbs (mxv text (QaG key nonce) number (pg (pre ++ [x])) text.length) text.length (64 * pre.length + s1))) 5)) ∧ (Qax [g14, g13] Wr W) ∧ (Ext w W)) (fun (s1 : Nat) => 64 - s1) 0 ⟨rfl, rfl, rfl, rfl, trivial⟩ ⟨(Nat.zero_le _), (by omega), q12, qO, (Qax.refl [g14, g13] Wr), xx⟩ fun s1 X1 V1 hI1 => ?_
  obtain ⟨j, hs1⟩ : ∃ z, z = s1 := ⟨_, rfl⟩
  subst hs1
  obtain ⟨hj, hmj, q503_1, q501_1, kk1, xx1⟩ := hI1
  replace hj : j ≤ 64 := hj
  replace hmj : 64 * pre.length + j ≤ text.length := hmj
  replace q503_1 : V1.heap[g14]? = some (.cells (#[.slice (some ⟨g13, 0, none⟩) (64 * pre.length + j) text.length]) 24) := q503_1
  replace q501_1 : V1.heap[g13]? = some (.cells (ints .u8 (Qbs (mxv text (QaG key nonce) number (pg (pre ++ [x])) text.length) text.length (64 * pre.length + j))) 5) := q501_1
  replace kk1 : Qax [g14, g13] Wr V1 := kk1
  replace xx1 : Ext w V1 := xx1
  have q1 := kk1
  refine wpIn_seq_k fun K506 hK506 => ?_
  refine QbL ?_
  refine Qcm (.bool (decide (((j : Nat) : Int) < 64))) 45 rfl (Qbu l 1 _) rfl kj kj ?_
  refine QdK ?_
  refine hK506 _ _ ?_
  refine wpIn_seq_k fun K507 hK507 => ?_
  refine QdL (t := decide (((j : Nat) : Int) < 64)) kj (fun c508 => ?_) (fun c508 => ?_)
  ·skip
   have hlt45 : j < 64 := by have := of_decide_eq_true c508; omega
   refine wpIn_skip ?_
   refine hK507 _ _ ?_
   refine wpIn_seq_k fun K509 hK509 => ?_
   refine wpIn_block ?_
   refine wpIn_seq_k fun K510 hK510 => ?_
   refine QbL ?_
   refine Qcm (.int .u8 (nth (QaS (QaG key nonce) (number + ((x : Nat) : Int))) j)) 46 rfl (Qbu l 1 _) rfl kj (QaI 78 _ _ .i64 .u8 (QaS (QaG key nonce) (number + ((x : Nat) : Int))) j 64 5 (nth (QaS (QaG key nonce) (number + ((x : Nat) : Int))) j) rfl kj kj kj kj kj (Qbe _ _) (by omega) rfl) ?_
   refine Qcm (.int .u8 (nth (QaS (QaG key nonce) (number + ((x : Nat) : Int))) j)) 16 rfl (Qbu l 1 _) rfl kj kj ?_
   refine QdK ?_
   refine hK510 _ _ ?_
   refine wpIn_seq_k fun K511 hK511 => ?_
   refine wpIn_seq_k fun K512 hK512 => ?_
   refine QbL ?_
   refine Qcm (.slice (some ⟨g13, 0, none⟩) (64 * pre.length + j) text.length) 47 rfl (Qbu l 1 _) rfl kj (Qae 24 _ g14 0 24 _ (.slice (some ⟨g13, 0, none⟩) (64 * pre.length + j) text.length) _ q503_1 rfl kj kj kj) ?_
   refine Qcm (.int .i64 ((64 * pre.length + j : Nat) : Int)) 48 rfl (Qbu l 1 _) rfl kj kj ?_
   have r502_1 := (Qax.row q1 q7 (Qbi nb712 (Qbi nb7O Qb8)))
   refine Qcm (.slice a_t text.length c_t) 49 rfl (Qbu l 1 _) rfl kj (Qae 24 _ g5 0 24 _ (.slice a_t text.length c_t) _ r502_1 rfl kj kj kj) ?_
   refine Qcm (.int .i64 ((text.length : Nat) : Int)) 50 rfl (Qbu l 1 _) rfl kj kj ?_
   refine Qcm (.bool ((((64 * pre.length + j : Nat) : Int) == ((text.length : Nat) : Int)))) 51 rfl (Qbu l 1 _) rfl kj kj ?_
   refine QdK ?_
   refine hK512 _ _ ?_
   refine QdL (t := (((64 * pre.length + j : Nat) : Int) == ((text.length : Nat) : Int))) kj (fun c513 => ?_) (fun c513 => ?_)
   ·skip
    have hmn : 64 * pre.length + j = text.length := by have := eq_of_beq c513; omega
    refine wpIn_exit ?_
    repeat (first | with_reducible refine goX1 ?_ | with_reducible refine goXj (by decide) ?_)
    have hq12 := q503_1
    have hqO := q501_1
    rw [hmn] at hq12 hqO
    exact ⟨(Qen q1 (fun c hc => by simp only [List.mem_cons, List.not_mem_nil, or_false] at hc; rcases hc with rfl | rfl; exact ⟨_, _, q12⟩; exact ⟨_, _, qO⟩)), ⟨rfl, by rw [hl1]; omega, hq12, hqO⟩, xx1⟩
   ·skip
    have hmn : 64 * pre.length + j < text.length := by
     rcases Nat.lt_or_ge (64 * pre.length + j) text.length with hh | hh
     ·exact hh
     ·exfalso; have e : (((64 * pre.length + j : Nat) : Int) == ((text.length : Nat) : Int)) = true := by rw [beq_iff_eq]; omega
      rw [e] at c513; cases c513
    obtain ⟨gt, ot, hat, -, hlt_, hct⟩ := Qb4 (RdK.ext ht xx1) (by omega)
    refine wpIn_skip ?_
    refine hK511 _ _ ?_
    refine Qhv 9 [⟨none, [(12, none)]⟩, ⟨none, [(7, none)]⟩, ⟨none, [(12, none)]⟩, ⟨none, [(54, some 2)]⟩, ⟨none, [(53, some 1), (55, some 3)]⟩, ⟨none, [(56, some 4)]⟩, ⟨none, [(16, none)]⟩, ⟨none, [(57, some 5), (58, some 6)]⟩, ⟨none, [(59, some 7)]⟩] (Qbu l 1 _) rfl kj kj fun F hF => ?_
    refine Qbm (Qam _) (.slice (some ⟨g13, 0, none⟩) (64 * pre.length + j) text.length) kj kj (fun W hR => (Qae 24 _ g14 0 24 _ (.slice (some ⟨g13, 0, none⟩) (64 * pre.length + j) text.length) _ (Qad (Qad q503_1 (Qai _)) hR) rfl kj kj kj)) ?_
    refine Qbm (Qam _) (.slice a_t text.length c_t) kj kj (fun W hR => (Qae 24 _ g5 0 24 _ (.slice a_t text.length c_t) _ (Qad (Qad r502_1 (Qai _)) hR) rfl kj kj kj)) ?_
    refine Qbm (Qam _) (.slice (some ⟨g13, 0, none⟩) (64 * pre.length + j) text.length) kj kj (fun W hR => (Qae 24 _ g14 0 24 _ (.slice (some ⟨g13, 0, none⟩) (64 * pre.length + j) text.length) _ (Qad (Qad q503_1 (Qai _)) hR) rfl kj kj kj)) ?_
    refine Qa2 (Qam _) (.int .i64 ((64 * pre.length + j : Nat) : Int)) kj kj (fun W => by kernel_rfl) ?_
    refine Qa2 (Qam _) (.pointer (some ⟨gt, ot + (64 * pre.length + j), none⟩)) kj kj (fun W => (QaJ 24 _ _ .i64 (64 * pre.length + j) gt ot text.length c_t 5 a_t _ hat rfl rfl kj kj kj kj (Nat.lt_of_lt_of_eq (show 64 * pre.length + j < text.length by omega) (rfl : text.length = text.length).symm))) ?_
    refine Qbm (Qam _) (.int .u8 (nth (text) ((64 * pre.length + j)))) kj kj (fun W hR => (Qav 5 _ _ (.int .u8 (nth (text) ((64 * pre.length + j)))) ((Below.cell (Rely.Ext.trans (Qai _) hR) hlt_).trans (hct (64 * pre.length + j) (Nat.lt_of_lt_of_eq (show 64 * pre.length + j < text.length by omega) (rfl : text.length = text.length).symm))) rfl kj kj)) ?_
    refine Qa2 (Qam _) (.int .u8 (nth (QaS (QaG key nonce) (number + ((x : Nat) : Int))) j)) kj kj (fun W => by kernel_rfl) ?_
    refine Qa2 (Qam _) (.int .u8 (bits .xor .u8 ((nth (text) ((64 * pre.length + j)))) ((nth (QaS (QaG key nonce) (number + ((x : Nat) : Int))) j)))) kj kj (fun W => by kernel_rfl) ?_
    refine QgU (Qam _) (ints .u8 ([(bits .xor .u8 ((nth (text) ((64 * pre.length + j)))) ((nth (QaS (QaG key nonce) (number + ((x : Nat) : Int))) j)))])) 5 1 (NewS.stable _ _ _ _) kj kj (fun W => by kernel_rfl) ?_
    refine QcG (hF _ fun W2 e2 => ?_)
    simp only [List.nil_append, List.cons_append, List.take_succ_cons, List.take_zero, List.drop_succ_cons, List.drop_zero, finE, up]
    intro vv514 hv514
    clear hF
    have x2 : Ext w W2 := Ext.tr xx1 e2
    obtain ⟨g514, rfl, l514, r514_2⟩ := hv514
    have b514 : w.heap.size ≤ g514 := Nat.le_trans xx1.size l514
    have r501_2 := (Qad q501_1 e2)
    refine QjI (.slice (some ⟨g13, 0, none⟩) (64 * pre.length + j + 1) text.length) 61 rfl (Qbu l 1 _) rfl kj r501_2 (QfJ (k := .u8) (b := 1) (.tmp 52) (.tmp 60) 24 rfl kj kj kj kj r501_2 (Qb9 _ _ _ (Qdo _ _ _ _ _) (by omega)) (by omega) r514_2) fun W3 p3 r501_3 => ?_
    have x3 : Ext w W3 := Puts.ext p3 x2 b13
    have r501_3_515 : W3.heap[g13]? = some (.cells (ints .u8 (Qbs (mxv text (QaG key nonce) number (pg (pre ++ [x])) text.length) text.length (64 * pre.length + (j + 1)))) 5) := QaO r501_3 (by rw [← Qki text (QaG key nonce) number pre x text.length j hlt45 hmn]; exact Qb6 _ text.length (64 * pre.length + j) (Qdo _ _ _ _ _) hmn)
    have r503_2 := (Qad q503_1 e2)
    have r503_3 := (Puts.row p3 r503_2 nb12O)
    refine QgQ g14 _ (#[.slice (some ⟨g13, 0, none⟩) (64 * pre.length + j + 1) text.length]) 24 r503_3 rfl (Qbu l 1 _) rfl kj (QbX 24 _ _ g14 0 24 _ (.slice (some ⟨g13, 0, none⟩) (64 * pre.length + j + 1) text.length) r503_3 rfl kj kj kj kj kj rfl) fun W4 p4 r503_4 => ?_
    have x4 : Ext w W4 := Puts.ext p4 x3 b14
    refine QdK ?_
    refine hK509 _ _ ?_
    refine QbL ?_
    refine Qcm (.int .i64 ((j + 1 : Nat) : Int)) 62 rfl (Qbu l 1 _) rfl kj (Qah (u := .int .i64 (IntKind.i64.wrap (((j : Nat) : Int) + 1))) kj (congrArg (Value.int .i64) (i64n _ _ (by omega) (by omega)))) ?_
    refine Qcm (.int .i64 ((j + 1 : Nat) : Int)) 44 rfl (Qbu l 1 _) rfl kj kj ?_
    refine QdK ?_
    have r501_4 := (Puts.row p4 r501_3_515 nbO12)
    repeat (first | with_reducible refine goX1 ?_ | with_reducible refine goX2 ?_ | with_reducible refine goX3 ?_)
    exact Qaz (j + 1) ⟨rfl, rfl, rfl, rfl, trivial⟩ ⟨(by omega), (by omega), r503_4, r501_4, (Qax.puts (Qax.puts (Qax.step q1 e2) p3 (.inl (by simp))) p4 (.inl (by simp))), x4⟩ (by show 64 - (j + 1) < 64 - j; omega)
  ·skip
   have heq45 : j = 64 := by have := of_decide_eq_false c508; omega
   refine wpIn_exit ?_
   subst heq45
   repeat (first | with_reducible refine goX1 ?_ | with_reducible refine goX2 ?_ | with_reducible refine goX3 ?_)
   have r502_1 := (Qax.row q1 q7 (Qbi nb712 (Qbi nb7O Qb8)))
   exact ⟨(Qen q1 (fun c hc => by simp only [List.mem_cons, List.not_mem_nil, or_false] at hc; rcases hc with rfl | rfl; exact ⟨_, _, q12⟩; exact ⟨_, _, qO⟩)), (Qcr.keeps q1), ⟨r502_1, by rw [hl1, Nat.mul_add]; exact q503_1, by rw [hl1, Nat.mul_add]; exact q501_1, by rw [hl1]; omega, Nat.le_trans hsz (Nat.le_trans (Nat.le_refl _) (Qax.size q1))⟩, xx1⟩
 ·obtain ⟨⟨-, q12, qO, hml, -⟩, xx⟩ := hI
  subst hS
  rw [List.length_range] at q12 qO hml
  have hge : text.length ≤ 64 * r := by omega
  have hee : 64 * r = text.length := by omega
  rw [hee] at q12 qO
  have qO2 := QaO (QaO qO (QbG _ _ (Qdo _ _ _ _ _))) (QhQ text (QaG key nonce) number r hge)
  have bD : w.heap.size ≤ D := Nat.le_trans x7.size lD
  refine hK16 _ _ ?_
  refine wp_seq_k fun K20 hK20 => ?_
  refine Qab ?_
  refine Qaa (.slice (some ⟨g13, 0, none⟩) text.length text.length) 63 rfl kj (Qae 24 _ g14 0 24 _ (.slice (some ⟨g13, 0, none⟩) text.length text.length) _ q12 rfl kj kj kj) ?_
  refine Qaa (.slice (some ⟨g13, 0, none⟩) text.length text.length) 8 rfl kj kj ?_
  refine Qaa (.nilIface) 9 rfl kj kj ?_
  refine Qac ?_
  refine hK20 _ _ ?_
  refine wp_ret ?_
  repeat (first | with_reducible refine goR1 ?_ | with_reducible refine goR2 ?_)
  exact (show bodyPostM _ _ _ _ _ .ret _ _ from Qkd (.slice (some ⟨g13, 0, none⟩) text.length text.length) (.nilIface) rfl rD (QaC kj) (QaC kj) ⟨_, rfl, QgF xx bD rD _, _, rfl, QcO (QbJ _ _ _) b13 (QgE qO2 rD _) (by simp only [maxLen]; omega)⟩)
 ·obtain ⟨⟨rfl, hge, q12, qO⟩, xx⟩ := hIx
  obtain ⟨kR, rfl, -⟩ := hSp
  rw [List.length_range] at hge
  have qO2 := QaO (QaO qO (QbG _ _ (Qdo _ _ _ _ _))) (QhQ text (QaG key nonce) number kR hge)
  have bD : w.heap.size ≤ D := Nat.le_trans x7.size lD
  refine wp_exit ?_
  refine hK16 _ _ ?_
  refine wp_seq_k fun K22 hK22 => ?_
  refine Qab ?_
  refine Qaa (.slice (some ⟨g13, 0, none⟩) text.length text.length) 63 rfl kj (Qae 24 _ g14 0 24 _ (.slice (some ⟨g13, 0, none⟩) text.length text.length) _ q12 rfl kj kj kj) ?_
  refine Qaa (.slice (some ⟨g13, 0, none⟩) text.length text.length) 8 rfl kj kj ?_
  refine Qaa (.nilIface) 9 rfl kj kj ?_
  refine Qac ?_
  refine hK22 _ _ ?_
  refine wp_ret ?_
  repeat (first | with_reducible refine goR1 ?_ | with_reducible refine goR2 ?_)
  exact (show bodyPostM _ _ _ _ _ .ret _ _ from Qkd (.slice (some ⟨g13, 0, none⟩) text.length text.length) (.nilIface) rfl rD (QaC kj) (QaC kj) ⟨_, rfl, QgF xx bD rD _, _, rfl, QcO (QbJ _ _ _) b13 (QgE qO2 rD _) (by simp only [maxLen]; omega)⟩)
end Go.Proofs.YtjldjdlhllgakaaDoor.Cha
end
section
namespace Go.Proofs.YtjldjdlhllgakaaDoor.Sha
open Go Go.RowKit
open Rely Auto Own
set_option linter.unusedVariables false
set_option linter.unusedSimpArgs false
section
variable {P : Program} {ρ : Operand → Value} {o : Oper} {w : World}
theorem Qhj {k : IntKind} (t : TypeId) (x y : Operand) (kl kc : IntKind) (n : Nat) (e : TypeId) (ho : o.op = .makeSlice t x y) (hx : ρ x = .int kl 0) (hy : ρ y = .int kc n)
    (hu : P.underlying t = some (.slice e)) (hi : (P.info? e).map (fun i => (i.zero, i.size, i.bytes)) = some (some (.int k 0), 1, 1)) (hn : n ≤ 1000000000) :
    (execOp ρ o).run P w = .ok (.value (.slice (some ⟨w.heap.size, 0, none⟩) 0 n)) (w.alloc (.cells (ints k (List.replicate n 0)) e)) := by
  cases hq : P.info? e with
  | none => simp [hq] at hi
  | some i =>
    have hz : i.zero = some (.int k 0) ∧ i.size = 1 ∧ i.bytes = 1 := by simpa [hq] using hi
    have hb : (i.bytes : Int) * (n : Int) ≤ 281474976710656 := by rw [hz.2.2]; omega
    have h := run_make w t e i (.int k 0) hu hq hz.1 kl kc 0 (n : Int) (by omega) (by omega) hb (by omega)
    rw [hz.2.1, Int.toNat_natCast, QeK] at h
    unfold execOp
    simp only [ho, hx, hy, Sem.run_bind, Sem.run_pure, h, Result.andThen_ok]
    rfl
theorem Qcc (t : TypeId) (x z : Operand) (h : Nat) (e : TypeId) (ho : o.op = .slice t x none (some z) none) {a : Option Addr} {len cap : Nat} (hx : ρ x = .slice a len cap)
    (hu : P.underlying t = some (.slice e)) (hs : (P.info? e).map (·.size) = some 1) (kz : IntKind) (hz : ρ z = .int kz (h : Int)) (h2 : h ≤ cap) :
    (execOp ρ o).run P w = .ok (.value (.slice a h cap)) w := by
  cases hq : P.info? e with
  | none => simp [hq] at hs
  | some i =>
    have hs' : i.size = 1 := by simpa [hq] using hs
    unfold execOp
    have hadd : ∀ a : Option Addr, Option.map (fun x => x.add 0) a = a := fun a => by
      cases a with
      | none => rfl
      | some a => obtain ⟨b, o, s⟩ := a; cases s <;> simp [Addr.add]
    simp [ho, hx, hz, Instr.sliceAt, Instr.slice, Instr.sliceBounds, run_sliceBound, run_underlying hu, sizeOf, typeInfo, hq, hs', h2, hadd]
end
section
variable {ds : List Deferred} {P : Program} {ops : Array Oper} {Q : Exit → Act → World → Prop} {rest : List Oper} {o : Oper} {N : Nat} {L : Env} {w : World}
theorem Qhg (cs : Array Value) (T : TypeId) (n d : Nat) (hd : o.dst = some d) (hg : Qcf ops o N L = some true) (h : (execOp (Rely.look (envN N L)) o).run P w = .ok (.value (.slice (some ⟨w.heap.size, 0, none⟩) 0 n)) (w.alloc (.cells cs T)))
    (k : ∀ (g : Nat) (W : World), w.heap.size ≤ g → Ext w W → W.heap[g]? = some (.cells cs T) → WL P ops Q rest (Qa0 ds N ((d, .slice (some ⟨g, 0, none⟩) 0 n) :: L)) W) : WL P ops Q (o :: rest) (Qa0 ds N L) w :=
  Qcy _ _ d hd hg h (k _ _ (Nat.le_refl _) (QbU _ _) (heap_alloc_new _ _))
end
def QaR (T : TypeId) (base : Nat) (t : List Int) (v : Value) (W : World) : Prop := ∃ g c, v = .slice (some ⟨g, 0, none⟩) t.length c ∧ OwnN .u8 T base (t ++ [165, 90]) (.slice (some ⟨g, 0, none⟩) (t ++ [165, 90]).length c) W
theorem QaR.ext {T : TypeId} {base : Nat} {t : List Int} {v : Value} {W W' : World} (h : QaR T base t v W) (e : Ext W W') : QaR T base t v W' := by
  obtain ⟨g, c, rfl, h2⟩ := h
  exact ⟨g, c, rfl, h2.ext e⟩
theorem QaR.rd {T : TypeId} {base : Nat} {t : List Int} {v : Value} {W : World} (h : QaR T base t v W) : RdK .u8 W.heap.size t v W := by
  obtain ⟨g, c, rfl, h2⟩ := h
  obtain ⟨a, cap, e, q2, q3, q4, q5⟩ := OwnN.rd h2
  simp only [Value.slice.injEq] at e
  obtain ⟨rfl, -, rfl⟩ := e
  rw [List.length_append] at q2
  refine ⟨_, _, rfl, by omega, q3, q4, .inr ?_⟩
  rcases q5 with q5 | ⟨g', o, e1, e2, e3, e4⟩
  · simp at q5
  · refine ⟨g', o, e1, e2, e3, fun i hi => ?_⟩
    rw [e4 i (by rw [List.length_append]; omega)]
    simp [nth, List.getElem?_append_left hi]
theorem QhN (t : List Int) : nth (t ++ [165, 90]) t.length = 165 := by simp [nth]
theorem QhM (t : List Int) : nth (t ++ [165, 90]) (t.length + 1) = 90 := by simp [nth]
set_option maxHeartbeats 4000000 in
theorem QiO (t : List Int) (v : Value) (B : Nat) (w : World) (hlen : t.length ≤ 900000000) (hr : RdK .u8 B t v w) : Calls Tryd.prog 10 #[v] w (Qcb w (QaR 5 w.heap.size t)) := by
  obtain ⟨a_t, c_t, rfl, -⟩ := id hr
  refine enter 14 [(0, .slice a_t t.length c_t)] Tryd.func10 rfl rfl kj rfl ?_
  refine wp_seq_k fun K1 hK1 => ?_
  refine Qab ?_
  refine Qaa (.slice none 0 0) 2 rfl kj kj ?_
  refine Qac ?_
  refine hK1 _ _ ?_
  refine wp_seq_k fun K2 hK2 => ?_
  refine Qab ?_
  refine Qaa (.slice a_t t.length c_t) 3 rfl kj kj ?_
  refine Qaa (.int .i64 ((t.length : Nat) : Int)) 4 rfl kj kj ?_
  refine Qaa (.int .i64 ((t.length + 2 : Nat) : Int)) 5 rfl kj (Qah (u := .int .i64 (IntKind.i64.wrap (((t.length : Nat) : Int) + 2))) kj (congrArg (Value.int .i64) (i64n _ _ (by omega) (by omega)))) ?_
  refine Qhg (ints .u8 (List.replicate (t.length + 2) 0)) 5 (t.length + 2) 6 rfl kj (Qhj 24 _ _ .i64 .i64 (t.length + 2) 5 rfl kj kj kj kj (by omega)) fun g3 W1 l3 e1 r3_1 => ?_
  have x1 : Ext w W1 := Ext.tr (Rely.Ext.refl w) e1
  have b3 : w.heap.size ≤ g3 := Nat.le_trans (Rely.Ext.refl w).size l3
  have hz0 : OwnN .u8 5 w.heap.size [] (.slice (some ⟨g3, 0, none⟩) 0 (t.length + 2)) W1 := Qgm (n := 0) rfl l3 r3_1 (by rw [Qaf, List.length_replicate]) (Nat.zero_le _) (by simp only [maxLen]; omega) rfl
  refine Qaa (.slice a_t t.length c_t) 7 rfl kj kj ?_
  have y0_1 : Ext w W1 := (Rely.Ext.trans (Rely.Ext.refl w) e1)
  refine QaE (k := .u8) (T := 5) (xs := []) (ys := t) (V := w) 1 (.tmp 6) (.tmp 7) 24 rfl kj kj (by decide) 8 rfl kj kj kj hz0 (RdK.ext hr x1) (by simp only [List.length_nil]; omega) y0_1 fun z1 W2 f4 y2 l2 => ?_
  have x2 : Ext w W2 := Ext.low x1 l2 (Rely.Ext.refl w).size
  have hu6 : OwnN .u8 5 w.heap.size (t) z1 W2 := f4
  refine QaD (ints .u8 ([165, 90])) 5 2 9 rfl kj kj fun g7 W3 l7 e3 r7_3 => ?_
  have x3 : Ext w W3 := Ext.tr x2 e3
  have b7 : w.heap.size ≤ g7 := Nat.le_trans x2.size l7
  have f8_3 := (hu6.ext e3)
  have y0_3 : Ext w W3 := (Rely.Ext.trans y2 e3)
  refine QaE (k := .u8) (T := 5) (xs := t) (ys := [165, 90]) (V := w) 1 (.tmp 8) (.tmp 9) 24 rfl kj kj (by decide) 10 rfl kj kj kj f8_3 (QaP (xs := [165, 90]) (n := 2) rfl r7_3 (QaA r7_3) (show 2 ≤ maxLen from by decide)) (by simp only [List.length_cons, List.length_nil]; omega) y0_3 fun z2 W4 f9 y4 l4 => ?_
  have x4 : Ext w W4 := Ext.low x3 l4 (Rely.Ext.refl w).size
  have hu11 : OwnN .u8 5 w.heap.size (t ++ [165, 90]) z2 W4 := f9
  refine Qaa (.slice a_t t.length c_t) 11 rfl kj kj ?_
  refine Qaa (.int .i64 ((t.length : Nat) : Int)) 12 rfl kj kj ?_
  obtain ⟨gz, cz, cur, hzz, hz3, hz4, hz5, hz6, -, -⟩ := QdG hu11 (by simp)
  subst hzz
  rw [List.length_append] at hz6
  refine Qaa (.slice (some ⟨gz, 0, none⟩) t.length cz) 13 rfl kj (Qcc (len := (t ++ [165, 90]).length) 24 _ _ t.length 5 rfl kj kj kj .i64 kj (by omega)) ?_
  refine Qaa (.slice (some ⟨gz, 0, none⟩) t.length cz) 2 rfl kj kj ?_
  refine Qac ?_
  refine hK2 _ _ ?_
  refine wp_ret ?_
  repeat (first | with_reducible refine goR1 ?_ | with_reducible refine goR2 ?_)
  exact (show bodyPost _ _ _ .ret _ _ from ret1 (.slice (some ⟨gz, 0, none⟩) t.length cz) rfl (QaC kj) ⟨_, rfl, x4, gz, cz, rfl, hu11⟩)
set_option maxHeartbeats 4000000 in
theorem Qk4 (x y : Value) (xs ys : List Int) (w : World) (hx : Qcw w x xs) (hy : Qcw w y ys) : Calls Tryd.prog 17 #[x, y] w (Ret w (.bool (decide (xs = ys)))) := by
  have hse : ((Qcl xs).toList == (Qcl ys).toList) = decide (xs = ys) := by
    obtain ⟨_, _, _, _, bx, _⟩ := hx
    obtain ⟨_, _, _, _, by', _⟩ := hy
    exact Qe6 bx by'
  refine enter 10 [(0, x), (1, y)] Tryd.func17 rfl rfl kj rfl ?_
  refine wp_seq_k fun K1 hK1 => ?_
  refine Qab ?_
  refine Qaa (.bool false) 4 rfl kj kj ?_
  refine Qac ?_
  refine hK1 _ _ ?_
  refine wp_seq_k fun K2 hK2 => ?_
  refine Qab ?_
  refine Qaa (x) 5 rfl kj kj ?_
  refine Qaa (.string (Qcl xs)) 6 rfl kj (Qch _ x rfl kj xs hx) ?_
  refine Qaa (y) 7 rfl kj kj ?_
  refine Qaa (.string (Qcl ys)) 8 rfl kj (Qch _ y rfl kj ys hy) ?_
  refine Qaa (.bool (decide (xs = ys))) 9 rfl kj (Qah (u := .bool ((Qcl xs).toList == (Qcl ys).toList)) kj (congrArg Value.bool hse)) ?_
  refine Qaa (.bool (decide (xs = ys))) 4 rfl kj kj ?_
  refine Qac ?_
  refine hK2 _ _ ?_
  refine wp_ret ?_
  repeat (first | with_reducible refine goR1 ?_ | with_reducible refine goR2 ?_)
  exact (show bodyPost _ _ _ .ret _ _ from ret1 (.bool (decide (xs = ys))) rfl (QaC kj) ⟨rfl, (Rely.Ext.refl w)⟩)
theorem QjY (x y : Value) (xs ys : List Int) (w : World) (e : xs = ys) (hx : Qcw w x xs) (hy : Qcw w y ys) : Calls Tryd.prog 17 #[x, y] w (Ret w (.bool true)) := by
  have h := Qk4 x y xs ys w hx hy
  rw [decide_eq_true e] at h
  exact h
def Qcp (a : Option Addr) (c l : Nat) : Option Addr := if c = l then a else a.map fun z => z.add l
theorem Qc3 {P : Program} {ρ : Operand → Value} {o : Oper} {w : World} (t : TypeId) (x z : Operand) (l : Nat) (e : TypeId) (ho : o.op = .slice t x (some z) none none) {a : Option Addr} {len cap : Nat} (hx : ρ x = .slice a len cap)
    (hu : P.underlying t = some (.slice e)) (hs : (P.info? e).map (·.size) = some 1) (kz : IntKind) (hz : ρ z = .int kz (l : Int)) (h1 : l ≤ len) (h2 : len ≤ cap) :
    (execOp ρ o).run P w = .ok (.value (.slice (Qcp a cap l) (len - l) (cap - l))) w := by
  cases hq : P.info? e with
  | none => simp [hq] at hs
  | some i =>
    have hs' : i.size = 1 := by simpa [hq] using hs
    unfold execOp Qcp
    have hadd : ∀ a : Option Addr, Option.map (fun x => x.add 0) a = a := fun a => by
      cases a with
      | none => rfl
      | some a => obtain ⟨b, o, s⟩ := a; cases s <;> simp [Addr.add]
    by_cases hc : cap = l
    · simp [ho, hx, hz, Instr.sliceAt, Instr.slice, Instr.sliceBounds, run_sliceBound, run_underlying hu, sizeOf, typeInfo, hq, hs', h1, h2, hadd, hc]
    · simp [ho, hx, hz, Instr.sliceAt, Instr.slice, Instr.sliceBounds, run_sliceBound, run_underlying hu, sizeOf, typeInfo, hq, hs', h1, h2, hadd, hc]
theorem QcM {k : IntKind} {B n c : Nat} {ys : List Int} {a : Option Addr} {W : World} (h : RdK k B ys (.slice a n c) W) (l : Nat) (hl : l ≤ ys.length) : RdK k B (ys.drop l) (.slice (Qcp a c l) (n - l) (c - l)) W := by
  obtain ⟨a', cap, e, h2, h3, h4, h5⟩ := h
  simp only [Value.slice.injEq] at e
  obtain ⟨rfl, rfl, rfl⟩ := e
  refine ⟨_, _, by rw [List.length_drop], by rw [List.length_drop]; omega, by omega, ?_, ?_⟩
  · intro e
    unfold Qcp at e
    split at e
    · omega
    · have := h4 (by cases a <;> simp_all); omega
  · rcases h5 with h5 | ⟨g, o, rfl, q2, q3, q4⟩
    · left; rw [h5]; simp
    · rcases Nat.lt_or_ge l ys.length with hlt | hge
      · right
        refine ⟨g, o + l, ?_, q2, q3, fun i hi => ?_⟩
        · unfold Qcp
          rw [if_neg (by omega), Option.map_some]
          simp [Addr.add]
        · rw [List.length_drop] at hi
          rw [Nat.add_assoc, q4 (l + i) (by omega)]
          simp [nth]
      · left; exact List.drop_of_length_le hge
theorem QbI {k : IntKind} {B n c : Nat} {ys : List Int} {a : Option Addr} {W : World} (h : RdK k B ys (.slice a n c) W) (l : Nat) (hl : l ≤ ys.length) : RdK k B (ys.take l) (.slice a l c) W := by
  obtain ⟨a', cap, e, h2, h3, h4, h5⟩ := h
  simp only [Value.slice.injEq] at e
  obtain ⟨rfl, rfl, rfl⟩ := e
  have hlen : (ys.take l).length = l := by rw [List.length_take]; omega
  refine ⟨_, _, by rw [hlen], by omega, h3, h4, ?_⟩
  rcases h5 with rfl | ⟨g, off, rfl, q2, q3, q4⟩
  · exact .inl (by simp)
  · refine .inr ⟨g, off, rfl, q2, q3, fun i hi => ?_⟩
    rw [hlen] at hi
    rw [q4 i (by omega)]
    simp [nth, List.getElem?_take, hi]
set_option maxHeartbeats 4000000 in
theorem Qht (t : List Int) (v y : Value) (B base : Nat) (w : World) (hlen : t.length ≤ 900000000) (hb : Qaj t) (hv : QaR 5 base t v w) (hr : RdK .u8 B t y w) : Calls Tryd.prog 13 #[v, y] w (Ret w (.bool true)) := by
  have hrc := hv.rd
  obtain ⟨g, c, rfl, hK⟩ := hv
  obtain ⟨a_t, c_t, rfl, -⟩ := id hr
  have hl2 : (t ++ [165, 90]).length = t.length + 2 := by simp
  have hcap : (t ++ [165, 90]).length ≤ c := by
    obtain ⟨_, _, e, q2, _⟩ := OwnN.rd hK
    simp only [Value.slice.injEq] at e
    obtain ⟨-, -, rfl⟩ := e
    exact q2
  have hcap2 : t.length + 2 ≤ c := by rw [← hl2]; exact hcap
  refine enter 39 [(0, .slice (some ⟨g, 0, none⟩) t.length c), (1, .slice a_t t.length c_t)] Tryd.func13 rfl rfl kj rfl ?_
  refine wp_seq_k fun K1 hK1 => ?_
  refine Qab ?_
  refine Qaa (.bool false) 4 rfl kj kj ?_
  refine Qac ?_
  refine hK1 _ _ ?_
  refine wp_seq_k fun K2 hK2 => ?_
  refine wp_seq_k fun K3 hK3 => ?_
  refine Qab ?_
  refine Qaa (.slice (some ⟨g, 0, none⟩) t.length c) 6 rfl kj kj ?_
  refine Qaa (.string (Qcl t)) 7 rfl kj (Qch _ _ rfl kj t (hrc.bytes hb)) ?_
  refine Qaa (.slice a_t t.length c_t) 8 rfl kj kj ?_
  refine Qaa (.string (Qcl t)) 9 rfl kj (Qch _ _ rfl kj t (hr.bytes hb)) ?_
  refine Qaa (.bool false) 10 rfl kj (Qah (u := .bool (!((Qcl t).toList == (Qcl t).toList))) kj (congrArg Value.bool (by simp))) ?_
  refine Qaa (.bool false) 11 rfl kj kj ?_
  refine Qaa (.slice (some ⟨g, 0, none⟩) t.length c) 12 rfl kj kj ?_
  refine Qaa (.int .i64 ((c : Nat) : Int)) 13 rfl kj kj ?_
  refine Qaa (.slice a_t t.length c_t) 14 rfl kj kj ?_
  refine Qaa (.int .i64 ((t.length : Nat) : Int)) 15 rfl kj kj ?_
  refine Qaa (.int .i64 ((t.length + 2 : Nat) : Int)) 16 rfl kj (Qah (u := .int .i64 (IntKind.i64.wrap (((t.length : Nat) : Int) + 2))) kj (congrArg (Value.int .i64) (i64n _ _ (by omega) (by omega)))) ?_
  refine Qaa (.bool false) 17 rfl kj (Qah (u := .bool (decide (((c : Nat) : Int) < ((t.length + 2 : Nat) : Int)))) kj (congrArg Value.bool (decide_eq_false (by omega)))) ?_
  refine Qaa (.bool false) 18 rfl kj kj ?_
  refine Qac ?_
  refine hK3 _ _ ?_
  refine cond_false kj ?_
  refine wp_skip ?_
  refine hK2 _ _ ?_
  refine wp_seq_k fun K4 hK4 => ?_
  refine Qab ?_
  refine Qaa (.slice (some ⟨g, 0, none⟩) t.length c) 19 rfl kj kj ?_
  refine Qaa (.slice a_t t.length c_t) 20 rfl kj kj ?_
  refine Qaa (.int .i64 ((t.length : Nat) : Int)) 21 rfl kj kj ?_
  refine Qaa (.int .i64 ((((t ++ [165, 90]).length : Nat) : Int))) 22 rfl kj (Qah (u := .int .i64 (IntKind.i64.wrap (((t.length : Nat) : Int) + 2))) kj (congrArg (Value.int .i64) (i64n _ _ (by rw [hl2]; omega) (by rw [hl2]; omega)))) ?_
  refine Qaa (.slice (some ⟨g, 0, none⟩) (t ++ [165, 90]).length c) 23 rfl kj (Qcc (len := t.length) 24 _ _ (t ++ [165, 90]).length 5 rfl kj kj kj .i64 kj hcap) ?_
  refine Qaa (.slice (some ⟨g, 0, none⟩) ((t ++ [165, 90]).length) c) 5 rfl kj kj ?_
  have hns_5 : (t ++ [165, 90]).length = t.length + 2 := hl2
  obtain ⟨gcs_5, ocs_5, has_5, hls_5, hcs_5⟩ := QgD (OwnN.rd hK) (by rw [hns_5]; omega)
  refine Qac ?_
  refine hK4 _ _ ?_
  refine wp_seq_k fun K6 hK6 => ?_
  refine Qab ?_
  refine Qaa (.slice (some ⟨g, 0, none⟩) ((t ++ [165, 90]).length) c) 24 rfl kj kj ?_
  refine Qaa (.slice a_t t.length c_t) 25 rfl kj kj ?_
  refine Qaa (.int .i64 ((t.length : Nat) : Int)) 26 rfl kj kj ?_
  refine Qaa (.pointer (some ⟨gcs_5, ocs_5 + t.length, none⟩)) 27 rfl kj (QaJ 24 _ _ .i64 t.length gcs_5 ocs_5 ((t ++ [165, 90]).length) c 5 (some ⟨g, 0, none⟩) _ has_5 rfl rfl kj kj kj kj (Nat.lt_of_lt_of_eq (show t.length < t.length + 2 by omega) hns_5.symm)) ?_
  refine Qaa (.int .u8 (165)) 28 rfl kj (Qav 5 _ _ (.int .u8 (165)) ((hcs_5 t.length (Nat.lt_of_lt_of_eq (show t.length < t.length + 2 by omega) hns_5.symm)).trans (congrArg (fun z => some (Value.int .u8 z)) (QhN t))) rfl kj kj) ?_
  refine Qaa (.bool true) 29 rfl kj kj ?_
  refine Qaa (.bool true) 30 rfl kj kj ?_
  refine Qaa (.slice (some ⟨g, 0, none⟩) ((t ++ [165, 90]).length) c) 31 rfl kj kj ?_
  refine Qaa (.slice a_t t.length c_t) 32 rfl kj kj ?_
  refine Qaa (.int .i64 ((t.length : Nat) : Int)) 33 rfl kj kj ?_
  refine Qaa (.int .i64 ((t.length + 1 : Nat) : Int)) 34 rfl kj (Qah (u := .int .i64 (IntKind.i64.wrap (((t.length : Nat) : Int) + 1))) kj (congrArg (Value.int .i64) (i64n _ _ (by omega) (by omega)))) ?_
  refine Qaa (.pointer (some ⟨gcs_5, ocs_5 + (t.length + 1), none⟩)) 35 rfl kj (QaJ 24 _ _ .i64 (t.length + 1) gcs_5 ocs_5 ((t ++ [165, 90]).length) c 5 (some ⟨g, 0, none⟩) _ has_5 rfl rfl kj kj kj kj (Nat.lt_of_lt_of_eq (show t.length + 1 < t.length + 2 by omega) hns_5.symm)) ?_
  refine Qaa (.int .u8 (90)) 36 rfl kj (Qav 5 _ _ (.int .u8 (90)) ((hcs_5 (t.length + 1) (Nat.lt_of_lt_of_eq (show t.length + 1 < t.length + 2 by omega) hns_5.symm)).trans (congrArg (fun z => some (Value.int .u8 z)) (QhM t))) rfl kj kj) ?_
  refine Qaa (.bool true) 37 rfl kj kj ?_
  refine Qaa (.bool true) 38 rfl kj kj ?_
  refine Qaa (.bool true) 4 rfl kj kj ?_
  refine Qac ?_
  refine hK6 _ _ ?_
  refine wp_ret ?_
  repeat (first | with_reducible refine goR1 ?_ | with_reducible refine goR2 ?_)
  exact (show bodyPost _ _ _ .ret _ _ from ret1 (.bool true) rfl (QaC kj) ⟨rfl, (Rely.Ext.refl w)⟩)
set_option maxHeartbeats 4000000 in
theorem numZ (w : World) : Calls Tryd.prog 18 #[.nilIface] w (Ret w (.int .i64 0)) := by
  refine enter 19 [(0, .nilIface)] Tryd.func18 rfl rfl kj rfl ?_
  refine wp_seq_k fun K1 hK1 => ?_
  refine Qab ?_
  refine Qaa (.int .i64 0) 2 rfl kj kj ?_
  refine Qac ?_
  refine hK1 _ _ ?_
  refine wp_seq_k fun K2 hK2 => ?_
  refine wp_seq_k fun K3 hK3 => ?_
  refine Qab ?_
  refine Qaa (.nilIface) 5 rfl kj kj ?_
  refine Qaa (.bool true) 6 rfl kj kj ?_
  refine Qac ?_
  refine hK3 _ _ ?_
  refine cond_true kj ?_
  refine wp_seq_k fun K4 hK4 => ?_
  refine Qab ?_
  refine Qaa (.int .i64 0) 2 rfl kj kj ?_
  refine Qac ?_
  refine hK4 _ _ ?_
  refine wp_ret ?_
  repeat (first | with_reducible refine goR1 ?_ | with_reducible refine goR2 ?_)
  exact (show bodyPost _ _ _ .ret _ _ from ret1 (.int .i64 0) rfl (QaC kj) ⟨rfl, (Rely.Ext.refl w)⟩)
set_option maxHeartbeats 4000000 in
theorem numE (n : Int) (h0 : n ≠ 0) (w : World) : Calls Tryd.prog 18 #[.iface 45 (.int .i64 n)] w (Ret w (.int .i64 n)) := by
  refine enter 19 [(0, .iface 45 (.int .i64 n))] Tryd.func18 rfl rfl kj rfl ?_
  refine wp_seq_k fun K1 hK1 => ?_
  refine Qab ?_
  refine Qaa (.int .i64 0) 2 rfl kj kj ?_
  refine Qac ?_
  refine hK1 _ _ ?_
  refine wp_seq_k fun K2 hK2 => ?_
  refine wp_seq_k fun K3 hK3 => ?_
  refine Qab ?_
  refine Qaa (.iface 45 (.int .i64 n)) 5 rfl kj kj ?_
  refine Qaa (.bool false) 6 rfl kj kj ?_
  refine Qac ?_
  refine hK3 _ _ ?_
  refine cond_false kj ?_
  refine wp_skip ?_
  refine hK2 _ _ ?_
  refine wp_seq_k fun K4 hK4 => ?_
  refine Qab ?_
  refine Qaa (.iface 45 (.int .i64 n)) 8 rfl kj kj ?_
  refine Qaa (.tuple #[.int .i64 n, .bool true]) 9 rfl kj kj ?_
  refine Qaa (.tuple #[.int .i64 n, .bool true]) 7 rfl kj kj ?_
  refine Qaa (.int .i64 n) 10 rfl kj kj ?_
  refine Qaa (.bool true) 11 rfl kj kj ?_
  refine Qaa (.int .i64 n) 3 rfl kj kj ?_
  refine Qaa (.bool true) 4 rfl kj kj ?_
  refine Qac ?_
  refine hK4 _ _ ?_
  refine wp_seq_k fun K5 hK5 => ?_
  refine wp_seq_k fun K6 hK6 => ?_
  refine Qab ?_
  refine Qaa (.bool true) 12 rfl kj kj ?_
  refine Qaa (.bool false) 13 rfl kj kj ?_
  refine Qaa (.bool false) 14 rfl kj kj ?_
  refine Qaa (.int .i64 n) 15 rfl kj kj ?_
  refine Qaa (.bool false) 16 rfl kj (Qah (u := .bool ((n == 0))) kj (congrArg Value.bool (beq_eq_false_iff_ne.2 h0))) ?_
  refine Qaa (.bool false) 17 rfl kj kj ?_
  refine Qac ?_
  refine hK6 _ _ ?_
  refine cond_false kj ?_
  refine wp_skip ?_
  refine hK5 _ _ ?_
  refine wp_seq_k fun K7 hK7 => ?_
  refine Qab ?_
  refine Qaa (.int .i64 n) 18 rfl kj kj ?_
  refine Qaa (.int .i64 n) 2 rfl kj kj ?_
  refine Qac ?_
  refine hK7 _ _ ?_
  refine wp_ret ?_
  repeat (first | with_reducible refine goR1 ?_ | with_reducible refine goR2 ?_)
  exact (show bodyPost _ _ _ .ret _ _ from ret1 (.int .i64 n) rfl (QaC kj) ⟨rfl, (Rely.Ext.refl w)⟩)
end Go.Proofs.YtjldjdlhllgakaaDoor.Sha
end
section
namespace Go.Proofs.YtjldjdlhllgakaaDoor.Cha
open Go Go.RowKit
open Rely Auto Own Sha
set_option linter.unusedVariables false
set_option linter.unusedSimpArgs false
open Sha
theorem Qik (x y : Int) : bits .xor .u8 x y = (((BitVec.ofInt 8 x) ^^^ (BitVec.ofInt 8 y)).toNat : Int) := by
  have h : bits .xor .u8 x y = IntKind.u8.wrap (((BitVec.ofInt 8 x) ^^^ (BitVec.ofInt 8 y)).toNat : Int) := rfl
  have h3 : ∀ z : Int, IntKind.u8.wrap z = z % 256 := fun _ => rfl
  rw [h, h3]
  have := ((BitVec.ofInt 8 x) ^^^ (BitVec.ofInt 8 y)).isLt
  omega
theorem Qee (a b : Int) (h0 : 0 ≤ a) (h1 : a ≤ 255) : bits .xor .u8 (bits .xor .u8 a b) b = a := by
  rw [Qik, Qik]
  have e : BitVec.ofInt 8 (((BitVec.ofInt 8 a) ^^^ (BitVec.ofInt 8 b)).toNat : Int) = (BitVec.ofInt 8 a) ^^^ (BitVec.ofInt 8 b) := by
    apply BitVec.eq_of_toNat_eq
    rw [BitVec.toNat_ofInt]
    have := ((BitVec.ofInt 8 a) ^^^ (BitVec.ofInt 8 b)).isLt
    omega
  rw [e, BitVec.xor_assoc, BitVec.xor_self, BitVec.xor_zero, BitVec.toNat_ofInt]
  omega
theorem QdY (ws : List Wd) (num : Int) (text : List Int) : Qaj (mixV ws num text) := fun n hn => by
  unfold mixV mxv at hn
  obtain ⟨i, -, rfl⟩ := List.mem_map.1 hn
  rw [Qik]
  have := ((BitVec.ofInt 8 (nth text i)) ^^^ (BitVec.ofInt 8 (nth (QaS ws (num + ((id (i / 64) : Nat) : Int))) (i % 64)))).isLt
  omega
theorem QgL (ws : List Wd) (num : Int) (text : List Int) (i : Nat) (h : i < text.length) : nth (mixV ws num text) i = bits .xor .u8 (nth text i) (nth (QaS ws (num + ((i / 64 : Nat) : Int))) (i % 64)) := QhP text ws num id text.length i h
theorem Qgn {xs ys : List Int} (hl : xs.length = ys.length) (h : ∀ i, i < xs.length → nth xs i = nth ys i) : xs = ys := by
  apply List.ext_getElem? 
  intro i
  rcases Nat.lt_or_ge i xs.length with hi | hi
  · have h1 := h i hi
    unfold nth at h1
    rw [List.getD_eq_getElem?_getD, List.getD_eq_getElem?_getD, List.getElem?_eq_getElem hi, List.getElem?_eq_getElem (by omega)] at h1
    rw [List.getElem?_eq_getElem hi, List.getElem?_eq_getElem (by omega)]
    exact congrArg some h1
  · rw [List.getElem?_eq_none hi, List.getElem?_eq_none (by omega)]
theorem QjE (ws : List Wd) (num : Int) (text : List Int) (hb : Qaj text) : mixV ws num (mixV ws num text) = text := by
  refine Qgn (by rw [QbJ, QbJ]) fun i hi => ?_
  rw [QbJ, QbJ] at hi
  rw [QgL _ _ _ _ (by rw [QbJ]; exact hi), QgL _ _ _ _ hi]
  have h := Qa1 hb i
  exact Qee _ _ (by omega) (by omega)
theorem Qd0 (xs : List Int) (k i : Nat) (h : i < k) : nth (xs.take k) i = nth xs i := by
  unfold nth; rw [List.getD_eq_getElem?_getD, List.getD_eq_getElem?_getD, List.getElem?_take, if_pos h]
theorem QdI (xs : List Int) (k i : Nat) : nth (xs.drop k) i = nth xs (k + i) := by
  unfold nth; rw [List.getD_eq_getElem?_getD, List.getD_eq_getElem?_getD, List.getElem?_drop]
def MixR (base : Nat) (xs : List Int) : Value → World → Prop := fun v W => ∃ u, v = .tuple #[u, .nilIface] ∧ OwnN .u8 5 base xs u W
theorem MixG (n0 : Nat) (key nonce text : List Int) (v v2 : Value) (B B2 : Nat) (number : Int) (th tq : TypeId) (w : World) (hh : w.heap[0]? = some (.cells (ints .u32 [1634760805, 857760878, 2036477234, 1797285236]) th)) (hq : w.heap[1]? = some (.cells (ints .i64 [0, 4, 8, 12, 1, 5, 9, 13, 2, 6, 10, 14, 3, 7, 11, 15, 0, 5, 10, 15, 1, 6, 11, 12, 2, 7, 8, 13, 3, 4, 9, 14]) tq)) (hkl : key.length = 32) (hn : RdK .u8 B nonce v w) (ht : RdK .u8 B2 text v2 w) (h : nonce.length = 12) (r : Nat) (hr : number + (r : Int) = 4294967296) (h1 : 0 ≤ number) (h2 : number ≤ 4294967295) (hfit : text.length ≤ 64 * r) (htl : text.length ≤ 2000000) (hn0 : n0 ≤ w.heap.size) :
    Calls Tryd.prog 32 #[.agg (ints .u8 key), v, .int .i64 number, v2] w (Qcb w (MixR n0 (mixV (QaG key nonce) number text))) :=
  (QkB key nonce text v v2 B B2 number th tq w hh hq hkl hn ht h r hr h1 h2 hfit htl).mono fun e W' hg => by
    obtain ⟨v', e1, e2, u, e3, e4⟩ := hg
    exact ⟨v', e1, e2, u, e3, e4.base hn0⟩
theorem cat_st (A : List Value) (x y z : Value) : (A ++ [x] ++ [y] ++ [z]).toArray = cat [A.toArray, #[x], #[y], #[z]] := by
  apply Array.ext'
  simp [cat]
end Go.Proofs.YtjldjdlhllgakaaDoor.Cha
end
section
namespace Go.Proofs.YtjldjdlhllgakaaDoor.Ae
open Go Go.RowKit
open Rely Auto Own Sha Cha
set_option linter.unusedVariables false
set_option linter.unusedSimpArgs false
def lev : List Int → Int
  | [] => 0
  | a :: t => a + 256 * lev t
def p256 (n : Nat) : Int := 256 ^ n
theorem QfP : p256 0 = 1 := rfl
theorem QbF (n : Nat) : p256 (n + 1) = 256 * p256 n := by unfold p256; rw [Int.pow_succ, Int.mul_comm]
theorem Qcz (m n : Nat) : p256 (m + n) = p256 m * p256 n := by unfold p256; rw [Int.pow_add]
theorem QbR (n : Nat) : 0 < p256 n := Int.pow_pos (by decide)
theorem Qdd : ∀ (xs : List Int) (x : Int), lev (xs ++ [x]) = lev xs + x * p256 xs.length
  | [], x => by simp [lev, QfP]
  | a :: t, x => by
    rw [List.cons_append, lev, Qdd t x, lev, List.length_cons, QbF]
    grind
theorem Qgt : ∀ (xs ys : List Int), lev (xs ++ ys) = lev xs + p256 xs.length * lev ys
  | [], ys => by simp [lev, QfP]
  | a :: t, ys => by
    rw [List.cons_append, lev, Qgt t ys, lev, List.length_cons, QbF]
    grind
theorem Qbl : ∀ {xs : List Int}, Qaj xs → 0 ≤ lev xs
  | [], _ => by simp [lev]
  | a :: t, h => by
    have h1 := h a (List.mem_cons_self ..)
    have h2 := Qbl (xs := t) fun x hx => h x (List.mem_cons_of_mem _ hx)
    rw [lev]; omega
theorem Qd3 : ∀ {xs : List Int}, Qaj xs → lev xs < p256 xs.length
  | [], _ => by simp [lev, QfP]
  | a :: t, h => by
    have h1 := h a (List.mem_cons_self ..)
    have h2 := Qd3 (xs := t) fun x hx => h x (List.mem_cons_of_mem _ hx)
    rw [lev, List.length_cons, QbF]; omega
theorem Qbh (xs : List Int) (i : Nat) (h : i < xs.length) : lev (xs.take (i + 1)) = lev (xs.take i) + nth xs i * p256 i := by
  have e : xs.take (i + 1) = xs.take i ++ [nth xs i] := by
    rw [List.take_add_one, List.getElem?_eq_getElem h]
    simp [nth, h]
  rw [e, Qdd, List.length_take, Nat.min_eq_left (by omega)]
theorem QcF (xs : List Int) (i : Nat) (h : xs.length ≤ i) : lev (xs.take i) = lev xs := by rw [List.take_of_length_le h]
theorem Qgs : ∀ (xs : List Int) (m : Nat) (d : Int), m < xs.length → lev (xs.set m d) = lev xs + (d - nth xs m) * p256 m
  | [], m, d, h => by simp at h
  | a :: t, 0, d, _ => by simp only [List.set_cons_zero, lev, QfP]; show d + 256 * lev t = a + 256 * lev t + (d - a) * 1; omega
  | a :: t, m + 1, d, h => by
    rw [List.set_cons_succ, lev, Qgs t m d (by simpa using h), lev, QbF]
    show a + 256 * (lev t + (d - nth t m) * p256 m) = a + 256 * lev t + (d - nth t m) * (256 * p256 m)
    grind
theorem QhW (n : Nat) : lev (List.replicate n 0) = 0 := by
  induction n with
  | zero => rfl
  | succ n ih => rw [List.replicate_succ, lev, ih]; rfl
theorem QiK (a b : Int) : a / 256 / b = a / (256 * b) := by rw [Int.ediv_ediv, if_neg (by omega)]; exact Int.sub_zero _
theorem QcV : ∀ (xs : List Int) (i : Nat), Qaj xs → nth xs i = lev xs / p256 i % 256
  | [], i, _ => by
    have : nth ([] : List Int) i = 0 := by simp [nth]
    rw [this]; simp [lev]
  | a :: t, 0, h => by
    have h1 := h a (List.mem_cons_self ..)
    show a = lev (a :: t) / 1 % 256
    rw [lev]; omega
  | a :: t, i + 1, h => by
    have h1 := h a (List.mem_cons_self ..)
    show nth t i = _
    rw [QcV t i fun x hx => h x (List.mem_cons_of_mem _ hx), lev, QbF, ← QiK, show (a + 256 * lev t) / 256 = lev t by omega]
theorem Qbc {a b : List Int} (ha : Qaj a) (hb : Qaj b) : Qaj (a ++ b) := fun x hx => by
  rcases List.mem_append.1 hx with h | h
  · exact ha x h
  · exact hb x h
theorem Qbo {x : Int} (h0 : 0 ≤ x) (h1 : x ≤ 255) : Qaj [x] := fun y hy => by rw [List.mem_singleton] at hy; subst hy; exact ⟨h0, h1⟩
theorem Qa3 {a : List Int} (ha : Qaj a) (n : Nat) : Qaj (a.take n) := fun x hx => ha x (List.mem_of_mem_take hx)
theorem QaN {a : List Int} (ha : Qaj a) (n : Nat) : Qaj (a.drop n) := fun x hx => ha x (List.mem_of_mem_drop hx)
theorem Qbg {a : List Int} (ha : Qaj a) (n : Nat) {x : Int} (h0 : 0 ≤ x) (h1 : x ≤ 255) : Qaj (a.set n x) := fun y hy => by
  rcases List.mem_or_eq_of_mem_set hy with h | h
  · exact ha y h
  · subst h; exact ⟨h0, h1⟩
def PP : Int := 1361129467683753853853498429727072845819
def QcA (r : Int) (t : List Int) : Nat → Int
  | 0 => 0
  | n + 1 => (QcA r t n + lev (((t.drop (16 * n)).take 16) ++ [1])) * r % PP
def Qdk (r : Int) (t : List Int) : Int := QcA r t ((t.length + 15) / 16)
def by16 (v : Int) : List Int := (List.range 16).map fun i => v / p256 i % 256
def tagV (r s : Int) (t : List Int) : List Int := by16 (Qdk r t + s)
theorem Qa4 (v : Int) : (by16 v).length = 16 := by simp [by16]
theorem Qhz (v : Int) : Qaj (by16 v) := fun x hx => by
  obtain ⟨i, -, rfl⟩ := List.mem_map.1 hx
  omega
theorem Qfy (v : Int) (i : Nat) (h : i < 16) : nth (by16 v) i = v / p256 i % 256 := by
  unfold nth by16
  rw [List.getD_eq_getElem?_getD, List.getElem?_map, List.getElem?_range h]; rfl
end Go.Proofs.YtjldjdlhllgakaaDoor.Ae
end
