/- ChaCha20: the first words. -/
import Derived.Test.YtjldjdlhllgakaaDoorChW
namespace Go.Proofs.YtjldjdlhllgakaaDoor.Cha
open Go Go.RowKit
open Go.Proofs.YtjldjdlhllgakaaDoor.Rely Go.Proofs.YtjldjdlhllgakaaDoor.Auto Go.Proofs.YtjldjdlhllgakaaDoor.Own Go.Proofs.YtjldjdlhllgakaaDoor.Sha
set_option linter.unusedVariables false
set_option linter.unusedSimpArgs false

open Go.Proofs.YtjldjdlhllgakaaDoor.Sha
theorem run_sliceM {P : Program} {ρ : Operand → Value} {o : Oper} {w : World} (t : TypeId) (x y z : Operand) (l h g off len cap : Nat) (e : TypeId) (ho : o.op = .slice t x (some y) (some z) none) (hx : ρ x = .slice (some ⟨g, off, none⟩) len cap)
    (hu : P.underlying t = some (.slice e)) (hs : (P.info? e).map (·.size) = some 1) (hy : ρ y = .int .i64 (l : Int)) (hz : ρ z = .int .i64 (h : Int)) (h1 : l ≤ h) (h2 : h ≤ cap) (h3 : l < cap) :
    (execOp ρ o).run P w = .ok (.value (.slice (some ⟨g, off + l, none⟩) (h - l) (cap - l))) w := by
  cases hq : P.info? e with
  | none => simp [hq] at hs
  | some i =>
    have hs' : i.size = 1 := by simpa [hq] using hs
    have hadd : (⟨g, off, none⟩ : Addr).add l = ⟨g, off + l, none⟩ := WideShapes.add_plain ..
    have hne : ¬ cap = l := by omega
    unfold execOp
    simp [ho, hx, hy, hz, Instr.sliceAt, Instr.slice, Instr.sliceBounds, run_sliceBound, run_underlying hu, sizeOf, typeInfo, hq, hs', h1, h2, hadd, hne]
def sub4 (b : List Int) (i : Nat) : List Int := (b.drop (4 * i)).take 4
theorem sub4_len (b : List Int) (i : Nat) (h : 4 * i + 4 ≤ b.length) : (sub4 b i).length = 4 := by
  unfold sub4
  rw [List.length_take, List.length_drop]; omega
theorem sub4_nth (b : List Int) (i j : Nat) (h : j < 4) : nth (sub4 b i) j = nth b (4 * i + j) := by
  unfold nth sub4
  rw [List.getD_eq_getElem?_getD, List.getD_eq_getElem?_getD, List.getElem?_take, if_pos h, List.getElem?_drop]
theorem rdK_sub {B g o c : Nat} {xs : List Int} {W : World} (hx : RdK .u8 B xs (.slice (some ⟨g, o, none⟩) xs.length c) W) (i : Nat) (hi : 4 * i + 4 ≤ xs.length) : RdK .u8 B (sub4 xs i) (.slice (some ⟨g, o + 4 * i, none⟩) 4 (c - 4 * i)) W := by
  obtain ⟨a, cap, e, h2, h3, h4, h5⟩ := hx
  simp only [Value.slice.injEq] at e
  obtain ⟨rfl, -, rfl⟩ := e
  have hl := sub4_len xs i hi
  rcases h5 with h5 | ⟨g', o', q1, q2, q3, q4⟩
  · rw [h5] at hi; simp at hi
  · obtain ⟨rfl, rfl⟩ : g = g' ∧ o = o' := by simpa using q1
    refine ⟨some ⟨g, o + 4 * i, none⟩, c - 4 * i, by rw [hl], by omega, by omega, (fun h => by cases h), .inr ⟨g, o + 4 * i, rfl, q2, q3, fun j hj => ?_⟩⟩
    rw [sub4_nth _ _ _ (by omega), Nat.add_assoc]
    exact q4 _ (by omega)
set_option maxRecDepth 100000 in
set_option maxHeartbeats 4000000 in
theorem startC (key nonce : List Int) (v : Value) (B : Nat) (th : TypeId) (w : World) (hh : w.heap[0]? = some (.cells (ints .u32 [1634760805, 857760878, 2036477234, 1797285236]) th)) (hkl : key.length = 32) (hn : RdK .u8 B nonce v w) (hnl : nonce.length = 12) : Calls Tryd.prog 50 #[.agg (ints .u8 key), v] w (Ret w (.agg (ints .u32 [1634760805, 857760878, 2036477234, 1797285236, wv (le4 (sub4 key 0)), wv (le4 (sub4 key 1)), wv (le4 (sub4 key 2)), wv (le4 (sub4 key 3)), wv (le4 (sub4 key 4)), wv (le4 (sub4 key 5)), wv (le4 (sub4 key 6)), wv (le4 (sub4 key 7)), 0, wv (le4 (sub4 nonce 0)), wv (le4 (sub4 nonce 1)), wv (le4 (sub4 nonce 2))]))) := by
  obtain ⟨a_n, c_n, rfl, hnc, -, -, -⟩ := id hn
  obtain ⟨gn, on, rfl, -, hgn, hcn⟩ := rdK_at hn (by omega)
  refine enter 49 [(0, .agg (ints .u8 (key))), (1, .slice (some ⟨gn, on, none⟩) nonce.length c_n)] Tryd.func50 rfl rfl kj rfl ?_
  refine wp_seq_k fun K2 hK2 => ?_
  refine region_lit ?_
  refine seq_alloc (ints .u8 (key)) 23 2 rfl kj kj fun g3 W1 l3 e1 r3_1 => ?_
  have x1 : Ext w W1 := Ext.tr (Rely.Ext.refl w) e1
  have b3 : w.heap.size ≤ g3 := Nat.le_trans (Rely.Ext.refl w).size l3
  refine seq_alloc (ints .u32 ([0, 0, 0, 0, 0, 0, 0, 0, 0, 0, 0, 0, 0, 0, 0, 0])) 88 4 rfl kj kj fun g4 W2 l4 e2 r4_2 => ?_
  have x2 : Ext w W2 := Ext.tr x1 e2
  have b4 : w.heap.size ≤ g4 := Nat.le_trans x1.size l4
  refine seq_nil ?_
  refine hK2 _ _ ?_
  try clear hK2 K2
  refine wp_seq_k fun K5 hK5 => ?_
  refine region_lit ?_
  refine seq_alloc (ints .u32 ([0, 0, 0, 0, 0, 0, 0, 0, 0, 0, 0, 0, 0, 0, 0, 0])) 88 5 rfl kj kj fun g6 W3 l6 e3 r6_3 => ?_
  have x3 : Ext w W3 := Ext.tr x2 e3
  have b6 : w.heap.size ≤ g6 := Nat.le_trans x2.size l6
  refine seq_nil ?_
  refine hK5 _ _ ?_
  try clear hK5 K5
  refine wp_seq_k fun K7 hK7 => ?_
  refine wp_seq_k fun K8 hK8 => ?_
  refine region_lit ?_
  have r1_1 := (row_ext hh e1)
  have r1_2 := (row_ext r1_1 e2)
  have r1_3 := (row_ext r1_2 e3)
  refine seq_val (.agg (ints .u32 ([1634760805, 857760878, 2036477234, 1797285236]))) 10 rfl kj (run_load_row 98 _ 0 th _ _ r1_3 rfl kj kj (isz (n := 4) kj kj)) ?_
  refine seq_val (.int .i64 0) 11 rfl kj kj ?_
  refine seq_nil ?_
  refine hK8 _ _ ?_
  try clear hK8 K8
  refine wp_block ?_
  refine wp_loop_rounds 5 ?_
  show Code.wp _ _ (Exit.then (Code.rounds _ _ _ 4) _) _ _
  refine wp_seq_k fun K9 hK9 => ?_
  refine region_lit ?_
  refine seq_val (.bool true) 12 rfl kj kj ?_
  refine seq_nil ?_
  refine hK9 _ _ ?_
  try clear hK9 K9
  refine wp_seq_k fun K10 hK10 => ?_
  refine cond_true kj ?_
  refine wp_skip ?_
  refine hK10 _ _ ?_
  try clear hK10 K10
  refine wp_seq_k fun K11 hK11 => ?_
  refine wp_block ?_
  refine wp_seq_k fun K12 hK12 => ?_
  refine region_lit ?_
  refine seq_val (.int .i64 0) 13 rfl kj kj ?_
  refine seq_val (.int .u32 1634760805) 14 rfl kj (run_index_il 98 _ _ .i64 .u32 ([1634760805, 857760878, 2036477234, 1797285236]) 0 4 87 1634760805 rfl kj kj kj kj kj rfl (by decide) rfl) ?_
  refine seq_val (.int .i64 0) 6 rfl kj kj ?_
  refine seq_val (.int .u32 1634760805) 7 rfl kj kj ?_
  refine seq_nil ?_
  refine hK12 _ _ ?_
  try clear hK12 K12
  refine region_lit ?_
  refine seq_val (.int .i64 0) 15 rfl kj kj ?_
  refine seq_val (.int .u32 1634760805) 16 rfl kj kj ?_
  refine seq_val (.pointer (some ⟨g6, 0, none⟩)) 17 rfl kj kj ?_
  refine seq_store g6 _ (ints .u32 ([1634760805, 0, 0, 0, 0, 0, 0, 0, 0, 0, 0, 0, 0, 0, 0, 0])) 88 r6_3 rfl kj (run_storeI 87 _ _ g6 0 88 _ _ r6_3 rfl kj kj kj (show 0 < 16 by decide)) fun W4 p4 r6_4 => ?_
  have x4 : Ext w W4 := Puts.ext p4 x3 b6
  refine seq_nil ?_
  refine hK11 _ _ ?_
  try clear hK11 K11
  refine region_lit ?_
  refine seq_val (.int .i64 1) 18 rfl kj kj ?_
  refine seq_val (.int .i64 1) 11 rfl kj kj ?_
  refine seq_nil ?_
  show Code.rounds _ _ _ 4 _ _
  show Code.wp _ _ (Exit.then (Code.rounds _ _ _ 3) _) _ _
  refine wp_seq_k fun K13 hK13 => ?_
  refine region_lit ?_
  refine seq_val (.bool true) 12 rfl kj kj ?_
  refine seq_nil ?_
  refine hK13 _ _ ?_
  try clear hK13 K13
  refine wp_seq_k fun K14 hK14 => ?_
  refine cond_true kj ?_
  refine wp_skip ?_
  refine hK14 _ _ ?_
  try clear hK14 K14
  refine wp_seq_k fun K15 hK15 => ?_
  refine wp_block ?_
  refine wp_seq_k fun K16 hK16 => ?_
  refine region_lit ?_
  refine seq_val (.int .i64 1) 13 rfl kj kj ?_
  refine seq_val (.int .u32 857760878) 14 rfl kj (run_index_il 98 _ _ .i64 .u32 ([1634760805, 857760878, 2036477234, 1797285236]) 1 4 87 857760878 rfl kj kj kj kj kj rfl (by decide) rfl) ?_
  refine seq_val (.int .i64 1) 6 rfl kj kj ?_
  refine seq_val (.int .u32 857760878) 7 rfl kj kj ?_
  refine seq_nil ?_
  refine hK16 _ _ ?_
  try clear hK16 K16
  refine region_lit ?_
  refine seq_val (.int .i64 1) 15 rfl kj kj ?_
  refine seq_val (.int .u32 857760878) 16 rfl kj kj ?_
  refine seq_val (.pointer (some ⟨g6, 1, none⟩)) 17 rfl kj kj ?_
  refine seq_store g6 _ (ints .u32 ([1634760805, 857760878, 0, 0, 0, 0, 0, 0, 0, 0, 0, 0, 0, 0, 0, 0])) 88 r6_4 rfl kj (run_storeI 87 _ _ g6 1 88 _ _ r6_4 rfl kj kj kj (show 1 < 16 by decide)) fun W5 p5 r6_5 => ?_
  have x5 : Ext w W5 := Puts.ext p5 x4 b6
  refine seq_nil ?_
  refine hK15 _ _ ?_
  try clear hK15 K15
  refine region_lit ?_
  refine seq_val (.int .i64 2) 18 rfl kj kj ?_
  refine seq_val (.int .i64 2) 11 rfl kj kj ?_
  refine seq_nil ?_
  show Code.rounds _ _ _ 3 _ _
  show Code.wp _ _ (Exit.then (Code.rounds _ _ _ 2) _) _ _
  refine wp_seq_k fun K17 hK17 => ?_
  refine region_lit ?_
  refine seq_val (.bool true) 12 rfl kj kj ?_
  refine seq_nil ?_
  refine hK17 _ _ ?_
  try clear hK17 K17
  refine wp_seq_k fun K18 hK18 => ?_
  refine cond_true kj ?_
  refine wp_skip ?_
  refine hK18 _ _ ?_
  try clear hK18 K18
  refine wp_seq_k fun K19 hK19 => ?_
  refine wp_block ?_
  refine wp_seq_k fun K20 hK20 => ?_
  refine region_lit ?_
  refine seq_val (.int .i64 2) 13 rfl kj kj ?_
  refine seq_val (.int .u32 2036477234) 14 rfl kj (run_index_il 98 _ _ .i64 .u32 ([1634760805, 857760878, 2036477234, 1797285236]) 2 4 87 2036477234 rfl kj kj kj kj kj rfl (by decide) rfl) ?_
  refine seq_val (.int .i64 2) 6 rfl kj kj ?_
  refine seq_val (.int .u32 2036477234) 7 rfl kj kj ?_
  refine seq_nil ?_
  refine hK20 _ _ ?_
  try clear hK20 K20
  refine region_lit ?_
  refine seq_val (.int .i64 2) 15 rfl kj kj ?_
  refine seq_val (.int .u32 2036477234) 16 rfl kj kj ?_
  refine seq_val (.pointer (some ⟨g6, 2, none⟩)) 17 rfl kj kj ?_
  refine seq_store g6 _ (ints .u32 ([1634760805, 857760878, 2036477234, 0, 0, 0, 0, 0, 0, 0, 0, 0, 0, 0, 0, 0])) 88 r6_5 rfl kj (run_storeI 87 _ _ g6 2 88 _ _ r6_5 rfl kj kj kj (show 2 < 16 by decide)) fun W6 p6 r6_6 => ?_
  have x6 : Ext w W6 := Puts.ext p6 x5 b6
  refine seq_nil ?_
  refine hK19 _ _ ?_
  try clear hK19 K19
  refine region_lit ?_
  refine seq_val (.int .i64 3) 18 rfl kj kj ?_
  refine seq_val (.int .i64 3) 11 rfl kj kj ?_
  refine seq_nil ?_
  show Code.rounds _ _ _ 2 _ _
  show Code.wp _ _ (Exit.then (Code.rounds _ _ _ 1) _) _ _
  refine wp_seq_k fun K21 hK21 => ?_
  refine region_lit ?_
  refine seq_val (.bool true) 12 rfl kj kj ?_
  refine seq_nil ?_
  refine hK21 _ _ ?_
  try clear hK21 K21
  refine wp_seq_k fun K22 hK22 => ?_
  refine cond_true kj ?_
  refine wp_skip ?_
  refine hK22 _ _ ?_
  try clear hK22 K22
  refine wp_seq_k fun K23 hK23 => ?_
  refine wp_block ?_
  refine wp_seq_k fun K24 hK24 => ?_
  refine region_lit ?_
  refine seq_val (.int .i64 3) 13 rfl kj kj ?_
  refine seq_val (.int .u32 1797285236) 14 rfl kj (run_index_il 98 _ _ .i64 .u32 ([1634760805, 857760878, 2036477234, 1797285236]) 3 4 87 1797285236 rfl kj kj kj kj kj rfl (by decide) rfl) ?_
  refine seq_val (.int .i64 3) 6 rfl kj kj ?_
  refine seq_val (.int .u32 1797285236) 7 rfl kj kj ?_
  refine seq_nil ?_
  refine hK24 _ _ ?_
  try clear hK24 K24
  refine region_lit ?_
  refine seq_val (.int .i64 3) 15 rfl kj kj ?_
  refine seq_val (.int .u32 1797285236) 16 rfl kj kj ?_
  refine seq_val (.pointer (some ⟨g6, 3, none⟩)) 17 rfl kj kj ?_
  refine seq_store g6 _ (ints .u32 ([1634760805, 857760878, 2036477234, 1797285236, 0, 0, 0, 0, 0, 0, 0, 0, 0, 0, 0, 0])) 88 r6_6 rfl kj (run_storeI 87 _ _ g6 3 88 _ _ r6_6 rfl kj kj kj (show 3 < 16 by decide)) fun W7 p7 r6_7 => ?_
  have x7 : Ext w W7 := Puts.ext p7 x6 b6
  refine seq_nil ?_
  refine hK23 _ _ ?_
  try clear hK23 K23
  refine region_lit ?_
  refine seq_val (.int .i64 4) 18 rfl kj kj ?_
  refine seq_val (.int .i64 4) 11 rfl kj kj ?_
  refine seq_nil ?_
  show Code.rounds _ _ _ 1 _ _
  show Code.wp _ _ (Exit.then (Code.rounds _ _ _ 0) _) _ _
  refine wp_seq_k fun K25 hK25 => ?_
  refine region_lit ?_
  refine seq_val (.bool false) 12 rfl kj kj ?_
  refine seq_nil ?_
  refine hK25 _ _ ?_
  try clear hK25 K25
  refine wp_seq_k fun K26 hK26 => ?_
  refine cond_false kj ?_
  refine wp_exit ?_
  refine hK7 _ _ ?_
  try clear hK7 K7
  refine wp_seq_k fun K27 hK27 => ?_
  refine wp_seq_k fun K28 hK28 => ?_
  refine region_lit ?_
  refine seq_val (.int .i64 0) 19 rfl kj kj ?_
  refine seq_nil ?_
  refine hK28 _ _ ?_
  try clear hK28 K28
  refine wp_block ?_
  refine wp_loop_rounds 9 ?_
  show Code.wp _ _ (Exit.then (Code.rounds _ _ _ 8) _) _ _
  refine wp_seq_k fun K29 hK29 => ?_
  refine region_lit ?_
  refine seq_val (.bool true) 20 rfl kj kj ?_
  refine seq_nil ?_
  refine hK29 _ _ ?_
  try clear hK29 K29
  refine wp_seq_k fun K30 hK30 => ?_
  refine cond_true kj ?_
  refine wp_skip ?_
  refine hK30 _ _ ?_
  try clear hK30 K30
  refine wp_seq_k fun K31 hK31 => ?_
  refine wp_block ?_
  refine wp_seq_k fun K32 hK32 => ?_
  refine region_lit ?_
  refine seq_val (.int .i64 0) 21 rfl kj kj ?_
  refine seq_val (.int .i64 0) 8 rfl kj kj ?_
  refine seq_nil ?_
  refine hK32 _ _ ?_
  try clear hK32 K32
  refine region_lit ?_
  refine seq_val (.int .i64 0) 22 rfl kj kj ?_
  refine seq_val (.int .i64 4) 23 rfl kj kj ?_
  refine seq_val (.int .i64 0) 24 rfl kj kj ?_
  refine seq_val (.int .i64 0) 25 rfl kj kj ?_
  refine seq_val (.int .i64 0) 26 rfl kj kj ?_
  refine seq_val (.int .i64 0) 27 rfl kj kj ?_
  refine seq_val (.int .i64 4) 28 rfl kj kj ?_
  refine seq_val (.slice (some ⟨g3, 0 + 0, none⟩) (4 - 0) (32 - 0)) 29 rfl kj (run_sliceA 23 _ _ _ 0 4 32 g3 0 5 rfl kj kj kj ⟨.i64, by kernel_rfl⟩ ⟨.i64, by kernel_rfl⟩ (by omega) (by omega) (by omega)) ?_
  have r3_2 := (row_ext r3_1 e2)
  have r3_3 := (row_ext r3_2 e3)
  have r3_4 := (Puts.row p4 r3_3 (ne_of_old r3_2 l6))
  have r3_5 := (Puts.row p5 r3_4 (ne_of_old r3_2 l6))
  have r3_6 := (Puts.row p6 r3_5 (ne_of_old r3_2 l6))
  have r3_7 := (Puts.row p7 r3_6 (ne_of_old r3_2 l6))
  refine seq_call (.int .u32 (wv (le4 (sub4 key 0)))) 57 #[.slice (some ⟨g3, 0 + 0, none⟩) (4 - 0) (32 - 0)] 30 rfl kj kj ((wordC (sub4 key 0) _ _ _ (rdK_sub (xs := key) (by rw [hkl]; exact rdK_ints (xs := key) (n := 32) hkl r3_7 (row_lt r3_7) (by decide)) 0 (by omega)) (sub4_len _ _ (by omega)))) fun W8 e8 => ?_
  have x8 : Ext w W8 := Ext.tr x7 e8
  refine seq_val (.pointer (some ⟨g6, 4, none⟩)) 31 rfl kj kj ?_
  have r6_8 := (row_ext r6_7 e8)
  refine seq_store g6 _ (ints .u32 ([1634760805, 857760878, 2036477234, 1797285236, (wv (le4 (sub4 key 0))), 0, 0, 0, 0, 0, 0, 0, 0, 0, 0, 0])) 88 r6_8 rfl kj (run_storeI 87 _ _ g6 4 88 _ _ r6_8 rfl kj kj kj (show 4 < 16 by decide)) fun W9 p9 r6_9 => ?_
  have x9 : Ext w W9 := Puts.ext p9 x8 b6
  refine seq_nil ?_
  refine hK31 _ _ ?_
  try clear hK31 K31
  refine region_lit ?_
  refine seq_val (.int .i64 1) 32 rfl kj kj ?_
  refine seq_val (.int .i64 1) 19 rfl kj kj ?_
  refine seq_nil ?_
  show Code.rounds _ _ _ 8 _ _
  show Code.wp _ _ (Exit.then (Code.rounds _ _ _ 7) _) _ _
  refine wp_seq_k fun K33 hK33 => ?_
  refine region_lit ?_
  refine seq_val (.bool true) 20 rfl kj kj ?_
  refine seq_nil ?_
  refine hK33 _ _ ?_
  try clear hK33 K33
  refine wp_seq_k fun K34 hK34 => ?_
  refine cond_true kj ?_
  refine wp_skip ?_
  refine hK34 _ _ ?_
  try clear hK34 K34
  refine wp_seq_k fun K35 hK35 => ?_
  refine wp_block ?_
  refine wp_seq_k fun K36 hK36 => ?_
  refine region_lit ?_
  refine seq_val (.int .i64 1) 21 rfl kj kj ?_
  refine seq_val (.int .i64 1) 8 rfl kj kj ?_
  refine seq_nil ?_
  refine hK36 _ _ ?_
  try clear hK36 K36
  refine region_lit ?_
  refine seq_val (.int .i64 1) 22 rfl kj kj ?_
  refine seq_val (.int .i64 5) 23 rfl kj kj ?_
  refine seq_val (.int .i64 1) 24 rfl kj kj ?_
  refine seq_val (.int .i64 4) 25 rfl kj kj ?_
  refine seq_val (.int .i64 1) 26 rfl kj kj ?_
  refine seq_val (.int .i64 4) 27 rfl kj kj ?_
  refine seq_val (.int .i64 8) 28 rfl kj kj ?_
  refine seq_val (.slice (some ⟨g3, 0 + 4, none⟩) (8 - 4) (32 - 4)) 29 rfl kj (run_sliceA 23 _ _ _ 4 8 32 g3 0 5 rfl kj kj kj ⟨.i64, by kernel_rfl⟩ ⟨.i64, by kernel_rfl⟩ (by omega) (by omega) (by omega)) ?_
  have r3_8 := (row_ext r3_7 e8)
  have r3_9 := (Puts.row p9 r3_8 (ne_of_old r3_2 l6))
  refine seq_call (.int .u32 (wv (le4 (sub4 key 1)))) 57 #[.slice (some ⟨g3, 0 + 4, none⟩) (8 - 4) (32 - 4)] 30 rfl kj kj ((wordC (sub4 key 1) _ _ _ (rdK_sub (xs := key) (by rw [hkl]; exact rdK_ints (xs := key) (n := 32) hkl r3_9 (row_lt r3_9) (by decide)) 1 (by omega)) (sub4_len _ _ (by omega)))) fun W10 e10 => ?_
  have x10 : Ext w W10 := Ext.tr x9 e10
  refine seq_val (.pointer (some ⟨g6, 5, none⟩)) 31 rfl kj kj ?_
  have r6_10 := (row_ext r6_9 e10)
  refine seq_store g6 _ (ints .u32 ([1634760805, 857760878, 2036477234, 1797285236, (wv (le4 (sub4 key 0))), (wv (le4 (sub4 key 1))), 0, 0, 0, 0, 0, 0, 0, 0, 0, 0])) 88 r6_10 rfl kj (run_storeI 87 _ _ g6 5 88 _ _ r6_10 rfl kj kj kj (show 5 < 16 by decide)) fun W11 p11 r6_11 => ?_
  have x11 : Ext w W11 := Puts.ext p11 x10 b6
  refine seq_nil ?_
  refine hK35 _ _ ?_
  try clear hK35 K35
  refine region_lit ?_
  refine seq_val (.int .i64 2) 32 rfl kj kj ?_
  refine seq_val (.int .i64 2) 19 rfl kj kj ?_
  refine seq_nil ?_
  show Code.rounds _ _ _ 7 _ _
  show Code.wp _ _ (Exit.then (Code.rounds _ _ _ 6) _) _ _
  refine wp_seq_k fun K37 hK37 => ?_
  refine region_lit ?_
  refine seq_val (.bool true) 20 rfl kj kj ?_
  refine seq_nil ?_
  refine hK37 _ _ ?_
  try clear hK37 K37
  refine wp_seq_k fun K38 hK38 => ?_
  refine cond_true kj ?_
  refine wp_skip ?_
  refine hK38 _ _ ?_
  try clear hK38 K38
  refine wp_seq_k fun K39 hK39 => ?_
  refine wp_block ?_
  refine wp_seq_k fun K40 hK40 => ?_
  refine region_lit ?_
  refine seq_val (.int .i64 2) 21 rfl kj kj ?_
  refine seq_val (.int .i64 2) 8 rfl kj kj ?_
  refine seq_nil ?_
  refine hK40 _ _ ?_
  try clear hK40 K40
  refine region_lit ?_
  refine seq_val (.int .i64 2) 22 rfl kj kj ?_
  refine seq_val (.int .i64 6) 23 rfl kj kj ?_
  refine seq_val (.int .i64 2) 24 rfl kj kj ?_
  refine seq_val (.int .i64 8) 25 rfl kj kj ?_
  refine seq_val (.int .i64 2) 26 rfl kj kj ?_
  refine seq_val (.int .i64 8) 27 rfl kj kj ?_
  refine seq_val (.int .i64 12) 28 rfl kj kj ?_
  refine seq_val (.slice (some ⟨g3, 0 + 8, none⟩) (12 - 8) (32 - 8)) 29 rfl kj (run_sliceA 23 _ _ _ 8 12 32 g3 0 5 rfl kj kj kj ⟨.i64, by kernel_rfl⟩ ⟨.i64, by kernel_rfl⟩ (by omega) (by omega) (by omega)) ?_
  have r3_10 := (row_ext r3_9 e10)
  have r3_11 := (Puts.row p11 r3_10 (ne_of_old r3_2 l6))
  refine seq_call (.int .u32 (wv (le4 (sub4 key 2)))) 57 #[.slice (some ⟨g3, 0 + 8, none⟩) (12 - 8) (32 - 8)] 30 rfl kj kj ((wordC (sub4 key 2) _ _ _ (rdK_sub (xs := key) (by rw [hkl]; exact rdK_ints (xs := key) (n := 32) hkl r3_11 (row_lt r3_11) (by decide)) 2 (by omega)) (sub4_len _ _ (by omega)))) fun W12 e12 => ?_
  have x12 : Ext w W12 := Ext.tr x11 e12
  refine seq_val (.pointer (some ⟨g6, 6, none⟩)) 31 rfl kj kj ?_
  have r6_12 := (row_ext r6_11 e12)
  refine seq_store g6 _ (ints .u32 ([1634760805, 857760878, 2036477234, 1797285236, (wv (le4 (sub4 key 0))), (wv (le4 (sub4 key 1))), (wv (le4 (sub4 key 2))), 0, 0, 0, 0, 0, 0, 0, 0, 0])) 88 r6_12 rfl kj (run_storeI 87 _ _ g6 6 88 _ _ r6_12 rfl kj kj kj (show 6 < 16 by decide)) fun W13 p13 r6_13 => ?_
  have x13 : Ext w W13 := Puts.ext p13 x12 b6
  refine seq_nil ?_
  refine hK39 _ _ ?_
  try clear hK39 K39
  refine region_lit ?_
  refine seq_val (.int .i64 3) 32 rfl kj kj ?_
  refine seq_val (.int .i64 3) 19 rfl kj kj ?_
  refine seq_nil ?_
  show Code.rounds _ _ _ 6 _ _
  show Code.wp _ _ (Exit.then (Code.rounds _ _ _ 5) _) _ _
  refine wp_seq_k fun K41 hK41 => ?_
  refine region_lit ?_
  refine seq_val (.bool true) 20 rfl kj kj ?_
  refine seq_nil ?_
  refine hK41 _ _ ?_
  try clear hK41 K41
  refine wp_seq_k fun K42 hK42 => ?_
  refine cond_true kj ?_
  refine wp_skip ?_
  refine hK42 _ _ ?_
  try clear hK42 K42
  refine wp_seq_k fun K43 hK43 => ?_
  refine wp_block ?_
  refine wp_seq_k fun K44 hK44 => ?_
  refine region_lit ?_
  refine seq_val (.int .i64 3) 21 rfl kj kj ?_
  refine seq_val (.int .i64 3) 8 rfl kj kj ?_
  refine seq_nil ?_
  refine hK44 _ _ ?_
  try clear hK44 K44
  refine region_lit ?_
  refine seq_val (.int .i64 3) 22 rfl kj kj ?_
  refine seq_val (.int .i64 7) 23 rfl kj kj ?_
  refine seq_val (.int .i64 3) 24 rfl kj kj ?_
  refine seq_val (.int .i64 12) 25 rfl kj kj ?_
  refine seq_val (.int .i64 3) 26 rfl kj kj ?_
  refine seq_val (.int .i64 12) 27 rfl kj kj ?_
  refine seq_val (.int .i64 16) 28 rfl kj kj ?_
  refine seq_val (.slice (some ⟨g3, 0 + 12, none⟩) (16 - 12) (32 - 12)) 29 rfl kj (run_sliceA 23 _ _ _ 12 16 32 g3 0 5 rfl kj kj kj ⟨.i64, by kernel_rfl⟩ ⟨.i64, by kernel_rfl⟩ (by omega) (by omega) (by omega)) ?_
  have r3_12 := (row_ext r3_11 e12)
  have r3_13 := (Puts.row p13 r3_12 (ne_of_old r3_2 l6))
  refine seq_call (.int .u32 (wv (le4 (sub4 key 3)))) 57 #[.slice (some ⟨g3, 0 + 12, none⟩) (16 - 12) (32 - 12)] 30 rfl kj kj ((wordC (sub4 key 3) _ _ _ (rdK_sub (xs := key) (by rw [hkl]; exact rdK_ints (xs := key) (n := 32) hkl r3_13 (row_lt r3_13) (by decide)) 3 (by omega)) (sub4_len _ _ (by omega)))) fun W14 e14 => ?_
  have x14 : Ext w W14 := Ext.tr x13 e14
  refine seq_val (.pointer (some ⟨g6, 7, none⟩)) 31 rfl kj kj ?_
  have r6_14 := (row_ext r6_13 e14)
  refine seq_store g6 _ (ints .u32 ([1634760805, 857760878, 2036477234, 1797285236, (wv (le4 (sub4 key 0))), (wv (le4 (sub4 key 1))), (wv (le4 (sub4 key 2))), (wv (le4 (sub4 key 3))), 0, 0, 0, 0, 0, 0, 0, 0])) 88 r6_14 rfl kj (run_storeI 87 _ _ g6 7 88 _ _ r6_14 rfl kj kj kj (show 7 < 16 by decide)) fun W15 p15 r6_15 => ?_
  have x15 : Ext w W15 := Puts.ext p15 x14 b6
  refine seq_nil ?_
  refine hK43 _ _ ?_
  try clear hK43 K43
  refine region_lit ?_
  refine seq_val (.int .i64 4) 32 rfl kj kj ?_
  refine seq_val (.int .i64 4) 19 rfl kj kj ?_
  refine seq_nil ?_
  show Code.rounds _ _ _ 5 _ _
  show Code.wp _ _ (Exit.then (Code.rounds _ _ _ 4) _) _ _
  refine wp_seq_k fun K45 hK45 => ?_
  refine region_lit ?_
  refine seq_val (.bool true) 20 rfl kj kj ?_
  refine seq_nil ?_
  refine hK45 _ _ ?_
  try clear hK45 K45
  refine wp_seq_k fun K46 hK46 => ?_
  refine cond_true kj ?_
  refine wp_skip ?_
  refine hK46 _ _ ?_
  try clear hK46 K46
  refine wp_seq_k fun K47 hK47 => ?_
  refine wp_block ?_
  refine wp_seq_k fun K48 hK48 => ?_
  refine region_lit ?_
  refine seq_val (.int .i64 4) 21 rfl kj kj ?_
  refine seq_val (.int .i64 4) 8 rfl kj kj ?_
  refine seq_nil ?_
  refine hK48 _ _ ?_
  try clear hK48 K48
  refine region_lit ?_
  refine seq_val (.int .i64 4) 22 rfl kj kj ?_
  refine seq_val (.int .i64 8) 23 rfl kj kj ?_
  refine seq_val (.int .i64 4) 24 rfl kj kj ?_
  refine seq_val (.int .i64 16) 25 rfl kj kj ?_
  refine seq_val (.int .i64 4) 26 rfl kj kj ?_
  refine seq_val (.int .i64 16) 27 rfl kj kj ?_
  refine seq_val (.int .i64 20) 28 rfl kj kj ?_
  refine seq_val (.slice (some ⟨g3, 0 + 16, none⟩) (20 - 16) (32 - 16)) 29 rfl kj (run_sliceA 23 _ _ _ 16 20 32 g3 0 5 rfl kj kj kj ⟨.i64, by kernel_rfl⟩ ⟨.i64, by kernel_rfl⟩ (by omega) (by omega) (by omega)) ?_
  have r3_14 := (row_ext r3_13 e14)
  have r3_15 := (Puts.row p15 r3_14 (ne_of_old r3_2 l6))
  refine seq_call (.int .u32 (wv (le4 (sub4 key 4)))) 57 #[.slice (some ⟨g3, 0 + 16, none⟩) (20 - 16) (32 - 16)] 30 rfl kj kj ((wordC (sub4 key 4) _ _ _ (rdK_sub (xs := key) (by rw [hkl]; exact rdK_ints (xs := key) (n := 32) hkl r3_15 (row_lt r3_15) (by decide)) 4 (by omega)) (sub4_len _ _ (by omega)))) fun W16 e16 => ?_
  have x16 : Ext w W16 := Ext.tr x15 e16
  refine seq_val (.pointer (some ⟨g6, 8, none⟩)) 31 rfl kj kj ?_
  have r6_16 := (row_ext r6_15 e16)
  refine seq_store g6 _ (ints .u32 ([1634760805, 857760878, 2036477234, 1797285236, (wv (le4 (sub4 key 0))), (wv (le4 (sub4 key 1))), (wv (le4 (sub4 key 2))), (wv (le4 (sub4 key 3))), (wv (le4 (sub4 key 4))), 0, 0, 0, 0, 0, 0, 0])) 88 r6_16 rfl kj (run_storeI 87 _ _ g6 8 88 _ _ r6_16 rfl kj kj kj (show 8 < 16 by decide)) fun W17 p17 r6_17 => ?_
  have x17 : Ext w W17 := Puts.ext p17 x16 b6
  refine seq_nil ?_
  refine hK47 _ _ ?_
  try clear hK47 K47
  refine region_lit ?_
  refine seq_val (.int .i64 5) 32 rfl kj kj ?_
  refine seq_val (.int .i64 5) 19 rfl kj kj ?_
  refine seq_nil ?_
  show Code.rounds _ _ _ 4 _ _
  show Code.wp _ _ (Exit.then (Code.rounds _ _ _ 3) _) _ _
  refine wp_seq_k fun K49 hK49 => ?_
  refine region_lit ?_
  refine seq_val (.bool true) 20 rfl kj kj ?_
  refine seq_nil ?_
  refine hK49 _ _ ?_
  try clear hK49 K49
  refine wp_seq_k fun K50 hK50 => ?_
  refine cond_true kj ?_
  refine wp_skip ?_
  refine hK50 _ _ ?_
  try clear hK50 K50
  refine wp_seq_k fun K51 hK51 => ?_
  refine wp_block ?_
  refine wp_seq_k fun K52 hK52 => ?_
  refine region_lit ?_
  refine seq_val (.int .i64 5) 21 rfl kj kj ?_
  refine seq_val (.int .i64 5) 8 rfl kj kj ?_
  refine seq_nil ?_
  refine hK52 _ _ ?_
  try clear hK52 K52
  refine region_lit ?_
  refine seq_val (.int .i64 5) 22 rfl kj kj ?_
  refine seq_val (.int .i64 9) 23 rfl kj kj ?_
  refine seq_val (.int .i64 5) 24 rfl kj kj ?_
  refine seq_val (.int .i64 20) 25 rfl kj kj ?_
  refine seq_val (.int .i64 5) 26 rfl kj kj ?_
  refine seq_val (.int .i64 20) 27 rfl kj kj ?_
  refine seq_val (.int .i64 24) 28 rfl kj kj ?_
  refine seq_val (.slice (some ⟨g3, 0 + 20, none⟩) (24 - 20) (32 - 20)) 29 rfl kj (run_sliceA 23 _ _ _ 20 24 32 g3 0 5 rfl kj kj kj ⟨.i64, by kernel_rfl⟩ ⟨.i64, by kernel_rfl⟩ (by omega) (by omega) (by omega)) ?_
  have r3_16 := (row_ext r3_15 e16)
  have r3_17 := (Puts.row p17 r3_16 (ne_of_old r3_2 l6))
  refine seq_call (.int .u32 (wv (le4 (sub4 key 5)))) 57 #[.slice (some ⟨g3, 0 + 20, none⟩) (24 - 20) (32 - 20)] 30 rfl kj kj ((wordC (sub4 key 5) _ _ _ (rdK_sub (xs := key) (by rw [hkl]; exact rdK_ints (xs := key) (n := 32) hkl r3_17 (row_lt r3_17) (by decide)) 5 (by omega)) (sub4_len _ _ (by omega)))) fun W18 e18 => ?_
  have x18 : Ext w W18 := Ext.tr x17 e18
  refine seq_val (.pointer (some ⟨g6, 9, none⟩)) 31 rfl kj kj ?_
  have r6_18 := (row_ext r6_17 e18)
  refine seq_store g6 _ (ints .u32 ([1634760805, 857760878, 2036477234, 1797285236, (wv (le4 (sub4 key 0))), (wv (le4 (sub4 key 1))), (wv (le4 (sub4 key 2))), (wv (le4 (sub4 key 3))), (wv (le4 (sub4 key 4))), (wv (le4 (sub4 key 5))), 0, 0, 0, 0, 0, 0])) 88 r6_18 rfl kj (run_storeI 87 _ _ g6 9 88 _ _ r6_18 rfl kj kj kj (show 9 < 16 by decide)) fun W19 p19 r6_19 => ?_
  have x19 : Ext w W19 := Puts.ext p19 x18 b6
  refine seq_nil ?_
  refine hK51 _ _ ?_
  try clear hK51 K51
  refine region_lit ?_
  refine seq_val (.int .i64 6) 32 rfl kj kj ?_
  refine seq_val (.int .i64 6) 19 rfl kj kj ?_
  refine seq_nil ?_
  show Code.rounds _ _ _ 3 _ _
  show Code.wp _ _ (Exit.then (Code.rounds _ _ _ 2) _) _ _
  refine wp_seq_k fun K53 hK53 => ?_
  refine region_lit ?_
  refine seq_val (.bool true) 20 rfl kj kj ?_
  refine seq_nil ?_
  refine hK53 _ _ ?_
  try clear hK53 K53
  refine wp_seq_k fun K54 hK54 => ?_
  refine cond_true kj ?_
  refine wp_skip ?_
  refine hK54 _ _ ?_
  try clear hK54 K54
  refine wp_seq_k fun K55 hK55 => ?_
  refine wp_block ?_
  refine wp_seq_k fun K56 hK56 => ?_
  refine region_lit ?_
  refine seq_val (.int .i64 6) 21 rfl kj kj ?_
  refine seq_val (.int .i64 6) 8 rfl kj kj ?_
  refine seq_nil ?_
  refine hK56 _ _ ?_
  try clear hK56 K56
  refine region_lit ?_
  refine seq_val (.int .i64 6) 22 rfl kj kj ?_
  refine seq_val (.int .i64 10) 23 rfl kj kj ?_
  refine seq_val (.int .i64 6) 24 rfl kj kj ?_
  refine seq_val (.int .i64 24) 25 rfl kj kj ?_
  refine seq_val (.int .i64 6) 26 rfl kj kj ?_
  refine seq_val (.int .i64 24) 27 rfl kj kj ?_
  refine seq_val (.int .i64 28) 28 rfl kj kj ?_
  refine seq_val (.slice (some ⟨g3, 0 + 24, none⟩) (28 - 24) (32 - 24)) 29 rfl kj (run_sliceA 23 _ _ _ 24 28 32 g3 0 5 rfl kj kj kj ⟨.i64, by kernel_rfl⟩ ⟨.i64, by kernel_rfl⟩ (by omega) (by omega) (by omega)) ?_
  have r3_18 := (row_ext r3_17 e18)
  have r3_19 := (Puts.row p19 r3_18 (ne_of_old r3_2 l6))
  refine seq_call (.int .u32 (wv (le4 (sub4 key 6)))) 57 #[.slice (some ⟨g3, 0 + 24, none⟩) (28 - 24) (32 - 24)] 30 rfl kj kj ((wordC (sub4 key 6) _ _ _ (rdK_sub (xs := key) (by rw [hkl]; exact rdK_ints (xs := key) (n := 32) hkl r3_19 (row_lt r3_19) (by decide)) 6 (by omega)) (sub4_len _ _ (by omega)))) fun W20 e20 => ?_
  have x20 : Ext w W20 := Ext.tr x19 e20
  refine seq_val (.pointer (some ⟨g6, 10, none⟩)) 31 rfl kj kj ?_
  have r6_20 := (row_ext r6_19 e20)
  refine seq_store g6 _ (ints .u32 ([1634760805, 857760878, 2036477234, 1797285236, (wv (le4 (sub4 key 0))), (wv (le4 (sub4 key 1))), (wv (le4 (sub4 key 2))), (wv (le4 (sub4 key 3))), (wv (le4 (sub4 key 4))), (wv (le4 (sub4 key 5))), (wv (le4 (sub4 key 6))), 0, 0, 0, 0, 0])) 88 r6_20 rfl kj (run_storeI 87 _ _ g6 10 88 _ _ r6_20 rfl kj kj kj (show 10 < 16 by decide)) fun W21 p21 r6_21 => ?_
  have x21 : Ext w W21 := Puts.ext p21 x20 b6
  refine seq_nil ?_
  refine hK55 _ _ ?_
  try clear hK55 K55
  refine region_lit ?_
  refine seq_val (.int .i64 7) 32 rfl kj kj ?_
  refine seq_val (.int .i64 7) 19 rfl kj kj ?_
  refine seq_nil ?_
  show Code.rounds _ _ _ 2 _ _
  show Code.wp _ _ (Exit.then (Code.rounds _ _ _ 1) _) _ _
  refine wp_seq_k fun K57 hK57 => ?_
  refine region_lit ?_
  refine seq_val (.bool true) 20 rfl kj kj ?_
  refine seq_nil ?_
  refine hK57 _ _ ?_
  try clear hK57 K57
  refine wp_seq_k fun K58 hK58 => ?_
  refine cond_true kj ?_
  refine wp_skip ?_
  refine hK58 _ _ ?_
  try clear hK58 K58
  refine wp_seq_k fun K59 hK59 => ?_
  refine wp_block ?_
  refine wp_seq_k fun K60 hK60 => ?_
  refine region_lit ?_
  refine seq_val (.int .i64 7) 21 rfl kj kj ?_
  refine seq_val (.int .i64 7) 8 rfl kj kj ?_
  refine seq_nil ?_
  refine hK60 _ _ ?_
  try clear hK60 K60
  refine region_lit ?_
  refine seq_val (.int .i64 7) 22 rfl kj kj ?_
  refine seq_val (.int .i64 11) 23 rfl kj kj ?_
  refine seq_val (.int .i64 7) 24 rfl kj kj ?_
  refine seq_val (.int .i64 28) 25 rfl kj kj ?_
  refine seq_val (.int .i64 7) 26 rfl kj kj ?_
  refine seq_val (.int .i64 28) 27 rfl kj kj ?_
  refine seq_val (.int .i64 32) 28 rfl kj kj ?_
  refine seq_val (.slice (some ⟨g3, 0 + 28, none⟩) (32 - 28) (32 - 28)) 29 rfl kj (run_sliceA 23 _ _ _ 28 32 32 g3 0 5 rfl kj kj kj ⟨.i64, by kernel_rfl⟩ ⟨.i64, by kernel_rfl⟩ (by omega) (by omega) (by omega)) ?_
  have r3_20 := (row_ext r3_19 e20)
  have r3_21 := (Puts.row p21 r3_20 (ne_of_old r3_2 l6))
  refine seq_call (.int .u32 (wv (le4 (sub4 key 7)))) 57 #[.slice (some ⟨g3, 0 + 28, none⟩) (32 - 28) (32 - 28)] 30 rfl kj kj ((wordC (sub4 key 7) _ _ _ (rdK_sub (xs := key) (by rw [hkl]; exact rdK_ints (xs := key) (n := 32) hkl r3_21 (row_lt r3_21) (by decide)) 7 (by omega)) (sub4_len _ _ (by omega)))) fun W22 e22 => ?_
  have x22 : Ext w W22 := Ext.tr x21 e22
  refine seq_val (.pointer (some ⟨g6, 11, none⟩)) 31 rfl kj kj ?_
  have r6_22 := (row_ext r6_21 e22)
  refine seq_store g6 _ (ints .u32 ([1634760805, 857760878, 2036477234, 1797285236, (wv (le4 (sub4 key 0))), (wv (le4 (sub4 key 1))), (wv (le4 (sub4 key 2))), (wv (le4 (sub4 key 3))), (wv (le4 (sub4 key 4))), (wv (le4 (sub4 key 5))), (wv (le4 (sub4 key 6))), (wv (le4 (sub4 key 7))), 0, 0, 0, 0])) 88 r6_22 rfl kj (run_storeI 87 _ _ g6 11 88 _ _ r6_22 rfl kj kj kj (show 11 < 16 by decide)) fun W23 p23 r6_23 => ?_
  have x23 : Ext w W23 := Puts.ext p23 x22 b6
  refine seq_nil ?_
  refine hK59 _ _ ?_
  try clear hK59 K59
  refine region_lit ?_
  refine seq_val (.int .i64 8) 32 rfl kj kj ?_
  refine seq_val (.int .i64 8) 19 rfl kj kj ?_
  refine seq_nil ?_
  show Code.rounds _ _ _ 1 _ _
  show Code.wp _ _ (Exit.then (Code.rounds _ _ _ 0) _) _ _
  refine wp_seq_k fun K61 hK61 => ?_
  refine region_lit ?_
  refine seq_val (.bool false) 20 rfl kj kj ?_
  refine seq_nil ?_
  refine hK61 _ _ ?_
  try clear hK61 K61
  refine wp_seq_k fun K62 hK62 => ?_
  refine cond_false kj ?_
  refine wp_exit ?_
  refine hK27 _ _ ?_
  try clear hK27 K27
  refine wp_seq_k fun K63 hK63 => ?_
  refine wp_seq_k fun K64 hK64 => ?_
  refine region_lit ?_
  refine seq_val (.int .i64 0) 33 rfl kj kj ?_
  refine seq_nil ?_
  refine hK64 _ _ ?_
  try clear hK64 K64
  refine wp_block ?_
  refine wp_loop_rounds 4 ?_
  show Code.wp _ _ (Exit.then (Code.rounds _ _ _ 3) _) _ _
  refine wp_seq_k fun K65 hK65 => ?_
  refine region_lit ?_
  refine seq_val (.bool true) 34 rfl kj kj ?_
  refine seq_nil ?_
  refine hK65 _ _ ?_
  try clear hK65 K65
  refine wp_seq_k fun K66 hK66 => ?_
  refine cond_true kj ?_
  refine wp_skip ?_
  refine hK66 _ _ ?_
  try clear hK66 K66
  refine wp_seq_k fun K67 hK67 => ?_
  refine wp_block ?_
  refine wp_seq_k fun K68 hK68 => ?_
  refine region_lit ?_
  refine seq_val (.int .i64 0) 35 rfl kj kj ?_
  refine seq_val (.int .i64 0) 9 rfl kj kj ?_
  refine seq_nil ?_
  refine hK68 _ _ ?_
  try clear hK68 K68
  refine region_lit ?_
  refine seq_val (.int .i64 0) 36 rfl kj kj ?_
  refine seq_val (.int .i64 13) 37 rfl kj kj ?_
  refine seq_val (.slice (some ⟨gn, on, none⟩) nonce.length c_n) 38 rfl kj kj ?_
  refine seq_val (.int .i64 0) 39 rfl kj kj ?_
  refine seq_val (.int .i64 0) 40 rfl kj kj ?_
  refine seq_val (.int .i64 0) 41 rfl kj kj ?_
  refine seq_val (.int .i64 0) 42 rfl kj kj ?_
  refine seq_val (.int .i64 4) 43 rfl kj kj ?_
  refine seq_val (.slice (some ⟨gn, on + 0, none⟩) (4 - 0) (c_n - 0)) 44 rfl kj (run_sliceM 24 _ _ _ 0 4 gn on nonce.length c_n 5 rfl kj kj kj kj kj (by decide) (by omega) (by omega)) ?_
  refine seq_call (.int .u32 (wv (le4 (sub4 nonce 0)))) 57 #[.slice (some ⟨gn, on + 0, none⟩) (4 - 0) (c_n - 0)] 45 rfl kj kj ((wordC (sub4 nonce 0) _ _ _ (rdK_sub (xs := nonce) (hn.ext x23) 0 (by omega)) (sub4_len _ _ (by omega)))) fun W24 e24 => ?_
  have x24 : Ext w W24 := Ext.tr x23 e24
  refine seq_val (.pointer (some ⟨g6, 13, none⟩)) 46 rfl kj kj ?_
  have r6_24 := (row_ext r6_23 e24)
  refine seq_store g6 _ (ints .u32 ([1634760805, 857760878, 2036477234, 1797285236, (wv (le4 (sub4 key 0))), (wv (le4 (sub4 key 1))), (wv (le4 (sub4 key 2))), (wv (le4 (sub4 key 3))), (wv (le4 (sub4 key 4))), (wv (le4 (sub4 key 5))), (wv (le4 (sub4 key 6))), (wv (le4 (sub4 key 7))), 0, (wv (le4 (sub4 nonce 0))), 0, 0])) 88 r6_24 rfl kj (run_storeI 87 _ _ g6 13 88 _ _ r6_24 rfl kj kj kj (show 13 < 16 by decide)) fun W25 p25 r6_25 => ?_
  have x25 : Ext w W25 := Puts.ext p25 x24 b6
  refine seq_nil ?_
  refine hK67 _ _ ?_
  try clear hK67 K67
  refine region_lit ?_
  refine seq_val (.int .i64 1) 47 rfl kj kj ?_
  refine seq_val (.int .i64 1) 33 rfl kj kj ?_
  refine seq_nil ?_
  show Code.rounds _ _ _ 3 _ _
  show Code.wp _ _ (Exit.then (Code.rounds _ _ _ 2) _) _ _
  refine wp_seq_k fun K69 hK69 => ?_
  refine region_lit ?_
  refine seq_val (.bool true) 34 rfl kj kj ?_
  refine seq_nil ?_
  refine hK69 _ _ ?_
  try clear hK69 K69
  refine wp_seq_k fun K70 hK70 => ?_
  refine cond_true kj ?_
  refine wp_skip ?_
  refine hK70 _ _ ?_
  try clear hK70 K70
  refine wp_seq_k fun K71 hK71 => ?_
  refine wp_block ?_
  refine wp_seq_k fun K72 hK72 => ?_
  refine region_lit ?_
  refine seq_val (.int .i64 1) 35 rfl kj kj ?_
  refine seq_val (.int .i64 1) 9 rfl kj kj ?_
  refine seq_nil ?_
  refine hK72 _ _ ?_
  try clear hK72 K72
  refine region_lit ?_
  refine seq_val (.int .i64 1) 36 rfl kj kj ?_
  refine seq_val (.int .i64 14) 37 rfl kj kj ?_
  refine seq_val (.slice (some ⟨gn, on, none⟩) nonce.length c_n) 38 rfl kj kj ?_
  refine seq_val (.int .i64 1) 39 rfl kj kj ?_
  refine seq_val (.int .i64 4) 40 rfl kj kj ?_
  refine seq_val (.int .i64 1) 41 rfl kj kj ?_
  refine seq_val (.int .i64 4) 42 rfl kj kj ?_
  refine seq_val (.int .i64 8) 43 rfl kj kj ?_
  refine seq_val (.slice (some ⟨gn, on + 4, none⟩) (8 - 4) (c_n - 4)) 44 rfl kj (run_sliceM 24 _ _ _ 4 8 gn on nonce.length c_n 5 rfl kj kj kj kj kj (by decide) (by omega) (by omega)) ?_
  refine seq_call (.int .u32 (wv (le4 (sub4 nonce 1)))) 57 #[.slice (some ⟨gn, on + 4, none⟩) (8 - 4) (c_n - 4)] 45 rfl kj kj ((wordC (sub4 nonce 1) _ _ _ (rdK_sub (xs := nonce) (hn.ext x25) 1 (by omega)) (sub4_len _ _ (by omega)))) fun W26 e26 => ?_
  have x26 : Ext w W26 := Ext.tr x25 e26
  refine seq_val (.pointer (some ⟨g6, 14, none⟩)) 46 rfl kj kj ?_
  have r6_26 := (row_ext r6_25 e26)
  refine seq_store g6 _ (ints .u32 ([1634760805, 857760878, 2036477234, 1797285236, (wv (le4 (sub4 key 0))), (wv (le4 (sub4 key 1))), (wv (le4 (sub4 key 2))), (wv (le4 (sub4 key 3))), (wv (le4 (sub4 key 4))), (wv (le4 (sub4 key 5))), (wv (le4 (sub4 key 6))), (wv (le4 (sub4 key 7))), 0, (wv (le4 (sub4 nonce 0))), (wv (le4 (sub4 nonce 1))), 0])) 88 r6_26 rfl kj (run_storeI 87 _ _ g6 14 88 _ _ r6_26 rfl kj kj kj (show 14 < 16 by decide)) fun W27 p27 r6_27 => ?_
  have x27 : Ext w W27 := Puts.ext p27 x26 b6
  refine seq_nil ?_
  refine hK71 _ _ ?_
  try clear hK71 K71
  refine region_lit ?_
  refine seq_val (.int .i64 2) 47 rfl kj kj ?_
  refine seq_val (.int .i64 2) 33 rfl kj kj ?_
  refine seq_nil ?_
  show Code.rounds _ _ _ 2 _ _
  show Code.wp _ _ (Exit.then (Code.rounds _ _ _ 1) _) _ _
  refine wp_seq_k fun K73 hK73 => ?_
  refine region_lit ?_
  refine seq_val (.bool true) 34 rfl kj kj ?_
  refine seq_nil ?_
  refine hK73 _ _ ?_
  try clear hK73 K73
  refine wp_seq_k fun K74 hK74 => ?_
  refine cond_true kj ?_
  refine wp_skip ?_
  refine hK74 _ _ ?_
  try clear hK74 K74
  refine wp_seq_k fun K75 hK75 => ?_
  refine wp_block ?_
  refine wp_seq_k fun K76 hK76 => ?_
  refine region_lit ?_
  refine seq_val (.int .i64 2) 35 rfl kj kj ?_
  refine seq_val (.int .i64 2) 9 rfl kj kj ?_
  refine seq_nil ?_
  refine hK76 _ _ ?_
  try clear hK76 K76
  refine region_lit ?_
  refine seq_val (.int .i64 2) 36 rfl kj kj ?_
  refine seq_val (.int .i64 15) 37 rfl kj kj ?_
  refine seq_val (.slice (some ⟨gn, on, none⟩) nonce.length c_n) 38 rfl kj kj ?_
  refine seq_val (.int .i64 2) 39 rfl kj kj ?_
  refine seq_val (.int .i64 8) 40 rfl kj kj ?_
  refine seq_val (.int .i64 2) 41 rfl kj kj ?_
  refine seq_val (.int .i64 8) 42 rfl kj kj ?_
  refine seq_val (.int .i64 12) 43 rfl kj kj ?_
  refine seq_val (.slice (some ⟨gn, on + 8, none⟩) (12 - 8) (c_n - 8)) 44 rfl kj (run_sliceM 24 _ _ _ 8 12 gn on nonce.length c_n 5 rfl kj kj kj kj kj (by decide) (by omega) (by omega)) ?_
  refine seq_call (.int .u32 (wv (le4 (sub4 nonce 2)))) 57 #[.slice (some ⟨gn, on + 8, none⟩) (12 - 8) (c_n - 8)] 45 rfl kj kj ((wordC (sub4 nonce 2) _ _ _ (rdK_sub (xs := nonce) (hn.ext x27) 2 (by omega)) (sub4_len _ _ (by omega)))) fun W28 e28 => ?_
  have x28 : Ext w W28 := Ext.tr x27 e28
  refine seq_val (.pointer (some ⟨g6, 15, none⟩)) 46 rfl kj kj ?_
  have r6_28 := (row_ext r6_27 e28)
  refine seq_store g6 _ (ints .u32 ([1634760805, 857760878, 2036477234, 1797285236, (wv (le4 (sub4 key 0))), (wv (le4 (sub4 key 1))), (wv (le4 (sub4 key 2))), (wv (le4 (sub4 key 3))), (wv (le4 (sub4 key 4))), (wv (le4 (sub4 key 5))), (wv (le4 (sub4 key 6))), (wv (le4 (sub4 key 7))), 0, (wv (le4 (sub4 nonce 0))), (wv (le4 (sub4 nonce 1))), (wv (le4 (sub4 nonce 2)))])) 88 r6_28 rfl kj (run_storeI 87 _ _ g6 15 88 _ _ r6_28 rfl kj kj kj (show 15 < 16 by decide)) fun W29 p29 r6_29 => ?_
  have x29 : Ext w W29 := Puts.ext p29 x28 b6
  refine seq_nil ?_
  refine hK75 _ _ ?_
  try clear hK75 K75
  refine region_lit ?_
  refine seq_val (.int .i64 3) 47 rfl kj kj ?_
  refine seq_val (.int .i64 3) 33 rfl kj kj ?_
  refine seq_nil ?_
  show Code.rounds _ _ _ 1 _ _
  show Code.wp _ _ (Exit.then (Code.rounds _ _ _ 0) _) _ _
  refine wp_seq_k fun K77 hK77 => ?_
  refine region_lit ?_
  refine seq_val (.bool false) 34 rfl kj kj ?_
  refine seq_nil ?_
  refine hK77 _ _ ?_
  try clear hK77 K77
  refine wp_seq_k fun K78 hK78 => ?_
  refine cond_false kj ?_
  refine wp_exit ?_
  refine hK63 _ _ ?_
  try clear hK63 K63
  refine wp_seq_k fun K79 hK79 => ?_
  refine region_lit ?_
  refine seq_val (.agg (ints .u32 ([1634760805, 857760878, 2036477234, 1797285236, (wv (le4 (sub4 key 0))), (wv (le4 (sub4 key 1))), (wv (le4 (sub4 key 2))), (wv (le4 (sub4 key 3))), (wv (le4 (sub4 key 4))), (wv (le4 (sub4 key 5))), (wv (le4 (sub4 key 6))), (wv (le4 (sub4 key 7))), 0, (wv (le4 (sub4 nonce 0))), (wv (le4 (sub4 nonce 1))), (wv (le4 (sub4 nonce 2)))]))) 48 rfl kj (run_load_row 88 _ g6 88 _ _ r6_29 rfl kj kj (isz (n := 16) kj kj)) ?_
  have r4_3 := (row_ext r4_2 e3)
  have r4_4 := (Puts.row p4 r4_3 (ne_of_old r4_2 l6))
  have r4_5 := (Puts.row p5 r4_4 (ne_of_old r4_2 l6))
  have r4_6 := (Puts.row p6 r4_5 (ne_of_old r4_2 l6))
  have r4_7 := (Puts.row p7 r4_6 (ne_of_old r4_2 l6))
  have r4_8 := (row_ext r4_7 e8)
  have r4_9 := (Puts.row p9 r4_8 (ne_of_old r4_2 l6))
  have r4_10 := (row_ext r4_9 e10)
  have r4_11 := (Puts.row p11 r4_10 (ne_of_old r4_2 l6))
  have r4_12 := (row_ext r4_11 e12)
  have r4_13 := (Puts.row p13 r4_12 (ne_of_old r4_2 l6))
  have r4_14 := (row_ext r4_13 e14)
  have r4_15 := (Puts.row p15 r4_14 (ne_of_old r4_2 l6))
  have r4_16 := (row_ext r4_15 e16)
  have r4_17 := (Puts.row p17 r4_16 (ne_of_old r4_2 l6))
  have r4_18 := (row_ext r4_17 e18)
  have r4_19 := (Puts.row p19 r4_18 (ne_of_old r4_2 l6))
  have r4_20 := (row_ext r4_19 e20)
  have r4_21 := (Puts.row p21 r4_20 (ne_of_old r4_2 l6))
  have r4_22 := (row_ext r4_21 e22)
  have r4_23 := (Puts.row p23 r4_22 (ne_of_old r4_2 l6))
  have r4_24 := (row_ext r4_23 e24)
  have r4_25 := (Puts.row p25 r4_24 (ne_of_old r4_2 l6))
  have r4_26 := (row_ext r4_25 e26)
  have r4_27 := (Puts.row p27 r4_26 (ne_of_old r4_2 l6))
  have r4_28 := (row_ext r4_27 e28)
  have r4_29 := (Puts.row p29 r4_28 (ne_of_old r4_2 l6))
  refine seq_store g4 _ (ints .u32 ([1634760805, 857760878, 2036477234, 1797285236, (wv (le4 (sub4 key 0))), (wv (le4 (sub4 key 1))), (wv (le4 (sub4 key 2))), (wv (le4 (sub4 key 3))), (wv (le4 (sub4 key 4))), (wv (le4 (sub4 key 5))), (wv (le4 (sub4 key 6))), (wv (le4 (sub4 key 7))), 0, (wv (le4 (sub4 nonce 0))), (wv (le4 (sub4 nonce 1))), (wv (le4 (sub4 nonce 2)))])) 88 r4_29 rfl kj (run_store_row 88 _ _ g4 88 _ _ r4_29 rfl kj kj (isz (n := 16) kj kj) (eqsz (n := 16) kj kj) (ints_one _ _)) fun W30 p30 r4_30 => ?_
  have x30 : Ext w W30 := Puts.ext p30 x29 b4
  refine seq_nil ?_
  refine hK79 _ _ ?_
  try clear hK79 K79
  refine wp_ret ?_
  repeat (first | with_reducible refine goR1 ?_ | with_reducible refine goR2 ?_)
  exact (show bodyPost _ _ _ .ret _ _ from ret1 (.agg (ints .u32 ([1634760805, 857760878, 2036477234, 1797285236, (wv (le4 (sub4 key 0))), (wv (le4 (sub4 key 1))), (wv (le4 (sub4 key 2))), (wv (le4 (sub4 key 3))), (wv (le4 (sub4 key 4))), (wv (le4 (sub4 key 5))), (wv (le4 (sub4 key 6))), (wv (le4 (sub4 key 7))), 0, (wv (le4 (sub4 nonce 0))), (wv (le4 (sub4 nonce 1))), (wv (le4 (sub4 nonce 2)))]))) rfl (res_cell g4 88 _ r4_30 kj kj (isz (n := 16) kj kj)) ⟨rfl, x30⟩)

end Go.Proofs.YtjldjdlhllgakaaDoor.Cha
