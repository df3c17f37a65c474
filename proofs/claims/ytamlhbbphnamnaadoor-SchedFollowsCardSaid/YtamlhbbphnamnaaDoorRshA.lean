/- The reference's SHA-256: its constants. -/
import Derived.Test.YtamlhbbphnamnaaDoorShaH
namespace Go.Proofs.YtamlhbbphnamnaaDoor.Sha
open Go Go.RowKit
open Go.Proofs.YtamlhbbphnamnaaDoor.Rely Go.Proofs.YtamlhbbphnamnaaDoor.Auto Go.Proofs.YtamlhbbphnamnaaDoor.Own
set_option linter.unusedVariables false
set_option linter.unusedSimpArgs false

set_option maxHeartbeats 4000000 in
theorem longsC (w : World) : Calls Tryd.prog 62 #[] w (Gives w (fun v W => ∃ g, v = .slice (some ⟨g, 0, none⟩) 80 80 ∧ w.heap.size ≤ g ∧ W.heap[g]? = some (.cells (ints .u64 cubesI) 91))) := by
  refine enter 2 [] Tryd.func62 rfl rfl kj rfl ?_
  refine wp_seq_k fun K1 hK1 => ?_
  refine region_lit ?_
  refine seq_val (.slice none 0 0) 0 rfl kj kj ?_
  refine seq_nil ?_
  refine hK1 _ _ ?_
  try clear hK1 K1
  refine wp_seq_k fun K2 hK2 => ?_
  refine region_lit ?_
  refine seq_makeS (ints .u64 cubesI) 91 80 1 rfl kj kj fun g3 W1 l3 e1 r3_1 => ?_
  have x1 : Ext w W1 := Ext.tr (Rely.Ext.refl w) e1
  have b3 : w.heap.size ≤ g3 := Nat.le_trans (Rely.Ext.refl w).size l3
  refine seq_val (.slice (some ⟨g3, 0, none⟩) 80 80) 0 rfl kj kj ?_
  refine seq_nil ?_
  refine hK2 _ _ ?_
  try clear hK2 K2
  refine wp_ret ?_
  repeat (first | with_reducible refine goR1 ?_ | with_reducible refine goR2 ?_)
  exact (show bodyPost _ _ _ .ret _ _ from ret1 (.slice (some ⟨g3, 0, none⟩) 80 80) rfl (res_tmp kj) ⟨_, rfl, x1, _, rfl, b3, r3_1⟩)
set_option maxHeartbeats 4000000 in
theorem beginC (w : World) : Calls Tryd.prog 55 #[] w (Gives w (fun v W => ∃ g, v = .slice (some ⟨g, 0, none⟩) 8 8 ∧ w.heap.size ≤ g ∧ W.heap[g]? = some (.cells (ints .u64 squaresI) 91))) := by
  refine enter 2 [] Tryd.func55 rfl rfl kj rfl ?_
  refine wp_seq_k fun K1 hK1 => ?_
  refine region_lit ?_
  refine seq_val (.slice none 0 0) 0 rfl kj kj ?_
  refine seq_nil ?_
  refine hK1 _ _ ?_
  try clear hK1 K1
  refine wp_seq_k fun K2 hK2 => ?_
  refine region_lit ?_
  refine seq_makeS (ints .u64 squaresI) 91 8 1 rfl kj kj fun g3 W1 l3 e1 r3_1 => ?_
  have x1 : Ext w W1 := Ext.tr (Rely.Ext.refl w) e1
  have b3 : w.heap.size ≤ g3 := Nat.le_trans (Rely.Ext.refl w).size l3
  refine seq_val (.slice (some ⟨g3, 0, none⟩) 8 8) 0 rfl kj kj ?_
  refine seq_nil ?_
  refine hK2 _ _ ?_
  try clear hK2 K2
  refine wp_ret ?_
  repeat (first | with_reducible refine goR1 ?_ | with_reducible refine goR2 ?_)
  exact (show bodyPost _ _ _ .ret _ _ from ret1 (.slice (some ⟨g3, 0, none⟩) 8 8) rfl (res_tmp kj) ⟨_, rfl, x1, _, rfl, b3, r3_1⟩)
theorem cube_q (i : Nat) (h : i < 64) : IntKind.u64.wrap (Int.tdiv (nth cubesI i) 4294967296) = nth cubesI i / 4294967296 := by
  have : ∀ i : Fin 64, IntKind.u64.wrap (Int.tdiv (nth cubesI i.1) 4294967296) = nth cubesI i.1 / 4294967296 := by decide +kernel
  exact this ⟨i, h⟩
theorem take_wv {i : Nat} (h : i < 64) : (KK.take (i + 1)).map wv = (KK.take i).map wv ++ [wv (wget KK i)] := by
  have : ∀ i : Fin 64, (KK.take (i.1 + 1)).map wv = (KK.take i.1).map wv ++ [wv (wget KK i.1)] := by decide +kernel
  exact this ⟨i, h⟩
set_option maxHeartbeats 4000000 in
theorem shortsC (w : World) : Calls Tryd.prog 56 #[] w (Gives w (OwnN .u32 84 w.heap.size (KK.map wv))) := by
  refine enter 19 [] Tryd.func56 rfl rfl kj rfl ?_
  refine wp_seq_k fun K1 hK1 => ?_
  refine region_lit ?_
  refine seq_val (.slice none 0 0) 0 rfl kj kj ?_
  refine seq_nil ?_
  refine hK1 _ _ ?_
  try clear hK1 K1
  refine wp_seq_k fun K2 hK2 => ?_
  refine region_lit ?_
  refine seq_val (.slice none 0 0) 1 rfl kj kj ?_
  refine seq_nil ?_
  refine hK2 _ _ ?_
  try clear hK2 K2
  refine wp_seq_k fun K3 hK3 => ?_
  refine region_lit ?_
  refine seq_callR (fun v W' => (fun v W => ∃ g, v = .slice (some ⟨g, 0, none⟩) 80 80 ∧ w.heap.size ≤ g ∧ W.heap[g]? = some (.cells (ints .u64 cubesI) 91)) v W' ∧ Ext w W') 62 #[] 4 rfl kj kj ((longsC _).mono (by rintro e w' ⟨v, rfl, e1, hv⟩; exact ⟨v, rfl, hv, e1⟩)) fun vv4 W1 hh4 => ?_
  obtain ⟨hv4, e1⟩ := hh4
  have x1 : Ext w W1 := Ext.tr (Rely.Ext.refl w) e1
  obtain ⟨gd5, rfl, ld5, rd5_1⟩ := hv4
  have b5 : w.heap.size ≤ gd5 := Nat.le_trans (Rely.Ext.refl w).size ld5
  refine seq_val (.slice (some ⟨gd5, 0, none⟩) 80 80) 2 rfl kj kj ?_
  refine seq_nil ?_
  refine hK3 _ _ ?_
  try clear hK3 K3
  refine wp_seq_k fun K6 hK6 => ?_
  refine wp_seq_k fun K7 hK7 => ?_
  refine region_lit ?_
  refine seq_val (.int .i64 0) 3 rfl kj kj ?_
  refine seq_nil ?_
  refine hK7 _ _ ?_
  try clear hK7 K7
  refine wp_block ?_
  refine loop_auto (fun (s1 : Nat × Value) => [(1, s1.2), (2, .slice (some ⟨gd5, 0, none⟩) 80 80), (3, .int .i64 ((s1.1 : Nat) : Int))]) (fun (s1 : Nat × Value) W => (s1.1 ≤ 64) ∧ (OwnN .u32 84 W1.heap.size ((KK.take s1.1).map wv) s1.2 W) ∧ (Ext W1 W) ∧ (Ext w W)) (fun (s1 : Nat × Value) => 64 - s1.1) (0, (.slice none 0 0)) ⟨rfl, rfl, rfl, trivial⟩ ⟨(Nat.zero_le _), (ownN_nil _ _ _ _), (Rely.Ext.refl W1), x1⟩ fun s1 X1 V1 hI1 => ?_
  obtain ⟨i, u⟩ := s1
  obtain ⟨hi, hu, kk1, xx1⟩ := hI1
  replace hi : i ≤ 64 := hi
  replace hu : OwnN .u32 84 W1.heap.size ((KK.take i).map wv) u V1 := hu
  replace kk1 : Ext W1 V1 := kk1
  replace xx1 : Ext w V1 := xx1
  have e2 := kk1
  refine wp_seq_k fun K8 hK8 => ?_
  refine wp_seq_k fun K9 hK9 => ?_
  refine region_lit ?_
  refine seq_val (.int .i64 ((i : Nat) : Int)) 5 rfl kj kj ?_
  refine seq_val (.bool (decide (((i : Nat) : Int) < 64))) 6 rfl kj kj ?_
  refine seq_nil ?_
  refine hK9 _ _ ?_
  try clear hK9 K9
  refine cond_split (t := decide (((i : Nat) : Int) < 64)) kj (fun c10 => ?_) (fun c10 => ?_)
  · skip
    have hlt6 : i < 64 := by have := of_decide_eq_true c10; omega
    refine wp_skip ?_
    refine hK8 _ _ ?_
    try clear hK8 K8
    refine wp_seq_k fun K11 hK11 => ?_
    refine wp_block ?_
    refine region_lit ?_
    refine seq_val (u) 9 rfl kj kj ?_
    refine seq_val (.slice (some ⟨gd5, 0, none⟩) 80 80) 10 rfl kj kj ?_
    refine seq_val (.int .i64 ((i : Nat) : Int)) 11 rfl kj kj ?_
    refine seq_val (.pointer (some ⟨gd5, i, none⟩)) 12 rfl kj (run_indexS0 94 _ _ .i64 (i) gd5 80 80 91 rfl kj kj kj kj (by omega)) ?_
    have r5_2 := (row_ext rd5_1 e2)
    refine seq_val (.int .u64 (nth (cubesI) i)) 13 rfl kj (run_loadC1 91 _ gd5 i 91 _ (.int .u64 (nth (cubesI) i)) _ r5_2 rfl kj (ints_get _ _ _ (Nat.lt_of_lt_of_eq (by omega) (show cubesI.length = 80 from rfl).symm)) kj) ?_
    refine seq_val (.int .u64 (nth cubesI i / 4294967296)) 14 rfl kj (run_eq (u := .int .u64 (IntKind.u64.wrap (Int.tdiv ((nth (cubesI) i)) (4294967296)))) kj (congrArg (Value.int .u64) (cube_q i hlt6))) ?_
    refine seq_val (.int .u32 (wv (wget KK i))) 15 rfl kj (run_eq (u := .int .u32 (IntKind.u32.wrap (nth cubesI i / 4294967296))) kj (congrArg (Value.int .u32) (cube_k i hlt6))) ?_
    refine seq_makeS (ints .u32 ([(wv (wget KK i))])) 84 1 16 rfl kj kj fun g12 W3 l12 e3 r12_3 => ?_
    have x3 : Ext w W3 := Ext.tr xx1 e3
    have b12 : w.heap.size ≤ g12 := Nat.le_trans xx1.size l12
    have f13_3 := (hu.ext e3)
    have y1_3 : Ext W1 W3 := (Rely.Ext.trans e2 e3)
    refine seq_appendN (k := .u32) (T := 84) (xs := (KK.take i).map wv) (ys := [wv (wget KK i)]) (V := W1) 4 (.tmp 9) (.tmp 16) 96 rfl kj kj (by decide) 17 rfl kj kj kj f13_3 (rdK_ints (xs := [(wv (wget KK i))]) (n := 1) rfl r12_3 (row_lt r12_3) (show 1 ≤ maxLen from by decide)) (by rw [List.length_map, List.length_take]; show _ + 1 ≤ _; omega) y1_3 fun u2 W4 f14 y4 l4 => ?_
    have x4 : Ext w W4 := Ext.low x3 l4 x1.size
    refine seq_val (u2) 1 rfl kj kj ?_
    refine seq_nil ?_
    refine hK11 _ _ ?_
    try clear hK11 K11
    refine region_lit ?_
    refine seq_val (.int .i64 ((i : Nat) : Int)) 7 rfl kj kj ?_
    refine seq_val (.int .i64 ((i + 1 : Nat) : Int)) 8 rfl kj (run_eq (u := .int .i64 (IntKind.i64.wrap (((i : Nat) : Int) + 1))) kj (congrArg (Value.int .i64) (i64n _ _ (by omega) (by omega)))) ?_
    refine seq_val (.int .i64 ((i + 1 : Nat) : Int)) 3 rfl kj kj ?_
    refine seq_nil ?_
    repeat (first | with_reducible refine goX1 ?_ | with_reducible refine goX2 ?_ | with_reducible refine goX3 ?_)
    exact goes_then ((i + 1), u2) ⟨rfl, rfl, rfl, trivial⟩ ⟨(by omega), (by rw [take_wv hlt6]; exact f14), y4, x4⟩ (by show 64 - (i + 1) < 64 - i; omega)
  · skip
    have heq6 : i = 64 := by have := of_decide_eq_false c10; omega
    refine wp_exit ?_
    refine hK6 _ _ ?_
    try clear hK6 K6
    refine wp_seq_k fun K15 hK15 => ?_
    refine region_lit ?_
    refine seq_val (u) 18 rfl kj kj ?_
    refine seq_val (u) 0 rfl kj kj ?_
    refine seq_nil ?_
    refine hK15 _ _ ?_
    try clear hK15 K15
    refine wp_ret ?_
    repeat (first | with_reducible refine goR1 ?_ | with_reducible refine goR2 ?_)
    exact (show bodyPost _ _ _ .ret _ _ from ret1 (u) rfl (res_tmp kj) ⟨u, rfl, xx1, OwnN.base x1.size (by rw [show KK.map wv = (KK.take i).map wv by rw [heq6, List.take_of_length_le (show KK.length ≤ 64 by decide)]]; exact hu)⟩)

end Go.Proofs.YtamlhbbphnamnaaDoor.Sha
