/- Common nodes. -/
import Derived.Test.YticjghmgbmjkiaaDoorSeatE
namespace Go.Proofs.YticjghmgbmjkiaaDoor.Seat
open Go Go.RowKit
open Go.Proofs.YticjghmgbmjkiaaDoor.Rely Go.Proofs.YticjghmgbmjkiaaDoor.Auto Go.Proofs.YticjghmgbmjkiaaDoor.Own
set_option linter.unusedVariables false
set_option linter.unusedSimpArgs false

theorem snoc_range {q : List Nat} {z k : Nat} (h : q ++ [z] = List.range k) : k = z + 1 ∧ q = List.range z := by
  rcases k with _ | j
  · have := congrArg List.length h; simp at this
  · rw [List.range_succ] at h
    have h2 := List.append_inj' h rfl
    have h3 : z = j := by simpa using h2.2
    subst h3
    exact ⟨rfl, h2.1⟩
set_option maxHeartbeats 4000000 in
theorem common_A (x y n : Int) (hx : isNode x n = false) (w : World) (hT : TabAt w) : Calls Tryd.prog 41 #[.int .i64 x, .int .i64 y, .int .i64 n] w (Ret w (.int .i64 (com x y n))) := by
  refine enterM 40 [(0, .int .i64 x), (1, .int .i64 y), (2, .int .i64 n)] Tryd.func41 rfl rfl (by kernel_rfl) rfl ?_
  refine wp_seq_k fun K1 hK1 => ?_
  refine region_lit ?_
  refine seq_alloc (#[.int .i64 n]) 3 5 rfl (by kernel_rfl) (by kernel_rfl) fun g2 W1 l2 e1 r2_1 => ?_
  have x1 : Ext w W1 := Ext.tr (Rely.Ext.refl w) e1
  have b2 : w.heap.size ≤ g2 := Nat.le_trans (Rely.Ext.refl w).size l2
  refine seq_alloc (#[.int .i64 0]) 3 6 rfl (by kernel_rfl) (by kernel_rfl) fun g3 W2 l3 e2 r3_2 => ?_
  have x2 : Ext w W2 := Ext.tr x1 e2
  have b3 : w.heap.size ≤ g3 := Nat.le_trans x1.size l3
  refine seq_nil ?_
  refine hK1 _ _ ?_
  try clear hK1 K1
  refine wp_seq_k fun K4 hK4 => ?_
  refine wp_seq_k fun K5 hK5 => ?_
  refine region_lit ?_
  refine seq_val (.int .i64 x) 11 rfl (by kernel_rfl) (by kernel_rfl) ?_
  have r2_2 := (row_ext r2_1 e2)
  refine seq_val (.int .i64 n) 12 rfl (by kernel_rfl) (run_loadC1 3 _ g2 0 3 _ (.int .i64 n) _ r2_2 rfl (by kernel_rfl) (by kernel_rfl) (by kernel_rfl)) ?_
  refine seq_call (.bool false) 52 #[.int .i64 x, .int .i64 n] 13 rfl (by kernel_rfl) (by kernel_rfl) ((nodeR x n false hx) _) fun W3 e3 => ?_
  have x3 : Ext w W3 := Ext.tr x2 e3
  refine seq_val (.bool true) 14 rfl (by kernel_rfl) (by kernel_rfl) ?_
  refine seq_val (.bool true) 15 rfl (by kernel_rfl) (by kernel_rfl) ?_
  refine seq_skip 16 rfl (by kernel_rfl) ?_
  refine seq_skip 17 rfl (by kernel_rfl) ?_
  refine seq_skip 18 rfl (by kernel_rfl) ?_
  refine seq_skip 19 rfl (by kernel_rfl) ?_
  refine seq_val (.bool true) 20 rfl (by kernel_rfl) (by kernel_rfl) ?_
  refine seq_nil ?_
  refine hK5 _ _ ?_
  try clear hK5 K5
  refine cond_true (by kernel_rfl) ?_
  refine wp_seq_k fun K6 hK6 => ?_
  refine region_lit ?_
  have r3_3 := (row_ext r3_2 e3)
  refine seq_store g3 _ (#[.int .i64 (-1)]) 3 r3_3 rfl (by kernel_rfl) (run_storeC1 3 _ _ g3 0 3 _ (.int .i64 (-1)) r3_3 rfl (by kernel_rfl) (by kernel_rfl) (by kernel_rfl) (by kernel_rfl) (by kernel_rfl) rfl) fun W4 p4 r3_4 => ?_
  have x4 : Ext w W4 := Puts.ext p4 x3 b3
  refine seq_nil ?_
  refine hK6 _ _ ?_
  try clear hK6 K6
  refine wp_ret ?_
  repeat (first | with_reducible refine goR1 ?_ | with_reducible refine goR2 ?_)
  exact (show bodyPostM _ _ _ _ _ .ret _ _ from retM0 (.int .i64 (-1)) rfl (res_cell1 g3 3 _ (.int .i64 (-1)) r3_4 (by kernel_rfl) (by kernel_rfl) rfl) ⟨congrArg (fun z => Ending.returned (.int .i64 z)) (by unfold com; rw [hx]; rfl), x4⟩)
set_option maxHeartbeats 4000000 in
theorem common_B (x y n : Int) (hx : isNode x n = true) (hy : isNode y n = false) (w : World) (hT : TabAt w) : Calls Tryd.prog 41 #[.int .i64 x, .int .i64 y, .int .i64 n] w (Ret w (.int .i64 (com x y n))) := by
  refine enterM 40 [(0, .int .i64 x), (1, .int .i64 y), (2, .int .i64 n)] Tryd.func41 rfl rfl (by kernel_rfl) rfl ?_
  refine wp_seq_k fun K1 hK1 => ?_
  refine region_lit ?_
  refine seq_alloc (#[.int .i64 n]) 3 5 rfl (by kernel_rfl) (by kernel_rfl) fun g2 W1 l2 e1 r2_1 => ?_
  have x1 : Ext w W1 := Ext.tr (Rely.Ext.refl w) e1
  have b2 : w.heap.size ≤ g2 := Nat.le_trans (Rely.Ext.refl w).size l2
  refine seq_alloc (#[.int .i64 0]) 3 6 rfl (by kernel_rfl) (by kernel_rfl) fun g3 W2 l3 e2 r3_2 => ?_
  have x2 : Ext w W2 := Ext.tr x1 e2
  have b3 : w.heap.size ≤ g3 := Nat.le_trans x1.size l3
  refine seq_nil ?_
  refine hK1 _ _ ?_
  try clear hK1 K1
  refine wp_seq_k fun K4 hK4 => ?_
  refine wp_seq_k fun K5 hK5 => ?_
  refine region_lit ?_
  refine seq_val (.int .i64 x) 11 rfl (by kernel_rfl) (by kernel_rfl) ?_
  have r2_2 := (row_ext r2_1 e2)
  refine seq_val (.int .i64 n) 12 rfl (by kernel_rfl) (run_loadC1 3 _ g2 0 3 _ (.int .i64 n) _ r2_2 rfl (by kernel_rfl) (by kernel_rfl) (by kernel_rfl)) ?_
  refine seq_call (.bool true) 52 #[.int .i64 x, .int .i64 n] 13 rfl (by kernel_rfl) (by kernel_rfl) ((nodeR x n true hx) _) fun W3 e3 => ?_
  have x3 : Ext w W3 := Ext.tr x2 e3
  refine seq_val (.bool false) 14 rfl (by kernel_rfl) (by kernel_rfl) ?_
  refine seq_val (.bool false) 15 rfl (by kernel_rfl) (by kernel_rfl) ?_
  refine seq_val (.int .i64 y) 16 rfl (by kernel_rfl) (by kernel_rfl) ?_
  have r2_3 := (row_ext r2_2 e3)
  refine seq_val (.int .i64 n) 17 rfl (by kernel_rfl) (run_loadC1 3 _ g2 0 3 _ (.int .i64 n) _ r2_3 rfl (by kernel_rfl) (by kernel_rfl) (by kernel_rfl)) ?_
  refine seq_call (.bool false) 52 #[.int .i64 y, .int .i64 n] 18 rfl (by kernel_rfl) (by kernel_rfl) ((nodeR y n false hy) _) fun W4 e4 => ?_
  have x4 : Ext w W4 := Ext.tr x3 e4
  refine seq_val (.bool true) 19 rfl (by kernel_rfl) (by kernel_rfl) ?_
  refine seq_val (.bool true) 20 rfl (by kernel_rfl) (by kernel_rfl) ?_
  refine seq_nil ?_
  refine hK5 _ _ ?_
  try clear hK5 K5
  refine cond_true (by kernel_rfl) ?_
  refine wp_seq_k fun K6 hK6 => ?_
  refine region_lit ?_
  have r3_3 := (row_ext r3_2 e3)
  have r3_4 := (row_ext r3_3 e4)
  refine seq_store g3 _ (#[.int .i64 (-1)]) 3 r3_4 rfl (by kernel_rfl) (run_storeC1 3 _ _ g3 0 3 _ (.int .i64 (-1)) r3_4 rfl (by kernel_rfl) (by kernel_rfl) (by kernel_rfl) (by kernel_rfl) (by kernel_rfl) rfl) fun W5 p5 r3_5 => ?_
  have x5 : Ext w W5 := Puts.ext p5 x4 b3
  refine seq_nil ?_
  refine hK6 _ _ ?_
  try clear hK6 K6
  refine wp_ret ?_
  repeat (first | with_reducible refine goR1 ?_ | with_reducible refine goR2 ?_)
  exact (show bodyPostM _ _ _ _ _ .ret _ _ from retM0 (.int .i64 (-1)) rfl (res_cell1 g3 3 _ (.int .i64 (-1)) r3_5 (by kernel_rfl) (by kernel_rfl) rfl) ⟨congrArg (fun z => Ending.returned (.int .i64 z)) (by unfold com; rw [hx, hy]; rfl), x5⟩)
set_option maxHeartbeats 4000000 in
theorem common_C (x y n : Int) (hx : isNode x n = true) (hy : isNode y n = true) (w : World) (hT : TabAt w) : Calls Tryd.prog 41 #[.int .i64 x, .int .i64 y, .int .i64 n] w (Ret w (.int .i64 (com x y n))) := by
  have hxb := node_bd hx
  have hyb := node_bd hy
  have hxi : i64 x := by unfold i64; omega
  have hyi : i64 y := by unfold i64; omega
  refine enterM 40 [(0, .int .i64 x), (1, .int .i64 y), (2, .int .i64 n)] Tryd.func41 rfl rfl (by kernel_rfl) rfl ?_
  refine wp_seq_k fun K1 hK1 => ?_
  refine region_lit ?_
  refine seq_alloc (#[.int .i64 n]) 3 5 rfl (by kernel_rfl) (by kernel_rfl) fun g2 W1 l2 e1 r2_1 => ?_
  have x1 : Ext w W1 := Ext.tr (Rely.Ext.refl w) e1
  have b2 : w.heap.size ≤ g2 := Nat.le_trans (Rely.Ext.refl w).size l2
  refine seq_alloc (#[.int .i64 0]) 3 6 rfl (by kernel_rfl) (by kernel_rfl) fun g3 W2 l3 e2 r3_2 => ?_
  have x2 : Ext w W2 := Ext.tr x1 e2
  have b3 : w.heap.size ≤ g3 := Nat.le_trans x1.size l3
  refine seq_nil ?_
  refine hK1 _ _ ?_
  try clear hK1 K1
  refine wp_seq_k fun K4 hK4 => ?_
  refine wp_seq_k fun K5 hK5 => ?_
  refine region_lit ?_
  refine seq_val (.int .i64 x) 11 rfl (by kernel_rfl) (by kernel_rfl) ?_
  have r2_2 := (row_ext r2_1 e2)
  refine seq_val (.int .i64 n) 12 rfl (by kernel_rfl) (run_loadC1 3 _ g2 0 3 _ (.int .i64 n) _ r2_2 rfl (by kernel_rfl) (by kernel_rfl) (by kernel_rfl)) ?_
  refine seq_call (.bool true) 52 #[.int .i64 x, .int .i64 n] 13 rfl (by kernel_rfl) (by kernel_rfl) ((nodeR x n true hx) _) fun W3 e3 => ?_
  have x3 : Ext w W3 := Ext.tr x2 e3
  refine seq_val (.bool false) 14 rfl (by kernel_rfl) (by kernel_rfl) ?_
  refine seq_val (.bool false) 15 rfl (by kernel_rfl) (by kernel_rfl) ?_
  refine seq_val (.int .i64 y) 16 rfl (by kernel_rfl) (by kernel_rfl) ?_
  have r2_3 := (row_ext r2_2 e3)
  refine seq_val (.int .i64 n) 17 rfl (by kernel_rfl) (run_loadC1 3 _ g2 0 3 _ (.int .i64 n) _ r2_3 rfl (by kernel_rfl) (by kernel_rfl) (by kernel_rfl)) ?_
  refine seq_call (.bool true) 52 #[.int .i64 y, .int .i64 n] 18 rfl (by kernel_rfl) (by kernel_rfl) ((nodeR y n true hy) _) fun W4 e4 => ?_
  have x4 : Ext w W4 := Ext.tr x3 e4
  refine seq_val (.bool false) 19 rfl (by kernel_rfl) (by kernel_rfl) ?_
  refine seq_val (.bool false) 20 rfl (by kernel_rfl) (by kernel_rfl) ?_
  refine seq_nil ?_
  refine hK5 _ _ ?_
  try clear hK5 K5
  refine cond_false (by kernel_rfl) ?_
  refine wp_skip ?_
  refine hK4 _ _ ?_
  try clear hK4 K4
  refine wp_seq_k fun K6 hK6 => ?_
  refine region_lit ?_
  refine seq_val (.int .i64 y) 22 rfl (by kernel_rfl) (by kernel_rfl) ?_
  have r2_4 := (row_ext r2_3 e4)
  refine seq_val (.int .i64 n) 23 rfl (by kernel_rfl) (run_loadC1 3 _ g2 0 3 _ (.int .i64 n) _ r2_4 rfl (by kernel_rfl) (by kernel_rfl) (by kernel_rfl)) ?_
  refine seq_call (.tuple #[.int .i64 (bel y n).1, .int .i64 (bel y n).2]) 33 #[.int .i64 y, .int .i64 n] 24 rfl (by kernel_rfl) (by kernel_rfl) (belowR y n hyi _ (TabAt.ext hT x4)) fun W5 e5 => ?_
  have x5 : Ext w W5 := Ext.tr x4 e5
  refine seq_val (.tuple #[.int .i64 (bel y n).1, .int .i64 (bel y n).2]) 21 rfl (by kernel_rfl) (by kernel_rfl) ?_
  refine seq_val (.int .i64 ((bel y n).1)) 25 rfl (by kernel_rfl) (by kernel_rfl) ?_
  refine seq_val (.int .i64 ((bel y n).2)) 26 rfl (by kernel_rfl) (by kernel_rfl) ?_
  refine seq_alloc (#[.int .i64 0]) 3 7 rfl (by kernel_rfl) (by kernel_rfl) fun g7 W6 l7 e6 r7_6 => ?_
  have x6 : Ext w W6 := Ext.tr x5 e6
  have b7 : w.heap.size ≤ g7 := Nat.le_trans x5.size l7
  refine seq_alloc (#[.int .i64 0]) 3 8 rfl (by kernel_rfl) (by kernel_rfl) fun g8 W7 l8 e7 r8_7 => ?_
  have x7 : Ext w W7 := Ext.tr x6 e7
  have b8 : w.heap.size ≤ g8 := Nat.le_trans x6.size l8
  have r7_7 := (row_ext r7_6 e7)
  refine seq_store g7 _ (#[.int .i64 ((bel y n).1)]) 3 r7_7 rfl (by kernel_rfl) (run_storeC1 3 _ _ g7 0 3 _ (.int .i64 ((bel y n).1)) r7_7 rfl (by kernel_rfl) (by kernel_rfl) (by kernel_rfl) (by kernel_rfl) (by kernel_rfl) rfl) fun W8 p8 r7_8 => ?_
  have x8 : Ext w W8 := Puts.ext p8 x7 b7
  have r8_8 := (Puts.row p8 r8_7 (ne_of_new r7_6 l8))
  refine seq_store g8 _ (#[.int .i64 ((bel y n).2)]) 3 r8_8 rfl (by kernel_rfl) (run_storeC1 3 _ _ g8 0 3 _ (.int .i64 ((bel y n).2)) r8_8 rfl (by kernel_rfl) (by kernel_rfl) (by kernel_rfl) (by kernel_rfl) (by kernel_rfl) rfl) fun W9 p9 r8_9 => ?_
  have x9 : Ext w W9 := Puts.ext p9 x8 b8
  refine seq_nil ?_
  refine hK6 _ _ ?_
  try clear hK6 K6
  refine wp_seq_k fun K9 hK9 => ?_
  refine region_lit ?_
  refine seq_val (.func (.func 57) #[] #[.pointer (some ⟨g2, 0, none⟩), .pointer (some ⟨g7, 0, none⟩), .pointer (some ⟨g8, 0, none⟩)]) 27 rfl (by kernel_rfl) (by kernel_rfl) ?_
  refine seq_alloc (#[.nilFunc]) 55 9 rfl (by kernel_rfl) (by kernel_rfl) fun g10 W10 l10 e10 r10_10 => ?_
  have x10 : Ext w W10 := Ext.tr x9 e10
  have b10 : w.heap.size ≤ g10 := Nat.le_trans x9.size l10
  refine seq_store g10 _ (#[.func (.func 57) #[] #[.pointer (some ⟨g2, 0, none⟩), .pointer (some ⟨g7, 0, none⟩), .pointer (some ⟨g8, 0, none⟩)]]) 55 r10_10 rfl (by kernel_rfl) (run_storeC1 55 _ _ g10 0 55 _ (.func (.func 57) #[] #[.pointer (some ⟨g2, 0, none⟩), .pointer (some ⟨g7, 0, none⟩), .pointer (some ⟨g8, 0, none⟩)]) r10_10 rfl (by kernel_rfl) (by kernel_rfl) (by kernel_rfl) (by kernel_rfl) (by kernel_rfl) rfl) fun W11 p11 r10_11 => ?_
  have x11 : Ext w W11 := Puts.ext p11 x10 b10
  refine seq_nil ?_
  refine hK9 _ _ ?_
  try clear hK9 K9
  refine wp_seq_k fun K11 hK11 => ?_
  refine wp_seq_k fun K12 hK12 => ?_
  refine region_lit ?_
  refine seq_val (.func (.func 57) #[] #[.pointer (some ⟨g2, 0, none⟩), .pointer (some ⟨g7, 0, none⟩), .pointer (some ⟨g8, 0, none⟩)]) 28 rfl (by kernel_rfl) (run_loadC1 55 _ g10 0 55 _ (.func (.func 57) #[] #[.pointer (some ⟨g2, 0, none⟩), .pointer (some ⟨g7, 0, none⟩), .pointer (some ⟨g8, 0, none⟩)]) _ r10_11 rfl (by kernel_rfl) (by kernel_rfl) (by kernel_rfl)) ?_
  refine seq_val (.int .i64 x) 29 rfl (by kernel_rfl) (by kernel_rfl) ?_
  have r2_5 := (row_ext r2_4 e5)
  have r2_6 := (row_ext r2_5 e6)
  have r2_7 := (row_ext r2_6 e7)
  have r2_8 := (Puts.row p8 r2_7 (ne_of_old r2_5 l7))
  have r2_9 := (Puts.row p9 r2_8 (ne_of_old r2_6 l8))
  have r2_10 := (row_ext r2_9 e10)
  have r2_11 := (Puts.row p11 r2_10 (ne_of_old r2_9 l10))
  have r7_9 := (Puts.row p9 r7_8 (ne_of_old r7_6 l8))
  have r7_10 := (row_ext r7_9 e10)
  have r7_11 := (Puts.row p11 r7_10 (ne_of_old r7_9 l10))
  have r8_10 := (row_ext r8_9 e10)
  have r8_11 := (Puts.row p11 r8_10 (ne_of_old r8_9 l10))
  refine seq_call (.bool (abB x y n)) 57 #[.int .i64 x, .pointer (some ⟨g2, 0, none⟩), .pointer (some ⟨g7, 0, none⟩), .pointer (some ⟨g8, 0, none⟩)] 30 rfl (by kernel_rfl) (by kernel_rfl) ((fun W hT r0 r1 r2 => aboveC x y n hxi g2 g7 g8 W hT r0 r1 r2) _ (TabAt.ext hT x11) r2_11 r7_11 r8_11) fun W12 e12 => ?_
  have x12 : Ext w W12 := Ext.tr x11 e12
  refine seq_nil ?_
  refine hK12 _ _ ?_
  try clear hK12 K12
  refine cond_split (t := abB x y n) (by kernel_rfl) (fun c13 => ?_) (fun c13 => ?_)
  · skip
    have hab : abB x y n = true := c13
    refine wp_seq_k fun K14 hK14 => ?_
    refine region_lit ?_
    refine seq_val (.int .i64 x) 31 rfl (by kernel_rfl) (by kernel_rfl) ?_
    have r3_3 := (row_ext r3_2 e3)
    have r3_4 := (row_ext r3_3 e4)
    have r3_5 := (row_ext r3_4 e5)
    have r3_6 := (row_ext r3_5 e6)
    have r3_7 := (row_ext r3_6 e7)
    have r3_8 := (Puts.row p8 r3_7 (ne_of_old r3_5 l7))
    have r3_9 := (Puts.row p9 r3_8 (ne_of_old r3_6 l8))
    have r3_10 := (row_ext r3_9 e10)
    have r3_11 := (Puts.row p11 r3_10 (ne_of_old r3_9 l10))
    have r3_12 := (row_ext r3_11 e12)
    refine seq_store g3 _ (#[.int .i64 x]) 3 r3_12 rfl (by kernel_rfl) (run_storeC1 3 _ _ g3 0 3 _ (.int .i64 x) r3_12 rfl (by kernel_rfl) (by kernel_rfl) (by kernel_rfl) (by kernel_rfl) (by kernel_rfl) rfl) fun W13 p13 r3_13 => ?_
    have x13 : Ext w W13 := Puts.ext p13 x12 b3
    refine seq_nil ?_
    refine hK14 _ _ ?_
    try clear hK14 K14
    refine wp_ret ?_
    repeat (first | with_reducible refine goR1 ?_ | with_reducible refine goR2 ?_)
    exact (show bodyPostM _ _ _ _ _ .ret _ _ from retM0 (.int .i64 x) rfl (res_cell1 g3 3 _ (.int .i64 x) r3_13 (by kernel_rfl) (by kernel_rfl) rfl) ⟨congrArg (fun z => Ending.returned (.int .i64 z)) (com_self hx hy hab).symm, x13⟩)
  · skip
    have hab : abB x y n = false := c13
    refine wp_skip ?_
    refine hK11 _ _ ?_
    try clear hK11 K11
    refine wp_seq_k fun K15 hK15 => ?_
    refine wp_seq_k fun K16 hK16 => ?_
    refine region_lit ?_
    refine seq_val (.int .i64 x) 32 rfl (by kernel_rfl) (by kernel_rfl) ?_
    have r2_12 := (row_ext r2_11 e12)
    refine seq_val (.int .i64 n) 33 rfl (by kernel_rfl) (run_loadC1 3 _ g2 0 3 _ (.int .i64 n) _ r2_12 rfl (by kernel_rfl) (by kernel_rfl) (by kernel_rfl)) ?_
    refine seq_callR (fun v W' => (fun v W => ∃ g1 g2, v = .func (.func 56) #[] #[.pointer (some ⟨g1, 0, none⟩), .pointer (some ⟨g2, 0, none⟩)] ∧ W12.heap.size ≤ g1 ∧ W12.heap.size ≤ g2 ∧ W.heap[g1]? = some (.cells #[.int .i64 x] 3) ∧ W.heap[g2]? = some (.cells #[.int .i64 n] 3)) v W' ∧ Ext W12 W') 40 #[.int .i64 x, .int .i64 n] 34 rfl (by kernel_rfl) (by kernel_rfl) ((pathC x n _).mono (by rintro e w' ⟨v, rfl, e1, hv⟩; exact ⟨v, rfl, hv, e1⟩)) fun vv17 W13 hh17 => ?_
    obtain ⟨hv17, e13⟩ := hh17
    have x13 : Ext w W13 := Ext.tr x12 e13
    obtain ⟨gp1, gp2, rfl, lp1, lp2, rp1, rp2⟩ := hv17
    refine seq_nil ?_
    refine hK16 _ _ ?_
    try clear hK16 K16
    refine wp_block ?_
    have r2_13 := (row_ext r2_12 e13)
    have r3_3 := (row_ext r3_2 e3)
    have r3_4 := (row_ext r3_3 e4)
    have r3_5 := (row_ext r3_4 e5)
    have r3_6 := (row_ext r3_5 e6)
    have r3_7 := (row_ext r3_6 e7)
    have r3_8 := (Puts.row p8 r3_7 (ne_of_old r3_5 l7))
    have r3_9 := (Puts.row p9 r3_8 (ne_of_old r3_6 l8))
    have r3_10 := (row_ext r3_9 e10)
    have r3_11 := (Puts.row p11 r3_10 (ne_of_old r3_9 l10))
    have r3_12 := (row_ext r3_11 e12)
    have r3_13 := (row_ext r3_12 e13)
    have r7_12 := (row_ext r7_11 e12)
    have r7_13 := (row_ext r7_12 e13)
    have r8_12 := (row_ext r8_11 e12)
    have r8_13 := (row_ext r8_12 e13)
    have r10_12 := (row_ext r10_11 e12)
    have r10_13 := (row_ext r10_12 e13)
    refine range_auto (gf := 56) (lb := #[.pointer (some ⟨gp1, 0, none⟩), .pointer (some ⟨gp2, 0, none⟩)]) (enc := fun z : Nat => .int .i64 (upn x n z)) (by kernel_rfl) (enters_of Tryd.func56 (by kernel_rfl) rfl) (path_stops 2 [] gp1 gp2 x n hxi W13 (TabAt.ext hT x13) rp1 rp2 nm_nil nm_nil nm_nil) (fun h k => KeepC.trans h k) KeepC.book (Below.refl _ _)
        (fun pre W => (W.heap[g2]? = some (.cells (#[.int .i64 n]) 3) ∧ W.heap[g7]? = some (.cells (#[.int .i64 ((bel y n).1)]) 3) ∧ W.heap[g8]? = some (.cells (#[.int .i64 ((bel y n).2)]) 3) ∧ W.heap[g10]? = some (.cells (#[.func (.func 57) #[] #[.pointer (some ⟨g2, 0, none⟩), .pointer (some ⟨g7, 0, none⟩), .pointer (some ⟨g8, 0, none⟩)]]) 55) ∧ W.heap[g3]? = some (.cells (#[.int .i64 0]) 3)) ∧ (∀ z ∈ pre, abB (upn x n z) y n = false) ∧ Ext w W)
        (fun c pre W => c = .ret ∧ (∃ q z, pre = q ++ [z] ∧ (∀ u ∈ q, abB (upn x n u) y n = false) ∧ abB (upn x n z) y n = true ∧ W.heap[g3]? = some (.cells #[.int .i64 (upn x n z)] 3)) ∧ Ext w W) (OwnFrom.and (Own.from (fun s A B row hs hg hr => ⟨row_kept hs.1 hg hr, row_kept hs.2.1 hg hr, row_kept hs.2.2.1 hg hr, row_kept hs.2.2.2.1 hg hr, row_kept hs.2.2.2.2 hg hr⟩) _) (OwnFrom.and (Own.from (fun _ _ _ _ hs _ _ => hs) _) (ownFrom_below (Nat.le_refl _) x13.size))) (fun c => OwnFrom.and (Own.from (fun _ _ _ _ hs _ _ => hs) _) (OwnFrom.and (Own.from (fun s A B row hs hg hr => by obtain ⟨q, z, e1, e2, e3, r⟩ := hs; exact ⟨q, z, e1, e2, e3, row_kept r hg hr⟩) _) (ownFrom_below (Nat.le_refl _) x13.size))) ⟨⟨r2_13, r7_13, r8_13, r10_13, r3_13⟩, (fun z hz => by cases hz), x13⟩ (fun z => [(10, .int .i64 (upn x n z)), (35, .int .i64 (upn x n z))]) (fun l z W K hK => ?_) (fun l pre z W hI hp => ?_) (fun D ys W lD hS hI rD => ?_) (fun D c pre W lD hSp hIx rD => ?_)
    · refine region_litIn ?_
      refine in_val (.int .i64 (upn x n z)) 10 rfl (free_wide l 1 _) rfl (by kernel_rfl) (by kernel_rfl) ?_
      refine in_nil ?_
      exact hK
    · skip
      obtain ⟨⟨q5, q7, q8, q9, q6⟩, hfalse, xx⟩ := hI
      refine wpIn_block ?_
      refine wpIn_seq_k fun K506 hK506 => ?_
      refine region_litIn ?_
      refine in_val (.func (.func 57) #[] #[.pointer (some ⟨g2, 0, none⟩), .pointer (some ⟨g7, 0, none⟩), .pointer (some ⟨g8, 0, none⟩)]) 36 rfl (free_wide l 1 _) rfl (by kernel_rfl) (run_loadC1 55 _ g10 0 55 _ (.func (.func 57) #[] #[.pointer (some ⟨g2, 0, none⟩), .pointer (some ⟨g7, 0, none⟩), .pointer (some ⟨g8, 0, none⟩)]) _ q9 rfl (by kernel_rfl) (by kernel_rfl) (by kernel_rfl)) ?_
      refine in_val (.int .i64 (upn x n z)) 37 rfl (free_wide l 1 _) rfl (by kernel_rfl) (by kernel_rfl) ?_
      refine in_call (.bool (abB (upn x n z) y n)) 57 #[.int .i64 (upn x n z), .pointer (some ⟨g2, 0, none⟩), .pointer (some ⟨g7, 0, none⟩), .pointer (some ⟨g8, 0, none⟩)] 38 rfl (free_wide l 1 _) rfl (by kernel_rfl) (by kernel_rfl) ((fun W hT r0 r1 r2 => aboveC (upn x n z) y n (upn_i64 _ _ _) g2 g7 g8 W hT r0 r1 r2) _ (TabAt.ext hT xx) q5 q7 q8) fun W1 e1 => ?_
      have x1 : Ext w W1 := Ext.tr xx e1
      refine in_nil ?_
      refine hK506 _ _ ?_
      try clear hK506 K506
      refine in_cond_split (t := abB (upn x n z) y n) (by kernel_rfl) (fun c507 => ?_) (fun c507 => ?_)
      · skip
        have hzb : abB (upn x n z) y n = true := c507
        refine wpIn_seq_k fun K508 hK508 => ?_
        refine region_litIn ?_
        refine in_val (.int .i64 (upn x n z)) 39 rfl (free_wide l 1 _) rfl (by kernel_rfl) (by kernel_rfl) ?_
        have r502_1 := (row_ext q6 e1)
        refine in_store g3 _ (#[.int .i64 (upn x n z)]) 3 r502_1 rfl (free_wide l 1 _) rfl (by kernel_rfl) (run_storeC1 3 _ _ g3 0 3 _ (.int .i64 (upn x n z)) r502_1 rfl (by kernel_rfl) (by kernel_rfl) (by kernel_rfl) (by kernel_rfl) (by kernel_rfl) rfl) fun W2 p2 r502_2 => ?_
        have x2 : Ext w W2 := Puts.ext p2 x1 b3
        refine in_nil ?_
        refine hK508 _ _ ?_
        try clear hK508 K508
        refine wpIn_ret ?_
        repeat (first | with_reducible refine goR1 ?_ | with_reducible refine goR2 ?_)
        exact ⟨((keeps_ext e1).trans (keeps_puts p2 r502_1)), rfl, ⟨pre, z, rfl, hfalse, hzb, r502_2⟩, x2⟩
      · skip
        have hzb : abB (upn x n z) y n = false := c507
        refine wpIn_skip ?_
        repeat (first | with_reducible refine goX1 ?_ | with_reducible refine goX2 ?_ | with_reducible refine goX3 ?_)
        have y0_1 : Ext W W1 := (Rely.Ext.trans (Rely.Ext.refl W) e1)
        have r501_1 := (row_ext q5 e1)
        have r503_1 := (row_ext q7 e1)
        have r504_1 := (row_ext q8 e1)
        have r505_1 := (row_ext q9 e1)
        have r502_1 := (row_ext q6 e1)
        exact ⟨(keeps_ext e1), KeepC.ext y0_1, ⟨r501_1, r503_1, r504_1, r505_1, r502_1⟩, (fun u hu => by rcases List.mem_append.1 hu with h | h; exact hfalse u h; rw [List.mem_singleton.1 h]; exact hzb), x1⟩
    · obtain ⟨⟨q5, q7, q8, q9, q6⟩, hfalse, xx⟩ := hI
      obtain ⟨k, rfl, hneg, hall⟩ := hS
      have bD : w.heap.size ≤ D := Nat.le_trans x13.size lD
      have hk6 : k ≤ 6 := by
        rcases k with _ | j
        · omega
        · have := upn_lt (hall j (by omega)); omega
      refine hK15 _ _ ?_
      try clear hK15 K15
      refine wp_seq_k fun K20 hK20 => ?_
      refine region_lit ?_
      refine seq_store g3 _ (#[.int .i64 (-1)]) 3 q6 rfl (by kernel_rfl) (run_storeC1 3 _ _ g3 0 3 _ (.int .i64 (-1)) q6 rfl (by kernel_rfl) (by kernel_rfl) (by kernel_rfl) (by kernel_rfl) (by kernel_rfl) rfl) fun W15 p15 r3_15 => ?_
      have x15 : Ext w W15 := Puts.ext p15 xx b3
      refine seq_nil ?_
      refine hK20 _ _ ?_
      try clear hK20 K20
      refine wp_ret ?_
      repeat (first | with_reducible refine goR1 ?_ | with_reducible refine goR2 ?_)
      have r19_15 := (Puts.row p15 rD (ne_mark q6 rD))
      exact (show bodyPostM _ _ _ _ _ .ret _ _ from retM1 (.int .i64 (-1)) rfl r19_15 (res_cell1 g3 3 _ (.int .i64 (-1)) (putD_row r3_15 r19_15 _) (by kernel_rfl) (by kernel_rfl) rfl) ⟨congrArg (fun z => Ending.returned (.int .i64 z)) ((com_up hx hy hab (fun i hi => ⟨hall i hi, hfalse _ (List.mem_range.2 hi)⟩) hk6).trans (findU_neg _ _ hneg _)).symm, putD_ext x15 bD r19_15 _⟩)
    · obtain ⟨rfl, ⟨q, z, rfl, hfalse, hzb, q6⟩, xx⟩ := hIx
      obtain ⟨k0, e0, hall⟩ := hSp
      obtain ⟨rfl, rfl⟩ := snoc_range e0
      have bD : w.heap.size ≤ D := Nat.le_trans x13.size lD
      have hk6 := upn_lt (hall z (by omega))
      refine wp_ret ?_
      repeat (first | with_reducible refine goR1 ?_ | with_reducible refine goR2 ?_)
      exact (show bodyPostM _ _ _ _ _ .ret _ _ from retM1 (.int .i64 (upn x n z)) rfl rD (res_cell1 g3 3 _ (.int .i64 (upn x n z)) (putD_row q6 rD _) (by kernel_rfl) (by kernel_rfl) rfl) ⟨congrArg (fun z => Ending.returned (.int .i64 z)) (by rw [com_up hx hy hab (fun i hi => ⟨hall i (by omega), hfalse _ (List.mem_range.2 hi)⟩) (by omega), show 7 - z = (6 - z) + 1 by omega]; exact (findU_hit (p := fun z => abB z y n) (hall z (by omega)) hzb _).symm), putD_ext xx bD rD _⟩)

end Go.Proofs.YticjghmgbmjkiaaDoor.Seat
