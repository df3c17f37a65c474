/- Common nodes: what is above. -/
import Derived.Test.YticjghmgbmjkiaaDoorSeatD
namespace Go.Proofs.YticjghmgbmjkiaaDoor.Seat
open Go Go.RowKit
open Go.Proofs.YticjghmgbmjkiaaDoor.Rely Go.Proofs.YticjghmgbmjkiaaDoor.Auto Go.Proofs.YticjghmgbmjkiaaDoor.Own
set_option linter.unusedVariables false
set_option linter.unusedSimpArgs false

set_option maxHeartbeats 4000000 in
theorem pathC (x n : Int) (w : World) : Calls Tryd.prog 40 #[.int .i64 x, .int .i64 n] w (Gives w (fun v W => ∃ g1 g2, v = .func (.func 56) #[] #[.pointer (some ⟨g1, 0, none⟩), .pointer (some ⟨g2, 0, none⟩)] ∧ w.heap.size ≤ g1 ∧ w.heap.size ≤ g2 ∧ W.heap[g1]? = some (.cells #[.int .i64 x] 3) ∧ W.heap[g2]? = some (.cells #[.int .i64 n] 3))) := by
  refine enter 6 [(0, .int .i64 x), (1, .int .i64 n)] Tryd.func40 rfl rfl (by kernel_rfl) rfl ?_
  refine wp_seq_k fun K1 hK1 => ?_
  refine region_lit ?_
  refine seq_alloc (#[.int .i64 x]) 3 2 rfl (by kernel_rfl) (by kernel_rfl) fun g2 W1 l2 e1 r2_1 => ?_
  have x1 : Ext w W1 := Ext.tr (Rely.Ext.refl w) e1
  have b2 : w.heap.size ≤ g2 := Nat.le_trans (Rely.Ext.refl w).size l2
  refine seq_alloc (#[.int .i64 n]) 3 3 rfl (by kernel_rfl) (by kernel_rfl) fun g3 W2 l3 e2 r3_2 => ?_
  have x2 : Ext w W2 := Ext.tr x1 e2
  have b3 : w.heap.size ≤ g3 := Nat.le_trans x1.size l3
  refine seq_val (.nilFunc) 4 rfl (by kernel_rfl) (by kernel_rfl) ?_
  refine seq_nil ?_
  refine hK1 _ _ ?_
  try clear hK1 K1
  refine wp_seq_k fun K4 hK4 => ?_
  refine region_lit ?_
  refine seq_val (.func (.func 56) #[] #[.pointer (some ⟨g2, 0, none⟩), .pointer (some ⟨g3, 0, none⟩)]) 5 rfl (by kernel_rfl) (by kernel_rfl) ?_
  refine seq_val (.func (.func 56) #[] #[.pointer (some ⟨g2, 0, none⟩), .pointer (some ⟨g3, 0, none⟩)]) 4 rfl (by kernel_rfl) (by kernel_rfl) ?_
  refine seq_nil ?_
  refine hK4 _ _ ?_
  try clear hK4 K4
  refine wp_ret ?_
  repeat (first | with_reducible refine goR1 ?_ | with_reducible refine goR2 ?_)
  have r2_2 := (row_ext r2_1 e2)
  exact (show bodyPost _ _ _ .ret _ _ from ret1 (.func (.func 56) #[] #[.pointer (some ⟨g2, 0, none⟩), .pointer (some ⟨g3, 0, none⟩)]) rfl (res_tmp (by kernel_rfl)) ⟨_, rfl, x2, g2, g3, rfl, b2, b3, r2_2, r3_2⟩)
theorem nodeR (x n : Int) (b : Bool) (h : isNode x n = b) (W : World) : Calls Tryd.prog 52 #[.int .i64 x, .int .i64 n] W (Ret W (.bool b)) := by
  subst h; exact quiet (node x n W)
theorem belowR (x n : Int) (hx : i64 x) (W : World) (hT : TabAt W) : Calls Tryd.prog 33 #[.int .i64 x, .int .i64 n] W (Ret W (.tuple #[.int .i64 (bel x n).1, .int .i64 (bel x n).2])) := quiet (below x n hx W hT)
def abB (z y n : Int) : Bool := decide ((bel z n).1 ≤ (bel y n).1) && decide ((bel y n).2 ≤ (bel z n).2)
set_option maxHeartbeats 4000000 in
theorem above_T (z y n : Int) (hz : i64 z) (g0 g1 g2 : Nat) (h : (bel z n).1 ≤ (bel y n).1) (w : World) (hT : TabAt w) (r0 : w.heap[g0]? = some (.cells #[.int .i64 n] 3)) (r1 : w.heap[g1]? = some (.cells #[.int .i64 (bel y n).1] 3)) (r2 : w.heap[g2]? = some (.cells #[.int .i64 (bel y n).2] 3)) :
    Calls Tryd.prog 57 #[.int .i64 z, .pointer (some ⟨g0, 0, none⟩), .pointer (some ⟨g1, 0, none⟩), .pointer (some ⟨g2, 0, none⟩)] w (Ret w (.bool (abB z y n))) := by
  refine enter 22 [(0, .int .i64 z), (1, .pointer (some ⟨g0, 0, none⟩)), (2, .pointer (some ⟨g1, 0, none⟩)), (3, .pointer (some ⟨g2, 0, none⟩))] Tryd.func57 rfl rfl (by kernel_rfl) rfl ?_
  refine wp_seq_k fun K4 hK4 => ?_
  refine region_lit ?_
  refine seq_val (.bool false) 5 rfl (by kernel_rfl) (by kernel_rfl) ?_
  refine seq_nil ?_
  refine hK4 _ _ ?_
  try clear hK4 K4
  refine wp_seq_k fun K5 hK5 => ?_
  refine region_lit ?_
  refine seq_val (.int .i64 z) 9 rfl (by kernel_rfl) (by kernel_rfl) ?_
  refine seq_val (.int .i64 n) 10 rfl (by kernel_rfl) (run_loadC1 3 _ g0 0 3 _ (.int .i64 n) _ r0 rfl (by kernel_rfl) (by kernel_rfl) (by kernel_rfl)) ?_
  refine seq_call (.tuple #[.int .i64 (bel z n).1, .int .i64 (bel z n).2]) 33 #[.int .i64 z, .int .i64 n] 11 rfl (by kernel_rfl) (by kernel_rfl) (belowR z n hz _ hT) fun W1 e1 => ?_
  have x1 : Ext w W1 := Ext.tr (Rely.Ext.refl w) e1
  refine seq_val (.tuple #[.int .i64 (bel z n).1, .int .i64 (bel z n).2]) 8 rfl (by kernel_rfl) (by kernel_rfl) ?_
  refine seq_val (.int .i64 ((bel z n).1)) 12 rfl (by kernel_rfl) (by kernel_rfl) ?_
  refine seq_val (.int .i64 ((bel z n).2)) 13 rfl (by kernel_rfl) (by kernel_rfl) ?_
  refine seq_val (.int .i64 ((bel z n).1)) 6 rfl (by kernel_rfl) (by kernel_rfl) ?_
  refine seq_val (.int .i64 ((bel z n).2)) 7 rfl (by kernel_rfl) (by kernel_rfl) ?_
  refine seq_nil ?_
  refine hK5 _ _ ?_
  try clear hK5 K5
  refine wp_seq_k fun K6 hK6 => ?_
  refine region_lit ?_
  refine seq_val (.int .i64 ((bel z n).1)) 14 rfl (by kernel_rfl) (by kernel_rfl) ?_
  have r2_1 := (row_ext r1 e1)
  refine seq_val (.int .i64 ((bel y n).1)) 15 rfl (by kernel_rfl) (run_loadC1 3 _ g1 0 3 _ (.int .i64 ((bel y n).1)) _ r2_1 rfl (by kernel_rfl) (by kernel_rfl) (by kernel_rfl)) ?_
  refine seq_val (.bool true) 16 rfl (by kernel_rfl) (run_eq (u := .bool (decide (((bel z n).1) ≤ ((bel y n).1)))) (by kernel_rfl) (congrArg Value.bool (decide_eq_true h))) ?_
  refine seq_val (.bool true) 17 rfl (by kernel_rfl) (by kernel_rfl) ?_
  have r3_1 := (row_ext r2 e1)
  refine seq_val (.int .i64 ((bel y n).2)) 18 rfl (by kernel_rfl) (run_loadC1 3 _ g2 0 3 _ (.int .i64 ((bel y n).2)) _ r3_1 rfl (by kernel_rfl) (by kernel_rfl) (by kernel_rfl)) ?_
  refine seq_val (.int .i64 ((bel z n).2)) 19 rfl (by kernel_rfl) (by kernel_rfl) ?_
  refine seq_val (.bool (decide (((bel y n).2) ≤ ((bel z n).2)))) 20 rfl (by kernel_rfl) (by kernel_rfl) ?_
  refine seq_val (.bool (decide (((bel y n).2) ≤ ((bel z n).2)))) 21 rfl (by kernel_rfl) (by kernel_rfl) ?_
  refine seq_val (.bool (decide (((bel y n).2) ≤ ((bel z n).2)))) 5 rfl (by kernel_rfl) (by kernel_rfl) ?_
  refine seq_nil ?_
  refine hK6 _ _ ?_
  try clear hK6 K6
  refine wp_ret ?_
  repeat (first | with_reducible refine goR1 ?_ | with_reducible refine goR2 ?_)
  exact (show bodyPost _ _ _ .ret _ _ from ret1 (.bool (decide (((bel y n).2) ≤ ((bel z n).2)))) rfl (res_tmp (by kernel_rfl)) ⟨congrArg (fun q => Ending.returned (.bool q)) (by unfold abB; rw [decide_eq_true h, Bool.true_and]), x1⟩)
set_option maxHeartbeats 4000000 in
theorem above_F (z y n : Int) (hz : i64 z) (g0 g1 g2 : Nat) (h : ¬ (bel z n).1 ≤ (bel y n).1) (w : World) (hT : TabAt w) (r0 : w.heap[g0]? = some (.cells #[.int .i64 n] 3)) (r1 : w.heap[g1]? = some (.cells #[.int .i64 (bel y n).1] 3)) (r2 : w.heap[g2]? = some (.cells #[.int .i64 (bel y n).2] 3)) :
    Calls Tryd.prog 57 #[.int .i64 z, .pointer (some ⟨g0, 0, none⟩), .pointer (some ⟨g1, 0, none⟩), .pointer (some ⟨g2, 0, none⟩)] w (Ret w (.bool (abB z y n))) := by
  refine enter 22 [(0, .int .i64 z), (1, .pointer (some ⟨g0, 0, none⟩)), (2, .pointer (some ⟨g1, 0, none⟩)), (3, .pointer (some ⟨g2, 0, none⟩))] Tryd.func57 rfl rfl (by kernel_rfl) rfl ?_
  refine wp_seq_k fun K4 hK4 => ?_
  refine region_lit ?_
  refine seq_val (.bool false) 5 rfl (by kernel_rfl) (by kernel_rfl) ?_
  refine seq_nil ?_
  refine hK4 _ _ ?_
  try clear hK4 K4
  refine wp_seq_k fun K5 hK5 => ?_
  refine region_lit ?_
  refine seq_val (.int .i64 z) 9 rfl (by kernel_rfl) (by kernel_rfl) ?_
  refine seq_val (.int .i64 n) 10 rfl (by kernel_rfl) (run_loadC1 3 _ g0 0 3 _ (.int .i64 n) _ r0 rfl (by kernel_rfl) (by kernel_rfl) (by kernel_rfl)) ?_
  refine seq_call (.tuple #[.int .i64 (bel z n).1, .int .i64 (bel z n).2]) 33 #[.int .i64 z, .int .i64 n] 11 rfl (by kernel_rfl) (by kernel_rfl) (belowR z n hz _ hT) fun W1 e1 => ?_
  have x1 : Ext w W1 := Ext.tr (Rely.Ext.refl w) e1
  refine seq_val (.tuple #[.int .i64 (bel z n).1, .int .i64 (bel z n).2]) 8 rfl (by kernel_rfl) (by kernel_rfl) ?_
  refine seq_val (.int .i64 ((bel z n).1)) 12 rfl (by kernel_rfl) (by kernel_rfl) ?_
  refine seq_val (.int .i64 ((bel z n).2)) 13 rfl (by kernel_rfl) (by kernel_rfl) ?_
  refine seq_val (.int .i64 ((bel z n).1)) 6 rfl (by kernel_rfl) (by kernel_rfl) ?_
  refine seq_val (.int .i64 ((bel z n).2)) 7 rfl (by kernel_rfl) (by kernel_rfl) ?_
  refine seq_nil ?_
  refine hK5 _ _ ?_
  try clear hK5 K5
  refine wp_seq_k fun K6 hK6 => ?_
  refine region_lit ?_
  refine seq_val (.int .i64 ((bel z n).1)) 14 rfl (by kernel_rfl) (by kernel_rfl) ?_
  have r2_1 := (row_ext r1 e1)
  refine seq_val (.int .i64 ((bel y n).1)) 15 rfl (by kernel_rfl) (run_loadC1 3 _ g1 0 3 _ (.int .i64 ((bel y n).1)) _ r2_1 rfl (by kernel_rfl) (by kernel_rfl) (by kernel_rfl)) ?_
  refine seq_val (.bool false) 16 rfl (by kernel_rfl) (run_eq (u := .bool (decide (((bel z n).1) ≤ ((bel y n).1)))) (by kernel_rfl) (congrArg Value.bool (decide_eq_false h))) ?_
  refine seq_val (.bool false) 17 rfl (by kernel_rfl) (by kernel_rfl) ?_
  refine seq_skip 18 rfl (by kernel_rfl) ?_
  refine seq_skip 19 rfl (by kernel_rfl) ?_
  refine seq_skip 20 rfl (by kernel_rfl) ?_
  refine seq_val (.bool false) 21 rfl (by kernel_rfl) (by kernel_rfl) ?_
  refine seq_val (.bool false) 5 rfl (by kernel_rfl) (by kernel_rfl) ?_
  refine seq_nil ?_
  refine hK6 _ _ ?_
  try clear hK6 K6
  refine wp_ret ?_
  repeat (first | with_reducible refine goR1 ?_ | with_reducible refine goR2 ?_)
  exact (show bodyPost _ _ _ .ret _ _ from ret1 (.bool false) rfl (res_tmp (by kernel_rfl)) ⟨congrArg (fun q => Ending.returned (.bool q)) (by unfold abB; rw [decide_eq_false h, Bool.false_and]), x1⟩)
theorem aboveC (z y n : Int) (hz : i64 z) (g0 g1 g2 : Nat) (w : World) (hT : TabAt w) (r0 : w.heap[g0]? = some (.cells #[.int .i64 n] 3)) (r1 : w.heap[g1]? = some (.cells #[.int .i64 (bel y n).1] 3)) (r2 : w.heap[g2]? = some (.cells #[.int .i64 (bel y n).2] 3)) :
    Calls Tryd.prog 57 #[.int .i64 z, .pointer (some ⟨g0, 0, none⟩), .pointer (some ⟨g1, 0, none⟩), .pointer (some ⟨g2, 0, none⟩)] w (Ret w (.bool (abB z y n))) := by
  by_cases h : (bel z n).1 ≤ (bel y n).1
  · exact above_T z y n hz g0 g1 g2 h w hT r0 r1 r2
  · exact above_F z y n hz g0 g1 g2 h w hT r0 r1 r2
/-- the first node from here on up of which a test is true -/
def findU (p : Int → Bool) (n : Int) : Nat → Int → Int
  | 0, _ => -1
  | k + 1, z => if z < 0 then -1 else if p z = true then z else findU p n k (par z n)
def com (x y n : Int) : Int := if isNode x n && isNode y n then findU (fun z => abB z y n) n 8 x else -1
theorem findU_neg (p : Int → Bool) (n : Int) {z : Int} (h : z < 0) : ∀ k, findU p n k z = -1
  | 0 => rfl
  | k + 1 => by rw [findU, if_pos h]
theorem findU_hit {p : Int → Bool} {n z : Int} (h : 0 ≤ z) (hp : p z = true) (k : Nat) : findU p n (k + 1) z = z := by rw [findU, if_neg (by omega), if_pos hp]
theorem findU_next {p : Int → Bool} {n z : Int} (h : 0 ≤ z) (hp : p z = false) (k : Nat) : findU p n (k + 1) z = findU p n k (par z n) := by rw [findU, if_neg (by omega), hp]; rfl
theorem findU_ups {p : Int → Bool} {x n : Int} : ∀ (k f : Nat), (∀ i, i < k → 0 ≤ upn x n i ∧ p (upn x n i) = false) → findU p n (f + k) (upn x n 0) = findU p n f (upn x n k)
  | 0, f, _ => rfl
  | k + 1, f, h => by
    have h1 := findU_ups k (f + 1) (fun i hi => h i (by omega))
    rw [show f + (k + 1) = f + 1 + k by omega, h1, findU_next (h k (by omega)).1 (h k (by omega)).2]
    rfl
theorem com_self {x y n : Int} (hx : isNode x n = true) (hy : isNode y n = true) (h : abB x y n = true) : com x y n = x := by
  unfold com
  rw [hx, hy, Bool.and_self, if_pos rfl]
  exact findU_hit (p := fun z => abB z y n) (node_bd hx).1 h 7
theorem com_up {x y n : Int} {k : Nat} (hx : isNode x n = true) (hy : isNode y n = true) (h : abB x y n = false) (hall : ∀ i, i < k → 0 ≤ upn x n i ∧ abB (upn x n i) y n = false) (hk : k ≤ 6) : com x y n = findU (fun z => abB z y n) n (7 - k) (upn x n k) := by
  unfold com
  rw [hx, hy, Bool.and_self, if_pos rfl]
  show findU (fun z => abB z y n) n (7 + 1) x = _
  rw [findU_next (p := fun z => abB z y n) (node_bd hx).1 h]
  have := findU_ups (p := fun z => abB z y n) (x := x) (n := n) k (7 - k) hall
  rw [show 7 - k + k = 7 by omega] at this
  exact this

end Go.Proofs.YticjghmgbmjkiaaDoor.Seat
