/- Common nodes: the law SeatCommon. -/
import Derived.Test.YticjghmgbmjkiaaDoorSeatF
namespace Go.Proofs.YticjghmgbmjkiaaDoor.Seat
open Go Go.RowKit
open Go.Proofs.YticjghmgbmjkiaaDoor.Rely Go.Proofs.YticjghmgbmjkiaaDoor.Auto Go.Proofs.YticjghmgbmjkiaaDoor.Own
set_option linter.unusedVariables false
set_option linter.unusedSimpArgs false

set_option maxRecDepth 100000 in
theorem ab_all : allNodes (fun n z => (List.range (2 * n.toNat - 1)).all fun y => abB z y n == abv z y n) = true := by decide +kernel
set_option maxRecDepth 100000 in
theorem com_all : allNodes (fun n z => (List.range (2 * n.toNat - 1)).all fun y => com z y n == com y z n) = true := by decide +kernel
theorem ab_abv {z y n : Int} (hz : isNode z n = true) (hy : isNode y n = true) : abv z y n = abB z y n := by
  have hb := node_bd hy
  have := List.all_eq_true.1 (allNodes_spec ab_all hz) y.toNat (List.mem_range.2 (by omega))
  rw [Int.toNat_of_nonneg hb.1] at this
  exact (eq_of_beq this).symm
theorem com_sym (x y n : Int) : com y x n = com x y n := by
  cases hx : isNode x n with
  | false => unfold com; rw [hx, Bool.and_false, Bool.false_and, if_neg (by decide), if_neg (by decide)]
  | true =>
    cases hy : isNode y n with
    | false => unfold com; rw [hy, Bool.and_false, Bool.false_and, if_neg (by decide), if_neg (by decide)]
    | true =>
      have hb := node_bd hy
      have := List.all_eq_true.1 (allNodes_spec com_all hx) y.toNat (List.mem_range.2 (by omega))
      rw [Int.toNat_of_nonneg hb.1] at this
      exact (eq_of_beq this).symm
theorem commonC (x y n : Int) (w : World) (hT : TabAt w) : Calls Tryd.prog 41 #[.int .i64 x, .int .i64 y, .int .i64 n] w (Ret w (.int .i64 (com x y n))) := by
  cases hx : isNode x n with
  | false => exact common_A x y n hx w hT
  | true =>
    cases hy : isNode y n with
    | false => exact common_B x y n hx hy w hT
    | true => exact common_C x y n hx hy w hT
theorem rnodeR (x n : Int) (b : Bool) (h : isNode x n = b) (W : World) : Calls Tryd.prog 53 #[.int .i64 x, .int .i64 n] W (Ret W (.bool b)) := by
  subst h; exact quiet (rnode x n W)
theorem rparentR (x n : Int) (W : World) : Calls Tryd.prog 30 #[.int .i64 x, .int .i64 n] W (Ret W (.int .i64 (par x n))) := quiet (rparent x n W)
theorem raboveR (x y n : Int) (W : World) : Calls Tryd.prog 54 #[.int .i64 x, .int .i64 y, .int .i64 n] W (Ret W (.bool (abv x y n))) := quiet (rabove x y n W)
theorem aliveR (W : World) (hT : TabAt W) : Calls Tryd.prog 26 #[] W (Ret W (.bool true)) := quiet (alive W hT)
theorem findU_step {p : Int → Bool} {n z : Int} {f : Nat} (h : 0 ≤ z) (hf : 0 < f) : findU p n f z = if p z = true then z else findU p n (f - 1) (par z n) := by
  obtain ⟨k, rfl⟩ : ∃ k, f = k + 1 := ⟨f - 1, by omega⟩
  rw [findU, if_neg (by omega)]
  rfl
set_option maxHeartbeats 4000000 in
theorem rcommon_A (x y n : Int) (hx : isNode x n = false) (w : World) : Calls Tryd.prog 42 #[.int .i64 x, .int .i64 y, .int .i64 n] w (Ret w (.int .i64 (com x y n))) := by
  refine enter 29 [(0, .int .i64 x), (1, .int .i64 y), (2, .int .i64 n)] Tryd.func42 rfl rfl (by kernel_rfl) rfl ?_
  refine wp_seq_k fun K1 hK1 => ?_
  refine region_lit ?_
  refine seq_val (.int .i64 0) 6 rfl (by kernel_rfl) (by kernel_rfl) ?_
  refine seq_nil ?_
  refine hK1 _ _ ?_
  try clear hK1 K1
  refine wp_seq_k fun K2 hK2 => ?_
  refine wp_seq_k fun K3 hK3 => ?_
  refine region_lit ?_
  refine seq_val (.int .i64 x) 8 rfl (by kernel_rfl) (by kernel_rfl) ?_
  refine seq_val (.int .i64 n) 9 rfl (by kernel_rfl) (by kernel_rfl) ?_
  refine seq_call (.bool false) 53 #[.int .i64 x, .int .i64 n] 10 rfl (by kernel_rfl) (by kernel_rfl) ((rnodeR x n false hx) _) fun W1 e1 => ?_
  have x1 : Ext w W1 := Ext.tr (Rely.Ext.refl w) e1
  refine seq_val (.bool true) 11 rfl (by kernel_rfl) (by kernel_rfl) ?_
  refine seq_val (.bool true) 12 rfl (by kernel_rfl) (by kernel_rfl) ?_
  refine seq_skip 13 rfl (by kernel_rfl) ?_
  refine seq_skip 14 rfl (by kernel_rfl) ?_
  refine seq_skip 15 rfl (by kernel_rfl) ?_
  refine seq_skip 16 rfl (by kernel_rfl) ?_
  refine seq_val (.bool true) 17 rfl (by kernel_rfl) (by kernel_rfl) ?_
  refine seq_nil ?_
  refine hK3 _ _ ?_
  try clear hK3 K3
  refine cond_true (by kernel_rfl) ?_
  refine wp_seq_k fun K4 hK4 => ?_
  refine region_lit ?_
  refine seq_val (.int .i64 (-1)) 6 rfl (by kernel_rfl) (by kernel_rfl) ?_
  refine seq_nil ?_
  refine hK4 _ _ ?_
  try clear hK4 K4
  refine wp_ret ?_
  repeat (first | with_reducible refine goR1 ?_ | with_reducible refine goR2 ?_)
  exact (show bodyPost _ _ _ .ret _ _ from ret1 (.int .i64 (-1)) rfl (res_tmp (by kernel_rfl)) ⟨congrArg (fun z => Ending.returned (.int .i64 z)) (by unfold com; rw [hx]; rfl), x1⟩)
set_option maxHeartbeats 4000000 in
theorem rcommon_B (x y n : Int) (hx : isNode x n = true) (hy : isNode y n = false) (w : World) : Calls Tryd.prog 42 #[.int .i64 x, .int .i64 y, .int .i64 n] w (Ret w (.int .i64 (com x y n))) := by
  refine enter 29 [(0, .int .i64 x), (1, .int .i64 y), (2, .int .i64 n)] Tryd.func42 rfl rfl (by kernel_rfl) rfl ?_
  refine wp_seq_k fun K1 hK1 => ?_
  refine region_lit ?_
  refine seq_val (.int .i64 0) 6 rfl (by kernel_rfl) (by kernel_rfl) ?_
  refine seq_nil ?_
  refine hK1 _ _ ?_
  try clear hK1 K1
  refine wp_seq_k fun K2 hK2 => ?_
  refine wp_seq_k fun K3 hK3 => ?_
  refine region_lit ?_
  refine seq_val (.int .i64 x) 8 rfl (by kernel_rfl) (by kernel_rfl) ?_
  refine seq_val (.int .i64 n) 9 rfl (by kernel_rfl) (by kernel_rfl) ?_
  refine seq_call (.bool true) 53 #[.int .i64 x, .int .i64 n] 10 rfl (by kernel_rfl) (by kernel_rfl) ((rnodeR x n true hx) _) fun W1 e1 => ?_
  have x1 : Ext w W1 := Ext.tr (Rely.Ext.refl w) e1
  refine seq_val (.bool false) 11 rfl (by kernel_rfl) (by kernel_rfl) ?_
  refine seq_val (.bool false) 12 rfl (by kernel_rfl) (by kernel_rfl) ?_
  refine seq_val (.int .i64 y) 13 rfl (by kernel_rfl) (by kernel_rfl) ?_
  refine seq_val (.int .i64 n) 14 rfl (by kernel_rfl) (by kernel_rfl) ?_
  refine seq_call (.bool false) 53 #[.int .i64 y, .int .i64 n] 15 rfl (by kernel_rfl) (by kernel_rfl) ((rnodeR y n false hy) _) fun W2 e2 => ?_
  have x2 : Ext w W2 := Ext.tr x1 e2
  refine seq_val (.bool true) 16 rfl (by kernel_rfl) (by kernel_rfl) ?_
  refine seq_val (.bool true) 17 rfl (by kernel_rfl) (by kernel_rfl) ?_
  refine seq_nil ?_
  refine hK3 _ _ ?_
  try clear hK3 K3
  refine cond_true (by kernel_rfl) ?_
  refine wp_seq_k fun K4 hK4 => ?_
  refine region_lit ?_
  refine seq_val (.int .i64 (-1)) 6 rfl (by kernel_rfl) (by kernel_rfl) ?_
  refine seq_nil ?_
  refine hK4 _ _ ?_
  try clear hK4 K4
  refine wp_ret ?_
  repeat (first | with_reducible refine goR1 ?_ | with_reducible refine goR2 ?_)
  exact (show bodyPost _ _ _ .ret _ _ from ret1 (.int .i64 (-1)) rfl (res_tmp (by kernel_rfl)) ⟨congrArg (fun z => Ending.returned (.int .i64 z)) (by unfold com; rw [hx, hy]; rfl), x2⟩)
set_option maxHeartbeats 4000000 in
theorem rcommon_C (x y n : Int) (hx : isNode x n = true) (hy : isNode y n = true) (w : World) : Calls Tryd.prog 42 #[.int .i64 x, .int .i64 y, .int .i64 n] w (Ret w (.int .i64 (com x y n))) := by
  refine enter 29 [(0, .int .i64 x), (1, .int .i64 y), (2, .int .i64 n)] Tryd.func42 rfl rfl (by kernel_rfl) rfl ?_
  refine wp_seq_k fun K1 hK1 => ?_
  refine region_lit ?_
  refine seq_val (.int .i64 0) 6 rfl (by kernel_rfl) (by kernel_rfl) ?_
  refine seq_nil ?_
  refine hK1 _ _ ?_
  try clear hK1 K1
  refine wp_seq_k fun K2 hK2 => ?_
  refine wp_seq_k fun K3 hK3 => ?_
  refine region_lit ?_
  refine seq_val (.int .i64 x) 8 rfl (by kernel_rfl) (by kernel_rfl) ?_
  refine seq_val (.int .i64 n) 9 rfl (by kernel_rfl) (by kernel_rfl) ?_
  refine seq_call (.bool true) 53 #[.int .i64 x, .int .i64 n] 10 rfl (by kernel_rfl) (by kernel_rfl) ((rnodeR x n true hx) _) fun W1 e1 => ?_
  have x1 : Ext w W1 := Ext.tr (Rely.Ext.refl w) e1
  refine seq_val (.bool false) 11 rfl (by kernel_rfl) (by kernel_rfl) ?_
  refine seq_val (.bool false) 12 rfl (by kernel_rfl) (by kernel_rfl) ?_
  refine seq_val (.int .i64 y) 13 rfl (by kernel_rfl) (by kernel_rfl) ?_
  refine seq_val (.int .i64 n) 14 rfl (by kernel_rfl) (by kernel_rfl) ?_
  refine seq_call (.bool true) 53 #[.int .i64 y, .int .i64 n] 15 rfl (by kernel_rfl) (by kernel_rfl) ((rnodeR y n true hy) _) fun W2 e2 => ?_
  have x2 : Ext w W2 := Ext.tr x1 e2
  refine seq_val (.bool false) 16 rfl (by kernel_rfl) (by kernel_rfl) ?_
  refine seq_val (.bool false) 17 rfl (by kernel_rfl) (by kernel_rfl) ?_
  refine seq_nil ?_
  refine hK3 _ _ ?_
  try clear hK3 K3
  refine cond_false (by kernel_rfl) ?_
  refine wp_skip ?_
  refine hK2 _ _ ?_
  try clear hK2 K2
  refine wp_seq_k fun K4 hK4 => ?_
  refine wp_seq_k fun K5 hK5 => ?_
  refine region_lit ?_
  refine seq_val (.int .i64 x) 18 rfl (by kernel_rfl) (by kernel_rfl) ?_
  refine seq_val (.int .i64 x) 7 rfl (by kernel_rfl) (by kernel_rfl) ?_
  refine seq_nil ?_
  refine hK5 _ _ ?_
  try clear hK5 K5
  refine wp_block ?_
  refine loop_auto (fun (s1 : Int × Nat) => [(1, .int .i64 y), (2, .int .i64 n), (7, .int .i64 s1.1)]) (fun (s1 : Int × Nat) W => (findU (fun z => abB z y n) n s1.2 s1.1 = com x y n) ∧ (0 ≤ s1.1 → isNode s1.1 n = true) ∧ (0 ≤ s1.1 → (6 : Int) - lv s1.1 < (s1.2 : Int)) ∧ (Ext W2 W) ∧ (Ext w W)) (fun (s1 : Int × Nat) => s1.2) (x, 8) ⟨rfl, rfl, rfl, trivial⟩ ⟨(by unfold com; rw [hx, hy, Bool.and_self, if_pos rfl]), (fun _ => hx), (fun _ => by have := lv_node hx; show (6 : Int) - lv x < ((8 : Nat) : Int); omega), (Rely.Ext.refl W2), x2⟩ fun s1 X1 V1 hI1 => ?_
  obtain ⟨p, f⟩ := s1
  obtain ⟨hinv, hnode, hf, kk1, xx1⟩ := hI1
  replace hinv : findU (fun z => abB z y n) n f p = com x y n := hinv
  replace hnode : 0 ≤ p → isNode p n = true := hnode
  replace hf : 0 ≤ p → (6 : Int) - lv p < (f : Int) := hf
  replace kk1 : Ext W2 V1 := kk1
  replace xx1 : Ext w V1 := xx1
  have e3 := kk1
  refine wp_seq_k fun K6 hK6 => ?_
  refine wp_seq_k fun K7 hK7 => ?_
  refine region_lit ?_
  refine seq_val (.int .i64 p) 19 rfl (by kernel_rfl) (by kernel_rfl) ?_
  refine seq_val (.bool (decide (p ≥ 0))) 20 rfl (by kernel_rfl) (by kernel_rfl) ?_
  refine seq_nil ?_
  refine hK7 _ _ ?_
  try clear hK7 K7
  refine cond_split (t := decide (p ≥ 0)) (by kernel_rfl) (fun c8 => ?_) (fun c8 => ?_)
  · skip
    have h0 : 0 ≤ p := of_decide_eq_true c8
    have hn := hnode h0
    have hlv := lv_node hn
    have hfl := hf h0
    have hst := findU_step (p := fun z => abB z y n) (n := n) (f := f) h0 (by omega)
    refine wp_skip ?_
    refine hK6 _ _ ?_
    try clear hK6 K6
    refine wp_seq_k fun K9 hK9 => ?_
    refine wp_block ?_
    refine wp_seq_k fun K10 hK10 => ?_
    refine region_lit ?_
    refine seq_val (.int .i64 p) 24 rfl (by kernel_rfl) (by kernel_rfl) ?_
    refine seq_val (.int .i64 y) 25 rfl (by kernel_rfl) (by kernel_rfl) ?_
    refine seq_val (.int .i64 n) 26 rfl (by kernel_rfl) (by kernel_rfl) ?_
    refine seq_call (.bool (abv p y n)) 54 #[.int .i64 p, .int .i64 y, .int .i64 n] 27 rfl (by kernel_rfl) (by kernel_rfl) ((raboveR p y n) _) fun W4 e4 => ?_
    have x4 : Ext w W4 := Ext.tr xx1 e4
    refine seq_nil ?_
    refine hK10 _ _ ?_
    try clear hK10 K10
    refine cond_split (t := abv p y n) (by kernel_rfl) (fun c11 => ?_) (fun c11 => ?_)
    · skip
      have hab : abB p y n = true := (ab_abv hn hy).symm.trans c11
      have hst2 : findU (fun z => abB z y n) n f p = p := by rw [hst]; exact if_pos hab
      refine wp_seq_k fun K12 hK12 => ?_
      refine region_lit ?_
      refine seq_val (.int .i64 p) 28 rfl (by kernel_rfl) (by kernel_rfl) ?_
      refine seq_val (.int .i64 p) 6 rfl (by kernel_rfl) (by kernel_rfl) ?_
      refine seq_nil ?_
      refine hK12 _ _ ?_
      try clear hK12 K12
      refine wp_ret ?_
      repeat (first | with_reducible refine goR1 ?_ | with_reducible refine goR2 ?_)
      exact (show bodyPost _ _ _ .ret _ _ from ret1 (.int .i64 p) rfl (res_tmp (by kernel_rfl)) ⟨congrArg (fun z => Ending.returned (.int .i64 z)) (hst2.symm.trans hinv), x4⟩)
    · skip
      have hab : abB p y n = false := (ab_abv hn hy).symm.trans c11
      have hst2 : findU (fun z => abB z y n) n f p = findU (fun z => abB z y n) n (f - 1) (par p n) := by rw [hst]; exact if_neg (by rw [hab]; decide)
      refine wp_skip ?_
      refine hK9 _ _ ?_
      try clear hK9 K9
      refine region_lit ?_
      refine seq_val (.int .i64 p) 21 rfl (by kernel_rfl) (by kernel_rfl) ?_
      refine seq_val (.int .i64 n) 22 rfl (by kernel_rfl) (by kernel_rfl) ?_
      refine seq_call (.int .i64 (par p n)) 30 #[.int .i64 p, .int .i64 n] 23 rfl (by kernel_rfl) (by kernel_rfl) ((rparentR p n) _) fun W5 e5 => ?_
      have x5 : Ext w W5 := Ext.tr x4 e5
      refine seq_val (.int .i64 (par p n)) 7 rfl (by kernel_rfl) (by kernel_rfl) ?_
      refine seq_nil ?_
      have y2_4 : Ext W2 W4 := (Rely.Ext.trans e3 e4)
      have y2_5 : Ext W2 W5 := (Rely.Ext.trans y2_4 e5)
      repeat (first | with_reducible refine goX1 ?_ | with_reducible refine goX2 ?_ | with_reducible refine goX3 ?_)
      exact goes_then ((par p n), (f - 1)) ⟨rfl, rfl, rfl, trivial⟩ ⟨(hst2.symm.trans hinv), (fun h => by rcases par_node hn with q | q; omega; exact q.1), (fun h => by rcases par_node hn with q | q; omega; show (6 : Int) - lv (par p n) < ((f - 1 : Nat) : Int); have q2 := q.2; omega), y2_5, x5⟩ (by show f - 1 < f; omega)
  · skip
    have h0 : p < 0 := by have := of_decide_eq_false c8; omega
    refine wp_exit ?_
    refine hK4 _ _ ?_
    try clear hK4 K4
    refine wp_seq_k fun K13 hK13 => ?_
    refine region_lit ?_
    refine seq_val (.int .i64 (-1)) 6 rfl (by kernel_rfl) (by kernel_rfl) ?_
    refine seq_nil ?_
    refine hK13 _ _ ?_
    try clear hK13 K13
    refine wp_ret ?_
    repeat (first | with_reducible refine goR1 ?_ | with_reducible refine goR2 ?_)
    exact (show bodyPost _ _ _ .ret _ _ from ret1 (.int .i64 (-1)) rfl (res_tmp (by kernel_rfl)) ⟨congrArg (fun z => Ending.returned (.int .i64 z)) ((findU_neg _ n h0 f).symm.trans hinv), xx1⟩)
theorem rcommonC (x y n : Int) (w : World) : Calls Tryd.prog 42 #[.int .i64 x, .int .i64 y, .int .i64 n] w (Ret w (.int .i64 (com x y n))) := by
  cases hx : isNode x n with
  | false => exact rcommon_A x y n hx w
  | true =>
    cases hy : isNode y n with
    | false => exact rcommon_B x y n hx hy w
    | true => exact rcommon_C x y n hx hy w
set_option maxHeartbeats 4000000 in
theorem lawCommon (x y n : Int) (w : World) (hT : TabAt w) : Calls Tryd.prog 9 #[.int .i64 x, .int .i64 y, .int .i64 n] w (Ret w (.bool true)) := by
  refine enter 30 [(0, .int .i64 x), (1, .int .i64 y), (2, .int .i64 n)] Tryd.func9 rfl rfl (by kernel_rfl) rfl ?_
  refine wp_seq_k fun K1 hK1 => ?_
  refine region_lit ?_
  refine seq_val (.bool false) 6 rfl (by kernel_rfl) (by kernel_rfl) ?_
  refine seq_nil ?_
  refine hK1 _ _ ?_
  try clear hK1 K1
  refine wp_seq_k fun K2 hK2 => ?_
  refine region_lit ?_
  refine seq_call (.bool true) 26 #[] 7 rfl (by kernel_rfl) (by kernel_rfl) (aliveR _ (TabAt.ext hT (Rely.Ext.refl w))) fun W1 e1 => ?_
  have x1 : Ext w W1 := Ext.tr (Rely.Ext.refl w) e1
  refine seq_val (.bool true) 8 rfl (by kernel_rfl) (by kernel_rfl) ?_
  refine seq_val (.int .i64 x) 9 rfl (by kernel_rfl) (by kernel_rfl) ?_
  refine seq_val (.int .i64 y) 10 rfl (by kernel_rfl) (by kernel_rfl) ?_
  refine seq_val (.int .i64 n) 11 rfl (by kernel_rfl) (by kernel_rfl) ?_
  refine seq_call (.int .i64 (com x y n)) 41 #[.int .i64 x, .int .i64 y, .int .i64 n] 12 rfl (by kernel_rfl) (by kernel_rfl) (commonC x y n _ (TabAt.ext hT x1)) fun W2 e2 => ?_
  have x2 : Ext w W2 := Ext.tr x1 e2
  refine seq_val (.int .i64 x) 13 rfl (by kernel_rfl) (by kernel_rfl) ?_
  refine seq_val (.int .i64 y) 14 rfl (by kernel_rfl) (by kernel_rfl) ?_
  refine seq_val (.int .i64 n) 15 rfl (by kernel_rfl) (by kernel_rfl) ?_
  refine seq_call (.int .i64 (com x y n)) 42 #[.int .i64 x, .int .i64 y, .int .i64 n] 16 rfl (by kernel_rfl) (by kernel_rfl) ((rcommonC x y n) _) fun W3 e3 => ?_
  have x3 : Ext w W3 := Ext.tr x2 e3
  refine seq_val (.bool true) 17 rfl (by kernel_rfl) (run_eq (u := .bool (((com x y n) == (com x y n)))) (by kernel_rfl) (congrArg Value.bool (beq_self_eq_true _))) ?_
  refine seq_val (.bool true) 18 rfl (by kernel_rfl) (by kernel_rfl) ?_
  refine seq_val (.bool true) 19 rfl (by kernel_rfl) (by kernel_rfl) ?_
  refine seq_val (.int .i64 y) 20 rfl (by kernel_rfl) (by kernel_rfl) ?_
  refine seq_val (.int .i64 x) 21 rfl (by kernel_rfl) (by kernel_rfl) ?_
  refine seq_val (.int .i64 n) 22 rfl (by kernel_rfl) (by kernel_rfl) ?_
  refine seq_call (.int .i64 (com y x n)) 41 #[.int .i64 y, .int .i64 x, .int .i64 n] 23 rfl (by kernel_rfl) (by kernel_rfl) (commonC y x n _ (TabAt.ext hT x3)) fun W4 e4 => ?_
  have x4 : Ext w W4 := Ext.tr x3 e4
  refine seq_val (.int .i64 x) 24 rfl (by kernel_rfl) (by kernel_rfl) ?_
  refine seq_val (.int .i64 y) 25 rfl (by kernel_rfl) (by kernel_rfl) ?_
  refine seq_val (.int .i64 n) 26 rfl (by kernel_rfl) (by kernel_rfl) ?_
  refine seq_call (.int .i64 (com x y n)) 41 #[.int .i64 x, .int .i64 y, .int .i64 n] 27 rfl (by kernel_rfl) (by kernel_rfl) (commonC x y n _ (TabAt.ext hT x4)) fun W5 e5 => ?_
  have x5 : Ext w W5 := Ext.tr x4 e5
  refine seq_val (.bool true) 28 rfl (by kernel_rfl) (run_eq (u := .bool (((com y x n) == (com x y n)))) (by kernel_rfl) (congrArg Value.bool (by rw [com_sym]; exact beq_self_eq_true _))) ?_
  refine seq_val (.bool true) 29 rfl (by kernel_rfl) (by kernel_rfl) ?_
  refine seq_val (.bool true) 6 rfl (by kernel_rfl) (by kernel_rfl) ?_
  refine seq_nil ?_
  refine hK2 _ _ ?_
  try clear hK2 K2
  refine wp_ret ?_
  repeat (first | with_reducible refine goR1 ?_ | with_reducible refine goR2 ?_)
  exact (show bodyPost _ _ _ .ret _ _ from ret1 (.bool true) rfl (res_tmp (by kernel_rfl)) ⟨rfl, x5⟩)

end Go.Proofs.YticjghmgbmjkiaaDoor.Seat
