/- Points: sums; the law of sums. -/
import Derived.Test.YtaojnmjmmfdfjaaDoorPtCurve
import Derived.Test.YtaojnmjmmfdfjaaDoorPtLawFrom
namespace Go.Proofs.YtaojnmjmmfdfjaaDoor.Field
open Go Go.RowKit
open Go.Proofs.YtaojnmjmmfdfjaaDoor.Rely Go.Proofs.YtaojnmjmmfdfjaaDoor.Auto.V
open Go.Proofs.YtaojnmjmmfdfjaaDoor.Auto hiding isT tailT readsT storesT okT TailRun tailsOf pureOk stepsT stepsT_found InvT rem Phase isT_some mem_tails mem_rem rem_nodup list_false rem_sorted rem_set filter_ne holdsC wpAny_of_T t_store t_op t_skip t_val t_read t_call t_new t_nil TailEnv tail_env te_nil te_store any_regionT
set_option linter.unusedVariables false

/-! ### A point of the curve by its y and its parity -/
theorem w_ne (y : Int) : (y * y * dN + 1) % p ≠ 0 := fun h => by
  by_cases hy : y % p = 0
  · rw [← addL, Int.mul_assoc, ← modL, hy, Int.zero_mul] at h
    exact absurd h (by decide)
  · exact nonsq (a := y) (b := 1) hy (zc1 h (c := -1) (by grind))
theorem curve_sq {x u y : Int} (h1 : onC x y) (h2 : onC u y) : x * x % p = u * u % p := by
  have e : ((x * x - u * u) * (y * y * dN + 1)) % p = 0 := by
    unfold onC cv at h1 h2
    exact zc2 h1 h2 (c := -1) (d := 1) (by grind)
  exact z_sub ((z_mul e).resolve_right (w_ne y))
theorem odd_flip (u P : Int) (hP : P % 2 = 1) (h : (P - u) % 2 = u % 2) : False := by omega
theorem p_odd : p % 2 = 1 := by decide
theorem curve_x {x u y : Int} (hx : isN x) (hu : isN u) (h1 : onC x y) (h2 : onC u y) (hp : x % 2 = u % 2) : x = u := by
  rcases sq_eq x u hx hu (curve_sq h1 h2) with h | h
  · exact h
  · by_cases h0 : u = 0
    · rw [h, h0]; rfl
    · rw [neg_mod u hu h0] at h
      rw [h] at hp
      exact absurd (odd_flip u p p_odd hp) id
theorem mod_step (a : Int) (k : Nat) : a % 256 ^ (k + 1) = a % 256 ^ k + 256 ^ k * (a / 256 ^ k % 256) := by
  have hB : (0 : Int) < 256 ^ k := Int.pow_pos (by decide)
  rw [Int.pow_succ]
  generalize (256 : Int) ^ k = B at hB
  have e1 := Int.mul_ediv_add_emod a B
  have e2 := Int.mul_ediv_add_emod (a / B) 256
  have r1 := Int.emod_nonneg a (Int.ne_of_gt hB)
  have r2 := Int.emod_lt_of_pos a hB
  have s1 := Int.emod_nonneg (a / B) (show (256 : Int) ≠ 0 by decide)
  have s2 := Int.emod_lt_of_pos (a / B) (show (0 : Int) < 256 by decide)
  generalize a % B = r at *
  generalize a / B % 256 = s at *
  generalize a / B / 256 = t at *
  generalize a / B = q at *
  have e3 : a = (r + B * s) + B * 256 * t := by rw [← e1, ← e2]; grind
  have m1 : B * s ≤ B * 255 := Int.mul_le_mul_of_nonneg_left (by omega) (by omega)
  have m2 : 0 ≤ B * s := Int.mul_nonneg (by omega) s1
  rw [e3, Int.add_mul_emod_self_left]
  exact Int.emod_eq_of_lt (by omega) (by omega)
theorem bytes_mod {a b : Int} (h : bytesOf a = bytesOf b) : ∀ k, k ≤ 32 → a % 256 ^ k = b % 256 ^ k
  | 0, _ => by simp [Int.emod_one]
  | k + 1, hk => by
    rw [mod_step, mod_step b, bytes_mod h k (by omega)]
    have e : byteAt a k = byteAt b k := by
      have q : ∀ n, nth (bytesOf n) k = byteAt n k := fun n => by unfold nth bytesOf part; simp [show k < 32 by omega]
      rw [← q, ← q, h]
    unfold byteAt at e
    rw [e]
theorem bytes_inj {a b : Int} (ha : isN a) (hb : isN b) (h : bytesOf a = bytesOf b) : a = b := by
  have e := bytes_mod h 32 (Nat.le_refl _)
  have l : p < 256 ^ 32 := by decide
  have a1 := ha.2
  have b1 := hb.2
  rw [Int.emod_eq_of_lt ha.1 (Int.lt_trans a1 l), Int.emod_eq_of_lt hb.1 (Int.lt_trans b1 l)] at e
  exact e
theorem nth_set_self (xs : List Int) (i : Nat) (v : Int) (h : i < xs.length) : nth (xs.set i v) i = v := by unfold nth; simp [h]
theorem enc_top {x y : Int} (hy : isN y) : (x % 2 == 1) = decide (128 ≤ nth (enc x y) 31) := by
  have hl := last_byte hy
  unfold enc
  by_cases h : (x % 2 == 1) = true
  · rw [if_pos h, h, nth_set_self _ _ _ (by rw [bytes_len]; decide)]
    exact (decide_eq_true (by omega)).symm
  · rw [if_neg h]
    rw [Bool.not_eq_true] at h
    rw [h]
    exact (decide_eq_false (by omega)).symm
theorem enc_low {x y : Int} (hy : isN y) : (enc x y).set 31 (nth (enc x y) 31 % 128) = bytesOf y := by
  have hl := last_byte hy
  have hs : (bytesOf y).set 31 (nth (bytesOf y) 31) = bytesOf y := set_nth _ _
  unfold enc
  split
  · rw [nth_set_self _ _ _ (by rw [bytes_len]; decide), List.set_set, show (nth (bytesOf y) 31 + 128) % 128 = nth (bytesOf y) 31 by omega, hs]
  · rw [Int.emod_eq_of_lt hl.1 hl.2, hs]
theorem enc_inj {x y u v : Int} (hy : isN y) (hv : isN v) (h : enc x y = enc u v) : y = v ∧ x % 2 = u % 2 := by
  refine ⟨bytes_inj hy hv ?_, ?_⟩
  · rw [← enc_low (x := x) hy, ← enc_low (x := u) hv, h]
  · have e := enc_top (x := x) hy
    rw [h, ← enc_top hv] at e
    have q : ∀ a : Int, a % 2 = 0 ∨ a % 2 = 1 := fun a => by omega
    rcases q x with h1 | h1 <;> rcases q u with h2 | h2 <;> rw [h1, h2] at e ⊢ <;> cases e
theorem lK_eq (xs : List Int) : lK xs = (zK xs - 1) % p := by
  unfold lK zK
  split
  · rfl
  · rfl
theorem equal_same (a b : List Int) : (xK a == xK b && lK a == lK b) = decide (encK a = encK b) := by
  by_cases h : encK a = encK b
  · obtain ⟨h1, h2⟩ := enc_inj (zK_isN a) (zK_isN b) h
    have hc := K_onC a
    rw [h1] at hc
    have hx := curve_x (xK_isN a) (xK_isN b) hc (K_onC b) h2
    rw [decide_eq_true h, lK_eq, lK_eq, h1, hx]
    simp
  · rw [decide_eq_false h]
    refine Bool.eq_false_iff.2 fun hh => h ?_
    simp only [Bool.and_eq_true, beq_iff_eq] at hh
    unfold encK
    rw [← py_K a, ← py_K b, hh.1, hh.2]
/-! ### The law of sums -/
def sumK (a b : List Int) : List Int := enc (paddF (xK a) (lK a) (xK b) (lK b)).1 (pyF (paddF (xK a) (lK a) (xK b) (lK b)).1 (paddF (xK a) (lK a) (xK b) (lK b)).2)
def negK (a : List Int) : List Int := enc (pngPF (xK a) (lK a)).1 (pyF (pngPF (xK a) (lK a)).1 (pngPF (xK a) (lK a)).2)
theorem sumK_len (a b : List Int) : (sumK a b).length = 32 := enc_len _ _
theorem negK_len (a : List Int) : (negK a).length = 32 := enc_len _ _
theorem sumB (a b : List Int) (w : World) : Calls Tryd.prog 13 #[.agg (cat [numA ((paddF (xK a) (lK a) (xK b) (lK b)).1), numA ((paddF (xK a) (lK a) (xK b) (lK b)).2)])] w (Ret w (.agg (ints .u8 (sumK a b)))) :=
  pbytesC _ _ (padd_isN _ _ _ _ (xK_isN a) (lK_isN a) (xK_isN b) (lK_isN b)).1 (padd_isN _ _ _ _ (xK_isN a) (lK_isN a) (xK_isN b) (lK_isN b)).2 w
theorem negB (a : List Int) (w : World) : Calls Tryd.prog 13 #[.agg (cat [numA ((pngPF (xK a) (lK a)).1), numA ((pngPF (xK a) (lK a)).2)])] w (Ret w (.agg (ints .u8 (negK a)))) :=
  pbytesC _ _ (pngP_isN _ _ (xK_isN a) (lK_isN a)).1 (pngP_isN _ _ (xK_isN a) (lK_isN a)).2 w
theorem rsumB (a b : List Int) (w : World) : Calls Tryd.prog 14 #[.agg (cat [ints .i64 (lims ((raddF (xK a) (zK a) 1 (xK b) (zK b) 1).1)), ints .i64 (lims ((raddF (xK a) (zK a) 1 (xK b) (zK b) 1).2.1)), ints .i64 (lims ((raddF (xK a) (zK a) 1 (xK b) (zK b) 1).2.2))])] w (Ret w (.agg (ints .u8 (sumK a b)))) := by
  have h := radd_isN (xK a) (zK a) 1 (xK b) (zK b) 1 (xK_isN a) (zK_isN a) (num_isN 1) (xK_isN b) (zK_isN b) (num_isN 1)
  have e := sum_same (xK a) (lK a) (xK b) (lK b) (xK_isN a) (lK_isN a) (xK_isN b) (lK_isN b)
  rw [py_K, py_K] at e
  unfold sumK
  rw [e]
  exact rbytesC _ _ _ h.1 h.2.1 h.2.2 w
theorem rnegB (a : List Int) (w : World) : Calls Tryd.prog 14 #[.agg (cat [ints .i64 (lims ((rnegF (xK a) (zK a) 1).1)), ints .i64 (lims ((rnegF (xK a) (zK a) 1).2.1)), ints .i64 (lims ((rnegF (xK a) (zK a) 1).2.2))])] w (Ret w (.agg (ints .u8 (negK a)))) := by
  have h := rneg_isN (xK a) (zK a) 1 (xK_isN a) (zK_isN a) (num_isN 1)
  have e := neg_same (xK a) (lK a) (xK_isN a) (lK_isN a)
  rw [py_K] at e
  unfold negK
  rw [e]
  exact rbytesC _ _ _ h.1 h.2.1 h.2.2 w
set_option maxHeartbeats 4000000 in
theorem lawAdds (a b : List Int) (ha : a.length = 32) (hab : AreBytes a) (hb : b.length = 32) (hbb : AreBytes b) (w : World) (tB : TypeId) (hB : w.heap[0]? = some (.cells (ints .u8 bendL) tB)) (tX : TypeId) (hX : w.heap[1]? = some (.cells (ints .u8 baseXL) tX)) (tY : TypeId) (hY : w.heap[2]? = some (.cells (ints .u8 baseYL) tY)) : Calls Tryd.prog 4 #[.agg (ints .u8 (a)), .agg (ints .u8 (b))] w (Ret w (.bool true)) := by
  refine enter 72 [(0, .agg (ints .u8 (a))), (1, .agg (ints .u8 (b)))] Tryd.func4 rfl rfl (by kernel_rfl) rfl ?_
  refine wp_seq_k fun K4 hK4 => ?_
  refine region_lit ?_
  refine seq_alloc (ints .u8 (a)) 23 2 rfl (by kernel_rfl) (by kernel_rfl) fun g5 W1 l5 e1 r5_1 => ?_
  have x1 : Ext w W1 := Ext.tr (Rely.Ext.refl w) e1
  have b5 : w.heap.size ≤ g5 := Nat.le_trans (Rely.Ext.refl w).size l5
  refine seq_alloc (ints .u8 (b)) 23 3 rfl (by kernel_rfl) (by kernel_rfl) fun g6 W2 l6 e2 r6_2 => ?_
  have x2 : Ext w W2 := Ext.tr x1 e2
  have b6 : w.heap.size ≤ g6 := Nat.le_trans x1.size l6
  refine seq_val (.bool false) 4 rfl (by kernel_rfl) (by kernel_rfl) ?_
  refine seq_nil ?_
  refine hK4 _ _ ?_
  try clear hK4 K4
  refine wp_seq_k fun K7 hK7 => ?_
  refine wp_seq_k fun K8 hK8 => ?_
  refine region_lit ?_
  have r1_2 := (row_ext (row_ext hB e1) e2)
  have r2_2 := (row_ext (row_ext hX e1) e2)
  have r3_2 := (row_ext (row_ext hY e1) e2)
  refine seq_call (.bool true) 10 #[] 13 rfl (by kernel_rfl) (by kernel_rfl) (alive7 _ tB r1_2 tX r2_2 tY r3_2) fun W3 e3 => ?_
  have x3 : Ext w W3 := Ext.tr x2 e3
  refine seq_val (.bool false) 14 rfl (by kernel_rfl) (by kernel_rfl) ?_
  refine seq_nil ?_
  refine hK8 _ _ ?_
  try clear hK8 K8
  refine cond_false (by kernel_rfl) ?_
  refine wp_skip ?_
  refine hK7 _ _ ?_
  try clear hK7 K7
  refine wp_seq_k fun K9 hK9 => ?_
  refine region_lit ?_
  have r5_3 := (row_ext (row_ext r5_1 e2) e3)
  refine seq_val (.agg (ints .u8 (a))) 16 rfl (by kernel_rfl) (run_load_row 23 _ g5 23 _ _ r5_3 rfl (by kernel_rfl) (by kernel_rfl) (isz (n := 32) (by kernel_rfl) ((ints_size _ _).trans ha))) ?_
  have r1_3 := (row_ext r1_2 e3)
  refine seq_call (.tuple #[.agg (cat [numA (xK a), numA (lK a)]), .bool (okK a)]) 11 #[.agg (ints .u8 (a))] 17 rfl (by kernel_rfl) (by kernel_rfl) (pfromC a ha hab _ tB r1_3) fun W4 e4 => ?_
  have x4 : Ext w W4 := Ext.tr x3 e4
  refine seq_val (.tuple #[.agg (cat [numA (xK a), numA (lK a)]), .bool (okK a)]) 15 rfl (by kernel_rfl) (by kernel_rfl) ?_
  refine seq_val (.agg (cat [numA (xK a), numA (lK a)])) 18 rfl (by kernel_rfl) (by kernel_rfl) ?_
  refine seq_val (.bool (okK a)) 19 rfl (by kernel_rfl) (by kernel_rfl) ?_
  refine seq_alloc (cat [numA (0), numA (0)]) 30 5 rfl (by kernel_rfl) (by kernel_rfl) fun g10 W5 l10 e5 r10_5 => ?_
  have x5 : Ext w W5 := Ext.tr x4 e5
  have b10 : w.heap.size ≤ g10 := Nat.le_trans x4.size l10
  refine seq_store g10 _ (cat [numA (xK a), numA (lK a)]) 30 r10_5 rfl (by kernel_rfl) (run_store_row 30 _ _ g10 30 _ _ r10_5 rfl (by kernel_rfl) (by kernel_rfl) (isz (n := 8) (by kernel_rfl) (by kernel_rfl)) (eqsz (n := 8) (by kernel_rfl) (by kernel_rfl)) (by kernel_rfl)) fun W6 p6 r10_6 => ?_
  have x6 : Ext w W6 := Puts.ext p6 x5 b10
  refine seq_val (.bool (okK a)) 6 rfl (by kernel_rfl) (by kernel_rfl) ?_
  refine seq_nil ?_
  refine hK9 _ _ ?_
  try clear hK9 K9
  refine wp_seq_k fun K11 hK11 => ?_
  refine region_lit ?_
  have r6_4 := (row_ext (row_ext r6_2 e3) e4)
  have r6_6 := (Puts.row p6 (row_ext (row_ext (row_ext r6_2 e3) e4) e5) (ne_of_old r6_4 l10))
  refine seq_val (.agg (ints .u8 (b))) 21 rfl (by kernel_rfl) (run_load_row 23 _ g6 23 _ _ r6_6 rfl (by kernel_rfl) (by kernel_rfl) (isz (n := 32) (by kernel_rfl) ((ints_size _ _).trans hb))) ?_
  have r1_4 := (row_ext r1_3 e4)
  have r1_6 := (Puts.row p6 (row_ext (row_ext r1_3 e4) e5) (ne_of_old r1_4 l10))
  refine seq_call (.tuple #[.agg (cat [numA (xK b), numA (lK b)]), .bool (okK b)]) 11 #[.agg (ints .u8 (b))] 22 rfl (by kernel_rfl) (by kernel_rfl) (pfromC b hb hbb _ tB r1_6) fun W7 e7 => ?_
  have x7 : Ext w W7 := Ext.tr x6 e7
  refine seq_val (.tuple #[.agg (cat [numA (xK b), numA (lK b)]), .bool (okK b)]) 20 rfl (by kernel_rfl) (by kernel_rfl) ?_
  refine seq_val (.agg (cat [numA (xK b), numA (lK b)])) 23 rfl (by kernel_rfl) (by kernel_rfl) ?_
  refine seq_val (.bool (okK b)) 24 rfl (by kernel_rfl) (by kernel_rfl) ?_
  refine seq_alloc (cat [numA (0), numA (0)]) 30 7 rfl (by kernel_rfl) (by kernel_rfl) fun g12 W8 l12 e8 r12_8 => ?_
  have x8 : Ext w W8 := Ext.tr x7 e8
  have b12 : w.heap.size ≤ g12 := Nat.le_trans x7.size l12
  refine seq_store g12 _ (cat [numA (xK b), numA (lK b)]) 30 r12_8 rfl (by kernel_rfl) (run_store_row 30 _ _ g12 30 _ _ r12_8 rfl (by kernel_rfl) (by kernel_rfl) (isz (n := 8) (by kernel_rfl) (by kernel_rfl)) (eqsz (n := 8) (by kernel_rfl) (by kernel_rfl)) (by kernel_rfl)) fun W9 p9 r12_9 => ?_
  have x9 : Ext w W9 := Puts.ext p9 x8 b12
  refine seq_val (.bool (okK b)) 8 rfl (by kernel_rfl) (by kernel_rfl) ?_
  refine seq_nil ?_
  refine hK11 _ _ ?_
  try clear hK11 K11
  refine wp_seq_k fun K13 hK13 => ?_
  refine region_lit ?_
  have r5_4 := (row_ext r5_3 e4)
  have r5_7 := (row_ext (Puts.row p6 (row_ext r5_4 e5) (ne_of_old r5_4 l10)) e7)
  have r5_9 := (Puts.row p9 (row_ext (row_ext (Puts.row p6 (row_ext (row_ext r5_3 e4) e5) (ne_of_old r5_4 l10)) e7) e8) (ne_of_old r5_7 l12))
  refine seq_val (.agg (ints .u8 (a))) 26 rfl (by kernel_rfl) (run_load_row 23 _ g5 23 _ _ r5_9 rfl (by kernel_rfl) (by kernel_rfl) (isz (n := 32) (by kernel_rfl) ((ints_size _ _).trans ha))) ?_
  refine seq_call (.tuple #[.agg (cat [ints .i64 (lims (xK a)), ints .i64 (lims (zK a)), ints .i64 (lims (1))]), .bool (okK a)]) 12 #[.agg (ints .u8 (a))] 27 rfl (by kernel_rfl) (by kernel_rfl) ((rfromC a ha hab) _) fun W10 e10 => ?_
  have x10 : Ext w W10 := Ext.tr x9 e10
  refine seq_val (.tuple #[.agg (cat [ints .i64 (lims (xK a)), ints .i64 (lims (zK a)), ints .i64 (lims (1))]), .bool (okK a)]) 25 rfl (by kernel_rfl) (by kernel_rfl) ?_
  refine seq_val (.agg (cat [ints .i64 (lims (xK a)), ints .i64 (lims (zK a)), ints .i64 (lims (1))])) 28 rfl (by kernel_rfl) (by kernel_rfl) ?_
  refine seq_val (.bool (okK a)) 29 rfl (by kernel_rfl) (by kernel_rfl) ?_
  refine seq_alloc (cat [ints .i64 (lims (0)), ints .i64 (lims (0)), ints .i64 (lims (0))]) 36 9 rfl (by kernel_rfl) (by kernel_rfl) fun g14 W11 l14 e11 r14_11 => ?_
  have x11 : Ext w W11 := Ext.tr x10 e11
  have b14 : w.heap.size ≤ g14 := Nat.le_trans x10.size l14
  refine seq_store g14 _ (cat [ints .i64 (lims (xK a)), ints .i64 (lims (zK a)), ints .i64 (lims (1))]) 36 r14_11 rfl (by kernel_rfl) (run_store_row 36 _ _ g14 36 _ _ r14_11 rfl (by kernel_rfl) (by kernel_rfl) (isz (n := 48) (by kernel_rfl) (by kernel_rfl)) (eqsz (n := 48) (by kernel_rfl) (by kernel_rfl)) (by kernel_rfl)) fun W12 p12 r14_12 => ?_
  have x12 : Ext w W12 := Puts.ext p12 x11 b14
  refine seq_val (.bool (okK a)) 10 rfl (by kernel_rfl) (by kernel_rfl) ?_
  refine seq_nil ?_
  refine hK13 _ _ ?_
  try clear hK13 K13
  refine wp_seq_k fun K15 hK15 => ?_
  refine region_lit ?_
  have r6_7 := (row_ext r6_6 e7)
  have r6_10 := (row_ext (Puts.row p9 (row_ext r6_7 e8) (ne_of_old r6_7 l12)) e10)
  have r6_12 := (Puts.row p12 (row_ext (row_ext (Puts.row p9 (row_ext (row_ext r6_6 e7) e8) (ne_of_old r6_7 l12)) e10) e11) (ne_of_old r6_10 l14))
  refine seq_val (.agg (ints .u8 (b))) 31 rfl (by kernel_rfl) (run_load_row 23 _ g6 23 _ _ r6_12 rfl (by kernel_rfl) (by kernel_rfl) (isz (n := 32) (by kernel_rfl) ((ints_size _ _).trans hb))) ?_
  refine seq_call (.tuple #[.agg (cat [ints .i64 (lims (xK b)), ints .i64 (lims (zK b)), ints .i64 (lims (1))]), .bool (okK b)]) 12 #[.agg (ints .u8 (b))] 32 rfl (by kernel_rfl) (by kernel_rfl) ((rfromC b hb hbb) _) fun W13 e13 => ?_
  have x13 : Ext w W13 := Ext.tr x12 e13
  refine seq_val (.tuple #[.agg (cat [ints .i64 (lims (xK b)), ints .i64 (lims (zK b)), ints .i64 (lims (1))]), .bool (okK b)]) 30 rfl (by kernel_rfl) (by kernel_rfl) ?_
  refine seq_val (.agg (cat [ints .i64 (lims (xK b)), ints .i64 (lims (zK b)), ints .i64 (lims (1))])) 33 rfl (by kernel_rfl) (by kernel_rfl) ?_
  refine seq_val (.bool (okK b)) 34 rfl (by kernel_rfl) (by kernel_rfl) ?_
  refine seq_alloc (cat [ints .i64 (lims (0)), ints .i64 (lims (0)), ints .i64 (lims (0))]) 36 11 rfl (by kernel_rfl) (by kernel_rfl) fun g16 W14 l16 e14 r16_14 => ?_
  have x14 : Ext w W14 := Ext.tr x13 e14
  have b16 : w.heap.size ≤ g16 := Nat.le_trans x13.size l16
  refine seq_store g16 _ (cat [ints .i64 (lims (xK b)), ints .i64 (lims (zK b)), ints .i64 (lims (1))]) 36 r16_14 rfl (by kernel_rfl) (run_store_row 36 _ _ g16 36 _ _ r16_14 rfl (by kernel_rfl) (by kernel_rfl) (isz (n := 48) (by kernel_rfl) (by kernel_rfl)) (eqsz (n := 48) (by kernel_rfl) (by kernel_rfl)) (by kernel_rfl)) fun W15 p15 r16_15 => ?_
  have x15 : Ext w W15 := Puts.ext p15 x14 b16
  refine seq_val (.bool (okK b)) 12 rfl (by kernel_rfl) (by kernel_rfl) ?_
  refine seq_nil ?_
  refine hK15 _ _ ?_
  try clear hK15 K15
  refine wp_seq_k fun K17 hK17 => ?_
  refine wp_seq_k fun K18 hK18 => ?_
  refine region_lit ?_
  refine seq_val (.bool (okK a)) 35 rfl (by kernel_rfl) (by kernel_rfl) ?_
  refine seq_val (.bool (okK a)) 36 rfl (by kernel_rfl) (by kernel_rfl) ?_
  refine seq_val (.bool false) 37 rfl (by kernel_rfl) (run_eq (u := .bool (okK a != okK a)) (by kernel_rfl) (congrArg Value.bool (bne_self_eq_false _))) ?_
  refine seq_val (.bool false) 38 rfl (by kernel_rfl) (by kernel_rfl) ?_
  refine seq_val (.bool (okK b)) 39 rfl (by kernel_rfl) (by kernel_rfl) ?_
  refine seq_val (.bool (okK b)) 40 rfl (by kernel_rfl) (by kernel_rfl) ?_
  refine seq_val (.bool false) 41 rfl (by kernel_rfl) (run_eq (u := .bool (okK b != okK b)) (by kernel_rfl) (congrArg Value.bool (bne_self_eq_false _))) ?_
  refine seq_val (.bool false) 42 rfl (by kernel_rfl) (by kernel_rfl) ?_
  refine seq_nil ?_
  refine hK18 _ _ ?_
  try clear hK18 K18
  refine cond_false (by kernel_rfl) ?_
  refine wp_skip ?_
  refine hK17 _ _ ?_
  try clear hK17 K17
  refine wp_seq_k fun K19 hK19 => ?_
  refine any_region 29 [⟨none, [(5, none)]⟩, ⟨none, [(7, none)]⟩, ⟨none, [(43, some 0), (44, some 1)]⟩, ⟨none, [(45, some 2)]⟩, ⟨none, [(9, none)]⟩, ⟨none, [(11, none)]⟩, ⟨none, [(47, some 4), (48, some 5)]⟩, ⟨none, [(49, some 6)]⟩, ⟨none, [(46, some 3), (50, some 7)]⟩, ⟨none, [(51, some 8)]⟩, ⟨some (52, true), [(5, none), (52, some 9)]⟩, ⟨some (52, true), [(53, some 10), (52, some 9)]⟩, ⟨some (52, true), [(54, some 11), (52, some 9)]⟩, ⟨some (52, true), [(9, none), (52, some 9)]⟩, ⟨some (52, true), [(56, some 13), (52, some 9)]⟩, ⟨some (52, true), [(57, some 14), (52, some 9)]⟩, ⟨some (52, true), [(55, some 12), (58, some 15), (52, some 9)]⟩, ⟨none, [(52, some 9), (59, some 16)]⟩, ⟨none, [(60, some 17)]⟩, ⟨some (61, true), [(5, none), (61, some 18)]⟩, ⟨some (61, true), [(7, none), (61, some 18)]⟩, ⟨some (61, true), [(62, some 19), (63, some 20), (61, some 18)]⟩, ⟨some (61, true), [(9, none), (61, some 18)]⟩, ⟨some (61, true), [(65, some 22), (61, some 18)]⟩, ⟨some (61, true), [(11, none), (61, some 18)]⟩, ⟨some (61, true), [(67, some 24), (61, some 18)]⟩, ⟨some (61, true), [(66, some 23), (68, some 25), (61, some 18)]⟩, ⟨some (61, true), [(64, some 21), (69, some 26), (61, some 18)]⟩, ⟨none, [(61, some 18), (70, some 27)]⟩] (by kernel_rfl) (by kernel_rfl) fun F hF => ?_
  have r10_7 := (row_ext r10_6 e7)
  have r10_10 := (row_ext (Puts.row p9 (row_ext r10_7 e8) (ne_of_old r10_7 l12)) e10)
  have r10_13 := (row_ext (Puts.row p12 (row_ext r10_10 e11) (ne_of_old r10_10 l14)) e13)
  have r10_15 := (Puts.row p15 (row_ext (row_ext (Puts.row p12 (row_ext (row_ext (Puts.row p9 (row_ext (row_ext r10_6 e7) e8) (ne_of_old r10_7 l12)) e10) e11) (ne_of_old r10_10 l14)) e13) e14) (ne_of_old r10_13 l16))
  refine any_read (.agg (cat [numA (xK a), numA (lK a)])) (by kernel_rfl) (by kernel_rfl) (fun W hR => (run_load_row 30 _ g10 30 _ _ (row_ext (row_ext r10_15 (ext_drew _)) hR) rfl (by kernel_rfl) (by kernel_rfl) (isz (n := 8) (by kernel_rfl) (by kernel_rfl)))) ?_
  have r12_10 := (row_ext r12_9 e10)
  have r12_13 := (row_ext (Puts.row p12 (row_ext r12_10 e11) (ne_of_old r12_10 l14)) e13)
  have r12_15 := (Puts.row p15 (row_ext (row_ext (Puts.row p12 (row_ext (row_ext r12_9 e10) e11) (ne_of_old r12_10 l14)) e13) e14) (ne_of_old r12_13 l16))
  refine any_read (.agg (cat [numA (xK b), numA (lK b)])) (by kernel_rfl) (by kernel_rfl) (fun W hR => (run_load_row 30 _ g12 30 _ _ (row_ext (row_ext r12_15 (ext_drew _)) hR) rfl (by kernel_rfl) (by kernel_rfl) (isz (n := 8) (by kernel_rfl) (by kernel_rfl)))) ?_
  have r1_7 := (row_ext r1_6 e7)
  have r1_10 := (row_ext (Puts.row p9 (row_ext r1_7 e8) (ne_of_old r1_7 l12)) e10)
  have r1_13 := (row_ext (Puts.row p12 (row_ext r1_10 e11) (ne_of_old r1_10 l14)) e13)
  have r1_15 := (Puts.row p15 (row_ext (row_ext (Puts.row p12 (row_ext (row_ext (Puts.row p9 (row_ext (row_ext r1_6 e7) e8) (ne_of_old r1_7 l12)) e10) e11) (ne_of_old r1_10 l14)) e13) e14) (ne_of_old r1_13 l16))
  refine any_call (.agg (cat [numA (((paddF (xK a) (lK a) (xK b) (lK b)).1)), numA (((paddF (xK a) (lK a) (xK b) (lK b)).2))])) 15 #[.agg (cat [numA (xK a), numA (lK a)]), .agg (cat [numA (xK b), numA (lK b)])] (by kernel_rfl) (by kernel_rfl) (fun W => by kernel_rfl) (fun W hR => paddC (xK a) (lK a) (xK b) (lK b) (xK_isN a) (lK_isN a) (xK_isN b) (lK_isN b) W tB (row_ext (row_ext r1_15 (ext_drew _)) hR)) ?_
  refine any_call (.agg (ints .u8 (sumK a b))) 13 #[.agg (cat [numA (((paddF (xK a) (lK a) (xK b) (lK b)).1)), numA (((paddF (xK a) (lK a) (xK b) (lK b)).2))])] (by kernel_rfl) (by kernel_rfl) (fun W => by kernel_rfl) (fun W hR => (sumB a b) W) ?_
  have r14_13 := (row_ext r14_12 e13)
  have r14_15 := (Puts.row p15 (row_ext (row_ext r14_12 e13) e14) (ne_of_old r14_13 l16))
  refine any_read (.agg (cat [ints .i64 (lims (xK a)), ints .i64 (lims (zK a)), ints .i64 (lims (1))])) (by kernel_rfl) (by kernel_rfl) (fun W hR => (run_load_row 36 _ g14 36 _ _ (row_ext (row_ext r14_15 (ext_drew _)) hR) rfl (by kernel_rfl) (by kernel_rfl) (isz (n := 48) (by kernel_rfl) (by kernel_rfl)))) ?_
  refine any_read (.agg (cat [ints .i64 (lims (xK b)), ints .i64 (lims (zK b)), ints .i64 (lims (1))])) (by kernel_rfl) (by kernel_rfl) (fun W hR => (run_load_row 36 _ g16 36 _ _ (row_ext (row_ext r16_15 (ext_drew _)) hR) rfl (by kernel_rfl) (by kernel_rfl) (isz (n := 48) (by kernel_rfl) (by kernel_rfl)))) ?_
  refine any_call (.agg (cat [ints .i64 (lims ((raddF (xK a) (zK a) 1 (xK b) (zK b) 1).1)), ints .i64 (lims ((raddF (xK a) (zK a) 1 (xK b) (zK b) 1).2.1)), ints .i64 (lims ((raddF (xK a) (zK a) 1 (xK b) (zK b) 1).2.2))])) 16 #[.agg (cat [ints .i64 (lims (xK a)), ints .i64 (lims (zK a)), ints .i64 (lims (1))]), .agg (cat [ints .i64 (lims (xK b)), ints .i64 (lims (zK b)), ints .i64 (lims (1))])] (by kernel_rfl) (by kernel_rfl) (fun W => by kernel_rfl) (fun W hR => (raddC (xK a) (zK a) 1 (xK b) (zK b) 1 (xK_isN a) (zK_isN a) (num_isN 1) (xK_isN b) (zK_isN b) (num_isN 1)) W) ?_
  refine any_call (.agg (ints .u8 (sumK a b))) 14 #[.agg (cat [ints .i64 (lims ((raddF (xK a) (zK a) 1 (xK b) (zK b) 1).1)), ints .i64 (lims ((raddF (xK a) (zK a) 1 (xK b) (zK b) 1).2.1)), ints .i64 (lims ((raddF (xK a) (zK a) 1 (xK b) (zK b) 1).2.2))])] (by kernel_rfl) (by kernel_rfl) (fun W => by kernel_rfl) (fun W hR => (rsumB a b) W) ?_
  refine any_val (.bool true) (by kernel_rfl) (by kernel_rfl) (fun W => (run_eql_agg 23 _ _ _ _ _ (.bool true) rfl (by kernel_rfl) (by kernel_rfl) (by kernel_rfl) (key_eql (sumK a b) (sumK a b) true (sumK_len a b) (sumK_len a b) (decide_eq_true rfl) _))) ?_
  refine any_val (.bool true) (by kernel_rfl) (by kernel_rfl) (fun W => by kernel_rfl) ?_
  refine any_read (.agg (cat [numA (xK a), numA (lK a)])) (by kernel_rfl) (by kernel_rfl) (fun W hR => (run_load_row 30 _ g10 30 _ _ (row_ext (row_ext r10_15 (ext_drew _)) hR) rfl (by kernel_rfl) (by kernel_rfl) (isz (n := 8) (by kernel_rfl) (by kernel_rfl)))) ?_
  refine any_call (.agg (cat [numA (((pngPF (xK a) (lK a)).1)), numA (((pngPF (xK a) (lK a)).2))])) 17 #[.agg (cat [numA (xK a), numA (lK a)])] (by kernel_rfl) (by kernel_rfl) (fun W => by kernel_rfl) (fun W hR => (pngPC (xK a) (lK a) (xK_isN a) (lK_isN a)) W) ?_
  refine any_call (.agg (ints .u8 (negK a))) 13 #[.agg (cat [numA (((pngPF (xK a) (lK a)).1)), numA (((pngPF (xK a) (lK a)).2))])] (by kernel_rfl) (by kernel_rfl) (fun W => by kernel_rfl) (fun W hR => (negB a) W) ?_
  refine any_read (.agg (cat [ints .i64 (lims (xK a)), ints .i64 (lims (zK a)), ints .i64 (lims (1))])) (by kernel_rfl) (by kernel_rfl) (fun W hR => (run_load_row 36 _ g14 36 _ _ (row_ext (row_ext r14_15 (ext_drew _)) hR) rfl (by kernel_rfl) (by kernel_rfl) (isz (n := 48) (by kernel_rfl) (by kernel_rfl)))) ?_
  refine any_call (.agg (cat [ints .i64 (lims ((rnegF (xK a) (zK a) 1).1)), ints .i64 (lims ((rnegF (xK a) (zK a) 1).2.1)), ints .i64 (lims ((rnegF (xK a) (zK a) 1).2.2))])) 18 #[.agg (cat [ints .i64 (lims (xK a)), ints .i64 (lims (zK a)), ints .i64 (lims (1))])] (by kernel_rfl) (by kernel_rfl) (fun W => by kernel_rfl) (fun W hR => (rnegC (xK a) (zK a) 1 (xK_isN a) (zK_isN a) (num_isN 1)) W) ?_
  refine any_call (.agg (ints .u8 (negK a))) 14 #[.agg (cat [ints .i64 (lims ((rnegF (xK a) (zK a) 1).1)), ints .i64 (lims ((rnegF (xK a) (zK a) 1).2.1)), ints .i64 (lims ((rnegF (xK a) (zK a) 1).2.2))])] (by kernel_rfl) (by kernel_rfl) (fun W => by kernel_rfl) (fun W hR => (rnegB a) W) ?_
  refine any_val (.bool true) (by kernel_rfl) (by kernel_rfl) (fun W => (run_eql_agg 23 _ _ _ _ _ (.bool true) rfl (by kernel_rfl) (by kernel_rfl) (by kernel_rfl) (key_eql (negK a) (negK a) true (negK_len a) (negK_len a) (decide_eq_true rfl) _))) ?_
  refine any_val (.bool true) (by kernel_rfl) (by kernel_rfl) (fun W => by kernel_rfl) ?_
  refine any_val (.bool true) (by kernel_rfl) (by kernel_rfl) (fun W => by kernel_rfl) ?_
  refine any_read (.agg (cat [numA (xK a), numA (lK a)])) (by kernel_rfl) (by kernel_rfl) (fun W hR => (run_load_row 30 _ g10 30 _ _ (row_ext (row_ext r10_15 (ext_drew _)) hR) rfl (by kernel_rfl) (by kernel_rfl) (isz (n := 8) (by kernel_rfl) (by kernel_rfl)))) ?_
  refine any_read (.agg (cat [numA (xK b), numA (lK b)])) (by kernel_rfl) (by kernel_rfl) (fun W hR => (run_load_row 30 _ g12 30 _ _ (row_ext (row_ext r12_15 (ext_drew _)) hR) rfl (by kernel_rfl) (by kernel_rfl) (isz (n := 8) (by kernel_rfl) (by kernel_rfl)))) ?_
  refine any_call (.bool (xK a == xK b && lK a == lK b)) 19 #[.agg (cat [numA (xK a), numA (lK a)]), .agg (cat [numA (xK b), numA (lK b)])] (by kernel_rfl) (by kernel_rfl) (fun W => by kernel_rfl) (fun W hR => (pequalC (xK a) (lK a) (xK b) (lK b) (xK_isN a) (lK_isN a) (xK_isN b) (lK_isN b)) W) ?_
  refine any_read (.agg (cat [ints .i64 (lims (xK a)), ints .i64 (lims (zK a)), ints .i64 (lims (1))])) (by kernel_rfl) (by kernel_rfl) (fun W hR => (run_load_row 36 _ g14 36 _ _ (row_ext (row_ext r14_15 (ext_drew _)) hR) rfl (by kernel_rfl) (by kernel_rfl) (isz (n := 48) (by kernel_rfl) (by kernel_rfl)))) ?_
  refine any_call (.agg (ints .u8 (encK a))) 14 #[.agg (cat [ints .i64 (lims (xK a)), ints .i64 (lims (zK a)), ints .i64 (lims (1))])] (by kernel_rfl) (by kernel_rfl) (fun W => by kernel_rfl) (fun W hR => (rbytesK a) W) ?_
  refine any_read (.agg (cat [ints .i64 (lims (xK b)), ints .i64 (lims (zK b)), ints .i64 (lims (1))])) (by kernel_rfl) (by kernel_rfl) (fun W hR => (run_load_row 36 _ g16 36 _ _ (row_ext (row_ext r16_15 (ext_drew _)) hR) rfl (by kernel_rfl) (by kernel_rfl) (isz (n := 48) (by kernel_rfl) (by kernel_rfl)))) ?_
  refine any_call (.agg (ints .u8 (encK b))) 14 #[.agg (cat [ints .i64 (lims (xK b)), ints .i64 (lims (zK b)), ints .i64 (lims (1))])] (by kernel_rfl) (by kernel_rfl) (fun W => by kernel_rfl) (fun W hR => (rbytesK b) W) ?_
  refine any_val (.bool (decide (encK a = encK b))) (by kernel_rfl) (by kernel_rfl) (fun W => (run_eql_agg 23 _ _ _ _ _ (.bool (decide (encK a = encK b))) rfl (by kernel_rfl) (by kernel_rfl) (by kernel_rfl) (key_eql (encK a) (encK b) (decide (encK a = encK b)) (enc_len _ _) (enc_len _ _) rfl _))) ?_
  refine any_val (.bool true) (by kernel_rfl) (by kernel_rfl) (fun W => (run_eq (u := .bool ((xK a == xK b && lK a == lK b) == decide (encK a = encK b))) (by kernel_rfl) (congrArg Value.bool (by rw [equal_same]; exact beq_self_eq_true _)))) ?_
  refine any_val (.bool true) (by kernel_rfl) (by kernel_rfl) (fun W => by kernel_rfl) ?_
  refine steps_nil (hF _ (by kernel_rfl) fun W16 e16 => ?_)
  simp only [ups, up, Kn.val, List.take_succ_cons, List.take_zero, List.drop_succ_cons, List.drop_zero, List.nil_append, List.cons_append]
  clear hF
  have x16 : Ext w W16 := Ext.tr x15 e16
  refine seq_val (.bool true) 4 rfl (by kernel_rfl) (by kernel_rfl) ?_
  refine seq_nil ?_
  refine hK19 _ _ ?_
  try clear hK19 K19
  refine wp_ret ?_
  exact (show bodyPost _ _ _ .ret _ _ from ret1 (.bool true) rfl (res_tmp (by kernel_rfl)) ⟨rfl, x16⟩)

end Go.Proofs.YtaojnmjmmfdfjaaDoor.Field
