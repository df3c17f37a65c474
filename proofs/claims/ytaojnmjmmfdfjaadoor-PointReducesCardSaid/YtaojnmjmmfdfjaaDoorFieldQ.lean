/- Merged: RefA, RefB, RefC, RefD, RefE, RefF, RefG, RefHA, LawKitA, PowA, PowB, PowC, PowD, PowE, PowF, PowG, PowH, RootA, RootB, RootC, RootD, RootE, BitsB. -/
import Derived.Test.YtaojnmjmmfdfjaaDoorBase
import Derived.Test.YtaojnmjmmfdfjaaDoorFieldP

/-! The document's numbers: less, and at least. -/
section
namespace Go.Proofs.YtaojnmjmmfdfjaaDoor.Field
open Go Go.RowKit
open Go.Proofs.YtaojnmjmmfdfjaaDoor.Rely
set_option linter.unusedVariables false

/-- a number of the document's as a value -/
def lnum (n : Int) : Value := .agg (ints .i64 (lims n))
def big : Int := 115792089237316195423570985008687907853269984665640564039457584007913129639936
theorem big_pow : (65536 : Int) ^ 16 = big := by decide
theorem infoL (xs : List Int) (h : xs.length = 16) : (Tryd.prog.info? 34).map (·.size) = some (ints .i64 xs).size := by
  rw [ints_size, h]
  kernel_rfl
def lessG (x y : Int) (i : Nat) : Int := limb x i - limb y i
theorem pvf_sub (g h : Nat → Int) : ∀ k, pvf (fun i => g i - h i) k = pvf g k - pvf h k
  | 0 => rfl
  | k + 1 => by simp only [pvf]; rw [pvf_sub g h k, Int.sub_mul]; omega
theorem lessG_val (x y : Int) (hx : 0 ≤ x ∧ x < big) (hy : 0 ≤ y ∧ y < big) : pvf (lessG x y) 16 = x - y := by
  have h : pvf (lessG x y) 16 = pvf (limb x) 16 - pvf (limb y) 16 := pvf_sub _ _ _
  rw [h, pvf_limb, pvf_limb, big_pow, Int.emod_eq_of_lt hx.1 hx.2, Int.emod_eq_of_lt hy.1 hy.2]
theorem lessG_cr (x y : Int) : ∀ k, cr (lessG x y) k = 0 ∨ cr (lessG x y) k = -1
  | 0 => .inl (cr_zero _)
  | k + 1 => by
    rw [← cr_step]
    have := limb_range x k
    have := limb_range y k
    have h := lessG_cr x y k
    unfold lessG at *
    omega
theorem small_i64 (n : Int) (h : -4611686018427387904 ≤ n ∧ n ≤ 4611686018427387904) : IntKind.i64.wrap n = n := IntWalk.i64_in _ (by omega)
/-- a round of the difference -/
theorem less_round (x y : Int) (k : Nat) (hk : k < 16) (e : pvf (lessG x y) 16 = x - y) :
    (limb x k - limb y k - -(cr (lessG x y) k) < 0 → limb x k - limb y k - -(cr (lessG x y) k) + 65536 = limb (x - y) k ∧ (1 : Int) = -(cr (lessG x y) (k + 1))) ∧
    (¬ limb x k - limb y k - -(cr (lessG x y) k) < 0 → limb x k - limb y k - -(cr (lessG x y) k) = limb (x - y) k ∧ (0 : Int) = -(cr (lessG x y) (k + 1))) := by
  have h1 := carry_limb (lessG x y) k 16 hk
  have h2 := cr_step (lessG x y) k
  have h3 := limb_range x k
  have h4 := limb_range y k
  have h5 := lessG_cr x y k
  rw [e] at h1
  unfold lessG at *
  generalize limb (x - y) k = r at *
  generalize cr (fun i => limb x i - limb y i) k = c at *
  omega

theorem minus (x y : Int) (hy : 0 ≤ y) (hxy : y ≤ x) (hx : x < big) (w : World) : Calls Tryd.prog 70 #[lnum x, lnum y] w (Ret w (lnum (x - y))) := by
  have e := lessG_val x y (by omega) (by omega)
  unfold lnum
  go_enter Tryd.func70, Tryd.ntmps70
  go_wp2_with fail
  go_loopw [5, 6] (fun c i wr => ∃ k : Nat, k ≤ 16 ∧ i = .int .i64 k ∧ c = .int .i64 (-(cr (lessG x y) k)) ∧ Ext w wr ∧ wr.heap[w.heap.size]? = some (.cells (ints .i64 (mix 16 (limb (x - y)) (limb x) k)) 34) ∧
      wr.heap[w.heap.size + 1]? = some (.cells (ints .i64 (lims y)) 34) ∧ ∃ b, b.size = 16 ∧ wr.heap[w.heap.size + 1 + 1]? = some (.cells b 34)) (fun _ i _ => 16 - (intOf i).toNat)
  case atStart => exact ⟨0, by omega, rfl, by rw [cr_zero]; rfl, ext3 _ _ _ _, by rw [mix_none]; exact alloc3_fst _ _ _ _, alloc3_mid _ _ _ _, _, rfl, alloc3_new _ _ _ _⟩
  case round =>
    obtain ⟨k, hk, rfl, rfl, he, hA, hB, b, hbs, hC⟩ := hrel
    by_cases hlt : k < 16
    · have hX : (ints .i64 (mix 16 (limb (x - y)) (limb x) k))[k]? = some (.int .i64 (limb x k)) := by rw [ints_get _ _ _ (by rw [mix_len]; exact hlt), mix_nth _ _ _ _ _ hlt, if_neg (by omega)]
      have hY : (ints .i64 (lims y))[k]? = some (.int .i64 (limb y k)) := by rw [ints_get _ _ _ (by rw [lims_len]; exact hlt), lims_nth _ _ hlt]
      have hS : (ints .i64 (mix 16 (limb (x - y)) (limb x) k)).setIfInBounds k (.int .i64 (limb (x - y) k)) = ints .i64 (mix 16 (limb (x - y)) (limb x) (k + 1)) := by rw [ints_set, mix_set _ _ _ _ hlt]
      have HR := Lib.hid (less_round x y k hlt e)
      have h3 := limb_range x k
      have h4 := limb_range y k
      have h5 := lessG_cr x y k
      generalize hc : cr (lessG x y) k = c at *
      generalize hc' : cr (lessG x y) (k + 1) = c' at *
      generalize hlx : limb x k = lx at *
      generalize hly : limb y k = ly at *
      have w1 : IntKind.i64.wrap (lx - ly) = lx - ly := IntWalk.i64_in _ (by omega)
      have w2 : IntKind.i64.wrap (lx - ly - -c) = lx - ly - -c := IntWalk.i64_in _ (by omega)
      have w3 : lx - ly - -c < 0 → IntKind.i64.wrap (lx - ly - -c + 65536) = lx - ly - -c + 65536 := fun h => IntWalk.i64_in _ (by omega)
      have HX : Hid (∀ W, Ext wr.drew W → W.cell? ⟨w.heap.size, k, none⟩ = some (.int .i64 lx)) := Lib.hid fun W hR => row_cell (row_ext (row_ext hA (ext_drew _)) hR) hX
      have HY : Hid (∀ W, Ext wr.drew W → W.cell? ⟨w.heap.size + 1, k, none⟩ = some (.int .i64 ly)) := Lib.hid fun W hR => row_cell (row_ext (row_ext hB (ext_drew _)) hR) hY
      go_wp2
      refine wp_region_rely Ext 9 29 [⟨none, [(6, none)]⟩, ⟨none, [(2, none), (12, some 0)]⟩, ⟨none, [(13, some 1)]⟩, ⟨none, [(6, none)]⟩, ⟨none, [(3, none), (15, some 3)]⟩, ⟨none, [(16, some 4)]⟩, ⟨none, [(14, some 2), (17, some 5)]⟩, ⟨none, [(5, none)]⟩, ⟨none, [(18, some 6), (19, some 7)]⟩] (by kernel_rfl) (by kernel_rfl) rfl Ext.refl Ext.trans (fun F r0 hr hF => ?_)
      have f2 : r0 2 = .pointer (some ⟨w.heap.size, 0, none⟩) := by rw [hr]; rfl
      have f3 : r0 3 = .pointer (some ⟨w.heap.size + 1, 0, none⟩) := by rw [hr]; rfl
      have f5 : r0 5 = .int .i64 (-c) := by rw [hr]; rfl
      have f6 : r0 6 = .int .i64 k := by rw [hr]; rfl
      clear hr
      simp only [List.take_succ_cons, List.take_zero]
      repeat
        (try simp only [List.cons_append, List.nil_append]
         apply step_const
         (intro ρ W hR hh
          have hcx := HX.out W hR
          have hcy := HY.out W hR
          simp only [Holds, List.getD_cons_zero, List.getD_cons_succ, f2, f3, f5, f6] at hh
          simp only [guarded, relyAt]
          go_simp
          first
            | exact ⟨Ext.refl _, rfl⟩
            | exact Ext.refl _))
      simp only [List.cons_append, List.nil_append]
      refine hF.out fun W hRW => ?_
      simp only [List.take_succ_cons, List.take_zero, List.drop_succ_cons, List.drop_zero, fin, forall_eq, Act.put, List.setIfInBounds_toArray, List.set_cons_zero, List.set_cons_succ]
      clear HX HY hF f2 f3 f5 f6
      have hE := Ext.trans (ext_drew wr) hRW
      have hA' := row_ext hA hE
      have hB' := row_ext hB hE
      have hC' := row_ext hC hE
      have hcx := row_cell hA' hX
      have hfx := row_frozen hA' k
      go_wp2
      all_goals
        have hR := HR.out
        clear HR
        refine ⟨⟨k + 1, by omega, by go_num, ?_, ext_set (Ext.trans he hE) (Nat.le_refl _) _ _, (set_row _ _ hA').trans ?_, (set_row_other _ _ (by omega)).trans hB', b, hbs, (set_row_other _ _ (by omega)).trans hC'⟩, by simp [intOf]; omega⟩
      · rw [hc', (hR.1 (by omega)).2]
      · rw [show lx - ly + c + 65536 = limb (x - y) k by have := (hR.1 (by omega)).1; omega, hS]
      · rw [hc', (hR.2 (by omega)).2]
      · rw [show lx - ly + c = limb (x - y) k by have := (hR.2 (by omega)).1; omega, hS]
    · obtain rfl : k = 16 := by omega
      go_wp2_with first
        | (with_reducible show wpList _ _ _ ((⟨_, .load 34 _, _, _, _, _⟩ : Oper) :: _) _ _
           refine wpList_load_row rfl 34 _ rfl w.heap.size rfl 34 _ (0, 0) _ hA Tryd.underlying34 rfl (infoL _ (mix_len _ _ _ _)) ?_)
        | (with_reducible show wpList _ _ _ ((⟨_, .store 34 _ _, _, _, _, _⟩ : Oper) :: _) _ _
           refine wpList_store_row rfl 34 _ _ rfl (w.heap.size + 1 + 1) _ rfl rfl 34 _ hC (infoL _ (mix_len _ _ _ _)) (by rw [hbs, ints_size, mix_len]) (ints_one _ _) ?_)
      exact bodyPost_ret (results_cell_row (p := 4) rfl _ _ (w.heap.size + 1 + 1) 34 _ (0, 0) _ rfl (setRow_heap _ _ _ _ _ _ hC) Tryd.underlying34 rfl (infoL _ (mix_len _ _ _ _))) rfl ⟨by rw [mix_full _ _ _ _ (Nat.le_refl _)]; rfl, ext_setRow he (by omega) _⟩
end Go.Proofs.YtaojnmjmmfdfjaaDoor.Field
end

/-! The document's numbers: the prime, and which number is at least another one. -/
section
namespace Go.Proofs.YtaojnmjmmfdfjaaDoor.Field
open Go Go.RowKit
open Go.Proofs.YtaojnmjmmfdfjaaDoor.Rely
set_option linter.unusedVariables false

theorem prime (w : World) : Calls Tryd.prog 67 #[] w (Ret w (lnum p)) := by
  have e0 : lims p = [65517, 65535, 65535, 65535, 65535, 65535, 65535, 65535, 65535, 65535, 65535, 65535, 65535, 65535, 65535, 32767] := by decide +kernel
  have e : ints .i64 (lims p) = #[.int .i64 65517, .int .i64 65535, .int .i64 65535, .int .i64 65535, .int .i64 65535, .int .i64 65535, .int .i64 65535, .int .i64 65535, .int .i64 65535, .int .i64 65535, .int .i64 65535, .int .i64 65535, .int .i64 65535, .int .i64 65535, .int .i64 65535, .int .i64 32767] := by
    rw [e0]; rfl
  have hi := infoL (lims p) (lims_len p)
  unfold lnum
  rw [e]
  rw [e] at hi
  clear e e0
  go_enter Tryd.func67, Tryd.ntmps67
  go_wp2_with fail
  exact bodyPost_ret (results_cell_row (p := 0) rfl _ _ w.heap.size 34 _ (0, 0) _ rfl (heap_alloc_new _ _) Tryd.underlying34 rfl hi) rfl ⟨rfl, ext_alloc _ _⟩

theorem pvf_high (g : Nat → Int) (k : Nat) : ∀ n, k ≤ n → (∀ j, k ≤ j → j < n → g j = 0) → pvf g n = pvf g k
  | 0, h, _ => by obtain rfl : k = 0 := by omega
                  rfl
  | n + 1, h, hz => by
    rcases Nat.lt_or_ge n k with h1 | h1
    · obtain rfl : k = n + 1 := by omega
      rfl
    · rw [pvf, hz n h1 (by omega), pvf_high g k n h1 fun j a b => hz j a (by omega)]
      simp
theorem lessG_low (x y : Int) (k : Nat) : -(65536 ^ k) < pvf (lessG x y) k ∧ pvf (lessG x y) k < 65536 ^ k := by
  have h : pvf (lessG x y) k = pvf (limb x) k - pvf (limb y) k := pvf_sub _ _ _
  have hp := B_pos k
  have h1 := Int.emod_nonneg x (Int.ne_of_gt hp)
  have h2 := Int.emod_lt_of_pos x hp
  have h3 := Int.emod_nonneg y (Int.ne_of_gt hp)
  have h4 := Int.emod_lt_of_pos y hp
  rw [h, pvf_limb, pvf_limb]
  omega
theorem top_differs (x y : Int) (hx : 0 ≤ x ∧ x < big) (hy : 0 ≤ y ∧ y < big) (k : Nat) (hk : k < 16) (hi : ∀ j, k + 1 ≤ j → j < 16 → limb x j = limb y j) (hd : limb x k ≠ limb y k) :
    decide (limb x k > limb y k) = decide (y ≤ x) := by
  have e := lessG_val x y hx hy
  rw [pvf_high (lessG x y) (k + 1) 16 (by omega) fun j a b => by unfold lessG; rw [hi j a b]; omega, pvf] at e
  have hl := lessG_low x y k
  have hp := B_pos k
  refine decide_eq_decide.2 ⟨fun h => ?_, fun h => ?_⟩
  · have h1 : 1 * 65536 ^ k ≤ lessG x y k * 65536 ^ k := Int.mul_le_mul_of_nonneg_right (by unfold lessG; omega) (Int.le_of_lt hp)
    omega
  · rcases (by omega : limb x k > limb y k ∨ limb x k < limb y k) with h0 | h0
    · exact h0
    · have h1 : lessG x y k * 65536 ^ k ≤ -1 * 65536 ^ k := Int.mul_le_mul_of_nonneg_right (by unfold lessG; omega) (Int.le_of_lt hp)
      omega
theorem same_all (x y : Int) (hx : 0 ≤ x ∧ x < big) (hy : 0 ≤ y ∧ y < big) (hi : ∀ j, 0 ≤ j → j < 16 → limb x j = limb y j) : x = y := by
  have e := lessG_val x y hx hy
  rw [pvf_high (lessG x y) 0 16 (by omega) fun j a b => by unfold lessG; rw [hi j (by omega) b]; omega, pvf] at e
  omega

theorem atLeast (x y : Int) (hx : 0 ≤ x ∧ x < big) (hy : 0 ≤ y ∧ y < big) (w : World) : Calls Tryd.prog 75 #[lnum x, lnum y] w (Ret w (.bool (decide (y ≤ x)))) := by
  unfold lnum
  go_enter Tryd.func75, Tryd.ntmps75
  go_wp2_with fail
  go_loopw [5] (fun i wr => ∃ k : Nat, k ≤ 16 ∧ i = .int .i64 ((k : Int) - 1) ∧ (∀ j, k ≤ j → j < 16 → limb x j = limb y j) ∧ Ext w wr ∧ wr.heap[w.heap.size]? = some (.cells (ints .i64 (lims x)) 34) ∧
      wr.heap[w.heap.size + 1]? = some (.cells (ints .i64 (lims y)) 34)) (fun i _ => (intOf i + 1).toNat)
  case atStart => exact ⟨16, by omega, rfl, fun j h1 h2 => by omega, Ext.trans (ext_alloc _ _) (ext_alloc _ _), by rw [Below.heap_alloc _ _ _ (by simp)]; exact heap_alloc_new _ _, by have := heap_alloc_new (w.alloc (.cells (ints .i64 (lims x)) 34)) (.cells (ints .i64 (lims y)) 34); simpa using this⟩
  case round =>
    obtain ⟨k, hk, rfl, hi, he, hA, hB⟩ := hrel
    rcases k with _ | j
    · have e := same_all x y hx hy hi
      go_wp2
      exact bodyPost_ret (results_tmp rfl _ _ _) rfl ⟨by rw [e]; simp, he⟩
    · have hlt : j < 16 := by omega
      have q0 : (0 : Int) ≤ (j : Int) := by omega
      have q1 : (j : Int) < 16 := by omega
      have hX : (ints .i64 (lims x))[j]? = some (.int .i64 (limb x j)) := by rw [ints_get _ _ _ (by rw [lims_len]; exact hlt), lims_nth _ _ hlt]
      have hY : (ints .i64 (lims y))[j]? = some (.int .i64 (limb y j)) := by rw [ints_get _ _ _ (by rw [lims_len]; exact hlt), lims_nth _ _ hlt]
      rw [show ((j + 1 : Nat) : Int) - 1 = (j : Int) by omega]
      have HT := Lib.hid (top_differs x y hx hy j hlt hi)
      have HI := Lib.hid hi
      clear hi
      generalize hlx : limb x j = lx at *
      generalize hly : limb y j = ly at *
      have HX : Hid (∀ W, Ext wr.drew W → W.cell? ⟨w.heap.size, j, none⟩ = some (.int .i64 lx)) := Lib.hid fun W hR => row_cell (row_ext (row_ext hA (ext_drew _)) hR) hX
      have HY : Hid (∀ W, Ext wr.drew W → W.cell? ⟨w.heap.size + 1, j, none⟩ = some (.int .i64 ly)) := Lib.hid fun W hR => row_cell (row_ext (row_ext hB (ext_drew _)) hR) hY
      go_wp2
      refine wp_region_rely Ext 6 24 [⟨none, [(5, none)]⟩, ⟨none, [(2, none), (10, some 0)]⟩, ⟨none, [(11, some 1)]⟩, ⟨none, [(5, none)]⟩, ⟨none, [(3, none), (13, some 3)]⟩, ⟨none, [(14, some 4)]⟩] (by kernel_rfl) (by kernel_rfl) rfl Ext.refl Ext.trans (fun F r0 hr hF => ?_)
      have f2 : r0 2 = .pointer (some ⟨w.heap.size, 0, none⟩) := by rw [hr]; rfl
      have f3 : r0 3 = .pointer (some ⟨w.heap.size + 1, 0, none⟩) := by rw [hr]; rfl
      have f5 : r0 5 = .int .i64 j := by rw [hr]; rfl
      clear hr
      simp only [List.take_succ_cons, List.take_zero]
      repeat
        (try simp only [List.cons_append, List.nil_append]
         apply step_const
         (intro ρ W hR hh
          have hcx := HX.out W hR
          have hcy := HY.out W hR
          simp only [Holds, List.getD_cons_zero, List.getD_cons_succ, f2, f3, f5] at hh
          simp only [guarded, relyAt]
          go_simp
          first
            | exact ⟨Ext.refl _, rfl⟩
            | exact Ext.refl _))
      simp only [List.cons_append, List.nil_append]
      refine hF.out fun W hRW => ?_
      simp only [List.take_succ_cons, List.take_zero, List.drop_succ_cons, List.drop_zero, fin, forall_eq, Act.put, List.setIfInBounds_toArray, List.set_cons_zero, List.set_cons_succ]
      clear HX HY hF f2 f3 f5
      have hE := Ext.trans (ext_drew wr) hRW
      have hA' := row_ext hA hE
      have hB' := row_ext hB hE
      have HX : Hid (∀ V, Ext W.drew V → V.cell? ⟨w.heap.size, j, none⟩ = some (.int .i64 lx)) := Lib.hid fun V hR => row_cell (row_ext (row_ext hA' (ext_drew _)) hR) hX
      have HY : Hid (∀ V, Ext W.drew V → V.cell? ⟨w.heap.size + 1, j, none⟩ = some (.int .i64 ly)) := Lib.hid fun V hR => row_cell (row_ext (row_ext hB' (ext_drew _)) hR) hY
      go_wp2
      · have hne : lx ≠ ly := by
          have h : (lx != ly) = true := by assumption
          simpa using h
        refine wp_region_rely Ext 7 24 [⟨none, [(5, none)]⟩, ⟨none, [(2, none), (17, some 0)]⟩, ⟨none, [(18, some 1)]⟩, ⟨none, [(5, none)]⟩, ⟨none, [(3, none), (20, some 3)]⟩, ⟨none, [(21, some 4)]⟩, ⟨none, [(19, some 2), (22, some 5)]⟩] (by kernel_rfl) (by kernel_rfl) rfl Ext.refl Ext.trans (fun F r0 hr hF => ?_)
        have f2 : r0 2 = .pointer (some ⟨w.heap.size, 0, none⟩) := by rw [hr]; rfl
        have f3 : r0 3 = .pointer (some ⟨w.heap.size + 1, 0, none⟩) := by rw [hr]; rfl
        have f5 : r0 5 = .int .i64 j := by rw [hr]; rfl
        clear hr
        simp only [List.take_succ_cons, List.take_zero]
        repeat
          (try simp only [List.cons_append, List.nil_append]
           apply step_const
           (intro ρ V hR hh
            have hcx := HX.out V hR
            have hcy := HY.out V hR
            simp only [Holds, List.getD_cons_zero, List.getD_cons_succ, f2, f3, f5] at hh
            simp only [guarded, relyAt]
            go_simp
            first
              | exact ⟨Ext.refl _, rfl⟩
              | exact Ext.refl _))
        simp only [List.cons_append, List.nil_append]
        refine hF.out fun V hRV => ?_
        simp only [List.take_succ_cons, List.take_zero, List.drop_succ_cons, List.drop_zero, fin, forall_eq, Act.put, List.setIfInBounds_toArray, List.set_cons_zero, List.set_cons_succ]
        go_wp2
        exact bodyPost_ret (results_tmp rfl _ _ _) rfl ⟨by rw [← HT.out hne]; rfl, Ext.trans (Ext.trans (Ext.trans he hE) (ext_drew _)) hRV⟩
      · have heq : lx = ly := by
          first
            | (have h : (lx != ly) = false := by assumption
               simpa using h)
            | (have h : ¬ ((lx != ly) = true) := by assumption
               simpa using h)
        refine ⟨⟨j, by omega, rfl, fun i h1 h2 => ?_, Ext.trans he hE, hA', hB'⟩, by simp [intOf]⟩
        rcases (by omega : i = j ∨ j + 1 ≤ i) with rfl | h
        · rw [hlx, hly]; exact heq
        · exact HI.out i h h2
end Go.Proofs.YtaojnmjmmfdfjaaDoor.Field
end

/-! The document's numbers: the reduction of parts of any size. -/
section
namespace Go.Proofs.YtaojnmjmmfdfjaaDoor.Field
open Go Go.RowKit
open Go.Proofs.YtaojnmjmmfdfjaaDoor.Rely
set_option linter.unusedVariables false

/-- n after r rounds -/
def it : Nat → Int → Int
  | 0, n => n
  | r + 1, n => foldV (it r n)
theorem it_range (n : Int) (h : 0 ≤ n ∧ n < 65536 ^ 32) (r : Nat) (hr : r < 4) : 0 ≤ it r n ∧ it r n < 65536 ^ 32 := by
  have f := four n h
  rcases (by omega : r = 0 ∨ r = 1 ∨ r = 2 ∨ r = 3) with rfl | rfl | rfl | rfl
  · exact h
  · exact ⟨f.1, f.2.1⟩
  · exact ⟨f.2.2.1, f.2.2.2.1⟩
  · exact ⟨f.2.2.2.2.1, f.2.2.2.2.2.1⟩
theorem it_four (n : Int) (h : 0 ≤ n ∧ n < 65536 ^ 32) : 0 ≤ it 4 n ∧ it 4 n < 65536 ^ 16 ∧ it 4 n % 57896044618658097711785492504343953926634992332820282019728792003956564819949 = n % 57896044618658097711785492504343953926634992332820282019728792003956564819949 := by
  have f := four n h
  exact ⟨f.2.2.2.2.2.2.1, f.2.2.2.2.2.2.2.1, f.2.2.2.2.2.2.2.2⟩
/-- the places while they are folded -/
def fmix (S : Int) (k : Nat) : List Int := (List.range 32).map fun i => if i < k then fold38 S i else if 16 ≤ i ∧ i < 16 + k then 0 else limb S i
theorem fmix_len (S : Int) (k : Nat) : (fmix S k).length = 32 := by simp [fmix]
theorem fmix_nth (S : Int) (k i : Nat) (hi : i < 32) : nth (fmix S k) i = if i < k then fold38 S i else if 16 ≤ i ∧ i < 16 + k then 0 else limb S i := by simp [nth, fmix, hi]
theorem fmix_zero (S : Int) : fmix S 0 = (List.range 32).map (limb S) := by
  unfold fmix
  refine List.map_congr_left fun i hi => ?_
  rw [if_neg (by omega), if_neg (by omega)]
theorem fmix_full (S : Int) : fmix S 16 = (List.range 32).map (fold38 S) := by
  unfold fmix
  refine List.map_congr_left fun i hi => ?_
  have := List.mem_range.1 hi
  by_cases h : i < 16
  · rw [if_pos h]
  · rw [if_neg h, if_pos (by omega)]
    unfold fold38
    rw [if_neg h]
theorem fmix_set (S : Int) (k : Nat) (hk : k < 16) : ((fmix S k).set k (limb S k + 38 * limb S (k + 16))).set (k + 16) 0 = fmix S (k + 1) := by
  apply List.ext_getElem
  · simp [fmix]
  · intro i h1 h2
    simp only [fmix, List.getElem_set, List.getElem_map, List.getElem_range]
    rcases (by omega : i = k + 16 ∨ i = k ∨ i < k ∨ (k < i ∧ i < 16) ∨ (16 ≤ i ∧ i < 16 + k) ∨ 16 + k < i) with h | h | h | h | h | h
    · subst h
      rw [if_pos rfl, if_neg (show ¬ k + 16 < k + 1 by omega), if_pos (show 16 ≤ k + 16 ∧ k + 16 < 16 + (k + 1) by omega)]
    · subst h
      rw [if_neg (show ¬ i + 16 = i by omega), if_pos rfl, if_pos (show i < i + 1 by omega)]
      unfold fold38
      rw [if_pos hk]
    · rw [if_neg (show ¬ k + 16 = i by omega), if_neg (show ¬ k = i by omega), if_pos h, if_pos (show i < k + 1 by omega)]
    · rw [if_neg (show ¬ k + 16 = i by omega), if_neg (show ¬ k = i by omega), if_neg (show ¬ i < k by omega), if_neg (show ¬ i < k + 1 by omega), if_neg (show ¬ (16 ≤ i ∧ i < 16 + k) by omega), if_neg (show ¬ (16 ≤ i ∧ i < 16 + (k + 1)) by omega)]
    · rw [if_neg (show ¬ k + 16 = i by omega), if_neg (show ¬ k = i by omega), if_neg (show ¬ i < k by omega), if_neg (show ¬ i < k + 1 by omega), if_pos (show (16 ≤ i ∧ i < 16 + k) by omega), if_pos (show (16 ≤ i ∧ i < 16 + (k + 1)) by omega)]
    · rw [if_neg (show ¬ k + 16 = i by omega), if_neg (show ¬ k = i by omega), if_neg (show ¬ i < k by omega), if_neg (show ¬ i < k + 1 by omega), if_neg (show ¬ (16 ≤ i ∧ i < 16 + k) by omega), if_neg (show ¬ (16 ≤ i ∧ i < 16 + (k + 1)) by omega)]
/-- the last carry: 2^255 counts 19 times -/
def out5 (S : Int) (i : Nat) : Int := if i = 15 then limb S 15 % 32768 else limb S i
def g5 (S : Int) (i : Nat) : Int := out5 S i + (if i = 0 then 19 * (limb S 15 / 32768) else 0)
def S5 (S : Int) : Int := S % 57896044618658097711785492504343953926634992332820282019728792003956564819968 + 19 * (S / 57896044618658097711785492504343953926634992332820282019728792003956564819968)
theorem pvf_first (c : Int) : ∀ k, pvf (fun i => if i = 0 then c else 0) (k + 1) = c
  | 0 => by simp [pvf]
  | k + 1 => by
    rw [pvf, pvf_first c k]
    simp
theorem g5_val (S : Int) (h : 0 ≤ S ∧ S < 65536 ^ 16) : pvf (g5 S) 16 = S5 S := by
  have e1 : pvf (g5 S) 16 = pvf (out5 S) 16 + pvf (fun i => if i = 0 then 19 * (limb S 15 / 32768) else 0) 16 := pvf_add _ _ _
  have e2 : pvf (fun i => if i = 0 then 19 * (limb S 15 / 32768) else 0) 16 = 19 * (limb S 15 / 32768) := pvf_first _ 15
  have e3 : pvf (out5 S) 15 = pvf (limb S) 15 := pvf_congr (n := 15) (fun i hi => by unfold out5; rw [if_neg (by omega)]) 15 (Nat.le_refl _)
  have e4 : pvf (out5 S) 16 = pvf (out5 S) 15 + out5 S 15 * 65536 ^ 15 := rfl
  rw [e1, e2, e4, e3, pvf_limb]
  unfold out5 S5 limb
  rw [if_pos rfl]
  have f1 : (65536 : Int) ^ 15 = 1766847064778384329583297500742918515827483896875618958121606201292619776 := by decide
  have f2 : (65536 : Int) ^ 16 = 115792089237316195423570985008687907853269984665640564039457584007913129639936 := by decide
  rw [f1]
  rw [f2] at h
  omega
theorem g5_range (S : Int) (i : Nat) : 0 ≤ g5 S i ∧ g5 S i ≤ 65600 := by
  unfold g5 out5
  have h1 := limb_range S i
  have h2 := limb_range S 15
  split <;> split <;> omega
theorem out5_range (S : Int) (i : Nat) : 0 ≤ out5 S i ∧ out5 S i < 65536 := by
  unfold out5
  have h1 := limb_range S i
  have h2 := limb_range S 15
  split <;> omega
theorem S5_val (S : Int) (h : 0 ≤ S ∧ S < 65536 ^ 16) : 0 ≤ S5 S ∧ S5 S < 57896044618658097711785492504343953926634992332820282019728792003956564820006 ∧
    S5 S % 57896044618658097711785492504343953926634992332820282019728792003956564819949 = S % 57896044618658097711785492504343953926634992332820282019728792003956564819949 := by
  have f2 : (65536 : Int) ^ 16 = 115792089237316195423570985008687907853269984665640564039457584007913129639936 := by decide
  rw [f2] at h
  unfold S5
  omega
/-- what the last rounds leave -/
theorem last_sub (V : Int) (h0 : 0 ≤ V) (h : V < 57896044618658097711785492504343953926634992332820282019728792003956564820006) :
    (57896044618658097711785492504343953926634992332820282019728792003956564819949 ≤ V → V - 57896044618658097711785492504343953926634992332820282019728792003956564819949 = V % 57896044618658097711785492504343953926634992332820282019728792003956564819949) ∧
    (¬ 57896044618658097711785492504343953926634992332820282019728792003956564819949 ≤ V → V = V % 57896044618658097711785492504343953926634992332820282019728792003956564819949) := by omega

theorem info70 (xs : List Int) (h : xs.length = 32) : (Tryd.prog.info? 94).map (·.size) = some (ints .i64 xs).size := by
  rw [ints_size, h]
  kernel_rfl
def M : Int := 1125899906842624
set_option maxHeartbeats 4000000 in
theorem small (xs : List Int) (hl : xs.length = 32) (hr : ∀ i, i < 32 → 0 ≤ nth xs i ∧ nth xs i ≤ M) (h0 : 0 ≤ pvf (nth xs) 32 ∧ pvf (nth xs) 32 < 65536 ^ 32) (w : World) :
    Calls Tryd.prog 66 #[.agg (ints .i64 xs)] w (Ret w (lnum (pvf (nth xs) 32 % p))) := by
  generalize hn : pvf (nth xs) 32 = n at *
  have hit := it_range n h0
  have hfour := it_four n h0
  go_enter Tryd.func66, Tryd.ntmps66
  go_wp2_with fail
  go_loopw [4] (fun i wr => ∃ r : Nat, r ≤ 4 ∧ i = .int .i64 r ∧ Ext w wr ∧ ∃ g : Nat → Int, (∀ i, i < 32 → 0 ≤ g i ∧ g i ≤ M) ∧ pvf g 32 = it r n ∧ (1 ≤ r → ∀ i, 16 ≤ i → g i = 0) ∧
      wr.heap[w.heap.size]? = some (.cells (ints .i64 ((List.range 32).map g)) 94) ∧ (∃ b, b.size = 16 ∧ wr.heap[w.heap.size + 1]? = some (.cells b 34)) ∧
      wr.heap[w.heap.size + 1 + 1]? = some (.cells (ints .i64 (List.replicate 16 0)) 34)) (fun i _ => 4 - (intOf i).toNat)
  case atStart => exact ⟨0, by omega, rfl, ext3 _ _ _ _, nth xs, hr, hn, fun h => by omega, by rw [range_nth _ _ hl]; exact alloc3_fst _ _ _ _, ⟨_, rfl, alloc3_mid _ _ _ _⟩, alloc3_new _ _ _ _⟩
  case round =>
    obtain ⟨r, hr4, rfl, he, g, hg, hgv, hgz, hA, ⟨b, hbs, hB⟩, hC⟩ := hrel
    by_cases hlt : r < 4
    · clear hgz hfour hr hn hl h0
      have hS := hit r hlt
      go_wp2
      go_loopw [5, 6] (fun c i wq => ∃ k : Nat, k ≤ 32 ∧ i = .int .i64 k ∧ c = .int .i64 (cr g k) ∧ Ext w wq ∧ wq.heap[w.heap.size]? = some (.cells (ints .i64 (mix 32 (limb (it r n)) g k)) 94) ∧ wq.heap[w.heap.size + 1]? = some (.cells b 34) ∧
        wq.heap[w.heap.size + 1 + 1]? = some (.cells (ints .i64 (List.replicate 16 0)) 34)) (fun _ i _ => 32 - (intOf i).toNat)
      case atStart => exact ⟨0, by omega, rfl, by rw [cr_zero], he, by rw [mix_none]; exact hA, hB, hC⟩
      case round =>
        clear hA hB hC he
        obtain ⟨k, hk, rfl, rfl, he, hA, hB, hC⟩ := hrel
        by_cases hk32 : k < 32
        · have hX : (ints .i64 (mix 32 (limb (it r n)) g k))[k]? = some (.int .i64 (g k)) := by rw [ints_get _ _ _ (by rw [mix_len]; exact hk32), mix_nth _ _ _ _ _ hk32, if_neg (by omega)]
          have hS1 : (ints .i64 (mix 32 (limb (it r n)) g k)).setIfInBounds k (.int .i64 (limb (it r n) k)) = ints .i64 (mix 32 (limb (it r n)) g (k + 1)) := by rw [ints_set, mix_set _ _ _ _ hk32]
          have e1 := carry_limb g k 32 hk32
          have e2 := cr_step g k
          have b1 := hg k hk32
          have b2 := cr_range g M 32 (by decide) hg k (by omega)
          rw [hgv] at e1
          unfold M at b1 b2
          generalize hcn : cr g (k + 1) = cn at *
          generalize hcc : cr g k = cc at *
          generalize hgg : g k = gk at *
          have hcx := row_cell hA hX
          have hfx := row_frozen hA k
          have w1 : IntKind.i64.wrap (gk + cc) = gk + cc := IntWalk.i64_in _ (by omega)
          have w2 : (gk + cc).tmod 65536 = (gk + cc) % 65536 := Int.tmod_eq_emod_of_nonneg (by omega)
          have w3 : IntKind.i64.wrap ((gk + cc) % 65536) = (gk + cc) % 65536 := IntWalk.i64_in _ (by omega)
          have w4 : (gk + cc).tdiv 65536 = (gk + cc) / 65536 := Int.tdiv_eq_ediv_of_nonneg (by omega)
          have w5 : IntKind.i64.wrap ((gk + cc) / 65536) = (gk + cc) / 65536 := IntWalk.i64_in _ (by omega)
          have HG := Lib.hid hg
          clear hg
          go_wp2
          exact ⟨⟨k + 1, by omega, by go_num, by rw [hcn], ext_set he (Nat.le_refl _) _ _, (set_row _ _ hA).trans (by rw [hS1]), (set_row_other _ _ (by omega)).trans hB, (set_row_other _ _ (by omega)).trans hC⟩, by simp [intOf]; omega⟩
        · obtain rfl : k = 32 := by omega
          rw [mix_full _ _ _ _ (Nat.le_refl _), ← fmix_zero] at hA
          have HS := Lib.hid hS
          have HG := Lib.hid hgv
          clear hS hgv hg hit
          go_wp2
          go_loopw [8] (fun i wq => ∃ k : Nat, k ≤ 16 ∧ i = .int .i64 k ∧ Ext w wq ∧ wq.heap[w.heap.size]? = some (.cells (ints .i64 (fmix (it r n) k)) 94) ∧ wq.heap[w.heap.size + 1]? = some (.cells b 34) ∧
            wq.heap[w.heap.size + 1 + 1]? = some (.cells (ints .i64 (List.replicate 16 0)) 34)) (fun i _ => 16 - (intOf i).toNat)
          case atStart => exact ⟨0, by omega, rfl, he, hA, hB, hC⟩
          case round =>
            clear hA hB hC he
            obtain ⟨k, hk, rfl, he, hA, hB, hC⟩ := hrel
            by_cases hk16 : k < 16
            · have hX : (ints .i64 (fmix (it r n) k))[k]? = some (.int .i64 (limb (it r n) k)) := by rw [ints_get _ _ _ (by rw [fmix_len]; omega), fmix_nth _ _ _ (by omega), if_neg (by omega), if_neg (by omega)]
              have hY : (ints .i64 (fmix (it r n) k))[k + 16]? = some (.int .i64 (limb (it r n) (k + 16))) := by rw [ints_get _ _ _ (by rw [fmix_len]; omega), fmix_nth _ _ _ (by omega), if_neg (by omega), if_neg (by omega)]
              have hS1 : ((ints .i64 (fmix (it r n) k)).setIfInBounds k (.int .i64 (limb (it r n) k + 38 * limb (it r n) (k + 16)))).setIfInBounds (k + 16) (.int .i64 0) = ints .i64 (fmix (it r n) (k + 1)) := by rw [ints_set, ints_set, fmix_set _ _ hk16]
              have b1 := limb_range (it r n) k
              have b2 := limb_range (it r n) (k + 16)
              generalize hlx : limb (it r n) k = lx at *
              generalize hly : limb (it r n) (k + 16) = ly at *
              have q1 : IntKind.i64.wrap ((k : Int) + 16) = (k : Int) + 16 := IntWalk.i64_in _ (by omega)
              have q2 : ((k : Int) + 16).toNat = k + 16 := by omega
              have q3 : (0 : Int) ≤ (k : Int) + 16 := by omega
              have q4 : (k : Int) + 16 < 32 := by omega
              have q5 : (k : Int) < 32 := by omega
              have w1 : IntKind.i64.wrap (38 * ly) = 38 * ly := IntWalk.i64_in _ (by omega)
              have w2 : IntKind.i64.wrap (lx + 38 * ly) = lx + 38 * ly := IntWalk.i64_in _ (by omega)
              have HX : Hid (∀ W, Ext wr.drew W → W.cell? ⟨w.heap.size, k, none⟩ = some (.int .i64 lx)) := Lib.hid fun W hR => row_cell (row_ext (row_ext hA (ext_drew _)) hR) hX
              have HY : Hid (∀ W, Ext wr.drew W → W.cell? ⟨w.heap.size, k + 16, none⟩ = some (.int .i64 ly)) := Lib.hid fun W hR => row_cell (row_ext (row_ext hA (ext_drew _)) hR) hY
              go_wp2
              refine wp_region_rely Ext 11 103 [⟨none, [(8, none)]⟩, ⟨none, [(8, none)]⟩, ⟨none, [(1, none), (39, some 1)]⟩, ⟨none, [(40, some 2)]⟩, ⟨none, [(8, none)]⟩, ⟨none, [(42, some 4)]⟩, ⟨none, [(1, none), (43, some 5)]⟩, ⟨none, [(44, some 6)]⟩, ⟨none, [(45, some 7)]⟩, ⟨none, [(41, some 3), (46, some 8)]⟩, ⟨none, [(1, none), (38, some 0)]⟩] (by kernel_rfl) (by kernel_rfl) rfl Ext.refl Ext.trans (fun F r0 hr hF => ?_)
              have f1 : r0 1 = .pointer (some ⟨w.heap.size, 0, none⟩) := by rw [hr]; rfl
              have f8 : r0 8 = .int .i64 k := by rw [hr]; rfl
              clear hr
              simp only [List.take_succ_cons, List.take_zero]
              repeat
                (try simp only [List.cons_append, List.nil_append]
                 apply step_const
                 (intro ρ W hR hh
                  have hcx := HX.out W hR
                  have hcy := HY.out W hR
                  simp only [Holds, List.getD_cons_zero, List.getD_cons_succ, f1, f8] at hh
                  simp only [guarded, relyAt]
                  go_simp
                  first
                    | exact ⟨Ext.refl _, rfl⟩
                    | exact Ext.refl _))
              simp only [List.cons_append, List.nil_append]
              refine hF.out fun W hRW => ?_
              simp only [List.take_succ_cons, List.take_zero, List.drop_succ_cons, List.drop_zero, fin, forall_eq, Act.put, List.setIfInBounds_toArray, List.set_cons_zero, List.set_cons_succ]
              clear HX HY hF f1 f8
              have hE := Ext.trans (ext_drew wr) hRW
              have hA' := row_ext hA hE
              have hB' := row_ext hB hE
              have hC' := row_ext hC hE
              have hcx := row_cell hA' hX
              have hfx := row_frozen hA' k
              have hA2 := set_row k (.int .i64 (lx + 38 * ly)) hA'
              have hcy : (W.setCell ⟨w.heap.size, k, none⟩ (.int .i64 (lx + 38 * ly))).cell? ⟨w.heap.size, k + 16, none⟩ = some (.int .i64 ly) := row_cell hA2 (by rw [Array.getElem?_setIfInBounds_ne (by omega)]; exact hY)
              have hfy := row_frozen hA2 (k + 16)
              go_wp2
              exact ⟨⟨k + 1, by omega, by go_num, ext_set (ext_set (Ext.trans he hE) (Nat.le_refl _) _ _) (Nat.le_refl _) _ _, (set_row _ _ hA2).trans (by rw [hS1]), (set_row_other _ _ (by omega)).trans ((set_row_other _ _ (by omega)).trans hB'), (set_row_other _ _ (by omega)).trans ((set_row_other _ _ (by omega)).trans hC')⟩, by simp [intOf]; omega⟩
            · obtain rfl : k = 16 := by omega
              rw [fmix_full] at hA
              have hS := HS.out
              have hgv := HG.out
              clear HS HG
              go_wp2
              refine ⟨⟨r + 1, by omega, by go_num, he, fold38 (it r n), fun i _ => ?_, fold_val _ hS, fun _ i hi => ?_, hA, ⟨b, hbs, hB⟩, hC⟩, by simp [intOf]; omega⟩
              · have := fold38_range (it r n) i
                unfold M
                omega
              · unfold fold38
                rw [if_neg (by omega)]
    · obtain rfl : r = 4 := by omega
      have hz := hgz (by decide)
      have hgv : pvf g 16 = it 4 n := by rw [← hgv, pvf_high g 16 32 (by decide) fun j a _ => hz j a]
      clear hgz hr hn hl h0 hit
      obtain ⟨hN0, hN1, hN2⟩ := hfour
      generalize hN : it 4 n = N at *
      have HN := Lib.hid (And.intro hN0 (And.intro hN1 hN2))
      clear hN0 hN1 hN2 hN
      rw [show List.replicate 16 (0 : Int) = mix 16 (limb N) (fun _ => 0) 0 by rw [mix_none]; rfl] at hC
      go_wp2
      go_loopw [9, 10] (fun c i wq => ∃ k : Nat, k ≤ 16 ∧ i = .int .i64 k ∧ c = .int .i64 (cr g k) ∧ Ext w wq ∧ wq.heap[w.heap.size]? = some (.cells (ints .i64 ((List.range 32).map g)) 94) ∧ wq.heap[w.heap.size + 1]? = some (.cells b 34) ∧
        wq.heap[w.heap.size + 1 + 1]? = some (.cells (ints .i64 (mix 16 (limb N) (fun _ => 0) k)) 34)) (fun _ i _ => 16 - (intOf i).toNat)
      case atStart => exact ⟨0, by omega, rfl, by rw [cr_zero], he, hA, hB, hC⟩
      case round =>
        clear hA hB hC he
        obtain ⟨k, hk, rfl, rfl, he, hA, hB, hC⟩ := hrel
        by_cases hk16 : k < 16
        · have hX : (ints .i64 ((List.range 32).map g))[k]? = some (.int .i64 (g k)) := by rw [ints_get _ _ _ (by simp; omega)]; simp [nth, show k < 32 by omega]
          have hY : (ints .i64 (mix 16 (limb N) (fun _ => 0) k))[k]? = some (.int .i64 0) := by rw [ints_get _ _ _ (by rw [mix_len]; exact hk16), mix_nth _ _ _ _ _ hk16, if_neg (by omega)]
          have hS1 : (ints .i64 (mix 16 (limb N) (fun _ => 0) k)).setIfInBounds k (.int .i64 (limb N k)) = ints .i64 (mix 16 (limb N) (fun _ => 0) (k + 1)) := by rw [ints_set, mix_set _ _ _ _ hk16]
          have e1 := carry_limb g k 16 hk16
          have e2 := cr_step g k
          have b1 := hg k (by omega)
          have b2 := cr_range g M 32 (by decide) hg k (by omega)
          rw [hgv] at e1
          unfold M at b1 b2
          generalize hcn : cr g (k + 1) = cn at *
          generalize hcc : cr g k = cc at *
          generalize hgg : g k = gk at *
          have q5 : (k : Int) < 32 := by omega
          have hcx := row_cell hA hX
          have hcy := row_cell hC hY
          have hfx := row_frozen hC k
          have w1 : IntKind.i64.wrap (gk + cc) = gk + cc := IntWalk.i64_in _ (by omega)
          have w2 : (gk + cc).tmod 65536 = (gk + cc) % 65536 := Int.tmod_eq_emod_of_nonneg (by omega)
          have w3 : IntKind.i64.wrap ((gk + cc) % 65536) = (gk + cc) % 65536 := IntWalk.i64_in _ (by omega)
          have w4 : (gk + cc).tdiv 65536 = (gk + cc) / 65536 := Int.tdiv_eq_ediv_of_nonneg (by omega)
          have w5 : IntKind.i64.wrap ((gk + cc) / 65536) = (gk + cc) / 65536 := IntWalk.i64_in _ (by omega)
          have HG := Lib.hid hg
          clear hg hz
          go_wp2
          exact ⟨⟨k + 1, by omega, by go_num, by rw [hcn], ext_set he (by omega) _ _, (set_row_other _ _ (by omega)).trans hA, (set_row_other _ _ (by omega)).trans hB, (set_row _ _ hC).trans (by rw [hS1])⟩, by simp [intOf]; omega⟩
        · obtain rfl : k = 16 := by omega
          clear hg hz hgv hA
          have hX : (ints .i64 (mix 16 (limb N) (fun _ => 0) 16))[15]? = some (.int .i64 (limb N 15)) := by rw [ints_get _ _ _ (by rw [mix_len]; decide), mix_nth _ _ _ _ _ (by decide), if_pos (by decide)]
          have hY : (ints .i64 (mix 16 (limb N) (fun _ => 0) 16))[0]? = some (.int .i64 (limb N 0)) := by rw [ints_get _ _ _ (by rw [mix_len]; decide), mix_nth _ _ _ _ _ (by decide), if_pos (by decide)]
          have hS1 : (ints .i64 (mix 16 (limb N) (fun _ => 0) 16)).setIfInBounds 15 (.int .i64 (limb N 15 % 32768)) = ints .i64 (mix 16 (limb (S5 N)) (out5 N) 0) := by
            rw [ints_set]
            refine congrArg (ints .i64) (List.ext_getElem (by simp [mix]) fun i h1 h2 => ?_)
            have h3 : i < 16 := by simpa [mix] using h2
            simp only [mix, List.getElem_set, List.getElem_map, List.getElem_range]
            unfold out5
            by_cases h : i = 15
            · subst h; simp
            · rw [if_neg (show ¬ 15 = i by omega), if_pos h3, if_neg (show ¬ i < 0 by omega), if_neg h]
          have b1 := limb_range N 15
          have b2 := limb_range N 0
          have eg0 : limb N 0 + 19 * (limb N 15 / 32768) = g5 N 0 + cr (g5 N) 0 := by
            rw [cr_zero]
            unfold g5 out5
            simp
          generalize hm0 : g5 N 0 + cr (g5 N) 0 = m0 at *
          generalize hlx : limb N 15 = lx at *
          generalize hly : limb N 0 = ly at *
          have w1 : lx.tdiv 32768 = lx / 32768 := Int.tdiv_eq_ediv_of_nonneg (by omega)
          have w2 : IntKind.i64.wrap (lx / 32768) = lx / 32768 := IntWalk.i64_in _ (by omega)
          have w3 : lx.tmod 32768 = lx % 32768 := Int.tmod_eq_emod_of_nonneg (by omega)
          have w4 : IntKind.i64.wrap (lx % 32768) = lx % 32768 := IntWalk.i64_in _ (by omega)
          have w5 : IntKind.i64.wrap (19 * (lx / 32768)) = 19 * (lx / 32768) := IntWalk.i64_in _ (by omega)
          have w6 : IntKind.i64.wrap (ly + 19 * (lx / 32768)) = ly + 19 * (lx / 32768) := IntWalk.i64_in _ (by omega)
          have hcx := row_cell hC hX
          have hfx := row_frozen hC 15
          have hC2 := set_row 15 (.int .i64 (lx % 32768)) hC
          have hcy : (wr.setCell ⟨w.heap.size + 1 + 1, 15, none⟩ (.int .i64 (lx % 32768))).cell? ⟨w.heap.size + 1 + 1, 0, none⟩ = some (.int .i64 ly) := row_cell hC2 (by rw [Array.getElem?_setIfInBounds_ne (by decide)]; exact hY)
          rw [hS1] at hC2
          have hB2 := (set_row_other (W := wr) 15 (.int .i64 (lx % 32768)) (show w.heap.size + 1 ≠ w.heap.size + 1 + 1 by omega)).trans hB
          have he2 := ext_set he (show w.heap.size ≤ w.heap.size + 1 + 1 by omega) 15 (.int .i64 (lx % 32768))
          generalize hwz : wr.setCell ⟨w.heap.size + 1 + 1, 15, none⟩ (.int .i64 (lx % 32768)) = wz at *
          go_wp2
          clear hcx hfx hcy hX hY hS1 hC hB he hwz w1 w2 w3 w4 w5 w6
          go_loopw [13, 14] (fun c i wq => ∃ k : Nat, k ≤ 16 ∧ i = .int .i64 k ∧ (∃ m : Int, c = .int .i64 m ∧ 0 ≤ m ∧ m ≤ 4611686018427387904 ∧ (k < 16 → m = g5 N k + cr (g5 N) k)) ∧ Ext w wq ∧ wq.heap[w.heap.size + 1]? = some (.cells b 34) ∧
            wq.heap[w.heap.size + 1 + 1]? = some (.cells (ints .i64 (mix 16 (limb (S5 N)) (out5 N) k)) 34)) (fun _ i _ => 16 - (intOf i).toNat)
          case atStart => exact ⟨0, by omega, rfl, ⟨_, rfl, by omega, by omega, fun _ => by rw [hm0]⟩, he2, hB2, hC2⟩
          case round =>
            clear he2 hB2 hC2 eg0 hm0 b1 b2
            obtain ⟨k, hk, rfl, ⟨m, rfl, hm0, hm1, hme⟩, he, hB, hC⟩ := hrel
            by_cases hk16 : k < 16
            · have hme' := hme hk16
              have hX : (ints .i64 (mix 16 (limb (S5 N)) (out5 N) k))[k]? = some (.int .i64 (out5 N k)) := by rw [ints_get _ _ _ (by rw [mix_len]; exact hk16), mix_nth _ _ _ _ _ hk16, if_neg (by omega)]
              have hS1 : (ints .i64 (mix 16 (limb (S5 N)) (out5 N) k)).setIfInBounds k (.int .i64 (limb (S5 N) k)) = ints .i64 (mix 16 (limb (S5 N)) (out5 N) (k + 1)) := by rw [ints_set, mix_set _ _ _ _ hk16]
              have e1 := carry_limb (g5 N) k 16 hk16
              have e2 := cr_step (g5 N) k
              rw [g5_val N ⟨HN.out.1, HN.out.2.1⟩, ← hme'] at e1
              rw [← hme'] at e2
              have hcx := row_cell hC hX
              have hfx := row_frozen hC k
              have hC2 := set_row k (.int .i64 (limb (S5 N) k)) hC
              have hB2 := (set_row_other (W := wr) k (.int .i64 (limb (S5 N) k)) (show w.heap.size + 1 ≠ w.heap.size + 1 + 1 by omega)).trans hB
              have he2 := ext_set he (show w.heap.size ≤ w.heap.size + 1 + 1 by omega) k (.int .i64 (limb (S5 N) k))
              rw [hS1] at hC2
              have w2 : m.tmod 65536 = m % 65536 := Int.tmod_eq_emod_of_nonneg hm0
              have w3 : IntKind.i64.wrap (m % 65536) = m % 65536 := IntWalk.i64_in _ (by omega)
              have w4 : m.tdiv 65536 = m / 65536 := Int.tdiv_eq_ediv_of_nonneg hm0
              have w5 : IntKind.i64.wrap (m / 65536) = m / 65536 := IntWalk.i64_in _ (by omega)
              by_cases hk15 : k < 15
              · have hZ : (ints .i64 (mix 16 (limb (S5 N)) (out5 N) (k + 1)))[k + 1]? = some (.int .i64 (out5 N (k + 1))) := by rw [ints_get _ _ _ (by rw [mix_len]; omega), mix_nth _ _ _ _ _ (by omega), if_neg (by omega)]
                have hcz := row_cell hC2 hZ
                have hor := out5_range N (k + 1)
                have hgn : out5 N (k + 1) + cr (g5 N) (k + 1) = g5 N (k + 1) + cr (g5 N) (k + 1) := by
                  unfold g5
                  rw [if_neg (show ¬ k + 1 = 0 by omega)]
                  omega
                have q1 : IntKind.i64.wrap ((k : Int) + 1) = (k : Int) + 1 := IntWalk.i64_in _ (by omega)
                have q2 : ((k : Int) + 1).toNat = k + 1 := by omega
                have q3 : (0 : Int) ≤ (k : Int) + 1 := by omega
                have q4 : (k : Int) + 1 < 16 := by omega
                have q5 : (k : Int) < 15 := by omega
                rw [← e2] at hgn
                have Hgn := Lib.hid hgn
                clear hgn hme hme'
                generalize hoz : out5 N (k + 1) = oz at *
                generalize hwz : wr.setCell ⟨w.heap.size + 1 + 1, k, none⟩ (.int .i64 (limb (S5 N) k)) = wz at *
                have w6 : IntKind.i64.wrap (oz + m / 65536) = oz + m / 65536 := IntWalk.i64_in _ (by omega)
                go_wp2
                exact ⟨⟨k + 1, by omega, by go_num, ⟨_, rfl, by omega, by omega, fun _ => by have := Hgn.out; omega⟩, he2, hB2, hC2⟩, by simp [intOf]; omega⟩
              · obtain rfl : k = 15 := by omega
                clear hme hme'
                generalize hwz : wr.setCell ⟨w.heap.size + 1 + 1, 15, none⟩ (.int .i64 (limb (S5 N) 15)) = wz at *
                go_wp2
                exact ⟨⟨16, by omega, rfl, ⟨m, rfl, hm0, hm1, fun h => by omega⟩, he2, hB2, hC2⟩, by simp [intOf]⟩
            · obtain rfl : k = 16 := by omega
              clear hme
              have hV := S5_val N ⟨HN.out.1, HN.out.2.1⟩
              have hL := last_sub (S5 N) hV.1 hV.2.1
              have hres : lnum (S5 N % p) = lnum (n % p) := by
                have := HN.out.2.2
                unfold p
                rw [hV.2.2, this]
              rw [mix_full _ _ _ _ (Nat.le_refl _)] at hC
              have hC : wr.heap[w.heap.size + 1 + 1]? = some (.cells (ints .i64 (lims (S5 N))) 34) := hC
              clear HN
              generalize hVV : S5 N = V at *
              have hp0 : (0 : Int) ≤ p ∧ p < big := by decide
              have hVb : 0 ≤ V ∧ V < big := by unfold big; omega
              by_cases hge : p ≤ V
              · have hv : V - p = V % p := hL.1 hge
                have hvb : 0 ≤ V % p ∧ V % p < p := ⟨Int.emod_nonneg _ (by decide), Int.emod_lt_of_pos _ (by decide)⟩
                have HA : Hid (∀ w, Calls Tryd.prog 75 #[.agg (ints .i64 (lims V)), .agg (ints .i64 (lims p))] w (Ret w (.bool true))) := Lib.hid fun w => by
                  have := atLeast V p hVb hp0 w
                  rw [decide_eq_true hge] at this
                  exact this
                have HA2 : Hid (∀ w, Calls Tryd.prog 75 #[.agg (ints .i64 (lims (V % p))), .agg (ints .i64 (lims p))] w (Ret w (.bool false))) := Lib.hid fun w => by
                  have := atLeast (V % p) p ⟨hvb.1, by omega⟩ hp0 w
                  rw [decide_eq_false (by omega)] at this
                  exact this
                have HM : Hid (∀ w, Calls Tryd.prog 70 #[.agg (ints .i64 (lims V)), .agg (ints .i64 (lims p))] w (Ret w (.agg (ints .i64 (lims (V % p)))))) := Lib.hid fun w => by
                  have := minus V p hp0.1 hge hVb.2 w
                  rw [hv] at this
                  exact this
                generalize hR : V % p = R at *
                have HRES := Lib.hid hres
                clear hres
                clear hv hvb hge hVb hL hV hVV hR
                go_wp2
                refine wp_loop_rounds 3 ?_
                rw [rounds_succ]
                go_wp2
                refine wp_region_rely Ext 2 103 [⟨none, [(3, none)]⟩, ⟨none, []⟩] (by kernel_rfl) (by kernel_rfl) rfl Ext.refl Ext.trans (fun F r0 hr hF => ?_)
                have f3 : r0 3 = .pointer (some ⟨w.heap.size + 1 + 1, 0, none⟩) := by rw [hr]; rfl
                clear hr
                simp only [List.take_succ_cons, List.take_zero]
                refine step_const (.agg (ints .i64 (lims V))) (fun ρ W hR hh => ?_) ?_
                · exact relyAt_load_row 34 (.tmp _) rfl _ (Eq.trans hh.1 f3) 34 _ (0, 0) _ (row_ext (row_ext hC (ext_drew _)) hR) Tryd.underlying34 rfl (infoL _ (lims_len _))
                refine step_const (.agg (ints .i64 (lims p))) (fun ρ W hR hh => ?_) ?_
                · simp only [guarded, relyAt]
                  go_simp
                  exact ⟨Ext.refl _, (prime _).mono fun _ _ h => h.const⟩
                simp only [List.cons_append, List.nil_append]
                refine hF.out fun W1 hR1 => ?_
                simp only [List.take_succ_cons, List.take_zero, List.drop_succ_cons, List.drop_zero, fin, forall_eq, Act.put, List.setIfInBounds_toArray, List.set_cons_zero, List.set_cons_succ]
                clear hF f3
                go_wp2_with first
                  | (go_at_call 75
                     (with_reducible refine (HA.out _).mono ?_)
                     clear HA
                     rintro e w' ⟨rfl, hw⟩)
                have hBy := row_ext (row_ext (row_ext hB (ext_drew _)) hR1) hw
                have hCy := row_ext (row_ext (row_ext hC (ext_drew _)) hR1) hw
                have hey := Ext.trans (Ext.trans (Ext.trans he (ext_drew _)) hR1) hw
                clear hB hC he hw hR1
                refine wp_region_rely Ext 2 103 [⟨none, [(3, none)]⟩, ⟨none, []⟩] (by kernel_rfl) (by kernel_rfl) rfl Ext.refl Ext.trans (fun F r0 hr hF => ?_)
                have f3 : r0 3 = .pointer (some ⟨w.heap.size + 1 + 1, 0, none⟩) := by rw [hr]; rfl
                clear hr
                simp only [List.take_succ_cons, List.take_zero]
                refine step_const (.agg (ints .i64 (lims V))) (fun ρ W hR hh => ?_) ?_
                · exact relyAt_load_row 34 (.tmp _) rfl _ (Eq.trans hh.1 f3) 34 _ (0, 0) _ (row_ext (row_ext hCy (ext_drew _)) hR) Tryd.underlying34 rfl (infoL _ (lims_len _))
                refine step_const (.agg (ints .i64 (lims p))) (fun ρ W hR hh => ?_) ?_
                · simp only [guarded, relyAt]
                  go_simp
                  exact ⟨Ext.refl _, (prime _).mono fun _ _ h => h.const⟩
                simp only [List.cons_append, List.nil_append]
                refine hF.out fun W2 hR2 => ?_
                simp only [List.take_succ_cons, List.take_zero, List.drop_succ_cons, List.drop_zero, fin, forall_eq, Act.put, List.setIfInBounds_toArray, List.set_cons_zero, List.set_cons_succ]
                clear hF f3
                go_wp2_with first
                  | (go_at_call 70
                     (with_reducible refine (HM.out _).mono ?_)
                     clear HM
                     rintro e w'' ⟨rfl, hw⟩
                     have hBx := row_ext (row_ext (row_ext hBy (ext_drew _)) hR2) hw
                     have hCx := row_ext (row_ext (row_ext hCy (ext_drew _)) hR2) hw
                     have hex := Ext.trans (Ext.trans (Ext.trans hey (ext_drew _)) hR2) hw)
                  | (with_reducible show wpList _ _ _ ((⟨_, .store 34 _ _, _, _, _, _⟩ : Oper) :: _) _ _
                     refine wpList_store_row rfl 34 _ _ rfl (w.heap.size + 1 + 1) _ rfl rfl 34 _ hCx (infoL _ (lims_len _)) (by rw [ints_size, ints_size, lims_len, lims_len]) (ints_one _ _) ?_)
                have hCv : (w''.setRow (w.heap.size + 1 + 1) (ints .i64 (lims R))).heap[w.heap.size + 1 + 1]? = some (.cells (ints .i64 (lims R)) 34) := setRow_heap _ _ _ _ _ _ hCx
                have hBv := (setRow_other w'' (w.heap.size + 1 + 1) (w.heap.size + 1) (ints .i64 (lims R)) (by omega)).trans hBx
                have hev := ext_setRow hex (show w.heap.size ≤ w.heap.size + 1 + 1 by omega) (ints .i64 (lims R))
                generalize w''.setRow (w.heap.size + 1 + 1) (ints .i64 (lims R)) = wv at *
                clear hCx hBx hex hw hCy hBy hey hR2
                rw [rounds_succ]
                go_wp2
                refine wp_region_rely Ext 2 103 [⟨none, [(3, none)]⟩, ⟨none, []⟩] (by kernel_rfl) (by kernel_rfl) rfl Ext.refl Ext.trans (fun F r0 hr hF => ?_)
                have f3 : r0 3 = .pointer (some ⟨w.heap.size + 1 + 1, 0, none⟩) := by rw [hr]; rfl
                clear hr
                simp only [List.take_succ_cons, List.take_zero]
                refine step_const (.agg (ints .i64 (lims R))) (fun ρ W hR hh => ?_) ?_
                · exact relyAt_load_row 34 (.tmp _) rfl _ (Eq.trans hh.1 f3) 34 _ (0, 0) _ (row_ext (row_ext hCv (ext_drew _)) hR) Tryd.underlying34 rfl (infoL _ (lims_len _))
                refine step_const (.agg (ints .i64 (lims p))) (fun ρ W hR hh => ?_) ?_
                · simp only [guarded, relyAt]
                  go_simp
                  exact ⟨Ext.refl _, (prime _).mono fun _ _ h => h.const⟩
                simp only [List.cons_append, List.nil_append]
                refine hF.out fun W3 hR3 => ?_
                simp only [List.take_succ_cons, List.take_zero, List.drop_succ_cons, List.drop_zero, fin, forall_eq, Act.put, List.setIfInBounds_toArray, List.set_cons_zero, List.set_cons_succ]
                clear hF f3
                go_wp2_with first
                  | (go_at_call 75
                     (with_reducible refine (HA2.out _).mono ?_)
                     clear HA2
                     rintro e w4 ⟨rfl, hw4⟩
                     have hBz := row_ext (row_ext (row_ext hBv (ext_drew _)) hR3) hw4
                     have hCz := row_ext (row_ext (row_ext hCv (ext_drew _)) hR3) hw4
                     have hez := Ext.trans (Ext.trans (Ext.trans hev (ext_drew _)) hR3) hw4
                     clear hw4)
                  | (with_reducible show wpList _ _ _ ((⟨_, .load 34 _, _, _, _, _⟩ : Oper) :: _) _ _
                     refine wpList_load_row rfl 34 _ rfl (w.heap.size + 1 + 1) rfl 34 _ (0, 0) _ hCz Tryd.underlying34 rfl (infoL _ (lims_len _)) ?_)
                  | (with_reducible show wpList _ _ _ ((⟨_, .store 34 _ _, _, _, _, _⟩ : Oper) :: _) _ _
                     refine wpList_store_row rfl 34 _ _ rfl (w.heap.size + 1) _ rfl rfl 34 _ hBz (infoL _ (lims_len _)) (by rw [hbs, ints_size, lims_len]) (ints_one _ _) ?_)
                exact bodyPost_ret (results_cell_row (p := 2) rfl _ _ (w.heap.size + 1) 34 _ (0, 0) _ rfl (setRow_heap _ _ _ _ _ _ hBz) Tryd.underlying34 rfl (infoL _ (lims_len _))) rfl ⟨by rw [← HRES.out]; rfl, ext_setRow hez (by omega) _⟩
              · have hv : V = V % p := hL.2 hge
                have HA : Hid (∀ w, Calls Tryd.prog 75 #[.agg (ints .i64 (lims V)), .agg (ints .i64 (lims p))] w (Ret w (.bool false))) := Lib.hid fun w => by
                  have := atLeast V p hVb hp0 w
                  rw [decide_eq_false hge] at this
                  exact this
                rw [← hv] at hres
                have HRES := Lib.hid hres
                clear hres
                clear hv hge hVb hL hV hVV
                go_wp2
                refine wp_loop_rounds 2 ?_
                rw [rounds_succ]
                go_wp2
                refine wp_region_rely Ext 2 103 [⟨none, [(3, none)]⟩, ⟨none, []⟩] (by kernel_rfl) (by kernel_rfl) rfl Ext.refl Ext.trans (fun F r0 hr hF => ?_)
                have f3 : r0 3 = .pointer (some ⟨w.heap.size + 1 + 1, 0, none⟩) := by rw [hr]; rfl
                clear hr
                simp only [List.take_succ_cons, List.take_zero]
                refine step_const (.agg (ints .i64 (lims V))) (fun ρ W hR hh => ?_) ?_
                · exact relyAt_load_row 34 (.tmp _) rfl _ (Eq.trans hh.1 f3) 34 _ (0, 0) _ (row_ext (row_ext hC (ext_drew _)) hR) Tryd.underlying34 rfl (infoL _ (lims_len _))
                refine step_const (.agg (ints .i64 (lims p))) (fun ρ W hR hh => ?_) ?_
                · simp only [guarded, relyAt]
                  go_simp
                  exact ⟨Ext.refl _, (prime _).mono fun _ _ h => h.const⟩
                simp only [List.cons_append, List.nil_append]
                refine hF.out fun W1 hR1 => ?_
                simp only [List.take_succ_cons, List.take_zero, List.drop_succ_cons, List.drop_zero, fin, forall_eq, Act.put, List.setIfInBounds_toArray, List.set_cons_zero, List.set_cons_succ]
                clear hF f3
                go_wp2_with first
                  | (go_at_call 75
                     (with_reducible refine (HA.out _).mono ?_)
                     clear HA
                     rintro e w4 ⟨rfl, hw4⟩
                     have hBz := row_ext (row_ext (row_ext hB (ext_drew _)) hR1) hw4
                     have hCz := row_ext (row_ext (row_ext hC (ext_drew _)) hR1) hw4
                     have hez := Ext.trans (Ext.trans (Ext.trans he (ext_drew _)) hR1) hw4
                     clear hw4)
                  | (with_reducible show wpList _ _ _ ((⟨_, .load 34 _, _, _, _, _⟩ : Oper) :: _) _ _
                     refine wpList_load_row rfl 34 _ rfl (w.heap.size + 1 + 1) rfl 34 _ (0, 0) _ hCz Tryd.underlying34 rfl (infoL _ (lims_len _)) ?_)
                  | (with_reducible show wpList _ _ _ ((⟨_, .store 34 _ _, _, _, _, _⟩ : Oper) :: _) _ _
                     refine wpList_store_row rfl 34 _ _ rfl (w.heap.size + 1) _ rfl rfl 34 _ hBz (infoL _ (lims_len _)) (by rw [hbs, ints_size, lims_len]) (ints_one _ _) ?_)
                exact bodyPost_ret (results_cell_row (p := 2) rfl _ _ (w.heap.size + 1) 34 _ (0, 0) _ rfl (setRow_heap _ _ _ _ _ _ hBz) Tryd.underlying34 rfl (infoL _ (lims_len _))) rfl ⟨by rw [← HRES.out]; rfl, ext_setRow hez (by omega) _⟩
end Go.Proofs.YtaojnmjmmfdfjaaDoor.Field
end

/-! The document's numbers: sums, differences, products. -/
section
namespace Go.Proofs.YtaojnmjmmfdfjaaDoor.Field
open Go Go.RowKit
open Go.Proofs.YtaojnmjmmfdfjaaDoor.Rely
set_option linter.unusedVariables false

theorem ext4 (w : World) (a b c d : Obj) : Ext w ((((w.alloc a).alloc b).alloc c).alloc d) := Ext.trans (ext3 w a b c) (ext_alloc _ _)
theorem alloc4_1 (w : World) (a b c d : Obj) : ((((w.alloc a).alloc b).alloc c).alloc d).heap[w.heap.size]? = some a := by
  rw [Below.heap_alloc _ _ _ (by simp only [World.size_alloc]; omega)]; exact alloc3_fst _ _ _ _
theorem alloc4_2 (w : World) (a b c d : Obj) : ((((w.alloc a).alloc b).alloc c).alloc d).heap[w.heap.size + 1]? = some b := by
  rw [Below.heap_alloc _ _ _ (by simp only [World.size_alloc]; omega)]; exact alloc3_mid _ _ _ _
theorem alloc4_3 (w : World) (a b c d : Obj) : ((((w.alloc a).alloc b).alloc c).alloc d).heap[w.heap.size + 1 + 1]? = some c := by
  rw [Below.heap_alloc _ _ _ (by simp only [World.size_alloc]; omega)]; exact alloc3_new _ _ _ _
theorem alloc4_4 (w : World) (a b c d : Obj) : ((((w.alloc a).alloc b).alloc c).alloc d).heap[w.heap.size + 1 + 1 + 1]? = some d := by
  have := heap_alloc_new (((w.alloc a).alloc b).alloc c) d
  simpa using this
theorem pvf_mix (f : Nat → Int) (k : Nat) (hk : k ≤ 32) : pvf (nth (mix 32 f (fun _ => 0) k)) 32 = pvf f k := by
  rw [pvf_high (nth (mix 32 f (fun _ => 0) k)) k 32 hk fun j a b => by rw [mix_nth _ _ _ _ _ b, if_neg (by omega)]]
  exact pvf_congr (n := k) (fun i hi => by rw [mix_nth _ _ _ _ _ (by omega), if_pos hi]) k (Nat.le_refl _)
theorem mix_range (f : Nat → Int) (k : Nat) (hf : ∀ i, i < k → 0 ≤ f i ∧ f i ≤ M) (i : Nat) (hi : i < 32) : 0 ≤ nth (mix 32 f (fun _ => 0) k) i ∧ nth (mix 32 f (fun _ => 0) k) i ≤ M := by
  rw [mix_nth _ _ _ _ _ hi]
  split
  · exact hf i (by assumption)
  · decide
theorem limb_val (x : Int) (hx : 0 ≤ x ∧ x < big) : pvf (limb x) 16 = x := by rw [pvf_limb, big_pow, Int.emod_eq_of_lt hx.1 hx.2]
theorem pow32 : (65536 : Int) ^ 32 = big * big := by decide

theorem lAdd (x y : Int) (hx : 0 ≤ x ∧ x < big) (hy : 0 ≤ y ∧ y < big) (w : World) : Calls Tryd.prog 43 #[lnum x, lnum y] w (Ret w (lnum ((x + y) % p))) := by
  have HC : Hid (∀ w, Calls Tryd.prog 66 #[.agg (ints .i64 (mix 32 (fun i => limb x i + limb y i) (fun _ => 0) 16))] w (Ret w (lnum ((x + y) % p)))) := Lib.hid fun w => by
    have hv : pvf (nth (mix 32 (fun i => limb x i + limb y i) (fun _ => 0) 16)) 32 = x + y := by
      rw [pvf_mix _ _ (by decide), pvf_add, limb_val x hx, limb_val y hy]
    have := small (mix 32 (fun i => limb x i + limb y i) (fun _ => 0) 16) (mix_len _ _ _ _) (mix_range _ 16 fun i _ => by
      have := limb_range x i
      have := limb_range y i
      unfold M
      omega) (by rw [hv, pow32]; unfold big at *; omega) w
    rw [hv] at this
    exact this
  unfold lnum at HC ⊢
  generalize hr : lims ((x + y) % p) = res at *
  have hrl : res.length = 16 := by rw [← hr]; exact lims_len _
  clear hr
  go_enter Tryd.func43, Tryd.ntmps43
  go_wp2_with fail
  go_loopw [6] (fun i wr => ∃ k : Nat, k ≤ 16 ∧ i = .int .i64 k ∧ Ext w wr ∧ wr.heap[w.heap.size]? = some (.cells (ints .i64 (lims x)) 34) ∧ wr.heap[w.heap.size + 1]? = some (.cells (ints .i64 (lims y)) 34) ∧
    (∃ b, b.size = 16 ∧ wr.heap[w.heap.size + 1 + 1]? = some (.cells b 34)) ∧ wr.heap[w.heap.size + 1 + 1 + 1]? = some (.cells (ints .i64 (mix 32 (fun i => limb x i + limb y i) (fun _ => 0) k)) 94)) (fun i _ => 16 - (intOf i).toNat)
  case atStart => exact ⟨0, by omega, rfl, ext4 _ _ _ _ _, alloc4_1 _ _ _ _ _, alloc4_2 _ _ _ _ _, ⟨_, rfl, alloc4_3 _ _ _ _ _⟩, alloc4_4 _ _ _ _ _⟩
  case round =>
    obtain ⟨k, hk, rfl, he, hA, hB, ⟨b, hbs, hC⟩, hD⟩ := hrel
    by_cases hlt : k < 16
    · have hX : (ints .i64 (lims x))[k]? = some (.int .i64 (limb x k)) := by rw [ints_get _ _ _ (by rw [lims_len]; exact hlt), lims_nth _ _ hlt]
      have hY : (ints .i64 (lims y))[k]? = some (.int .i64 (limb y k)) := by rw [ints_get _ _ _ (by rw [lims_len]; exact hlt), lims_nth _ _ hlt]
      have hZ : (ints .i64 (mix 32 (fun i => limb x i + limb y i) (fun _ => 0) k))[k]? = some (.int .i64 0) := by rw [ints_get _ _ _ (by rw [mix_len]; omega), mix_nth _ _ _ _ _ (by omega), if_neg (by omega)]
      have hS : (ints .i64 (mix 32 (fun i => limb x i + limb y i) (fun _ => 0) k)).setIfInBounds k (.int .i64 (limb x k + limb y k)) = ints .i64 (mix 32 (fun i => limb x i + limb y i) (fun _ => 0) (k + 1)) := by
        rw [ints_set, ← mix_set _ _ _ _ (by omega)]
      have h3 := limb_range x k
      have h4 := limb_range y k
      generalize hlx : limb x k = lx at *
      generalize hly : limb y k = ly at *
      have w1 : IntKind.i64.wrap (lx + ly) = lx + ly := IntWalk.i64_in _ (by omega)
      have q5 : (k : Int) < 32 := by omega
      have HX : Hid (∀ W, Ext wr.drew W → W.cell? ⟨w.heap.size, k, none⟩ = some (.int .i64 lx)) := Lib.hid fun W hR => row_cell (row_ext (row_ext hA (ext_drew _)) hR) hX
      have HY : Hid (∀ W, Ext wr.drew W → W.cell? ⟨w.heap.size + 1, k, none⟩ = some (.int .i64 ly)) := Lib.hid fun W hR => row_cell (row_ext (row_ext hB (ext_drew _)) hR) hY
      go_wp2
      refine wp_region_rely Ext 9 22 [⟨none, [(6, none)]⟩, ⟨none, [(6, none)]⟩, ⟨none, [(2, none), (12, some 1)]⟩, ⟨none, [(13, some 2)]⟩, ⟨none, [(6, none)]⟩, ⟨none, [(3, none), (15, some 4)]⟩, ⟨none, [(16, some 5)]⟩, ⟨none, [(14, some 3), (17, some 6)]⟩, ⟨none, [(5, none), (11, some 0)]⟩] (by kernel_rfl) (by kernel_rfl) rfl Ext.refl Ext.trans (fun F r0 hr hF => ?_)
      have f2 : r0 2 = .pointer (some ⟨w.heap.size, 0, none⟩) := by rw [hr]; rfl
      have f3 : r0 3 = .pointer (some ⟨w.heap.size + 1, 0, none⟩) := by rw [hr]; rfl
      have f5 : r0 5 = .pointer (some ⟨w.heap.size + 1 + 1 + 1, 0, none⟩) := by rw [hr]; rfl
      have f6 : r0 6 = .int .i64 k := by rw [hr]; rfl
      clear hr
      simp only [List.take_succ_cons, List.take_zero]
      repeat
        (try simp only [List.cons_append, List.nil_append]
         apply step_const
         (intro ρ W hR hh
          have hcx := HX.out W hR
          have hcy := HY.out W hR
          simp only [Holds, List.getD_cons_zero, List.getD_cons_succ, f2, f3, f5, f6] at hh
          simp only [guarded, relyAt]
          go_simp
          first
            | exact ⟨Ext.refl _, rfl⟩
            | exact Ext.refl _))
      simp only [List.cons_append, List.nil_append]
      refine hF.out fun W hRW => ?_
      simp only [List.take_succ_cons, List.take_zero, List.drop_succ_cons, List.drop_zero, fin, forall_eq, Act.put, List.setIfInBounds_toArray, List.set_cons_zero, List.set_cons_succ]
      clear HX HY hF f2 f3 f5 f6
      have hE := Ext.trans (ext_drew wr) hRW
      have hA' := row_ext hA hE
      have hB' := row_ext hB hE
      have hC' := row_ext hC hE
      have hD' := row_ext hD hE
      have hcx := row_cell hD' hZ
      have hfx := row_frozen hD' k
      go_wp2
      exact ⟨⟨k + 1, by omega, by go_num, ext_set (Ext.trans he hE) (by omega) _ _, (set_row_other _ _ (by omega)).trans hA', (set_row_other _ _ (by omega)).trans hB', ⟨b, hbs, (set_row_other _ _ (by omega)).trans hC'⟩, (set_row _ _ hD').trans (by rw [hS])⟩, by simp [intOf]; omega⟩
    · obtain rfl : k = 16 := by omega
      go_wp2_with first
        | (go_at_call 66
           (with_reducible refine (HC.out _).mono ?_)
           rintro e w' ⟨rfl, hw⟩
           have hC' := row_ext hC hw)
        | (with_reducible show wpList _ _ _ ((⟨_, .load 94 _, _, _, _, _⟩ : Oper) :: _) _ _
           refine wpList_load_row rfl 94 _ rfl (w.heap.size + 1 + 1 + 1) rfl 94 _ (0, 0) _ hD Tryd.underlying94 rfl (info70 _ (mix_len _ _ _ _)) ?_)
        | (with_reducible show wpList _ _ _ ((⟨_, .store 34 _ _, _, _, _, _⟩ : Oper) :: _) _ _
           refine wpList_store_row rfl 34 _ _ rfl (w.heap.size + 1 + 1) _ rfl rfl 34 _ hC' (infoL _ hrl) (by rw [hbs, ints_size, hrl]) (ints_one _ _) ?_)
      exact bodyPost_ret (results_cell_row (p := 4) rfl _ _ (w.heap.size + 1 + 1) 34 _ (0, 0) _ rfl (setRow_heap _ _ _ _ _ _ hC') Tryd.underlying34 rfl (infoL _ hrl)) rfl ⟨rfl, ext_setRow (Ext.trans he hw) (by omega) _⟩
end Go.Proofs.YtaojnmjmmfdfjaaDoor.Field
end

/-! The document's numbers: differences, products, bytes. -/
section
namespace Go.Proofs.YtaojnmjmmfdfjaaDoor.Field
open Go Go.RowKit
open Go.Proofs.YtaojnmjmmfdfjaaDoor.Rely
set_option linter.unusedVariables false

theorem lSub (x y : Int) (hx : 0 ≤ x ∧ x < big) (hy : 0 ≤ y ∧ y ≤ p) (w : World) : Calls Tryd.prog 46 #[lnum x, lnum y] w (Ret w (lnum ((x - y) % p))) := by
  have hp0 : (0 : Int) ≤ p ∧ p < big := by decide
  have HM : Hid (∀ w, Calls Tryd.prog 70 #[lnum p, lnum y] w (Ret w (lnum (p - y)))) := Lib.hid fun w => minus p y hy.1 hy.2 hp0.2 w
  have HA : Hid (∀ w, Calls Tryd.prog 43 #[lnum x, lnum (p - y)] w (Ret w (lnum ((x - y) % p)))) := Lib.hid fun w => by
    have := lAdd x (p - y) hx (by omega) w
    rw [show (x + (p - y)) % p = (x - y) % p by rw [show x + (p - y) = x - y + p by omega, Int.add_emod_right]] at this
    exact this
  have HP : Hid (∀ w, Calls Tryd.prog 67 #[] w (Ret w (lnum p))) := Lib.hid prime
  unfold lnum at HM HA HP ⊢
  have hxl := lims_len x
  have hyl := lims_len y
  have hrl := lims_len ((x - y) % p)
  generalize lims ((x - y) % p) = res at *
  generalize lims (p - y) = l1 at *
  generalize lims x = lx at *
  generalize lims y = ly at *
  generalize lims p = lp at *
  clear hx hy hp0
  go_enter Tryd.func46, Tryd.ntmps46
  go_wp2_with fail
  generalize hW : ((w.alloc (.cells (ints .i64 lx) 34)).alloc (.cells (ints .i64 ly) 34)).alloc _ = W0
  have hA : W0.heap[w.heap.size]? = some (.cells (ints .i64 lx) 34) := by rw [← hW]; exact alloc3_fst _ _ _ _
  have hB : W0.heap[w.heap.size + 1]? = some (.cells (ints .i64 ly) 34) := by rw [← hW]; exact alloc3_mid _ _ _ _
  have hC : ∃ b : Array Value, b.size = 16 ∧ W0.heap[w.heap.size + 1 + 1]? = some (.cells b 34) := by rw [← hW]; exact ⟨_, rfl, alloc3_new _ _ _ _⟩
  obtain ⟨b, hbs, hC⟩ := hC
  have he : Ext w W0 := by rw [← hW]; exact ext3 _ _ _ _
  clear hW
  refine wp_region_rely Ext 4 10 [⟨none, [(2, none)]⟩, ⟨none, []⟩, ⟨none, [(3, none)]⟩, ⟨none, [(6, some 1), (7, some 2)]⟩] (by kernel_rfl) (by kernel_rfl) rfl Ext.refl Ext.trans (fun F r0 hr hF => ?_)
  have f2 : r0 2 = .pointer (some ⟨w.heap.size, 0, none⟩) := by rw [hr]; rfl
  have f3 : r0 3 = .pointer (some ⟨w.heap.size + 1, 0, none⟩) := by rw [hr]; rfl
  clear hr
  simp only [List.take_succ_cons, List.take_zero]
  refine step_const (.agg (ints .i64 lx)) (fun ρ W hR hh => ?_) ?_
  · exact relyAt_load_row 34 (.tmp _) rfl _ (Eq.trans hh.1 f2) 34 _ (0, 0) _ (row_ext (row_ext hA (ext_drew _)) hR) Tryd.underlying34 rfl (infoL _ hxl)
  refine step_const (.agg (ints .i64 lp)) (fun ρ W hR hh => ?_) ?_
  · simp only [guarded, relyAt]
    go_simp
    exact ⟨Ext.refl _, (HP.out _).mono fun _ _ h => h.const⟩
  refine step_const (.agg (ints .i64 ly)) (fun ρ W hR hh => ?_) ?_
  · exact relyAt_load_row 34 (.tmp _) rfl _ (Eq.trans hh.1 f3) 34 _ (0, 0) _ (row_ext (row_ext hB (ext_drew _)) hR) Tryd.underlying34 rfl (infoL _ hyl)
  refine step_const (.agg (ints .i64 l1)) (fun ρ W hR hh => ?_) ?_
  · have h6 : ρ 6 = .agg (ints .i64 lp) := hh.1
    have h7 : ρ 7 = .agg (ints .i64 ly) := hh.2.1
    simp only [guarded, relyAt]
    go_simp
    exact ⟨Ext.refl _, (HM.out _).mono fun _ _ h => h.const⟩
  simp only [List.cons_append, List.nil_append]
  refine hF.out fun W hR => ?_
  simp only [List.take_succ_cons, List.take_zero, List.drop_succ_cons, List.drop_zero, fin, forall_eq, Act.put, List.setIfInBounds_toArray, List.set_cons_zero, List.set_cons_succ]
  clear hF
  go_wp2_with first
    | (go_at_call 43
       (with_reducible refine (HA.out _).mono ?_)
       rintro e w' ⟨rfl, hw⟩
       have hC' := row_ext (row_ext (row_ext hC (ext_drew _)) hR) hw
       have he' := Ext.trans (Ext.trans (Ext.trans he (ext_drew _)) hR) hw)
    | (with_reducible show wpList _ _ _ ((⟨_, .store 34 _ _, _, _, _, _⟩ : Oper) :: _) _ _
       refine wpList_store_row rfl 34 _ _ rfl (w.heap.size + 1 + 1) _ rfl rfl 34 _ hC' (infoL _ hrl) (by rw [hbs, ints_size, hrl]) (ints_one _ _) ?_)
  exact bodyPost_ret (results_cell_row (p := 4) rfl _ _ (w.heap.size + 1 + 1) 34 _ (0, 0) _ rfl (setRow_heap _ _ _ _ _ _ hC') Tryd.underlying34 rfl (infoL _ hrl)) rfl ⟨rfl, ext_setRow he' (by omega) _⟩

/-! ### Bytes -/
theorem byte_low (n : Int) (k : Nat) : limb n k % 256 = byteAt n (2 * k) := by
  unfold limb byteAt
  rw [Int.pow_mul, show (256 : Int) ^ 2 = 65536 by decide]
  omega
theorem byte_high (n : Int) (k : Nat) : limb n k / 256 = byteAt n (2 * k + 1) := by
  unfold limb byteAt
  rw [Int.pow_succ, Int.pow_mul, show (256 : Int) ^ 2 = 65536 by decide, ← Int.ediv_ediv_of_nonneg (Int.le_of_lt (B_pos k))]
  omega
theorem lBytes (n : Int) (w : World) : Calls Tryd.prog 40 #[lnum n] w (Ret w (.agg (ints .u8 (bytesOf n)))) := by
  unfold lnum
  go_enter Tryd.func40, Tryd.ntmps40
  go_wp2_with fail
  go_loopw [4] (fun i wr => ∃ k : Nat, k ≤ 16 ∧ i = .int .i64 k ∧ Ext w wr ∧ wr.heap[w.heap.size]? = some (.cells (ints .i64 (lims n)) 34) ∧
    (∃ b, b.size = 32 ∧ wr.heap[w.heap.size + 1]? = some (.cells b 23)) ∧ wr.heap[w.heap.size + 1 + 1]? = some (.cells (ints .u8 (part n (2 * k))) 23)) (fun i _ => 16 - (intOf i).toNat)
  case atStart => exact ⟨0, by omega, rfl, ext3 _ _ _ _, alloc3_fst _ _ _ _, ⟨_, rfl, alloc3_mid _ _ _ _⟩, alloc3_new _ _ _ _⟩
  case round =>
    obtain ⟨k, hk, rfl, he, hA, ⟨b, hbs, hB⟩, hC⟩ := hrel
    by_cases hlt : k < 16
    · have hX : (ints .i64 (lims n))[k]? = some (.int .i64 (limb n k)) := by rw [ints_get _ _ _ (by rw [lims_len]; exact hlt), lims_nth _ _ hlt]
      have g1 := part_get n (2 * k) (by omega)
      have s1 := part_set n (2 * k) (by omega)
      have g2 := part_get n (2 * k + 1) (by omega)
      have s2 := part_set n (2 * k + 1) (by omega)
      have e1 := byte_low n k
      have e2 := byte_high n k
      have b1 := limb_range n k
      generalize hlx : limb n k = lx at *
      have q1 : IntKind.i64.wrap (2 * (k : Int)) = 2 * (k : Int) := IntWalk.i64_in _ (by omega)
      have q2 : (2 * (k : Int)).toNat = 2 * k := by omega
      have q3 : (0 : Int) ≤ 2 * (k : Int) := by omega
      have q4 : 2 * (k : Int) < 32 := by omega
      have q5 : IntKind.i64.wrap (2 * (k : Int) + 1) = 2 * (k : Int) + 1 := IntWalk.i64_in _ (by omega)
      have q6 : (2 * (k : Int) + 1).toNat = 2 * k + 1 := by omega
      have q7 : (0 : Int) ≤ 2 * (k : Int) + 1 := by omega
      have q8 : 2 * (k : Int) + 1 < 32 := by omega
      have w2 : lx.tmod 256 = lx % 256 := Int.tmod_eq_emod_of_nonneg (by omega)
      have w3 : IntKind.i64.wrap (lx % 256) = lx % 256 := IntWalk.i64_in _ (by omega)
      have w4 : lx.tdiv 256 = lx / 256 := Int.tdiv_eq_ediv_of_nonneg (by omega)
      have w5 : IntKind.i64.wrap (lx / 256) = lx / 256 := IntWalk.i64_in _ (by omega)
      have w6 : IntKind.u8.wrap (lx % 256) = lx % 256 := by rw [IntKind.wrap_u8]; omega
      have w7 : IntKind.u8.wrap (lx / 256) = lx / 256 := by rw [IntKind.wrap_u8]; omega
      have hcx := row_cell hA hX
      have hcy := row_cell hC g1
      have hfy := row_frozen hC (2 * k)
      have hC2 := set_row (2 * k) (.int .u8 (lx % 256)) hC
      rw [e1, s1] at hC2
      rw [← e1] at hC2
      have hA2 := (set_row_other (W := wr) (2 * k) (.int .u8 (lx % 256)) (show w.heap.size ≠ w.heap.size + 1 + 1 by omega)).trans hA
      have hB2 := (set_row_other (W := wr) (2 * k) (.int .u8 (lx % 256)) (show w.heap.size + 1 ≠ w.heap.size + 1 + 1 by omega)).trans hB
      have he2 := ext_set he (show w.heap.size ≤ w.heap.size + 1 + 1 by omega) (2 * k) (.int .u8 (lx % 256))
      generalize hwz : wr.setCell ⟨w.heap.size + 1 + 1, 2 * k, none⟩ (.int .u8 (lx % 256)) = wz at *
      have hcx2 := row_cell hA2 hX
      have hcy2 := row_cell hC2 g2
      have hfy2 := row_frozen hC2 (2 * k + 1)
      have e1' := Lib.hid e1
      have e2' := Lib.hid e2
      clear e1 e2 s1
      go_wp2
      exact ⟨⟨k + 1, by omega, by go_num, ext_set he2 (by omega) _ _, (set_row_other _ _ (by omega)).trans hA2, ⟨b, hbs, (set_row_other _ _ (by omega)).trans hB2⟩, (set_row _ _ hC2).trans (by rw [e2'.out, s2]; rfl)⟩, by simp [intOf]; omega⟩
    · obtain rfl : k = 16 := by omega
      have hi : (Tryd.prog.info? 23).map (·.size) = some (ints .u8 (bytesOf n)).size := by rw [infoKey, ints_size]; rfl
      have hbl : b.size = (ints .u8 (bytesOf n)).size := by rw [hbs, ints_size]; rfl
      have hC : wr.heap[w.heap.size + 1 + 1]? = some (.cells (ints .u8 (bytesOf n)) 23) := hC
      go_wp2_with first
        | (with_reducible show wpList _ _ _ ((⟨_, .load 23 _, _, _, _, _⟩ : Oper) :: _) _ _
           refine wpList_load_row rfl 23 _ rfl (w.heap.size + 1 + 1) rfl 23 (ints .u8 (bytesOf n)) (0, 0) _ hC Tryd.underlying23 rfl hi ?_)
        | (with_reducible show wpList _ _ _ ((⟨_, .store 23 _ _, _, _, _, _⟩ : Oper) :: _) _ _
           refine wpList_store_row rfl 23 _ _ rfl (w.heap.size + 1) (ints .u8 (bytesOf n)) rfl rfl 23 _ hB hi hbl (ints_one _ _) ?_)
      exact bodyPost_ret (results_cell_row (p := 2) rfl _ _ (w.heap.size + 1) 23 (ints .u8 (bytesOf n)) (0, 0) _ rfl (setRow_heap _ _ _ _ _ _ hB) Tryd.underlying23 rfl hi) rfl ⟨rfl, ext_setRow he (by omega) _⟩
end Go.Proofs.YtaojnmjmmfdfjaaDoor.Field
end

/-! The document's numbers: the number of bytes, and products. -/
section
namespace Go.Proofs.YtaojnmjmmfdfjaaDoor.Field
open Go Go.RowKit
open Go.Proofs.YtaojnmjmmfdfjaaDoor.Rely
set_option linter.unusedVariables false

/-! ### From -/
def two255 : Int := 57896044618658097711785492504343953926634992332820282019728792003956564819968
def pairAt (xs : List Int) (i : Nat) : Int := nth xs (2 * i) + 256 * nth xs (2 * i + 1)
def pairCut (xs : List Int) (i : Nat) : Int := if i = 15 then pairAt xs 15 % 32768 else pairAt xs i
theorem pair_range (xs : List Int) (hb : AreBytes xs) (i : Nat) : 0 ≤ pairAt xs i ∧ pairAt xs i < 65536 := by
  have h1 := hb.nth (2 * i)
  have h2 := hb.nth (2 * i + 1)
  unfold pairAt
  omega
theorem pair_val (xs : List Int) : ∀ k, pvf (pairAt xs) k = leAt xs 0 (2 * k)
  | 0 => rfl
  | k + 1 => by
    have e : 2 * (k + 1) = 2 * k + 1 + 1 := by omega
    have f : (256 : Int) ^ (2 * k) = 65536 ^ k := by rw [Int.pow_mul]; rfl
    have f' : (256 : Int) ^ (2 * k + 1) = 256 * 65536 ^ k := by rw [Int.pow_succ, f, Int.mul_comm]
    rw [pvf, pair_val xs k, e, leAt, leAt, Nat.zero_add, Nat.zero_add, f, f', pairAt]
    generalize (65536 : Int) ^ k = b
    generalize nth xs (2 * k) = u
    generalize nth xs (2 * k + 1) = v
    generalize leAt xs 0 (2 * k) = z
    grind
theorem pair_cut (xs : List Int) (hb : AreBytes xs) : pvf (pairCut xs) 16 = leAt xs 0 32 % two255 := by
  have h := pair_val xs 16
  have e1 : pvf (pairAt xs) 16 = pvf (pairAt xs) 15 + pairAt xs 15 * 65536 ^ 15 := rfl
  have e2 : pvf (pairCut xs) 16 = pvf (pairCut xs) 15 + pairCut xs 15 * 65536 ^ 15 := rfl
  have e3 : pvf (pairCut xs) 15 = pvf (pairAt xs) 15 := pvf_congr (n := 15) (fun i hi => by unfold pairCut; rw [if_neg (by omega)]) 15 (Nat.le_refl _)
  have e4 : pairCut xs 15 = pairAt xs 15 % 32768 := by unfold pairCut; rw [if_pos rfl]
  have r1 := pvf_range (pairAt xs) 15 (fun i _ => pair_range xs hb i) 15 (Nat.le_refl _)
  have r2 := pair_range xs hb 15
  have f1 : (65536 : Int) ^ 15 = 1766847064778384329583297500742918515827483896875618958121606201292619776 := by decide
  rw [show 2 * 16 = 32 from rfl] at h
  rw [← h, e1, e2, e3, e4, f1]
  rw [f1] at r1
  unfold two255
  omega
theorem cut_set (xs : List Int) : (mix 32 (pairAt xs) (fun _ => 0) 16).set 15 (pairAt xs 15 % 32768) = mix 32 (pairCut xs) (fun _ => 0) 16 := by
  refine List.ext_getElem (by simp [mix]) fun i h1 h2 => ?_
  have h3 : i < 32 := by simpa [mix] using h2
  simp only [mix, List.getElem_set, List.getElem_map, List.getElem_range]
  unfold pairCut
  by_cases h : i = 15
  · subst h; simp
  · rw [if_neg (show ¬ 15 = i by omega), if_neg h]

set_option maxRecDepth 100000 in
theorem lFrom (xs : List Int) (hl : xs.length = 32) (hb : AreBytes xs) (w : World) : Calls Tryd.prog 39 #[.agg (ints .u8 xs)] w (Ret w (lnum (leAt xs 0 32 % 57896044618658097711785492504343953926634992332820282019728792003956564819968 % p))) := by
  have hi : (Tryd.prog.info? 23).map (·.size) = some (ints .u8 xs).size := by rw [infoKey, ints_size, hl]
  have hv : pvf (nth (mix 32 (pairCut xs) (fun _ => 0) 16)) 32 = leAt xs 0 32 % two255 := by rw [pvf_mix _ _ (by decide), pair_cut xs hb]
  have HC : Hid (∀ w, Calls Tryd.prog 66 #[.agg (ints .i64 (mix 32 (pairCut xs) (fun _ => 0) 16))] w (Ret w (lnum (leAt xs 0 32 % two255 % p)))) := Lib.hid fun w => by
    have := small (mix 32 (pairCut xs) (fun _ => 0) 16) (mix_len _ _ _ _) (mix_range _ 16 fun i _ => by
      have := pair_range xs hb i
      have := pair_range xs hb 15
      unfold pairCut M
      split <;> omega) (by
        rw [hv, pow32]
        have h1 := Int.emod_nonneg (leAt xs 0 32) (show two255 ≠ 0 by decide)
        have h2 := Int.emod_lt_of_pos (leAt xs 0 32) (show (0 : Int) < two255 by decide)
        have h3 : two255 < big * big := by decide
        omega) w
    rw [hv] at this
    exact this
  unfold lnum two255 at HC
  unfold lnum
  have hrl := lims_len (leAt xs 0 32 % 57896044618658097711785492504343953926634992332820282019728792003956564819968 % p)
  generalize lims (leAt xs 0 32 % 57896044618658097711785492504343953926634992332820282019728792003956564819968 % p) = res at *
  clear hv
  go_enter Tryd.func39, Tryd.ntmps39
  go_wp2_with fail
  go_loopw [4] (fun i wr => ∃ k : Nat, k ≤ 16 ∧ i = .int .i64 k ∧ Ext w wr ∧ wr.heap[w.heap.size]? = some (.cells (ints .u8 xs) 23) ∧
    (∃ b, b.size = 16 ∧ wr.heap[w.heap.size + 1]? = some (.cells b 34)) ∧ wr.heap[w.heap.size + 1 + 1]? = some (.cells (ints .i64 (mix 32 (pairAt xs) (fun _ => 0) k)) 94)) (fun i _ => 16 - (intOf i).toNat)
  case atStart => exact ⟨0, by omega, rfl, ext3 _ _ _ _, alloc3_fst _ _ _ _, ⟨_, rfl, alloc3_mid _ _ _ _⟩, alloc3_new _ _ _ _⟩
  case round =>
    obtain ⟨k, hk, rfl, he, hA, ⟨b, hbs, hB⟩, hC⟩ := hrel
    by_cases hlt : k < 16
    · have hX : (ints .u8 xs)[2 * k]? = some (.int .u8 (nth xs (2 * k))) := ints_get _ _ _ (by omega)
      have hY : (ints .u8 xs)[2 * k + 1]? = some (.int .u8 (nth xs (2 * k + 1))) := ints_get _ _ _ (by omega)
      have hZ : (ints .i64 (mix 32 (pairAt xs) (fun _ => 0) k))[k]? = some (.int .i64 0) := by rw [ints_get _ _ _ (by rw [mix_len]; omega), mix_nth _ _ _ _ _ (by omega), if_neg (by omega)]
      have hS : (ints .i64 (mix 32 (pairAt xs) (fun _ => 0) k)).setIfInBounds k (.int .i64 (pairAt xs k)) = ints .i64 (mix 32 (pairAt xs) (fun _ => 0) (k + 1)) := by
        rw [ints_set, ← mix_set _ _ _ _ (by omega)]
      have b1 := hb.nth (2 * k)
      have b2 := hb.nth (2 * k + 1)
      have eP : pairAt xs k = nth xs (2 * k) + 256 * nth xs (2 * k + 1) := rfl
      generalize hlx : nth xs (2 * k) = lx at *
      generalize hly : nth xs (2 * k + 1) = ly at *
      rw [eP] at hS
      clear eP
      have q1 : IntKind.i64.wrap (2 * (k : Int)) = 2 * (k : Int) := IntWalk.i64_in _ (by omega)
      have q2 : (2 * (k : Int)).toNat = 2 * k := by omega
      have q3 : (0 : Int) ≤ 2 * (k : Int) := by omega
      have q4 : 2 * (k : Int) < 32 := by omega
      have q5 : IntKind.i64.wrap (2 * (k : Int) + 1) = 2 * (k : Int) + 1 := IntWalk.i64_in _ (by omega)
      have q6 : (2 * (k : Int) + 1).toNat = 2 * k + 1 := by omega
      have q7 : (0 : Int) ≤ 2 * (k : Int) + 1 := by omega
      have q8 : 2 * (k : Int) + 1 < 32 := by omega
      have q9 : (k : Int) < 32 := by omega
      have w1 : IntKind.i64.wrap lx = lx := IntWalk.i64_in _ (by omega)
      have w2 : IntKind.i64.wrap ly = ly := IntWalk.i64_in _ (by omega)
      have w3 : IntKind.i64.wrap (256 * ly) = 256 * ly := IntWalk.i64_in _ (by omega)
      have w4 : IntKind.i64.wrap (lx + 256 * ly) = lx + 256 * ly := IntWalk.i64_in _ (by omega)
      have HX : Hid (∀ W, Ext wr.drew W → W.cell? ⟨w.heap.size, 2 * k, none⟩ = some (.int .u8 lx)) := Lib.hid fun W hR => row_cell (row_ext (row_ext hA (ext_drew _)) hR) hX
      have HY : Hid (∀ W, Ext wr.drew W → W.cell? ⟨w.heap.size, 2 * k + 1, none⟩ = some (.int .u8 ly)) := Lib.hid fun W hR => row_cell (row_ext (row_ext hA (ext_drew _)) hR) hY
      go_wp2
      refine wp_region_rely Ext 15 30 [⟨none, [(4, none)]⟩, ⟨none, [(4, none)]⟩, ⟨none, [(10, some 1)]⟩, ⟨none, [(1, none), (11, some 2)]⟩, ⟨none, [(12, some 3)]⟩, ⟨none, [(13, some 4)]⟩, ⟨none, [(4, none)]⟩, ⟨none, [(15, some 6)]⟩, ⟨none, [(16, some 7)]⟩, ⟨none, [(1, none), (17, some 8)]⟩, ⟨none, [(18, some 9)]⟩, ⟨none, [(19, some 10)]⟩, ⟨none, [(20, some 11)]⟩, ⟨none, [(14, some 5), (21, some 12)]⟩, ⟨none, [(3, none), (9, some 0)]⟩] (by kernel_rfl) (by kernel_rfl) rfl Ext.refl Ext.trans (fun F r0 hr hF => ?_)
      have f1 : r0 1 = .pointer (some ⟨w.heap.size, 0, none⟩) := by rw [hr]; rfl
      have f3 : r0 3 = .pointer (some ⟨w.heap.size + 1 + 1, 0, none⟩) := by rw [hr]; rfl
      have f4 : r0 4 = .int .i64 k := by rw [hr]; rfl
      clear hr
      simp only [List.take_succ_cons, List.take_zero]
      repeat
        (try simp only [List.cons_append, List.nil_append]
         apply step_const
         (intro ρ W hR hh
          have hcx := HX.out W hR
          have hcy := HY.out W hR
          simp only [Holds, List.getD_cons_zero, List.getD_cons_succ, f1, f3, f4] at hh
          simp only [guarded, relyAt]
          go_simp
          first
            | exact ⟨Ext.refl _, rfl⟩
            | exact Ext.refl _))
      simp only [List.cons_append, List.nil_append]
      refine hF.out fun W hRW => ?_
      simp only [List.take_succ_cons, List.take_zero, List.drop_succ_cons, List.drop_zero, fin, forall_eq, Act.put, List.setIfInBounds_toArray, List.set_cons_zero, List.set_cons_succ]
      clear HX HY hF f1 f3 f4
      have hE := Ext.trans (ext_drew wr) hRW
      have hA' := row_ext hA hE
      have hB' := row_ext hB hE
      have hC' := row_ext hC hE
      have hcx := row_cell hC' hZ
      have hfx := row_frozen hC' k
      go_wp2
      exact ⟨⟨k + 1, by omega, by go_num, ext_set (Ext.trans he hE) (by omega) _ _, (set_row_other _ _ (by omega)).trans hA', ⟨b, hbs, (set_row_other _ _ (by omega)).trans hB'⟩, (set_row _ _ hC').trans (by rw [hS])⟩, by simp [intOf]; omega⟩
    · obtain rfl : k = 16 := by omega
      have hX : (ints .i64 (mix 32 (pairAt xs) (fun _ => 0) 16))[15]? = some (.int .i64 (pairAt xs 15)) := by rw [ints_get _ _ _ (by rw [mix_len]; decide), mix_nth _ _ _ _ _ (by decide), if_pos (by decide)]
      have hS : (ints .i64 (mix 32 (pairAt xs) (fun _ => 0) 16)).setIfInBounds 15 (.int .i64 (pairAt xs 15 % 32768)) = ints .i64 (mix 32 (pairCut xs) (fun _ => 0) 16) := by rw [ints_set, cut_set]
      have b1 := pair_range xs hb 15
      generalize hlx : pairAt xs 15 = lx at *
      have w3 : lx.tmod 32768 = lx % 32768 := Int.tmod_eq_emod_of_nonneg (by omega)
      have w4 : IntKind.i64.wrap (lx % 32768) = lx % 32768 := IntWalk.i64_in _ (by omega)
      have hcx := row_cell hC hX
      have hfx := row_frozen hC 15
      have hC2 := set_row 15 (.int .i64 (lx % 32768)) hC
      rw [hS] at hC2
      have hB2 := (set_row_other (W := wr) 15 (.int .i64 (lx % 32768)) (show w.heap.size + 1 ≠ w.heap.size + 1 + 1 by omega)).trans hB
      have he2 := ext_set he (show w.heap.size ≤ w.heap.size + 1 + 1 by omega) 15 (.int .i64 (lx % 32768))
      generalize hwz : wr.setCell ⟨w.heap.size + 1 + 1, 15, none⟩ (.int .i64 (lx % 32768)) = wz at *
      go_wp2_with first
        | (go_at_call 66
           (with_reducible refine (HC.out _).mono ?_)
           rintro e w' ⟨rfl, hw⟩
           have hB' := row_ext hB2 hw)
        | (with_reducible show wpList _ _ _ ((⟨_, .load 94 _, _, _, _, _⟩ : Oper) :: _) _ _
           refine wpList_load_row rfl 94 _ rfl (w.heap.size + 1 + 1) rfl 94 _ (0, 0) _ hC2 Tryd.underlying94 rfl (info70 _ (mix_len _ _ _ _)) ?_)
        | (with_reducible show wpList _ _ _ ((⟨_, .store 34 _ _, _, _, _, _⟩ : Oper) :: _) _ _
           refine wpList_store_row rfl 34 _ _ rfl (w.heap.size + 1) _ rfl rfl 34 _ hB' (infoL _ hrl) (by rw [hbs, ints_size, hrl]) (ints_one _ _) ?_)
      exact bodyPost_ret (results_cell_row (p := 2) rfl _ _ (w.heap.size + 1) 34 _ (0, 0) _ rfl (setRow_heap _ _ _ _ _ _ hB') Tryd.underlying34 rfl (infoL _ hrl)) rfl ⟨rfl, ext_setRow (Ext.trans he2 hw) (by omega) _⟩
end Go.Proofs.YtaojnmjmmfdfjaaDoor.Field
end

/-! The document's numbers: products. -/
section
namespace Go.Proofs.YtaojnmjmmfdfjaaDoor.Field
open Go Go.RowKit
open Go.Proofs.YtaojnmjmmfdfjaaDoor.Rely
set_option linter.unusedVariables false

theorem pvf_set (xs : List Int) (i : Nat) (d : Int) (hi : i < xs.length) : ∀ n, pvf (nth (xs.set i (nth xs i + d))) n = pvf (nth xs) n + (if i < n then d * 65536 ^ i else 0)
  | 0 => by simp [pvf]
  | n + 1 => by
    rw [pvf, pvf, pvf_set xs i d hi n]
    by_cases h : i = n
    · subst h
      rw [nth_set_eq _ _ _ hi, if_neg (by omega), if_pos (by omega), Int.add_mul]
      omega
    · rw [nth_set_ne _ _ _ _ h]
      by_cases h2 : i < n
      · rw [if_pos h2, if_pos (by omega)]; omega
      · rw [if_neg h2, if_neg (by omega)]; omega
theorem limb_prod (x y : Int) (i j : Nat) : 0 ≤ limb x i * limb y j ∧ limb x i * limb y j ≤ 4294836225 := by
  have h1 := limb_range x i
  have h2 := limb_range y j
  refine ⟨Int.mul_nonneg h1.1 h2.1, ?_⟩
  have := Int.mul_le_mul (show limb x i ≤ 65535 by omega) (show limb y j ≤ 65535 by omega) h2.1 (by decide)
  omega
/-- what lies in the places while a product is reckoned -/
def MulRow (x y : Int) (i j : Nat) (xs : List Int) : Prop :=
  xs.length = 32 ∧ (∀ m, m < 32 → 0 ≤ nth xs m ∧ nth xs m ≤ 4294836225 * (16 * (i : Int) + j)) ∧ pvf (nth xs) 32 = pvf (limb x) i * pvf (limb y) 16 + limb x i * 65536 ^ i * pvf (limb y) j
theorem nth_rep (n m : Nat) : nth (List.replicate n (0 : Int)) m = 0 := by
  unfold nth
  rw [List.getD_eq_getElem?_getD, List.getElem?_replicate]
  split <;> rfl
theorem mulRow_start (x y : Int) : MulRow x y 0 0 (List.replicate 32 0) := by
  refine ⟨rfl, fun m hm => ?_, ?_⟩
  · rw [nth_rep]; simp
  · have : pvf (nth (List.replicate 32 (0 : Int))) 32 = 0 := by
      rw [pvf_congr (h := fun _ => 0) (n := 32) (fun i hi => nth_rep 32 i) 32 (Nat.le_refl _)]
      exact pvf_zero 32
    rw [this]; simp [pvf]
theorem mulRow_next (x y : Int) (i : Nat) (xs : List Int) (h : MulRow x y i 16 xs) : MulRow x y (i + 1) 0 xs := by
  refine ⟨h.1, fun m hm => ?_, ?_⟩
  · have := h.2.1 m hm
    omega
  · rw [h.2.2]
    show _ = (pvf (limb x) i + limb x i * 65536 ^ i) * pvf (limb y) 16 + limb x (i + 1) * 65536 ^ (i + 1) * 0
    rw [Int.add_mul, Int.mul_zero, Int.add_zero]
theorem mulRow_step (x y : Int) (i j : Nat) (xs : List Int) (hi : i < 16) (hj : j < 16) (h : MulRow x y i j xs) : MulRow x y i (j + 1) (xs.set (i + j) (nth xs (i + j) + limb x i * limb y j)) := by
  have hp := limb_prod x y i j
  refine ⟨by simp [h.1], fun m hm => ?_, ?_⟩
  · have hm' := h.2.1 m hm
    by_cases e : i + j = m
    · rw [← e] at hm' ⊢
      rw [nth_set_eq _ _ _ (by rw [h.1]; omega)]
      omega
    · rw [nth_set_ne _ _ _ _ e]
      omega
  · rw [pvf_set _ _ _ (by rw [h.1]; omega), h.2.2, if_pos (by omega), Int.pow_add]
    show _ = pvf (limb x) i * pvf (limb y) 16 + limb x i * 65536 ^ i * (pvf (limb y) j + limb y j * 65536 ^ j)
    generalize pvf (limb x) i * pvf (limb y) 16 = a
    generalize limb x i = b
    generalize limb y j = c
    generalize pvf (limb y) j = d
    generalize (65536 : Int) ^ i = e
    generalize (65536 : Int) ^ j = f
    grind

set_option maxHeartbeats 1000000 in
theorem lMul (x y : Int) (hx : 0 ≤ x ∧ x < big) (hy : 0 ≤ y ∧ y < big) (w : World) : Calls Tryd.prog 42 #[lnum x, lnum y] w (Ret w (lnum (x * y % p))) := by
  have HC : Hid (∀ xs, MulRow x y 16 0 xs → ∀ w, Calls Tryd.prog 66 #[.agg (ints .i64 xs)] w (Ret w (lnum (x * y % p)))) := Lib.hid fun xs h w => by
    have hv : pvf (nth xs) 32 = x * y := by
      rw [h.2.2, limb_val x hx, limb_val y hy]
      simp [pvf]
    have h1 : 0 ≤ x * y := Int.mul_nonneg hx.1 hy.1
    have h2 : x * y < big * big := by
      have a1 : x * y ≤ x * big := Int.mul_le_mul_of_nonneg_left (Int.le_of_lt hy.2) hx.1
      have a2 : x * big < big * big := Int.mul_lt_mul_of_pos_right hx.2 (by decide)
      exact Int.lt_of_le_of_lt a1 a2
    have := small xs h.1 (fun i hi => by
      have := h.2.1 i hi
      unfold M
      omega) (by rw [hv, pow32]; exact ⟨h1, h2⟩) w
    rw [hv] at this
    exact this
  unfold lnum at HC ⊢
  have hrl := lims_len (x * y % p)
  generalize lims (x * y % p) = res at *
  go_enter Tryd.func42, Tryd.ntmps42
  go_wp2_with fail
  go_loopw [6] (fun i wr => ∃ k : Nat, k ≤ 16 ∧ i = .int .i64 k ∧ Ext w wr ∧ wr.heap[w.heap.size]? = some (.cells (ints .i64 (lims x)) 34) ∧ wr.heap[w.heap.size + 1]? = some (.cells (ints .i64 (lims y)) 34) ∧
    (∃ b, b.size = 16 ∧ wr.heap[w.heap.size + 1 + 1]? = some (.cells b 34)) ∧ ∃ xs, MulRow x y k 0 xs ∧ wr.heap[w.heap.size + 1 + 1 + 1]? = some (.cells (ints .i64 xs) 94)) (fun i _ => 16 - (intOf i).toNat)
  case atStart => exact ⟨0, by omega, rfl, ext4 _ _ _ _ _, alloc4_1 _ _ _ _ _, alloc4_2 _ _ _ _ _, ⟨_, rfl, alloc4_3 _ _ _ _ _⟩, _, mulRow_start x y, alloc4_4 _ _ _ _ _⟩
  case round =>
    obtain ⟨i, hi, rfl, he, hA, hB, ⟨b, hbs, hC⟩, xs, hM, hD⟩ := hrel
    by_cases hlt : i < 16
    · have HD := Lib.hid hM
      clear hM
      go_wp2
      go_loopw [7] (fun j wq => ∃ k : Nat, k ≤ 16 ∧ j = .int .i64 k ∧ Ext w wq ∧ wq.heap[w.heap.size]? = some (.cells (ints .i64 (lims x)) 34) ∧ wq.heap[w.heap.size + 1]? = some (.cells (ints .i64 (lims y)) 34) ∧
        wq.heap[w.heap.size + 1 + 1]? = some (.cells b 34) ∧ ∃ xs, MulRow x y i k xs ∧ wq.heap[w.heap.size + 1 + 1 + 1]? = some (.cells (ints .i64 xs) 94)) (fun j _ => 16 - (intOf j).toNat)
      case atStart => exact ⟨0, by omega, rfl, he, hA, hB, hC, xs, HD.out, hD⟩
      case round =>
        clear hA hB hC hD he HD
        obtain ⟨k, hk, rfl, he, hA, hB, hC, xs, hM, hD⟩ := hrel
        by_cases hk16 : k < 16
        · have hX : (ints .i64 (lims x))[i]? = some (.int .i64 (limb x i)) := by rw [ints_get _ _ _ (by rw [lims_len]; exact hlt), lims_nth _ _ hlt]
          have hY : (ints .i64 (lims y))[k]? = some (.int .i64 (limb y k)) := by rw [ints_get _ _ _ (by rw [lims_len]; exact hk16), lims_nth _ _ hk16]
          have hZ : (ints .i64 xs)[i + k]? = some (.int .i64 (nth xs (i + k))) := ints_get _ _ _ (by rw [hM.1]; omega)
          have hN := Lib.hid (mulRow_step x y i k xs hlt hk16 hM)
          have hS : (ints .i64 xs).setIfInBounds (i + k) (.int .i64 (nth xs (i + k) + limb x i * limb y k)) = ints .i64 (xs.set (i + k) (nth xs (i + k) + limb x i * limb y k)) := by rw [ints_set]
          have b1 := hM.2.1 (i + k) (by omega)
          have b2 := limb_prod x y i k
          clear hM
          generalize hzz : nth xs (i + k) = zz at *
          generalize hlx : limb x i = lx at *
          generalize hly : limb y k = ly at *
          have w1 : IntKind.i64.wrap (lx * ly) = lx * ly := IntWalk.i64_in _ (by omega)
          have w2 : IntKind.i64.wrap (zz + lx * ly) = zz + lx * ly := IntWalk.i64_in _ (by omega)
          have q1 : IntKind.i64.wrap ((i : Int) + (k : Int)) = (i : Int) + (k : Int) := IntWalk.i64_in _ (by omega)
          have q2 : ((i : Int) + (k : Int)).toNat = i + k := by omega
          have q3 : (0 : Int) ≤ (i : Int) + (k : Int) := by omega
          have q4 : (i : Int) + (k : Int) < 32 := by omega
          have q5 : (i : Int) < 16 := by omega
          have HX : Hid (∀ W, Ext wr.drew W → W.cell? ⟨w.heap.size, i, none⟩ = some (.int .i64 lx)) := Lib.hid fun W hR => row_cell (row_ext (row_ext hA (ext_drew _)) hR) hX
          have HY : Hid (∀ W, Ext wr.drew W → W.cell? ⟨w.heap.size + 1, k, none⟩ = some (.int .i64 ly)) := Lib.hid fun W hR => row_cell (row_ext (row_ext hB (ext_drew _)) hR) hY
          have HZ : Hid (∀ W, Ext wr.drew W → W.cell? ⟨w.heap.size + 1 + 1 + 1, i + k, none⟩ = some (.int .i64 zz)) := Lib.hid fun W hR => row_cell (row_ext (row_ext hD (ext_drew _)) hR) hZ
          clear b1 b2
          go_wp2
          refine wp_region_rely Ext 17 35 [⟨none, [(6, none)]⟩, ⟨none, [(7, none)]⟩, ⟨none, [(16, some 0), (17, some 1)]⟩, ⟨none, [(6, none)]⟩, ⟨none, [(7, none)]⟩, ⟨none, [(19, some 3), (20, some 4)]⟩, ⟨none, [(5, none), (21, some 5)]⟩, ⟨none, [(22, some 6)]⟩, ⟨none, [(6, none)]⟩, ⟨none, [(2, none), (24, some 8)]⟩, ⟨none, [(25, some 9)]⟩, ⟨none, [(7, none)]⟩, ⟨none, [(3, none), (27, some 11)]⟩, ⟨none, [(28, some 12)]⟩, ⟨none, [(26, some 10), (29, some 13)]⟩, ⟨none, [(23, some 7), (30, some 14)]⟩, ⟨none, [(5, none), (18, some 2)]⟩] (by kernel_rfl) (by kernel_rfl) rfl Ext.refl Ext.trans (fun F r0 hr hF => ?_)
          have f2 : r0 2 = .pointer (some ⟨w.heap.size, 0, none⟩) := by rw [hr]; rfl
          have f3 : r0 3 = .pointer (some ⟨w.heap.size + 1, 0, none⟩) := by rw [hr]; rfl
          have f5 : r0 5 = .pointer (some ⟨w.heap.size + 1 + 1 + 1, 0, none⟩) := by rw [hr]; rfl
          have f6 : r0 6 = .int .i64 i := by rw [hr]; rfl
          have f7 : r0 7 = .int .i64 k := by rw [hr]; rfl
          clear hr
          simp only [List.take_succ_cons, List.take_zero]
          repeat
            (try simp only [List.cons_append, List.nil_append]
             apply step_const
             (intro ρ W hR hh
              have hcx := HX.out W hR
              have hcy := HY.out W hR
              have hcz := HZ.out W hR
              simp only [Holds, List.getD_cons_zero, List.getD_cons_succ, f2, f3, f5, f6, f7] at hh
              simp only [guarded, relyAt]
              go_simp
              first
                | exact ⟨Ext.refl _, rfl⟩
                | exact Ext.refl _))
          simp only [List.cons_append, List.nil_append]
          refine hF.out fun W hRW => ?_
          simp only [List.take_succ_cons, List.take_zero, List.drop_succ_cons, List.drop_zero, fin, forall_eq, Act.put, List.setIfInBounds_toArray, List.set_cons_zero, List.set_cons_succ]
          clear HX HY HZ hF f2 f3 f5 f6 f7
          have hE := Ext.trans (ext_drew wr) hRW
          have hA' := row_ext hA hE
          have hB' := row_ext hB hE
          have hC' := row_ext hC hE
          have hD' := row_ext hD hE
          have hcx := row_cell hD' hZ
          have hfx := row_frozen hD' (i + k)
          go_wp2
          exact ⟨⟨k + 1, by omega, by go_num, ext_set (Ext.trans he hE) (by omega) _ _, (set_row_other _ _ (by omega)).trans hA', (set_row_other _ _ (by omega)).trans hB', (set_row_other _ _ (by omega)).trans hC', _, hN.out, (set_row _ _ hD').trans (by rw [hS])⟩, by simp [intOf]; omega⟩
        · obtain rfl : k = 16 := by omega
          have hN := Lib.hid (mulRow_next x y i xs hM)
          clear hM
          go_wp2
          exact ⟨⟨i + 1, by omega, by go_num, he, hA, hB, ⟨b, hbs, hC⟩, xs, hN.out, hD⟩, by simp [intOf]; omega⟩
    · obtain rfl : i = 16 := by omega
      have HC' := Lib.hid (HC.out xs hM)
      have hi := info70 xs hM.1
      clear hM HC
      go_wp2_with first
        | (go_at_call 66
           (with_reducible refine (HC'.out _).mono ?_)
           rintro e w' ⟨rfl, hw⟩
           have hC' := row_ext hC hw)
        | (with_reducible show wpList _ _ _ ((⟨_, .load 94 _, _, _, _, _⟩ : Oper) :: _) _ _
           refine wpList_load_row rfl 94 _ rfl (w.heap.size + 1 + 1 + 1) rfl 94 _ (0, 0) _ hD Tryd.underlying94 rfl hi ?_)
        | (with_reducible show wpList _ _ _ ((⟨_, .store 34 _ _, _, _, _, _⟩ : Oper) :: _) _ _
           refine wpList_store_row rfl 34 _ _ rfl (w.heap.size + 1 + 1) _ rfl rfl 34 _ hC' (infoL _ hrl) (by rw [hbs, ints_size, hrl]) (ints_one _ _) ?_)
      exact bodyPost_ret (results_cell_row (p := 4) rfl _ _ (w.heap.size + 1 + 1) 34 _ (0, 0) _ rfl (setRow_heap _ _ _ _ _ _ hC') Tryd.underlying34 rfl (infoL _ hrl)) rfl ⟨rfl, ext_setRow (Ext.trans he hw) (by omega) _⟩
end Go.Proofs.YtaojnmjmmfdfjaaDoor.Field
end

/-! What small ones use, where the program has none. -/
section
namespace Go.Proofs.YtaojnmjmmfdfjaaDoor.Field
open Go Go.RowKit
open Go.Proofs.YtaojnmjmmfdfjaaDoor.Rely
set_option linter.unusedVariables false

theorem alloc2_1 (w : World) (a b : Obj) : ((w.alloc a).alloc b).heap[w.heap.size]? = some a := by
  rw [Below.heap_alloc _ _ _ (by simp)]; exact heap_alloc_new _ _
theorem alloc2_2 (w : World) (a b : Obj) : ((w.alloc a).alloc b).heap[w.heap.size + 1]? = some b := by
  have := heap_alloc_new (w.alloc a) b
  simpa using this
theorem limb_step (n : Int) (k : Nat) : n / 65536 ^ k / 65536 = n / 65536 ^ (k + 1) := by
  rw [Int.pow_succ, Int.ediv_ediv_of_nonneg (Int.le_of_lt (B_pos k))]
theorem div_range (n : Int) (h : 0 ≤ n ∧ n < 9223372036854775808) (k : Nat) : 0 ≤ n / 65536 ^ k ∧ n / 65536 ^ k < 9223372036854775808 := by
  have hp := B_pos k
  refine ⟨Int.ediv_nonneg h.1 (Int.le_of_lt hp), Int.lt_of_le_of_lt (Int.ediv_le_self _ h.1) h.2⟩
theorem lims_zero : lims 0 = List.replicate 16 0 := by decide +kernel
theorem lims_one : lims 1 = 1 :: List.replicate 15 0 := by decide +kernel
end Go.Proofs.YtaojnmjmmfdfjaaDoor.Field
end

/-! What the laws of the field use: loads of numbers, the comparison with the document's number. -/
section
namespace Go.Proofs.YtaojnmjmmfdfjaaDoor.Field
open Go Go.RowKit
open Go.Proofs.YtaojnmjmmfdfjaaDoor.Rely
set_option linter.unusedVariables false

def keyNum (xs : List Int) : Int := leAt xs 0 32 % 57896044618658097711785492504343953926634992332820282019728792003956564819968 % p
theorem keyNum_isN (xs : List Int) : isN (keyNum xs) := isN_mod _
theorem isN_big {n : Int} (h : isN n) : 0 ≤ n ∧ n < big := ⟨h.1, Int.lt_trans h.2 (by decide)⟩
theorem load_num {o : Oper} {ρ : Tmp → Value} {W : World} (x : Operand) (ho : o.op = .load 28 x) (g : Nat) (n : Int) (hx : Rely.look ρ x = Value.pointer (some ⟨g, 0, none⟩)) (hg : W.heap[g]? = some (.cells (numA n) 28)) :
    relyAt Tryd.prog Ext o ρ W (fun v _ => v = num n) :=
  relyAt_load_row 28 x ho g hx 28 (numA n) (0, 0) _ hg Tryd.underlying28 rfl infoNum
theorem load_lnum {o : Oper} {ρ : Tmp → Value} {W : World} (x : Operand) (ho : o.op = .load 34 x) (g : Nat) (n : Int) (hx : Rely.look ρ x = Value.pointer (some ⟨g, 0, none⟩)) (hg : W.heap[g]? = some (.cells (ints .i64 (lims n)) 34)) :
    relyAt Tryd.prog Ext o ρ W (fun v _ => v = lnum n) :=
  relyAt_load_row 34 x ho g hx 34 _ (0, 0) _ hg Tryd.underlying34 rfl (infoL _ (lims_len _))
theorem load_key {o : Oper} {ρ : Tmp → Value} {W : World} (x : Operand) (ho : o.op = .load 23 x) (g : Nat) (xs : List Int) (hl : xs.length = 32) (hx : Rely.look ρ x = Value.pointer (some ⟨g, 0, none⟩)) (hg : W.heap[g]? = some (.cells (ints .u8 xs) 23)) :
    relyAt Tryd.prog Ext o ρ W (fun v _ => v = .agg (ints .u8 xs)) :=
  relyAt_load_row 23 x ho g hx 23 _ (0, 0) _ hg Tryd.underlying23 rfl (by rw [infoKey, ints_size, hl])
theorem num_is (a b : Int) (h : a = b) (ha : isN a) (w : World) : Calls Tryd.prog 53 #[num a, num b] w (Ret w (.bool true)) := by
  subst h
  have := equal a a ha ha w
  simpa using this
theorem num_isnt (a b : Int) (h : a ≠ b) (ha : isN a) (hb : isN b) (w : World) : Calls Tryd.prog 53 #[num a, num b] w (Ret w (.bool false)) := by
  have := equal a b ha hb w
  rw [show (a == b) = false by simpa using h] at this
  exact this
/-- a fresh variable of a type -/
def FreshT (t : TypeId) (m : Nat) (b : Nat) (v : Value) (W : World) : Prop := ∃ g, v = .pointer (some ⟨g, 0, none⟩) ∧ b ≤ g ∧ g < W.heap.size ∧ ∃ cs : Array Value, cs.size = m ∧ W.heap[g]? = some (.cells cs t)
theorem freshT_stable (t : TypeId) (m : Nat) (b : Nat) : Stable Ext (FreshT t m b) := fun v W W' hR ⟨g, h1, h2, h3, cs, h4, h5⟩ => ⟨g, h1, h2, Nat.lt_of_lt_of_le h3 hR.size, cs, h4, (hR.block g h3).trans h5⟩
theorem bytesOf_len (n : Int) : (bytesOf n).length = 32 := by simp [bytesOf, part]

end Go.Proofs.YtaojnmjmmfdfjaaDoor.Field
end

/-! Powers by bits, and the iterator over the bits of bytes. -/
section
namespace Go.Proofs.YtaojnmjmmfdfjaaDoor.Field
open Go Go.RowKit Go.Shelf
open Go.Proofs.YtaojnmjmmfdfjaaDoor.Rely
attribute [local go_sem] Oper.semAt_some
set_option linter.unusedVariables false

/-- bit i of bytes; the 256 bits, from the highest on -/
def bitAt (es : List Int) (i : Nat) : Int := nth es (i / 8) / 2 ^ (i % 8) % 2
def bitsOf (es : List Int) : List Int := (List.range 256).map fun j => bitAt es (255 - j)
theorem bitsOf_len (es : List Int) : (bitsOf es).length = 256 := by simp [bitsOf]
theorem bitsOf_take (es : List Int) (j : Nat) (hj : j < 256) : (bitsOf es).take (256 - j) = (bitsOf es).take (256 - (j + 1)) ++ [bitAt es j] := by
  have e : 256 - j = (256 - (j + 1)) + 1 := by omega
  rw [e, List.take_add_one]
  congr 1
  have h : 256 - (j + 1) < 256 := by omega
  simp only [bitsOf, List.getElem?_map, List.getElem?_range h, Option.map_some, Option.toList_some]
  rw [show 255 - (256 - (j + 1)) = j by omega]
theorem bitAt_range (es : List Int) (i : Nat) : 0 ≤ bitAt es i ∧ bitAt es i < 2 := by unfold bitAt; omega
/-- powers by bits -/
def pwStep (a o b : Int) : Int := if b = 0 then o * o % p else o * o % p * a % p
def pwBits (a : Int) (bs : List Int) : Int := bs.foldl (pwStep a) 1
theorem pwBits_snoc (a : Int) (bs : List Int) (b : Int) : pwBits a (bs ++ [b]) = pwStep a (pwBits a bs) b := by simp [pwBits]
theorem pwStep_isN (a o b : Int) : isN (pwStep a o b) := by
  unfold pwStep
  split <;> exact isN_mod _
theorem one_isN : isN 1 := by unfold isN p; decide
theorem pwBits_isN (a : Int) : ∀ bs : List Int, isN (pwBits a bs) := fun bs => by
  rcases List.eq_nil_or_concat bs with h | ⟨l, b, h⟩
  · subst h; exact one_isN
  · subst h; rw [List.concat_eq_append, pwBits_snoc]; exact pwStep_isN _ _ _
/-- what bits count to -/
def cnt (bs : List Int) : Nat := bs.foldl (fun n b => 2 * n + (if b = 0 then 0 else 1)) 0
theorem cnt_snoc (bs : List Int) (b : Int) : cnt (bs ++ [b]) = 2 * cnt bs + (if b = 0 then 0 else 1) := by simp [cnt]
theorem pw_pow (a : Int) : ∀ bs : List Int, pwBits a bs = a ^ cnt bs % p := fun bs => by
  have key : ∀ r : List Int, pwBits a r.reverse = a ^ cnt r.reverse % p := by
    intro r
    induction r with
    | nil =>
      show (1 : Int) = a ^ 0 % p
      rw [Int.pow_zero]
      decide
    | cons b r ih =>
      rw [List.reverse_cons, pwBits_snoc, cnt_snoc, ih]
      unfold pwStep
      have sq : a ^ cnt r.reverse % p * (a ^ cnt r.reverse % p) % p = a ^ (2 * cnt r.reverse) % p := by
        rw [← Int.mul_emod, ← Int.pow_add, Nat.two_mul]
      by_cases hb : b = 0
      · rw [if_pos hb, if_pos hb, sq, Nat.add_zero]
      · rw [if_neg hb, if_neg hb, sq, Int.pow_succ]
        generalize a ^ (2 * cnt r.reverse) = c
        rw [Int.mul_emod (c % p), Int.emod_emod, ← Int.mul_emod]
  have := key bs.reverse
  rwa [List.reverse_reverse] at this

theorem and_one (v : Int) (h : 0 ≤ v ∧ v ≤ 255) : bits .and .i64 v 1 = v % 2 := by
  obtain ⟨n, rfl⟩ := Int.eq_ofNat_of_zero_le h.1
  have key : ∀ n : Nat, n < 256 → bits .and .i64 (n : Int) 1 = (n : Int) % 2 := by decide +kernel
  exact key n (by omega)

set_option maxHeartbeats 2000000 in
theorem bits_stops (m : Nat) (hm : 1 ≤ m) (kb n₀ : Nat) (es : List Int) (hel : es.length = 32) (hb : AreBytes es) (w : World) (hkb : w.heap[kb]? = some (.cells (ints .u8 es) 23)) (hk : kb < n₀) (hn₀ : n₀ ≤ w.heap.size) :
    SeqStopsK Fence.wide m Tryd.prog 71 #[.pointer (some ⟨kb, 0, none⟩)] (fun x : Int => #[Value.int .i64 x]) (Below n₀) (fun ys => ys = bitsOf es) (fun pre => pre <+: bitsOf es) 256 w := fun l J Jx W hW hJ hJx hY h0 => by
  refine callsIn_of_wp Tryd.func71 rfl trivial ?_ rfl
  simp only [Tryd.ntmps71, List.size_toArray, List.length_cons, List.length_nil, Nat.reduceAdd, Nat.reduceSub, Array.replicate_succ, Array.replicate_zero, List.push_toArray, List.append_toArray, List.nil_append, List.cons_append]
  have hkW : W.heap[kb]? = some (.cells (ints .u8 es) 23) := (hW.block kb (row_lt hkb)).trans hkb
  gi_wp2
  gi_loopw [3] (fun i wr => ∃ k : Nat, k ≤ 256 ∧ i = .int .i64 ((k : Int) - 1) ∧ J ((bitsOf es).take (256 - k)) wr ∧ Below n₀ W wr) (fun i _ => (intOf i + 1).toNat)
  case atStart => exact ⟨256, by omega, rfl, by simpa using h0, Below.refl _ _⟩
  case round =>
    obtain ⟨k, hk256, rfl, hJs, hB⟩ := hrel
    rcases k with _ | j
    · gi_wp2
      go_end0
      exact ⟨⟨_, rfl⟩, .inl ⟨_, rfl, by rwa [List.take_of_length_le (by rw [bitsOf_len]; omega)] at hJs⟩⟩
    · have hj : j < 256 := by omega
      rw [show ((j + 1 : Nat) : Int) - 1 = (j : Int) by omega]
      have hkw : wr.heap[kb]? = some (.cells (ints .u8 es) 23) := (hB.block kb hk).trans hkW
      have hX : (ints .u8 es)[j / 8]? = some (.int .u8 (nth es (j / 8))) := ints_get _ _ _ (by omega)
      have hcx := row_cell hkw hX
      obtain ⟨fn, tmps, assign, body, hy, hR⟩ := hY _ (bitAt es j) wr hJs (by rw [List.length_take, bitsOf_len]; omega)
      have hT := Lib.hid (bitsOf_take es j hj)
      have b1 := hb.nth (j / 8)
      rw [show bitAt es j = nth es (j / 8) / 2 ^ (j % 8) % 2 from rfl] at hy
      generalize bitAt es j = bt at *
      generalize nth es (j / 8) = v at *
      have q0 : (0 : Int) ≤ (j : Int) := by omega
      have q1 : (j : Int) / 8 < 32 := by omega
      have q2 : IntKind.i64.wrap ((j : Int) / 8) = (j : Int) / 8 := IntWalk.i64_in _ (by omega)
      have qm : (j : Int).tmod 8 = (j : Int) % 8 := Int.tmod_eq_emod_of_nonneg (by omega)
      have q3 : IntKind.i64.wrap ((j : Int) % 8) = (j : Int) % 8 := IntWalk.i64_in _ (by omega)
      have q4 : (0 : Int) ≤ (j : Int) / 8 := by omega
      have q5 : ((j : Int) / 8).toNat = j / 8 := by omega
      have q6 : ((j : Int) % 8).toNat = j % 8 := by omega
      have q7 : (0 : Int) ≤ (j : Int) % 8 := by omega
      have q8 : (j : Int) % 8 < 8 := by omega
      have hp : (1 : Int) ≤ 2 ^ (j % 8) := by
        have : (0 : Int) < 2 ^ (j % 8) := Int.pow_pos (by decide)
        omega
      have d1 : 0 ≤ v / 2 ^ (j % 8) := Int.ediv_nonneg b1.1 (by omega)
      have d2 : v / 2 ^ (j % 8) ≤ v := Int.ediv_le_self _ b1.1
      have w1 : IntKind.i64.wrap (v / 2 ^ (j % 8)) = v / 2 ^ (j % 8) := IntWalk.i64_in _ (by omega)
      have w2 := and_one (v / 2 ^ (j % 8)) (by omega)
      gi_wp2
      refine hR.mono ?_
      rintro e W3 (⟨rfl, hJ3, hk3⟩ | ⟨rfl, hJx3⟩)
      · gi_wp2
        go_roundw
        case rel => exact ⟨j, by omega, rfl, by rw [hT.out]; exact hJ3, hB.trans hk3⟩
        case measure => simp [intOf]
      · gi_wp2
        refine bodyPost_ret (results_none rfl _ _ _) rfl ?_
        exact ⟨⟨_, rfl⟩, .inr ⟨_, by rw [← hT.out]; exact List.take_prefix _ _, hJx3⟩⟩
end Go.Proofs.YtaojnmjmmfdfjaaDoor.Field
end

/-! Bits and Power. -/
section
namespace Go.Proofs.YtaojnmjmmfdfjaaDoor.Field
open Go Go.RowKit Go.Shelf
open Go.Proofs.YtaojnmjmmfdfjaaDoor.Rely
attribute [local go_sem] Oper.semAt_some
set_option linter.unusedVariables false

/-- the iterator over the bits of these bytes -/
def BitsV (es : List Int) : Fact := fun v W => ∃ kb, v = .func (.func 71) #[] #[.pointer (some ⟨kb, 0, none⟩)] ∧ W.heap[kb]? = some (.cells (ints .u8 es) 23)
theorem bitsV_stable (es : List Int) : Stable Ext (BitsV es) := fun v W W' hR ⟨kb, h1, h2⟩ => ⟨kb, h1, row_ext h2 hR⟩
theorem bits_call (es : List Int) (w : World) : Calls Tryd.prog 54 #[.agg (ints .u8 es)] w (Gives w (BitsV es)) := by
  have hmf : ∀ (fn : Fn) (first cap : Array Value) (w : World), (Instr.makeFunc fn first cap).run Tryd.prog w = .ok (.func fn first cap) w := fun _ _ _ _ => rfl
  go_enter Tryd.func54, Tryd.ntmps54
  go_wp2_with fail
  exact bodyPost_ret (results_tmp rfl _ _ _) rfl ⟨_, rfl, ext_alloc _ _, w.heap.size, rfl, heap_alloc_new _ _⟩

set_option maxRecDepth 100000 in
set_option maxHeartbeats 4000000 in
theorem power (a : Int) (ha : isN a) (es : List Int) (hel : es.length = 32) (hb : AreBytes es) (v : Value) (w : World) (hv : BitsV es v w) :
    Calls Tryd.prog 64 #[num a, v] w (Ret w (num (pwBits a (bitsOf es)))) := by
  obtain ⟨kb, rfl, hkb⟩ := hv
  have HS : Hid (∀ w, Calls Tryd.prog 32 #[.int .i64 1] w (Ret w (num 1))) := Lib.hid fun w => by have := small_pos 1 (by decide) w; rw [show (1 : Int) % p = 1 by decide] at this; exact this
  have hnf : ∀ W, (binOp .eql 79 (.func (.func 71) #[] #[.pointer (some ⟨kb, 0, none⟩)]) Value.nilFunc).run Tryd.prog W = .ok (.bool false) W := fun W => by kernel_rfl
  rw [show num a = .agg (numA a) from rfl]
  refine (callsIn_wide (n := 3)).1 ?_
  refine callsIn_of_wp_marks Tryd.func64 rfl trivial ?_ rfl
  simp only [Tryd.ntmps64, List.size_toArray, List.length_cons, List.length_nil, Nat.reduceAdd, Nat.reduceSub, Array.replicate_succ, Array.replicate_zero, List.push_toArray, List.append_toArray, List.nil_append, List.cons_append]
  gi_wp2_with first
    | (refine ⟨trivial, ?_⟩
       gi_at_call 32
       refine (callsIn_wide.2 (HS.out _)).mono ?_
       rintro e w' ⟨rfl, hw⟩)
    | (with_reducible show wpListIn _ _ _ _ _ ((⟨_, .store 28 _ _, _, _, _, _⟩ : Oper) :: _) _ _
       refine wpListIn_store_row rfl 28 _ _ rfl w'.heap.size (numA 1) rfl rfl 28 _ (heap_alloc_new _ _) infoNum rfl (numA_one _) ?_)
  have hO : ((w'.alloc (.cells #[.int .u64 0, .int .u64 0, .int .u64 0, .int .u64 0] 28)).setRow w'.heap.size (numA 1)).heap[w'.heap.size]? = some (.cells (numA 1) 28) := setRow_heap _ _ _ _ _ _ (heap_alloc_new _ _)
  have hq : w.heap.size + 2 ≤ w'.heap.size := by have := hw.size; simpa using this
  have he1 : Ext w w' := Ext.trans (Ext.trans (ext_alloc _ _) (ext_alloc _ _)) hw
  have hA1 : w'.heap[w.heap.size]? = some (.cells (numA a) 28) := row_ext (by rw [Below.heap_alloc _ _ _ (by simp)]; exact heap_alloc_new _ _) hw
  have hR1 : ∃ b : Array Value, b.size = 4 ∧ w'.heap[w.heap.size + 1]? = some (.cells b 28) := ⟨_, rfl, row_ext (by have := heap_alloc_new (w.alloc (.cells (numA a) 28)) (.cells #[.int .u64 0, .int .u64 0, .int .u64 0, .int .u64 0] 28); simpa using this) hw⟩
  have he2 : Ext w' ((w'.alloc (.cells #[.int .u64 0, .int .u64 0, .int .u64 0, .int .u64 0] 28)).setRow w'.heap.size (numA 1)) := ext_setRow (ext_alloc _ _) (Nat.le_refl _) _
  have hA := row_ext hA1 he2
  obtain ⟨b, hbs, hR1⟩ := hR1
  have hR := row_ext hR1 he2
  have he := Ext.trans he1 he2
  have hkV := row_ext hkb he
  have hkl := row_lt hkb
  generalize (w'.alloc (.cells #[.int .u64 0, .int .u64 0, .int .u64 0, .int .u64 0] 28)).setRow w'.heap.size (numA 1) = V at *
  generalize w'.heap.size = gO at *
  clear hA1 hR1 he1 he2 hw HS hnf
  have hsz := he.size
  refine wpIn_rangeFunc_ownF rfl (by omega) (gf := 71) (lb := #[.pointer (some ⟨kb, 0, none⟩)]) rfl trivial (enters_of Tryd.func71 (by kernel_rfl) rfl)
    (bits_stops _ (by omega) kb w.heap.size es hel hb V hkV hkl hsz) belowK_t (belowK_b hsz) (Below.refl _ _) (fun _ => rfl)
    (fun pre W => (W.heap[gO]? = some (.cells (numA (pwBits a pre)) 28) ∧ W.heap[w.heap.size]? = some (.cells (numA a) 28) ∧ W.heap[w.heap.size + 1]? = some (.cells b 28)) ∧ Below w.heap.size w W)
    (fun _ _ _ => False)
    (OwnFrom.and (Own.from (fun s A B row hs hg hr => ⟨row_kept hs.1 hg hr, row_kept hs.2.1 hg hr, row_kept hs.2.2 hg hr⟩) _) (ownFrom_below (Nat.le_refl _) hsz))
    (fun _ _ _ _ _ hs _ _ => hs)
    ⟨⟨hO, hA, hR⟩, he⟩
    (fun x => { tmps := #[.agg (numA a), .func (.func 71) #[] #[.pointer (some ⟨kb, 0, none⟩)], .pointer (some ⟨w.heap.size, 0, none⟩), undef, .pointer (some ⟨w.heap.size + 1, 0, none⟩), .pointer (some ⟨gO, 0, none⟩), .int .i64 x, num 1,
      .func (.func 71) #[] #[.pointer (some ⟨kb, 0, none⟩)], .bool false, undef, .func (.func 71) #[] #[.pointer (some ⟨kb, 0, none⟩)], .int .i64 x, undef, undef, undef, undef, undef, undef, undef, undef, undef], defers := [] }) ?assign ?body ?done ?stop
  case assign =>
    intro l x W K hK
    gi_wp2
    exact hK
  case body =>
    clear hO hA hR hkV hsz he
    rintro l pre x W ⟨⟨hO, hA, hR⟩, hB⟩ _
    have io := pwBits_isN a pre
    have HM : Hid (∀ w, Calls Tryd.prog 31 #[.agg (numA (pwBits a pre)), .agg (numA (pwBits a pre))] w (Ret w (.agg (numA (pwBits a pre * pwBits a pre % p))))) := Lib.hid (mul _ _ io io)
    have hsn := pwBits_snoc a pre x
    have hlA := row_lt hA
    by_cases hx : x = 0
    · have hval : pwBits a (pre ++ [x]) = pwBits a pre * pwBits a pre % p := by rw [hsn]; unfold pwStep; rw [if_pos hx]
      have HV := Lib.hid hval
      clear hval hsn
      generalize hoo : pwBits a pre = o at *
      generalize ho2 : o * o % p = o2 at *
      gi_wp2_with first
        | (refine ⟨trivial, ?_⟩
           gi_at_call 31
           refine (CallsIn.inRound l (callsIn_wide.2 (HM.out _))).mono ?_
           rintro e w2 ⟨rfl, hw2⟩
           have hO2 := row_ext hO hw2)
        | (with_reducible show wpListIn _ _ _ _ _ ((⟨_, .load 28 _, _, _, _, _⟩ : Oper) :: _) _ _
           refine wpListIn_load_row rfl 28 _ rfl gO rfl 28 _ (0, 0) _ hO Tryd.underlying28 rfl infoNum ?_)
        | (with_reducible show wpListIn _ _ _ _ _ ((⟨_, .store 28 _ _, _, _, _, _⟩ : Oper) :: _) _ _
           refine wpListIn_store_row rfl 28 _ _ rfl gO (numA o2) rfl rfl 28 _ hO2 infoNum rfl (numA_one _) ?_)
      refine ⟨(keeps_ext hw2).trans (keeps_setRow hO2 _), below_row (below_ext hw2 (by omega)) (by omega) _, ⟨?_, (setRow_other _ _ _ _ (by omega)).trans (row_ext hA hw2), (setRow_other _ _ _ _ (by omega)).trans (row_ext hR hw2)⟩, below_row (hB.trans (below_ext hw2 (by omega))) (by omega) _⟩
      rw [HV.out]
      exact setRow_heap _ _ _ _ _ _ hO2
    · have hval : pwBits a (pre ++ [x]) = pwBits a pre * pwBits a pre % p * a % p := by rw [hsn]; unfold pwStep; rw [if_neg hx]
      have HV := Lib.hid hval
      have HM2 : Hid (∀ w, Calls Tryd.prog 31 #[.agg (numA (pwBits a pre * pwBits a pre % p)), .agg (numA a)] w (Ret w (.agg (numA (pwBits a pre * pwBits a pre % p * a % p))))) := Lib.hid (mul _ _ (isN_mod _) ha)
      clear hval hsn
      generalize hoo : pwBits a pre = o at *
      generalize ho2 : o * o % p = o2 at *
      generalize ho3 : o2 * a % p = o3 at *
      gi_wp2_with first
        | (refine ⟨trivial, ?_⟩
           gi_at_call 31
           refine (CallsIn.inRound l (callsIn_wide.2 (HM.out _))).mono ?_
           rintro e w2 ⟨rfl, hw2⟩
           clear HM
           have hO2 := row_ext hO hw2
           clear hO)
        | (refine ⟨trivial, ?_⟩
           gi_at_call 31
           refine (CallsIn.inRound l (callsIn_wide.2 (HM2.out _))).mono ?_
           rintro e w4 ⟨rfl, hw4⟩
           clear HM2
           have hO4 := row_ext hO3 hw4
           clear hO3)
        | (with_reducible show wpListIn _ _ _ _ _ ((⟨_, .load 28 _, _, _, _, _⟩ : Oper) :: _) _ _
           refine wpListIn_load_row rfl 28 _ rfl gO rfl 28 _ (0, 0) _ hO Tryd.underlying28 rfl infoNum ?_)
        | (with_reducible show wpListIn _ _ _ _ _ ((⟨_, .load 28 _, _, _, _, _⟩ : Oper) :: _) _ _
           refine wpListIn_load_row rfl 28 _ rfl gO rfl 28 _ (0, 0) _ hO3 Tryd.underlying28 rfl infoNum ?_)
        | (with_reducible show wpListIn _ _ _ _ _ ((⟨_, .load 28 _, _, _, _, _⟩ : Oper) :: _) _ _
           refine wpListIn_load_row rfl 28 _ rfl w.heap.size rfl 28 _ (0, 0) _ hA3 Tryd.underlying28 rfl infoNum ?_)
        | (with_reducible show wpListIn _ _ _ _ _ ((⟨_, .store 28 _ _, _, _, _, _⟩ : Oper) :: _) _ _
           refine wpListIn_store_row rfl 28 _ _ rfl gO (numA o2) rfl rfl 28 _ hO2 infoNum rfl (numA_one _) ?_
           have hO3 := setRow_heap _ _ _ (numA o2) _ _ hO2
           have hA3 := (setRow_other _ gO w.heap.size (numA o2) (by omega)).trans (row_ext hA hw2)
           have hR3 := (setRow_other _ gO (w.heap.size + 1) (numA o2) (by omega)).trans (row_ext hR hw2)
           have hk3 := (keeps_ext hw2).trans (keeps_setRow hO2 (numA o2))
           have hb3 := below_row (below_ext (n := w.heap.size) hw2 (by omega)) (show w.heap.size ≤ gO by omega) (numA o2)
           clear hO2 hw2)
        | (with_reducible show wpListIn _ _ _ _ _ ((⟨_, .store 28 _ _, _, _, _, _⟩ : Oper) :: _) _ _
           refine wpListIn_store_row rfl 28 _ _ rfl gO (numA o3) rfl rfl 28 _ hO4 infoNum rfl (numA_one _) ?_)
      have hl3 := row_lt hA3
      have hb5 := below_row (hb3.trans (below_ext hw4 (by omega))) (show w.heap.size ≤ gO by omega) (numA o3)
      refine ⟨(hk3.trans (keeps_ext hw4)).trans (keeps_setRow hO4 _), hb5, ⟨?_, (setRow_other _ _ _ _ (by omega)).trans (row_ext hA3 hw4), (setRow_other _ _ _ _ (by omega)).trans (row_ext hR3 hw4)⟩, hB.trans hb5⟩
      rw [HV.out]
      exact setRow_heap _ _ _ _ _ _ hO4
  case done =>
    rintro D ys W hD rfl ⟨⟨hO, hA, hR⟩, hB⟩ hK
    gi_wp2_with first
        | (with_reducible show wpListIn _ _ _ _ _ ((⟨_, .load 28 _, _, _, _, _⟩ : Oper) :: _) _ _
           refine wpListIn_load_row rfl 28 _ rfl gO rfl 28 _ (0, 0) _ hO Tryd.underlying28 rfl infoNum ?_)
        | (with_reducible show wpListIn _ _ _ _ _ ((⟨_, .store 28 _ _, _, _, _, _⟩ : Oper) :: _) _ _
           refine wpListIn_store_row rfl 28 _ _ rfl (w.heap.size + 1) (numA (pwBits a (bitsOf es))) rfl rfl 28 _ hR infoNum hbs (numA_one _) ?_)
    have hK' := (keeps_setRow hR (numA (pwBits a (bitsOf es)))).same D _ hK rfl
    refine ⟨by simp, .inl ⟨_, _, rfl, run_takeDeferred hK', ?_⟩⟩
    exact ⟨_, results_cell_row (p := 4) rfl _ _ (w.heap.size + 1) 28 (numA (pwBits a (bitsOf es))) (0, 0) _ rfl (row_kept (setRow_heap _ _ _ _ _ _ hR) (grownBy_putObj' _ D (.deferred none)) (fun r e => by cases e; exact ⟨_, hK', rfl⟩)) Tryd.underlying28 rfl infoNum, rfl,
      (below_row hB (by omega) _).trans (belowK_b (w := w) (Nat.le_refl _) _ D _ _ (by omega) hK' rfl rfl)⟩
  case stop =>
    rintro D c pre W _ _ h _
    exact h.elim
end Go.Proofs.YtaojnmjmmfdfjaaDoor.Field
end

/-! The inverse, of the program and of the document. -/
section
namespace Go.Proofs.YtaojnmjmmfdfjaaDoor.Field
open Go Go.RowKit
open Go.Proofs.YtaojnmjmmfdfjaaDoor.Rely
set_option linter.unusedVariables false

/-! ### Exponents -/
def expo (lo hi : Int) : List Int := lo :: (List.replicate 30 255 ++ [hi])
theorem expo_len (lo hi : Int) : (expo lo hi).length = 32 := by simp [expo]
theorem expo_bytes (lo hi : Int) (hl : 0 ≤ lo ∧ lo ≤ 255) (hh : 0 ≤ hi ∧ hi ≤ 255) : AreBytes (expo lo hi) := fun x hx => by
  simp only [expo, List.mem_cons, List.mem_append, List.mem_replicate, List.not_mem_nil, or_false] at hx
  omega
theorem expo_set (lo hi : Int) : ((ints .u8 (mix 32 (fun _ => 255) (fun _ => 0) 32)).setIfInBounds 0 (.int .u8 lo)).setIfInBounds 31 (.int .u8 hi) = ints .u8 (expo lo hi) := by
  rw [ints_set, ints_set]
  rfl
theorem exponent (lo hi : Int) (w : World) : Calls Tryd.prog 65 #[.int .u8 lo, .int .u8 hi] w (Ret w (.agg (ints .u8 (expo lo hi)))) := by
  go_enter Tryd.func65, Tryd.ntmps65
  go_wp2_with fail
  go_loopw [6, 7] (fun c i wr => ∃ k : Nat, k ≤ 32 ∧ i = .int .i64 k ∧ Ext w wr ∧ (∃ b, b.size = 32 ∧ wr.heap[w.heap.size]? = some (.cells b 23)) ∧
    wr.heap[w.heap.size + 1]? = some (.cells (ints .u8 (mix 32 (fun _ => 255) (fun _ => 0) k)) 23)) (fun _ i _ => 32 - (intOf i).toNat)
  case atStart => exact ⟨0, by omega, rfl, Ext.trans (ext_alloc _ _) (ext_alloc _ _), ⟨_, rfl, alloc2_1 _ _ _⟩, alloc2_2 _ _ _⟩
  case round =>
    obtain ⟨k, hk, rfl, he, ⟨b, hbs, hB⟩, hC⟩ := hrel
    by_cases hlt : k < 32
    · have hZ : (ints .u8 (mix 32 (fun _ => 255) (fun _ => 0) k))[k]? = some (.int .u8 0) := by rw [ints_get _ _ _ (by rw [mix_len]; omega), mix_nth _ _ _ _ _ (by omega), if_neg (by omega)]
      have hS : (ints .u8 (mix 32 (fun _ => 255) (fun _ => 0) k)).setIfInBounds k (.int .u8 255) = ints .u8 (mix 32 (fun _ => 255) (fun _ => 0) (k + 1)) := by rw [ints_set, ← mix_set _ _ _ _ (by omega)]
      have hcx := row_cell hC hZ
      have hfx := row_frozen hC k
      have q5 : (k : Int) < 32 := by omega
      go_wp2
      exact ⟨⟨k + 1, by omega, by go_num, ext_set he (by omega) _ _, ⟨b, hbs, (set_row_other _ _ (by omega)).trans hB⟩, (set_row _ _ hC).trans (by rw [hS])⟩, by simp [intOf]; omega⟩
    · obtain rfl : k = 32 := by omega
      have hX : (ints .u8 (mix 32 (fun _ => 255) (fun _ => 0) 32))[0]? = some (.int .u8 255) := by rw [ints_get _ _ _ (by rw [mix_len]; omega), mix_nth _ _ _ _ _ (by omega), if_pos (by omega)]
      have hY : (ints .u8 (mix 32 (fun _ => 255) (fun _ => 0) 32))[31]? = some (.int .u8 255) := by rw [ints_get _ _ _ (by rw [mix_len]; omega), mix_nth _ _ _ _ _ (by omega), if_pos (by omega)]
      have hcx := row_cell hC hX
      have hfx := row_frozen hC 0
      have hC2 := set_row 0 (.int .u8 lo) hC
      have hcy : (wr.setCell ⟨w.heap.size + 1, 0, none⟩ (.int .u8 lo)).cell? ⟨w.heap.size + 1, 31, none⟩ = some (.int .u8 255) := row_cell hC2 (by rw [Array.getElem?_setIfInBounds_ne (by decide)]; exact hY)
      have hfy := row_frozen hC2 31
      have hB2 := (set_row_other (W := wr) 0 (.int .u8 lo) (show w.heap.size ≠ w.heap.size + 1 by omega)).trans hB
      have he2 := ext_set he (show w.heap.size ≤ w.heap.size + 1 by omega) 0 (.int .u8 lo)
      generalize hwz : wr.setCell ⟨w.heap.size + 1, 0, none⟩ (.int .u8 lo) = wz at *
      have hC3 := set_row 31 (.int .u8 hi) hC2
      rw [expo_set] at hC3
      have hB3 := (set_row_other (W := wz) 31 (.int .u8 hi) (show w.heap.size ≠ w.heap.size + 1 by omega)).trans hB2
      have he3 := ext_set he2 (show w.heap.size ≤ w.heap.size + 1 by omega) 31 (.int .u8 hi)
      generalize hwy : wz.setCell ⟨w.heap.size + 1, 31, none⟩ (.int .u8 hi) = wy at *
      have hi' : (Tryd.prog.info? 23).map (·.size) = some (ints .u8 (expo lo hi)).size := by rw [infoKey, ints_size, expo_len]
      have hbl : b.size = (ints .u8 (expo lo hi)).size := by rw [hbs, ints_size, expo_len]
      clear hC hC2 hB hB2 he he2
      go_wp2_with first
        | (with_reducible show wpList _ _ _ ((⟨_, .load 23 _, _, _, _, _⟩ : Oper) :: _) _ _
           refine wpList_load_row rfl 23 _ rfl (w.heap.size + 1) rfl 23 _ (0, 0) _ hC3 Tryd.underlying23 rfl hi' ?_)
        | (with_reducible show wpList _ _ _ ((⟨_, .store 23 _ _, _, _, _, _⟩ : Oper) :: _) _ _
           refine wpList_store_row rfl 23 _ _ rfl w.heap.size _ rfl rfl 23 _ hB3 hi' hbl (ints_one _ _) ?_)
      exact bodyPost_ret (results_cell_row (p := 4) rfl _ _ w.heap.size 23 _ (0, 0) _ rfl (setRow_heap _ _ _ _ _ _ hB3) Tryd.underlying23 rfl hi') rfl ⟨rfl, ext_setRow he3 (Nat.le_refl _) _⟩

def invN (a : Int) : Int := pwBits a (bitsOf (expo 235 127))
theorem invN_isN (a : Int) : isN (invN a) := pwBits_isN _ _
theorem inv (a : Int) (ha : isN a) (w : World) : Calls Tryd.prog 35 #[num a] w (Ret w (num (invN a))) := by
  have HE : Hid (∀ w, Calls Tryd.prog 65 #[.int .u8 235, .int .u8 127] w (Ret w (.agg (ints .u8 (expo 235 127))))) := Lib.hid (exponent 235 127)
  have HB : Hid (∀ w, Calls Tryd.prog 54 #[.agg (ints .u8 (expo 235 127))] w (Gives w (BitsV (expo 235 127)))) := Lib.hid (bits_call _)
  have HP : Hid (∀ v w, BitsV (expo 235 127) v w → Calls Tryd.prog 64 #[num a, v] w (Ret w (num (invN a)))) := Lib.hid fun v w hv => power a ha (expo 235 127) (expo_len _ _) (expo_bytes _ _ (by decide) (by decide)) v w hv
  generalize expo 235 127 = ex at *
  generalize invN a = r at *
  rw [show num a = .agg (numA a) from rfl] at HP ⊢
  go_enter Tryd.func35, Tryd.ntmps35
  go_wp2_with fail
  generalize hW : (w.alloc _).alloc _ = W0
  have hA : W0.heap[w.heap.size]? = some (.cells (numA a) 28) := by rw [← hW]; exact alloc2_1 _ _ _
  have hC : ∃ b : Array Value, b.size = 4 ∧ W0.heap[w.heap.size + 1]? = some (.cells b 28) := by rw [← hW]; exact ⟨_, rfl, alloc2_2 _ _ _⟩
  obtain ⟨b, hbs, hC⟩ := hC
  have he : Ext w W0 := by rw [← hW]; exact Ext.trans (ext_alloc _ _) (ext_alloc _ _)
  clear hW
  refine wp_region_rely Ext 3 7 [⟨none, [(1, none)]⟩, ⟨none, []⟩, ⟨none, [(4, some 1)]⟩] (by kernel_rfl) (by kernel_rfl) rfl Ext.refl Ext.trans (fun F r0 hr hF => ?_)
  have f1 : r0 1 = .pointer (some ⟨w.heap.size, 0, none⟩) := by rw [hr]; rfl
  clear hr
  simp only [List.take_succ_cons, List.take_zero]
  refine step_const (.agg (numA a)) (fun ρ W hR hh => ?_) ?_
  · exact relyAt_load_row 28 (.tmp _) rfl _ (Eq.trans hh.1 f1) 28 _ (0, 0) _ (row_ext (row_ext hA (ext_drew _)) hR) Tryd.underlying28 rfl infoNum
  refine step_const (.agg (ints .u8 ex)) (fun ρ W hR hh => ?_) ?_
  · simp only [guarded, relyAt]
    go_simp
    exact ⟨Ext.refl _, (HE.out _).mono fun _ _ h => h.const⟩
  refine step_fact (BitsV ex) (bitsV_stable ex) (fun ρ W hR hh => ?_) ?_
  · have h4 : ρ 4 = .agg (ints .u8 ex) := hh.1
    simp only [guarded, relyAt]
    go_simp
    exact ⟨Ext.refl _, (HB.out _).mono fun _ _ h => h.fact⟩
  simp only [List.cons_append, List.nil_append]
  refine hF.out fun W hR => ?_
  simp only [List.take_succ_cons, List.take_zero, List.drop_succ_cons, List.drop_zero, fin, forall_eq, Act.put, List.setIfInBounds_toArray, List.set_cons_zero, List.set_cons_succ]
  intro v hv
  have HP' := Lib.hid (HP.out v W hv)
  clear hF HP HE HB hv
  go_wp2_with first
    | (go_at_call 64
       (with_reducible refine HP'.out.mono ?_)
       rintro e w' ⟨rfl, hw⟩
       have hC' := row_ext (row_ext (row_ext hC (ext_drew _)) hR) hw
       have he' := Ext.trans (Ext.trans (Ext.trans he (ext_drew _)) hR) hw)
    | (with_reducible show wpList _ _ _ ((⟨_, .store 28 _ _, _, _, _, _⟩ : Oper) :: _) _ _
       refine wpList_store_row rfl 28 _ _ rfl (w.heap.size + 1) (numA r) rfl rfl 28 _ hC' infoNum hbs (numA_one _) ?_)
  exact bodyPost_ret (results_num (t := 2) rfl rfl (setRow_heap _ _ _ _ _ _ hC')) rfl ⟨rfl, ext_setRow he' (by omega) _⟩
end Go.Proofs.YtaojnmjmmfdfjaaDoor.Field
end

/-! The document's powers and inverse. -/
section
namespace Go.Proofs.YtaojnmjmmfdfjaaDoor.Field
open Go Go.RowKit
open Go.Proofs.YtaojnmjmmfdfjaaDoor.Rely
set_option linter.unusedVariables false

def lbit (e : Int) (i : Nat) : Int := limb e (i / 16) / 2 ^ (i % 16) % 2
def lbits (e : Int) : List Int := (List.range 256).map fun j => lbit e (255 - j)
theorem lbits_len (e : Int) : (lbits e).length = 256 := by simp [lbits]
theorem lbits_take (e : Int) (j : Nat) (hj : j < 256) : (lbits e).take (256 - j) = (lbits e).take (256 - (j + 1)) ++ [lbit e j] := by
  have h0 : 256 - j = (256 - (j + 1)) + 1 := by omega
  rw [h0, List.take_add_one]
  congr 1
  have h : 256 - (j + 1) < 256 := by omega
  simp only [lbits, List.getElem?_map, List.getElem?_range h, Option.map_some, Option.toList_some]
  rw [show 255 - (256 - (j + 1)) = j by omega]

set_option maxHeartbeats 1000000 in
theorem lPower (x e : Int) (hx : isN x) (he0 : 0 ≤ e ∧ e < big) (w : World) : Calls Tryd.prog 68 #[lnum x, lnum e] w (Ret w (lnum (pwBits x (lbits e)))) := by
  have h1' : ints .i64 (lims 1) = #[.int .i64 1, .int .i64 0, .int .i64 0, .int .i64 0, .int .i64 0, .int .i64 0, .int .i64 0, .int .i64 0, .int .i64 0, .int .i64 0, .int .i64 0, .int .i64 0, .int .i64 0, .int .i64 0, .int .i64 0, .int .i64 0] := by rw [lims_one]; rfl
  unfold lnum
  go_enter Tryd.func68, Tryd.ntmps68
  go_wp2_with fail
  generalize hW : (((w.alloc _).alloc _).alloc _).alloc _ = W0
  have hA : W0.heap[w.heap.size]? = some (.cells (ints .i64 (lims x)) 34) := by rw [← hW]; exact alloc4_1 _ _ _ _ _
  have hE : W0.heap[w.heap.size + 1]? = some (.cells (ints .i64 (lims e)) 34) := by rw [← hW]; exact alloc4_2 _ _ _ _ _
  have hR : ∃ b : Array Value, b.size = 16 ∧ W0.heap[w.heap.size + 1 + 1]? = some (.cells b 34) := by rw [← hW]; exact ⟨_, rfl, alloc4_3 _ _ _ _ _⟩
  have hO : W0.heap[w.heap.size + 1 + 1 + 1]? = some (.cells (ints .i64 (lims 1)) 34) := by rw [← hW, h1']; exact alloc4_4 _ _ _ _ _
  have he : Ext w W0 := by rw [← hW]; exact ext4 _ _ _ _ _
  clear hW h1'
  go_loopw [6] (fun i wr => ∃ k : Nat, k ≤ 256 ∧ i = .int .i64 ((k : Int) - 1) ∧ Ext w wr ∧ wr.heap[w.heap.size]? = some (.cells (ints .i64 (lims x)) 34) ∧ wr.heap[w.heap.size + 1]? = some (.cells (ints .i64 (lims e)) 34) ∧
    (∃ b, b.size = 16 ∧ wr.heap[w.heap.size + 1 + 1]? = some (.cells b 34)) ∧ wr.heap[w.heap.size + 1 + 1 + 1]? = some (.cells (ints .i64 (lims (pwBits x ((lbits e).take (256 - k))))) 34)) (fun i _ => (intOf i + 1).toNat)
  case atStart => exact ⟨256, by omega, rfl, he, hA, hE, hR, hO⟩
  case round =>
    clear hA hE hR hO he
    obtain ⟨k, hk, rfl, he, hA, hE, ⟨b, hbs, hR⟩, hO⟩ := hrel
    rcases k with _ | j
    · rw [List.take_of_length_le (by rw [lbits_len]; omega)] at hO
      have hrl := lims_len (pwBits x (lbits e))
      go_wp2_with first
        | (with_reducible show wpList _ _ _ ((⟨_, .load 34 _, _, _, _, _⟩ : Oper) :: _) _ _
           refine wpList_load_row rfl 34 _ rfl (w.heap.size + 1 + 1 + 1) rfl 34 _ (0, 0) _ hO Tryd.underlying34 rfl (infoL _ hrl) ?_)
        | (with_reducible show wpList _ _ _ ((⟨_, .store 34 _ _, _, _, _, _⟩ : Oper) :: _) _ _
           refine wpList_store_row rfl 34 _ _ rfl (w.heap.size + 1 + 1) _ rfl rfl 34 _ hR (infoL _ hrl) (by rw [hbs, ints_size, hrl]) (ints_one _ _) ?_)
      exact bodyPost_ret (results_cell_row (p := 4) rfl _ _ (w.heap.size + 1 + 1) 34 _ (0, 0) _ rfl (setRow_heap _ _ _ _ _ _ hR) Tryd.underlying34 rfl (infoL _ hrl)) rfl ⟨rfl, ext_setRow he (by omega) _⟩
    · have hj : j < 256 := by omega
      rw [show ((j + 1 : Nat) : Int) - 1 = (j : Int) by omega]
      have HT := Lib.hid (lbits_take e j hj)
      have hsn := pwBits_snoc x ((lbits e).take (256 - (j + 1))) (lbit e j)
      have io := pwBits_isN x ((lbits e).take (256 - (j + 1)))
      generalize hoo : pwBits x ((lbits e).take (256 - (j + 1))) = o at *
      have HM : Hid (∀ w, Calls Tryd.prog 42 #[.agg (ints .i64 (lims o)), .agg (ints .i64 (lims o))] w (Ret w (.agg (ints .i64 (lims (o * o % p)))))) := Lib.hid (lMul o o (isN_big io) (isN_big io))
      have HM2 : Hid (∀ w, Calls Tryd.prog 42 #[.agg (ints .i64 (lims (o * o % p))), .agg (ints .i64 (lims x))] w (Ret w (.agg (ints .i64 (lims (o * o % p * x % p)))))) := Lib.hid (lMul _ _ (isN_big (isN_mod _)) (isN_big hx))
      have eb : lbit e j = limb e (j / 16) / 2 ^ (j % 16) % 2 := rfl
      have b1 := limb_range e (j / 16)
      have hX : (ints .i64 (lims e))[j / 16]? = some (.int .i64 (limb e (j / 16))) := by rw [ints_get _ _ _ (by rw [lims_len]; omega), lims_nth _ _ (by omega)]
      generalize hv : limb e (j / 16) = v at *
      have q0 : (0 : Int) ≤ (j : Int) := by omega
      have q1 : (j : Int) / 16 < 16 := by omega
      have q2 : IntKind.i64.wrap ((j : Int) / 16) = (j : Int) / 16 := IntWalk.i64_in _ (by omega)
      have qm : (j : Int).tmod 16 = (j : Int) % 16 := Int.tmod_eq_emod_of_nonneg (by omega)
      have q3 : IntKind.i64.wrap ((j : Int) % 16) = (j : Int) % 16 := IntWalk.i64_in _ (by omega)
      have q4 : (0 : Int) ≤ (j : Int) / 16 := by omega
      have q5 : ((j : Int) / 16).toNat = j / 16 := by omega
      have q6 : ((j : Int) % 16).toNat = j % 16 := by omega
      have q7 : (0 : Int) ≤ (j : Int) % 16 := by omega
      have q8 : (j : Int) % 16 < 16 := by omega
      have q9 : IntKind.u64.wrap ((j : Int) % 16) = (j : Int) % 16 := by rw [IntKind.wrap_u64]; omega
      have q10 : (j : Int) % 16 < 64 := by omega
      have hp : (1 : Int) ≤ 2 ^ (j % 16) := by
        have : (0 : Int) < 2 ^ (j % 16) := Int.pow_pos (by decide)
        omega
      have d1 : 0 ≤ v / 2 ^ (j % 16) := Int.ediv_nonneg b1.1 (by omega)
      have d2 : v / 2 ^ (j % 16) ≤ v := Int.ediv_le_self _ b1.1
      have w1 : IntKind.i64.wrap (v / 2 ^ (j % 16)) = v / 2 ^ (j % 16) := IntWalk.i64_in _ (by omega)
      have w2 : (v / 2 ^ (j % 16)).tmod 2 = v / 2 ^ (j % 16) % 2 := Int.tmod_eq_emod_of_nonneg d1
      have w3 : IntKind.i64.wrap (v / 2 ^ (j % 16) % 2) = v / 2 ^ (j % 16) % 2 := IntWalk.i64_in _ (by omega)
      have hlO := row_lt hO
      have r2 := lims_len (o * o % p)
      have r3 := lims_len (o * o % p * x % p)
      have r1 := lims_len o
      have rx := lims_len x
      have EB := Lib.hid eb
      have HSN := Lib.hid hsn
      clear eb hsn
      by_cases hz : v / 2 ^ (j % 16) % 2 = 1
      · go_wp2_with first
          | (go_at_call 42
             (with_reducible refine (HM.out _).mono ?_)
             rintro e2 w2' ⟨rfl, hw2⟩
             clear HM
             have hO2 := row_ext hO hw2
             clear hO)
          | (go_at_call 42
             (with_reducible refine (HM2.out _).mono ?_)
             rintro e4 w4' ⟨rfl, hw4⟩
             clear HM2
             have hO4 := row_ext hO3 hw4
             clear hO3)
          | (with_reducible show wpList _ _ _ ((⟨_, .load 34 _, _, _, _, _⟩ : Oper) :: _) _ _
             refine wpList_load_row rfl 34 _ rfl (w.heap.size + 1 + 1 + 1) rfl 34 _ (0, 0) _ hO Tryd.underlying34 rfl (infoL _ r1) ?_)
          | (with_reducible show wpList _ _ _ ((⟨_, .load 34 _, _, _, _, _⟩ : Oper) :: _) _ _
             refine wpList_load_row rfl 34 _ rfl (w.heap.size + 1 + 1 + 1) rfl 34 _ (0, 0) _ hO3 Tryd.underlying34 rfl (infoL _ r2) ?_)
          | (with_reducible show wpList _ _ _ ((⟨_, .load 34 _, _, _, _, _⟩ : Oper) :: _) _ _
             refine wpList_load_row rfl 34 _ rfl w.heap.size rfl 34 _ (0, 0) _ hA3 Tryd.underlying34 rfl (infoL _ rx) ?_)
          | (with_reducible show wpList _ _ _ ((⟨_, .store 34 _ _, _, _, _, _⟩ : Oper) :: _) _ _
             refine wpList_store_row rfl 34 _ _ rfl (w.heap.size + 1 + 1 + 1) _ rfl rfl 34 _ hO2 (infoL _ r2) (by rw [ints_size, ints_size, r1, r2]) (ints_one _ _) ?_
             have hE3 := (setRow_other _ (w.heap.size + 1 + 1 + 1) (w.heap.size + 1) (ints .i64 (lims (o * o % p))) (by omega)).trans (row_ext hE hw2)
             have hA3 := (setRow_other _ (w.heap.size + 1 + 1 + 1) w.heap.size (ints .i64 (lims (o * o % p))) (by omega)).trans (row_ext hA hw2)
             have hR3 := (setRow_other _ (w.heap.size + 1 + 1 + 1) (w.heap.size + 1 + 1) (ints .i64 (lims (o * o % p))) (by omega)).trans (row_ext hR hw2)
             have hO3 := setRow_heap _ _ _ (ints .i64 (lims (o * o % p))) _ _ hO2
             have he3 := ext_setRow (Ext.trans he hw2) (show w.heap.size ≤ (w.heap.size + 1 + 1 + 1) by omega) (ints .i64 (lims (o * o % p)))
             have hcx := row_cell hE3 hX
             clear hO2 hw2)
          | (with_reducible show wpList _ _ _ ((⟨_, .store 34 _ _, _, _, _, _⟩ : Oper) :: _) _ _
             refine wpList_store_row rfl 34 _ _ rfl (w.heap.size + 1 + 1 + 1) _ rfl rfl 34 _ hO4 (infoL _ r3) (by rw [ints_size, ints_size, r2, r3]) (ints_one _ _) ?_)
        refine ⟨⟨j, by omega, rfl, ext_setRow (Ext.trans he3 hw4) (by omega) _, (setRow_other _ _ _ _ (by omega)).trans (row_ext hA3 hw4), (setRow_other _ _ _ _ (by omega)).trans (row_ext hE3 hw4), ⟨b, hbs, (setRow_other _ _ _ _ (by omega)).trans (row_ext hR3 hw4)⟩, ?_⟩, by simp [intOf]⟩
        rw [HT.out, HSN.out]
        unfold pwStep
        rw [if_neg (by rw [EB.out]; omega)]
        exact setRow_heap _ _ _ _ _ _ hO4
      · have hz0 : v / 2 ^ (j % 16) % 2 = 0 := by omega
        go_wp2_with first
          | (go_at_call 42
             (with_reducible refine (HM.out _).mono ?_)
             rintro e2 w2' ⟨rfl, hw2⟩
             have hO2 := row_ext hO hw2)
          | (with_reducible show wpList _ _ _ ((⟨_, .load 34 _, _, _, _, _⟩ : Oper) :: _) _ _
             refine wpList_load_row rfl 34 _ rfl (w.heap.size + 1 + 1 + 1) rfl 34 _ (0, 0) _ hO Tryd.underlying34 rfl (infoL _ r1) ?_)
          | (with_reducible show wpList _ _ _ ((⟨_, .store 34 _ _, _, _, _, _⟩ : Oper) :: _) _ _
             refine wpList_store_row rfl 34 _ _ rfl (w.heap.size + 1 + 1 + 1) _ rfl rfl 34 _ hO2 (infoL _ r2) (by rw [ints_size, ints_size, r1, r2]) (ints_one _ _) ?_
             have hE3 := (setRow_other _ (w.heap.size + 1 + 1 + 1) (w.heap.size + 1) (ints .i64 (lims (o * o % p))) (by omega)).trans (row_ext hE hw2)
             have hcx := row_cell hE3 hX)
        refine ⟨⟨j, by omega, rfl, ext_setRow (Ext.trans he hw2) (by omega) _, (setRow_other _ _ _ _ (by omega)).trans (row_ext hA hw2), (setRow_other _ _ _ _ (by omega)).trans (row_ext hE hw2), ⟨b, hbs, (setRow_other _ _ _ _ (by omega)).trans (row_ext hR hw2)⟩, ?_⟩, by simp [intOf]⟩
        rw [HT.out, HSN.out]
        unfold pwStep
        rw [if_pos (by rw [EB.out]; exact hz0)]
        exact setRow_heap _ _ _ _ _ _ hO2

theorem lims_two : lims 2 = 2 :: List.replicate 15 0 := by decide +kernel
theorem inv_bits : lbits (p - 2) = bitsOf (expo 235 127) := by decide +kernel
theorem lInv (a : Int) (ha : isN a) (w : World) : Calls Tryd.prog 47 #[lnum a] w (Ret w (lnum (invN a))) := by
  have hp0 : (0 : Int) ≤ p ∧ p < big := by decide
  have HP : Hid (∀ w, Calls Tryd.prog 67 #[] w (Ret w (lnum p))) := Lib.hid prime
  have HM : Hid (∀ w, Calls Tryd.prog 70 #[lnum p, lnum 2] w (Ret w (lnum (p - 2)))) := Lib.hid fun w => minus p 2 (by decide) (by decide) hp0.2 w
  have HW : Hid (∀ w, Calls Tryd.prog 68 #[lnum a, lnum (p - 2)] w (Ret w (lnum (invN a)))) := Lib.hid fun w => by
    have := lPower a (p - 2) ha (by decide) w
    rw [inv_bits] at this
    exact this
  have h2 : lnum 2 = .agg #[.int .i64 2, .int .i64 0, .int .i64 0, .int .i64 0, .int .i64 0, .int .i64 0, .int .i64 0, .int .i64 0, .int .i64 0, .int .i64 0, .int .i64 0, .int .i64 0, .int .i64 0, .int .i64 0, .int .i64 0, .int .i64 0] := by unfold lnum; rw [lims_two]; rfl
  rw [h2] at HM
  unfold lnum at HM HP HW ⊢
  clear h2 hp0
  have ra := lims_len a
  have rr := lims_len (invN a)
  generalize lims (invN a) = res at *
  generalize lims (p - 2) = lq at *
  generalize lims p = lp at *
  generalize lims a = la at *
  go_enter Tryd.func47, Tryd.ntmps47
  go_wp2_with fail
  generalize hW : (w.alloc _).alloc _ = W0
  have hA : W0.heap[w.heap.size]? = some (.cells (ints .i64 la) 34) := by rw [← hW]; exact alloc2_1 _ _ _
  have hC : ∃ b : Array Value, b.size = 16 ∧ W0.heap[w.heap.size + 1]? = some (.cells b 34) := by rw [← hW]; exact ⟨_, rfl, alloc2_2 _ _ _⟩
  obtain ⟨b, hbs, hC⟩ := hC
  have he : Ext w W0 := by rw [← hW]; exact Ext.trans (ext_alloc _ _) (ext_alloc _ _)
  clear hW
  refine wp_region_rely Ext 4 8 [⟨none, [(1, none)]⟩, ⟨none, []⟩, ⟨none, []⟩, ⟨none, [(4, some 1), (5, some 2)]⟩] (by kernel_rfl) (by kernel_rfl) rfl Ext.refl Ext.trans (fun F r0 hr hF => ?_)
  have f1 : r0 1 = .pointer (some ⟨w.heap.size, 0, none⟩) := by rw [hr]; rfl
  clear hr
  simp only [List.take_succ_cons, List.take_zero]
  refine step_const (.agg (ints .i64 la)) (fun ρ W hR hh => ?_) ?_
  · exact relyAt_load_row 34 (.tmp _) rfl _ (Eq.trans hh.1 f1) 34 _ (0, 0) _ (row_ext (row_ext hA (ext_drew _)) hR) Tryd.underlying34 rfl (infoL _ ra)
  refine step_const (.agg (ints .i64 lp)) (fun ρ W hR hh => ?_) ?_
  · simp only [guarded, relyAt]
    go_simp
    exact ⟨Ext.refl _, (HP.out _).mono fun _ _ h => h.const⟩
  refine step_const (.agg #[.int .i64 2, .int .i64 0, .int .i64 0, .int .i64 0, .int .i64 0, .int .i64 0, .int .i64 0, .int .i64 0, .int .i64 0, .int .i64 0, .int .i64 0, .int .i64 0, .int .i64 0, .int .i64 0, .int .i64 0, .int .i64 0]) (fun ρ W hR hh => ?_) ?_
  · simp only [guarded, relyAt]
    go_simp
    exact Ext.refl _
  refine step_const (.agg (ints .i64 lq)) (fun ρ W hR hh => ?_) ?_
  · have h4 : ρ 4 = .agg (ints .i64 lp) := hh.1
    have h5 : ρ 5 = .agg #[.int .i64 2, .int .i64 0, .int .i64 0, .int .i64 0, .int .i64 0, .int .i64 0, .int .i64 0, .int .i64 0, .int .i64 0, .int .i64 0, .int .i64 0, .int .i64 0, .int .i64 0, .int .i64 0, .int .i64 0, .int .i64 0] := hh.2.1
    simp only [guarded, relyAt]
    go_simp
    exact ⟨Ext.refl _, (HM.out _).mono fun _ _ h => h.const⟩
  simp only [List.cons_append, List.nil_append]
  refine hF.out fun W hR => ?_
  simp only [List.take_succ_cons, List.take_zero, List.drop_succ_cons, List.drop_zero, fin, forall_eq, Act.put, List.setIfInBounds_toArray, List.set_cons_zero, List.set_cons_succ]
  clear hF
  go_wp2_with first
    | (go_at_call 68
       (with_reducible refine (HW.out _).mono ?_)
       rintro e w' ⟨rfl, hw⟩
       have hC' := row_ext (row_ext (row_ext hC (ext_drew _)) hR) hw
       have he' := Ext.trans (Ext.trans (Ext.trans he (ext_drew _)) hR) hw)
    | (with_reducible show wpList _ _ _ ((⟨_, .store 34 _ _, _, _, _, _⟩ : Oper) :: _) _ _
       refine wpList_store_row rfl 34 _ _ rfl (w.heap.size + 1) _ rfl rfl 34 _ hC' (infoL _ rr) (by rw [hbs, ints_size, rr]) (ints_one _ _) ?_)
  exact bodyPost_ret (results_cell_row (p := 2) rfl _ _ (w.heap.size + 1) 34 _ (0, 0) _ rfl (setRow_heap _ _ _ _ _ _ hC') Tryd.underlying34 rfl (infoL _ rr)) rfl ⟨rfl, ext_setRow he' (by omega) _⟩
end Go.Proofs.YtaojnmjmmfdfjaaDoor.Field
end

/-! Fermat's rule for the field: what the inverse is. -/
section
namespace Go.Proofs.YtaojnmjmmfdfjaaDoor.Field
open Go Go.RowKit
open Go.Proofs.YtaojnmjmmfdfjaaDoor.Rely
set_option linter.unusedVariables false

theorem cast_pow_mod (A k P : Nat) : ((A : Int) ^ k) % (P : Int) = ((A ^ k % P : Nat) : Int) := by
  rw [Int.natCast_emod, Int.natCast_pow]
theorem fermat_int (x : Int) (hx : isN x) (h0 : x ≠ 0) (k : Nat) (hk : k = 57896044618658097711785492504343953926634992332820282019728792003956564819949 - 1) : x ^ k % p = 1 := by
  obtain ⟨A, rfl⟩ := Int.eq_ofNat_of_zero_le hx.1
  have hA : A < 57896044618658097711785492504343953926634992332820282019728792003956564819949 := by have := hx.2; unfold p at this; omega
  have hA0 : A ≠ 0 := fun e => h0 (by rw [e]; rfl)
  have hf := Prime.p25519.2.1 A (by rw [Nat.mod_eq_of_lt hA]; exact hA0)
  rw [← hk] at hf
  have := cast_pow_mod A k 57896044618658097711785492504343953926634992332820282019728792003956564819949
  rw [hf] at this
  exact this
theorem inv_cnt : cnt (bitsOf (expo 235 127)) + 1 = 57896044618658097711785492504343953926634992332820282019728792003956564819949 - 1 := by decide +kernel
theorem inv_gen (k : Nat) (h : k + 1 = 57896044618658097711785492504343953926634992332820282019728792003956564819949 - 1) (x : Int) (hx : isN x) (h0 : x ≠ 0) : x * (x ^ k % p) % p = 1 := by
  have e : x ^ k * x = x ^ (k + 1) := (Int.pow_succ x k).symm
  rw [Int.mul_emod, Int.emod_emod, ← Int.mul_emod, Int.mul_comm, e]
  generalize k + 1 = m at *
  exact fermat_int x hx h0 m h
theorem inv_mul (x : Int) (hx : isN x) (h0 : x ≠ 0) : x * invN x % p = 1 := by
  unfold invN
  rw [pw_pow]
  exact inv_gen _ inv_cnt x hx h0
theorem zero_pow_mod (k : Nat) (h : k + 1 = 57896044618658097711785492504343953926634992332820282019728792003956564819949 - 1) : (0 : Int) ^ k % p = 0 := by
  have hk : k ≠ 0 := fun e => by
    subst e
    exact absurd h (by decide)
  rw [Int.zero_pow hk]
  rfl
theorem inv_zero : invN 0 = 0 := (pw_pow 0 (bitsOf (expo 235 127))).trans (zero_pow_mod _ inv_cnt)
end Go.Proofs.YtaojnmjmmfdfjaaDoor.Field
end

/-! What is divided comes back. -/
section
namespace Go.Proofs.YtaojnmjmmfdfjaaDoor.Field
open Go Go.RowKit
open Go.Proofs.YtaojnmjmmfdfjaaDoor.Rely
set_option linter.unusedVariables false

theorem modL (a b : Int) : a % p * b % p = a * b % p := by rw [Int.mul_emod, Int.emod_emod, ← Int.mul_emod]
theorem modR (a b : Int) : a * (b % p) % p = a * b % p := by rw [Int.mul_emod, Int.emod_emod, ← Int.mul_emod]
theorem isN_one_mul (x : Int) (hx : isN x) : x * 1 % p = x := by rw [Int.mul_one, Int.emod_eq_of_lt hx.1 hx.2]
theorem div_back (x y : Int) (hx : isN x) (hy : isN y) (h : y ≠ 0) : x * invN y % p * y % p = x := by
  rw [modL, Int.mul_assoc, Int.mul_comm (invN y), ← modR, inv_mul y hy h, isN_one_mul x hx]
theorem inv_ne (y : Int) (hy : isN y) (h : y ≠ 0) : invN y ≠ 0 := fun e => by
  have := inv_mul y hy h
  rw [e, Int.mul_zero] at this
  exact absurd this (by decide)
theorem inv_inv (y : Int) (hy : isN y) (h : y ≠ 0) : invN (invN y) = y := by
  have h1 := inv_mul y hy h
  have h2 := inv_mul (invN y) (invN_isN y) (inv_ne y hy h)
  have h3 : y * (invN y * invN (invN y) % p) % p = y := by rw [h2, isN_one_mul y hy]
  rw [modR, ← Int.mul_assoc, ← modL, h1, Int.one_mul, Int.emod_eq_of_lt (invN_isN _).1 (invN_isN _).2] at h3
  exact h3
theorem sub_self_mod (x : Int) : (x - x) % p = 0 := by rw [Int.sub_self]; rfl
theorem neg_add (x : Int) : (x + (0 - x) % p) % p = 0 := by
  rw [Int.add_emod_emod, show x + (0 - x) = 0 by omega]
  rfl
end Go.Proofs.YtaojnmjmmfdfjaaDoor.Field
end

/-! The bits of bytes are the bits of the document's number of these bytes. -/
section
namespace Go.Proofs.YtaojnmjmmfdfjaaDoor.Field
open Go Go.RowKit
open Go.Proofs.YtaojnmjmmfdfjaaDoor.Rely
set_option linter.unusedVariables false

theorem limb_le (es : List Int) (hb : AreBytes es) (k : Nat) (hk : k < 16) : limb (leAt es 0 32) k = pairAt es k := by
  have h := pair_val es 16
  rw [show 2 * 16 = 32 from rfl] at h
  rw [← h]
  exact limb_of (pairAt es) 16 (fun i _ => pair_range es hb i) k hk
theorem le_range (es : List Int) (hb : AreBytes es) : 0 ≤ leAt es 0 32 ∧ leAt es 0 32 < big := by
  have h := leAt_range es hb 0 32
  rw [show (256 : Int) ^ 32 = big by decide] at h
  exact h
theorem lims_le (es : List Int) (hb : AreBytes es) : lims (leAt es 0 32) = (List.range 16).map (pairAt es) := by
  unfold lims
  exact List.map_congr_left fun i hi => limb_le es hb i (List.mem_range.1 hi)
theorem pair_bit_low (a b : Int) (ha : 0 ≤ a ∧ a ≤ 255) (r : Nat) (hr : r < 8) : (a + 256 * b) / 2 ^ r % 2 = a / 2 ^ r % 2 := by
  rcases (by omega : r = 0 ∨ r = 1 ∨ r = 2 ∨ r = 3 ∨ r = 4 ∨ r = 5 ∨ r = 6 ∨ r = 7) with rfl | rfl | rfl | rfl | rfl | rfl | rfl | rfl
  all_goals
    simp only [Int.reducePow]
    omega
theorem pair_bit_high (a b : Int) (ha : 0 ≤ a ∧ a ≤ 255) (r : Nat) (hr : r < 8) : (a + 256 * b) / 2 ^ (r + 8) % 2 = b / 2 ^ r % 2 := by
  rcases (by omega : r = 0 ∨ r = 1 ∨ r = 2 ∨ r = 3 ∨ r = 4 ∨ r = 5 ∨ r = 6 ∨ r = 7) with rfl | rfl | rfl | rfl | rfl | rfl | rfl | rfl
  all_goals
    simp only [Int.reducePow, Nat.reduceAdd]
    omega
theorem lbit_eq (es : List Int) (hb : AreBytes es) (i : Nat) (hi : i < 256) : lbit (leAt es 0 32) i = bitAt es i := by
  unfold lbit bitAt
  rw [limb_le es hb (i / 16) (by omega)]
  unfold pairAt
  rcases Nat.lt_or_ge (i % 16) 8 with h | h
  · rw [show i / 8 = 2 * (i / 16) by omega, show i % 8 = i % 16 by omega]
    exact pair_bit_low _ _ (hb.nth _) _ h
  · obtain ⟨s, hs⟩ : ∃ s, i % 16 = s + 8 := ⟨i % 16 - 8, by omega⟩
    rw [show i / 8 = 2 * (i / 16) + 1 by omega, show i % 8 = s by omega, hs]
    exact pair_bit_high _ _ (hb.nth _) _ (by omega)
theorem lbits_eq (es : List Int) (hb : AreBytes es) : lbits (leAt es 0 32) = bitsOf es := by
  unfold lbits bitsOf
  refine List.map_congr_left fun j hj => ?_
  have := List.mem_range.1 hj
  exact lbit_eq es hb (255 - j) (by omega)
end Go.Proofs.YtaojnmjmmfdfjaaDoor.Field
end

/-! The iterator over the bits of bytes, for a body that writes what lay ahead. -/
section
namespace Go.Proofs.YtaojnmjmmfdfjaaDoor.Field
open Go Go.RowKit Go.Shelf
open Go.Proofs.YtaojnmjmmfdfjaaDoor.Rely
attribute [local go_sem] Oper.semAt_some
set_option linter.unusedVariables false

/-- one block lies as it lay -/
def Same (kb : Nat) (A B : World) : Prop := B.heap[kb]? = A.heap[kb]?
theorem Same.refl (kb : Nat) (A : World) : Same kb A A := rfl
theorem Same.trans' {kb : Nat} {A B C : World} (h : Same kb A B) (k : Same kb B C) : Same kb A C := Eq.trans k h
theorem same_book {kb : Nat} {w : World} (hk : kb < w.heap.size) (W : World) (l : Nat) (o o' : Obj) (hl : w.heap.size ≤ l) (h : W.heap[l]? = some o) (_ : o.isCells = false) (_ : o.isWalk = false) : Same kb W (W.putObj l o') :=
  World.putObj_heap_other (by omega)
set_option maxHeartbeats 2000000 in
theorem bits_stops_same (m : Nat) (hm : 1 ≤ m) (kb : Nat) (es : List Int) (hel : es.length = 32) (hb : AreBytes es) (w : World) (hkb : w.heap[kb]? = some (.cells (ints .u8 es) 23)) :
    SeqStopsK Fence.wide m Tryd.prog 71 #[.pointer (some ⟨kb, 0, none⟩)] (fun x : Int => #[Value.int .i64 x]) (Same kb) (fun ys => ys = bitsOf es) (fun pre => pre <+: bitsOf es) 256 w := fun l J Jx W hW hJ hJx hY h0 => by
  refine callsIn_of_wp Tryd.func71 rfl trivial ?_ rfl
  simp only [Tryd.ntmps71, List.size_toArray, List.length_cons, List.length_nil, Nat.reduceAdd, Nat.reduceSub, Array.replicate_succ, Array.replicate_zero, List.push_toArray, List.append_toArray, List.nil_append, List.cons_append]
  have hkW : W.heap[kb]? = some (.cells (ints .u8 es) 23) := (hW.block kb (row_lt hkb)).trans hkb
  gi_wp2
  gi_loopw [3] (fun i wr => ∃ k : Nat, k ≤ 256 ∧ i = .int .i64 ((k : Int) - 1) ∧ J ((bitsOf es).take (256 - k)) wr ∧ Same kb W wr) (fun i _ => (intOf i + 1).toNat)
  case atStart => exact ⟨256, by omega, rfl, by simpa using h0, Same.refl _ _⟩
  case round =>
    obtain ⟨k, hk256, rfl, hJs, hB⟩ := hrel
    rcases k with _ | j
    · gi_wp2
      go_end0
      exact ⟨⟨_, rfl⟩, .inl ⟨_, rfl, by rwa [List.take_of_length_le (by rw [bitsOf_len]; omega)] at hJs⟩⟩
    · have hj : j < 256 := by omega
      rw [show ((j + 1 : Nat) : Int) - 1 = (j : Int) by omega]
      have hkw : wr.heap[kb]? = some (.cells (ints .u8 es) 23) := hB.trans hkW
      have hX : (ints .u8 es)[j / 8]? = some (.int .u8 (nth es (j / 8))) := ints_get _ _ _ (by omega)
      have hcx := row_cell hkw hX
      obtain ⟨fn, tmps, assign, body, hy, hR⟩ := hY _ (bitAt es j) wr hJs (by rw [List.length_take, bitsOf_len]; omega)
      have hT := Lib.hid (bitsOf_take es j hj)
      have b1 := hb.nth (j / 8)
      rw [show bitAt es j = nth es (j / 8) / 2 ^ (j % 8) % 2 from rfl] at hy
      generalize bitAt es j = bt at *
      generalize nth es (j / 8) = v at *
      have q0 : (0 : Int) ≤ (j : Int) := by omega
      have q1 : (j : Int) / 8 < 32 := by omega
      have q2 : IntKind.i64.wrap ((j : Int) / 8) = (j : Int) / 8 := IntWalk.i64_in _ (by omega)
      have qm : (j : Int).tmod 8 = (j : Int) % 8 := Int.tmod_eq_emod_of_nonneg (by omega)
      have q3 : IntKind.i64.wrap ((j : Int) % 8) = (j : Int) % 8 := IntWalk.i64_in _ (by omega)
      have q4 : (0 : Int) ≤ (j : Int) / 8 := by omega
      have q5 : ((j : Int) / 8).toNat = j / 8 := by omega
      have q6 : ((j : Int) % 8).toNat = j % 8 := by omega
      have q7 : (0 : Int) ≤ (j : Int) % 8 := by omega
      have q8 : (j : Int) % 8 < 8 := by omega
      have hp : (1 : Int) ≤ 2 ^ (j % 8) := by
        have : (0 : Int) < 2 ^ (j % 8) := Int.pow_pos (by decide)
        omega
      have d1 : 0 ≤ v / 2 ^ (j % 8) := Int.ediv_nonneg b1.1 (by omega)
      have d2 : v / 2 ^ (j % 8) ≤ v := Int.ediv_le_self _ b1.1
      have w1 : IntKind.i64.wrap (v / 2 ^ (j % 8)) = v / 2 ^ (j % 8) := IntWalk.i64_in _ (by omega)
      have w2 := and_one (v / 2 ^ (j % 8)) (by omega)
      gi_wp2
      refine hR.mono ?_
      rintro e W3 (⟨rfl, hJ3, hk3⟩ | ⟨rfl, hJx3⟩)
      · gi_wp2
        go_roundw
        case rel => exact ⟨j, by omega, rfl, by rw [hT.out]; exact hJ3, hk3.trans hB⟩
        case measure => simp [intOf]
      · gi_wp2
        refine bodyPost_ret (results_none rfl _ _ _) rfl ?_
        exact ⟨⟨_, rfl⟩, .inr ⟨_, by rw [← hT.out]; exact List.take_prefix _ _, hJx3⟩⟩
end Go.Proofs.YtaojnmjmmfdfjaaDoor.Field
end

/-! The roots: what they are. -/
section
namespace Go.Proofs.YtaojnmjmmfdfjaaDoor.Field
open Go Go.RowKit
open Go.Proofs.YtaojnmjmmfdfjaaDoor.Rely
set_option linter.unusedVariables false

/-- the first candidate, and what makes the second one of it -/
def rootA (a : Int) : Int := pwBits a (bitsOf (expo 254 15))
def rootI : Int := pwBits 2 (bitsOf (expo 251 31))
theorem rootA_isN (a : Int) : isN (rootA a) := pwBits_isN _ _
theorem rootI_isN : isN rootI := pwBits_isN _ _
theorem two_isN : isN 2 := by unfold isN p; decide
theorem zero_isN' : isN 0 := by unfold isN p; decide
/-- the even one of r and its negative -/
def evenOf (r : Int) : Int := if r % 2 = 1 then (0 - r) % p else r
theorem evenOf_isN (r : Int) (h : isN r) : isN (evenOf r) := by
  unfold evenOf
  split
  · exact isN_mod _
  · exact h
theorem evenOf_odd (r : Int) (hr : isN r) (h : r % 2 = 1) : evenOf r = p - r := by
  unfold evenOf
  rw [if_pos h]
  unfold isN p at *
  omega
/-- the root, and whether there is one -/
def rootB (a r : Int) : Int := if r * r % p = a then evenOf r else 0
def rootN (a : Int) : Int := if rootA a * rootA a % p = a then evenOf (rootA a) else rootB a (rootA a * rootI % p)
def hasRoot (a : Int) : Bool := decide (rootA a * rootA a % p = a) || decide (rootA a * rootI % p * (rootA a * rootI % p) % p = a)
theorem rootN_isN (a : Int) : isN (rootN a) := by
  unfold rootN rootB
  split
  · exact evenOf_isN _ (rootA_isN a)
  · split
    · exact evenOf_isN _ (isN_mod _)
    · exact zero_isN'

/-! ### Exponents of the document -/
theorem root_bits : lbits 7237005577332262213973186563042994240829374041602535252466099000494570602494 = bitsOf (expo 254 15) := by decide +kernel
theorem rootI_bits : lbits 14474011154664524427946373126085988481658748083205070504932198000989141204987 = bitsOf (expo 251 31) := by decide +kernel
/-! ### The root of a square -/
theorem cnt_root : cnt (bitsOf (expo 254 15)) = 7237005577332262213973186563042994240829374041602535252466099000494570602494 := by decide +kernel
theorem cnt_rootI : cnt (bitsOf (expo 251 31)) = 14474011154664524427946373126085988481658748083205070504932198000989141204987 := by decide +kernel
end Go.Proofs.YtaojnmjmmfdfjaaDoor.Field
end

/-! The root of a square is it or its negative. -/
section
namespace Go.Proofs.YtaojnmjmmfdfjaaDoor.Field
open Go Go.RowKit
open Go.Proofs.YtaojnmjmmfdfjaaDoor.Rely
set_option linter.unusedVariables false

theorem pow_modp (a : Int) : ∀ n : Nat, (a % p) ^ n % p = a ^ n % p
  | 0 => by rw [Int.pow_zero, Int.pow_zero]
  | n + 1 => by
    rw [Int.pow_succ, Int.pow_succ, modR, Int.mul_emod, pow_modp a n, ← Int.mul_emod]
/-- what a prime divides: one of the two -/
theorem euclid (u v : Nat) (h : 57896044618658097711785492504343953926634992332820282019728792003956564819949 ∣ u * v) :
    57896044618658097711785492504343953926634992332820282019728792003956564819949 ∣ u ∨ 57896044618658097711785492504343953926634992332820282019728792003956564819949 ∣ v := by
  have hp := Prime.p25519.1
  generalize 57896044618658097711785492504343953926634992332820282019728792003956564819949 = P at *
  rcases hp.2 (Nat.gcd P u) (Nat.gcd_dvd_left P u) with hg | hg
  · right
    have hc : Nat.Coprime P u := hg
    exact hc.dvd_of_dvd_mul_left h
  · left
    rw [← hg]
    exact Nat.gcd_dvd_right P u
theorem sq_eq (r x : Int) (hr : isN r) (hx : isN x) (h : r * r % p = x * x % p) : r = x ∨ r = (0 - x) % p := by
  obtain ⟨R, rfl⟩ := Int.eq_ofNat_of_zero_le hr.1
  obtain ⟨X, rfl⟩ := Int.eq_ofNat_of_zero_le hx.1
  have hR := hr.2
  have hX := hx.2
  have h1 : (p : Int) ∣ (R : Int) * R - (X : Int) * X := Int.dvd_of_emod_eq_zero (by rw [Int.sub_emod, h, Int.sub_self]; rfl)
  have h2 : (p : Int) ∣ ((R : Int) + p - X) * ((R : Int) + X) := by
    have e : ((R : Int) + p - X) * ((R : Int) + X) = ((R : Int) * R - (X : Int) * X) + p * ((R : Int) + X) := by grind
    rw [e]
    exact Int.dvd_add h1 (Int.dvd_mul_right _ _)
  have h3 : 57896044618658097711785492504343953926634992332820282019728792003956564819949 ∣ (R + 57896044618658097711785492504343953926634992332820282019728792003956564819949 - X) * (R + X) := by
    unfold p at h2 hX
    rw [← Int.natCast_dvd_natCast]
    have e : (((R + 57896044618658097711785492504343953926634992332820282019728792003956564819949 - X) * (R + X) : Nat) : Int) = ((R : Int) + 57896044618658097711785492504343953926634992332820282019728792003956564819949 - X) * ((R : Int) + X) := by
      rw [Int.natCast_mul, Int.natCast_sub (by omega)]
      rfl
    rw [e]
    exact h2
  unfold p at *
  rcases euclid _ _ h3 with ⟨c, hc⟩ | ⟨c, hc⟩
  · left
    omega
  · right
    omega
theorem sq_gen (E h k : Nat) (hE : 4 * E = h + 2) (hh : 2 * h = k) (hk : k = 57896044618658097711785492504343953926634992332820282019728792003956564819949 - 1) (x : Int) (hx : isN x) (h0 : x ≠ 0) :
    (x * x % p) ^ E % p * ((x * x % p) ^ E % p) % p = x * x % p * (x ^ h % p) % p ∧ x ^ h % p * (x ^ h % p) % p = 1 := by
  constructor
  · rw [pow_modp, ← Int.mul_emod, ← Int.pow_add, ← Int.mul_emod]
    have e : (x * x) ^ (E + E) = x * x * x ^ h := by
      have e1 : x * x = x ^ 2 := by rw [Int.pow_succ, Int.pow_succ, Int.pow_zero, Int.one_mul]
      rw [e1, ← Int.pow_mul, ← Int.pow_add]
      congr 1
      omega
    rw [e]
  · rw [← Int.mul_emod, ← Int.pow_add, show h + h = k by omega]
    exact fermat_int x hx h0 k hk
theorem pm_half : Prime.pm 57896044618658097711785492504343953926634992332820282019728792003956564819949 256 2 28948022309329048855892746252171976963317496166410141009864396001978282409974 = 57896044618658097711785492504343953926634992332820282019728792003956564819948 := by decide +kernel
theorem two_half (m : Nat) (h : m = 28948022309329048855892746252171976963317496166410141009864396001978282409974) : (2 : Int) ^ m % p = p - 1 := by
  have h1 := Prime.pm_eq 57896044618658097711785492504343953926634992332820282019728792003956564819949 256 2 m (by rw [h]; decide)
  have h2 : Prime.pm 57896044618658097711785492504343953926634992332820282019728792003956564819949 256 2 m = 57896044618658097711785492504343953926634992332820282019728792003956564819948 := by rw [h]; exact pm_half
  rw [h2] at h1
  have h3 := cast_pow_mod 2 m 57896044618658097711785492504343953926634992332820282019728792003956564819949
  rw [← h1] at h3
  exact h3
theorem rootI_sq : rootI * rootI % p = p - 1 := by
  have hc := cnt_rootI
  unfold rootI
  rw [pw_pow]
  generalize cnt (bitsOf (expo 251 31)) = K at *
  rw [← Int.mul_emod, ← Int.pow_add]
  exact two_half (K + K) (by omega)
theorem neg_mod (x : Int) (hx : isN x) (h : x ≠ 0) : (0 - x) % p = p - x := by
  unfold isN p at *
  omega
theorem evenOf_neg (x : Int) (hx : isN x) : evenOf ((0 - x) % p) = evenOf x := by
  by_cases h : x = 0
  · subst h; rfl
  · have hpar : (p - x) % 2 = 1 - x % 2 := by unfold p; omega
    have hN : isN (p - x) := by unfold isN at *; omega
    have h0 : p - x ≠ 0 := by unfold isN at hx; omega
    rw [neg_mod x hx h]
    unfold evenOf
    by_cases h2 : x % 2 = 1
    · rw [if_neg (by omega), if_pos h2, neg_mod x hx h]
    · rw [if_pos (by omega), if_neg h2, neg_mod (p - x) hN h0]
      omega
theorem found_first (a r : Int) (h1 : rootA a = r) (h2 : r * r % p = a) : hasRoot a = true ∧ rootN a = evenOf r := by
  unfold hasRoot rootN
  rw [h1, if_pos h2, decide_eq_true h2]
  exact ⟨rfl, rfl⟩
theorem found_second (a r : Int) (h1 : rootA a * rootI % p = r) (h0 : rootA a * rootA a % p ≠ a) (h2 : r * r % p = a) : hasRoot a = true ∧ rootN a = evenOf r := by
  unfold hasRoot rootN rootB
  rw [h1, if_neg h0, if_pos h2, decide_eq_true h2]
  simp
theorem root_zero : hasRoot 0 = true ∧ rootN 0 = evenOf 0 := by
  refine found_first 0 0 ?_ (by decide)
  have hc := cnt_root
  unfold rootA
  rw [pw_pow]
  generalize cnt (bitsOf (expo 254 15)) = E at *
  rw [Int.zero_pow (by omega)]
  rfl
theorem four_mul (a b : Int) : a * b * (a * b) = a * a * (b * b) := by grind
theorem sq_mix (a i : Int) : a * i % p * (a * i % p) % p = (a * a % p) * (i * i % p) % p := by rw [← Int.mul_emod, ← Int.mul_emod, four_mul]
theorem neg_sq (a : Int) (ha : isN a) : a * (p - 1) % p * (p - 1) % p = a := by
  rw [modL, Int.mul_assoc, ← modR, show (p - 1) * (p - 1) % p = 1 by decide, isN_one_mul a ha]
theorem neg_ne (a : Int) (ha : isN a) (h : a ≠ 0) : a * (p - 1) % p ≠ a := by
  have e : a * (p - 1) = (0 - a) + p * a := by grind
  rw [e, Int.add_mul_emod_self_left, neg_mod a ha h]
  unfold p
  omega
theorem half_num (E : Nat) (hc : E = 7237005577332262213973186563042994240829374041602535252466099000494570602494) : ∃ h : Nat, 4 * E = h + 2 ∧ 2 * h = 57896044618658097711785492504343953926634992332820282019728792003956564819949 - 1 :=
  ⟨28948022309329048855892746252171976963317496166410141009864396001978282409974, by omega, by decide⟩
theorem sq_ne (x : Int) (hx : isN x) (h : x ≠ 0) : x * x % p ≠ 0 := fun e => by
  rcases sq_eq x 0 hx zero_isN' (by rw [e]; decide) with h1 | h1
  · exact h h1
  · exact h (h1.trans (by decide))
theorem same_even (x : Int) (hx : isN x) (r : Int) (hr : isN r) (e : r * r % p = x * x % p) : evenOf r = evenOf x := by
  rcases sq_eq r x hr hx e with h1 | h1
  · rw [h1]
  · rw [h1]; exact evenOf_neg x hx
theorem root_pos (x : Int) (hx : isN x) (h0 : x ≠ 0) : hasRoot (x * x % p) = true ∧ rootN (x * x % p) = evenOf x := by
  obtain ⟨h, hE, hh⟩ := half_num (cnt (bitsOf (expo 254 15))) cnt_root
  have hA : rootA (x * x % p) = (x * x % p) ^ cnt (bitsOf (expo 254 15)) % p := by unfold rootA; rw [pw_pow]
  generalize cnt (bitsOf (expo 254 15)) = E at *
  obtain ⟨q1, q2⟩ := sq_gen E h (2 * h) hE rfl hh x hx h0
  rw [← hA] at q1
  have hsN : isN (x ^ h % p) := isN_mod _
  have ha := sq_ne x hx h0
  have haN : isN (x * x % p) := isN_mod _
  have hrN := rootA_isN (x * x % p)
  have back := same_even x hx
  clear hE hh hA
  generalize x ^ h % p = s at *
  generalize x * x % p = a at *
  have q2' : s * s % p = 1 * 1 % p := by rw [q2]; decide
  rcases sq_eq s 1 hsN one_isN q2' with h1 | h1
  · have q3 : rootA a * rootA a % p = a := by rw [q1, h1, isN_one_mul a haN]
    have := found_first _ _ rfl q3
    rw [back _ hrN q3] at this
    exact this
  · have h2 : s = p - 1 := by rw [h1]; decide
    have q3 : rootA a * rootA a % p = a * (p - 1) % p := by rw [q1, h2]
    have q4 : rootA a * rootA a % p ≠ a := by rw [q3]; exact neg_ne a haN ha
    have q5 : rootA a * rootI % p * (rootA a * rootI % p) % p = a := by rw [sq_mix, q3, rootI_sq, neg_sq a haN]
    have := found_second _ _ rfl q4 q5
    rw [back _ (isN_mod _) q5] at this
    exact this
theorem root_square (x : Int) (hx : isN x) : hasRoot (x * x % p) = true ∧ rootN (x * x % p) = evenOf x := by
  by_cases h0 : x = 0
  · subst h0
    rw [show (0 : Int) * 0 % p = 0 by decide]
    exact root_zero
  · exact root_pos x hx h0
end Go.Proofs.YtaojnmjmmfdfjaaDoor.Field
end

/-! The program's Root. -/
section
namespace Go.Proofs.YtaojnmjmmfdfjaaDoor.Field
open Go Go.RowKit
open Go.Proofs.YtaojnmjmmfdfjaaDoor.Rely
set_option linter.unusedVariables false

theorem results_cell_tmp {Pr : Program} {fn : Func} {q t : Tmp} {ty : TypeId} (h : fn.results = #[.cell q ty, .tmp t]) (tmps : Array Value) (w : World) (g : Nat) (tt : TypeId) (cs : Array Value) (fr : Nat × Nat) (d : TypeDesc)
    (hp : tmps.getD q undef = .pointer (some ⟨g, 0, none⟩)) (v : Value) (ht : tmps.getD t undef = v) (hg : w.heap[g]? = some (.cells cs tt fr))
    (hu : Pr.underlying ty = some d) (hd : (match d with | .struct _ | .array _ _ => true | _ => false) = true) (hi : (Pr.info? ty).map (·.size) = some cs.size) :
    (results fn tmps).run Pr w = .ok (.tuple #[.agg cs, v]) w := by
  have hp' : tmps[q]?.getD undef = .pointer (some ⟨g, 0, none⟩) := by simpa using hp
  have ht' : tmps[t]?.getD undef = v := by simpa using ht
  simp [results, h, hp', ht', asAddr, run_loadVar_row w g tt ty cs fr d hg hu hd hi]

set_option maxRecDepth 100000 in
set_option maxHeartbeats 4000000 in
theorem root (a : Int) (ha : isN a) (w : World) : Calls Tryd.prog 36 #[num a] w (Ret w (.tuple #[num (rootN a), .bool (hasRoot a)])) := by
  have HE1 : Hid (∀ w, Calls Tryd.prog 65 #[.int .u8 254, .int .u8 15] w (Ret w (.agg (ints .u8 (expo 254 15))))) := Lib.hid (exponent 254 15)
  have HB1 : Hid (∀ w, Calls Tryd.prog 54 #[.agg (ints .u8 (expo 254 15))] w (Gives w (BitsV (expo 254 15)))) := Lib.hid (bits_call _)
  have HP1 : Hid (∀ v w, BitsV (expo 254 15) v w → Calls Tryd.prog 64 #[num a, v] w (Ret w (num (rootA a)))) := Lib.hid fun v w hv => power a ha (expo 254 15) (expo_len _ _) (expo_bytes _ _ (by decide) (by decide)) v w hv
  have HE2 : Hid (∀ w, Calls Tryd.prog 65 #[.int .u8 251, .int .u8 31] w (Ret w (.agg (ints .u8 (expo 251 31))))) := Lib.hid (exponent 251 31)
  have HB2 : Hid (∀ w, Calls Tryd.prog 54 #[.agg (ints .u8 (expo 251 31))] w (Gives w (BitsV (expo 251 31)))) := Lib.hid (bits_call _)
  have HP2 : Hid (∀ v w, BitsV (expo 251 31) v w → Calls Tryd.prog 64 #[num 2, v] w (Ret w (num rootI))) := Lib.hid fun v w hv => power 2 two_isN (expo 251 31) (expo_len _ _) (expo_bytes _ _ (by decide) (by decide)) v w hv
  have HS2 : Hid (∀ w, Calls Tryd.prog 32 #[.int .i64 2] w (Ret w (num 2))) := Lib.hid fun w => by have := small_pos 2 (by decide) w; rw [show (2 : Int) % p = 2 by decide] at this; exact this
  have i_ra := rootA_isN a
  have i_rb : isN (rootA a * rootI % p) := isN_mod _
  have HM0 : Hid (∀ w, Calls Tryd.prog 31 #[num (rootA a), num (rootA a)] w (Ret w (num (rootA a * rootA a % p)))) := Lib.hid (mul _ _ i_ra i_ra)
  have HMI : Hid (∀ w, Calls Tryd.prog 31 #[num (rootA a), num rootI] w (Ret w (num (rootA a * rootI % p)))) := Lib.hid (mul _ _ i_ra rootI_isN)
  have HM1 : Hid (∀ w, Calls Tryd.prog 31 #[num (rootA a * rootI % p), num (rootA a * rootI % p)] w (Ret w (num (rootA a * rootI % p * (rootA a * rootI % p) % p)))) := Lib.hid (mul _ _ i_rb i_rb)
  have i_s0 : isN (rootA a * rootA a % p) := isN_mod _
  have i_s1 : isN (rootA a * rootI % p * (rootA a * rootI % p) % p) := isN_mod _
  have FN : Hid (rootN a = (if rootA a * rootA a % p = a then evenOf (rootA a) else if rootA a * rootI % p * (rootA a * rootI % p) % p = a then evenOf (rootA a * rootI % p) else 0)) := Lib.hid rfl
  have FB : Hid (hasRoot a = (decide (rootA a * rootA a % p = a) || decide (rootA a * rootI % p * (rootA a * rootI % p) % p = a))) := Lib.hid rfl
  generalize hs0 : rootA a * rootA a % p = s0 at *
  generalize hs1 : rootA a * rootI % p * (rootA a * rootI % p) % p = s1 at *
  clear hs0 hs1
  generalize rootA a * rootI % p = rb at *
  generalize rootA a = ra at *
  generalize rootI = ri at *
  generalize expo 254 15 = x1 at *
  generalize expo 251 31 = x2 at *
  rw [show num a = .agg (numA a) from rfl]
  go_enter Tryd.func36, Tryd.ntmps36
  go_wp2_with fail
  generalize hW : (w.alloc _).alloc _ = W0
  have hA : W0.heap[w.heap.size]? = some (.cells (numA a) 28) := by rw [← hW]; exact alloc2_1 _ _ _
  have hC : ∃ b : Array Value, b.size = 4 ∧ W0.heap[w.heap.size + 1]? = some (.cells b 28) := by rw [← hW]; exact ⟨_, rfl, alloc2_2 _ _ _⟩
  obtain ⟨b, hbs, hC⟩ := hC
  have he : Ext w W0 := by rw [← hW]; exact Ext.trans (ext_alloc _ _) (ext_alloc _ _)
  clear hW
  have hsz := he.size
  have hlC := row_lt hC
  have HA : Hid (∀ W, Ext W0.drew W → W.heap[w.heap.size]? = some (.cells (numA a) 28)) := Lib.hid fun W hR => row_ext (row_ext hA (ext_drew _)) hR
  refine wp_region_rely Ext 5 34 [⟨none, [(1, none)]⟩, ⟨none, []⟩, ⟨none, [(6, some 1)]⟩, ⟨none, [(5, some 0), (7, some 2)]⟩, ⟨none, []⟩] (by kernel_rfl) (by kernel_rfl) rfl Ext.refl Ext.trans (fun F r0 hr hF => ?_)
  have f1 : r0 1 = .pointer (some ⟨w.heap.size, 0, none⟩) := by rw [hr]; rfl
  clear hr
  simp only [List.take_succ_cons, List.take_zero]
  refine step_const (num a) (fun ρ W hR hh => ?_) ?_
  · clear hF
    exact load_num (.tmp _) rfl _ _ (Eq.trans hh.1 f1) (HA.out W hR)
  refine step_const (.agg (ints .u8 x1)) (fun ρ W hR hh => ?_) ?_
  · clear hF
    simp only [guarded, relyAt]
    go_simp
    exact ⟨Ext.refl _, (HE1.out _).mono fun _ _ h => h.const⟩
  refine step_fact (BitsV x1) (bitsV_stable x1) (fun ρ W hR hh => ?_) ?_
  · clear hF
    have h6 : ρ 6 = .agg (ints .u8 x1) := hh.1
    simp only [guarded, relyAt]
    go_simp
    exact ⟨Ext.refl _, (HB1.out _).mono fun _ _ h => h.fact⟩
  refine step_const (num ra) (fun ρ W hR hh => ?_) ?_
  · clear hF
    have h5 : ρ 5 = num a := hh.1
    have h7 : BitsV x1 (ρ 7) W := hh.2.1
    simp only [guarded, relyAt]
    go_simp
    exact ⟨Ext.refl _, (HP1.out _ _ h7).mono fun _ _ h => h.const⟩
  refine step_fact (FreshT 28 4 W0.heap.size) (freshT_stable _ _ _) (fun ρ W hR hh => ?_) ?_
  · have hsz : W0.heap.size ≤ W.heap.size := hR.size
    simp only [guarded, relyAt]
    go_simp
    exact ⟨ext_alloc _ _, _, rfl, by omega, by simp, _, rfl, heap_alloc_new _ _⟩
  simp only [List.cons_append, List.nil_append]
  refine hF.out fun W1 hR1 => ?_
  simp only [List.take_succ_cons, List.take_zero, List.drop_succ_cons, List.drop_zero, fin, forall_eq, Act.put, List.setIfInBounds_toArray, List.set_cons_zero, List.set_cons_succ]
  rintro vb - vg ⟨gr, rfl, lg, ug, cg, sg, kg⟩
  clear hF f1
  refine wpList_store_row rfl 28 _ _ rfl gr (numA ra) rfl rfl 28 _ kg infoNum sg (numA_one _) ?_
  have hE1 := Ext.trans (ext_drew W0) hR1
  have hr1 := setRow_heap _ _ _ (numA ra) _ _ kg
  have hA1 := (setRow_other W1 gr w.heap.size (numA ra) (by omega)).trans (row_ext hA hE1)
  have hs1 := (setRow_other W1 gr (w.heap.size + 1) (numA ra) (by omega)).trans (row_ext hC hE1)
  have he1 := ext_setRow (Ext.trans he hE1) (show w.heap.size ≤ gr by omega) (numA ra)
  have hgr : w.heap.size + 1 < gr := by omega
  clear kg hR1 hE1 HA hA hC he lg ug sg hsz hlC HE1 HB1 HP1
  generalize W1.setRow gr (numA ra) = V1 at *
  have HA : Hid (∀ W, Ext V1.drew W → W.heap[w.heap.size]? = some (.cells (numA a) 28)) := Lib.hid fun W hR => row_ext (row_ext hA1 (ext_drew _)) hR
  have HR : Hid (∀ W, Ext V1.drew W → W.heap[gr]? = some (.cells (numA ra) 28)) := Lib.hid fun W hR => row_ext (row_ext hr1 (ext_drew _)) hR
  by_cases hz : s0 = a
  · have HQ : Hid (∀ w, Calls Tryd.prog 53 #[num s0, num a] w (Ret w (.bool true))) := Lib.hid (num_is s0 a hz i_s0)
    have HM := HM0
    have FIN : Hid (rootN a = evenOf ra ∧ hasRoot a = true) := Lib.hid ⟨by rw [FN.out, if_pos hz], by rw [FB.out, decide_eq_true hz]; rfl⟩
    clear hz FN FB HM1 HMI HP2 HE2 HB2 HS2
    go_wp2
    refine wp_region_rely Ext 5 34 [⟨none, [(4, none)]⟩, ⟨none, [(4, none)]⟩, ⟨none, [(9, some 0), (10, some 1)]⟩, ⟨none, [(1, none)]⟩, ⟨none, [(11, some 2), (12, some 3)]⟩] (by kernel_rfl) (by kernel_rfl) rfl Ext.refl Ext.trans (fun F r0 hr hF => ?_)
    have f4 : r0 4 = .pointer (some ⟨gr, 0, none⟩) := by rw [hr]; rfl
    have f1 : r0 1 = .pointer (some ⟨w.heap.size, 0, none⟩) := by rw [hr]; rfl
    clear hr
    simp only [List.take_succ_cons, List.take_zero]
    refine step_const (num ra) (fun ρ W hR hh => ?_) ?_
    · clear hF
      have h4 : ρ 4 = .pointer (some ⟨gr, 0, none⟩) := Eq.trans hh.1 f4
      exact load_num (.tmp _) rfl _ _  h4 (HR.out W hR)
    refine step_const (num ra) (fun ρ W hR hh => ?_) ?_
    · clear hF
      have h4 : ρ 4 = .pointer (some ⟨gr, 0, none⟩) := Eq.trans hh.1 f4
      exact load_num (.tmp _) rfl _ _  h4 (HR.out W hR)
    refine step_const (num s0) (fun ρ W hR hh => ?_) ?_
    · clear hF
      have h9 : ρ 9 = num ra := hh.1
      have h10 : ρ 10 = num ra := hh.2.1
      simp only [guarded, relyAt]
      go_simp
      exact ⟨Ext.refl _, (HM.out _).mono fun _ _ h => h.const⟩
    refine step_const (num a) (fun ρ W hR hh => ?_) ?_
    · clear hF
      have h1 : ρ 1 = .pointer (some ⟨w.heap.size, 0, none⟩) := Eq.trans hh.1 f1
      exact load_num (.tmp _) rfl _ _  h1 (HA.out W hR)
    refine step_const (.bool true) (fun ρ W hR hh => ?_) ?_
    · clear hF
      have h11 : ρ 11 = num s0 := hh.1
      have h12 : ρ 12 = num a := hh.2.1
      simp only [guarded, relyAt]
      go_simp
      exact ⟨Ext.refl _, (HQ.out _).mono fun _ _ h => h.const⟩
    simp only [List.cons_append, List.nil_append]
    refine hF.out fun W2 hR2 => ?_
    simp only [List.take_succ_cons, List.take_zero, List.drop_succ_cons, List.drop_zero, fin, forall_eq, Act.put, List.setIfInBounds_toArray, List.set_cons_zero, List.set_cons_succ]
    clear hF
    have hr2 := row_ext (row_ext hr1 (ext_drew _)) hR2
    have hA2 := row_ext (row_ext hA1 (ext_drew _)) hR2
    have hs2 := row_ext (row_ext hs1 (ext_drew _)) hR2
    have he2 := Ext.trans (Ext.trans he1 (ext_drew _)) hR2
    clear HA HR hR2 hr1 hA1 hs1 he1
    have HA : Hid (∀ W, Ext W2.drew W → W.heap[w.heap.size]? = some (.cells (numA a) 28)) := Lib.hid fun W hR => row_ext (row_ext hA2 (ext_drew _)) hR
    have HR : Hid (∀ W, Ext W2.drew W → W.heap[gr]? = some (.cells (numA ra) 28)) := Lib.hid fun W hR => row_ext (row_ext hr2 (ext_drew _)) hR
    go_wp2
    refine wp_region_rely Ext 5 34 [⟨none, [(4, none)]⟩, ⟨none, [(4, none)]⟩, ⟨none, [(21, some 0), (22, some 1)]⟩, ⟨none, [(1, none)]⟩, ⟨none, [(23, some 2), (24, some 3)]⟩] (by kernel_rfl) (by kernel_rfl) rfl Ext.refl Ext.trans (fun F r0 hr hF => ?_)
    have f4 : r0 4 = .pointer (some ⟨gr, 0, none⟩) := by rw [hr]; rfl
    have f1 : r0 1 = .pointer (some ⟨w.heap.size, 0, none⟩) := by rw [hr]; rfl
    clear hr
    simp only [List.take_succ_cons, List.take_zero]
    refine step_const (num ra) (fun ρ W hR hh => ?_) ?_
    · clear hF
      have h4 : ρ 4 = .pointer (some ⟨gr, 0, none⟩) := Eq.trans hh.1 f4
      exact load_num (.tmp _) rfl _ _  h4 (HR.out W hR)
    refine step_const (num ra) (fun ρ W hR hh => ?_) ?_
    · clear hF
      have h4 : ρ 4 = .pointer (some ⟨gr, 0, none⟩) := Eq.trans hh.1 f4
      exact load_num (.tmp _) rfl _ _  h4 (HR.out W hR)
    refine step_const (num s0) (fun ρ W hR hh => ?_) ?_
    · clear hF
      have h21 : ρ 21 = num ra := hh.1
      have h22 : ρ 22 = num ra := hh.2.1
      simp only [guarded, relyAt]
      go_simp
      exact ⟨Ext.refl _, (HM.out _).mono fun _ _ h => h.const⟩
    refine step_const (num a) (fun ρ W hR hh => ?_) ?_
    · clear hF
      have h1 : ρ 1 = .pointer (some ⟨w.heap.size, 0, none⟩) := Eq.trans hh.1 f1
      exact load_num (.tmp _) rfl _ _  h1 (HA.out W hR)
    refine step_const (.bool true) (fun ρ W hR hh => ?_) ?_
    · clear hF
      have h23 : ρ 23 = num s0 := hh.1
      have h24 : ρ 24 = num a := hh.2.1
      simp only [guarded, relyAt]
      go_simp
      exact ⟨Ext.refl _, (HQ.out _).mono fun _ _ h => h.const⟩
    simp only [List.cons_append, List.nil_append]
    refine hF.out fun W4 hR4 => ?_
    simp only [List.take_succ_cons, List.take_zero, List.drop_succ_cons, List.drop_zero, fin, forall_eq, Act.put, List.setIfInBounds_toArray, List.set_cons_zero, List.set_cons_succ]
    clear hF
    have hr4 := row_ext (row_ext hr2 (ext_drew _)) hR4
    have hA4 := row_ext (row_ext hA2 (ext_drew _)) hR4
    have hs4 := row_ext (row_ext hs2 (ext_drew _)) hR4
    have he4 := Ext.trans (Ext.trans he2 (ext_drew _)) hR4
    clear HA HR hR4 hr2 hA2 hs2 he2
    by_cases ho : ra % 2 = 1
    · have HO : Hid (∀ w, Calls Tryd.prog 49 #[.agg (numA ra)] w (Ret w (.bool true))) := Lib.hid fun w => by
        have := odd ra i_ra w
        rw [ho] at this
        exact this
      have HN : Hid (∀ w, Calls Tryd.prog 34 #[.agg #[.int .u64 0, .int .u64 0, .int .u64 0, .int .u64 0], .agg (numA ra)] w (Ret w (.agg (numA (evenOf ra))))) := Lib.hid fun w => by
        have := sub 0 ra zero_isN' i_ra w
        rw [show (0 - ra) % p = evenOf ra by unfold evenOf; rw [if_pos ho]] at this
        exact this
      generalize hev : evenOf ra = ev at *
      clear ho
      go_wp2_with first
        | (go_at_call 49
           (with_reducible refine (HO.out _).mono ?_)
           rintro e w6 ⟨rfl, hw6⟩
           clear HO
           have hr6 := row_ext hr4 hw6
           have hs6 := row_ext hs4 hw6
           have he6 := Ext.trans he4 hw6
           clear hr4 hs4 he4 hw6)
        | (go_at_call 34
           (with_reducible refine (HN.out _).mono ?_)
           rintro e w7 ⟨rfl, hw7⟩
           clear HN
           have hr7 := row_ext hr6 hw7
           have hs7 := row_ext hs6 hw7
           have he7 := Ext.trans he6 hw7
           clear hr6 hs6 he6 hw7)
        | (with_reducible show wpList _ _ _ ((⟨_, .load 28 _, _, _, _, _⟩ : Oper) :: _) _ _
           refine wpList_load_row rfl 28 _ rfl gr rfl 28 _ (0, 0) _ hr4 Tryd.underlying28 rfl infoNum ?_)
        | (with_reducible show wpList _ _ _ ((⟨_, .load 28 _, _, _, _, _⟩ : Oper) :: _) _ _
           refine wpList_load_row rfl 28 _ rfl gr rfl 28 _ (0, 0) _ hr6 Tryd.underlying28 rfl infoNum ?_)
        | (with_reducible show wpList _ _ _ ((⟨_, .load 28 _, _, _, _, _⟩ : Oper) :: _) _ _
           refine wpList_load_row rfl 28 _ rfl gr rfl 28 _ (0, 0) _ hr8 Tryd.underlying28 rfl infoNum ?_)
        | (with_reducible show wpList _ _ _ ((⟨_, .store 28 _ _, _, _, _, _⟩ : Oper) :: _) _ _
           refine wpList_store_row rfl 28 _ _ rfl gr (numA ev) rfl rfl 28 _ hr7 infoNum rfl (numA_one _) ?_
           have hr8 := setRow_heap _ _ _ (numA ev) _ _ hr7
           have hs8 := (setRow_other w7 gr (w.heap.size + 1) (numA ev) (by omega)).trans hs7
           have he8 := ext_setRow he7 (show w.heap.size ≤ gr by omega) (numA ev)
           clear hr7)
        | (with_reducible show wpList _ _ _ ((⟨_, .store 28 _ _, _, _, _, _⟩ : Oper) :: _) _ _
           refine wpList_store_row rfl 28 _ _ rfl (w.heap.size + 1) (numA ev) rfl rfl 28 _ hs8 infoNum hbs (numA_one _) ?_)
      exact bodyPost_ret (results_cell_tmp rfl _ _ (w.heap.size + 1) 28 _ (0, 0) _ rfl _ rfl (setRow_heap _ _ _ _ _ _ hs8) Tryd.underlying28 rfl infoNum) rfl ⟨by rw [FIN.out.1, FIN.out.2]; rfl, ext_setRow he8 (by omega) _⟩
    · have HO : Hid (∀ w, Calls Tryd.prog 49 #[.agg (numA ra)] w (Ret w (.bool false))) := Lib.hid fun w => by
        have := odd ra i_ra w
        rw [show (ra % 2 == 1) = false by simpa using ho] at this
        exact this
      have hev : evenOf ra = ra := by unfold evenOf; rw [if_neg ho]
      clear ho
      have HEV := Lib.hid hev
      clear hev
      go_wp2_with first
        | (go_at_call 49
           (with_reducible refine (HO.out _).mono ?_)
           rintro e w6 ⟨rfl, hw6⟩
           clear HO
           have hr6 := row_ext hr4 hw6
           have hs6 := row_ext hs4 hw6
           have he6 := Ext.trans he4 hw6
           clear hr4 hs4 he4 hw6)
        | (with_reducible show wpList _ _ _ ((⟨_, .load 28 _, _, _, _, _⟩ : Oper) :: _) _ _
           refine wpList_load_row rfl 28 _ rfl gr rfl 28 _ (0, 0) _ hr4 Tryd.underlying28 rfl infoNum ?_)
        | (with_reducible show wpList _ _ _ ((⟨_, .load 28 _, _, _, _, _⟩ : Oper) :: _) _ _
           refine wpList_load_row rfl 28 _ rfl gr rfl 28 _ (0, 0) _ hr6 Tryd.underlying28 rfl infoNum ?_)
        | (with_reducible show wpList _ _ _ ((⟨_, .store 28 _ _, _, _, _, _⟩ : Oper) :: _) _ _
           refine wpList_store_row rfl 28 _ _ rfl (w.heap.size + 1) (numA ra) rfl rfl 28 _ hs6 infoNum hbs (numA_one _) ?_)
      exact bodyPost_ret (results_cell_tmp rfl _ _ (w.heap.size + 1) 28 _ (0, 0) _ rfl _ rfl (setRow_heap _ _ _ _ _ _ hs6) Tryd.underlying28 rfl infoNum) rfl ⟨by rw [FIN.out.1, FIN.out.2, HEV.out]; rfl, ext_setRow he6 (by omega) _⟩
  · have HQ0 : Hid (∀ w, Calls Tryd.prog 53 #[num s0, num a] w (Ret w (.bool false))) := Lib.hid (num_isnt s0 a hz i_s0 ha)
    have HZ := Lib.hid hz
    clear hz
    have HQ := HQ0
    have HM := HM0
    go_wp2
    refine wp_region_rely Ext 5 34 [⟨none, [(4, none)]⟩, ⟨none, [(4, none)]⟩, ⟨none, [(9, some 0), (10, some 1)]⟩, ⟨none, [(1, none)]⟩, ⟨none, [(11, some 2), (12, some 3)]⟩] (by kernel_rfl) (by kernel_rfl) rfl Ext.refl Ext.trans (fun F r0 hr hF => ?_)
    have f4 : r0 4 = .pointer (some ⟨gr, 0, none⟩) := by rw [hr]; rfl
    have f1 : r0 1 = .pointer (some ⟨w.heap.size, 0, none⟩) := by rw [hr]; rfl
    clear hr
    simp only [List.take_succ_cons, List.take_zero]
    refine step_const (num ra) (fun ρ W hR hh => ?_) ?_
    · clear hF
      have h4 : ρ 4 = .pointer (some ⟨gr, 0, none⟩) := Eq.trans hh.1 f4
      exact load_num (.tmp _) rfl _ _  h4 (HR.out W hR)
    refine step_const (num ra) (fun ρ W hR hh => ?_) ?_
    · clear hF
      have h4 : ρ 4 = .pointer (some ⟨gr, 0, none⟩) := Eq.trans hh.1 f4
      exact load_num (.tmp _) rfl _ _  h4 (HR.out W hR)
    refine step_const (num s0) (fun ρ W hR hh => ?_) ?_
    · clear hF
      have h9 : ρ 9 = num ra := hh.1
      have h10 : ρ 10 = num ra := hh.2.1
      simp only [guarded, relyAt]
      go_simp
      exact ⟨Ext.refl _, (HM.out _).mono fun _ _ h => h.const⟩
    refine step_const (num a) (fun ρ W hR hh => ?_) ?_
    · clear hF
      have h1 : ρ 1 = .pointer (some ⟨w.heap.size, 0, none⟩) := Eq.trans hh.1 f1
      exact load_num (.tmp _) rfl _ _  h1 (HA.out W hR)
    refine step_const (.bool false) (fun ρ W hR hh => ?_) ?_
    · clear hF
      have h11 : ρ 11 = num s0 := hh.1
      have h12 : ρ 12 = num a := hh.2.1
      simp only [guarded, relyAt]
      go_simp
      exact ⟨Ext.refl _, (HQ.out _).mono fun _ _ h => h.const⟩
    simp only [List.cons_append, List.nil_append]
    refine hF.out fun W2 hR2 => ?_
    simp only [List.take_succ_cons, List.take_zero, List.drop_succ_cons, List.drop_zero, fin, forall_eq, Act.put, List.setIfInBounds_toArray, List.set_cons_zero, List.set_cons_succ]
    clear hF
    have hr2 := row_ext (row_ext hr1 (ext_drew _)) hR2
    have hA2 := row_ext (row_ext hA1 (ext_drew _)) hR2
    have hs2 := row_ext (row_ext hs1 (ext_drew _)) hR2
    have he2 := Ext.trans (Ext.trans he1 (ext_drew _)) hR2
    clear HA HR hR2 hr1 hA1 hs1 he1
    clear HQ HM HQ0 HM0
    go_wp2
    have HR : Hid (∀ W, Ext W2.drew W → W.heap[gr]? = some (.cells (numA ra) 28)) := Lib.hid fun W hR => row_ext (row_ext hr2 (ext_drew _)) hR
    refine wp_region_rely Ext 6 34 [⟨none, [(4, none)]⟩, ⟨none, []⟩, ⟨none, []⟩, ⟨none, [(17, some 2)]⟩, ⟨none, [(16, some 1), (18, some 3)]⟩, ⟨none, [(15, some 0), (19, some 4)]⟩] (by kernel_rfl) (by kernel_rfl) rfl Ext.refl Ext.trans (fun F r0 hr hF => ?_)
    have f4 : r0 4 = .pointer (some ⟨gr, 0, none⟩) := by rw [hr]; rfl
    clear hr
    simp only [List.take_succ_cons, List.take_zero]
    refine step_const (num ra) (fun ρ W hR hh => ?_) ?_
    · clear hF
      exact load_num (.tmp _) rfl _ _ (Eq.trans hh.1 f4) (HR.out W hR)
    refine step_const (num 2) (fun ρ W hR hh => ?_) ?_
    · clear hF
      simp only [guarded, relyAt]
      go_simp
      exact ⟨Ext.refl _, (HS2.out _).mono fun _ _ h => h.const⟩
    refine step_const (.agg (ints .u8 x2)) (fun ρ W hR hh => ?_) ?_
    · clear hF
      simp only [guarded, relyAt]
      go_simp
      exact ⟨Ext.refl _, (HE2.out _).mono fun _ _ h => h.const⟩
    refine step_fact (BitsV x2) (bitsV_stable x2) (fun ρ W hR hh => ?_) ?_
    · clear hF
      have h17 : ρ 17 = .agg (ints .u8 x2) := hh.1
      simp only [guarded, relyAt]
      go_simp
      exact ⟨Ext.refl _, (HB2.out _).mono fun _ _ h => h.fact⟩
    refine step_const (num ri) (fun ρ W hR hh => ?_) ?_
    · clear hF
      have h16 : ρ 16 = num 2 := hh.1
      have h18 : BitsV x2 (ρ 18) W := hh.2.1
      simp only [guarded, relyAt]
      go_simp
      exact ⟨Ext.refl _, (HP2.out _ _ h18).mono fun _ _ h => h.const⟩
    refine step_const (num rb) (fun ρ W hR hh => ?_) ?_
    · clear hF
      have h15 : ρ 15 = num ra := hh.1
      have h19 : ρ 19 = num ri := hh.2.1
      simp only [guarded, relyAt]
      go_simp
      exact ⟨Ext.refl _, (HMI.out _).mono fun _ _ h => h.const⟩
    simp only [List.cons_append, List.nil_append]
    refine hF.out fun W3 hR3 => ?_
    simp only [List.take_succ_cons, List.take_zero, List.drop_succ_cons, List.drop_zero, fin, forall_eq, Act.put, List.setIfInBounds_toArray, List.set_cons_zero, List.set_cons_succ]
    intro vb hvb
    clear hF f4 hvb
    have hr3 := row_ext (row_ext hr2 (ext_drew _)) hR3
    refine wpList_store_row rfl 28 _ _ rfl gr (numA rb) rfl rfl 28 _ hr3 infoNum rfl (numA_one _) ?_
    have hr5 := setRow_heap _ _ _ (numA rb) _ _ hr3
    have hA5 := (setRow_other W3 gr w.heap.size (numA rb) (by omega)).trans (row_ext (row_ext hA2 (ext_drew _)) hR3)
    have hs5 := (setRow_other W3 gr (w.heap.size + 1) (numA rb) (by omega)).trans (row_ext (row_ext hs2 (ext_drew _)) hR3)
    have he5 := ext_setRow (Ext.trans (Ext.trans he2 (ext_drew _)) hR3) (show w.heap.size ≤ gr by omega) (numA rb)
    clear hr3 hr2 hA2 hs2 he2 hR3 HR HS2 HE2 HB2 HP2 HMI
    generalize W3.setRow gr (numA rb) = V5 at *
    have HA : Hid (∀ W, Ext V5.drew W → W.heap[w.heap.size]? = some (.cells (numA a) 28)) := Lib.hid fun W hR => row_ext (row_ext hA5 (ext_drew _)) hR
    have HR : Hid (∀ W, Ext V5.drew W → W.heap[gr]? = some (.cells (numA rb) 28)) := Lib.hid fun W hR => row_ext (row_ext hr5 (ext_drew _)) hR
    have HM := HM1
    by_cases hz : s1 = a
    · have HQ : Hid (∀ w, Calls Tryd.prog 53 #[num s1, num a] w (Ret w (.bool true))) := Lib.hid (num_is s1 a hz i_s1)
      have FIN : Hid (rootN a = evenOf rb ∧ hasRoot a = true) := Lib.hid ⟨by rw [FN.out, if_neg HZ.out, if_pos hz], by rw [FB.out, decide_eq_true hz, Bool.or_true]⟩
      clear hz FN FB HZ
      go_wp2
      refine wp_region_rely Ext 5 34 [⟨none, [(4, none)]⟩, ⟨none, [(4, none)]⟩, ⟨none, [(21, some 0), (22, some 1)]⟩, ⟨none, [(1, none)]⟩, ⟨none, [(23, some 2), (24, some 3)]⟩] (by kernel_rfl) (by kernel_rfl) rfl Ext.refl Ext.trans (fun F r0 hr hF => ?_)
      have f4 : r0 4 = .pointer (some ⟨gr, 0, none⟩) := by rw [hr]; rfl
      have f1 : r0 1 = .pointer (some ⟨w.heap.size, 0, none⟩) := by rw [hr]; rfl
      clear hr
      simp only [List.take_succ_cons, List.take_zero]
      refine step_const (num rb) (fun ρ W hR hh => ?_) ?_
      · clear hF
        have h4 : ρ 4 = .pointer (some ⟨gr, 0, none⟩) := Eq.trans hh.1 f4
        exact load_num (.tmp _) rfl _ _  h4 (HR.out W hR)
      refine step_const (num rb) (fun ρ W hR hh => ?_) ?_
      · clear hF
        have h4 : ρ 4 = .pointer (some ⟨gr, 0, none⟩) := Eq.trans hh.1 f4
        exact load_num (.tmp _) rfl _ _  h4 (HR.out W hR)
      refine step_const (num s1) (fun ρ W hR hh => ?_) ?_
      · clear hF
        have h21 : ρ 21 = num rb := hh.1
        have h22 : ρ 22 = num rb := hh.2.1
        simp only [guarded, relyAt]
        go_simp
        exact ⟨Ext.refl _, (HM.out _).mono fun _ _ h => h.const⟩
      refine step_const (num a) (fun ρ W hR hh => ?_) ?_
      · clear hF
        have h1 : ρ 1 = .pointer (some ⟨w.heap.size, 0, none⟩) := Eq.trans hh.1 f1
        exact load_num (.tmp _) rfl _ _  h1 (HA.out W hR)
      refine step_const (.bool true) (fun ρ W hR hh => ?_) ?_
      · clear hF
        have h23 : ρ 23 = num s1 := hh.1
        have h24 : ρ 24 = num a := hh.2.1
        simp only [guarded, relyAt]
        go_simp
        exact ⟨Ext.refl _, (HQ.out _).mono fun _ _ h => h.const⟩
      simp only [List.cons_append, List.nil_append]
      refine hF.out fun W4 hR4 => ?_
      simp only [List.take_succ_cons, List.take_zero, List.drop_succ_cons, List.drop_zero, fin, forall_eq, Act.put, List.setIfInBounds_toArray, List.set_cons_zero, List.set_cons_succ]
      clear hF
      have hr4 := row_ext (row_ext hr5 (ext_drew _)) hR4
      have hA4 := row_ext (row_ext hA5 (ext_drew _)) hR4
      have hs4 := row_ext (row_ext hs5 (ext_drew _)) hR4
      have he4 := Ext.trans (Ext.trans he5 (ext_drew _)) hR4
      clear HA HR hR4 hr5 hA5 hs5 he5
      by_cases ho : rb % 2 = 1
      · have HO : Hid (∀ w, Calls Tryd.prog 49 #[.agg (numA rb)] w (Ret w (.bool true))) := Lib.hid fun w => by
          have := odd rb i_rb w
          rw [ho] at this
          exact this
        have HN : Hid (∀ w, Calls Tryd.prog 34 #[.agg #[.int .u64 0, .int .u64 0, .int .u64 0, .int .u64 0], .agg (numA rb)] w (Ret w (.agg (numA (evenOf rb))))) := Lib.hid fun w => by
          have := sub 0 rb zero_isN' i_rb w
          rw [show (0 - rb) % p = evenOf rb by unfold evenOf; rw [if_pos ho]] at this
          exact this
        generalize hev : evenOf rb = ev at *
        clear ho
        go_wp2_with first
          | (go_at_call 49
             (with_reducible refine (HO.out _).mono ?_)
             rintro e w6 ⟨rfl, hw6⟩
             clear HO
             have hr6 := row_ext hr4 hw6
             have hs6 := row_ext hs4 hw6
             have he6 := Ext.trans he4 hw6
             clear hr4 hs4 he4 hw6)
          | (go_at_call 34
             (with_reducible refine (HN.out _).mono ?_)
             rintro e w7 ⟨rfl, hw7⟩
             clear HN
             have hr7 := row_ext hr6 hw7
             have hs7 := row_ext hs6 hw7
             have he7 := Ext.trans he6 hw7
             clear hr6 hs6 he6 hw7)
          | (with_reducible show wpList _ _ _ ((⟨_, .load 28 _, _, _, _, _⟩ : Oper) :: _) _ _
             refine wpList_load_row rfl 28 _ rfl gr rfl 28 _ (0, 0) _ hr4 Tryd.underlying28 rfl infoNum ?_)
          | (with_reducible show wpList _ _ _ ((⟨_, .load 28 _, _, _, _, _⟩ : Oper) :: _) _ _
             refine wpList_load_row rfl 28 _ rfl gr rfl 28 _ (0, 0) _ hr6 Tryd.underlying28 rfl infoNum ?_)
          | (with_reducible show wpList _ _ _ ((⟨_, .load 28 _, _, _, _, _⟩ : Oper) :: _) _ _
             refine wpList_load_row rfl 28 _ rfl gr rfl 28 _ (0, 0) _ hr8 Tryd.underlying28 rfl infoNum ?_)
          | (with_reducible show wpList _ _ _ ((⟨_, .store 28 _ _, _, _, _, _⟩ : Oper) :: _) _ _
             refine wpList_store_row rfl 28 _ _ rfl gr (numA ev) rfl rfl 28 _ hr7 infoNum rfl (numA_one _) ?_
             have hr8 := setRow_heap _ _ _ (numA ev) _ _ hr7
             have hs8 := (setRow_other w7 gr (w.heap.size + 1) (numA ev) (by omega)).trans hs7
             have he8 := ext_setRow he7 (show w.heap.size ≤ gr by omega) (numA ev)
             clear hr7)
          | (with_reducible show wpList _ _ _ ((⟨_, .store 28 _ _, _, _, _, _⟩ : Oper) :: _) _ _
             refine wpList_store_row rfl 28 _ _ rfl (w.heap.size + 1) (numA ev) rfl rfl 28 _ hs8 infoNum hbs (numA_one _) ?_)
        exact bodyPost_ret (results_cell_tmp rfl _ _ (w.heap.size + 1) 28 _ (0, 0) _ rfl _ rfl (setRow_heap _ _ _ _ _ _ hs8) Tryd.underlying28 rfl infoNum) rfl ⟨by rw [FIN.out.1, FIN.out.2]; rfl, ext_setRow he8 (by omega) _⟩
      · have HO : Hid (∀ w, Calls Tryd.prog 49 #[.agg (numA rb)] w (Ret w (.bool false))) := Lib.hid fun w => by
          have := odd rb i_rb w
          rw [show (rb % 2 == 1) = false by simpa using ho] at this
          exact this
        have hev : evenOf rb = rb := by unfold evenOf; rw [if_neg ho]
        clear ho
        have HEV := Lib.hid hev
        clear hev
        go_wp2_with first
          | (go_at_call 49
             (with_reducible refine (HO.out _).mono ?_)
             rintro e w6 ⟨rfl, hw6⟩
             clear HO
             have hr6 := row_ext hr4 hw6
             have hs6 := row_ext hs4 hw6
             have he6 := Ext.trans he4 hw6
             clear hr4 hs4 he4 hw6)
          | (with_reducible show wpList _ _ _ ((⟨_, .load 28 _, _, _, _, _⟩ : Oper) :: _) _ _
             refine wpList_load_row rfl 28 _ rfl gr rfl 28 _ (0, 0) _ hr4 Tryd.underlying28 rfl infoNum ?_)
          | (with_reducible show wpList _ _ _ ((⟨_, .load 28 _, _, _, _, _⟩ : Oper) :: _) _ _
             refine wpList_load_row rfl 28 _ rfl gr rfl 28 _ (0, 0) _ hr6 Tryd.underlying28 rfl infoNum ?_)
          | (with_reducible show wpList _ _ _ ((⟨_, .store 28 _ _, _, _, _, _⟩ : Oper) :: _) _ _
             refine wpList_store_row rfl 28 _ _ rfl (w.heap.size + 1) (numA rb) rfl rfl 28 _ hs6 infoNum hbs (numA_one _) ?_)
        exact bodyPost_ret (results_cell_tmp rfl _ _ (w.heap.size + 1) 28 _ (0, 0) _ rfl _ rfl (setRow_heap _ _ _ _ _ _ hs6) Tryd.underlying28 rfl infoNum) rfl ⟨by rw [FIN.out.1, FIN.out.2, HEV.out]; rfl, ext_setRow he6 (by omega) _⟩
    · have HQ : Hid (∀ w, Calls Tryd.prog 53 #[num s1, num a] w (Ret w (.bool false))) := Lib.hid (num_isnt s1 a hz i_s1 ha)
      have FIN : Hid (rootN a = 0 ∧ hasRoot a = false) := Lib.hid ⟨by rw [FN.out, if_neg HZ.out, if_neg hz], by rw [FB.out, decide_eq_false HZ.out, decide_eq_false hz]; rfl⟩
      clear hz FN FB HZ
      go_wp2
      refine wp_region_rely Ext 5 34 [⟨none, [(4, none)]⟩, ⟨none, [(4, none)]⟩, ⟨none, [(21, some 0), (22, some 1)]⟩, ⟨none, [(1, none)]⟩, ⟨none, [(23, some 2), (24, some 3)]⟩] (by kernel_rfl) (by kernel_rfl) rfl Ext.refl Ext.trans (fun F r0 hr hF => ?_)
      have f4 : r0 4 = .pointer (some ⟨gr, 0, none⟩) := by rw [hr]; rfl
      have f1 : r0 1 = .pointer (some ⟨w.heap.size, 0, none⟩) := by rw [hr]; rfl
      clear hr
      simp only [List.take_succ_cons, List.take_zero]
      refine step_const (num rb) (fun ρ W hR hh => ?_) ?_
      · clear hF
        have h4 : ρ 4 = .pointer (some ⟨gr, 0, none⟩) := Eq.trans hh.1 f4
        exact load_num (.tmp _) rfl _ _  h4 (HR.out W hR)
      refine step_const (num rb) (fun ρ W hR hh => ?_) ?_
      · clear hF
        have h4 : ρ 4 = .pointer (some ⟨gr, 0, none⟩) := Eq.trans hh.1 f4
        exact load_num (.tmp _) rfl _ _  h4 (HR.out W hR)
      refine step_const (num s1) (fun ρ W hR hh => ?_) ?_
      · clear hF
        have h21 : ρ 21 = num rb := hh.1
        have h22 : ρ 22 = num rb := hh.2.1
        simp only [guarded, relyAt]
        go_simp
        exact ⟨Ext.refl _, (HM.out _).mono fun _ _ h => h.const⟩
      refine step_const (num a) (fun ρ W hR hh => ?_) ?_
      · clear hF
        have h1 : ρ 1 = .pointer (some ⟨w.heap.size, 0, none⟩) := Eq.trans hh.1 f1
        exact load_num (.tmp _) rfl _ _  h1 (HA.out W hR)
      refine step_const (.bool false) (fun ρ W hR hh => ?_) ?_
      · clear hF
        have h23 : ρ 23 = num s1 := hh.1
        have h24 : ρ 24 = num a := hh.2.1
        simp only [guarded, relyAt]
        go_simp
        exact ⟨Ext.refl _, (HQ.out _).mono fun _ _ h => h.const⟩
      simp only [List.cons_append, List.nil_append]
      refine hF.out fun W4 hR4 => ?_
      simp only [List.take_succ_cons, List.take_zero, List.drop_succ_cons, List.drop_zero, fin, forall_eq, Act.put, List.setIfInBounds_toArray, List.set_cons_zero, List.set_cons_succ]
      clear hF
      have hr4 := row_ext (row_ext hr5 (ext_drew _)) hR4
      have hA4 := row_ext (row_ext hA5 (ext_drew _)) hR4
      have hs4 := row_ext (row_ext hs5 (ext_drew _)) hR4
      have he4 := Ext.trans (Ext.trans he5 (ext_drew _)) hR4
      clear HA HR hR4 hr5 hA5 hs5 he5
      go_wp2_with first
        | (with_reducible show wpList _ _ _ ((⟨_, .store 28 _ _, _, _, _, _⟩ : Oper) :: _) _ _
           refine wpList_store_row rfl 28 _ _ rfl (w.heap.size + 1) (numA 0) rfl rfl 28 _ hs4 infoNum hbs (numA_one _) ?_)
      exact bodyPost_ret (results_cell_tmp rfl _ _ (w.heap.size + 1) 28 _ (0, 0) _ rfl _ rfl (setRow_heap _ _ _ _ _ _ hs4) Tryd.underlying28 rfl infoNum) rfl ⟨by rw [FIN.out.1, FIN.out.2]; rfl, ext_setRow he4 (by omega) _⟩
end Go.Proofs.YtaojnmjmmfdfjaaDoor.Field
end

/-! The document's half. -/
section
namespace Go.Proofs.YtaojnmjmmfdfjaaDoor.Field
open Go Go.RowKit
open Go.Proofs.YtaojnmjmmfdfjaaDoor.Rely
set_option linter.unusedVariables false

theorem limb_half (n : Int) (k : Nat) : limb (n / 2) k = limb n k / 2 + limb n (k + 1) % 2 * 32768 := by
  unfold limb
  rw [Int.pow_succ, ← Int.ediv_ediv_of_nonneg (Int.le_of_lt (B_pos k)), Int.ediv_ediv_of_nonneg (by decide), Int.mul_comm 2, ← Int.ediv_ediv_of_nonneg (Int.le_of_lt (B_pos k))]
  generalize n / 65536 ^ k = q
  omega
theorem limb_top (n : Int) (h : 0 ≤ n ∧ n < big) : limb n 16 = 0 := by
  unfold limb
  rw [big_pow, Int.ediv_eq_zero_of_lt h.1 h.2]
  rfl
theorem lHalf (n : Int) (hn : 0 ≤ n ∧ n < big) (w : World) : Calls Tryd.prog 69 #[lnum n] w (Ret w (lnum (n / 2))) := by
  unfold lnum
  go_enter Tryd.func69, Tryd.ntmps69
  go_wp2_with fail
  go_loopw [3] (fun i wr => ∃ k : Nat, k ≤ 16 ∧ i = .int .i64 k ∧ Ext w wr ∧ wr.heap[w.heap.size]? = some (.cells (ints .i64 (mix 16 (limb (n / 2)) (limb n) k)) 34) ∧
    ∃ b, b.size = 16 ∧ wr.heap[w.heap.size + 1]? = some (.cells b 34)) (fun i _ => 16 - (intOf i).toNat)
  case atStart => exact ⟨0, by omega, rfl, Ext.trans (ext_alloc _ _) (ext_alloc _ _), by rw [mix_none]; exact alloc2_1 _ _ _, _, rfl, alloc2_2 _ _ _⟩
  case round =>
    obtain ⟨k, hk, rfl, he, hA, b, hbs, hB⟩ := hrel
    by_cases hlt : k < 16
    · have hX : (ints .i64 (mix 16 (limb (n / 2)) (limb n) k))[k]? = some (.int .i64 (limb n k)) := by rw [ints_get _ _ _ (by rw [mix_len]; exact hlt), mix_nth _ _ _ _ _ hlt, if_neg (by omega)]
      have hS : (ints .i64 (mix 16 (limb (n / 2)) (limb n) k)).setIfInBounds k (.int .i64 (limb (n / 2) k)) = ints .i64 (mix 16 (limb (n / 2)) (limb n) (k + 1)) := by rw [ints_set, mix_set _ _ _ _ hlt]
      have hh := limb_half n k
      have b1 := limb_range n k
      have hcx := row_cell hA hX
      have hfx := row_frozen hA k
      by_cases hk15 : k < 15
      · have hY : (ints .i64 (mix 16 (limb (n / 2)) (limb n) k))[k + 1]? = some (.int .i64 (limb n (k + 1))) := by rw [ints_get _ _ _ (by rw [mix_len]; omega), mix_nth _ _ _ _ _ (by omega), if_neg (by omega)]
        have b2 := limb_range n (k + 1)
        have hcy := row_cell hA hY
        have HH := Lib.hid hh
        clear hh
        generalize hlx : limb n k = lx at *
        generalize hly : limb n (k + 1) = ly at *
        have w1 : lx.tdiv 2 = lx / 2 := Int.tdiv_eq_ediv_of_nonneg (by omega)
        have w2 : IntKind.i64.wrap (lx / 2) = lx / 2 := IntWalk.i64_in _ (by omega)
        have w3 : ly.tmod 2 = ly % 2 := Int.tmod_eq_emod_of_nonneg (by omega)
        have w4 : IntKind.i64.wrap (ly % 2) = ly % 2 := IntWalk.i64_in _ (by omega)
        have w5 : IntKind.i64.wrap (ly % 2 * 32768) = ly % 2 * 32768 := IntWalk.i64_in _ (by omega)
        have w6 : IntKind.i64.wrap (lx / 2 + ly % 2 * 32768) = lx / 2 + ly % 2 * 32768 := IntWalk.i64_in _ (by omega)
        have q1 : IntKind.i64.wrap ((k : Int) + 1) = (k : Int) + 1 := IntWalk.i64_in _ (by omega)
        have q2 : ((k : Int) + 1).toNat = k + 1 := by omega
        have q3 : (0 : Int) ≤ (k : Int) + 1 := by omega
        have q4 : (k : Int) + 1 < 16 := by omega
        have q5 : (k : Int) < 15 := by omega
        go_wp2
        exact ⟨⟨k + 1, by omega, by go_num, ext_set he (Nat.le_refl _) _ _, (set_row _ _ hA).trans (by rw [← HH.out, hS]), b, hbs, (set_row_other _ _ (by omega)).trans hB⟩, by simp [intOf]; omega⟩
      · obtain rfl : k = 15 := by omega
        rw [limb_top n hn] at hh
        have HH := Lib.hid hh
        clear hh
        generalize hlx : limb n 15 = lx at *
        have w1 : lx.tdiv 2 = lx / 2 := Int.tdiv_eq_ediv_of_nonneg (by omega)
        have w2 : IntKind.i64.wrap (lx / 2) = lx / 2 := IntWalk.i64_in _ (by omega)
        go_wp2
        exact ⟨⟨16, by omega, by go_num, ext_set he (Nat.le_refl _) _ _, (set_row _ _ hA).trans (by
          have e : limb (n / 2) 15 = lx / 2 := by
            have := HH.out
            omega
          first
            | rw [← e, hS]
            | rw [w2, ← e, hS]), b, hbs, (set_row_other _ _ (by omega)).trans hB⟩, by simp [intOf]⟩
    · obtain rfl : k = 16 := by omega
      have hi := infoL _ (mix_len 16 (limb (n / 2)) (limb n) 16)
      go_wp2_with first
        | (with_reducible show wpList _ _ _ ((⟨_, .load 34 _, _, _, _, _⟩ : Oper) :: _) _ _
           refine wpList_load_row rfl 34 _ rfl w.heap.size rfl 34 _ (0, 0) _ hA Tryd.underlying34 rfl hi ?_)
        | (with_reducible show wpList _ _ _ ((⟨_, .store 34 _ _, _, _, _, _⟩ : Oper) :: _) _ _
           refine wpList_store_row rfl 34 _ _ rfl (w.heap.size + 1) _ rfl rfl 34 _ hB hi (by rw [hbs, ints_size, mix_len]) (ints_one _ _) ?_)
      exact bodyPost_ret (results_cell_row (p := 2) rfl _ _ (w.heap.size + 1) 34 _ (0, 0) _ rfl (setRow_heap _ _ _ _ _ _ hB) Tryd.underlying34 rfl hi) rfl ⟨by rw [mix_full _ _ _ _ (Nat.le_refl _)]; rfl, ext_setRow he (by omega) _⟩
end Go.Proofs.YtaojnmjmmfdfjaaDoor.Field
end

/-! The document's Root. -/
section
namespace Go.Proofs.YtaojnmjmmfdfjaaDoor.Field
open Go Go.RowKit
open Go.Proofs.YtaojnmjmmfdfjaaDoor.Rely
set_option linter.unusedVariables false

theorem limb_par (x : Int) : limb x 0 % 2 = x % 2 := by
  unfold limb
  rw [Int.pow_zero, Int.ediv_one]
  omega
theorem lims_p3 : (ints .i64 (lims p)).setIfInBounds 0 (.int .i64 65520) = ints .i64 (lims (p + 3)) := by
  rw [ints_set]
  exact congrArg (ints .i64) (by decide +kernel)
theorem lims_p0 : (ints .i64 (lims p))[0]? = some (.int .i64 65517) := by
  rw [ints_get _ _ _ (by rw [lims_len]; decide), lims_nth _ _ (by decide)]
  exact congrArg (fun v => some (Value.int .i64 v)) (by decide +kernel)
theorem eq_lnum (x y : Int) (hx : isN x) (hy : isN y) (b : Bool) (h : decide (x = y) = b) (W : World) : (binOp .eql 34 (.agg (ints .i64 (lims x))) (.agg (ints .i64 (lims y)))).run Tryd.prog W = .ok (.bool b) W := by
  rw [eql_ints W Tryd.underlying34 Tryd.underlying3 (by kernel_rfl) _ _ (lims_len x) (lims_len y), ← h]
  congr 2
  exact decide_eq_decide.2 ⟨fun e => lims_inj (by rw [big_pow]; exact isN_big hx) (by rw [big_pow]; exact isN_big hy) e, fun e => by rw [e]⟩
set_option maxRecDepth 100000 in
set_option maxHeartbeats 8000000 in
theorem lRoot (a : Int) (ha : isN a) (w : World) : Calls Tryd.prog 45 #[lnum a] w (Ret w (.tuple #[lnum (rootN a), .bool (hasRoot a)])) := by
  have hpb : p < big := by decide
  have pi : (0 : Int) ≤ p ∧ p < big := by decide
  have HPR : Hid (∀ w, Calls Tryd.prog 67 #[] w (Ret w (.agg (ints .i64 (lims p))))) := Lib.hid prime
  have HH1 : Hid (∀ w, Calls Tryd.prog 69 #[.agg (ints .i64 (lims (p + 3)))] w (Ret w (.agg (ints .i64 (lims ((p + 3) / 2)))))) := Lib.hid (lHalf _ (by decide))
  have HH2 : Hid (∀ w, Calls Tryd.prog 69 #[.agg (ints .i64 (lims ((p + 3) / 2)))] w (Ret w (.agg (ints .i64 (lims ((p + 3) / 2 / 2)))))) := Lib.hid (lHalf _ (by decide))
  have HH3 : Hid (∀ w, Calls Tryd.prog 69 #[.agg (ints .i64 (lims ((p + 3) / 2 / 2)))] w (Ret w (.agg (ints .i64 (lims ((p + 3) / 2 / 2 / 2)))))) := Lib.hid (lHalf _ (by decide))
  have HPA : Hid (∀ w, Calls Tryd.prog 68 #[.agg (ints .i64 (lims a)), .agg (ints .i64 (lims ((p + 3) / 2 / 2 / 2)))] w (Ret w (.agg (ints .i64 (lims (rootA a)))))) := Lib.hid fun w => by
    have := lPower a ((p + 3) / 2 / 2 / 2) ha (by decide) w
    rw [show (p + 3) / 2 / 2 / 2 = 7237005577332262213973186563042994240829374041602535252466099000494570602494 by decide, root_bits] at this
    rw [show (p + 3) / 2 / 2 / 2 = 7237005577332262213973186563042994240829374041602535252466099000494570602494 by decide]
    exact this
  have HM1 : Hid (∀ w, Calls Tryd.prog 70 #[.agg (ints .i64 (lims p)), .agg #[.int .i64 1, .int .i64 0, .int .i64 0, .int .i64 0, .int .i64 0, .int .i64 0, .int .i64 0, .int .i64 0, .int .i64 0, .int .i64 0, .int .i64 0, .int .i64 0, .int .i64 0, .int .i64 0, .int .i64 0, .int .i64 0]] w (Ret w (.agg (ints .i64 (lims (p - 1)))))) := Lib.hid fun w => by
    have := minus p 1 (by decide) (by decide) hpb w
    unfold lnum at this
    rw [show ints .i64 (lims 1) = #[.int .i64 1, .int .i64 0, .int .i64 0, .int .i64 0, .int .i64 0, .int .i64 0, .int .i64 0, .int .i64 0, .int .i64 0, .int .i64 0, .int .i64 0, .int .i64 0, .int .i64 0, .int .i64 0, .int .i64 0, .int .i64 0] by rw [lims_one]; rfl] at this
    exact this
  have HH4 : Hid (∀ w, Calls Tryd.prog 69 #[.agg (ints .i64 (lims (p - 1)))] w (Ret w (.agg (ints .i64 (lims ((p - 1) / 2)))))) := Lib.hid (lHalf _ (by decide))
  have HH5 : Hid (∀ w, Calls Tryd.prog 69 #[.agg (ints .i64 (lims ((p - 1) / 2)))] w (Ret w (.agg (ints .i64 (lims ((p - 1) / 2 / 2)))))) := Lib.hid (lHalf _ (by decide))
  have HPI : Hid (∀ w, Calls Tryd.prog 68 #[.agg #[.int .i64 2, .int .i64 0, .int .i64 0, .int .i64 0, .int .i64 0, .int .i64 0, .int .i64 0, .int .i64 0, .int .i64 0, .int .i64 0, .int .i64 0, .int .i64 0, .int .i64 0, .int .i64 0, .int .i64 0, .int .i64 0], .agg (ints .i64 (lims ((p - 1) / 2 / 2)))] w (Ret w (.agg (ints .i64 (lims rootI))))) := Lib.hid fun w => by
    have := lPower 2 ((p - 1) / 2 / 2) two_isN (by decide) w
    unfold lnum at this
    rw [show ints .i64 (lims 2) = #[.int .i64 2, .int .i64 0, .int .i64 0, .int .i64 0, .int .i64 0, .int .i64 0, .int .i64 0, .int .i64 0, .int .i64 0, .int .i64 0, .int .i64 0, .int .i64 0, .int .i64 0, .int .i64 0, .int .i64 0, .int .i64 0] by rw [lims_two]; rfl, show (p - 1) / 2 / 2 = 14474011154664524427946373126085988481658748083205070504932198000989141204987 by decide, rootI_bits] at this
    rw [show (p - 1) / 2 / 2 = 14474011154664524427946373126085988481658748083205070504932198000989141204987 by decide]
    exact this
  have i_ra := rootA_isN a
  have i_rb : isN (rootA a * rootI % p) := isN_mod _
  have i_s0 : isN (rootA a * rootA a % p) := isN_mod _
  have i_s1 : isN (rootA a * rootI % p * (rootA a * rootI % p) % p) := isN_mod _
  have HM0 : Hid (∀ w, Calls Tryd.prog 42 #[.agg (ints .i64 (lims (rootA a))), .agg (ints .i64 (lims (rootA a)))] w (Ret w (.agg (ints .i64 (lims (rootA a * rootA a % p)))))) := Lib.hid (lMul _ _ (isN_big i_ra) (isN_big i_ra))
  have HMI : Hid (∀ w, Calls Tryd.prog 42 #[.agg (ints .i64 (lims (rootA a))), .agg (ints .i64 (lims rootI))] w (Ret w (.agg (ints .i64 (lims (rootA a * rootI % p)))))) := Lib.hid (lMul _ _ (isN_big i_ra) (isN_big rootI_isN))
  have HMB : Hid (∀ w, Calls Tryd.prog 42 #[.agg (ints .i64 (lims (rootA a * rootI % p))), .agg (ints .i64 (lims (rootA a * rootI % p)))] w (Ret w (.agg (ints .i64 (lims (rootA a * rootI % p * (rootA a * rootI % p) % p)))))) := Lib.hid (lMul _ _ (isN_big i_rb) (isN_big i_rb))
  have HMJ : Hid (∀ w, Calls Tryd.prog 42 #[.agg (ints .i64 (lims (rootA a * rootI % p))), .agg (ints .i64 (lims rootI))] w (Ret w (.agg (ints .i64 (lims (rootA a * rootI % p * rootI % p)))))) := Lib.hid (lMul _ _ (isN_big i_rb) (isN_big rootI_isN))
  have FN : Hid (rootN a = (if rootA a * rootA a % p = a then evenOf (rootA a) else if rootA a * rootI % p * (rootA a * rootI % p) % p = a then evenOf (rootA a * rootI % p) else 0)) := Lib.hid rfl
  have FB : Hid (hasRoot a = (decide (rootA a * rootA a % p = a) || decide (rootA a * rootI % p * (rootA a * rootI % p) % p = a))) := Lib.hid rfl
  have hgl : Tryd.prog.eqGuardType Tryd.prog.depth 34 = false := by kernel_rfl
  generalize hs0 : rootA a * rootA a % p = s0 at *
  generalize hs1 : rootA a * rootI % p * (rootA a * rootI % p) % p = s1 at *
  clear hs0 hs1
  generalize rootA a * rootI % p * rootI % p = rj at *
  generalize rootA a * rootI % p = rb at *
  generalize rootA a = ra at *
  generalize rootI = ri at *
  have g0 := lims_p0
  have g3 := lims_p3
  have lp := lims_len p
  have la := lims_len a
  have l3 := lims_len (p + 3)
  have lra := lims_len ra
  have lrb := lims_len rb
  have lri := lims_len ri
  have lrj := lims_len rj
  unfold lnum
  go_enter Tryd.func45, Tryd.ntmps45
  go_wp2_with first
    | (go_at_call 67
       (with_reducible refine (HPR.out _).mono ?_)
       rintro e w1 ⟨rfl, hw1⟩)
    | (with_reducible show wpList _ _ _ ((⟨_, .store 34 _ _, _, _, _, _⟩ : Oper) :: _) _ _
       refine wpList_store_row rfl 34 _ _ rfl w1.heap.size (ints .i64 (lims p)) rfl rfl 34 _ (heap_alloc_new _ _) (infoL _ lp) (by rw [ints_size, lp]; rfl) (ints_one _ _) ?_
       have he0 : Ext w ((w.alloc (.cells (ints .i64 (lims a)) 34)).alloc (.cells #[.int .i64 0, .int .i64 0, .int .i64 0, .int .i64 0, .int .i64 0, .int .i64 0, .int .i64 0, .int .i64 0, .int .i64 0, .int .i64 0, .int .i64 0, .int .i64 0, .int .i64 0, .int .i64 0, .int .i64 0, .int .i64 0] 34)) := Ext.trans (ext_alloc _ _) (ext_alloc _ _)
       have hA1 := row_ext (alloc2_1 w (.cells (ints .i64 (lims a)) 34) (.cells #[.int .i64 0, .int .i64 0, .int .i64 0, .int .i64 0, .int .i64 0, .int .i64 0, .int .i64 0, .int .i64 0, .int .i64 0, .int .i64 0, .int .i64 0, .int .i64 0, .int .i64 0, .int .i64 0, .int .i64 0, .int .i64 0] 34)) hw1
       have hS1 := row_ext (alloc2_2 w (.cells (ints .i64 (lims a)) 34) (.cells #[.int .i64 0, .int .i64 0, .int .i64 0, .int .i64 0, .int .i64 0, .int .i64 0, .int .i64 0, .int .i64 0, .int .i64 0, .int .i64 0, .int .i64 0, .int .i64 0, .int .i64 0, .int .i64 0, .int .i64 0, .int .i64 0] 34)) hw1
       have hsz1 := hw1.size
       have he1 := Ext.trans he0 hw1
       have hE := setRow_heap _ _ _ (ints .i64 (lims p)) _ _ (heap_alloc_new w1 (.cells #[.int .i64 0, .int .i64 0, .int .i64 0, .int .i64 0, .int .i64 0, .int .i64 0, .int .i64 0, .int .i64 0, .int .i64 0, .int .i64 0, .int .i64 0, .int .i64 0, .int .i64 0, .int .i64 0, .int .i64 0, .int .i64 0] 34))
       have hX := ext_setRow (ext_alloc w1 (.cells #[.int .i64 0, .int .i64 0, .int .i64 0, .int .i64 0, .int .i64 0, .int .i64 0, .int .i64 0, .int .i64 0, .int .i64 0, .int .i64 0, .int .i64 0, .int .i64 0, .int .i64 0, .int .i64 0, .int .i64 0, .int .i64 0] 34)) (Nat.le_refl _) (ints .i64 (lims p))
       have hA := row_ext hA1 hX
       have hS := row_ext hS1 hX
       have he := Ext.trans he1 hX
       have hge : w.heap.size + 1 < w1.heap.size := row_lt hS1
       have hcx := row_cell hE g0
       have hfx := row_frozen hE 0
       have hE3 := set_row 0 (.int .i64 65520) hE
       rw [g3] at hE3
       have hA3 := (set_row_other (W := (w1.alloc (.cells #[.int .i64 0, .int .i64 0, .int .i64 0, .int .i64 0, .int .i64 0, .int .i64 0, .int .i64 0, .int .i64 0, .int .i64 0, .int .i64 0, .int .i64 0, .int .i64 0, .int .i64 0, .int .i64 0, .int .i64 0, .int .i64 0] 34)).setRow w1.heap.size (ints .i64 (lims p))) 0 (.int .i64 65520) (show w.heap.size ≠ w1.heap.size by omega)).trans hA
       have hS3 := (set_row_other (W := (w1.alloc (.cells #[.int .i64 0, .int .i64 0, .int .i64 0, .int .i64 0, .int .i64 0, .int .i64 0, .int .i64 0, .int .i64 0, .int .i64 0, .int .i64 0, .int .i64 0, .int .i64 0, .int .i64 0, .int .i64 0, .int .i64 0, .int .i64 0] 34)).setRow w1.heap.size (ints .i64 (lims p))) 0 (.int .i64 65520) (show w.heap.size + 1 ≠ w1.heap.size by omega)).trans hS
       have he3 := ext_set he (show w.heap.size ≤ w1.heap.size by omega) 0 (.int .i64 65520)
       generalize hV : (w1.alloc (.cells #[.int .i64 0, .int .i64 0, .int .i64 0, .int .i64 0, .int .i64 0, .int .i64 0, .int .i64 0, .int .i64 0, .int .i64 0, .int .i64 0, .int .i64 0, .int .i64 0, .int .i64 0, .int .i64 0, .int .i64 0, .int .i64 0] 34)).setRow w1.heap.size (ints .i64 (lims p)) = V at *
       generalize w1.heap.size = ge at *
       generalize hV3 : V.setCell ⟨ge, 0, none⟩ (.int .i64 65520) = V3 at *
       clear hE hA hS he hA1 hS1 he1 he0 hX hw1 hV)
  clear hcx hfx g0 g3 hV3
  have hsz := he3.size
  have hlS := row_lt hS3
  have HA : Hid (∀ W, Ext V3.drew W → W.heap[w.heap.size]? = some (.cells (ints .i64 (lims a)) 34)) := Lib.hid fun W hR => row_ext (row_ext hA3 (ext_drew _)) hR
  have HE : Hid (∀ W, Ext V3.drew W → W.heap[ge]? = some (.cells (ints .i64 (lims (p + 3))) 34)) := Lib.hid fun W hR => row_ext (row_ext hE3 (ext_drew _)) hR
  refine wp_region_rely Ext 7 47 [⟨none, [(1, none)]⟩, ⟨none, [(4, none)]⟩, ⟨none, [(14, some 1)]⟩, ⟨none, [(15, some 2)]⟩, ⟨none, [(16, some 3)]⟩, ⟨none, [(13, some 0), (17, some 4)]⟩, ⟨none, []⟩] (by kernel_rfl) (by kernel_rfl) rfl Ext.refl Ext.trans (fun F r0 hr hF => ?_)
  have f1 : r0 1 = .pointer (some ⟨w.heap.size, 0, none⟩) := by rw [hr]; rfl
  have f4 : r0 4 = .pointer (some ⟨ge, 0, none⟩) := by rw [hr]; rfl
  clear hr
  simp only [List.take_succ_cons, List.take_zero]
  refine step_const (.agg (ints .i64 (lims a))) (fun ρ W hR hh => ?_) ?_
  · clear hF
    have h1 : ρ 1 = .pointer (some ⟨w.heap.size, 0, none⟩) := Eq.trans hh.1 f1
    exact relyAt_load_row 34 (.tmp _) rfl _ h1 34 _ (0, 0) _ (HA.out W hR) Tryd.underlying34 rfl (infoL _ (lims_len _))
  refine step_const (.agg (ints .i64 (lims (p + 3)))) (fun ρ W hR hh => ?_) ?_
  · clear hF
    have h4 : ρ 4 = .pointer (some ⟨ge, 0, none⟩) := Eq.trans hh.1 f4
    exact relyAt_load_row 34 (.tmp _) rfl _ h4 34 _ (0, 0) _ (HE.out W hR) Tryd.underlying34 rfl (infoL _ (lims_len _))
  refine step_const (.agg (ints .i64 (lims ((p + 3) / 2)))) (fun ρ W hR hh => ?_) ?_
  · clear hF
    have h14 : ρ 14 = .agg (ints .i64 (lims (p + 3))) := hh.1
    simp only [guarded, relyAt]
    go_simp
    exact ⟨Ext.refl _, (HH1.out _).mono fun _ _ h => h.const⟩
  refine step_const (.agg (ints .i64 (lims ((p + 3) / 2 / 2)))) (fun ρ W hR hh => ?_) ?_
  · clear hF
    have h15 : ρ 15 = .agg (ints .i64 (lims ((p + 3) / 2))) := hh.1
    simp only [guarded, relyAt]
    go_simp
    exact ⟨Ext.refl _, (HH2.out _).mono fun _ _ h => h.const⟩
  refine step_const (.agg (ints .i64 (lims ((p + 3) / 2 / 2 / 2)))) (fun ρ W hR hh => ?_) ?_
  · clear hF
    have h16 : ρ 16 = .agg (ints .i64 (lims ((p + 3) / 2 / 2))) := hh.1
    simp only [guarded, relyAt]
    go_simp
    exact ⟨Ext.refl _, (HH3.out _).mono fun _ _ h => h.const⟩
  refine step_const (.agg (ints .i64 (lims ra))) (fun ρ W hR hh => ?_) ?_
  · clear hF
    have h13 : ρ 13 = .agg (ints .i64 (lims a)) := hh.1
    have h17 : ρ 17 = .agg (ints .i64 (lims ((p + 3) / 2 / 2 / 2))) := hh.2.1
    simp only [guarded, relyAt]
    go_simp
    exact ⟨Ext.refl _, (HPA.out _).mono fun _ _ h => h.const⟩
  simp only [List.cons_append, List.nil_append]
  refine step_fact (FreshT 34 16 V3.heap.size) (freshT_stable _ _ _) (fun ρ W hR hh => ?_) ?_
  · have hsz : V3.heap.size ≤ W.heap.size := hR.size
    simp only [guarded, relyAt]
    go_simp
    exact ⟨ext_alloc _ _, _, rfl, by omega, by simp, _, rfl, heap_alloc_new _ _⟩
  simp only [List.cons_append, List.nil_append]
  refine hF.out fun W1 hR1 => ?_
  simp only [List.take_succ_cons, List.take_zero, List.drop_succ_cons, List.drop_zero, fin, forall_eq, Act.put, List.setIfInBounds_toArray, List.set_cons_zero, List.set_cons_succ]
  clear hF
  rintro vg ⟨gr, rfl, lg, ug, cg, sg, kg⟩
  clear f1 f4
  refine wpList_store_row rfl 34 _ _ rfl gr (ints .i64 (lims ra)) rfl rfl 34 _ kg (infoL _ lra) (by rw [sg, ints_size, lra]) (ints_one _ _) ?_
  have hE1 := Ext.trans (ext_drew V3) hR1
  have hr4 := setRow_heap _ _ _ (ints .i64 (lims ra)) _ _ kg
  have hA4 := (setRow_other W1 gr w.heap.size (ints .i64 (lims ra)) (by omega)).trans (row_ext hA3 hE1)
  have hS4 := (setRow_other W1 gr (w.heap.size + 1) (ints .i64 (lims ra)) (by omega)).trans (row_ext hS3 hE1)
  have he4 := ext_setRow (Ext.trans he3 hE1) (show w.heap.size ≤ gr by omega) (ints .i64 (lims ra))
  have hgr : w.heap.size + 1 < gr := by omega
  generalize W1.setRow gr (ints .i64 (lims ra)) = V4 at *
  clear kg hR1 hE1 HA HE hA3 hS3 he3 hE3 lg ug sg hsz hlS HH1 HH2 HH3 HPA l3 hge hsz1
  go_wp2_with first
    | (go_at_call 67
       (with_reducible refine (HPR.out _).mono ?_)
       rintro e w5 ⟨rfl, hw5⟩
       have hr5 := row_ext hr4 hw5
       have hA5 := row_ext hA4 hw5
       have hS5 := row_ext hS4 hw5
       have he5 := Ext.trans he4 hw5
       clear hr4 hA4 hS4 he4 hw5)
    | (go_at_call 70
       (with_reducible refine (HM1.out _).mono ?_)
       rintro e w6 ⟨rfl, hw6⟩
       have hr6 := row_ext hr5 hw6
       have hA6 := row_ext hA5 hw6
       have hS6 := row_ext hS5 hw6
       have he6 := Ext.trans he5 hw6
       clear hr5 hA5 hS5 he5 hw6)
    | (go_at_call 69
       (with_reducible refine (HH4.out _).mono ?_)
       rintro e w7 ⟨rfl, hw7⟩
       have hr7 := row_ext hr6 hw7
       have hA7 := row_ext hA6 hw7
       have hS7 := row_ext hS6 hw7
       have he7 := Ext.trans he6 hw7
       clear hr6 hA6 hS6 he6 hw7)
    | (go_at_call 69
       (with_reducible refine (HH5.out _).mono ?_)
       rintro e w8 ⟨rfl, hw8⟩
       have hr8 := row_ext hr7 hw8
       have hA8 := row_ext hA7 hw8
       have hS8 := row_ext hS7 hw8
       have he8 := Ext.trans he7 hw8
       clear hr7 hA7 hS7 he7 hw8)
    | (go_at_call 68
       (with_reducible refine (HPI.out _).mono ?_)
       rintro e w9 ⟨rfl, hw9⟩
       have hr9 := row_ext hr8 hw9
       have hA9 := row_ext hA8 hw9
       have hS9 := row_ext hS8 hw9
       have he9 := Ext.trans he8 hw9
       clear hr8 hA8 hS8 he8 hw9)
    | (with_reducible show wpList _ _ _ ((⟨_, .store 34 _ _, _, _, _, _⟩ : Oper) :: _) _ _
       refine wpList_store_row rfl 34 _ _ rfl w9.heap.size (ints .i64 (lims ri)) rfl rfl 34 _ (heap_alloc_new _ _) (infoL _ lri) (by rw [ints_size, lri]; rfl) (ints_one _ _) ?_
       have hi10 := setRow_heap _ _ _ (ints .i64 (lims ri)) _ _ (heap_alloc_new w9 (.cells #[.int .i64 0, .int .i64 0, .int .i64 0, .int .i64 0, .int .i64 0, .int .i64 0, .int .i64 0, .int .i64 0, .int .i64 0, .int .i64 0, .int .i64 0, .int .i64 0, .int .i64 0, .int .i64 0, .int .i64 0, .int .i64 0] 34))
       have hX := ext_setRow (ext_alloc w9 (.cells #[.int .i64 0, .int .i64 0, .int .i64 0, .int .i64 0, .int .i64 0, .int .i64 0, .int .i64 0, .int .i64 0, .int .i64 0, .int .i64 0, .int .i64 0, .int .i64 0, .int .i64 0, .int .i64 0, .int .i64 0, .int .i64 0] 34)) (Nat.le_refl _) (ints .i64 (lims ri))
       have hgi : gr < w9.heap.size := row_lt hr9
       have hr10 := row_ext hr9 hX
       have hA10 := row_ext hA9 hX
       have hS10 := row_ext hS9 hX
       have he10 := Ext.trans he9 hX
       generalize (w9.alloc (.cells #[.int .i64 0, .int .i64 0, .int .i64 0, .int .i64 0, .int .i64 0, .int .i64 0, .int .i64 0, .int .i64 0, .int .i64 0, .int .i64 0, .int .i64 0, .int .i64 0, .int .i64 0, .int .i64 0, .int .i64 0, .int .i64 0] 34)).setRow w9.heap.size (ints .i64 (lims ri)) = V at *
       generalize w9.heap.size = gi at *
       clear hX hr9 hA9 hS9 he9)
  clear HM1 HH4 HH5 HPI
  refine wp_loop_rounds 4 ?_
  rw [rounds_succ]
  by_cases hz : s0 = a
  · have HQ : Hid (∀ W, (binOp .eql 34 (.agg (ints .i64 (lims s0))) (.agg (ints .i64 (lims a)))).run Tryd.prog W = .ok (.bool true) W) := Lib.hid (eq_lnum s0 a i_s0 ha true (decide_eq_true hz))
    have FIN : Hid (rootN a = evenOf ra ∧ hasRoot a = true) := Lib.hid ⟨by rw [FN.out, if_pos hz], by rw [FB.out, decide_eq_true hz]; rfl⟩
    clear hz FN FB HMB HMI HMJ
    go_wp2
    have HA : Hid (∀ W, Ext V.drew W → W.heap[w.heap.size]? = some (.cells (ints .i64 (lims a)) 34)) := Lib.hid fun W hR => row_ext (row_ext hA10 (ext_drew _)) hR
    have HR : Hid (∀ W, Ext V.drew W → W.heap[gr]? = some (.cells (ints .i64 (lims ra)) 34)) := Lib.hid fun W hR => row_ext (row_ext hr10 (ext_drew _)) hR
    refine wp_region_rely Ext 5 47 [⟨none, [(5, none)]⟩, ⟨none, [(5, none)]⟩, ⟨none, [(30, some 0), (31, some 1)]⟩, ⟨none, [(1, none)]⟩, ⟨none, [(32, some 2), (33, some 3)]⟩] (by kernel_rfl) (by kernel_rfl) rfl Ext.refl Ext.trans (fun F r0 hr hF => ?_)
    have f5 : r0 5 = .pointer (some ⟨gr, 0, none⟩) := by rw [hr]; rfl
    have f1 : r0 1 = .pointer (some ⟨w.heap.size, 0, none⟩) := by rw [hr]; rfl
    clear hr
    simp only [List.take_succ_cons, List.take_zero]
    refine step_const (.agg (ints .i64 (lims ra))) (fun ρ W hR hh => ?_) ?_
    · clear hF
      have h5 : ρ 5 = .pointer (some ⟨gr, 0, none⟩) := Eq.trans hh.1 f5
      exact relyAt_load_row 34 (.tmp _) rfl _ h5 34 _ (0, 0) _ (HR.out W hR) Tryd.underlying34 rfl (infoL _ (lims_len _))
    refine step_const (.agg (ints .i64 (lims ra))) (fun ρ W hR hh => ?_) ?_
    · clear hF
      have h5 : ρ 5 = .pointer (some ⟨gr, 0, none⟩) := Eq.trans hh.1 f5
      exact relyAt_load_row 34 (.tmp _) rfl _ h5 34 _ (0, 0) _ (HR.out W hR) Tryd.underlying34 rfl (infoL _ (lims_len _))
    refine step_const (.agg (ints .i64 (lims s0))) (fun ρ W hR hh => ?_) ?_
    · clear hF
      have h30 : ρ 30 = .agg (ints .i64 (lims ra)) := hh.1
      have h31 : ρ 31 = .agg (ints .i64 (lims ra)) := hh.2.1
      simp only [guarded, relyAt]
      go_simp
      exact ⟨Ext.refl _, (HM0.out _).mono fun _ _ h => h.const⟩
    refine step_const (.agg (ints .i64 (lims a))) (fun ρ W hR hh => ?_) ?_
    · clear hF
      have h1 : ρ 1 = .pointer (some ⟨w.heap.size, 0, none⟩) := Eq.trans hh.1 f1
      exact relyAt_load_row 34 (.tmp _) rfl _ h1 34 _ (0, 0) _ (HA.out W hR) Tryd.underlying34 rfl (infoL _ (lims_len _))
    refine step_const (.bool true) (fun ρ W hR hh => ?_) ?_
    · clear hF
      have h32 : ρ 32 = .agg (ints .i64 (lims s0)) := hh.1
      have h33 : ρ 33 = .agg (ints .i64 (lims a)) := hh.2.1
      exact relyAt_eql_agg 34 _ (.tmp _) (.tmp _) rfl _ _ _ hgl h32 h33 (HQ.out W)
    simp only [List.cons_append, List.nil_append]
    refine hF.out fun W11 hR11 => ?_
    simp only [List.take_succ_cons, List.take_zero, List.drop_succ_cons, List.drop_zero, fin, forall_eq, Act.put, List.setIfInBounds_toArray, List.set_cons_zero, List.set_cons_succ]
    clear hF
    have hr11 := row_ext (row_ext hr10 (ext_drew _)) hR11
    have hA11 := row_ext (row_ext hA10 (ext_drew _)) hR11
    have hS11 := row_ext (row_ext hS10 (ext_drew _)) hR11
    have hi11 := row_ext (row_ext hi10 (ext_drew _)) hR11
    have he11 := Ext.trans (Ext.trans he10 (ext_drew _)) hR11
    clear HA HR hR11 hr10 hA10 hS10 he10 hi10 f1 f5
    have gp : (ints .i64 (lims ra))[0]? = some (.int .i64 (limb ra 0)) := by rw [ints_get _ _ _ (by rw [lims_len]; decide), lims_nth _ _ (by decide)]
    have hcx := row_cell hr11 gp
    have lpar := limb_par ra
    have lrg := limb_range ra 0
    have w2 : (limb ra 0).tmod 2 = limb ra 0 % 2 := Int.tmod_eq_emod_of_nonneg lrg.1
    have w3 : IntKind.i64.wrap (limb ra 0 % 2) = limb ra 0 % 2 := IntWalk.i64_in _ (by omega)
    rw [lpar] at w2 w3
    generalize limb ra 0 = l0 at *
    clear lpar lrg gp
    by_cases ho : ra % 2 = 1
    · have hev := evenOf_odd ra i_ra ho
      have HMP : Hid (∀ w, Calls Tryd.prog 70 #[.agg (ints .i64 (lims p)), .agg (ints .i64 (lims ra))] w (Ret w (.agg (ints .i64 (lims (evenOf ra)))))) := Lib.hid fun w => by
        have := minus p ra i_ra.1 (Int.le_of_lt i_ra.2) hpb w
        rw [← hev] at this
        exact this
      have lev := lims_len (evenOf ra)
      clear hev
      generalize evenOf ra = ev at *
      go_wp2
      have HR : Hid (∀ W, Ext W11.drew W → W.heap[gr]? = some (.cells (ints .i64 (lims ra)) 34)) := Lib.hid fun W hR => row_ext (row_ext hr11 (ext_drew _)) hR
      refine wp_region_rely Ext 3 47 [⟨none, []⟩, ⟨none, [(5, none)]⟩, ⟨none, [(39, some 0), (40, some 1)]⟩] (by kernel_rfl) (by kernel_rfl) rfl Ext.refl Ext.trans (fun F r0 hr hF => ?_)
      have f5 : r0 5 = .pointer (some ⟨gr, 0, none⟩) := by rw [hr]; rfl
      clear hr
      simp only [List.take_succ_cons, List.take_zero]
      refine step_const (.agg (ints .i64 (lims p))) (fun ρ W hR hh => ?_) ?_
      · clear hF
        simp only [guarded, relyAt]
        go_simp
        exact ⟨Ext.refl _, (HPR.out _).mono fun _ _ h => h.const⟩
      refine step_const (.agg (ints .i64 (lims ra))) (fun ρ W hR hh => ?_) ?_
      · clear hF
        have h5 : ρ 5 = .pointer (some ⟨gr, 0, none⟩) := Eq.trans hh.1 f5
        exact relyAt_load_row 34 (.tmp _) rfl _ h5 34 _ (0, 0) _ (HR.out W hR) Tryd.underlying34 rfl (infoL _ (lims_len _))
      refine step_const (.agg (ints .i64 (lims ev))) (fun ρ W hR hh => ?_) ?_
      · clear hF
        have h39 : ρ 39 = .agg (ints .i64 (lims p)) := hh.1
        have h40 : ρ 40 = .agg (ints .i64 (lims ra)) := hh.2.1
        simp only [guarded, relyAt]
        go_simp
        exact ⟨Ext.refl _, (HMP.out _).mono fun _ _ h => h.const⟩
      simp only [List.cons_append, List.nil_append]
      refine hF.out fun W20 hR20 => ?_
      simp only [List.take_succ_cons, List.take_zero, List.drop_succ_cons, List.drop_zero, fin, forall_eq, Act.put, List.setIfInBounds_toArray, List.set_cons_zero, List.set_cons_succ]
      clear hF
      have hr20 := row_ext (row_ext hr11 (ext_drew _)) hR20
      have hS20 := row_ext (row_ext hS11 (ext_drew _)) hR20
      have he20 := Ext.trans (Ext.trans he11 (ext_drew _)) hR20
      clear HR hr11 hS11 he11 hA11 hi11 hR20 f5 HMP hcx
      refine wpList_store_row rfl 34 _ _ rfl gr (ints .i64 (lims ev)) rfl rfl 34 _ hr20 (infoL _ lev) (by rw [ints_size, ints_size, lev, lra]) (ints_one _ _) ?_
      have hr21 := setRow_heap _ _ _ (ints .i64 (lims ev)) _ _ hr20
      have hS21 := (setRow_other W20 gr (w.heap.size + 1) (ints .i64 (lims ev)) (by omega)).trans hS20
      have he21 := ext_setRow he20 (show w.heap.size ≤ gr by omega) (ints .i64 (lims ev))
      generalize W20.setRow gr (ints .i64 (lims ev)) = V21 at *
      clear hr20 hS20 he20
      go_wp2_with first
        | (with_reducible show wpList _ _ _ ((⟨_, .load 34 _, _, _, _, _⟩ : Oper) :: _) _ _
           refine wpList_load_row rfl 34 _ rfl gr rfl 34 _ (0, 0) _ hr21 Tryd.underlying34 rfl (infoL _ lev) ?_)
        | (with_reducible show wpList _ _ _ ((⟨_, .store 34 _ _, _, _, _, _⟩ : Oper) :: _) _ _
           refine wpList_store_row rfl 34 _ _ rfl (w.heap.size + 1) _ rfl rfl 34 _ hS21 (infoL _ lev) (by rw [ints_size, lev]; rfl) (ints_one _ _) ?_)
      exact bodyPost_ret (results_cell_tmp rfl _ _ (w.heap.size + 1) 34 _ (0, 0) _ rfl _ rfl (setRow_heap _ _ _ _ _ _ hS21) Tryd.underlying34 rfl (infoL _ lev)) rfl ⟨by rw [FIN.out.1, FIN.out.2]; rfl, ext_setRow he21 (by omega) _⟩
    · have hev : evenOf ra = ra := by unfold evenOf; rw [if_neg ho]
      have HEV := Lib.hid hev
      clear hev
      have hpz : ra % 2 = 0 := by omega
      go_wp2_with first
        | (with_reducible show wpList _ _ _ ((⟨_, .load 34 _, _, _, _, _⟩ : Oper) :: _) _ _
           refine wpList_load_row rfl 34 _ rfl gr rfl 34 _ (0, 0) _ hr11 Tryd.underlying34 rfl (infoL _ lra) ?_)
        | (with_reducible show wpList _ _ _ ((⟨_, .store 34 _ _, _, _, _, _⟩ : Oper) :: _) _ _
           refine wpList_store_row rfl 34 _ _ rfl (w.heap.size + 1) _ rfl rfl 34 _ hS11 (infoL _ lra) (by rw [ints_size, lra]; rfl) (ints_one _ _) ?_)
      exact bodyPost_ret (results_cell_tmp rfl _ _ (w.heap.size + 1) 34 _ (0, 0) _ rfl _ rfl (setRow_heap _ _ _ _ _ _ hS11) Tryd.underlying34 rfl (infoL _ lra)) rfl ⟨by rw [FIN.out.1, FIN.out.2, HEV.out]; rfl, ext_setRow he11 (by omega) _⟩
  · have HQ : Hid (∀ W, (binOp .eql 34 (.agg (ints .i64 (lims s0))) (.agg (ints .i64 (lims a)))).run Tryd.prog W = .ok (.bool false) W) := Lib.hid (eq_lnum s0 a i_s0 ha false (decide_eq_false hz))
    have HZ := Lib.hid hz
    clear hz
    go_wp2
    have HA : Hid (∀ W, Ext V.drew W → W.heap[w.heap.size]? = some (.cells (ints .i64 (lims a)) 34)) := Lib.hid fun W hR => row_ext (row_ext hA10 (ext_drew _)) hR
    have HR : Hid (∀ W, Ext V.drew W → W.heap[gr]? = some (.cells (ints .i64 (lims ra)) 34)) := Lib.hid fun W hR => row_ext (row_ext hr10 (ext_drew _)) hR
    refine wp_region_rely Ext 5 47 [⟨none, [(5, none)]⟩, ⟨none, [(5, none)]⟩, ⟨none, [(30, some 0), (31, some 1)]⟩, ⟨none, [(1, none)]⟩, ⟨none, [(32, some 2), (33, some 3)]⟩] (by kernel_rfl) (by kernel_rfl) rfl Ext.refl Ext.trans (fun F r0 hr hF => ?_)
    have f5 : r0 5 = .pointer (some ⟨gr, 0, none⟩) := by rw [hr]; rfl
    have f1 : r0 1 = .pointer (some ⟨w.heap.size, 0, none⟩) := by rw [hr]; rfl
    clear hr
    simp only [List.take_succ_cons, List.take_zero]
    refine step_const (.agg (ints .i64 (lims ra))) (fun ρ W hR hh => ?_) ?_
    · clear hF
      have h5 : ρ 5 = .pointer (some ⟨gr, 0, none⟩) := Eq.trans hh.1 f5
      exact relyAt_load_row 34 (.tmp _) rfl _ h5 34 _ (0, 0) _ (HR.out W hR) Tryd.underlying34 rfl (infoL _ (lims_len _))
    refine step_const (.agg (ints .i64 (lims ra))) (fun ρ W hR hh => ?_) ?_
    · clear hF
      have h5 : ρ 5 = .pointer (some ⟨gr, 0, none⟩) := Eq.trans hh.1 f5
      exact relyAt_load_row 34 (.tmp _) rfl _ h5 34 _ (0, 0) _ (HR.out W hR) Tryd.underlying34 rfl (infoL _ (lims_len _))
    refine step_const (.agg (ints .i64 (lims s0))) (fun ρ W hR hh => ?_) ?_
    · clear hF
      have h30 : ρ 30 = .agg (ints .i64 (lims ra)) := hh.1
      have h31 : ρ 31 = .agg (ints .i64 (lims ra)) := hh.2.1
      simp only [guarded, relyAt]
      go_simp
      exact ⟨Ext.refl _, (HM0.out _).mono fun _ _ h => h.const⟩
    refine step_const (.agg (ints .i64 (lims a))) (fun ρ W hR hh => ?_) ?_
    · clear hF
      have h1 : ρ 1 = .pointer (some ⟨w.heap.size, 0, none⟩) := Eq.trans hh.1 f1
      exact relyAt_load_row 34 (.tmp _) rfl _ h1 34 _ (0, 0) _ (HA.out W hR) Tryd.underlying34 rfl (infoL _ (lims_len _))
    refine step_const (.bool false) (fun ρ W hR hh => ?_) ?_
    · clear hF
      have h32 : ρ 32 = .agg (ints .i64 (lims s0)) := hh.1
      have h33 : ρ 33 = .agg (ints .i64 (lims a)) := hh.2.1
      exact relyAt_eql_agg 34 _ (.tmp _) (.tmp _) rfl _ _ _ hgl h32 h33 (HQ.out W)
    simp only [List.cons_append, List.nil_append]
    refine hF.out fun W11 hR11 => ?_
    simp only [List.take_succ_cons, List.take_zero, List.drop_succ_cons, List.drop_zero, fin, forall_eq, Act.put, List.setIfInBounds_toArray, List.set_cons_zero, List.set_cons_succ]
    clear hF
    have hr11 := row_ext (row_ext hr10 (ext_drew _)) hR11
    have hA11 := row_ext (row_ext hA10 (ext_drew _)) hR11
    have hS11 := row_ext (row_ext hS10 (ext_drew _)) hR11
    have hi11 := row_ext (row_ext hi10 (ext_drew _)) hR11
    have he11 := Ext.trans (Ext.trans he10 (ext_drew _)) hR11
    clear HA HR hR11 hr10 hA10 hS10 he10 hi10 f1 f5
    clear HQ HM0
    go_wp2_with first
      | (go_at_call 42
         (with_reducible refine (HMI.out _).mono ?_)
         rintro e w15 ⟨rfl, hw15⟩
         have hr15 := row_ext hr11 hw15
         have hA15 := row_ext hA11 hw15
         have hS15 := row_ext hS11 hw15
         have hi15 := row_ext hi11 hw15
         have he15 := Ext.trans he11 hw15
         clear hr11 hA11 hS11 hi11 he11 hw15 HMI)
      | (with_reducible show wpList _ _ _ ((⟨_, .load 34 _, _, _, _, _⟩ : Oper) :: _) _ _
         refine wpList_load_row rfl 34 _ rfl gr rfl 34 _ (0, 0) _ hr11 Tryd.underlying34 rfl (infoL _ lra) ?_)
      | (with_reducible show wpList _ _ _ ((⟨_, .load 34 _, _, _, _, _⟩ : Oper) :: _) _ _
         refine wpList_load_row rfl 34 _ rfl gi rfl 34 _ (0, 0) _ hi11 Tryd.underlying34 rfl (infoL _ lri) ?_)
      | (with_reducible show wpList _ _ _ ((⟨_, .store 34 _ _, _, _, _, _⟩ : Oper) :: _) _ _
         refine wpList_store_row rfl 34 _ _ rfl gr _ rfl rfl 34 _ hr15 (infoL _ lrb) (by rw [ints_size, ints_size, lra, lrb]) (ints_one _ _) ?_
         have hr12 := setRow_heap _ _ _ (ints .i64 (lims rb)) _ _ hr15
         have hA12 := (setRow_other _ gr w.heap.size (ints .i64 (lims rb)) (by omega)).trans hA15
         have hS12 := (setRow_other _ gr (w.heap.size + 1) (ints .i64 (lims rb)) (by omega)).trans hS15
         have hi12 := (setRow_other _ gr gi (ints .i64 (lims rb)) (by omega)).trans hi15
         have he12 := ext_setRow he15 (show w.heap.size ≤ gr by omega) (ints .i64 (lims rb))
         generalize w15.setRow gr (ints .i64 (lims rb)) = V12 at *
         clear hr15 hA15 hS15 hi15 he15)
    rw [rounds_succ]
    by_cases hz : s1 = a
    · have HQ : Hid (∀ W, (binOp .eql 34 (.agg (ints .i64 (lims s1))) (.agg (ints .i64 (lims a)))).run Tryd.prog W = .ok (.bool true) W) := Lib.hid (eq_lnum s1 a i_s1 ha true (decide_eq_true hz))
      have FIN : Hid (rootN a = evenOf rb ∧ hasRoot a = true) := Lib.hid ⟨by rw [FN.out, if_neg HZ.out, if_pos hz], by rw [FB.out, decide_eq_true hz, Bool.or_true]⟩
      clear hz FN FB HZ HMJ
      go_wp2
      have HA : Hid (∀ W, Ext V12.drew W → W.heap[w.heap.size]? = some (.cells (ints .i64 (lims a)) 34)) := Lib.hid fun W hR => row_ext (row_ext hA12 (ext_drew _)) hR
      have HR : Hid (∀ W, Ext V12.drew W → W.heap[gr]? = some (.cells (ints .i64 (lims rb)) 34)) := Lib.hid fun W hR => row_ext (row_ext hr12 (ext_drew _)) hR
      refine wp_region_rely Ext 5 47 [⟨none, [(5, none)]⟩, ⟨none, [(5, none)]⟩, ⟨none, [(30, some 0), (31, some 1)]⟩, ⟨none, [(1, none)]⟩, ⟨none, [(32, some 2), (33, some 3)]⟩] (by kernel_rfl) (by kernel_rfl) rfl Ext.refl Ext.trans (fun F r0 hr hF => ?_)
      have f5 : r0 5 = .pointer (some ⟨gr, 0, none⟩) := by rw [hr]; rfl
      have f1 : r0 1 = .pointer (some ⟨w.heap.size, 0, none⟩) := by rw [hr]; rfl
      clear hr
      simp only [List.take_succ_cons, List.take_zero]
      refine step_const (.agg (ints .i64 (lims rb))) (fun ρ W hR hh => ?_) ?_
      · clear hF
        have h5 : ρ 5 = .pointer (some ⟨gr, 0, none⟩) := Eq.trans hh.1 f5
        exact relyAt_load_row 34 (.tmp _) rfl _ h5 34 _ (0, 0) _ (HR.out W hR) Tryd.underlying34 rfl (infoL _ (lims_len _))
      refine step_const (.agg (ints .i64 (lims rb))) (fun ρ W hR hh => ?_) ?_
      · clear hF
        have h5 : ρ 5 = .pointer (some ⟨gr, 0, none⟩) := Eq.trans hh.1 f5
        exact relyAt_load_row 34 (.tmp _) rfl _ h5 34 _ (0, 0) _ (HR.out W hR) Tryd.underlying34 rfl (infoL _ (lims_len _))
      refine step_const (.agg (ints .i64 (lims s1))) (fun ρ W hR hh => ?_) ?_
      · clear hF
        have h30 : ρ 30 = .agg (ints .i64 (lims rb)) := hh.1
        have h31 : ρ 31 = .agg (ints .i64 (lims rb)) := hh.2.1
        simp only [guarded, relyAt]
        go_simp
        exact ⟨Ext.refl _, (HMB.out _).mono fun _ _ h => h.const⟩
      refine step_const (.agg (ints .i64 (lims a))) (fun ρ W hR hh => ?_) ?_
      · clear hF
        have h1 : ρ 1 = .pointer (some ⟨w.heap.size, 0, none⟩) := Eq.trans hh.1 f1
        exact relyAt_load_row 34 (.tmp _) rfl _ h1 34 _ (0, 0) _ (HA.out W hR) Tryd.underlying34 rfl (infoL _ (lims_len _))
      refine step_const (.bool true) (fun ρ W hR hh => ?_) ?_
      · clear hF
        have h32 : ρ 32 = .agg (ints .i64 (lims s1)) := hh.1
        have h33 : ρ 33 = .agg (ints .i64 (lims a)) := hh.2.1
        exact relyAt_eql_agg 34 _ (.tmp _) (.tmp _) rfl _ _ _ hgl h32 h33 (HQ.out W)
      simp only [List.cons_append, List.nil_append]
      refine hF.out fun W13 hR13 => ?_
      simp only [List.take_succ_cons, List.take_zero, List.drop_succ_cons, List.drop_zero, fin, forall_eq, Act.put, List.setIfInBounds_toArray, List.set_cons_zero, List.set_cons_succ]
      clear hF
      have hr13 := row_ext (row_ext hr12 (ext_drew _)) hR13
      have hA13 := row_ext (row_ext hA12 (ext_drew _)) hR13
      have hS13 := row_ext (row_ext hS12 (ext_drew _)) hR13
      have hi13 := row_ext (row_ext hi12 (ext_drew _)) hR13
      have he13 := Ext.trans (Ext.trans he12 (ext_drew _)) hR13
      clear HA HR hR13 hr12 hA12 hS12 he12 hi12 f1 f5
      have gp : (ints .i64 (lims rb))[0]? = some (.int .i64 (limb rb 0)) := by rw [ints_get _ _ _ (by rw [lims_len]; decide), lims_nth _ _ (by decide)]
      have hcx := row_cell hr13 gp
      have lpar := limb_par rb
      have lrg := limb_range rb 0
      have w2 : (limb rb 0).tmod 2 = limb rb 0 % 2 := Int.tmod_eq_emod_of_nonneg lrg.1
      have w3 : IntKind.i64.wrap (limb rb 0 % 2) = limb rb 0 % 2 := IntWalk.i64_in _ (by omega)
      rw [lpar] at w2 w3
      generalize limb rb 0 = l0 at *
      clear lpar lrg gp
      by_cases ho : rb % 2 = 1
      · have hev := evenOf_odd rb i_rb ho
        have HMP : Hid (∀ w, Calls Tryd.prog 70 #[.agg (ints .i64 (lims p)), .agg (ints .i64 (lims rb))] w (Ret w (.agg (ints .i64 (lims (evenOf rb)))))) := Lib.hid fun w => by
          have := minus p rb i_rb.1 (Int.le_of_lt i_rb.2) hpb w
          rw [← hev] at this
          exact this
        have lev := lims_len (evenOf rb)
        clear hev
        generalize evenOf rb = ev at *
        go_wp2
        have HR : Hid (∀ W, Ext W13.drew W → W.heap[gr]? = some (.cells (ints .i64 (lims rb)) 34)) := Lib.hid fun W hR => row_ext (row_ext hr13 (ext_drew _)) hR
        refine wp_region_rely Ext 3 47 [⟨none, []⟩, ⟨none, [(5, none)]⟩, ⟨none, [(39, some 0), (40, some 1)]⟩] (by kernel_rfl) (by kernel_rfl) rfl Ext.refl Ext.trans (fun F r0 hr hF => ?_)
        have f5 : r0 5 = .pointer (some ⟨gr, 0, none⟩) := by rw [hr]; rfl
        clear hr
        simp only [List.take_succ_cons, List.take_zero]
        refine step_const (.agg (ints .i64 (lims p))) (fun ρ W hR hh => ?_) ?_
        · clear hF
          simp only [guarded, relyAt]
          go_simp
          exact ⟨Ext.refl _, (HPR.out _).mono fun _ _ h => h.const⟩
        refine step_const (.agg (ints .i64 (lims rb))) (fun ρ W hR hh => ?_) ?_
        · clear hF
          have h5 : ρ 5 = .pointer (some ⟨gr, 0, none⟩) := Eq.trans hh.1 f5
          exact relyAt_load_row 34 (.tmp _) rfl _ h5 34 _ (0, 0) _ (HR.out W hR) Tryd.underlying34 rfl (infoL _ (lims_len _))
        refine step_const (.agg (ints .i64 (lims ev))) (fun ρ W hR hh => ?_) ?_
        · clear hF
          have h39 : ρ 39 = .agg (ints .i64 (lims p)) := hh.1
          have h40 : ρ 40 = .agg (ints .i64 (lims rb)) := hh.2.1
          simp only [guarded, relyAt]
          go_simp
          exact ⟨Ext.refl _, (HMP.out _).mono fun _ _ h => h.const⟩
        simp only [List.cons_append, List.nil_append]
        refine hF.out fun W20 hR20 => ?_
        simp only [List.take_succ_cons, List.take_zero, List.drop_succ_cons, List.drop_zero, fin, forall_eq, Act.put, List.setIfInBounds_toArray, List.set_cons_zero, List.set_cons_succ]
        clear hF
        have hr20 := row_ext (row_ext hr13 (ext_drew _)) hR20
        have hS20 := row_ext (row_ext hS13 (ext_drew _)) hR20
        have he20 := Ext.trans (Ext.trans he13 (ext_drew _)) hR20
        clear HR hr13 hS13 he13 hA13 hi13 hR20 f5 HMP hcx
        refine wpList_store_row rfl 34 _ _ rfl gr (ints .i64 (lims ev)) rfl rfl 34 _ hr20 (infoL _ lev) (by rw [ints_size, ints_size, lev, lrb]) (ints_one _ _) ?_
        have hr21 := setRow_heap _ _ _ (ints .i64 (lims ev)) _ _ hr20
        have hS21 := (setRow_other W20 gr (w.heap.size + 1) (ints .i64 (lims ev)) (by omega)).trans hS20
        have he21 := ext_setRow he20 (show w.heap.size ≤ gr by omega) (ints .i64 (lims ev))
        generalize W20.setRow gr (ints .i64 (lims ev)) = V21 at *
        clear hr20 hS20 he20
        go_wp2_with first
          | (with_reducible show wpList _ _ _ ((⟨_, .load 34 _, _, _, _, _⟩ : Oper) :: _) _ _
             refine wpList_load_row rfl 34 _ rfl gr rfl 34 _ (0, 0) _ hr21 Tryd.underlying34 rfl (infoL _ lev) ?_)
          | (with_reducible show wpList _ _ _ ((⟨_, .store 34 _ _, _, _, _, _⟩ : Oper) :: _) _ _
             refine wpList_store_row rfl 34 _ _ rfl (w.heap.size + 1) _ rfl rfl 34 _ hS21 (infoL _ lev) (by rw [ints_size, lev]; rfl) (ints_one _ _) ?_)
        exact bodyPost_ret (results_cell_tmp rfl _ _ (w.heap.size + 1) 34 _ (0, 0) _ rfl _ rfl (setRow_heap _ _ _ _ _ _ hS21) Tryd.underlying34 rfl (infoL _ lev)) rfl ⟨by rw [FIN.out.1, FIN.out.2]; rfl, ext_setRow he21 (by omega) _⟩
      · have hev : evenOf rb = rb := by unfold evenOf; rw [if_neg ho]
        have HEV := Lib.hid hev
        clear hev
        have hpz : rb % 2 = 0 := by omega
        go_wp2_with first
          | (with_reducible show wpList _ _ _ ((⟨_, .load 34 _, _, _, _, _⟩ : Oper) :: _) _ _
             refine wpList_load_row rfl 34 _ rfl gr rfl 34 _ (0, 0) _ hr13 Tryd.underlying34 rfl (infoL _ lrb) ?_)
          | (with_reducible show wpList _ _ _ ((⟨_, .store 34 _ _, _, _, _, _⟩ : Oper) :: _) _ _
             refine wpList_store_row rfl 34 _ _ rfl (w.heap.size + 1) _ rfl rfl 34 _ hS13 (infoL _ lrb) (by rw [ints_size, lrb]; rfl) (ints_one _ _) ?_)
        exact bodyPost_ret (results_cell_tmp rfl _ _ (w.heap.size + 1) 34 _ (0, 0) _ rfl _ rfl (setRow_heap _ _ _ _ _ _ hS13) Tryd.underlying34 rfl (infoL _ lrb)) rfl ⟨by rw [FIN.out.1, FIN.out.2, HEV.out]; rfl, ext_setRow he13 (by omega) _⟩
    · have HQ : Hid (∀ W, (binOp .eql 34 (.agg (ints .i64 (lims s1))) (.agg (ints .i64 (lims a)))).run Tryd.prog W = .ok (.bool false) W) := Lib.hid (eq_lnum s1 a i_s1 ha false (decide_eq_false hz))
      have FIN : Hid (rootN a = 0 ∧ hasRoot a = false) := Lib.hid ⟨by rw [FN.out, if_neg HZ.out, if_neg hz], by rw [FB.out, decide_eq_false HZ.out, decide_eq_false hz]; rfl⟩
      clear hz FN FB HZ
      go_wp2
      have HA : Hid (∀ W, Ext V12.drew W → W.heap[w.heap.size]? = some (.cells (ints .i64 (lims a)) 34)) := Lib.hid fun W hR => row_ext (row_ext hA12 (ext_drew _)) hR
      have HR : Hid (∀ W, Ext V12.drew W → W.heap[gr]? = some (.cells (ints .i64 (lims rb)) 34)) := Lib.hid fun W hR => row_ext (row_ext hr12 (ext_drew _)) hR
      refine wp_region_rely Ext 5 47 [⟨none, [(5, none)]⟩, ⟨none, [(5, none)]⟩, ⟨none, [(30, some 0), (31, some 1)]⟩, ⟨none, [(1, none)]⟩, ⟨none, [(32, some 2), (33, some 3)]⟩] (by kernel_rfl) (by kernel_rfl) rfl Ext.refl Ext.trans (fun F r0 hr hF => ?_)
      have f5 : r0 5 = .pointer (some ⟨gr, 0, none⟩) := by rw [hr]; rfl
      have f1 : r0 1 = .pointer (some ⟨w.heap.size, 0, none⟩) := by rw [hr]; rfl
      clear hr
      simp only [List.take_succ_cons, List.take_zero]
      refine step_const (.agg (ints .i64 (lims rb))) (fun ρ W hR hh => ?_) ?_
      · clear hF
        have h5 : ρ 5 = .pointer (some ⟨gr, 0, none⟩) := Eq.trans hh.1 f5
        exact relyAt_load_row 34 (.tmp _) rfl _ h5 34 _ (0, 0) _ (HR.out W hR) Tryd.underlying34 rfl (infoL _ (lims_len _))
      refine step_const (.agg (ints .i64 (lims rb))) (fun ρ W hR hh => ?_) ?_
      · clear hF
        have h5 : ρ 5 = .pointer (some ⟨gr, 0, none⟩) := Eq.trans hh.1 f5
        exact relyAt_load_row 34 (.tmp _) rfl _ h5 34 _ (0, 0) _ (HR.out W hR) Tryd.underlying34 rfl (infoL _ (lims_len _))
      refine step_const (.agg (ints .i64 (lims s1))) (fun ρ W hR hh => ?_) ?_
      · clear hF
        have h30 : ρ 30 = .agg (ints .i64 (lims rb)) := hh.1
        have h31 : ρ 31 = .agg (ints .i64 (lims rb)) := hh.2.1
        simp only [guarded, relyAt]
        go_simp
        exact ⟨Ext.refl _, (HMB.out _).mono fun _ _ h => h.const⟩
      refine step_const (.agg (ints .i64 (lims a))) (fun ρ W hR hh => ?_) ?_
      · clear hF
        have h1 : ρ 1 = .pointer (some ⟨w.heap.size, 0, none⟩) := Eq.trans hh.1 f1
        exact relyAt_load_row 34 (.tmp _) rfl _ h1 34 _ (0, 0) _ (HA.out W hR) Tryd.underlying34 rfl (infoL _ (lims_len _))
      refine step_const (.bool false) (fun ρ W hR hh => ?_) ?_
      · clear hF
        have h32 : ρ 32 = .agg (ints .i64 (lims s1)) := hh.1
        have h33 : ρ 33 = .agg (ints .i64 (lims a)) := hh.2.1
        exact relyAt_eql_agg 34 _ (.tmp _) (.tmp _) rfl _ _ _ hgl h32 h33 (HQ.out W)
      simp only [List.cons_append, List.nil_append]
      refine hF.out fun W13 hR13 => ?_
      simp only [List.take_succ_cons, List.take_zero, List.drop_succ_cons, List.drop_zero, fin, forall_eq, Act.put, List.setIfInBounds_toArray, List.set_cons_zero, List.set_cons_succ]
      clear hF
      have hr13 := row_ext (row_ext hr12 (ext_drew _)) hR13
      have hA13 := row_ext (row_ext hA12 (ext_drew _)) hR13
      have hS13 := row_ext (row_ext hS12 (ext_drew _)) hR13
      have hi13 := row_ext (row_ext hi12 (ext_drew _)) hR13
      have he13 := Ext.trans (Ext.trans he12 (ext_drew _)) hR13
      clear HA HR hR13 hr12 hA12 hS12 he12 hi12 f1 f5
      clear HQ HMB
      go_wp2_with first
        | (go_at_call 42
           (with_reducible refine (HMJ.out _).mono ?_)
           rintro e w15 ⟨rfl, hw15⟩
           have hr15 := row_ext hr13 hw15
           have hA15 := row_ext hA13 hw15
           have hS15 := row_ext hS13 hw15
           have hi15 := row_ext hi13 hw15
           have he15 := Ext.trans he13 hw15
           clear hr13 hA13 hS13 hi13 he13 hw15 HMJ)
        | (with_reducible show wpList _ _ _ ((⟨_, .load 34 _, _, _, _, _⟩ : Oper) :: _) _ _
           refine wpList_load_row rfl 34 _ rfl gr rfl 34 _ (0, 0) _ hr13 Tryd.underlying34 rfl (infoL _ lrb) ?_)
        | (with_reducible show wpList _ _ _ ((⟨_, .load 34 _, _, _, _, _⟩ : Oper) :: _) _ _
           refine wpList_load_row rfl 34 _ rfl gi rfl 34 _ (0, 0) _ hi13 Tryd.underlying34 rfl (infoL _ lri) ?_)
        | (with_reducible show wpList _ _ _ ((⟨_, .store 34 _ _, _, _, _, _⟩ : Oper) :: _) _ _
           refine wpList_store_row rfl 34 _ _ rfl gr _ rfl rfl 34 _ hr15 (infoL _ lrj) (by rw [ints_size, ints_size, lrb, lrj]) (ints_one _ _) ?_
           have hr14 := setRow_heap _ _ _ (ints .i64 (lims rj)) _ _ hr15
           have hA14 := (setRow_other _ gr w.heap.size (ints .i64 (lims rj)) (by omega)).trans hA15
           have hS14 := (setRow_other _ gr (w.heap.size + 1) (ints .i64 (lims rj)) (by omega)).trans hS15
           have hi14 := (setRow_other _ gr gi (ints .i64 (lims rj)) (by omega)).trans hi15
           have he14 := ext_setRow he15 (show w.heap.size ≤ gr by omega) (ints .i64 (lims rj))
           generalize w15.setRow gr (ints .i64 (lims rj)) = V14 at *
           clear hr15 hA15 hS15 hi15 he15)
      rw [rounds_succ]
      have lz := lims_len 0
      go_wp2_with first
        | (with_reducible show wpList _ _ _ ((⟨_, .store 34 _ _, _, _, _, _⟩ : Oper) :: _) _ _
           refine wpList_store_row rfl 34 _ _ rfl (w.heap.size + 1) (ints .i64 (List.replicate 16 0)) rfl rfl 34 _ hS14 (infoL _ rfl) rfl (ints_one _ _) ?_)
      exact bodyPost_ret (results_cell_tmp rfl _ _ (w.heap.size + 1) 34 _ (0, 0) _ rfl _ rfl (setRow_heap _ _ _ _ _ _ hS14) Tryd.underlying34 rfl (infoL _ rfl)) rfl ⟨by rw [FIN.out.1, FIN.out.2, lims_zero]; rfl, ext_setRow he14 (by omega) _⟩
end Go.Proofs.YtaojnmjmmfdfjaaDoor.Field
end

/-! The iterator over bits, its bits being true or false. -/
section
namespace Go.Proofs.YtaojnmjmmfdfjaaDoor.Field
open Go Go.RowKit Go.Shelf
open Go.Proofs.YtaojnmjmmfdfjaaDoor.Rely
attribute [local go_sem] Oper.semAt_some
set_option linter.unusedVariables false

def encB (b : Bool) : Value := .int .i64 (if b then 1 else 0)
def bitB (es : List Int) (i : Nat) : Bool := bitAt es i == 1
def bitsB (es : List Int) : List Bool := (List.range 256).map fun j => bitB es (255 - j)
theorem encB_bit (es : List Int) (i : Nat) : encB (bitB es i) = .int .i64 (bitAt es i) := by
  unfold encB bitB
  have := bitAt_range es i
  by_cases h : bitAt es i = 1
  · simp [h]
  · have h0 : bitAt es i = 0 := by omega
    simp [h0]
theorem bitsB_len (es : List Int) : (bitsB es).length = 256 := by simp [bitsB]
theorem bitsB_take (es : List Int) (j : Nat) (hj : j < 256) : (bitsB es).take (256 - j) = (bitsB es).take (256 - (j + 1)) ++ [bitB es j] := by
  have e : 256 - j = (256 - (j + 1)) + 1 := by omega
  rw [e, List.take_add_one]
  congr 1
  have h : 256 - (j + 1) < 256 := by omega
  simp only [bitsB, List.getElem?_map, List.getElem?_range h, Option.map_some, Option.toList_some]
  rw [show 255 - (256 - (j + 1)) = j by omega]
set_option maxHeartbeats 2000000 in
theorem bits_stops_b (m : Nat) (hm : 1 ≤ m) (kb : Nat) (es : List Int) (hel : es.length = 32) (hb : AreBytes es) (w : World) (hkb : w.heap[kb]? = some (.cells (ints .u8 es) 23)) :
    SeqStopsK Fence.wide m Tryd.prog 71 #[.pointer (some ⟨kb, 0, none⟩)] (fun x : Bool => #[encB x]) (Same kb) (fun ys => ys = bitsB es) (fun pre => pre <+: bitsB es) 256 w := fun l J Jx W hW hJ hJx hY h0 => by
  refine callsIn_of_wp Tryd.func71 rfl trivial ?_ rfl
  simp only [Tryd.ntmps71, List.size_toArray, List.length_cons, List.length_nil, Nat.reduceAdd, Nat.reduceSub, Array.replicate_succ, Array.replicate_zero, List.push_toArray, List.append_toArray, List.nil_append, List.cons_append]
  have hkW : W.heap[kb]? = some (.cells (ints .u8 es) 23) := (hW.block kb (row_lt hkb)).trans hkb
  gi_wp2
  gi_loopw [3] (fun i wr => ∃ k : Nat, k ≤ 256 ∧ i = .int .i64 ((k : Int) - 1) ∧ J ((bitsB es).take (256 - k)) wr ∧ Same kb W wr) (fun i _ => (intOf i + 1).toNat)
  case atStart => exact ⟨256, by omega, rfl, by simpa using h0, Same.refl _ _⟩
  case round =>
    obtain ⟨k, hk256, rfl, hJs, hB⟩ := hrel
    rcases k with _ | j
    · gi_wp2
      go_end0
      exact ⟨⟨_, rfl⟩, .inl ⟨_, rfl, by rwa [List.take_of_length_le (by rw [bitsB_len]; omega)] at hJs⟩⟩
    · have hj : j < 256 := by omega
      rw [show ((j + 1 : Nat) : Int) - 1 = (j : Int) by omega]
      have hkw : wr.heap[kb]? = some (.cells (ints .u8 es) 23) := hB.trans hkW
      have hX : (ints .u8 es)[j / 8]? = some (.int .u8 (nth es (j / 8))) := ints_get _ _ _ (by omega)
      have hcx := row_cell hkw hX
      obtain ⟨fn, tmps, assign, body, hy, hR⟩ := hY _ (bitB es j) wr hJs (by rw [List.length_take, bitsB_len]; omega)
      have hT := Lib.hid (bitsB_take es j hj)
      have b1 := hb.nth (j / 8)
      rw [encB_bit, show bitAt es j = nth es (j / 8) / 2 ^ (j % 8) % 2 from rfl] at hy
      generalize bitB es j = bt at *
      generalize nth es (j / 8) = v at *
      have q0 : (0 : Int) ≤ (j : Int) := by omega
      have q1 : (j : Int) / 8 < 32 := by omega
      have q2 : IntKind.i64.wrap ((j : Int) / 8) = (j : Int) / 8 := IntWalk.i64_in _ (by omega)
      have qm : (j : Int).tmod 8 = (j : Int) % 8 := Int.tmod_eq_emod_of_nonneg (by omega)
      have q3 : IntKind.i64.wrap ((j : Int) % 8) = (j : Int) % 8 := IntWalk.i64_in _ (by omega)
      have q4 : (0 : Int) ≤ (j : Int) / 8 := by omega
      have q5 : ((j : Int) / 8).toNat = j / 8 := by omega
      have q6 : ((j : Int) % 8).toNat = j % 8 := by omega
      have q7 : (0 : Int) ≤ (j : Int) % 8 := by omega
      have q8 : (j : Int) % 8 < 8 := by omega
      have hp : (1 : Int) ≤ 2 ^ (j % 8) := by
        have : (0 : Int) < 2 ^ (j % 8) := Int.pow_pos (by decide)
        omega
      have d1 : 0 ≤ v / 2 ^ (j % 8) := Int.ediv_nonneg b1.1 (by omega)
      have d2 : v / 2 ^ (j % 8) ≤ v := Int.ediv_le_self _ b1.1
      have w1 : IntKind.i64.wrap (v / 2 ^ (j % 8)) = v / 2 ^ (j % 8) := IntWalk.i64_in _ (by omega)
      have w2 := and_one (v / 2 ^ (j % 8)) (by omega)
      gi_wp2
      refine hR.mono ?_
      rintro e W3 (⟨rfl, hJ3, hk3⟩ | ⟨rfl, hJx3⟩)
      · gi_wp2
        go_roundw
        case rel => exact ⟨j, by omega, rfl, by rw [hT.out]; exact hJ3, hk3.trans hB⟩
        case measure => simp [intOf]
      · gi_wp2
        refine bodyPost_ret (results_none rfl _ _ _) rfl ?_
        exact ⟨⟨_, rfl⟩, .inr ⟨_, by rw [← hT.out]; exact List.take_prefix _ _, hJx3⟩⟩
end Go.Proofs.YtaojnmjmmfdfjaaDoor.Field
end
