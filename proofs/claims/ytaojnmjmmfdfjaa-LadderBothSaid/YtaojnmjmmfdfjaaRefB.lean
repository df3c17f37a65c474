/- The document's numbers: the prime, and which number is at least another one. -/
import Derived.Test.YtaojnmjmmfdfjaaRefA
namespace Go.Proofs.Ytaojnmjmmfdfjaa.Field
open Go Go.RowKit
open Go.Proofs.Ytaojnmjmmfdfjaa.Rely
set_option linter.unusedVariables false

theorem prime (w : World) : Calls Try.prog 55 #[] w (Ret w (lnum p)) := by
  have e0 : lims p = [65517, 65535, 65535, 65535, 65535, 65535, 65535, 65535, 65535, 65535, 65535, 65535, 65535, 65535, 65535, 32767] := by decide +kernel
  have e : ints .i64 (lims p) = #[.int .i64 65517, .int .i64 65535, .int .i64 65535, .int .i64 65535, .int .i64 65535, .int .i64 65535, .int .i64 65535, .int .i64 65535, .int .i64 65535, .int .i64 65535, .int .i64 65535, .int .i64 65535, .int .i64 65535, .int .i64 65535, .int .i64 65535, .int .i64 32767] := by
    rw [e0]; rfl
  have hi := infoL (lims p) (lims_len p)
  unfold lnum
  rw [e]
  rw [e] at hi
  clear e e0
  go_enter Try.func55, Try.ntmps55
  go_wp2_with fail
  exact bodyPost_ret (results_cell_row (p := 0) rfl _ _ w.heap.size 32 _ (0, 0) _ rfl (heap_alloc_new _ _) Try.underlying32 rfl hi) rfl ⟨rfl, ext_alloc _ _⟩

theorem pvf_high (g : Nat → Int) (k : Nat) : ∀ n, k ≤ n → (∀ j, k ≤ j → j < n → g j = 0) → pvf g n = pvf g k
  | 0, h, _ => by obtain rfl : k = 0 := by omega
                  rfl
  | n + 1, h, hz => by
    rcases Nat.lt_or_ge n k with h1 | h1
    · obtain rfl : k = n + 1 := by omega
      rfl
    · rw [pvf, hz n h1 (by omega), pvf_high g k n h1 fun j a b => hz j a (by omega)]
      simp
theorem lessG_low (x y : Int) (k : Nat) : -(65536 ^ k) < pvf (lessG x y) k ∧ pvf (lessG x y) k < 65536 ^ k := by
  have h : pvf (lessG x y) k = pvf (limb x) k - pvf (limb y) k := pvf_sub _ _ _
  have hp := B_pos k
  have h1 := Int.emod_nonneg x (Int.ne_of_gt hp)
  have h2 := Int.emod_lt_of_pos x hp
  have h3 := Int.emod_nonneg y (Int.ne_of_gt hp)
  have h4 := Int.emod_lt_of_pos y hp
  rw [h, pvf_limb, pvf_limb]
  omega
theorem top_differs (x y : Int) (hx : 0 ≤ x ∧ x < big) (hy : 0 ≤ y ∧ y < big) (k : Nat) (hk : k < 16) (hi : ∀ j, k + 1 ≤ j → j < 16 → limb x j = limb y j) (hd : limb x k ≠ limb y k) :
    decide (limb x k > limb y k) = decide (y ≤ x) := by
  have e := lessG_val x y hx hy
  rw [pvf_high (lessG x y) (k + 1) 16 (by omega) fun j a b => by unfold lessG; rw [hi j a b]; omega, pvf] at e
  have hl := lessG_low x y k
  have hp := B_pos k
  refine decide_eq_decide.2 ⟨fun h => ?_, fun h => ?_⟩
  · have h1 : 1 * 65536 ^ k ≤ lessG x y k * 65536 ^ k := Int.mul_le_mul_of_nonneg_right (by unfold lessG; omega) (Int.le_of_lt hp)
    omega
  · rcases (by omega : limb x k > limb y k ∨ limb x k < limb y k) with h0 | h0
    · exact h0
    · have h1 : lessG x y k * 65536 ^ k ≤ -1 * 65536 ^ k := Int.mul_le_mul_of_nonneg_right (by unfold lessG; omega) (Int.le_of_lt hp)
      omega
theorem same_all (x y : Int) (hx : 0 ≤ x ∧ x < big) (hy : 0 ≤ y ∧ y < big) (hi : ∀ j, 0 ≤ j → j < 16 → limb x j = limb y j) : x = y := by
  have e := lessG_val x y hx hy
  rw [pvf_high (lessG x y) 0 16 (by omega) fun j a b => by unfold lessG; rw [hi j (by omega) b]; omega, pvf] at e
  omega

theorem atLeast (x y : Int) (hx : 0 ≤ x ∧ x < big) (hy : 0 ≤ y ∧ y < big) (w : World) : Calls Try.prog 62 #[lnum x, lnum y] w (Ret w (.bool (decide (y ≤ x)))) := by
  unfold lnum
  go_enter Try.func62, Try.ntmps62
  go_wp2_with fail
  go_loopw [5] (fun i wr => ∃ k : Nat, k ≤ 16 ∧ i = .int .i64 ((k : Int) - 1) ∧ (∀ j, k ≤ j → j < 16 → limb x j = limb y j) ∧ Ext w wr ∧ wr.heap[w.heap.size]? = some (.cells (ints .i64 (lims x)) 32) ∧
      wr.heap[w.heap.size + 1]? = some (.cells (ints .i64 (lims y)) 32)) (fun i _ => (intOf i + 1).toNat)
  case atStart => exact ⟨16, by omega, rfl, fun j h1 h2 => by omega, Ext.trans (ext_alloc _ _) (ext_alloc _ _), by rw [Below.heap_alloc _ _ _ (by simp)]; exact heap_alloc_new _ _, by have := heap_alloc_new (w.alloc (.cells (ints .i64 (lims x)) 32)) (.cells (ints .i64 (lims y)) 32); simpa using this⟩
  case round =>
    obtain ⟨k, hk, rfl, hi, he, hA, hB⟩ := hrel
    rcases k with _ | j
    · have e := same_all x y hx hy hi
      go_wp2
      exact bodyPost_ret (results_tmp rfl _ _ _) rfl ⟨by rw [e]; simp, he⟩
    · have hlt : j < 16 := by omega
      have q0 : (0 : Int) ≤ (j : Int) := by omega
      have q1 : (j : Int) < 16 := by omega
      have hX : (ints .i64 (lims x))[j]? = some (.int .i64 (limb x j)) := by rw [ints_get _ _ _ (by rw [lims_len]; exact hlt), lims_nth _ _ hlt]
      have hY : (ints .i64 (lims y))[j]? = some (.int .i64 (limb y j)) := by rw [ints_get _ _ _ (by rw [lims_len]; exact hlt), lims_nth _ _ hlt]
      rw [show ((j + 1 : Nat) : Int) - 1 = (j : Int) by omega]
      have HT := Lib.hid (top_differs x y hx hy j hlt hi)
      have HI := Lib.hid hi
      clear hi
      generalize hlx : limb x j = lx at *
      generalize hly : limb y j = ly at *
      have HX : Hid (∀ W, Ext wr.drew W → W.cell? ⟨w.heap.size, j, none⟩ = some (.int .i64 lx)) := Lib.hid fun W hR => row_cell (row_ext (row_ext hA (ext_drew _)) hR) hX
      have HY : Hid (∀ W, Ext wr.drew W → W.cell? ⟨w.heap.size + 1, j, none⟩ = some (.int .i64 ly)) := Lib.hid fun W hR => row_cell (row_ext (row_ext hB (ext_drew _)) hR) hY
      go_wp2
      refine wp_region_rely Ext 6 24 [⟨none, [(5, none)]⟩, ⟨none, [(2, none), (10, some 0)]⟩, ⟨none, [(11, some 1)]⟩, ⟨none, [(5, none)]⟩, ⟨none, [(3, none), (13, some 3)]⟩, ⟨none, [(14, some 4)]⟩] (by kernel_rfl) (by kernel_rfl) rfl Ext.refl Ext.trans (fun F r0 hr hF => ?_)
      have f2 : r0 2 = .pointer (some ⟨w.heap.size, 0, none⟩) := by rw [hr]; rfl
      have f3 : r0 3 = .pointer (some ⟨w.heap.size + 1, 0, none⟩) := by rw [hr]; rfl
      have f5 : r0 5 = .int .i64 j := by rw [hr]; rfl
      clear hr
      simp only [List.take_succ_cons, List.take_zero]
      repeat
        (try simp only [List.cons_append, List.nil_append]
         apply step_const
         (intro ρ W hR hh
          have hcx := HX.out W hR
          have hcy := HY.out W hR
          simp only [Holds, List.getD_cons_zero, List.getD_cons_succ, f2, f3, f5] at hh
          simp only [guarded, relyAt]
          go_simp
          first
            | exact ⟨Ext.refl _, rfl⟩
            | exact Ext.refl _))
      simp only [List.cons_append, List.nil_append]
      refine hF.out fun W hRW => ?_
      simp only [List.take_succ_cons, List.take_zero, List.drop_succ_cons, List.drop_zero, fin, forall_eq, Act.put, List.setIfInBounds_toArray, List.set_cons_zero, List.set_cons_succ]
      clear HX HY hF f2 f3 f5
      have hE := Ext.trans (ext_drew wr) hRW
      have hA' := row_ext hA hE
      have hB' := row_ext hB hE
      have HX : Hid (∀ V, Ext W.drew V → V.cell? ⟨w.heap.size, j, none⟩ = some (.int .i64 lx)) := Lib.hid fun V hR => row_cell (row_ext (row_ext hA' (ext_drew _)) hR) hX
      have HY : Hid (∀ V, Ext W.drew V → V.cell? ⟨w.heap.size + 1, j, none⟩ = some (.int .i64 ly)) := Lib.hid fun V hR => row_cell (row_ext (row_ext hB' (ext_drew _)) hR) hY
      go_wp2
      · have hne : lx ≠ ly := by
          have h : (lx != ly) = true := by assumption
          simpa using h
        refine wp_region_rely Ext 7 24 [⟨none, [(5, none)]⟩, ⟨none, [(2, none), (17, some 0)]⟩, ⟨none, [(18, some 1)]⟩, ⟨none, [(5, none)]⟩, ⟨none, [(3, none), (20, some 3)]⟩, ⟨none, [(21, some 4)]⟩, ⟨none, [(19, some 2), (22, some 5)]⟩] (by kernel_rfl) (by kernel_rfl) rfl Ext.refl Ext.trans (fun F r0 hr hF => ?_)
        have f2 : r0 2 = .pointer (some ⟨w.heap.size, 0, none⟩) := by rw [hr]; rfl
        have f3 : r0 3 = .pointer (some ⟨w.heap.size + 1, 0, none⟩) := by rw [hr]; rfl
        have f5 : r0 5 = .int .i64 j := by rw [hr]; rfl
        clear hr
        simp only [List.take_succ_cons, List.take_zero]
        repeat
          (try simp only [List.cons_append, List.nil_append]
           apply step_const
           (intro ρ V hR hh
            have hcx := HX.out V hR
            have hcy := HY.out V hR
            simp only [Holds, List.getD_cons_zero, List.getD_cons_succ, f2, f3, f5] at hh
            simp only [guarded, relyAt]
            go_simp
            first
              | exact ⟨Ext.refl _, rfl⟩
              | exact Ext.refl _))
        simp only [List.cons_append, List.nil_append]
        refine hF.out fun V hRV => ?_
        simp only [List.take_succ_cons, List.take_zero, List.drop_succ_cons, List.drop_zero, fin, forall_eq, Act.put, List.setIfInBounds_toArray, List.set_cons_zero, List.set_cons_succ]
        go_wp2
        exact bodyPost_ret (results_tmp rfl _ _ _) rfl ⟨by rw [← HT.out hne]; rfl, Ext.trans (Ext.trans (Ext.trans he hE) (ext_drew _)) hRV⟩
      · have heq : lx = ly := by
          first
            | (have h : (lx != ly) = false := by assumption
               simpa using h)
            | (have h : ¬ ((lx != ly) = true) := by assumption
               simpa using h)
        refine ⟨⟨j, by omega, rfl, fun i h1 h2 => ?_, Ext.trans he hE, hA', hB'⟩, by simp [intOf]⟩
        rcases (by omega : i = j ∨ j + 1 ≤ i) with rfl | h
        · rw [hlx, hly]; exact heq
        · exact HI.out i h h2
end Go.Proofs.Ytaojnmjmmfdfjaa.Field
