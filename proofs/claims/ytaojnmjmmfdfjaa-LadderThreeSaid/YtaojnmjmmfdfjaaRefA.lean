/- The document's numbers: less, and at least. -/
import Derived.Test.YtaojnmjmmfdfjaaLimbs
import Derived.Test.YtaojnmjmmfdfjaaFieldG
import Derived.Test.YtaojnmjmmfdfjaaRows2
namespace Go.Proofs.Ytaojnmjmmfdfjaa.Field
open Go Go.RowKit
open Go.Proofs.Ytaojnmjmmfdfjaa.Rely
set_option linter.unusedVariables false

/-- a number of the document's as a value -/
def lnum (n : Int) : Value := .agg (ints .i64 (lims n))
def big : Int := 115792089237316195423570985008687907853269984665640564039457584007913129639936
theorem big_pow : (65536 : Int) ^ 16 = big := by decide
theorem infoL (xs : List Int) (h : xs.length = 16) : (Try.prog.info? 32).map (·.size) = some (ints .i64 xs).size := by
  rw [ints_size, h]
  kernel_rfl
def lessG (x y : Int) (i : Nat) : Int := limb x i - limb y i
theorem pvf_sub (g h : Nat → Int) : ∀ k, pvf (fun i => g i - h i) k = pvf g k - pvf h k
  | 0 => rfl
  | k + 1 => by simp only [pvf]; rw [pvf_sub g h k, Int.sub_mul]; omega
theorem lessG_val (x y : Int) (hx : 0 ≤ x ∧ x < big) (hy : 0 ≤ y ∧ y < big) : pvf (lessG x y) 16 = x - y := by
  have h : pvf (lessG x y) 16 = pvf (limb x) 16 - pvf (limb y) 16 := pvf_sub _ _ _
  rw [h, pvf_limb, pvf_limb, big_pow, Int.emod_eq_of_lt hx.1 hx.2, Int.emod_eq_of_lt hy.1 hy.2]
theorem lessG_cr (x y : Int) : ∀ k, cr (lessG x y) k = 0 ∨ cr (lessG x y) k = -1
  | 0 => .inl (cr_zero _)
  | k + 1 => by
    rw [← cr_step]
    have := limb_range x k
    have := limb_range y k
    have h := lessG_cr x y k
    unfold lessG at *
    omega
theorem small_i64 (n : Int) (h : -4611686018427387904 ≤ n ∧ n ≤ 4611686018427387904) : IntKind.i64.wrap n = n := IntWalk.i64_in _ (by omega)
/-- a round of the difference -/
theorem less_round (x y : Int) (k : Nat) (hk : k < 16) (e : pvf (lessG x y) 16 = x - y) :
    (limb x k - limb y k - -(cr (lessG x y) k) < 0 → limb x k - limb y k - -(cr (lessG x y) k) + 65536 = limb (x - y) k ∧ (1 : Int) = -(cr (lessG x y) (k + 1))) ∧
    (¬ limb x k - limb y k - -(cr (lessG x y) k) < 0 → limb x k - limb y k - -(cr (lessG x y) k) = limb (x - y) k ∧ (0 : Int) = -(cr (lessG x y) (k + 1))) := by
  have h1 := carry_limb (lessG x y) k 16 hk
  have h2 := cr_step (lessG x y) k
  have h3 := limb_range x k
  have h4 := limb_range y k
  have h5 := lessG_cr x y k
  rw [e] at h1
  unfold lessG at *
  generalize limb (x - y) k = r at *
  generalize cr (fun i => limb x i - limb y i) k = c at *
  omega

theorem minus (x y : Int) (hy : 0 ≤ y) (hxy : y ≤ x) (hx : x < big) (w : World) : Calls Try.prog 54 #[lnum x, lnum y] w (Ret w (lnum (x - y))) := by
  have e := lessG_val x y (by omega) (by omega)
  unfold lnum
  go_enter Try.func54, Try.ntmps54
  go_wp2_with fail
  go_loopw [5, 6] (fun c i wr => ∃ k : Nat, k ≤ 16 ∧ i = .int .i64 k ∧ c = .int .i64 (-(cr (lessG x y) k)) ∧ Ext w wr ∧ wr.heap[w.heap.size]? = some (.cells (ints .i64 (mix 16 (limb (x - y)) (limb x) k)) 32) ∧
      wr.heap[w.heap.size + 1]? = some (.cells (ints .i64 (lims y)) 32) ∧ ∃ b, b.size = 16 ∧ wr.heap[w.heap.size + 1 + 1]? = some (.cells b 32)) (fun _ i _ => 16 - (intOf i).toNat)
  case atStart => exact ⟨0, by omega, rfl, by rw [cr_zero]; rfl, ext3 _ _ _ _, by rw [mix_none]; exact alloc3_fst _ _ _ _, alloc3_mid _ _ _ _, _, rfl, alloc3_new _ _ _ _⟩
  case round =>
    obtain ⟨k, hk, rfl, rfl, he, hA, hB, b, hbs, hC⟩ := hrel
    by_cases hlt : k < 16
    · have hX : (ints .i64 (mix 16 (limb (x - y)) (limb x) k))[k]? = some (.int .i64 (limb x k)) := by rw [ints_get _ _ _ (by rw [mix_len]; exact hlt), mix_nth _ _ _ _ _ hlt, if_neg (by omega)]
      have hY : (ints .i64 (lims y))[k]? = some (.int .i64 (limb y k)) := by rw [ints_get _ _ _ (by rw [lims_len]; exact hlt), lims_nth _ _ hlt]
      have hS : (ints .i64 (mix 16 (limb (x - y)) (limb x) k)).setIfInBounds k (.int .i64 (limb (x - y) k)) = ints .i64 (mix 16 (limb (x - y)) (limb x) (k + 1)) := by rw [ints_set, mix_set _ _ _ _ hlt]
      have HR := Lib.hid (less_round x y k hlt e)
      have h3 := limb_range x k
      have h4 := limb_range y k
      have h5 := lessG_cr x y k
      generalize hc : cr (lessG x y) k = c at *
      generalize hc' : cr (lessG x y) (k + 1) = c' at *
      generalize hlx : limb x k = lx at *
      generalize hly : limb y k = ly at *
      have w1 : IntKind.i64.wrap (lx - ly) = lx - ly := IntWalk.i64_in _ (by omega)
      have w2 : IntKind.i64.wrap (lx - ly - -c) = lx - ly - -c := IntWalk.i64_in _ (by omega)
      have w3 : lx - ly - -c < 0 → IntKind.i64.wrap (lx - ly - -c + 65536) = lx - ly - -c + 65536 := fun h => IntWalk.i64_in _ (by omega)
      have HX : Hid (∀ W, Ext wr.drew W → W.cell? ⟨w.heap.size, k, none⟩ = some (.int .i64 lx)) := Lib.hid fun W hR => row_cell (row_ext (row_ext hA (ext_drew _)) hR) hX
      have HY : Hid (∀ W, Ext wr.drew W → W.cell? ⟨w.heap.size + 1, k, none⟩ = some (.int .i64 ly)) := Lib.hid fun W hR => row_cell (row_ext (row_ext hB (ext_drew _)) hR) hY
      go_wp2
      refine wp_region_rely Ext 9 29 [⟨none, [(6, none)]⟩, ⟨none, [(2, none), (12, some 0)]⟩, ⟨none, [(13, some 1)]⟩, ⟨none, [(6, none)]⟩, ⟨none, [(3, none), (15, some 3)]⟩, ⟨none, [(16, some 4)]⟩, ⟨none, [(14, some 2), (17, some 5)]⟩, ⟨none, [(5, none)]⟩, ⟨none, [(18, some 6), (19, some 7)]⟩] (by kernel_rfl) (by kernel_rfl) rfl Ext.refl Ext.trans (fun F r0 hr hF => ?_)
      have f2 : r0 2 = .pointer (some ⟨w.heap.size, 0, none⟩) := by rw [hr]; rfl
      have f3 : r0 3 = .pointer (some ⟨w.heap.size + 1, 0, none⟩) := by rw [hr]; rfl
      have f5 : r0 5 = .int .i64 (-c) := by rw [hr]; rfl
      have f6 : r0 6 = .int .i64 k := by rw [hr]; rfl
      clear hr
      simp only [List.take_succ_cons, List.take_zero]
      repeat
        (try simp only [List.cons_append, List.nil_append]
         apply step_const
         (intro ρ W hR hh
          have hcx := HX.out W hR
          have hcy := HY.out W hR
          simp only [Holds, List.getD_cons_zero, List.getD_cons_succ, f2, f3, f5, f6] at hh
          simp only [guarded, relyAt]
          go_simp
          first
            | exact ⟨Ext.refl _, rfl⟩
            | exact Ext.refl _))
      simp only [List.cons_append, List.nil_append]
      refine hF.out fun W hRW => ?_
      simp only [List.take_succ_cons, List.take_zero, List.drop_succ_cons, List.drop_zero, fin, forall_eq, Act.put, List.setIfInBounds_toArray, List.set_cons_zero, List.set_cons_succ]
      clear HX HY hF f2 f3 f5 f6
      have hE := Ext.trans (ext_drew wr) hRW
      have hA' := row_ext hA hE
      have hB' := row_ext hB hE
      have hC' := row_ext hC hE
      have hcx := row_cell hA' hX
      have hfx := row_frozen hA' k
      go_wp2
      all_goals
        have hR := HR.out
        clear HR
        refine ⟨⟨k + 1, by omega, by go_num, ?_, ext_set (Ext.trans he hE) (Nat.le_refl _) _ _, (set_row _ _ hA').trans ?_, (set_row_other _ _ (by omega)).trans hB', b, hbs, (set_row_other _ _ (by omega)).trans hC'⟩, by simp [intOf]; omega⟩
      · rw [hc', (hR.1 (by omega)).2]
      · rw [show lx - ly + c + 65536 = limb (x - y) k by have := (hR.1 (by omega)).1; omega, hS]
      · rw [hc', (hR.2 (by omega)).2]
      · rw [show lx - ly + c = limb (x - y) k by have := (hR.2 (by omega)).1; omega, hS]
    · obtain rfl : k = 16 := by omega
      go_wp2_with first
        | (with_reducible show wpList _ _ _ ((⟨_, .load 32 _, _, _, _, _⟩ : Oper) :: _) _ _
           refine wpList_load_row rfl 32 _ rfl w.heap.size rfl 32 _ (0, 0) _ hA Try.underlying32 rfl (infoL _ (mix_len _ _ _ _)) ?_)
        | (with_reducible show wpList _ _ _ ((⟨_, .store 32 _ _, _, _, _, _⟩ : Oper) :: _) _ _
           refine wpList_store_row rfl 32 _ _ rfl (w.heap.size + 1 + 1) _ rfl rfl 32 _ hC (infoL _ (mix_len _ _ _ _)) (by rw [hbs, ints_size, mix_len]) (ints_one _ _) ?_)
      exact bodyPost_ret (results_cell_row (p := 4) rfl _ _ (w.heap.size + 1 + 1) 32 _ (0, 0) _ rfl (setRow_heap _ _ _ _ _ _ hC) Try.underlying32 rfl (infoL _ (mix_len _ _ _ _))) rfl ⟨by rw [mix_full _ _ _ _ (Nat.le_refl _)]; rfl, ext_setRow he (by omega) _⟩
end Go.Proofs.Ytaojnmjmmfdfjaa.Field
