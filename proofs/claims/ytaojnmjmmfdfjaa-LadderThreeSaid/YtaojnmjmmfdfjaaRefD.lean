/- The document's numbers: sums, differences, products. -/
import Derived.Test.YtaojnmjmmfdfjaaRefC
namespace Go.Proofs.Ytaojnmjmmfdfjaa.Field
open Go Go.RowKit
open Go.Proofs.Ytaojnmjmmfdfjaa.Rely
set_option linter.unusedVariables false

theorem ext4 (w : World) (a b c d : Obj) : Ext w ((((w.alloc a).alloc b).alloc c).alloc d) := Ext.trans (ext3 w a b c) (ext_alloc _ _)
theorem alloc4_1 (w : World) (a b c d : Obj) : ((((w.alloc a).alloc b).alloc c).alloc d).heap[w.heap.size]? = some a := by
  rw [Below.heap_alloc _ _ _ (by simp only [World.size_alloc]; omega)]; exact alloc3_fst _ _ _ _
theorem alloc4_2 (w : World) (a b c d : Obj) : ((((w.alloc a).alloc b).alloc c).alloc d).heap[w.heap.size + 1]? = some b := by
  rw [Below.heap_alloc _ _ _ (by simp only [World.size_alloc]; omega)]; exact alloc3_mid _ _ _ _
theorem alloc4_3 (w : World) (a b c d : Obj) : ((((w.alloc a).alloc b).alloc c).alloc d).heap[w.heap.size + 1 + 1]? = some c := by
  rw [Below.heap_alloc _ _ _ (by simp only [World.size_alloc]; omega)]; exact alloc3_new _ _ _ _
theorem alloc4_4 (w : World) (a b c d : Obj) : ((((w.alloc a).alloc b).alloc c).alloc d).heap[w.heap.size + 1 + 1 + 1]? = some d := by
  have := heap_alloc_new (((w.alloc a).alloc b).alloc c) d
  simpa using this
theorem pvf_mix (f : Nat → Int) (k : Nat) (hk : k ≤ 32) : pvf (nth (mix 32 f (fun _ => 0) k)) 32 = pvf f k := by
  rw [pvf_high (nth (mix 32 f (fun _ => 0) k)) k 32 hk fun j a b => by rw [mix_nth _ _ _ _ _ b, if_neg (by omega)]]
  exact pvf_congr (n := k) (fun i hi => by rw [mix_nth _ _ _ _ _ (by omega), if_pos hi]) k (Nat.le_refl _)
theorem mix_range (f : Nat → Int) (k : Nat) (hf : ∀ i, i < k → 0 ≤ f i ∧ f i ≤ M) (i : Nat) (hi : i < 32) : 0 ≤ nth (mix 32 f (fun _ => 0) k) i ∧ nth (mix 32 f (fun _ => 0) k) i ≤ M := by
  rw [mix_nth _ _ _ _ _ hi]
  split
  · exact hf i (by assumption)
  · decide
theorem limb_val (x : Int) (hx : 0 ≤ x ∧ x < big) : pvf (limb x) 16 = x := by rw [pvf_limb, big_pow, Int.emod_eq_of_lt hx.1 hx.2]
theorem pow32 : (65536 : Int) ^ 32 = big * big := by decide

theorem lAdd (x y : Int) (hx : 0 ≤ x ∧ x < big) (hy : 0 ≤ y ∧ y < big) (w : World) : Calls Try.prog 26 #[lnum x, lnum y] w (Ret w (lnum ((x + y) % p))) := by
  have HC : Hid (∀ w, Calls Try.prog 51 #[.agg (ints .i64 (mix 32 (fun i => limb x i + limb y i) (fun _ => 0) 16))] w (Ret w (lnum ((x + y) % p)))) := Lib.hid fun w => by
    have hv : pvf (nth (mix 32 (fun i => limb x i + limb y i) (fun _ => 0) 16)) 32 = x + y := by
      rw [pvf_mix _ _ (by decide), pvf_add, limb_val x hx, limb_val y hy]
    have := small (mix 32 (fun i => limb x i + limb y i) (fun _ => 0) 16) (mix_len _ _ _ _) (mix_range _ 16 fun i _ => by
      have := limb_range x i
      have := limb_range y i
      unfold M
      omega) (by rw [hv, pow32]; unfold big at *; omega) w
    rw [hv] at this
    exact this
  unfold lnum at HC ⊢
  generalize hr : lims ((x + y) % p) = res at *
  have hrl : res.length = 16 := by rw [← hr]; exact lims_len _
  clear hr
  go_enter Try.func26, Try.ntmps26
  go_wp2_with fail
  go_loopw [6] (fun i wr => ∃ k : Nat, k ≤ 16 ∧ i = .int .i64 k ∧ Ext w wr ∧ wr.heap[w.heap.size]? = some (.cells (ints .i64 (lims x)) 32) ∧ wr.heap[w.heap.size + 1]? = some (.cells (ints .i64 (lims y)) 32) ∧
    (∃ b, b.size = 16 ∧ wr.heap[w.heap.size + 1 + 1]? = some (.cells b 32)) ∧ wr.heap[w.heap.size + 1 + 1 + 1]? = some (.cells (ints .i64 (mix 32 (fun i => limb x i + limb y i) (fun _ => 0) k)) 70)) (fun i _ => 16 - (intOf i).toNat)
  case atStart => exact ⟨0, by omega, rfl, ext4 _ _ _ _ _, alloc4_1 _ _ _ _ _, alloc4_2 _ _ _ _ _, ⟨_, rfl, alloc4_3 _ _ _ _ _⟩, alloc4_4 _ _ _ _ _⟩
  case round =>
    obtain ⟨k, hk, rfl, he, hA, hB, ⟨b, hbs, hC⟩, hD⟩ := hrel
    by_cases hlt : k < 16
    · have hX : (ints .i64 (lims x))[k]? = some (.int .i64 (limb x k)) := by rw [ints_get _ _ _ (by rw [lims_len]; exact hlt), lims_nth _ _ hlt]
      have hY : (ints .i64 (lims y))[k]? = some (.int .i64 (limb y k)) := by rw [ints_get _ _ _ (by rw [lims_len]; exact hlt), lims_nth _ _ hlt]
      have hZ : (ints .i64 (mix 32 (fun i => limb x i + limb y i) (fun _ => 0) k))[k]? = some (.int .i64 0) := by rw [ints_get _ _ _ (by rw [mix_len]; omega), mix_nth _ _ _ _ _ (by omega), if_neg (by omega)]
      have hS : (ints .i64 (mix 32 (fun i => limb x i + limb y i) (fun _ => 0) k)).setIfInBounds k (.int .i64 (limb x k + limb y k)) = ints .i64 (mix 32 (fun i => limb x i + limb y i) (fun _ => 0) (k + 1)) := by
        rw [ints_set, ← mix_set _ _ _ _ (by omega)]
      have h3 := limb_range x k
      have h4 := limb_range y k
      generalize hlx : limb x k = lx at *
      generalize hly : limb y k = ly at *
      have w1 : IntKind.i64.wrap (lx + ly) = lx + ly := IntWalk.i64_in _ (by omega)
      have q5 : (k : Int) < 32 := by omega
      have HX : Hid (∀ W, Ext wr.drew W → W.cell? ⟨w.heap.size, k, none⟩ = some (.int .i64 lx)) := Lib.hid fun W hR => row_cell (row_ext (row_ext hA (ext_drew _)) hR) hX
      have HY : Hid (∀ W, Ext wr.drew W → W.cell? ⟨w.heap.size + 1, k, none⟩ = some (.int .i64 ly)) := Lib.hid fun W hR => row_cell (row_ext (row_ext hB (ext_drew _)) hR) hY
      go_wp2
      refine wp_region_rely Ext 9 22 [⟨none, [(6, none)]⟩, ⟨none, [(6, none)]⟩, ⟨none, [(2, none), (12, some 1)]⟩, ⟨none, [(13, some 2)]⟩, ⟨none, [(6, none)]⟩, ⟨none, [(3, none), (15, some 4)]⟩, ⟨none, [(16, some 5)]⟩, ⟨none, [(14, some 3), (17, some 6)]⟩, ⟨none, [(5, none), (11, some 0)]⟩] (by kernel_rfl) (by kernel_rfl) rfl Ext.refl Ext.trans (fun F r0 hr hF => ?_)
      have f2 : r0 2 = .pointer (some ⟨w.heap.size, 0, none⟩) := by rw [hr]; rfl
      have f3 : r0 3 = .pointer (some ⟨w.heap.size + 1, 0, none⟩) := by rw [hr]; rfl
      have f5 : r0 5 = .pointer (some ⟨w.heap.size + 1 + 1 + 1, 0, none⟩) := by rw [hr]; rfl
      have f6 : r0 6 = .int .i64 k := by rw [hr]; rfl
      clear hr
      simp only [List.take_succ_cons, List.take_zero]
      repeat
        (try simp only [List.cons_append, List.nil_append]
         apply step_const
         (intro ρ W hR hh
          have hcx := HX.out W hR
          have hcy := HY.out W hR
          simp only [Holds, List.getD_cons_zero, List.getD_cons_succ, f2, f3, f5, f6] at hh
          simp only [guarded, relyAt]
          go_simp
          first
            | exact ⟨Ext.refl _, rfl⟩
            | exact Ext.refl _))
      simp only [List.cons_append, List.nil_append]
      refine hF.out fun W hRW => ?_
      simp only [List.take_succ_cons, List.take_zero, List.drop_succ_cons, List.drop_zero, fin, forall_eq, Act.put, List.setIfInBounds_toArray, List.set_cons_zero, List.set_cons_succ]
      clear HX HY hF f2 f3 f5 f6
      have hE := Ext.trans (ext_drew wr) hRW
      have hA' := row_ext hA hE
      have hB' := row_ext hB hE
      have hC' := row_ext hC hE
      have hD' := row_ext hD hE
      have hcx := row_cell hD' hZ
      have hfx := row_frozen hD' k
      go_wp2
      exact ⟨⟨k + 1, by omega, by go_num, ext_set (Ext.trans he hE) (by omega) _ _, (set_row_other _ _ (by omega)).trans hA', (set_row_other _ _ (by omega)).trans hB', ⟨b, hbs, (set_row_other _ _ (by omega)).trans hC'⟩, (set_row _ _ hD').trans (by rw [hS])⟩, by simp [intOf]; omega⟩
    · obtain rfl : k = 16 := by omega
      go_wp2_with first
        | (go_at_call 51
           (with_reducible refine (HC.out _).mono ?_)
           rintro e w' ⟨rfl, hw⟩
           have hC' := row_ext hC hw)
        | (with_reducible show wpList _ _ _ ((⟨_, .load 70 _, _, _, _, _⟩ : Oper) :: _) _ _
           refine wpList_load_row rfl 70 _ rfl (w.heap.size + 1 + 1 + 1) rfl 70 _ (0, 0) _ hD Try.underlying70 rfl (info70 _ (mix_len _ _ _ _)) ?_)
        | (with_reducible show wpList _ _ _ ((⟨_, .store 32 _ _, _, _, _, _⟩ : Oper) :: _) _ _
           refine wpList_store_row rfl 32 _ _ rfl (w.heap.size + 1 + 1) _ rfl rfl 32 _ hC' (infoL _ hrl) (by rw [hbs, ints_size, hrl]) (ints_one _ _) ?_)
      exact bodyPost_ret (results_cell_row (p := 4) rfl _ _ (w.heap.size + 1 + 1) 32 _ (0, 0) _ rfl (setRow_heap _ _ _ _ _ _ hC') Try.underlying32 rfl (infoL _ hrl)) rfl ⟨rfl, ext_setRow (Ext.trans he hw) (by omega) _⟩
end Go.Proofs.Ytaojnmjmmfdfjaa.Field
