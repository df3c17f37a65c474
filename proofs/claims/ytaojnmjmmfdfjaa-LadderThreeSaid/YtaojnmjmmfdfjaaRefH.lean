/- The document's numbers: small ones. -/
import Derived.Test.YtaojnmjmmfdfjaaRefE
namespace Go.Proofs.Ytaojnmjmmfdfjaa.Field
open Go Go.RowKit
open Go.Proofs.Ytaojnmjmmfdfjaa.Rely
set_option linter.unusedVariables false

theorem alloc2_1 (w : World) (a b : Obj) : ((w.alloc a).alloc b).heap[w.heap.size]? = some a := by
  rw [Below.heap_alloc _ _ _ (by simp)]; exact heap_alloc_new _ _
theorem alloc2_2 (w : World) (a b : Obj) : ((w.alloc a).alloc b).heap[w.heap.size + 1]? = some b := by
  have := heap_alloc_new (w.alloc a) b
  simpa using this
theorem limb_step (n : Int) (k : Nat) : n / 65536 ^ k / 65536 = n / 65536 ^ (k + 1) := by
  rw [Int.pow_succ, Int.ediv_ediv_of_nonneg (Int.le_of_lt (B_pos k))]
theorem div_range (n : Int) (h : 0 ≤ n ∧ n < 9223372036854775808) (k : Nat) : 0 ≤ n / 65536 ^ k ∧ n / 65536 ^ k < 9223372036854775808 := by
  have hp := B_pos k
  refine ⟨Int.ediv_nonneg h.1 (Int.le_of_lt hp), Int.lt_of_le_of_lt (Int.ediv_le_self _ h.1) h.2⟩
theorem lSmall_pos (n : Int) (hn : 0 ≤ n ∧ n < 9223372036854775808) (w : World) : Calls Try.prog 23 #[.int .i64 n] w (Ret w (lnum (n % p))) := by
  have hv : pvf (nth (mix 32 (limb n) (fun _ => 0) 4)) 32 = n := by
    rw [pvf_mix _ _ (by decide), pvf_limb, show (65536 : Int) ^ 4 = 18446744073709551616 by decide, Int.emod_eq_of_lt hn.1 (by omega)]
  have HC : Hid (∀ w, Calls Try.prog 51 #[.agg (ints .i64 (mix 32 (limb n) (fun _ => 0) 4))] w (Ret w (lnum (n % p)))) := Lib.hid fun w => by
    have := small (mix 32 (limb n) (fun _ => 0) 4) (mix_len _ _ _ _) (mix_range _ 4 fun i _ => by
      have := limb_range n i
      unfold M
      omega) (by rw [hv, show (65536 : Int) ^ 32 = big * big by decide]; have : (9223372036854775808 : Int) < big * big := by decide
                 omega) w
    rw [hv] at this
    exact this
  unfold lnum at HC ⊢
  have hrl := lims_len (n % p)
  generalize lims (n % p) = res at *
  clear hv
  have hneg : ¬ n < 0 := by omega
  go_enter Try.func23, Try.ntmps23
  go_wp2_with fail
  go_loopw [0, 5] (fun c i wr => ∃ k : Nat, k ≤ 4 ∧ i = .int .i64 k ∧ c = .int .i64 (n / 65536 ^ k) ∧ Ext w wr ∧ (∃ b, b.size = 16 ∧ wr.heap[w.heap.size]? = some (.cells b 32)) ∧
    wr.heap[w.heap.size + 1]? = some (.cells (ints .i64 (mix 32 (limb n) (fun _ => 0) k)) 70)) (fun _ i _ => 4 - (intOf i).toNat)
  case atStart =>
    exact ⟨0, by omega, rfl, by simp, Ext.trans (ext_alloc _ _) (ext_alloc _ _), ⟨_, rfl, alloc2_1 _ _ _⟩, alloc2_2 _ _ _⟩
  case round =>
    obtain ⟨k, hk, rfl, rfl, he, ⟨b, hbs, hB⟩, hC⟩ := hrel
    by_cases hlt : k < 4
    · have hZ : (ints .i64 (mix 32 (limb n) (fun _ => 0) k))[k]? = some (.int .i64 0) := by rw [ints_get _ _ _ (by rw [mix_len]; omega), mix_nth _ _ _ _ _ (by omega), if_neg (by omega)]
      have hS : (ints .i64 (mix 32 (limb n) (fun _ => 0) k)).setIfInBounds k (.int .i64 (limb n k)) = ints .i64 (mix 32 (limb n) (fun _ => 0) (k + 1)) := by rw [ints_set, mix_set _ _ _ _ (by omega)]
      have hd := div_range n hn k
      have e1 : limb n k = n / 65536 ^ k % 65536 := rfl
      have e2 := limb_step n k
      rw [e1] at hS
      clear e1
      generalize hq : n / 65536 ^ k = q at *
      generalize hq' : n / 65536 ^ (k + 1) = q' at *
      have w2 : q.tmod 65536 = q % 65536 := Int.tmod_eq_emod_of_nonneg hd.1
      have w3 : IntKind.i64.wrap (q % 65536) = q % 65536 := IntWalk.i64_in _ (by omega)
      have w4 : q.tdiv 65536 = q / 65536 := Int.tdiv_eq_ediv_of_nonneg hd.1
      have w5 : IntKind.i64.wrap (q / 65536) = q / 65536 := IntWalk.i64_in _ (by omega)
      have hcx := row_cell hC hZ
      have hfx := row_frozen hC k
      have q5 : (k : Int) < 32 := by omega
      go_wp2
      exact ⟨⟨k + 1, by omega, by go_num, by rw [hq'], ext_set he (by omega) _ _, ⟨b, hbs, (set_row_other _ _ (by omega)).trans hB⟩, (set_row _ _ hC).trans (by rw [hS])⟩, by simp [intOf]; omega⟩
    · obtain rfl : k = 4 := by omega
      go_wp2_with first
        | (go_at_call 51
           (with_reducible refine (HC.out _).mono ?_)
           rintro e w' ⟨rfl, hw⟩
           have hB' := row_ext hB hw)
        | (with_reducible show wpList _ _ _ ((⟨_, .load 70 _, _, _, _, _⟩ : Oper) :: _) _ _
           refine wpList_load_row rfl 70 _ rfl (w.heap.size + 1) rfl 70 _ (0, 0) _ hC Try.underlying70 rfl (info70 _ (mix_len _ _ _ _)) ?_)
        | (with_reducible show wpList _ _ _ ((⟨_, .store 32 _ _, _, _, _, _⟩ : Oper) :: _) _ _
           refine wpList_store_row rfl 32 _ _ rfl w.heap.size _ rfl rfl 32 _ hB' (infoL _ hrl) (by rw [hbs, ints_size, hrl]) (ints_one _ _) ?_)
      exact bodyPost_ret (results_cell_row (p := 2) rfl _ _ w.heap.size 32 _ (0, 0) _ rfl (setRow_heap _ _ _ _ _ _ hB') Try.underlying32 rfl (infoL _ hrl)) rfl ⟨rfl, ext_setRow (Ext.trans he hw) (Nat.le_refl _) _⟩

theorem lims_zero : lims 0 = List.replicate 16 0 := by decide +kernel
theorem lims_one : lims 1 = 1 :: List.replicate 15 0 := by decide +kernel
theorem lSmall_neg (n : Int) (hn : -9223372036854775808 ≤ n ∧ n < 0) (w : World) : Calls Try.prog 23 #[.int .i64 n] w (Ret w (lnum (n % p))) := by
  have HS : Hid (∀ w, Calls Try.prog 23 #[.int .i64 (-(n + 1))] w (Ret w (lnum (-(n + 1) % p)))) := Lib.hid (lSmall_pos _ (by omega))
  have m1 : 0 ≤ -(n + 1) % p ∧ -(n + 1) % p < p := ⟨Int.emod_nonneg _ (by decide), Int.emod_lt_of_pos _ (by decide)⟩
  have m2 : 0 ≤ (0 - -(n + 1) % p) % p ∧ (0 - -(n + 1) % p) % p < p := ⟨Int.emod_nonneg _ (by decide), Int.emod_lt_of_pos _ (by decide)⟩
  have hpb : p < big := by decide
  have HA : Hid (∀ w, Calls Try.prog 28 #[lnum 0, lnum (-(n + 1) % p)] w (Ret w (lnum ((0 - -(n + 1) % p) % p)))) := Lib.hid (lSub 0 _ (by decide) (by omega))
  have HB : Hid (∀ w, Calls Try.prog 28 #[lnum ((0 - -(n + 1) % p) % p), lnum 1] w (Ret w (lnum (n % p)))) := Lib.hid fun w => by
    have := lSub ((0 - -(n + 1) % p) % p) 1 (by omega) (by decide) w
    rw [show ((0 - -(n + 1) % p) % p - 1) % p = n % p by unfold p; omega] at this
    exact this
  have h0 : lnum 0 = .agg #[.int .i64 0, .int .i64 0, .int .i64 0, .int .i64 0, .int .i64 0, .int .i64 0, .int .i64 0, .int .i64 0, .int .i64 0, .int .i64 0, .int .i64 0, .int .i64 0, .int .i64 0, .int .i64 0, .int .i64 0, .int .i64 0] := by unfold lnum; rw [lims_zero]; rfl
  have h1 : lnum 1 = .agg #[.int .i64 1, .int .i64 0, .int .i64 0, .int .i64 0, .int .i64 0, .int .i64 0, .int .i64 0, .int .i64 0, .int .i64 0, .int .i64 0, .int .i64 0, .int .i64 0, .int .i64 0, .int .i64 0, .int .i64 0, .int .i64 0] := by unfold lnum; rw [lims_one]; rfl
  rw [h0] at HA
  have h1' : ints .i64 (lims 1) = #[.int .i64 1, .int .i64 0, .int .i64 0, .int .i64 0, .int .i64 0, .int .i64 0, .int .i64 0, .int .i64 0, .int .i64 0, .int .i64 0, .int .i64 0, .int .i64 0, .int .i64 0, .int .i64 0, .int .i64 0, .int .i64 0] := by rw [lims_one]; rfl
  have hi1 := infoL (lims 1) (lims_len 1)
  rw [h1'] at hi1
  rw [h1] at HB
  clear h0 h1 h1'
  have q1 : IntKind.i64.wrap (n + 1) = n + 1 := IntWalk.i64_in _ (by omega)
  have q2 : IntKind.i64.wrap (-(n + 1)) = -(n + 1) := IntWalk.i64_in _ (by omega)
  have hneg : n < 0 := hn.2
  unfold lnum at HA HB HS ⊢
  have hrl := lims_len (n % p)
  generalize lims (n % p) = res at *
  generalize lims ((0 - -(n + 1) % p) % p) = l2 at *
  generalize lims (-(n + 1) % p) = l1 at *
  clear m1 m2 hpb hn
  go_enter Try.func23, Try.ntmps23
  go_wp2_with fail
  generalize hW : (w.alloc _).alloc _ = W0
  have hA : ∃ b : Array Value, b.size = 16 ∧ W0.heap[w.heap.size]? = some (.cells b 32) := by rw [← hW]; exact ⟨_, rfl, alloc2_1 _ _ _⟩
  obtain ⟨b, hbs, hA⟩ := hA
  have hB : W0.heap[w.heap.size + 1]? = some (.cells #[.int .i64 1, .int .i64 0, .int .i64 0, .int .i64 0, .int .i64 0, .int .i64 0, .int .i64 0, .int .i64 0, .int .i64 0, .int .i64 0, .int .i64 0, .int .i64 0, .int .i64 0, .int .i64 0, .int .i64 0, .int .i64 0] 32) := by rw [← hW]; exact alloc2_2 _ _ _
  have he : Ext w W0 := by rw [← hW]; exact Ext.trans (ext_alloc _ _) (ext_alloc _ _)
  clear hW
  have HO : Hid (∀ W, Ext W0.drew W → W.heap[w.heap.size + 1]? = some (.cells #[.int .i64 1, .int .i64 0, .int .i64 0, .int .i64 0, .int .i64 0, .int .i64 0, .int .i64 0, .int .i64 0, .int .i64 0, .int .i64 0, .int .i64 0, .int .i64 0, .int .i64 0, .int .i64 0, .int .i64 0, .int .i64 0] 32)) := Lib.hid fun W hR => row_ext (row_ext hB (ext_drew _)) hR
  refine wp_region_rely Ext 8 29 [⟨none, []⟩, ⟨none, [(0, none)]⟩, ⟨none, [(10, some 1)]⟩, ⟨none, [(11, some 2)]⟩, ⟨none, [(12, some 3)]⟩, ⟨none, [(9, some 0), (13, some 4)]⟩, ⟨none, [(3, none)]⟩, ⟨none, [(14, some 5), (15, some 6)]⟩] (by kernel_rfl) (by kernel_rfl) rfl Ext.refl Ext.trans (fun F r0 hr hF => ?_)
  have f0 : r0 0 = .int .i64 n := by rw [hr]; rfl
  have f3 : r0 3 = .pointer (some ⟨w.heap.size + 1, 0, none⟩) := by rw [hr]; rfl
  clear hr
  simp only [List.take_succ_cons, List.take_zero]
  refine step_const (.agg #[.int .i64 0, .int .i64 0, .int .i64 0, .int .i64 0, .int .i64 0, .int .i64 0, .int .i64 0, .int .i64 0, .int .i64 0, .int .i64 0, .int .i64 0, .int .i64 0, .int .i64 0, .int .i64 0, .int .i64 0, .int .i64 0]) (fun ρ W hR hh => ?_) ?_
  · clear hF
    simp only [guarded, relyAt]
    go_simp
    exact Ext.refl _
  refine step_const (.int .i64 n) (fun ρ W hR hh => ?_) ?_
  · clear hF
    have h0 : ρ 0 = .int .i64 n := Eq.trans hh.1 f0
    simp only [guarded, relyAt]
    go_simp
    exact Ext.refl _
  refine step_const (.int .i64 (n + 1)) (fun ρ W hR hh => ?_) ?_
  · clear hF
    have h10 : ρ 10 = .int .i64 n := hh.1
    simp only [guarded, relyAt]
    go_simp
    exact Ext.refl _
  refine step_const (.int .i64 (-(n + 1))) (fun ρ W hR hh => ?_) ?_
  · clear hF
    have h11 : ρ 11 = .int .i64 (n + 1) := hh.1
    generalize n + 1 = u at *
    simp only [guarded, relyAt]
    go_simp
    exact Ext.refl _
  refine step_const (.agg (ints .i64 l1)) (fun ρ W hR hh => ?_) ?_
  · clear hF
    have h12 : ρ 12 = .int .i64 (-(n + 1)) := hh.1
    generalize -(n + 1) = u at *
    simp only [guarded, relyAt]
    go_simp
    exact ⟨Ext.refl _, (HS.out _).mono fun _ _ h => h.const⟩
  refine step_const (.agg (ints .i64 l2)) (fun ρ W hR hh => ?_) ?_
  · clear hF
    have h9 : ρ 9 = .agg #[.int .i64 0, .int .i64 0, .int .i64 0, .int .i64 0, .int .i64 0, .int .i64 0, .int .i64 0, .int .i64 0, .int .i64 0, .int .i64 0, .int .i64 0, .int .i64 0, .int .i64 0, .int .i64 0, .int .i64 0, .int .i64 0] := hh.1
    have h13 : ρ 13 = .agg (ints .i64 l1) := hh.2.1
    simp only [guarded, relyAt]
    go_simp
    exact ⟨Ext.refl _, (HA.out _).mono fun _ _ h => h.const⟩
  refine step_const (.agg #[.int .i64 1, .int .i64 0, .int .i64 0, .int .i64 0, .int .i64 0, .int .i64 0, .int .i64 0, .int .i64 0, .int .i64 0, .int .i64 0, .int .i64 0, .int .i64 0, .int .i64 0, .int .i64 0, .int .i64 0, .int .i64 0]) (fun ρ W hR hh => ?_) ?_
  · have h3 : ρ 3 = .pointer (some ⟨w.heap.size + 1, 0, none⟩) := Eq.trans hh.1 f3
    exact relyAt_load_row 32 (.tmp _) rfl _ h3 32 _ (0, 0) _ (HO.out W hR) Try.underlying32 rfl hi1
  refine step_const (.agg (ints .i64 res)) (fun ρ W hR hh => ?_) ?_
  · clear hF
    have h14 : ρ 14 = .agg (ints .i64 l2) := hh.1
    have h15 : ρ 15 = .agg #[.int .i64 1, .int .i64 0, .int .i64 0, .int .i64 0, .int .i64 0, .int .i64 0, .int .i64 0, .int .i64 0, .int .i64 0, .int .i64 0, .int .i64 0, .int .i64 0, .int .i64 0, .int .i64 0, .int .i64 0, .int .i64 0] := hh.2.1
    simp only [guarded, relyAt]
    go_simp
    exact ⟨Ext.refl _, (HB.out _).mono fun _ _ h => h.const⟩
  simp only [List.cons_append, List.nil_append]
  refine hF.out fun W hR => ?_
  simp only [List.take_succ_cons, List.take_zero, List.drop_succ_cons, List.drop_zero, fin, forall_eq, Act.put, List.setIfInBounds_toArray, List.set_cons_zero, List.set_cons_succ]
  clear hF
  have hA' := row_ext (row_ext hA (ext_drew _)) hR
  have he' := Ext.trans (Ext.trans he (ext_drew _)) hR
  go_wp2_with first
    | (with_reducible show wpList _ _ _ ((⟨_, .store 32 _ _, _, _, _, _⟩ : Oper) :: _) _ _
       refine wpList_store_row rfl 32 _ _ rfl w.heap.size _ rfl rfl 32 _ hA' (infoL _ hrl) (by rw [hbs, ints_size, hrl]) (ints_one _ _) ?_)
  exact bodyPost_ret (results_cell_row (p := 2) rfl _ _ w.heap.size 32 _ (0, 0) _ rfl (setRow_heap _ _ _ _ _ _ hA') Try.underlying32 rfl (infoL _ hrl)) rfl ⟨rfl, ext_setRow he' (Nat.le_refl _) _⟩
end Go.Proofs.Ytaojnmjmmfdfjaa.Field
