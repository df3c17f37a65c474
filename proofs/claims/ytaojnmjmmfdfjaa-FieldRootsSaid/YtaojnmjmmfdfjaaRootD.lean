/- The document's half. -/
import Derived.Test.YtaojnmjmmfdfjaaRootA
namespace Go.Proofs.Ytaojnmjmmfdfjaa.Field
open Go Go.RowKit
open Go.Proofs.Ytaojnmjmmfdfjaa.Rely
set_option linter.unusedVariables false

theorem limb_half (n : Int) (k : Nat) : limb (n / 2) k = limb n k / 2 + limb n (k + 1) % 2 * 32768 := by
  unfold limb
  rw [Int.pow_succ, ← Int.ediv_ediv_of_nonneg (Int.le_of_lt (B_pos k)), Int.ediv_ediv_of_nonneg (by decide), Int.mul_comm 2, ← Int.ediv_ediv_of_nonneg (Int.le_of_lt (B_pos k))]
  generalize n / 65536 ^ k = q
  omega
theorem limb_top (n : Int) (h : 0 ≤ n ∧ n < big) : limb n 16 = 0 := by
  unfold limb
  rw [big_pow, Int.ediv_eq_zero_of_lt h.1 h.2]
  rfl
theorem lHalf (n : Int) (hn : 0 ≤ n ∧ n < big) (w : World) : Calls Try.prog 58 #[lnum n] w (Ret w (lnum (n / 2))) := by
  unfold lnum
  go_enter Try.func58, Try.ntmps58
  go_wp2_with fail
  go_loopw [3] (fun i wr => ∃ k : Nat, k ≤ 16 ∧ i = .int .i64 k ∧ Ext w wr ∧ wr.heap[w.heap.size]? = some (.cells (ints .i64 (mix 16 (limb (n / 2)) (limb n) k)) 32) ∧
    ∃ b, b.size = 16 ∧ wr.heap[w.heap.size + 1]? = some (.cells b 32)) (fun i _ => 16 - (intOf i).toNat)
  case atStart => exact ⟨0, by omega, rfl, Ext.trans (ext_alloc _ _) (ext_alloc _ _), by rw [mix_none]; exact alloc2_1 _ _ _, _, rfl, alloc2_2 _ _ _⟩
  case round =>
    obtain ⟨k, hk, rfl, he, hA, b, hbs, hB⟩ := hrel
    by_cases hlt : k < 16
    · have hX : (ints .i64 (mix 16 (limb (n / 2)) (limb n) k))[k]? = some (.int .i64 (limb n k)) := by rw [ints_get _ _ _ (by rw [mix_len]; exact hlt), mix_nth _ _ _ _ _ hlt, if_neg (by omega)]
      have hS : (ints .i64 (mix 16 (limb (n / 2)) (limb n) k)).setIfInBounds k (.int .i64 (limb (n / 2) k)) = ints .i64 (mix 16 (limb (n / 2)) (limb n) (k + 1)) := by rw [ints_set, mix_set _ _ _ _ hlt]
      have hh := limb_half n k
      have b1 := limb_range n k
      have hcx := row_cell hA hX
      have hfx := row_frozen hA k
      by_cases hk15 : k < 15
      · have hY : (ints .i64 (mix 16 (limb (n / 2)) (limb n) k))[k + 1]? = some (.int .i64 (limb n (k + 1))) := by rw [ints_get _ _ _ (by rw [mix_len]; omega), mix_nth _ _ _ _ _ (by omega), if_neg (by omega)]
        have b2 := limb_range n (k + 1)
        have hcy := row_cell hA hY
        have HH := Lib.hid hh
        clear hh
        generalize hlx : limb n k = lx at *
        generalize hly : limb n (k + 1) = ly at *
        have w1 : lx.tdiv 2 = lx / 2 := Int.tdiv_eq_ediv_of_nonneg (by omega)
        have w2 : IntKind.i64.wrap (lx / 2) = lx / 2 := IntWalk.i64_in _ (by omega)
        have w3 : ly.tmod 2 = ly % 2 := Int.tmod_eq_emod_of_nonneg (by omega)
        have w4 : IntKind.i64.wrap (ly % 2) = ly % 2 := IntWalk.i64_in _ (by omega)
        have w5 : IntKind.i64.wrap (ly % 2 * 32768) = ly % 2 * 32768 := IntWalk.i64_in _ (by omega)
        have w6 : IntKind.i64.wrap (lx / 2 + ly % 2 * 32768) = lx / 2 + ly % 2 * 32768 := IntWalk.i64_in _ (by omega)
        have q1 : IntKind.i64.wrap ((k : Int) + 1) = (k : Int) + 1 := IntWalk.i64_in _ (by omega)
        have q2 : ((k : Int) + 1).toNat = k + 1 := by omega
        have q3 : (0 : Int) ≤ (k : Int) + 1 := by omega
        have q4 : (k : Int) + 1 < 16 := by omega
        have q5 : (k : Int) < 15 := by omega
        go_wp2
        exact ⟨⟨k + 1, by omega, by go_num, ext_set he (Nat.le_refl _) _ _, (set_row _ _ hA).trans (by rw [← HH.out, hS]), b, hbs, (set_row_other _ _ (by omega)).trans hB⟩, by simp [intOf]; omega⟩
      · obtain rfl : k = 15 := by omega
        rw [limb_top n hn] at hh
        have HH := Lib.hid hh
        clear hh
        generalize hlx : limb n 15 = lx at *
        have w1 : lx.tdiv 2 = lx / 2 := Int.tdiv_eq_ediv_of_nonneg (by omega)
        have w2 : IntKind.i64.wrap (lx / 2) = lx / 2 := IntWalk.i64_in _ (by omega)
        go_wp2
        exact ⟨⟨16, by omega, by go_num, ext_set he (Nat.le_refl _) _ _, (set_row _ _ hA).trans (by
          have e : limb (n / 2) 15 = lx / 2 := by
            have := HH.out
            omega
          first
            | rw [← e, hS]
            | rw [w2, ← e, hS]), b, hbs, (set_row_other _ _ (by omega)).trans hB⟩, by simp [intOf]⟩
    · obtain rfl : k = 16 := by omega
      have hi := infoL _ (mix_len 16 (limb (n / 2)) (limb n) 16)
      go_wp2_with first
        | (with_reducible show wpList _ _ _ ((⟨_, .load 32 _, _, _, _, _⟩ : Oper) :: _) _ _
           refine wpList_load_row rfl 32 _ rfl w.heap.size rfl 32 _ (0, 0) _ hA Try.underlying32 rfl hi ?_)
        | (with_reducible show wpList _ _ _ ((⟨_, .store 32 _ _, _, _, _, _⟩ : Oper) :: _) _ _
           refine wpList_store_row rfl 32 _ _ rfl (w.heap.size + 1) _ rfl rfl 32 _ hB hi (by rw [hbs, ints_size, mix_len]) (ints_one _ _) ?_)
      exact bodyPost_ret (results_cell_row (p := 2) rfl _ _ (w.heap.size + 1) 32 _ (0, 0) _ rfl (setRow_heap _ _ _ _ _ _ hB) Try.underlying32 rfl hi) rfl ⟨by rw [mix_full _ _ _ _ (Nat.le_refl _)]; rfl, ext_setRow he (by omega) _⟩
end Go.Proofs.Ytaojnmjmmfdfjaa.Field
