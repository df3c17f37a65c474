/- The document's numbers: products. -/
import Derived.Test.YtaojnmjmmfdfjaaRefE
namespace Go.Proofs.Ytaojnmjmmfdfjaa.Field
open Go Go.RowKit
open Go.Proofs.Ytaojnmjmmfdfjaa.Rely
set_option linter.unusedVariables false

theorem pvf_set (xs : List Int) (i : Nat) (d : Int) (hi : i < xs.length) : ∀ n, pvf (nth (xs.set i (nth xs i + d))) n = pvf (nth xs) n + (if i < n then d * 65536 ^ i else 0)
  | 0 => by simp [pvf]
  | n + 1 => by
    rw [pvf, pvf, pvf_set xs i d hi n]
    by_cases h : i = n
    · subst h
      rw [nth_set_eq _ _ _ hi, if_neg (by omega), if_pos (by omega), Int.add_mul]
      omega
    · rw [nth_set_ne _ _ _ _ h]
      by_cases h2 : i < n
      · rw [if_pos h2, if_pos (by omega)]; omega
      · rw [if_neg h2, if_neg (by omega)]; omega
theorem limb_prod (x y : Int) (i j : Nat) : 0 ≤ limb x i * limb y j ∧ limb x i * limb y j ≤ 4294836225 := by
  have h1 := limb_range x i
  have h2 := limb_range y j
  refine ⟨Int.mul_nonneg h1.1 h2.1, ?_⟩
  have := Int.mul_le_mul (show limb x i ≤ 65535 by omega) (show limb y j ≤ 65535 by omega) h2.1 (by decide)
  omega
/-- what lies in the places while a product is reckoned -/
def MulRow (x y : Int) (i j : Nat) (xs : List Int) : Prop :=
  xs.length = 32 ∧ (∀ m, m < 32 → 0 ≤ nth xs m ∧ nth xs m ≤ 4294836225 * (16 * (i : Int) + j)) ∧ pvf (nth xs) 32 = pvf (limb x) i * pvf (limb y) 16 + limb x i * 65536 ^ i * pvf (limb y) j
theorem nth_rep (n m : Nat) : nth (List.replicate n (0 : Int)) m = 0 := by
  unfold nth
  rw [List.getD_eq_getElem?_getD, List.getElem?_replicate]
  split <;> rfl
theorem mulRow_start (x y : Int) : MulRow x y 0 0 (List.replicate 32 0) := by
  refine ⟨rfl, fun m hm => ?_, ?_⟩
  · rw [nth_rep]; simp
  · have : pvf (nth (List.replicate 32 (0 : Int))) 32 = 0 := by
      rw [pvf_congr (h := fun _ => 0) (n := 32) (fun i hi => nth_rep 32 i) 32 (Nat.le_refl _)]
      exact pvf_zero 32
    rw [this]; simp [pvf]
theorem mulRow_next (x y : Int) (i : Nat) (xs : List Int) (h : MulRow x y i 16 xs) : MulRow x y (i + 1) 0 xs := by
  refine ⟨h.1, fun m hm => ?_, ?_⟩
  · have := h.2.1 m hm
    omega
  · rw [h.2.2]
    show _ = (pvf (limb x) i + limb x i * 65536 ^ i) * pvf (limb y) 16 + limb x (i + 1) * 65536 ^ (i + 1) * 0
    rw [Int.add_mul, Int.mul_zero, Int.add_zero]
theorem mulRow_step (x y : Int) (i j : Nat) (xs : List Int) (hi : i < 16) (hj : j < 16) (h : MulRow x y i j xs) : MulRow x y i (j + 1) (xs.set (i + j) (nth xs (i + j) + limb x i * limb y j)) := by
  have hp := limb_prod x y i j
  refine ⟨by simp [h.1], fun m hm => ?_, ?_⟩
  · have hm' := h.2.1 m hm
    by_cases e : i + j = m
    · rw [← e] at hm' ⊢
      rw [nth_set_eq _ _ _ (by rw [h.1]; omega)]
      omega
    · rw [nth_set_ne _ _ _ _ e]
      omega
  · rw [pvf_set _ _ _ (by rw [h.1]; omega), h.2.2, if_pos (by omega), Int.pow_add]
    show _ = pvf (limb x) i * pvf (limb y) 16 + limb x i * 65536 ^ i * (pvf (limb y) j + limb y j * 65536 ^ j)
    generalize pvf (limb x) i * pvf (limb y) 16 = a
    generalize limb x i = b
    generalize limb y j = c
    generalize pvf (limb y) j = d
    generalize (65536 : Int) ^ i = e
    generalize (65536 : Int) ^ j = f
    grind

set_option maxHeartbeats 1000000 in
theorem lMul (x y : Int) (hx : 0 ≤ x ∧ x < big) (hy : 0 ≤ y ∧ y < big) (w : World) : Calls Try.prog 31 #[lnum x, lnum y] w (Ret w (lnum (x * y % p))) := by
  have HC : Hid (∀ xs, MulRow x y 16 0 xs → ∀ w, Calls Try.prog 51 #[.agg (ints .i64 xs)] w (Ret w (lnum (x * y % p)))) := Lib.hid fun xs h w => by
    have hv : pvf (nth xs) 32 = x * y := by
      rw [h.2.2, limb_val x hx, limb_val y hy]
      simp [pvf]
    have h1 : 0 ≤ x * y := Int.mul_nonneg hx.1 hy.1
    have h2 : x * y < big * big := by
      have a1 : x * y ≤ x * big := Int.mul_le_mul_of_nonneg_left (Int.le_of_lt hy.2) hx.1
      have a2 : x * big < big * big := Int.mul_lt_mul_of_pos_right hx.2 (by decide)
      exact Int.lt_of_le_of_lt a1 a2
    have := small xs h.1 (fun i hi => by
      have := h.2.1 i hi
      unfold M
      omega) (by rw [hv, pow32]; exact ⟨h1, h2⟩) w
    rw [hv] at this
    exact this
  unfold lnum at HC ⊢
  have hrl := lims_len (x * y % p)
  generalize lims (x * y % p) = res at *
  go_enter Try.func31, Try.ntmps31
  go_wp2_with fail
  go_loopw [6] (fun i wr => ∃ k : Nat, k ≤ 16 ∧ i = .int .i64 k ∧ Ext w wr ∧ wr.heap[w.heap.size]? = some (.cells (ints .i64 (lims x)) 32) ∧ wr.heap[w.heap.size + 1]? = some (.cells (ints .i64 (lims y)) 32) ∧
    (∃ b, b.size = 16 ∧ wr.heap[w.heap.size + 1 + 1]? = some (.cells b 32)) ∧ ∃ xs, MulRow x y k 0 xs ∧ wr.heap[w.heap.size + 1 + 1 + 1]? = some (.cells (ints .i64 xs) 70)) (fun i _ => 16 - (intOf i).toNat)
  case atStart => exact ⟨0, by omega, rfl, ext4 _ _ _ _ _, alloc4_1 _ _ _ _ _, alloc4_2 _ _ _ _ _, ⟨_, rfl, alloc4_3 _ _ _ _ _⟩, _, mulRow_start x y, alloc4_4 _ _ _ _ _⟩
  case round =>
    obtain ⟨i, hi, rfl, he, hA, hB, ⟨b, hbs, hC⟩, xs, hM, hD⟩ := hrel
    by_cases hlt : i < 16
    · have HD := Lib.hid hM
      clear hM
      go_wp2
      go_loopw [7] (fun j wq => ∃ k : Nat, k ≤ 16 ∧ j = .int .i64 k ∧ Ext w wq ∧ wq.heap[w.heap.size]? = some (.cells (ints .i64 (lims x)) 32) ∧ wq.heap[w.heap.size + 1]? = some (.cells (ints .i64 (lims y)) 32) ∧
        wq.heap[w.heap.size + 1 + 1]? = some (.cells b 32) ∧ ∃ xs, MulRow x y i k xs ∧ wq.heap[w.heap.size + 1 + 1 + 1]? = some (.cells (ints .i64 xs) 70)) (fun j _ => 16 - (intOf j).toNat)
      case atStart => exact ⟨0, by omega, rfl, he, hA, hB, hC, xs, HD.out, hD⟩
      case round =>
        clear hA hB hC hD he HD
        obtain ⟨k, hk, rfl, he, hA, hB, hC, xs, hM, hD⟩ := hrel
        by_cases hk16 : k < 16
        · have hX : (ints .i64 (lims x))[i]? = some (.int .i64 (limb x i)) := by rw [ints_get _ _ _ (by rw [lims_len]; exact hlt), lims_nth _ _ hlt]
          have hY : (ints .i64 (lims y))[k]? = some (.int .i64 (limb y k)) := by rw [ints_get _ _ _ (by rw [lims_len]; exact hk16), lims_nth _ _ hk16]
          have hZ : (ints .i64 xs)[i + k]? = some (.int .i64 (nth xs (i + k))) := ints_get _ _ _ (by rw [hM.1]; omega)
          have hN := Lib.hid (mulRow_step x y i k xs hlt hk16 hM)
          have hS : (ints .i64 xs).setIfInBounds (i + k) (.int .i64 (nth xs (i + k) + limb x i * limb y k)) = ints .i64 (xs.set (i + k) (nth xs (i + k) + limb x i * limb y k)) := by rw [ints_set]
          have b1 := hM.2.1 (i + k) (by omega)
          have b2 := limb_prod x y i k
          clear hM
          generalize hzz : nth xs (i + k) = zz at *
          generalize hlx : limb x i = lx at *
          generalize hly : limb y k = ly at *
          have w1 : IntKind.i64.wrap (lx * ly) = lx * ly := IntWalk.i64_in _ (by omega)
          have w2 : IntKind.i64.wrap (zz + lx * ly) = zz + lx * ly := IntWalk.i64_in _ (by omega)
          have q1 : IntKind.i64.wrap ((i : Int) + (k : Int)) = (i : Int) + (k : Int) := IntWalk.i64_in _ (by omega)
          have q2 : ((i : Int) + (k : Int)).toNat = i + k := by omega
          have q3 : (0 : Int) ≤ (i : Int) + (k : Int) := by omega
          have q4 : (i : Int) + (k : Int) < 32 := by omega
          have q5 : (i : Int) < 16 := by omega
          have HX : Hid (∀ W, Ext wr.drew W → W.cell? ⟨w.heap.size, i, none⟩ = some (.int .i64 lx)) := Lib.hid fun W hR => row_cell (row_ext (row_ext hA (ext_drew _)) hR) hX
          have HY : Hid (∀ W, Ext wr.drew W → W.cell? ⟨w.heap.size + 1, k, none⟩ = some (.int .i64 ly)) := Lib.hid fun W hR => row_cell (row_ext (row_ext hB (ext_drew _)) hR) hY
          have HZ : Hid (∀ W, Ext wr.drew W → W.cell? ⟨w.heap.size + 1 + 1 + 1, i + k, none⟩ = some (.int .i64 zz)) := Lib.hid fun W hR => row_cell (row_ext (row_ext hD (ext_drew _)) hR) hZ
          clear b1 b2
          go_wp2
          refine wp_region_rely Ext 17 35 [⟨none, [(6, none)]⟩, ⟨none, [(7, none)]⟩, ⟨none, [(16, some 0), (17, some 1)]⟩, ⟨none, [(6, none)]⟩, ⟨none, [(7, none)]⟩, ⟨none, [(19, some 3), (20, some 4)]⟩, ⟨none, [(5, none), (21, some 5)]⟩, ⟨none, [(22, some 6)]⟩, ⟨none, [(6, none)]⟩, ⟨none, [(2, none), (24, some 8)]⟩, ⟨none, [(25, some 9)]⟩, ⟨none, [(7, none)]⟩, ⟨none, [(3, none), (27, some 11)]⟩, ⟨none, [(28, some 12)]⟩, ⟨none, [(26, some 10), (29, some 13)]⟩, ⟨none, [(23, some 7), (30, some 14)]⟩, ⟨none, [(5, none), (18, some 2)]⟩] (by kernel_rfl) (by kernel_rfl) rfl Ext.refl Ext.trans (fun F r0 hr hF => ?_)
          have f2 : r0 2 = .pointer (some ⟨w.heap.size, 0, none⟩) := by rw [hr]; rfl
          have f3 : r0 3 = .pointer (some ⟨w.heap.size + 1, 0, none⟩) := by rw [hr]; rfl
          have f5 : r0 5 = .pointer (some ⟨w.heap.size + 1 + 1 + 1, 0, none⟩) := by rw [hr]; rfl
          have f6 : r0 6 = .int .i64 i := by rw [hr]; rfl
          have f7 : r0 7 = .int .i64 k := by rw [hr]; rfl
          clear hr
          simp only [List.take_succ_cons, List.take_zero]
          repeat
            (try simp only [List.cons_append, List.nil_append]
             apply step_const
             (intro ρ W hR hh
              have hcx := HX.out W hR
              have hcy := HY.out W hR
              have hcz := HZ.out W hR
              simp only [Holds, List.getD_cons_zero, List.getD_cons_succ, f2, f3, f5, f6, f7] at hh
              simp only [guarded, relyAt]
              go_simp
              first
                | exact ⟨Ext.refl _, rfl⟩
                | exact Ext.refl _))
          simp only [List.cons_append, List.nil_append]
          refine hF.out fun W hRW => ?_
          simp only [List.take_succ_cons, List.take_zero, List.drop_succ_cons, List.drop_zero, fin, forall_eq, Act.put, List.setIfInBounds_toArray, List.set_cons_zero, List.set_cons_succ]
          clear HX HY HZ hF f2 f3 f5 f6 f7
          have hE := Ext.trans (ext_drew wr) hRW
          have hA' := row_ext hA hE
          have hB' := row_ext hB hE
          have hC' := row_ext hC hE
          have hD' := row_ext hD hE
          have hcx := row_cell hD' hZ
          have hfx := row_frozen hD' (i + k)
          go_wp2
          exact ⟨⟨k + 1, by omega, by go_num, ext_set (Ext.trans he hE) (by omega) _ _, (set_row_other _ _ (by omega)).trans hA', (set_row_other _ _ (by omega)).trans hB', (set_row_other _ _ (by omega)).trans hC', _, hN.out, (set_row _ _ hD').trans (by rw [hS])⟩, by simp [intOf]; omega⟩
        · obtain rfl : k = 16 := by omega
          have hN := Lib.hid (mulRow_next x y i xs hM)
          clear hM
          go_wp2
          exact ⟨⟨i + 1, by omega, by go_num, he, hA, hB, ⟨b, hbs, hC⟩, xs, hN.out, hD⟩, by simp [intOf]; omega⟩
    · obtain rfl : i = 16 := by omega
      have HC' := Lib.hid (HC.out xs hM)
      have hi := info70 xs hM.1
      clear hM HC
      go_wp2_with first
        | (go_at_call 51
           (with_reducible refine (HC'.out _).mono ?_)
           rintro e w' ⟨rfl, hw⟩
           have hC' := row_ext hC hw)
        | (with_reducible show wpList _ _ _ ((⟨_, .load 70 _, _, _, _, _⟩ : Oper) :: _) _ _
           refine wpList_load_row rfl 70 _ rfl (w.heap.size + 1 + 1 + 1) rfl 70 _ (0, 0) _ hD Try.underlying70 rfl hi ?_)
        | (with_reducible show wpList _ _ _ ((⟨_, .store 32 _ _, _, _, _, _⟩ : Oper) :: _) _ _
           refine wpList_store_row rfl 32 _ _ rfl (w.heap.size + 1 + 1) _ rfl rfl 32 _ hC' (infoL _ hrl) (by rw [hbs, ints_size, hrl]) (ints_one _ _) ?_)
      exact bodyPost_ret (results_cell_row (p := 4) rfl _ _ (w.heap.size + 1 + 1) 32 _ (0, 0) _ rfl (setRow_heap _ _ _ _ _ _ hC') Try.underlying32 rfl (infoL _ hrl)) rfl ⟨rfl, ext_setRow (Ext.trans he hw) (by omega) _⟩
end Go.Proofs.Ytaojnmjmmfdfjaa.Field
