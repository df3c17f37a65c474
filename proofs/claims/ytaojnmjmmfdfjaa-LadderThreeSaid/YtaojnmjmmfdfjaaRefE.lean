/- The document's numbers: differences, products, bytes. -/
import Derived.Test.YtaojnmjmmfdfjaaRefD
namespace Go.Proofs.Ytaojnmjmmfdfjaa.Field
open Go Go.RowKit
open Go.Proofs.Ytaojnmjmmfdfjaa.Rely
set_option linter.unusedVariables false

theorem lSub (x y : Int) (hx : 0 ≤ x ∧ x < big) (hy : 0 ≤ y ∧ y ≤ p) (w : World) : Calls Try.prog 28 #[lnum x, lnum y] w (Ret w (lnum ((x - y) % p))) := by
  have hp0 : (0 : Int) ≤ p ∧ p < big := by decide
  have HM : Hid (∀ w, Calls Try.prog 54 #[lnum p, lnum y] w (Ret w (lnum (p - y)))) := Lib.hid fun w => minus p y hy.1 hy.2 hp0.2 w
  have HA : Hid (∀ w, Calls Try.prog 26 #[lnum x, lnum (p - y)] w (Ret w (lnum ((x - y) % p)))) := Lib.hid fun w => by
    have := lAdd x (p - y) hx (by omega) w
    rw [show (x + (p - y)) % p = (x - y) % p by rw [show x + (p - y) = x - y + p by omega, Int.add_emod_right]] at this
    exact this
  have HP : Hid (∀ w, Calls Try.prog 55 #[] w (Ret w (lnum p))) := Lib.hid prime
  unfold lnum at HM HA HP ⊢
  have hxl := lims_len x
  have hyl := lims_len y
  have hrl := lims_len ((x - y) % p)
  generalize lims ((x - y) % p) = res at *
  generalize lims (p - y) = l1 at *
  generalize lims x = lx at *
  generalize lims y = ly at *
  generalize lims p = lp at *
  clear hx hy hp0
  go_enter Try.func28, Try.ntmps28
  go_wp2_with fail
  generalize hW : ((w.alloc (.cells (ints .i64 lx) 32)).alloc (.cells (ints .i64 ly) 32)).alloc _ = W0
  have hA : W0.heap[w.heap.size]? = some (.cells (ints .i64 lx) 32) := by rw [← hW]; exact alloc3_fst _ _ _ _
  have hB : W0.heap[w.heap.size + 1]? = some (.cells (ints .i64 ly) 32) := by rw [← hW]; exact alloc3_mid _ _ _ _
  have hC : ∃ b : Array Value, b.size = 16 ∧ W0.heap[w.heap.size + 1 + 1]? = some (.cells b 32) := by rw [← hW]; exact ⟨_, rfl, alloc3_new _ _ _ _⟩
  obtain ⟨b, hbs, hC⟩ := hC
  have he : Ext w W0 := by rw [← hW]; exact ext3 _ _ _ _
  clear hW
  refine wp_region_rely Ext 4 10 [⟨none, [(2, none)]⟩, ⟨none, []⟩, ⟨none, [(3, none)]⟩, ⟨none, [(6, some 1), (7, some 2)]⟩] (by kernel_rfl) (by kernel_rfl) rfl Ext.refl Ext.trans (fun F r0 hr hF => ?_)
  have f2 : r0 2 = .pointer (some ⟨w.heap.size, 0, none⟩) := by rw [hr]; rfl
  have f3 : r0 3 = .pointer (some ⟨w.heap.size + 1, 0, none⟩) := by rw [hr]; rfl
  clear hr
  simp only [List.take_succ_cons, List.take_zero]
  refine step_const (.agg (ints .i64 lx)) (fun ρ W hR hh => ?_) ?_
  · exact relyAt_load_row 32 (.tmp _) rfl _ (Eq.trans hh.1 f2) 32 _ (0, 0) _ (row_ext (row_ext hA (ext_drew _)) hR) Try.underlying32 rfl (infoL _ hxl)
  refine step_const (.agg (ints .i64 lp)) (fun ρ W hR hh => ?_) ?_
  · simp only [guarded, relyAt]
    go_simp
    exact ⟨Ext.refl _, (HP.out _).mono fun _ _ h => h.const⟩
  refine step_const (.agg (ints .i64 ly)) (fun ρ W hR hh => ?_) ?_
  · exact relyAt_load_row 32 (.tmp _) rfl _ (Eq.trans hh.1 f3) 32 _ (0, 0) _ (row_ext (row_ext hB (ext_drew _)) hR) Try.underlying32 rfl (infoL _ hyl)
  refine step_const (.agg (ints .i64 l1)) (fun ρ W hR hh => ?_) ?_
  · have h6 : ρ 6 = .agg (ints .i64 lp) := hh.1
    have h7 : ρ 7 = .agg (ints .i64 ly) := hh.2.1
    simp only [guarded, relyAt]
    go_simp
    exact ⟨Ext.refl _, (HM.out _).mono fun _ _ h => h.const⟩
  simp only [List.cons_append, List.nil_append]
  refine hF.out fun W hR => ?_
  simp only [List.take_succ_cons, List.take_zero, List.drop_succ_cons, List.drop_zero, fin, forall_eq, Act.put, List.setIfInBounds_toArray, List.set_cons_zero, List.set_cons_succ]
  clear hF
  go_wp2_with first
    | (go_at_call 26
       (with_reducible refine (HA.out _).mono ?_)
       rintro e w' ⟨rfl, hw⟩
       have hC' := row_ext (row_ext (row_ext hC (ext_drew _)) hR) hw
       have he' := Ext.trans (Ext.trans (Ext.trans he (ext_drew _)) hR) hw)
    | (with_reducible show wpList _ _ _ ((⟨_, .store 32 _ _, _, _, _, _⟩ : Oper) :: _) _ _
       refine wpList_store_row rfl 32 _ _ rfl (w.heap.size + 1 + 1) _ rfl rfl 32 _ hC' (infoL _ hrl) (by rw [hbs, ints_size, hrl]) (ints_one _ _) ?_)
  exact bodyPost_ret (results_cell_row (p := 4) rfl _ _ (w.heap.size + 1 + 1) 32 _ (0, 0) _ rfl (setRow_heap _ _ _ _ _ _ hC') Try.underlying32 rfl (infoL _ hrl)) rfl ⟨rfl, ext_setRow he' (by omega) _⟩

/-! ### Bytes -/
theorem byte_low (n : Int) (k : Nat) : limb n k % 256 = byteAt n (2 * k) := by
  unfold limb byteAt
  rw [Int.pow_mul, show (256 : Int) ^ 2 = 65536 by decide]
  omega
theorem byte_high (n : Int) (k : Nat) : limb n k / 256 = byteAt n (2 * k + 1) := by
  unfold limb byteAt
  rw [Int.pow_succ, Int.pow_mul, show (256 : Int) ^ 2 = 65536 by decide, ← Int.ediv_ediv_of_nonneg (Int.le_of_lt (B_pos k))]
  omega
theorem lBytes (n : Int) (w : World) : Calls Try.prog 49 #[lnum n] w (Ret w (.agg (ints .u8 (bytesOf n)))) := by
  unfold lnum
  go_enter Try.func49, Try.ntmps49
  go_wp2_with fail
  go_loopw [4] (fun i wr => ∃ k : Nat, k ≤ 16 ∧ i = .int .i64 k ∧ Ext w wr ∧ wr.heap[w.heap.size]? = some (.cells (ints .i64 (lims n)) 32) ∧
    (∃ b, b.size = 32 ∧ wr.heap[w.heap.size + 1]? = some (.cells b 23)) ∧ wr.heap[w.heap.size + 1 + 1]? = some (.cells (ints .u8 (part n (2 * k))) 23)) (fun i _ => 16 - (intOf i).toNat)
  case atStart => exact ⟨0, by omega, rfl, ext3 _ _ _ _, alloc3_fst _ _ _ _, ⟨_, rfl, alloc3_mid _ _ _ _⟩, alloc3_new _ _ _ _⟩
  case round =>
    obtain ⟨k, hk, rfl, he, hA, ⟨b, hbs, hB⟩, hC⟩ := hrel
    by_cases hlt : k < 16
    · have hX : (ints .i64 (lims n))[k]? = some (.int .i64 (limb n k)) := by rw [ints_get _ _ _ (by rw [lims_len]; exact hlt), lims_nth _ _ hlt]
      have g1 := part_get n (2 * k) (by omega)
      have s1 := part_set n (2 * k) (by omega)
      have g2 := part_get n (2 * k + 1) (by omega)
      have s2 := part_set n (2 * k + 1) (by omega)
      have e1 := byte_low n k
      have e2 := byte_high n k
      have b1 := limb_range n k
      generalize hlx : limb n k = lx at *
      have q1 : IntKind.i64.wrap (2 * (k : Int)) = 2 * (k : Int) := IntWalk.i64_in _ (by omega)
      have q2 : (2 * (k : Int)).toNat = 2 * k := by omega
      have q3 : (0 : Int) ≤ 2 * (k : Int) := by omega
      have q4 : 2 * (k : Int) < 32 := by omega
      have q5 : IntKind.i64.wrap (2 * (k : Int) + 1) = 2 * (k : Int) + 1 := IntWalk.i64_in _ (by omega)
      have q6 : (2 * (k : Int) + 1).toNat = 2 * k + 1 := by omega
      have q7 : (0 : Int) ≤ 2 * (k : Int) + 1 := by omega
      have q8 : 2 * (k : Int) + 1 < 32 := by omega
      have w2 : lx.tmod 256 = lx % 256 := Int.tmod_eq_emod_of_nonneg (by omega)
      have w3 : IntKind.i64.wrap (lx % 256) = lx % 256 := IntWalk.i64_in _ (by omega)
      have w4 : lx.tdiv 256 = lx / 256 := Int.tdiv_eq_ediv_of_nonneg (by omega)
      have w5 : IntKind.i64.wrap (lx / 256) = lx / 256 := IntWalk.i64_in _ (by omega)
      have w6 : IntKind.u8.wrap (lx % 256) = lx % 256 := by rw [IntKind.wrap_u8]; omega
      have w7 : IntKind.u8.wrap (lx / 256) = lx / 256 := by rw [IntKind.wrap_u8]; omega
      have hcx := row_cell hA hX
      have hcy := row_cell hC g1
      have hfy := row_frozen hC (2 * k)
      have hC2 := set_row (2 * k) (.int .u8 (lx % 256)) hC
      rw [e1, s1] at hC2
      rw [← e1] at hC2
      have hA2 := (set_row_other (W := wr) (2 * k) (.int .u8 (lx % 256)) (show w.heap.size ≠ w.heap.size + 1 + 1 by omega)).trans hA
      have hB2 := (set_row_other (W := wr) (2 * k) (.int .u8 (lx % 256)) (show w.heap.size + 1 ≠ w.heap.size + 1 + 1 by omega)).trans hB
      have he2 := ext_set he (show w.heap.size ≤ w.heap.size + 1 + 1 by omega) (2 * k) (.int .u8 (lx % 256))
      generalize hwz : wr.setCell ⟨w.heap.size + 1 + 1, 2 * k, none⟩ (.int .u8 (lx % 256)) = wz at *
      have hcx2 := row_cell hA2 hX
      have hcy2 := row_cell hC2 g2
      have hfy2 := row_frozen hC2 (2 * k + 1)
      have e1' := Lib.hid e1
      have e2' := Lib.hid e2
      clear e1 e2 s1
      go_wp2
      exact ⟨⟨k + 1, by omega, by go_num, ext_set he2 (by omega) _ _, (set_row_other _ _ (by omega)).trans hA2, ⟨b, hbs, (set_row_other _ _ (by omega)).trans hB2⟩, (set_row _ _ hC2).trans (by rw [e2'.out, s2]; rfl)⟩, by simp [intOf]; omega⟩
    · obtain rfl : k = 16 := by omega
      have hi : (Try.prog.info? 23).map (·.size) = some (ints .u8 (bytesOf n)).size := by rw [infoKey, ints_size]; rfl
      have hbl : b.size = (ints .u8 (bytesOf n)).size := by rw [hbs, ints_size]; rfl
      have hC : wr.heap[w.heap.size + 1 + 1]? = some (.cells (ints .u8 (bytesOf n)) 23) := hC
      go_wp2_with first
        | (with_reducible show wpList _ _ _ ((⟨_, .load 23 _, _, _, _, _⟩ : Oper) :: _) _ _
           refine wpList_load_row rfl 23 _ rfl (w.heap.size + 1 + 1) rfl 23 (ints .u8 (bytesOf n)) (0, 0) _ hC Try.underlying23 rfl hi ?_)
        | (with_reducible show wpList _ _ _ ((⟨_, .store 23 _ _, _, _, _, _⟩ : Oper) :: _) _ _
           refine wpList_store_row rfl 23 _ _ rfl (w.heap.size + 1) (ints .u8 (bytesOf n)) rfl rfl 23 _ hB hi hbl (ints_one _ _) ?_)
      exact bodyPost_ret (results_cell_row (p := 2) rfl _ _ (w.heap.size + 1) 23 (ints .u8 (bytesOf n)) (0, 0) _ rfl (setRow_heap _ _ _ _ _ _ hB) Try.underlying23 rfl hi) rfl ⟨rfl, ext_setRow he (by omega) _⟩
end Go.Proofs.Ytaojnmjmmfdfjaa.Field
