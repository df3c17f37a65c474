/- The inverse, of the program and of the document. -/
import Derived.Test.YtaojnmjmmfdfjaaPowB
import Derived.Test.YtaojnmjmmfdfjaaRefH
namespace Go.Proofs.Ytaojnmjmmfdfjaa.Field
open Go Go.RowKit
open Go.Proofs.Ytaojnmjmmfdfjaa.Rely
set_option linter.unusedVariables false

/-! ### Exponents -/
def expo (lo hi : Int) : List Int := lo :: (List.replicate 30 255 ++ [hi])
theorem expo_len (lo hi : Int) : (expo lo hi).length = 32 := by simp [expo]
theorem expo_bytes (lo hi : Int) (hl : 0 ≤ lo ∧ lo ≤ 255) (hh : 0 ≤ hi ∧ hi ≤ 255) : AreBytes (expo lo hi) := fun x hx => by
  simp only [expo, List.mem_cons, List.mem_append, List.mem_replicate, List.not_mem_nil, or_false] at hx
  omega
theorem expo_set (lo hi : Int) : ((ints .u8 (mix 32 (fun _ => 255) (fun _ => 0) 32)).setIfInBounds 0 (.int .u8 lo)).setIfInBounds 31 (.int .u8 hi) = ints .u8 (expo lo hi) := by
  rw [ints_set, ints_set]
  rfl
theorem exponent (lo hi : Int) (w : World) : Calls Try.prog 57 #[.int .u8 lo, .int .u8 hi] w (Ret w (.agg (ints .u8 (expo lo hi)))) := by
  go_enter Try.func57, Try.ntmps57
  go_wp2_with fail
  go_loopw [6, 7] (fun c i wr => ∃ k : Nat, k ≤ 32 ∧ i = .int .i64 k ∧ Ext w wr ∧ (∃ b, b.size = 32 ∧ wr.heap[w.heap.size]? = some (.cells b 23)) ∧
    wr.heap[w.heap.size + 1]? = some (.cells (ints .u8 (mix 32 (fun _ => 255) (fun _ => 0) k)) 23)) (fun _ i _ => 32 - (intOf i).toNat)
  case atStart => exact ⟨0, by omega, rfl, Ext.trans (ext_alloc _ _) (ext_alloc _ _), ⟨_, rfl, alloc2_1 _ _ _⟩, alloc2_2 _ _ _⟩
  case round =>
    obtain ⟨k, hk, rfl, he, ⟨b, hbs, hB⟩, hC⟩ := hrel
    by_cases hlt : k < 32
    · have hZ : (ints .u8 (mix 32 (fun _ => 255) (fun _ => 0) k))[k]? = some (.int .u8 0) := by rw [ints_get _ _ _ (by rw [mix_len]; omega), mix_nth _ _ _ _ _ (by omega), if_neg (by omega)]
      have hS : (ints .u8 (mix 32 (fun _ => 255) (fun _ => 0) k)).setIfInBounds k (.int .u8 255) = ints .u8 (mix 32 (fun _ => 255) (fun _ => 0) (k + 1)) := by rw [ints_set, ← mix_set _ _ _ _ (by omega)]
      have hcx := row_cell hC hZ
      have hfx := row_frozen hC k
      have q5 : (k : Int) < 32 := by omega
      go_wp2
      exact ⟨⟨k + 1, by omega, by go_num, ext_set he (by omega) _ _, ⟨b, hbs, (set_row_other _ _ (by omega)).trans hB⟩, (set_row _ _ hC).trans (by rw [hS])⟩, by simp [intOf]; omega⟩
    · obtain rfl : k = 32 := by omega
      have hX : (ints .u8 (mix 32 (fun _ => 255) (fun _ => 0) 32))[0]? = some (.int .u8 255) := by rw [ints_get _ _ _ (by rw [mix_len]; omega), mix_nth _ _ _ _ _ (by omega), if_pos (by omega)]
      have hY : (ints .u8 (mix 32 (fun _ => 255) (fun _ => 0) 32))[31]? = some (.int .u8 255) := by rw [ints_get _ _ _ (by rw [mix_len]; omega), mix_nth _ _ _ _ _ (by omega), if_pos (by omega)]
      have hcx := row_cell hC hX
      have hfx := row_frozen hC 0
      have hC2 := set_row 0 (.int .u8 lo) hC
      have hcy : (wr.setCell ⟨w.heap.size + 1, 0, none⟩ (.int .u8 lo)).cell? ⟨w.heap.size + 1, 31, none⟩ = some (.int .u8 255) := row_cell hC2 (by rw [Array.getElem?_setIfInBounds_ne (by decide)]; exact hY)
      have hfy := row_frozen hC2 31
      have hB2 := (set_row_other (W := wr) 0 (.int .u8 lo) (show w.heap.size ≠ w.heap.size + 1 by omega)).trans hB
      have he2 := ext_set he (show w.heap.size ≤ w.heap.size + 1 by omega) 0 (.int .u8 lo)
      generalize hwz : wr.setCell ⟨w.heap.size + 1, 0, none⟩ (.int .u8 lo) = wz at *
      have hC3 := set_row 31 (.int .u8 hi) hC2
      rw [expo_set] at hC3
      have hB3 := (set_row_other (W := wz) 31 (.int .u8 hi) (show w.heap.size ≠ w.heap.size + 1 by omega)).trans hB2
      have he3 := ext_set he2 (show w.heap.size ≤ w.heap.size + 1 by omega) 31 (.int .u8 hi)
      generalize hwy : wz.setCell ⟨w.heap.size + 1, 31, none⟩ (.int .u8 hi) = wy at *
      have hi' : (Try.prog.info? 23).map (·.size) = some (ints .u8 (expo lo hi)).size := by rw [infoKey, ints_size, expo_len]
      have hbl : b.size = (ints .u8 (expo lo hi)).size := by rw [hbs, ints_size, expo_len]
      clear hC hC2 hB hB2 he he2
      go_wp2_with first
        | (with_reducible show wpList _ _ _ ((⟨_, .load 23 _, _, _, _, _⟩ : Oper) :: _) _ _
           refine wpList_load_row rfl 23 _ rfl (w.heap.size + 1) rfl 23 _ (0, 0) _ hC3 Try.underlying23 rfl hi' ?_)
        | (with_reducible show wpList _ _ _ ((⟨_, .store 23 _ _, _, _, _, _⟩ : Oper) :: _) _ _
           refine wpList_store_row rfl 23 _ _ rfl w.heap.size _ rfl rfl 23 _ hB3 hi' hbl (ints_one _ _) ?_)
      exact bodyPost_ret (results_cell_row (p := 4) rfl _ _ w.heap.size 23 _ (0, 0) _ rfl (setRow_heap _ _ _ _ _ _ hB3) Try.underlying23 rfl hi') rfl ⟨rfl, ext_setRow he3 (Nat.le_refl _) _⟩

def invN (a : Int) : Int := pwBits a (bitsOf (expo 235 127))
theorem invN_isN (a : Int) : isN (invN a) := pwBits_isN _ _
theorem inv (a : Int) (ha : isN a) (w : World) : Calls Try.prog 32 #[num a] w (Ret w (num (invN a))) := by
  have HE : Hid (∀ w, Calls Try.prog 57 #[.int .u8 235, .int .u8 127] w (Ret w (.agg (ints .u8 (expo 235 127))))) := Lib.hid (exponent 235 127)
  have HB : Hid (∀ w, Calls Try.prog 36 #[.agg (ints .u8 (expo 235 127))] w (Gives w (BitsV (expo 235 127)))) := Lib.hid (bits_call _)
  have HP : Hid (∀ v w, BitsV (expo 235 127) v w → Calls Try.prog 37 #[num a, v] w (Ret w (num (invN a)))) := Lib.hid fun v w hv => power a ha (expo 235 127) (expo_len _ _) (expo_bytes _ _ (by decide) (by decide)) v w hv
  generalize expo 235 127 = ex at *
  generalize invN a = r at *
  rw [show num a = .agg (numA a) from rfl] at HP ⊢
  go_enter Try.func32, Try.ntmps32
  go_wp2_with fail
  generalize hW : (w.alloc _).alloc _ = W0
  have hA : W0.heap[w.heap.size]? = some (.cells (numA a) 29) := by rw [← hW]; exact alloc2_1 _ _ _
  have hC : ∃ b : Array Value, b.size = 4 ∧ W0.heap[w.heap.size + 1]? = some (.cells b 29) := by rw [← hW]; exact ⟨_, rfl, alloc2_2 _ _ _⟩
  obtain ⟨b, hbs, hC⟩ := hC
  have he : Ext w W0 := by rw [← hW]; exact Ext.trans (ext_alloc _ _) (ext_alloc _ _)
  clear hW
  refine wp_region_rely Ext 3 7 [⟨none, [(1, none)]⟩, ⟨none, []⟩, ⟨none, [(4, some 1)]⟩] (by kernel_rfl) (by kernel_rfl) rfl Ext.refl Ext.trans (fun F r0 hr hF => ?_)
  have f1 : r0 1 = .pointer (some ⟨w.heap.size, 0, none⟩) := by rw [hr]; rfl
  clear hr
  simp only [List.take_succ_cons, List.take_zero]
  refine step_const (.agg (numA a)) (fun ρ W hR hh => ?_) ?_
  · exact relyAt_load_row 29 (.tmp _) rfl _ (Eq.trans hh.1 f1) 29 _ (0, 0) _ (row_ext (row_ext hA (ext_drew _)) hR) Try.underlying29 rfl infoNum
  refine step_const (.agg (ints .u8 ex)) (fun ρ W hR hh => ?_) ?_
  · simp only [guarded, relyAt]
    go_simp
    exact ⟨Ext.refl _, (HE.out _).mono fun _ _ h => h.const⟩
  refine step_fact (BitsV ex) (bitsV_stable ex) (fun ρ W hR hh => ?_) ?_
  · have h4 : ρ 4 = .agg (ints .u8 ex) := hh.1
    simp only [guarded, relyAt]
    go_simp
    exact ⟨Ext.refl _, (HB.out _).mono fun _ _ h => h.fact⟩
  simp only [List.cons_append, List.nil_append]
  refine hF.out fun W hR => ?_
  simp only [List.take_succ_cons, List.take_zero, List.drop_succ_cons, List.drop_zero, fin, forall_eq, Act.put, List.setIfInBounds_toArray, List.set_cons_zero, List.set_cons_succ]
  intro v hv
  have HP' := Lib.hid (HP.out v W hv)
  clear hF HP HE HB hv
  go_wp2_with first
    | (go_at_call 37
       (with_reducible refine HP'.out.mono ?_)
       rintro e w' ⟨rfl, hw⟩
       have hC' := row_ext (row_ext (row_ext hC (ext_drew _)) hR) hw
       have he' := Ext.trans (Ext.trans (Ext.trans he (ext_drew _)) hR) hw)
    | (with_reducible show wpList _ _ _ ((⟨_, .store 29 _ _, _, _, _, _⟩ : Oper) :: _) _ _
       refine wpList_store_row rfl 29 _ _ rfl (w.heap.size + 1) (numA r) rfl rfl 29 _ hC' infoNum hbs (numA_one _) ?_)
  exact bodyPost_ret (results_num (t := 2) rfl rfl (setRow_heap _ _ _ _ _ _ hC')) rfl ⟨rfl, ext_setRow he' (by omega) _⟩
end Go.Proofs.Ytaojnmjmmfdfjaa.Field
