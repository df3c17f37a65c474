/- The document's powers and inverse. -/
import Derived.Test.YtaojnmjmmfdfjaaPowC
namespace Go.Proofs.Ytaojnmjmmfdfjaa.Field
open Go Go.RowKit
open Go.Proofs.Ytaojnmjmmfdfjaa.Rely
set_option linter.unusedVariables false

def lbit (e : Int) (i : Nat) : Int := limb e (i / 16) / 2 ^ (i % 16) % 2
def lbits (e : Int) : List Int := (List.range 256).map fun j => lbit e (255 - j)
theorem lbits_len (e : Int) : (lbits e).length = 256 := by simp [lbits]
theorem lbits_take (e : Int) (j : Nat) (hj : j < 256) : (lbits e).take (256 - j) = (lbits e).take (256 - (j + 1)) ++ [lbit e j] := by
  have h0 : 256 - j = (256 - (j + 1)) + 1 := by omega
  rw [h0, List.take_add_one]
  congr 1
  have h : 256 - (j + 1) < 256 := by omega
  simp only [lbits, List.getElem?_map, List.getElem?_range h, Option.map_some, Option.toList_some]
  rw [show 255 - (256 - (j + 1)) = j by omega]

set_option maxHeartbeats 1000000 in
theorem lPower (x e : Int) (hx : isN x) (he0 : 0 ≤ e ∧ e < big) (w : World) : Calls Try.prog 38 #[lnum x, lnum e] w (Ret w (lnum (pwBits x (lbits e)))) := by
  have h1' : ints .i64 (lims 1) = #[.int .i64 1, .int .i64 0, .int .i64 0, .int .i64 0, .int .i64 0, .int .i64 0, .int .i64 0, .int .i64 0, .int .i64 0, .int .i64 0, .int .i64 0, .int .i64 0, .int .i64 0, .int .i64 0, .int .i64 0, .int .i64 0] := by rw [lims_one]; rfl
  unfold lnum
  go_enter Try.func38, Try.ntmps38
  go_wp2_with fail
  generalize hW : (((w.alloc _).alloc _).alloc _).alloc _ = W0
  have hA : W0.heap[w.heap.size]? = some (.cells (ints .i64 (lims x)) 32) := by rw [← hW]; exact alloc4_1 _ _ _ _ _
  have hE : W0.heap[w.heap.size + 1]? = some (.cells (ints .i64 (lims e)) 32) := by rw [← hW]; exact alloc4_2 _ _ _ _ _
  have hR : ∃ b : Array Value, b.size = 16 ∧ W0.heap[w.heap.size + 1 + 1]? = some (.cells b 32) := by rw [← hW]; exact ⟨_, rfl, alloc4_3 _ _ _ _ _⟩
  have hO : W0.heap[w.heap.size + 1 + 1 + 1]? = some (.cells (ints .i64 (lims 1)) 32) := by rw [← hW, h1']; exact alloc4_4 _ _ _ _ _
  have he : Ext w W0 := by rw [← hW]; exact ext4 _ _ _ _ _
  clear hW h1'
  go_loopw [6] (fun i wr => ∃ k : Nat, k ≤ 256 ∧ i = .int .i64 ((k : Int) - 1) ∧ Ext w wr ∧ wr.heap[w.heap.size]? = some (.cells (ints .i64 (lims x)) 32) ∧ wr.heap[w.heap.size + 1]? = some (.cells (ints .i64 (lims e)) 32) ∧
    (∃ b, b.size = 16 ∧ wr.heap[w.heap.size + 1 + 1]? = some (.cells b 32)) ∧ wr.heap[w.heap.size + 1 + 1 + 1]? = some (.cells (ints .i64 (lims (pwBits x ((lbits e).take (256 - k))))) 32)) (fun i _ => (intOf i + 1).toNat)
  case atStart => exact ⟨256, by omega, rfl, he, hA, hE, hR, hO⟩
  case round =>
    clear hA hE hR hO he
    obtain ⟨k, hk, rfl, he, hA, hE, ⟨b, hbs, hR⟩, hO⟩ := hrel
    rcases k with _ | j
    · rw [List.take_of_length_le (by rw [lbits_len]; omega)] at hO
      have hrl := lims_len (pwBits x (lbits e))
      go_wp2_with first
        | (with_reducible show wpList _ _ _ ((⟨_, .load 32 _, _, _, _, _⟩ : Oper) :: _) _ _
           refine wpList_load_row rfl 32 _ rfl (w.heap.size + 1 + 1 + 1) rfl 32 _ (0, 0) _ hO Try.underlying32 rfl (infoL _ hrl) ?_)
        | (with_reducible show wpList _ _ _ ((⟨_, .store 32 _ _, _, _, _, _⟩ : Oper) :: _) _ _
           refine wpList_store_row rfl 32 _ _ rfl (w.heap.size + 1 + 1) _ rfl rfl 32 _ hR (infoL _ hrl) (by rw [hbs, ints_size, hrl]) (ints_one _ _) ?_)
      exact bodyPost_ret (results_cell_row (p := 4) rfl _ _ (w.heap.size + 1 + 1) 32 _ (0, 0) _ rfl (setRow_heap _ _ _ _ _ _ hR) Try.underlying32 rfl (infoL _ hrl)) rfl ⟨rfl, ext_setRow he (by omega) _⟩
    · have hj : j < 256 := by omega
      rw [show ((j + 1 : Nat) : Int) - 1 = (j : Int) by omega]
      have HT := Lib.hid (lbits_take e j hj)
      have hsn := pwBits_snoc x ((lbits e).take (256 - (j + 1))) (lbit e j)
      have io := pwBits_isN x ((lbits e).take (256 - (j + 1)))
      generalize hoo : pwBits x ((lbits e).take (256 - (j + 1))) = o at *
      have HM : Hid (∀ w, Calls Try.prog 31 #[.agg (ints .i64 (lims o)), .agg (ints .i64 (lims o))] w (Ret w (.agg (ints .i64 (lims (o * o % p)))))) := Lib.hid (lMul o o (isN_big io) (isN_big io))
      have HM2 : Hid (∀ w, Calls Try.prog 31 #[.agg (ints .i64 (lims (o * o % p))), .agg (ints .i64 (lims x))] w (Ret w (.agg (ints .i64 (lims (o * o % p * x % p)))))) := Lib.hid (lMul _ _ (isN_big (isN_mod _)) (isN_big hx))
      have eb : lbit e j = limb e (j / 16) / 2 ^ (j % 16) % 2 := rfl
      have b1 := limb_range e (j / 16)
      have hX : (ints .i64 (lims e))[j / 16]? = some (.int .i64 (limb e (j / 16))) := by rw [ints_get _ _ _ (by rw [lims_len]; omega), lims_nth _ _ (by omega)]
      generalize hv : limb e (j / 16) = v at *
      have q0 : (0 : Int) ≤ (j : Int) := by omega
      have q1 : (j : Int) / 16 < 16 := by omega
      have q2 : IntKind.i64.wrap ((j : Int) / 16) = (j : Int) / 16 := IntWalk.i64_in _ (by omega)
      have qm : (j : Int).tmod 16 = (j : Int) % 16 := Int.tmod_eq_emod_of_nonneg (by omega)
      have q3 : IntKind.i64.wrap ((j : Int) % 16) = (j : Int) % 16 := IntWalk.i64_in _ (by omega)
      have q4 : (0 : Int) ≤ (j : Int) / 16 := by omega
      have q5 : ((j : Int) / 16).toNat = j / 16 := by omega
      have q6 : ((j : Int) % 16).toNat = j % 16 := by omega
      have q7 : (0 : Int) ≤ (j : Int) % 16 := by omega
      have q8 : (j : Int) % 16 < 16 := by omega
      have q9 : IntKind.u64.wrap ((j : Int) % 16) = (j : Int) % 16 := by rw [IntKind.wrap_u64]; omega
      have q10 : (j : Int) % 16 < 64 := by omega
      have hp : (1 : Int) ≤ 2 ^ (j % 16) := by
        have : (0 : Int) < 2 ^ (j % 16) := Int.pow_pos (by decide)
        omega
      have d1 : 0 ≤ v / 2 ^ (j % 16) := Int.ediv_nonneg b1.1 (by omega)
      have d2 : v / 2 ^ (j % 16) ≤ v := Int.ediv_le_self _ b1.1
      have w1 : IntKind.i64.wrap (v / 2 ^ (j % 16)) = v / 2 ^ (j % 16) := IntWalk.i64_in _ (by omega)
      have w2 : (v / 2 ^ (j % 16)).tmod 2 = v / 2 ^ (j % 16) % 2 := Int.tmod_eq_emod_of_nonneg d1
      have w3 : IntKind.i64.wrap (v / 2 ^ (j % 16) % 2) = v / 2 ^ (j % 16) % 2 := IntWalk.i64_in _ (by omega)
      have hlO := row_lt hO
      have r2 := lims_len (o * o % p)
      have r3 := lims_len (o * o % p * x % p)
      have r1 := lims_len o
      have rx := lims_len x
      have EB := Lib.hid eb
      have HSN := Lib.hid hsn
      clear eb hsn
      by_cases hz : v / 2 ^ (j % 16) % 2 = 1
      · go_wp2_with first
          | (go_at_call 31
             (with_reducible refine (HM.out _).mono ?_)
             rintro e2 w2' ⟨rfl, hw2⟩
             clear HM
             have hO2 := row_ext hO hw2
             clear hO)
          | (go_at_call 31
             (with_reducible refine (HM2.out _).mono ?_)
             rintro e4 w4' ⟨rfl, hw4⟩
             clear HM2
             have hO4 := row_ext hO3 hw4
             clear hO3)
          | (with_reducible show wpList _ _ _ ((⟨_, .load 32 _, _, _, _, _⟩ : Oper) :: _) _ _
             refine wpList_load_row rfl 32 _ rfl (w.heap.size + 1 + 1 + 1) rfl 32 _ (0, 0) _ hO Try.underlying32 rfl (infoL _ r1) ?_)
          | (with_reducible show wpList _ _ _ ((⟨_, .load 32 _, _, _, _, _⟩ : Oper) :: _) _ _
             refine wpList_load_row rfl 32 _ rfl (w.heap.size + 1 + 1 + 1) rfl 32 _ (0, 0) _ hO3 Try.underlying32 rfl (infoL _ r2) ?_)
          | (with_reducible show wpList _ _ _ ((⟨_, .load 32 _, _, _, _, _⟩ : Oper) :: _) _ _
             refine wpList_load_row rfl 32 _ rfl w.heap.size rfl 32 _ (0, 0) _ hA3 Try.underlying32 rfl (infoL _ rx) ?_)
          | (with_reducible show wpList _ _ _ ((⟨_, .store 32 _ _, _, _, _, _⟩ : Oper) :: _) _ _
             refine wpList_store_row rfl 32 _ _ rfl (w.heap.size + 1 + 1 + 1) _ rfl rfl 32 _ hO2 (infoL _ r2) (by rw [ints_size, ints_size, r1, r2]) (ints_one _ _) ?_
             have hE3 := (setRow_other _ (w.heap.size + 1 + 1 + 1) (w.heap.size + 1) (ints .i64 (lims (o * o % p))) (by omega)).trans (row_ext hE hw2)
             have hA3 := (setRow_other _ (w.heap.size + 1 + 1 + 1) w.heap.size (ints .i64 (lims (o * o % p))) (by omega)).trans (row_ext hA hw2)
             have hR3 := (setRow_other _ (w.heap.size + 1 + 1 + 1) (w.heap.size + 1 + 1) (ints .i64 (lims (o * o % p))) (by omega)).trans (row_ext hR hw2)
             have hO3 := setRow_heap _ _ _ (ints .i64 (lims (o * o % p))) _ _ hO2
             have he3 := ext_setRow (Ext.trans he hw2) (show w.heap.size ≤ (w.heap.size + 1 + 1 + 1) by omega) (ints .i64 (lims (o * o % p)))
             have hcx := row_cell hE3 hX
             clear hO2 hw2)
          | (with_reducible show wpList _ _ _ ((⟨_, .store 32 _ _, _, _, _, _⟩ : Oper) :: _) _ _
             refine wpList_store_row rfl 32 _ _ rfl (w.heap.size + 1 + 1 + 1) _ rfl rfl 32 _ hO4 (infoL _ r3) (by rw [ints_size, ints_size, r2, r3]) (ints_one _ _) ?_)
        refine ⟨⟨j, by omega, rfl, ext_setRow (Ext.trans he3 hw4) (by omega) _, (setRow_other _ _ _ _ (by omega)).trans (row_ext hA3 hw4), (setRow_other _ _ _ _ (by omega)).trans (row_ext hE3 hw4), ⟨b, hbs, (setRow_other _ _ _ _ (by omega)).trans (row_ext hR3 hw4)⟩, ?_⟩, by simp [intOf]⟩
        rw [HT.out, HSN.out]
        unfold pwStep
        rw [if_neg (by rw [EB.out]; omega)]
        exact setRow_heap _ _ _ _ _ _ hO4
      · have hz0 : v / 2 ^ (j % 16) % 2 = 0 := by omega
        go_wp2_with first
          | (go_at_call 31
             (with_reducible refine (HM.out _).mono ?_)
             rintro e2 w2' ⟨rfl, hw2⟩
             have hO2 := row_ext hO hw2)
          | (with_reducible show wpList _ _ _ ((⟨_, .load 32 _, _, _, _, _⟩ : Oper) :: _) _ _
             refine wpList_load_row rfl 32 _ rfl (w.heap.size + 1 + 1 + 1) rfl 32 _ (0, 0) _ hO Try.underlying32 rfl (infoL _ r1) ?_)
          | (with_reducible show wpList _ _ _ ((⟨_, .store 32 _ _, _, _, _, _⟩ : Oper) :: _) _ _
             refine wpList_store_row rfl 32 _ _ rfl (w.heap.size + 1 + 1 + 1) _ rfl rfl 32 _ hO2 (infoL _ r2) (by rw [ints_size, ints_size, r1, r2]) (ints_one _ _) ?_
             have hE3 := (setRow_other _ (w.heap.size + 1 + 1 + 1) (w.heap.size + 1) (ints .i64 (lims (o * o % p))) (by omega)).trans (row_ext hE hw2)
             have hcx := row_cell hE3 hX)
        refine ⟨⟨j, by omega, rfl, ext_setRow (Ext.trans he hw2) (by omega) _, (setRow_other _ _ _ _ (by omega)).trans (row_ext hA hw2), (setRow_other _ _ _ _ (by omega)).trans (row_ext hE hw2), ⟨b, hbs, (setRow_other _ _ _ _ (by omega)).trans (row_ext hR hw2)⟩, ?_⟩, by simp [intOf]⟩
        rw [HT.out, HSN.out]
        unfold pwStep
        rw [if_pos (by rw [EB.out]; exact hz0)]
        exact setRow_heap _ _ _ _ _ _ hO2

theorem lims_two : lims 2 = 2 :: List.replicate 15 0 := by decide +kernel
theorem inv_bits : lbits (p - 2) = bitsOf (expo 235 127) := by decide +kernel
theorem lInv (a : Int) (ha : isN a) (w : World) : Calls Try.prog 33 #[lnum a] w (Ret w (lnum (invN a))) := by
  have hp0 : (0 : Int) ≤ p ∧ p < big := by decide
  have HP : Hid (∀ w, Calls Try.prog 55 #[] w (Ret w (lnum p))) := Lib.hid prime
  have HM : Hid (∀ w, Calls Try.prog 54 #[lnum p, lnum 2] w (Ret w (lnum (p - 2)))) := Lib.hid fun w => minus p 2 (by decide) (by decide) hp0.2 w
  have HW : Hid (∀ w, Calls Try.prog 38 #[lnum a, lnum (p - 2)] w (Ret w (lnum (invN a)))) := Lib.hid fun w => by
    have := lPower a (p - 2) ha (by decide) w
    rw [inv_bits] at this
    exact this
  have h2 : lnum 2 = .agg #[.int .i64 2, .int .i64 0, .int .i64 0, .int .i64 0, .int .i64 0, .int .i64 0, .int .i64 0, .int .i64 0, .int .i64 0, .int .i64 0, .int .i64 0, .int .i64 0, .int .i64 0, .int .i64 0, .int .i64 0, .int .i64 0] := by unfold lnum; rw [lims_two]; rfl
  rw [h2] at HM
  unfold lnum at HM HP HW ⊢
  clear h2 hp0
  have ra := lims_len a
  have rr := lims_len (invN a)
  generalize lims (invN a) = res at *
  generalize lims (p - 2) = lq at *
  generalize lims p = lp at *
  generalize lims a = la at *
  go_enter Try.func33, Try.ntmps33
  go_wp2_with fail
  generalize hW : (w.alloc _).alloc _ = W0
  have hA : W0.heap[w.heap.size]? = some (.cells (ints .i64 la) 32) := by rw [← hW]; exact alloc2_1 _ _ _
  have hC : ∃ b : Array Value, b.size = 16 ∧ W0.heap[w.heap.size + 1]? = some (.cells b 32) := by rw [← hW]; exact ⟨_, rfl, alloc2_2 _ _ _⟩
  obtain ⟨b, hbs, hC⟩ := hC
  have he : Ext w W0 := by rw [← hW]; exact Ext.trans (ext_alloc _ _) (ext_alloc _ _)
  clear hW
  refine wp_region_rely Ext 4 8 [⟨none, [(1, none)]⟩, ⟨none, []⟩, ⟨none, []⟩, ⟨none, [(4, some 1), (5, some 2)]⟩] (by kernel_rfl) (by kernel_rfl) rfl Ext.refl Ext.trans (fun F r0 hr hF => ?_)
  have f1 : r0 1 = .pointer (some ⟨w.heap.size, 0, none⟩) := by rw [hr]; rfl
  clear hr
  simp only [List.take_succ_cons, List.take_zero]
  refine step_const (.agg (ints .i64 la)) (fun ρ W hR hh => ?_) ?_
  · exact relyAt_load_row 32 (.tmp _) rfl _ (Eq.trans hh.1 f1) 32 _ (0, 0) _ (row_ext (row_ext hA (ext_drew _)) hR) Try.underlying32 rfl (infoL _ ra)
  refine step_const (.agg (ints .i64 lp)) (fun ρ W hR hh => ?_) ?_
  · simp only [guarded, relyAt]
    go_simp
    exact ⟨Ext.refl _, (HP.out _).mono fun _ _ h => h.const⟩
  refine step_const (.agg #[.int .i64 2, .int .i64 0, .int .i64 0, .int .i64 0, .int .i64 0, .int .i64 0, .int .i64 0, .int .i64 0, .int .i64 0, .int .i64 0, .int .i64 0, .int .i64 0, .int .i64 0, .int .i64 0, .int .i64 0, .int .i64 0]) (fun ρ W hR hh => ?_) ?_
  · simp only [guarded, relyAt]
    go_simp
    exact Ext.refl _
  refine step_const (.agg (ints .i64 lq)) (fun ρ W hR hh => ?_) ?_
  · have h4 : ρ 4 = .agg (ints .i64 lp) := hh.1
    have h5 : ρ 5 = .agg #[.int .i64 2, .int .i64 0, .int .i64 0, .int .i64 0, .int .i64 0, .int .i64 0, .int .i64 0, .int .i64 0, .int .i64 0, .int .i64 0, .int .i64 0, .int .i64 0, .int .i64 0, .int .i64 0, .int .i64 0, .int .i64 0] := hh.2.1
    simp only [guarded, relyAt]
    go_simp
    exact ⟨Ext.refl _, (HM.out _).mono fun _ _ h => h.const⟩
  simp only [List.cons_append, List.nil_append]
  refine hF.out fun W hR => ?_
  simp only [List.take_succ_cons, List.take_zero, List.drop_succ_cons, List.drop_zero, fin, forall_eq, Act.put, List.setIfInBounds_toArray, List.set_cons_zero, List.set_cons_succ]
  clear hF
  go_wp2_with first
    | (go_at_call 38
       (with_reducible refine (HW.out _).mono ?_)
       rintro e w' ⟨rfl, hw⟩
       have hC' := row_ext (row_ext (row_ext hC (ext_drew _)) hR) hw
       have he' := Ext.trans (Ext.trans (Ext.trans he (ext_drew _)) hR) hw)
    | (with_reducible show wpList _ _ _ ((⟨_, .store 32 _ _, _, _, _, _⟩ : Oper) :: _) _ _
       refine wpList_store_row rfl 32 _ _ rfl (w.heap.size + 1) _ rfl rfl 32 _ hC' (infoL _ rr) (by rw [hbs, ints_size, rr]) (ints_one _ _) ?_)
  exact bodyPost_ret (results_cell_row (p := 2) rfl _ _ (w.heap.size + 1) 32 _ (0, 0) _ rfl (setRow_heap _ _ _ _ _ _ hC') Try.underlying32 rfl (infoL _ rr)) rfl ⟨rfl, ext_setRow he' (by omega) _⟩
end Go.Proofs.Ytaojnmjmmfdfjaa.Field
