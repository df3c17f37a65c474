/- The document's numbers: the number of bytes, and products. -/
import Derived.Test.YtaojnmjmmfdfjaaRefE
namespace Go.Proofs.Ytaojnmjmmfdfjaa.Field
open Go Go.RowKit
open Go.Proofs.Ytaojnmjmmfdfjaa.Rely
set_option linter.unusedVariables false

/-! ### From -/
def two255 : Int := 57896044618658097711785492504343953926634992332820282019728792003956564819968
def pairAt (xs : List Int) (i : Nat) : Int := nth xs (2 * i) + 256 * nth xs (2 * i + 1)
def pairCut (xs : List Int) (i : Nat) : Int := if i = 15 then pairAt xs 15 % 32768 else pairAt xs i
theorem pair_range (xs : List Int) (hb : AreBytes xs) (i : Nat) : 0 ≤ pairAt xs i ∧ pairAt xs i < 65536 := by
  have h1 := hb.nth (2 * i)
  have h2 := hb.nth (2 * i + 1)
  unfold pairAt
  omega
theorem pair_val (xs : List Int) : ∀ k, pvf (pairAt xs) k = leAt xs 0 (2 * k)
  | 0 => rfl
  | k + 1 => by
    have e : 2 * (k + 1) = 2 * k + 1 + 1 := by omega
    have f : (256 : Int) ^ (2 * k) = 65536 ^ k := by rw [Int.pow_mul]; rfl
    have f' : (256 : Int) ^ (2 * k + 1) = 256 * 65536 ^ k := by rw [Int.pow_succ, f, Int.mul_comm]
    rw [pvf, pair_val xs k, e, leAt, leAt, Nat.zero_add, Nat.zero_add, f, f', pairAt]
    generalize (65536 : Int) ^ k = b
    generalize nth xs (2 * k) = u
    generalize nth xs (2 * k + 1) = v
    generalize leAt xs 0 (2 * k) = z
    grind
theorem pair_cut (xs : List Int) (hb : AreBytes xs) : pvf (pairCut xs) 16 = leAt xs 0 32 % two255 := by
  have h := pair_val xs 16
  have e1 : pvf (pairAt xs) 16 = pvf (pairAt xs) 15 + pairAt xs 15 * 65536 ^ 15 := rfl
  have e2 : pvf (pairCut xs) 16 = pvf (pairCut xs) 15 + pairCut xs 15 * 65536 ^ 15 := rfl
  have e3 : pvf (pairCut xs) 15 = pvf (pairAt xs) 15 := pvf_congr (n := 15) (fun i hi => by unfold pairCut; rw [if_neg (by omega)]) 15 (Nat.le_refl _)
  have e4 : pairCut xs 15 = pairAt xs 15 % 32768 := by unfold pairCut; rw [if_pos rfl]
  have r1 := pvf_range (pairAt xs) 15 (fun i _ => pair_range xs hb i) 15 (Nat.le_refl _)
  have r2 := pair_range xs hb 15
  have f1 : (65536 : Int) ^ 15 = 1766847064778384329583297500742918515827483896875618958121606201292619776 := by decide
  rw [show 2 * 16 = 32 from rfl] at h
  rw [← h, e1, e2, e3, e4, f1]
  rw [f1] at r1
  unfold two255
  omega
theorem cut_set (xs : List Int) : (mix 32 (pairAt xs) (fun _ => 0) 16).set 15 (pairAt xs 15 % 32768) = mix 32 (pairCut xs) (fun _ => 0) 16 := by
  refine List.ext_getElem (by simp [mix]) fun i h1 h2 => ?_
  have h3 : i < 32 := by simpa [mix] using h2
  simp only [mix, List.getElem_set, List.getElem_map, List.getElem_range]
  unfold pairCut
  by_cases h : i = 15
  · subst h; simp
  · rw [if_neg (show ¬ 15 = i by omega), if_neg h]

set_option maxRecDepth 100000 in
theorem lFrom (xs : List Int) (hl : xs.length = 32) (hb : AreBytes xs) (w : World) : Calls Try.prog 21 #[.agg (ints .u8 xs)] w (Ret w (lnum (leAt xs 0 32 % 57896044618658097711785492504343953926634992332820282019728792003956564819968 % p))) := by
  have hi : (Try.prog.info? 23).map (·.size) = some (ints .u8 xs).size := by rw [infoKey, ints_size, hl]
  have hv : pvf (nth (mix 32 (pairCut xs) (fun _ => 0) 16)) 32 = leAt xs 0 32 % two255 := by rw [pvf_mix _ _ (by decide), pair_cut xs hb]
  have HC : Hid (∀ w, Calls Try.prog 51 #[.agg (ints .i64 (mix 32 (pairCut xs) (fun _ => 0) 16))] w (Ret w (lnum (leAt xs 0 32 % two255 % p)))) := Lib.hid fun w => by
    have := small (mix 32 (pairCut xs) (fun _ => 0) 16) (mix_len _ _ _ _) (mix_range _ 16 fun i _ => by
      have := pair_range xs hb i
      have := pair_range xs hb 15
      unfold pairCut M
      split <;> omega) (by
        rw [hv, pow32]
        have h1 := Int.emod_nonneg (leAt xs 0 32) (show two255 ≠ 0 by decide)
        have h2 := Int.emod_lt_of_pos (leAt xs 0 32) (show (0 : Int) < two255 by decide)
        have h3 : two255 < big * big := by decide
        omega) w
    rw [hv] at this
    exact this
  unfold lnum two255 at HC
  unfold lnum
  have hrl := lims_len (leAt xs 0 32 % 57896044618658097711785492504343953926634992332820282019728792003956564819968 % p)
  generalize lims (leAt xs 0 32 % 57896044618658097711785492504343953926634992332820282019728792003956564819968 % p) = res at *
  clear hv
  go_enter Try.func21, Try.ntmps21
  go_wp2_with fail
  go_loopw [4] (fun i wr => ∃ k : Nat, k ≤ 16 ∧ i = .int .i64 k ∧ Ext w wr ∧ wr.heap[w.heap.size]? = some (.cells (ints .u8 xs) 23) ∧
    (∃ b, b.size = 16 ∧ wr.heap[w.heap.size + 1]? = some (.cells b 32)) ∧ wr.heap[w.heap.size + 1 + 1]? = some (.cells (ints .i64 (mix 32 (pairAt xs) (fun _ => 0) k)) 70)) (fun i _ => 16 - (intOf i).toNat)
  case atStart => exact ⟨0, by omega, rfl, ext3 _ _ _ _, alloc3_fst _ _ _ _, ⟨_, rfl, alloc3_mid _ _ _ _⟩, alloc3_new _ _ _ _⟩
  case round =>
    obtain ⟨k, hk, rfl, he, hA, ⟨b, hbs, hB⟩, hC⟩ := hrel
    by_cases hlt : k < 16
    · have hX : (ints .u8 xs)[2 * k]? = some (.int .u8 (nth xs (2 * k))) := ints_get _ _ _ (by omega)
      have hY : (ints .u8 xs)[2 * k + 1]? = some (.int .u8 (nth xs (2 * k + 1))) := ints_get _ _ _ (by omega)
      have hZ : (ints .i64 (mix 32 (pairAt xs) (fun _ => 0) k))[k]? = some (.int .i64 0) := by rw [ints_get _ _ _ (by rw [mix_len]; omega), mix_nth _ _ _ _ _ (by omega), if_neg (by omega)]
      have hS : (ints .i64 (mix 32 (pairAt xs) (fun _ => 0) k)).setIfInBounds k (.int .i64 (pairAt xs k)) = ints .i64 (mix 32 (pairAt xs) (fun _ => 0) (k + 1)) := by
        rw [ints_set, ← mix_set _ _ _ _ (by omega)]
      have b1 := hb.nth (2 * k)
      have b2 := hb.nth (2 * k + 1)
      have eP : pairAt xs k = nth xs (2 * k) + 256 * nth xs (2 * k + 1) := rfl
      generalize hlx : nth xs (2 * k) = lx at *
      generalize hly : nth xs (2 * k + 1) = ly at *
      rw [eP] at hS
      clear eP
      have q1 : IntKind.i64.wrap (2 * (k : Int)) = 2 * (k : Int) := IntWalk.i64_in _ (by omega)
      have q2 : (2 * (k : Int)).toNat = 2 * k := by omega
      have q3 : (0 : Int) ≤ 2 * (k : Int) := by omega
      have q4 : 2 * (k : Int) < 32 := by omega
      have q5 : IntKind.i64.wrap (2 * (k : Int) + 1) = 2 * (k : Int) + 1 := IntWalk.i64_in _ (by omega)
      have q6 : (2 * (k : Int) + 1).toNat = 2 * k + 1 := by omega
      have q7 : (0 : Int) ≤ 2 * (k : Int) + 1 := by omega
      have q8 : 2 * (k : Int) + 1 < 32 := by omega
      have q9 : (k : Int) < 32 := by omega
      have w1 : IntKind.i64.wrap lx = lx := IntWalk.i64_in _ (by omega)
      have w2 : IntKind.i64.wrap ly = ly := IntWalk.i64_in _ (by omega)
      have w3 : IntKind.i64.wrap (256 * ly) = 256 * ly := IntWalk.i64_in _ (by omega)
      have w4 : IntKind.i64.wrap (lx + 256 * ly) = lx + 256 * ly := IntWalk.i64_in _ (by omega)
      have HX : Hid (∀ W, Ext wr.drew W → W.cell? ⟨w.heap.size, 2 * k, none⟩ = some (.int .u8 lx)) := Lib.hid fun W hR => row_cell (row_ext (row_ext hA (ext_drew _)) hR) hX
      have HY : Hid (∀ W, Ext wr.drew W → W.cell? ⟨w.heap.size, 2 * k + 1, none⟩ = some (.int .u8 ly)) := Lib.hid fun W hR => row_cell (row_ext (row_ext hA (ext_drew _)) hR) hY
      go_wp2
      refine wp_region_rely Ext 15 30 [⟨none, [(4, none)]⟩, ⟨none, [(4, none)]⟩, ⟨none, [(10, some 1)]⟩, ⟨none, [(1, none), (11, some 2)]⟩, ⟨none, [(12, some 3)]⟩, ⟨none, [(13, some 4)]⟩, ⟨none, [(4, none)]⟩, ⟨none, [(15, some 6)]⟩, ⟨none, [(16, some 7)]⟩, ⟨none, [(1, none), (17, some 8)]⟩, ⟨none, [(18, some 9)]⟩, ⟨none, [(19, some 10)]⟩, ⟨none, [(20, some 11)]⟩, ⟨none, [(14, some 5), (21, some 12)]⟩, ⟨none, [(3, none), (9, some 0)]⟩] (by kernel_rfl) (by kernel_rfl) rfl Ext.refl Ext.trans (fun F r0 hr hF => ?_)
      have f1 : r0 1 = .pointer (some ⟨w.heap.size, 0, none⟩) := by rw [hr]; rfl
      have f3 : r0 3 = .pointer (some ⟨w.heap.size + 1 + 1, 0, none⟩) := by rw [hr]; rfl
      have f4 : r0 4 = .int .i64 k := by rw [hr]; rfl
      clear hr
      simp only [List.take_succ_cons, List.take_zero]
      repeat
        (try simp only [List.cons_append, List.nil_append]
         apply step_const
         (intro ρ W hR hh
          have hcx := HX.out W hR
          have hcy := HY.out W hR
          simp only [Holds, List.getD_cons_zero, List.getD_cons_succ, f1, f3, f4] at hh
          simp only [guarded, relyAt]
          go_simp
          first
            | exact ⟨Ext.refl _, rfl⟩
            | exact Ext.refl _))
      simp only [List.cons_append, List.nil_append]
      refine hF.out fun W hRW => ?_
      simp only [List.take_succ_cons, List.take_zero, List.drop_succ_cons, List.drop_zero, fin, forall_eq, Act.put, List.setIfInBounds_toArray, List.set_cons_zero, List.set_cons_succ]
      clear HX HY hF f1 f3 f4
      have hE := Ext.trans (ext_drew wr) hRW
      have hA' := row_ext hA hE
      have hB' := row_ext hB hE
      have hC' := row_ext hC hE
      have hcx := row_cell hC' hZ
      have hfx := row_frozen hC' k
      go_wp2
      exact ⟨⟨k + 1, by omega, by go_num, ext_set (Ext.trans he hE) (by omega) _ _, (set_row_other _ _ (by omega)).trans hA', ⟨b, hbs, (set_row_other _ _ (by omega)).trans hB'⟩, (set_row _ _ hC').trans (by rw [hS])⟩, by simp [intOf]; omega⟩
    · obtain rfl : k = 16 := by omega
      have hX : (ints .i64 (mix 32 (pairAt xs) (fun _ => 0) 16))[15]? = some (.int .i64 (pairAt xs 15)) := by rw [ints_get _ _ _ (by rw [mix_len]; decide), mix_nth _ _ _ _ _ (by decide), if_pos (by decide)]
      have hS : (ints .i64 (mix 32 (pairAt xs) (fun _ => 0) 16)).setIfInBounds 15 (.int .i64 (pairAt xs 15 % 32768)) = ints .i64 (mix 32 (pairCut xs) (fun _ => 0) 16) := by rw [ints_set, cut_set]
      have b1 := pair_range xs hb 15
      generalize hlx : pairAt xs 15 = lx at *
      have w3 : lx.tmod 32768 = lx % 32768 := Int.tmod_eq_emod_of_nonneg (by omega)
      have w4 : IntKind.i64.wrap (lx % 32768) = lx % 32768 := IntWalk.i64_in _ (by omega)
      have hcx := row_cell hC hX
      have hfx := row_frozen hC 15
      have hC2 := set_row 15 (.int .i64 (lx % 32768)) hC
      rw [hS] at hC2
      have hB2 := (set_row_other (W := wr) 15 (.int .i64 (lx % 32768)) (show w.heap.size + 1 ≠ w.heap.size + 1 + 1 by omega)).trans hB
      have he2 := ext_set he (show w.heap.size ≤ w.heap.size + 1 + 1 by omega) 15 (.int .i64 (lx % 32768))
      generalize hwz : wr.setCell ⟨w.heap.size + 1 + 1, 15, none⟩ (.int .i64 (lx % 32768)) = wz at *
      go_wp2_with first
        | (go_at_call 51
           (with_reducible refine (HC.out _).mono ?_)
           rintro e w' ⟨rfl, hw⟩
           have hB' := row_ext hB2 hw)
        | (with_reducible show wpList _ _ _ ((⟨_, .load 70 _, _, _, _, _⟩ : Oper) :: _) _ _
           refine wpList_load_row rfl 70 _ rfl (w.heap.size + 1 + 1) rfl 70 _ (0, 0) _ hC2 Try.underlying70 rfl (info70 _ (mix_len _ _ _ _)) ?_)
        | (with_reducible show wpList _ _ _ ((⟨_, .store 32 _ _, _, _, _, _⟩ : Oper) :: _) _ _
           refine wpList_store_row rfl 32 _ _ rfl (w.heap.size + 1) _ rfl rfl 32 _ hB' (infoL _ hrl) (by rw [hbs, ints_size, hrl]) (ints_one _ _) ?_)
      exact bodyPost_ret (results_cell_row (p := 2) rfl _ _ (w.heap.size + 1) 32 _ (0, 0) _ rfl (setRow_heap _ _ _ _ _ _ hB') Try.underlying32 rfl (infoL _ hrl)) rfl ⟨rfl, ext_setRow (Ext.trans he2 hw) (by omega) _⟩
end Go.Proofs.Ytaojnmjmmfdfjaa.Field
