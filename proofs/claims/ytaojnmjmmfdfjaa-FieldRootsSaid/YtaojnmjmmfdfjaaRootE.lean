/- The document's Root. -/
import Derived.Test.YtaojnmjmmfdfjaaRootC
import Derived.Test.YtaojnmjmmfdfjaaRootD
namespace Go.Proofs.Ytaojnmjmmfdfjaa.Field
open Go Go.RowKit
open Go.Proofs.Ytaojnmjmmfdfjaa.Rely
set_option linter.unusedVariables false

theorem limb_par (x : Int) : limb x 0 % 2 = x % 2 := by
  unfold limb
  rw [Int.pow_zero, Int.ediv_one]
  omega
theorem lims_p3 : (ints .i64 (lims p)).setIfInBounds 0 (.int .i64 65520) = ints .i64 (lims (p + 3)) := by
  rw [ints_set]
  exact congrArg (ints .i64) (by decide +kernel)
theorem lims_p0 : (ints .i64 (lims p))[0]? = some (.int .i64 65517) := by
  rw [ints_get _ _ _ (by rw [lims_len]; decide), lims_nth _ _ (by decide)]
  exact congrArg (fun v => some (Value.int .i64 v)) (by decide +kernel)
theorem eq_lnum (x y : Int) (hx : isN x) (hy : isN y) (b : Bool) (h : decide (x = y) = b) (W : World) : (binOp .eql 32 (.agg (ints .i64 (lims x))) (.agg (ints .i64 (lims y)))).run Try.prog W = .ok (.bool b) W := by
  rw [eql_ints W Try.underlying32 Try.underlying3 (by kernel_rfl) _ _ (lims_len x) (lims_len y), ← h]
  congr 2
  exact decide_eq_decide.2 ⟨fun e => lims_inj (by rw [big_pow]; exact isN_big hx) (by rw [big_pow]; exact isN_big hy) e, fun e => by rw [e]⟩
set_option maxRecDepth 100000 in
set_option maxHeartbeats 8000000 in
theorem lRoot (a : Int) (ha : isN a) (w : World) : Calls Try.prog 35 #[lnum a] w (Ret w (.tuple #[lnum (rootN a), .bool (hasRoot a)])) := by
  have hpb : p < big := by decide
  have pi : (0 : Int) ≤ p ∧ p < big := by decide
  have HPR : Hid (∀ w, Calls Try.prog 55 #[] w (Ret w (.agg (ints .i64 (lims p))))) := Lib.hid prime
  have HH1 : Hid (∀ w, Calls Try.prog 58 #[.agg (ints .i64 (lims (p + 3)))] w (Ret w (.agg (ints .i64 (lims ((p + 3) / 2)))))) := Lib.hid (lHalf _ (by decide))
  have HH2 : Hid (∀ w, Calls Try.prog 58 #[.agg (ints .i64 (lims ((p + 3) / 2)))] w (Ret w (.agg (ints .i64 (lims ((p + 3) / 2 / 2)))))) := Lib.hid (lHalf _ (by decide))
  have HH3 : Hid (∀ w, Calls Try.prog 58 #[.agg (ints .i64 (lims ((p + 3) / 2 / 2)))] w (Ret w (.agg (ints .i64 (lims ((p + 3) / 2 / 2 / 2)))))) := Lib.hid (lHalf _ (by decide))
  have HPA : Hid (∀ w, Calls Try.prog 38 #[.agg (ints .i64 (lims a)), .agg (ints .i64 (lims ((p + 3) / 2 / 2 / 2)))] w (Ret w (.agg (ints .i64 (lims (rootA a)))))) := Lib.hid fun w => by
    have := lPower a ((p + 3) / 2 / 2 / 2) ha (by decide) w
    rw [show (p + 3) / 2 / 2 / 2 = 7237005577332262213973186563042994240829374041602535252466099000494570602494 by decide, root_bits] at this
    rw [show (p + 3) / 2 / 2 / 2 = 7237005577332262213973186563042994240829374041602535252466099000494570602494 by decide]
    exact this
  have HM1 : Hid (∀ w, Calls Try.prog 54 #[.agg (ints .i64 (lims p)), .agg #[.int .i64 1, .int .i64 0, .int .i64 0, .int .i64 0, .int .i64 0, .int .i64 0, .int .i64 0, .int .i64 0, .int .i64 0, .int .i64 0, .int .i64 0, .int .i64 0, .int .i64 0, .int .i64 0, .int .i64 0, .int .i64 0]] w (Ret w (.agg (ints .i64 (lims (p - 1)))))) := Lib.hid fun w => by
    have := minus p 1 (by decide) (by decide) hpb w
    unfold lnum at this
    rw [show ints .i64 (lims 1) = #[.int .i64 1, .int .i64 0, .int .i64 0, .int .i64 0, .int .i64 0, .int .i64 0, .int .i64 0, .int .i64 0, .int .i64 0, .int .i64 0, .int .i64 0, .int .i64 0, .int .i64 0, .int .i64 0, .int .i64 0, .int .i64 0] by rw [lims_one]; rfl] at this
    exact this
  have HH4 : Hid (∀ w, Calls Try.prog 58 #[.agg (ints .i64 (lims (p - 1)))] w (Ret w (.agg (ints .i64 (lims ((p - 1) / 2)))))) := Lib.hid (lHalf _ (by decide))
  have HH5 : Hid (∀ w, Calls Try.prog 58 #[.agg (ints .i64 (lims ((p - 1) / 2)))] w (Ret w (.agg (ints .i64 (lims ((p - 1) / 2 / 2)))))) := Lib.hid (lHalf _ (by decide))
  have HPI : Hid (∀ w, Calls Try.prog 38 #[.agg #[.int .i64 2, .int .i64 0, .int .i64 0, .int .i64 0, .int .i64 0, .int .i64 0, .int .i64 0, .int .i64 0, .int .i64 0, .int .i64 0, .int .i64 0, .int .i64 0, .int .i64 0, .int .i64 0, .int .i64 0, .int .i64 0], .agg (ints .i64 (lims ((p - 1) / 2 / 2)))] w (Ret w (.agg (ints .i64 (lims rootI))))) := Lib.hid fun w => by
    have := lPower 2 ((p - 1) / 2 / 2) two_isN (by decide) w
    unfold lnum at this
    rw [show ints .i64 (lims 2) = #[.int .i64 2, .int .i64 0, .int .i64 0, .int .i64 0, .int .i64 0, .int .i64 0, .int .i64 0, .int .i64 0, .int .i64 0, .int .i64 0, .int .i64 0, .int .i64 0, .int .i64 0, .int .i64 0, .int .i64 0, .int .i64 0] by rw [lims_two]; rfl, show (p - 1) / 2 / 2 = 14474011154664524427946373126085988481658748083205070504932198000989141204987 by decide, rootI_bits] at this
    rw [show (p - 1) / 2 / 2 = 14474011154664524427946373126085988481658748083205070504932198000989141204987 by decide]
    exact this
  have i_ra := rootA_isN a
  have i_rb : isN (rootA a * rootI % p) := isN_mod _
  have i_s0 : isN (rootA a * rootA a % p) := isN_mod _
  have i_s1 : isN (rootA a * rootI % p * (rootA a * rootI % p) % p) := isN_mod _
  have HM0 : Hid (∀ w, Calls Try.prog 31 #[.agg (ints .i64 (lims (rootA a))), .agg (ints .i64 (lims (rootA a)))] w (Ret w (.agg (ints .i64 (lims (rootA a * rootA a % p)))))) := Lib.hid (lMul _ _ (isN_big i_ra) (isN_big i_ra))
  have HMI : Hid (∀ w, Calls Try.prog 31 #[.agg (ints .i64 (lims (rootA a))), .agg (ints .i64 (lims rootI))] w (Ret w (.agg (ints .i64 (lims (rootA a * rootI % p)))))) := Lib.hid (lMul _ _ (isN_big i_ra) (isN_big rootI_isN))
  have HMB : Hid (∀ w, Calls Try.prog 31 #[.agg (ints .i64 (lims (rootA a * rootI % p))), .agg (ints .i64 (lims (rootA a * rootI % p)))] w (Ret w (.agg (ints .i64 (lims (rootA a * rootI % p * (rootA a * rootI % p) % p)))))) := Lib.hid (lMul _ _ (isN_big i_rb) (isN_big i_rb))
  have HMJ : Hid (∀ w, Calls Try.prog 31 #[.agg (ints .i64 (lims (rootA a * rootI % p))), .agg (ints .i64 (lims rootI))] w (Ret w (.agg (ints .i64 (lims (rootA a * rootI % p * rootI % p)))))) := Lib.hid (lMul _ _ (isN_big i_rb) (isN_big rootI_isN))
  have FN : Hid (rootN a = (if rootA a * rootA a % p = a then evenOf (rootA a) else if rootA a * rootI % p * (rootA a * rootI % p) % p = a then evenOf (rootA a * rootI % p) else 0)) := Lib.hid rfl
  have FB : Hid (hasRoot a = (decide (rootA a * rootA a % p = a) || decide (rootA a * rootI % p * (rootA a * rootI % p) % p = a))) := Lib.hid rfl
  have hgl : Try.prog.eqGuardType Try.prog.depth 32 = false := by kernel_rfl
  generalize hs0 : rootA a * rootA a % p = s0 at *
  generalize hs1 : rootA a * rootI % p * (rootA a * rootI % p) % p = s1 at *
  clear hs0 hs1
  generalize rootA a * rootI % p * rootI % p = rj at *
  generalize rootA a * rootI % p = rb at *
  generalize rootA a = ra at *
  generalize rootI = ri at *
  have g0 := lims_p0
  have g3 := lims_p3
  have lp := lims_len p
  have la := lims_len a
  have l3 := lims_len (p + 3)
  have lra := lims_len ra
  have lrb := lims_len rb
  have lri := lims_len ri
  have lrj := lims_len rj
  unfold lnum
  go_enter Try.func35, Try.ntmps35
  go_wp2_with first
    | (go_at_call 55
       (with_reducible refine (HPR.out _).mono ?_)
       rintro e w1 ⟨rfl, hw1⟩)
    | (with_reducible show wpList _ _ _ ((⟨_, .store 32 _ _, _, _, _, _⟩ : Oper) :: _) _ _
       refine wpList_store_row rfl 32 _ _ rfl w1.heap.size (ints .i64 (lims p)) rfl rfl 32 _ (heap_alloc_new _ _) (infoL _ lp) (by rw [ints_size, lp]; rfl) (ints_one _ _) ?_
       have he0 : Ext w ((w.alloc (.cells (ints .i64 (lims a)) 32)).alloc (.cells #[.int .i64 0, .int .i64 0, .int .i64 0, .int .i64 0, .int .i64 0, .int .i64 0, .int .i64 0, .int .i64 0, .int .i64 0, .int .i64 0, .int .i64 0, .int .i64 0, .int .i64 0, .int .i64 0, .int .i64 0, .int .i64 0] 32)) := Ext.trans (ext_alloc _ _) (ext_alloc _ _)
       have hA1 := row_ext (alloc2_1 w (.cells (ints .i64 (lims a)) 32) (.cells #[.int .i64 0, .int .i64 0, .int .i64 0, .int .i64 0, .int .i64 0, .int .i64 0, .int .i64 0, .int .i64 0, .int .i64 0, .int .i64 0, .int .i64 0, .int .i64 0, .int .i64 0, .int .i64 0, .int .i64 0, .int .i64 0] 32)) hw1
       have hS1 := row_ext (alloc2_2 w (.cells (ints .i64 (lims a)) 32) (.cells #[.int .i64 0, .int .i64 0, .int .i64 0, .int .i64 0, .int .i64 0, .int .i64 0, .int .i64 0, .int .i64 0, .int .i64 0, .int .i64 0, .int .i64 0, .int .i64 0, .int .i64 0, .int .i64 0, .int .i64 0, .int .i64 0] 32)) hw1
       have hsz1 := hw1.size
       have he1 := Ext.trans he0 hw1
       have hE := setRow_heap _ _ _ (ints .i64 (lims p)) _ _ (heap_alloc_new w1 (.cells #[.int .i64 0, .int .i64 0, .int .i64 0, .int .i64 0, .int .i64 0, .int .i64 0, .int .i64 0, .int .i64 0, .int .i64 0, .int .i64 0, .int .i64 0, .int .i64 0, .int .i64 0, .int .i64 0, .int .i64 0, .int .i64 0] 32))
       have hX := ext_setRow (ext_alloc w1 (.cells #[.int .i64 0, .int .i64 0, .int .i64 0, .int .i64 0, .int .i64 0, .int .i64 0, .int .i64 0, .int .i64 0, .int .i64 0, .int .i64 0, .int .i64 0, .int .i64 0, .int .i64 0, .int .i64 0, .int .i64 0, .int .i64 0] 32)) (Nat.le_refl _) (ints .i64 (lims p))
       have hA := row_ext hA1 hX
       have hS := row_ext hS1 hX
       have he := Ext.trans he1 hX
       have hge : w.heap.size + 1 < w1.heap.size := row_lt hS1
       have hcx := row_cell hE g0
       have hfx := row_frozen hE 0
       have hE3 := set_row 0 (.int .i64 65520) hE
       rw [g3] at hE3
       have hA3 := (set_row_other (W := (w1.alloc (.cells #[.int .i64 0, .int .i64 0, .int .i64 0, .int .i64 0, .int .i64 0, .int .i64 0, .int .i64 0, .int .i64 0, .int .i64 0, .int .i64 0, .int .i64 0, .int .i64 0, .int .i64 0, .int .i64 0, .int .i64 0, .int .i64 0] 32)).setRow w1.heap.size (ints .i64 (lims p))) 0 (.int .i64 65520) (show w.heap.size ≠ w1.heap.size by omega)).trans hA
       have hS3 := (set_row_other (W := (w1.alloc (.cells #[.int .i64 0, .int .i64 0, .int .i64 0, .int .i64 0, .int .i64 0, .int .i64 0, .int .i64 0, .int .i64 0, .int .i64 0, .int .i64 0, .int .i64 0, .int .i64 0, .int .i64 0, .int .i64 0, .int .i64 0, .int .i64 0] 32)).setRow w1.heap.size (ints .i64 (lims p))) 0 (.int .i64 65520) (show w.heap.size + 1 ≠ w1.heap.size by omega)).trans hS
       have he3 := ext_set he (show w.heap.size ≤ w1.heap.size by omega) 0 (.int .i64 65520)
       generalize hV : (w1.alloc (.cells #[.int .i64 0, .int .i64 0, .int .i64 0, .int .i64 0, .int .i64 0, .int .i64 0, .int .i64 0, .int .i64 0, .int .i64 0, .int .i64 0, .int .i64 0, .int .i64 0, .int .i64 0, .int .i64 0, .int .i64 0, .int .i64 0] 32)).setRow w1.heap.size (ints .i64 (lims p)) = V at *
       generalize w1.heap.size = ge at *
       generalize hV3 : V.setCell ⟨ge, 0, none⟩ (.int .i64 65520) = V3 at *
       clear hE hA hS he hA1 hS1 he1 he0 hX hw1 hV)
  clear hcx hfx g0 g3 hV3
  have hsz := he3.size
  have hlS := row_lt hS3
  have HA : Hid (∀ W, Ext V3.drew W → W.heap[w.heap.size]? = some (.cells (ints .i64 (lims a)) 32)) := Lib.hid fun W hR => row_ext (row_ext hA3 (ext_drew _)) hR
  have HE : Hid (∀ W, Ext V3.drew W → W.heap[ge]? = some (.cells (ints .i64 (lims (p + 3))) 32)) := Lib.hid fun W hR => row_ext (row_ext hE3 (ext_drew _)) hR
  refine wp_region_rely Ext 7 47 [⟨none, [(1, none)]⟩, ⟨none, [(4, none)]⟩, ⟨none, [(14, some 1)]⟩, ⟨none, [(15, some 2)]⟩, ⟨none, [(16, some 3)]⟩, ⟨none, [(13, some 0), (17, some 4)]⟩, ⟨none, []⟩] (by kernel_rfl) (by kernel_rfl) rfl Ext.refl Ext.trans (fun F r0 hr hF => ?_)
  have f1 : r0 1 = .pointer (some ⟨w.heap.size, 0, none⟩) := by rw [hr]; rfl
  have f4 : r0 4 = .pointer (some ⟨ge, 0, none⟩) := by rw [hr]; rfl
  clear hr
  simp only [List.take_succ_cons, List.take_zero]
  refine step_const (.agg (ints .i64 (lims a))) (fun ρ W hR hh => ?_) ?_
  · clear hF
    have h1 : ρ 1 = .pointer (some ⟨w.heap.size, 0, none⟩) := Eq.trans hh.1 f1
    exact relyAt_load_row 32 (.tmp _) rfl _ h1 32 _ (0, 0) _ (HA.out W hR) Try.underlying32 rfl (infoL _ (lims_len _))
  refine step_const (.agg (ints .i64 (lims (p + 3)))) (fun ρ W hR hh => ?_) ?_
  · clear hF
    have h4 : ρ 4 = .pointer (some ⟨ge, 0, none⟩) := Eq.trans hh.1 f4
    exact relyAt_load_row 32 (.tmp _) rfl _ h4 32 _ (0, 0) _ (HE.out W hR) Try.underlying32 rfl (infoL _ (lims_len _))
  refine step_const (.agg (ints .i64 (lims ((p + 3) / 2)))) (fun ρ W hR hh => ?_) ?_
  · clear hF
    have h14 : ρ 14 = .agg (ints .i64 (lims (p + 3))) := hh.1
    simp only [guarded, relyAt]
    go_simp
    exact ⟨Ext.refl _, (HH1.out _).mono fun _ _ h => h.const⟩
  refine step_const (.agg (ints .i64 (lims ((p + 3) / 2 / 2)))) (fun ρ W hR hh => ?_) ?_
  · clear hF
    have h15 : ρ 15 = .agg (ints .i64 (lims ((p + 3) / 2))) := hh.1
    simp only [guarded, relyAt]
    go_simp
    exact ⟨Ext.refl _, (HH2.out _).mono fun _ _ h => h.const⟩
  refine step_const (.agg (ints .i64 (lims ((p + 3) / 2 / 2 / 2)))) (fun ρ W hR hh => ?_) ?_
  · clear hF
    have h16 : ρ 16 = .agg (ints .i64 (lims ((p + 3) / 2 / 2))) := hh.1
    simp only [guarded, relyAt]
    go_simp
    exact ⟨Ext.refl _, (HH3.out _).mono fun _ _ h => h.const⟩
  refine step_const (.agg (ints .i64 (lims ra))) (fun ρ W hR hh => ?_) ?_
  · clear hF
    have h13 : ρ 13 = .agg (ints .i64 (lims a)) := hh.1
    have h17 : ρ 17 = .agg (ints .i64 (lims ((p + 3) / 2 / 2 / 2))) := hh.2.1
    simp only [guarded, relyAt]
    go_simp
    exact ⟨Ext.refl _, (HPA.out _).mono fun _ _ h => h.const⟩
  simp only [List.cons_append, List.nil_append]
  refine step_fact (FreshT 32 16 V3.heap.size) (freshT_stable _ _ _) (fun ρ W hR hh => ?_) ?_
  · have hsz : V3.heap.size ≤ W.heap.size := hR.size
    simp only [guarded, relyAt]
    go_simp
    exact ⟨ext_alloc _ _, _, rfl, by omega, by simp, _, rfl, heap_alloc_new _ _⟩
  simp only [List.cons_append, List.nil_append]
  refine hF.out fun W1 hR1 => ?_
  simp only [List.take_succ_cons, List.take_zero, List.drop_succ_cons, List.drop_zero, fin, forall_eq, Act.put, List.setIfInBounds_toArray, List.set_cons_zero, List.set_cons_succ]
  clear hF
  rintro vg ⟨gr, rfl, lg, ug, cg, sg, kg⟩
  clear f1 f4
  refine wpList_store_row rfl 32 _ _ rfl gr (ints .i64 (lims ra)) rfl rfl 32 _ kg (infoL _ lra) (by rw [sg, ints_size, lra]) (ints_one _ _) ?_
  have hE1 := Ext.trans (ext_drew V3) hR1
  have hr4 := setRow_heap _ _ _ (ints .i64 (lims ra)) _ _ kg
  have hA4 := (setRow_other W1 gr w.heap.size (ints .i64 (lims ra)) (by omega)).trans (row_ext hA3 hE1)
  have hS4 := (setRow_other W1 gr (w.heap.size + 1) (ints .i64 (lims ra)) (by omega)).trans (row_ext hS3 hE1)
  have he4 := ext_setRow (Ext.trans he3 hE1) (show w.heap.size ≤ gr by omega) (ints .i64 (lims ra))
  have hgr : w.heap.size + 1 < gr := by omega
  generalize W1.setRow gr (ints .i64 (lims ra)) = V4 at *
  clear kg hR1 hE1 HA HE hA3 hS3 he3 hE3 lg ug sg hsz hlS HH1 HH2 HH3 HPA l3 hge hsz1
  go_wp2_with first
    | (go_at_call 55
       (with_reducible refine (HPR.out _).mono ?_)
       rintro e w5 ⟨rfl, hw5⟩
       have hr5 := row_ext hr4 hw5
       have hA5 := row_ext hA4 hw5
       have hS5 := row_ext hS4 hw5
       have he5 := Ext.trans he4 hw5
       clear hr4 hA4 hS4 he4 hw5)
    | (go_at_call 54
       (with_reducible refine (HM1.out _).mono ?_)
       rintro e w6 ⟨rfl, hw6⟩
       have hr6 := row_ext hr5 hw6
       have hA6 := row_ext hA5 hw6
       have hS6 := row_ext hS5 hw6
       have he6 := Ext.trans he5 hw6
       clear hr5 hA5 hS5 he5 hw6)
    | (go_at_call 58
       (with_reducible refine (HH4.out _).mono ?_)
       rintro e w7 ⟨rfl, hw7⟩
       have hr7 := row_ext hr6 hw7
       have hA7 := row_ext hA6 hw7
       have hS7 := row_ext hS6 hw7
       have he7 := Ext.trans he6 hw7
       clear hr6 hA6 hS6 he6 hw7)
    | (go_at_call 58
       (with_reducible refine (HH5.out _).mono ?_)
       rintro e w8 ⟨rfl, hw8⟩
       have hr8 := row_ext hr7 hw8
       have hA8 := row_ext hA7 hw8
       have hS8 := row_ext hS7 hw8
       have he8 := Ext.trans he7 hw8
       clear hr7 hA7 hS7 he7 hw8)
    | (go_at_call 38
       (with_reducible refine (HPI.out _).mono ?_)
       rintro e w9 ⟨rfl, hw9⟩
       have hr9 := row_ext hr8 hw9
       have hA9 := row_ext hA8 hw9
       have hS9 := row_ext hS8 hw9
       have he9 := Ext.trans he8 hw9
       clear hr8 hA8 hS8 he8 hw9)
    | (with_reducible show wpList _ _ _ ((⟨_, .store 32 _ _, _, _, _, _⟩ : Oper) :: _) _ _
       refine wpList_store_row rfl 32 _ _ rfl w9.heap.size (ints .i64 (lims ri)) rfl rfl 32 _ (heap_alloc_new _ _) (infoL _ lri) (by rw [ints_size, lri]; rfl) (ints_one _ _) ?_
       have hi10 := setRow_heap _ _ _ (ints .i64 (lims ri)) _ _ (heap_alloc_new w9 (.cells #[.int .i64 0, .int .i64 0, .int .i64 0, .int .i64 0, .int .i64 0, .int .i64 0, .int .i64 0, .int .i64 0, .int .i64 0, .int .i64 0, .int .i64 0, .int .i64 0, .int .i64 0, .int .i64 0, .int .i64 0, .int .i64 0] 32))
       have hX := ext_setRow (ext_alloc w9 (.cells #[.int .i64 0, .int .i64 0, .int .i64 0, .int .i64 0, .int .i64 0, .int .i64 0, .int .i64 0, .int .i64 0, .int .i64 0, .int .i64 0, .int .i64 0, .int .i64 0, .int .i64 0, .int .i64 0, .int .i64 0, .int .i64 0] 32)) (Nat.le_refl _) (ints .i64 (lims ri))
       have hgi : gr < w9.heap.size := row_lt hr9
       have hr10 := row_ext hr9 hX
       have hA10 := row_ext hA9 hX
       have hS10 := row_ext hS9 hX
       have he10 := Ext.trans he9 hX
       generalize (w9.alloc (.cells #[.int .i64 0, .int .i64 0, .int .i64 0, .int .i64 0, .int .i64 0, .int .i64 0, .int .i64 0, .int .i64 0, .int .i64 0, .int .i64 0, .int .i64 0, .int .i64 0, .int .i64 0, .int .i64 0, .int .i64 0, .int .i64 0] 32)).setRow w9.heap.size (ints .i64 (lims ri)) = V at *
       generalize w9.heap.size = gi at *
       clear hX hr9 hA9 hS9 he9)
  clear HM1 HH4 HH5 HPI
  refine wp_loop_rounds 4 ?_
  rw [rounds_succ]
  by_cases hz : s0 = a
  · have HQ : Hid (∀ W, (binOp .eql 32 (.agg (ints .i64 (lims s0))) (.agg (ints .i64 (lims a)))).run Try.prog W = .ok (.bool true) W) := Lib.hid (eq_lnum s0 a i_s0 ha true (decide_eq_true hz))
    have FIN : Hid (rootN a = evenOf ra ∧ hasRoot a = true) := Lib.hid ⟨by rw [FN.out, if_pos hz], by rw [FB.out, decide_eq_true hz]; rfl⟩
    clear hz FN FB HMB HMI HMJ
    go_wp2
    have HA : Hid (∀ W, Ext V.drew W → W.heap[w.heap.size]? = some (.cells (ints .i64 (lims a)) 32)) := Lib.hid fun W hR => row_ext (row_ext hA10 (ext_drew _)) hR
    have HR : Hid (∀ W, Ext V.drew W → W.heap[gr]? = some (.cells (ints .i64 (lims ra)) 32)) := Lib.hid fun W hR => row_ext (row_ext hr10 (ext_drew _)) hR
    refine wp_region_rely Ext 5 47 [⟨none, [(5, none)]⟩, ⟨none, [(5, none)]⟩, ⟨none, [(30, some 0), (31, some 1)]⟩, ⟨none, [(1, none)]⟩, ⟨none, [(32, some 2), (33, some 3)]⟩] (by kernel_rfl) (by kernel_rfl) rfl Ext.refl Ext.trans (fun F r0 hr hF => ?_)
    have f5 : r0 5 = .pointer (some ⟨gr, 0, none⟩) := by rw [hr]; rfl
    have f1 : r0 1 = .pointer (some ⟨w.heap.size, 0, none⟩) := by rw [hr]; rfl
    clear hr
    simp only [List.take_succ_cons, List.take_zero]
    refine step_const (.agg (ints .i64 (lims ra))) (fun ρ W hR hh => ?_) ?_
    · clear hF
      have h5 : ρ 5 = .pointer (some ⟨gr, 0, none⟩) := Eq.trans hh.1 f5
      exact relyAt_load_row 32 (.tmp _) rfl _ h5 32 _ (0, 0) _ (HR.out W hR) Try.underlying32 rfl (infoL _ (lims_len _))
    refine step_const (.agg (ints .i64 (lims ra))) (fun ρ W hR hh => ?_) ?_
    · clear hF
      have h5 : ρ 5 = .pointer (some ⟨gr, 0, none⟩) := Eq.trans hh.1 f5
      exact relyAt_load_row 32 (.tmp _) rfl _ h5 32 _ (0, 0) _ (HR.out W hR) Try.underlying32 rfl (infoL _ (lims_len _))
    refine step_const (.agg (ints .i64 (lims s0))) (fun ρ W hR hh => ?_) ?_
    · clear hF
      have h30 : ρ 30 = .agg (ints .i64 (lims ra)) := hh.1
      have h31 : ρ 31 = .agg (ints .i64 (lims ra)) := hh.2.1
      simp only [guarded, relyAt]
      go_simp
      exact ⟨Ext.refl _, (HM0.out _).mono fun _ _ h => h.const⟩
    refine step_const (.agg (ints .i64 (lims a))) (fun ρ W hR hh => ?_) ?_
    · clear hF
      have h1 : ρ 1 = .pointer (some ⟨w.heap.size, 0, none⟩) := Eq.trans hh.1 f1
      exact relyAt_load_row 32 (.tmp _) rfl _ h1 32 _ (0, 0) _ (HA.out W hR) Try.underlying32 rfl (infoL _ (lims_len _))
    refine step_const (.bool true) (fun ρ W hR hh => ?_) ?_
    · clear hF
      have h32 : ρ 32 = .agg (ints .i64 (lims s0)) := hh.1
      have h33 : ρ 33 = .agg (ints .i64 (lims a)) := hh.2.1
      exact relyAt_eql_agg 32 _ (.tmp _) (.tmp _) rfl _ _ _ hgl h32 h33 (HQ.out W)
    simp only [List.cons_append, List.nil_append]
    refine hF.out fun W11 hR11 => ?_
    simp only [List.take_succ_cons, List.take_zero, List.drop_succ_cons, List.drop_zero, fin, forall_eq, Act.put, List.setIfInBounds_toArray, List.set_cons_zero, List.set_cons_succ]
    clear hF
    have hr11 := row_ext (row_ext hr10 (ext_drew _)) hR11
    have hA11 := row_ext (row_ext hA10 (ext_drew _)) hR11
    have hS11 := row_ext (row_ext hS10 (ext_drew _)) hR11
    have hi11 := row_ext (row_ext hi10 (ext_drew _)) hR11
    have he11 := Ext.trans (Ext.trans he10 (ext_drew _)) hR11
    clear HA HR hR11 hr10 hA10 hS10 he10 hi10 f1 f5
    have gp : (ints .i64 (lims ra))[0]? = some (.int .i64 (limb ra 0)) := by rw [ints_get _ _ _ (by rw [lims_len]; decide), lims_nth _ _ (by decide)]
    have hcx := row_cell hr11 gp
    have lpar := limb_par ra
    have lrg := limb_range ra 0
    have w2 : (limb ra 0).tmod 2 = limb ra 0 % 2 := Int.tmod_eq_emod_of_nonneg lrg.1
    have w3 : IntKind.i64.wrap (limb ra 0 % 2) = limb ra 0 % 2 := IntWalk.i64_in _ (by omega)
    rw [lpar] at w2 w3
    generalize limb ra 0 = l0 at *
    clear lpar lrg gp
    by_cases ho : ra % 2 = 1
    · have hev := evenOf_odd ra i_ra ho
      have HMP : Hid (∀ w, Calls Try.prog 54 #[.agg (ints .i64 (lims p)), .agg (ints .i64 (lims ra))] w (Ret w (.agg (ints .i64 (lims (evenOf ra)))))) := Lib.hid fun w => by
        have := minus p ra i_ra.1 (Int.le_of_lt i_ra.2) hpb w
        rw [← hev] at this
        exact this
      have lev := lims_len (evenOf ra)
      clear hev
      generalize evenOf ra = ev at *
      go_wp2
      have HR : Hid (∀ W, Ext W11.drew W → W.heap[gr]? = some (.cells (ints .i64 (lims ra)) 32)) := Lib.hid fun W hR => row_ext (row_ext hr11 (ext_drew _)) hR
      refine wp_region_rely Ext 3 47 [⟨none, []⟩, ⟨none, [(5, none)]⟩, ⟨none, [(39, some 0), (40, some 1)]⟩] (by kernel_rfl) (by kernel_rfl) rfl Ext.refl Ext.trans (fun F r0 hr hF => ?_)
      have f5 : r0 5 = .pointer (some ⟨gr, 0, none⟩) := by rw [hr]; rfl
      clear hr
      simp only [List.take_succ_cons, List.take_zero]
      refine step_const (.agg (ints .i64 (lims p))) (fun ρ W hR hh => ?_) ?_
      · clear hF
        simp only [guarded, relyAt]
        go_simp
        exact ⟨Ext.refl _, (HPR.out _).mono fun _ _ h => h.const⟩
      refine step_const (.agg (ints .i64 (lims ra))) (fun ρ W hR hh => ?_) ?_
      · clear hF
        have h5 : ρ 5 = .pointer (some ⟨gr, 0, none⟩) := Eq.trans hh.1 f5
        exact relyAt_load_row 32 (.tmp _) rfl _ h5 32 _ (0, 0) _ (HR.out W hR) Try.underlying32 rfl (infoL _ (lims_len _))
      refine step_const (.agg (ints .i64 (lims ev))) (fun ρ W hR hh => ?_) ?_
      · clear hF
        have h39 : ρ 39 = .agg (ints .i64 (lims p)) := hh.1
        have h40 : ρ 40 = .agg (ints .i64 (lims ra)) := hh.2.1
        simp only [guarded, relyAt]
        go_simp
        exact ⟨Ext.refl _, (HMP.out _).mono fun _ _ h => h.const⟩
      simp only [List.cons_append, List.nil_append]
      refine hF.out fun W20 hR20 => ?_
      simp only [List.take_succ_cons, List.take_zero, List.drop_succ_cons, List.drop_zero, fin, forall_eq, Act.put, List.setIfInBounds_toArray, List.set_cons_zero, List.set_cons_succ]
      clear hF
      have hr20 := row_ext (row_ext hr11 (ext_drew _)) hR20
      have hS20 := row_ext (row_ext hS11 (ext_drew _)) hR20
      have he20 := Ext.trans (Ext.trans he11 (ext_drew _)) hR20
      clear HR hr11 hS11 he11 hA11 hi11 hR20 f5 HMP hcx
      refine wpList_store_row rfl 32 _ _ rfl gr (ints .i64 (lims ev)) rfl rfl 32 _ hr20 (infoL _ lev) (by rw [ints_size, ints_size, lev, lra]) (ints_one _ _) ?_
      have hr21 := setRow_heap _ _ _ (ints .i64 (lims ev)) _ _ hr20
      have hS21 := (setRow_other W20 gr (w.heap.size + 1) (ints .i64 (lims ev)) (by omega)).trans hS20
      have he21 := ext_setRow he20 (show w.heap.size ≤ gr by omega) (ints .i64 (lims ev))
      generalize W20.setRow gr (ints .i64 (lims ev)) = V21 at *
      clear hr20 hS20 he20
      go_wp2_with first
        | (with_reducible show wpList _ _ _ ((⟨_, .load 32 _, _, _, _, _⟩ : Oper) :: _) _ _
           refine wpList_load_row rfl 32 _ rfl gr rfl 32 _ (0, 0) _ hr21 Try.underlying32 rfl (infoL _ lev) ?_)
        | (with_reducible show wpList _ _ _ ((⟨_, .store 32 _ _, _, _, _, _⟩ : Oper) :: _) _ _
           refine wpList_store_row rfl 32 _ _ rfl (w.heap.size + 1) _ rfl rfl 32 _ hS21 (infoL _ lev) (by rw [ints_size, lev]; rfl) (ints_one _ _) ?_)
      exact bodyPost_ret (results_cell_tmp rfl _ _ (w.heap.size + 1) 32 _ (0, 0) _ rfl _ rfl (setRow_heap _ _ _ _ _ _ hS21) Try.underlying32 rfl (infoL _ lev)) rfl ⟨by rw [FIN.out.1, FIN.out.2]; rfl, ext_setRow he21 (by omega) _⟩
    · have hev : evenOf ra = ra := by unfold evenOf; rw [if_neg ho]
      have HEV := Lib.hid hev
      clear hev
      have hpz : ra % 2 = 0 := by omega
      go_wp2_with first
        | (with_reducible show wpList _ _ _ ((⟨_, .load 32 _, _, _, _, _⟩ : Oper) :: _) _ _
           refine wpList_load_row rfl 32 _ rfl gr rfl 32 _ (0, 0) _ hr11 Try.underlying32 rfl (infoL _ lra) ?_)
        | (with_reducible show wpList _ _ _ ((⟨_, .store 32 _ _, _, _, _, _⟩ : Oper) :: _) _ _
           refine wpList_store_row rfl 32 _ _ rfl (w.heap.size + 1) _ rfl rfl 32 _ hS11 (infoL _ lra) (by rw [ints_size, lra]; rfl) (ints_one _ _) ?_)
      exact bodyPost_ret (results_cell_tmp rfl _ _ (w.heap.size + 1) 32 _ (0, 0) _ rfl _ rfl (setRow_heap _ _ _ _ _ _ hS11) Try.underlying32 rfl (infoL _ lra)) rfl ⟨by rw [FIN.out.1, FIN.out.2, HEV.out]; rfl, ext_setRow he11 (by omega) _⟩
  · have HQ : Hid (∀ W, (binOp .eql 32 (.agg (ints .i64 (lims s0))) (.agg (ints .i64 (lims a)))).run Try.prog W = .ok (.bool false) W) := Lib.hid (eq_lnum s0 a i_s0 ha false (decide_eq_false hz))
    have HZ := Lib.hid hz
    clear hz
    go_wp2
    have HA : Hid (∀ W, Ext V.drew W → W.heap[w.heap.size]? = some (.cells (ints .i64 (lims a)) 32)) := Lib.hid fun W hR => row_ext (row_ext hA10 (ext_drew _)) hR
    have HR : Hid (∀ W, Ext V.drew W → W.heap[gr]? = some (.cells (ints .i64 (lims ra)) 32)) := Lib.hid fun W hR => row_ext (row_ext hr10 (ext_drew _)) hR
    refine wp_region_rely Ext 5 47 [⟨none, [(5, none)]⟩, ⟨none, [(5, none)]⟩, ⟨none, [(30, some 0), (31, some 1)]⟩, ⟨none, [(1, none)]⟩, ⟨none, [(32, some 2), (33, some 3)]⟩] (by kernel_rfl) (by kernel_rfl) rfl Ext.refl Ext.trans (fun F r0 hr hF => ?_)
    have f5 : r0 5 = .pointer (some ⟨gr, 0, none⟩) := by rw [hr]; rfl
    have f1 : r0 1 = .pointer (some ⟨w.heap.size, 0, none⟩) := by rw [hr]; rfl
    clear hr
    simp only [List.take_succ_cons, List.take_zero]
    refine step_const (.agg (ints .i64 (lims ra))) (fun ρ W hR hh => ?_) ?_
    · clear hF
      have h5 : ρ 5 = .pointer (some ⟨gr, 0, none⟩) := Eq.trans hh.1 f5
      exact relyAt_load_row 32 (.tmp _) rfl _ h5 32 _ (0, 0) _ (HR.out W hR) Try.underlying32 rfl (infoL _ (lims_len _))
    refine step_const (.agg (ints .i64 (lims ra))) (fun ρ W hR hh => ?_) ?_
    · clear hF
      have h5 : ρ 5 = .pointer (some ⟨gr, 0, none⟩) := Eq.trans hh.1 f5
      exact relyAt_load_row 32 (.tmp _) rfl _ h5 32 _ (0, 0) _ (HR.out W hR) Try.underlying32 rfl (infoL _ (lims_len _))
    refine step_const (.agg (ints .i64 (lims s0))) (fun ρ W hR hh => ?_) ?_
    · clear hF
      have h30 : ρ 30 = .agg (ints .i64 (lims ra)) := hh.1
      have h31 : ρ 31 = .agg (ints .i64 (lims ra)) := hh.2.1
      simp only [guarded, relyAt]
      go_simp
      exact ⟨Ext.refl _, (HM0.out _).mono fun _ _ h => h.const⟩
    refine step_const (.agg (ints .i64 (lims a))) (fun ρ W hR hh => ?_) ?_
    · clear hF
      have h1 : ρ 1 = .pointer (some ⟨w.heap.size, 0, none⟩) := Eq.trans hh.1 f1
      exact relyAt_load_row 32 (.tmp _) rfl _ h1 32 _ (0, 0) _ (HA.out W hR) Try.underlying32 rfl (infoL _ (lims_len _))
    refine step_const (.bool false) (fun ρ W hR hh => ?_) ?_
    · clear hF
      have h32 : ρ 32 = .agg (ints .i64 (lims s0)) := hh.1
      have h33 : ρ 33 = .agg (ints .i64 (lims a)) := hh.2.1
      exact relyAt_eql_agg 32 _ (.tmp _) (.tmp _) rfl _ _ _ hgl h32 h33 (HQ.out W)
    simp only [List.cons_append, List.nil_append]
    refine hF.out fun W11 hR11 => ?_
    simp only [List.take_succ_cons, List.take_zero, List.drop_succ_cons, List.drop_zero, fin, forall_eq, Act.put, List.setIfInBounds_toArray, List.set_cons_zero, List.set_cons_succ]
    clear hF
    have hr11 := row_ext (row_ext hr10 (ext_drew _)) hR11
    have hA11 := row_ext (row_ext hA10 (ext_drew _)) hR11
    have hS11 := row_ext (row_ext hS10 (ext_drew _)) hR11
    have hi11 := row_ext (row_ext hi10 (ext_drew _)) hR11
    have he11 := Ext.trans (Ext.trans he10 (ext_drew _)) hR11
    clear HA HR hR11 hr10 hA10 hS10 he10 hi10 f1 f5
    clear HQ HM0
    go_wp2_with first
      | (go_at_call 31
         (with_reducible refine (HMI.out _).mono ?_)
         rintro e w15 ⟨rfl, hw15⟩
         have hr15 := row_ext hr11 hw15
         have hA15 := row_ext hA11 hw15
         have hS15 := row_ext hS11 hw15
         have hi15 := row_ext hi11 hw15
         have he15 := Ext.trans he11 hw15
         clear hr11 hA11 hS11 hi11 he11 hw15 HMI)
      | (with_reducible show wpList _ _ _ ((⟨_, .load 32 _, _, _, _, _⟩ : Oper) :: _) _ _
         refine wpList_load_row rfl 32 _ rfl gr rfl 32 _ (0, 0) _ hr11 Try.underlying32 rfl (infoL _ lra) ?_)
      | (with_reducible show wpList _ _ _ ((⟨_, .load 32 _, _, _, _, _⟩ : Oper) :: _) _ _
         refine wpList_load_row rfl 32 _ rfl gi rfl 32 _ (0, 0) _ hi11 Try.underlying32 rfl (infoL _ lri) ?_)
      | (with_reducible show wpList _ _ _ ((⟨_, .store 32 _ _, _, _, _, _⟩ : Oper) :: _) _ _
         refine wpList_store_row rfl 32 _ _ rfl gr _ rfl rfl 32 _ hr15 (infoL _ lrb) (by rw [ints_size, ints_size, lra, lrb]) (ints_one _ _) ?_
         have hr12 := setRow_heap _ _ _ (ints .i64 (lims rb)) _ _ hr15
         have hA12 := (setRow_other _ gr w.heap.size (ints .i64 (lims rb)) (by omega)).trans hA15
         have hS12 := (setRow_other _ gr (w.heap.size + 1) (ints .i64 (lims rb)) (by omega)).trans hS15
         have hi12 := (setRow_other _ gr gi (ints .i64 (lims rb)) (by omega)).trans hi15
         have he12 := ext_setRow he15 (show w.heap.size ≤ gr by omega) (ints .i64 (lims rb))
         generalize w15.setRow gr (ints .i64 (lims rb)) = V12 at *
         clear hr15 hA15 hS15 hi15 he15)
    rw [rounds_succ]
    by_cases hz : s1 = a
    · have HQ : Hid (∀ W, (binOp .eql 32 (.agg (ints .i64 (lims s1))) (.agg (ints .i64 (lims a)))).run Try.prog W = .ok (.bool true) W) := Lib.hid (eq_lnum s1 a i_s1 ha true (decide_eq_true hz))
      have FIN : Hid (rootN a = evenOf rb ∧ hasRoot a = true) := Lib.hid ⟨by rw [FN.out, if_neg HZ.out, if_pos hz], by rw [FB.out, decide_eq_true hz, Bool.or_true]⟩
      clear hz FN FB HZ HMJ
      go_wp2
      have HA : Hid (∀ W, Ext V12.drew W → W.heap[w.heap.size]? = some (.cells (ints .i64 (lims a)) 32)) := Lib.hid fun W hR => row_ext (row_ext hA12 (ext_drew _)) hR
      have HR : Hid (∀ W, Ext V12.drew W → W.heap[gr]? = some (.cells (ints .i64 (lims rb)) 32)) := Lib.hid fun W hR => row_ext (row_ext hr12 (ext_drew _)) hR
      refine wp_region_rely Ext 5 47 [⟨none, [(5, none)]⟩, ⟨none, [(5, none)]⟩, ⟨none, [(30, some 0), (31, some 1)]⟩, ⟨none, [(1, none)]⟩, ⟨none, [(32, some 2), (33, some 3)]⟩] (by kernel_rfl) (by kernel_rfl) rfl Ext.refl Ext.trans (fun F r0 hr hF => ?_)
      have f5 : r0 5 = .pointer (some ⟨gr, 0, none⟩) := by rw [hr]; rfl
      have f1 : r0 1 = .pointer (some ⟨w.heap.size, 0, none⟩) := by rw [hr]; rfl
      clear hr
      simp only [List.take_succ_cons, List.take_zero]
      refine step_const (.agg (ints .i64 (lims rb))) (fun ρ W hR hh => ?_) ?_
      · clear hF
        have h5 : ρ 5 = .pointer (some ⟨gr, 0, none⟩) := Eq.trans hh.1 f5
        exact relyAt_load_row 32 (.tmp _) rfl _ h5 32 _ (0, 0) _ (HR.out W hR) Try.underlying32 rfl (infoL _ (lims_len _))
      refine step_const (.agg (ints .i64 (lims rb))) (fun ρ W hR hh => ?_) ?_
      · clear hF
        have h5 : ρ 5 = .pointer (some ⟨gr, 0, none⟩) := Eq.trans hh.1 f5
        exact relyAt_load_row 32 (.tmp _) rfl _ h5 32 _ (0, 0) _ (HR.out W hR) Try.underlying32 rfl (infoL _ (lims_len _))
      refine step_const (.agg (ints .i64 (lims s1))) (fun ρ W hR hh => ?_) ?_
      · clear hF
        have h30 : ρ 30 = .agg (ints .i64 (lims rb)) := hh.1
        have h31 : ρ 31 = .agg (ints .i64 (lims rb)) := hh.2.1
        simp only [guarded, relyAt]
        go_simp
        exact ⟨Ext.refl _, (HMB.out _).mono fun _ _ h => h.const⟩
      refine step_const (.agg (ints .i64 (lims a))) (fun ρ W hR hh => ?_) ?_
      · clear hF
        have h1 : ρ 1 = .pointer (some ⟨w.heap.size, 0, none⟩) := Eq.trans hh.1 f1
        exact relyAt_load_row 32 (.tmp _) rfl _ h1 32 _ (0, 0) _ (HA.out W hR) Try.underlying32 rfl (infoL _ (lims_len _))
      refine step_const (.bool true) (fun ρ W hR hh => ?_) ?_
      · clear hF
        have h32 : ρ 32 = .agg (ints .i64 (lims s1)) := hh.1
        have h33 : ρ 33 = .agg (ints .i64 (lims a)) := hh.2.1
        exact relyAt_eql_agg 32 _ (.tmp _) (.tmp _) rfl _ _ _ hgl h32 h33 (HQ.out W)
      simp only [List.cons_append, List.nil_append]
      refine hF.out fun W13 hR13 => ?_
      simp only [List.take_succ_cons, List.take_zero, List.drop_succ_cons, List.drop_zero, fin, forall_eq, Act.put, List.setIfInBounds_toArray, List.set_cons_zero, List.set_cons_succ]
      clear hF
      have hr13 := row_ext (row_ext hr12 (ext_drew _)) hR13
      have hA13 := row_ext (row_ext hA12 (ext_drew _)) hR13
      have hS13 := row_ext (row_ext hS12 (ext_drew _)) hR13
      have hi13 := row_ext (row_ext hi12 (ext_drew _)) hR13
      have he13 := Ext.trans (Ext.trans he12 (ext_drew _)) hR13
      clear HA HR hR13 hr12 hA12 hS12 he12 hi12 f1 f5
      have gp : (ints .i64 (lims rb))[0]? = some (.int .i64 (limb rb 0)) := by rw [ints_get _ _ _ (by rw [lims_len]; decide), lims_nth _ _ (by decide)]
      have hcx := row_cell hr13 gp
      have lpar := limb_par rb
      have lrg := limb_range rb 0
      have w2 : (limb rb 0).tmod 2 = limb rb 0 % 2 := Int.tmod_eq_emod_of_nonneg lrg.1
      have w3 : IntKind.i64.wrap (limb rb 0 % 2) = limb rb 0 % 2 := IntWalk.i64_in _ (by omega)
      rw [lpar] at w2 w3
      generalize limb rb 0 = l0 at *
      clear lpar lrg gp
      by_cases ho : rb % 2 = 1
      · have hev := evenOf_odd rb i_rb ho
        have HMP : Hid (∀ w, Calls Try.prog 54 #[.agg (ints .i64 (lims p)), .agg (ints .i64 (lims rb))] w (Ret w (.agg (ints .i64 (lims (evenOf rb)))))) := Lib.hid fun w => by
          have := minus p rb i_rb.1 (Int.le_of_lt i_rb.2) hpb w
          rw [← hev] at this
          exact this
        have lev := lims_len (evenOf rb)
        clear hev
        generalize evenOf rb = ev at *
        go_wp2
        have HR : Hid (∀ W, Ext W13.drew W → W.heap[gr]? = some (.cells (ints .i64 (lims rb)) 32)) := Lib.hid fun W hR => row_ext (row_ext hr13 (ext_drew _)) hR
        refine wp_region_rely Ext 3 47 [⟨none, []⟩, ⟨none, [(5, none)]⟩, ⟨none, [(39, some 0), (40, some 1)]⟩] (by kernel_rfl) (by kernel_rfl) rfl Ext.refl Ext.trans (fun F r0 hr hF => ?_)
        have f5 : r0 5 = .pointer (some ⟨gr, 0, none⟩) := by rw [hr]; rfl
        clear hr
        simp only [List.take_succ_cons, List.take_zero]
        refine step_const (.agg (ints .i64 (lims p))) (fun ρ W hR hh => ?_) ?_
        · clear hF
          simp only [guarded, relyAt]
          go_simp
          exact ⟨Ext.refl _, (HPR.out _).mono fun _ _ h => h.const⟩
        refine step_const (.agg (ints .i64 (lims rb))) (fun ρ W hR hh => ?_) ?_
        · clear hF
          have h5 : ρ 5 = .pointer (some ⟨gr, 0, none⟩) := Eq.trans hh.1 f5
          exact relyAt_load_row 32 (.tmp _) rfl _ h5 32 _ (0, 0) _ (HR.out W hR) Try.underlying32 rfl (infoL _ (lims_len _))
        refine step_const (.agg (ints .i64 (lims ev))) (fun ρ W hR hh => ?_) ?_
        · clear hF
          have h39 : ρ 39 = .agg (ints .i64 (lims p)) := hh.1
          have h40 : ρ 40 = .agg (ints .i64 (lims rb)) := hh.2.1
          simp only [guarded, relyAt]
          go_simp
          exact ⟨Ext.refl _, (HMP.out _).mono fun _ _ h => h.const⟩
        simp only [List.cons_append, List.nil_append]
        refine hF.out fun W20 hR20 => ?_
        simp only [List.take_succ_cons, List.take_zero, List.drop_succ_cons, List.drop_zero, fin, forall_eq, Act.put, List.setIfInBounds_toArray, List.set_cons_zero, List.set_cons_succ]
        clear hF
        have hr20 := row_ext (row_ext hr13 (ext_drew _)) hR20
        have hS20 := row_ext (row_ext hS13 (ext_drew _)) hR20
        have he20 := Ext.trans (Ext.trans he13 (ext_drew _)) hR20
        clear HR hr13 hS13 he13 hA13 hi13 hR20 f5 HMP hcx
        refine wpList_store_row rfl 32 _ _ rfl gr (ints .i64 (lims ev)) rfl rfl 32 _ hr20 (infoL _ lev) (by rw [ints_size, ints_size, lev, lrb]) (ints_one _ _) ?_
        have hr21 := setRow_heap _ _ _ (ints .i64 (lims ev)) _ _ hr20
        have hS21 := (setRow_other W20 gr (w.heap.size + 1) (ints .i64 (lims ev)) (by omega)).trans hS20
        have he21 := ext_setRow he20 (show w.heap.size ≤ gr by omega) (ints .i64 (lims ev))
        generalize W20.setRow gr (ints .i64 (lims ev)) = V21 at *
        clear hr20 hS20 he20
        go_wp2_with first
          | (with_reducible show wpList _ _ _ ((⟨_, .load 32 _, _, _, _, _⟩ : Oper) :: _) _ _
             refine wpList_load_row rfl 32 _ rfl gr rfl 32 _ (0, 0) _ hr21 Try.underlying32 rfl (infoL _ lev) ?_)
          | (with_reducible show wpList _ _ _ ((⟨_, .store 32 _ _, _, _, _, _⟩ : Oper) :: _) _ _
             refine wpList_store_row rfl 32 _ _ rfl (w.heap.size + 1) _ rfl rfl 32 _ hS21 (infoL _ lev) (by rw [ints_size, lev]; rfl) (ints_one _ _) ?_)
        exact bodyPost_ret (results_cell_tmp rfl _ _ (w.heap.size + 1) 32 _ (0, 0) _ rfl _ rfl (setRow_heap _ _ _ _ _ _ hS21) Try.underlying32 rfl (infoL _ lev)) rfl ⟨by rw [FIN.out.1, FIN.out.2]; rfl, ext_setRow he21 (by omega) _⟩
      · have hev : evenOf rb = rb := by unfold evenOf; rw [if_neg ho]
        have HEV := Lib.hid hev
        clear hev
        have hpz : rb % 2 = 0 := by omega
        go_wp2_with first
          | (with_reducible show wpList _ _ _ ((⟨_, .load 32 _, _, _, _, _⟩ : Oper) :: _) _ _
             refine wpList_load_row rfl 32 _ rfl gr rfl 32 _ (0, 0) _ hr13 Try.underlying32 rfl (infoL _ lrb) ?_)
          | (with_reducible show wpList _ _ _ ((⟨_, .store 32 _ _, _, _, _, _⟩ : Oper) :: _) _ _
             refine wpList_store_row rfl 32 _ _ rfl (w.heap.size + 1) _ rfl rfl 32 _ hS13 (infoL _ lrb) (by rw [ints_size, lrb]; rfl) (ints_one _ _) ?_)
        exact bodyPost_ret (results_cell_tmp rfl _ _ (w.heap.size + 1) 32 _ (0, 0) _ rfl _ rfl (setRow_heap _ _ _ _ _ _ hS13) Try.underlying32 rfl (infoL _ lrb)) rfl ⟨by rw [FIN.out.1, FIN.out.2, HEV.out]; rfl, ext_setRow he13 (by omega) _⟩
    · have HQ : Hid (∀ W, (binOp .eql 32 (.agg (ints .i64 (lims s1))) (.agg (ints .i64 (lims a)))).run Try.prog W = .ok (.bool false) W) := Lib.hid (eq_lnum s1 a i_s1 ha false (decide_eq_false hz))
      have FIN : Hid (rootN a = 0 ∧ hasRoot a = false) := Lib.hid ⟨by rw [FN.out, if_neg HZ.out, if_neg hz], by rw [FB.out, decide_eq_false HZ.out, decide_eq_false hz]; rfl⟩
      clear hz FN FB HZ
      go_wp2
      have HA : Hid (∀ W, Ext V12.drew W → W.heap[w.heap.size]? = some (.cells (ints .i64 (lims a)) 32)) := Lib.hid fun W hR => row_ext (row_ext hA12 (ext_drew _)) hR
      have HR : Hid (∀ W, Ext V12.drew W → W.heap[gr]? = some (.cells (ints .i64 (lims rb)) 32)) := Lib.hid fun W hR => row_ext (row_ext hr12 (ext_drew _)) hR
      refine wp_region_rely Ext 5 47 [⟨none, [(5, none)]⟩, ⟨none, [(5, none)]⟩, ⟨none, [(30, some 0), (31, some 1)]⟩, ⟨none, [(1, none)]⟩, ⟨none, [(32, some 2), (33, some 3)]⟩] (by kernel_rfl) (by kernel_rfl) rfl Ext.refl Ext.trans (fun F r0 hr hF => ?_)
      have f5 : r0 5 = .pointer (some ⟨gr, 0, none⟩) := by rw [hr]; rfl
      have f1 : r0 1 = .pointer (some ⟨w.heap.size, 0, none⟩) := by rw [hr]; rfl
      clear hr
      simp only [List.take_succ_cons, List.take_zero]
      refine step_const (.agg (ints .i64 (lims rb))) (fun ρ W hR hh => ?_) ?_
      · clear hF
        have h5 : ρ 5 = .pointer (some ⟨gr, 0, none⟩) := Eq.trans hh.1 f5
        exact relyAt_load_row 32 (.tmp _) rfl _ h5 32 _ (0, 0) _ (HR.out W hR) Try.underlying32 rfl (infoL _ (lims_len _))
      refine step_const (.agg (ints .i64 (lims rb))) (fun ρ W hR hh => ?_) ?_
      · clear hF
        have h5 : ρ 5 = .pointer (some ⟨gr, 0, none⟩) := Eq.trans hh.1 f5
        exact relyAt_load_row 32 (.tmp _) rfl _ h5 32 _ (0, 0) _ (HR.out W hR) Try.underlying32 rfl (infoL _ (lims_len _))
      refine step_const (.agg (ints .i64 (lims s1))) (fun ρ W hR hh => ?_) ?_
      · clear hF
        have h30 : ρ 30 = .agg (ints .i64 (lims rb)) := hh.1
        have h31 : ρ 31 = .agg (ints .i64 (lims rb)) := hh.2.1
        simp only [guarded, relyAt]
        go_simp
        exact ⟨Ext.refl _, (HMB.out _).mono fun _ _ h => h.const⟩
      refine step_const (.agg (ints .i64 (lims a))) (fun ρ W hR hh => ?_) ?_
      · clear hF
        have h1 : ρ 1 = .pointer (some ⟨w.heap.size, 0, none⟩) := Eq.trans hh.1 f1
        exact relyAt_load_row 32 (.tmp _) rfl _ h1 32 _ (0, 0) _ (HA.out W hR) Try.underlying32 rfl (infoL _ (lims_len _))
      refine step_const (.bool false) (fun ρ W hR hh => ?_) ?_
      · clear hF
        have h32 : ρ 32 = .agg (ints .i64 (lims s1)) := hh.1
        have h33 : ρ 33 = .agg (ints .i64 (lims a)) := hh.2.1
        exact relyAt_eql_agg 32 _ (.tmp _) (.tmp _) rfl _ _ _ hgl h32 h33 (HQ.out W)
      simp only [List.cons_append, List.nil_append]
      refine hF.out fun W13 hR13 => ?_
      simp only [List.take_succ_cons, List.take_zero, List.drop_succ_cons, List.drop_zero, fin, forall_eq, Act.put, List.setIfInBounds_toArray, List.set_cons_zero, List.set_cons_succ]
      clear hF
      have hr13 := row_ext (row_ext hr12 (ext_drew _)) hR13
      have hA13 := row_ext (row_ext hA12 (ext_drew _)) hR13
      have hS13 := row_ext (row_ext hS12 (ext_drew _)) hR13
      have hi13 := row_ext (row_ext hi12 (ext_drew _)) hR13
      have he13 := Ext.trans (Ext.trans he12 (ext_drew _)) hR13
      clear HA HR hR13 hr12 hA12 hS12 he12 hi12 f1 f5
      clear HQ HMB
      go_wp2_with first
        | (go_at_call 31
           (with_reducible refine (HMJ.out _).mono ?_)
           rintro e w15 ⟨rfl, hw15⟩
           have hr15 := row_ext hr13 hw15
           have hA15 := row_ext hA13 hw15
           have hS15 := row_ext hS13 hw15
           have hi15 := row_ext hi13 hw15
           have he15 := Ext.trans he13 hw15
           clear hr13 hA13 hS13 hi13 he13 hw15 HMJ)
        | (with_reducible show wpList _ _ _ ((⟨_, .load 32 _, _, _, _, _⟩ : Oper) :: _) _ _
           refine wpList_load_row rfl 32 _ rfl gr rfl 32 _ (0, 0) _ hr13 Try.underlying32 rfl (infoL _ lrb) ?_)
        | (with_reducible show wpList _ _ _ ((⟨_, .load 32 _, _, _, _, _⟩ : Oper) :: _) _ _
           refine wpList_load_row rfl 32 _ rfl gi rfl 32 _ (0, 0) _ hi13 Try.underlying32 rfl (infoL _ lri) ?_)
        | (with_reducible show wpList _ _ _ ((⟨_, .store 32 _ _, _, _, _, _⟩ : Oper) :: _) _ _
           refine wpList_store_row rfl 32 _ _ rfl gr _ rfl rfl 32 _ hr15 (infoL _ lrj) (by rw [ints_size, ints_size, lrb, lrj]) (ints_one _ _) ?_
           have hr14 := setRow_heap _ _ _ (ints .i64 (lims rj)) _ _ hr15
           have hA14 := (setRow_other _ gr w.heap.size (ints .i64 (lims rj)) (by omega)).trans hA15
           have hS14 := (setRow_other _ gr (w.heap.size + 1) (ints .i64 (lims rj)) (by omega)).trans hS15
           have hi14 := (setRow_other _ gr gi (ints .i64 (lims rj)) (by omega)).trans hi15
           have he14 := ext_setRow he15 (show w.heap.size ≤ gr by omega) (ints .i64 (lims rj))
           generalize w15.setRow gr (ints .i64 (lims rj)) = V14 at *
           clear hr15 hA15 hS15 hi15 he15)
      rw [rounds_succ]
      have lz := lims_len 0
      go_wp2_with first
        | (with_reducible show wpList _ _ _ ((⟨_, .store 32 _ _, _, _, _, _⟩ : Oper) :: _) _ _
           refine wpList_store_row rfl 32 _ _ rfl (w.heap.size + 1) (ints .i64 (List.replicate 16 0)) rfl rfl 32 _ hS14 (infoL _ rfl) rfl (ints_one _ _) ?_)
      exact bodyPost_ret (results_cell_tmp rfl _ _ (w.heap.size + 1) 32 _ (0, 0) _ rfl _ rfl (setRow_heap _ _ _ _ _ _ hS14) Try.underlying32 rfl (infoL _ rfl)) rfl ⟨by rw [FIN.out.1, FIN.out.2, lims_zero]; rfl, ext_setRow he14 (by omega) _⟩
end Go.Proofs.Ytaojnmjmmfdfjaa.Field
