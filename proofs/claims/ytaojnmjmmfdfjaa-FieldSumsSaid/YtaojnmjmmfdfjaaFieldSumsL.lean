/- The walk of the law FieldSums. -/
import Derived.Test.YtaojnmjmmfdfjaaLawKit
import Derived.Test.YtaojnmjmmfdfjaaRelyD
namespace Go.Proofs.Ytaojnmjmmfdfjaa.Field
open Go Go.RowKit
open Go.Proofs.Ytaojnmjmmfdfjaa.Rely
set_option linter.unusedVariables false

set_option maxRecDepth 100000 in
set_option maxHeartbeats 8000000 in
theorem sums (xs ys : List Int) (hx : xs.length = 32) (hy : ys.length = 32) (hbx : AreBytes xs) (hby : AreBytes ys) (w : World) :
    Calls Try.prog 4 #[.agg (ints .u8 xs), .agg (ints .u8 ys)] w fun e w' => e = .returned (.bool true) ∧ Below w.heap.size w w' := by
  have HFX : Hid (∀ w, Calls Try.prog 20 #[.agg (ints .u8 xs)] w (Ret w (num (keyNum xs)))) := Lib.hid (from_ xs hx hbx)
  have HFY : Hid (∀ w, Calls Try.prog 20 #[.agg (ints .u8 ys)] w (Ret w (num (keyNum ys)))) := Lib.hid (from_ ys hy hby)
  have HLX : Hid (∀ w, Calls Try.prog 21 #[.agg (ints .u8 xs)] w (Ret w (lnum (keyNum xs)))) := Lib.hid (lFrom xs hx hbx)
  have HLY : Hid (∀ w, Calls Try.prog 21 #[.agg (ints .u8 ys)] w (Ret w (lnum (keyNum ys)))) := Lib.hid (lFrom ys hy hby)
  have iX := keyNum_isN xs
  have iY := keyNum_isN ys
  generalize keyNum xs = x at *
  generalize keyNum ys = y at *
  have HA : Hid (∀ w, Calls Try.prog 25 #[num x, num y] w (Ret w (num ((x + y) % p)))) := Lib.hid (add x y iX iY)
  have HLA : Hid (∀ w, Calls Try.prog 26 #[lnum x, lnum y] w (Ret w (lnum ((x + y) % p)))) := Lib.hid (lAdd x y (isN_big iX) (isN_big iY))
  have HIA : Hid (∀ w, Calls Try.prog 19 #[num ((x + y) % p), lnum ((x + y) % p)] w (Ret w (.bool true))) := Lib.hid (is_true _ (isN_mod _))
  have HS : Hid (∀ w, Calls Try.prog 27 #[num x, num y] w (Ret w (num ((x - y) % p)))) := Lib.hid (sub x y iX iY)
  have HLS : Hid (∀ w, Calls Try.prog 28 #[lnum x, lnum y] w (Ret w (lnum ((x - y) % p)))) := Lib.hid (lSub x y (isN_big iX) ⟨iY.1, Int.le_of_lt iY.2⟩)
  have HIS : Hid (∀ w, Calls Try.prog 19 #[num ((x - y) % p), lnum ((x - y) % p)] w (Ret w (.bool true))) := Lib.hid (is_true _ (isN_mod _))
  have HE : Hid (∀ w, Calls Try.prog 29 #[num x, num y] w (Ret w (.bool (x == y)))) := Lib.hid (equal x y iX iY)
  have HXX : Hid (∀ w, Calls Try.prog 29 #[num x, num x] w (Ret w (.bool true))) := Lib.hid (num_is x x rfl iX)
  have HLE : Hid (∀ W, (binOp .eql 32 (lnum x) (lnum y)).run Try.prog W = .ok (.bool (x == y)) W) := Lib.hid fun W => by
    rw [show lnum x = .agg (ints .i64 (lims x)) from rfl, show lnum y = .agg (ints .i64 (lims y)) from rfl, eql_ints W Try.underlying32 Try.underlying3 (by kernel_rfl) _ _ (lims_len x) (lims_len y)]
    congr 2
    rw [Bool.eq_iff_iff, decide_eq_true_eq, beq_iff_eq]
    exact ⟨fun h => lims_inj (by rw [big_pow]; exact isN_big iX) (by rw [big_pow]; exact isN_big iY) h, fun h => by rw [h]⟩
  have hgl : Try.prog.eqGuardType Try.prog.depth 32 = false := by kernel_rfl
  generalize (x + y) % p = z at *
  generalize (x - y) % p = v at *
  generalize (x == y) = e at *
  go_enter Try.func4, Try.ntmps4
  go_wp2_with fail
  generalize hW : ((w.alloc (.cells (ints .u8 xs) 23)).alloc (.cells (ints .u8 ys) 23)) = W0
  have hA : W0.heap[w.heap.size]? = some (.cells (ints .u8 xs) 23) := by rw [← hW, Below.heap_alloc _ _ _ (by simp)]; exact heap_alloc_new _ _
  have hB : W0.heap[w.heap.size + 1]? = some (.cells (ints .u8 ys) 23) := by
    rw [← hW]
    have := heap_alloc_new (w.alloc (.cells (ints .u8 xs) 23)) (.cells (ints .u8 ys) 23)
    simpa using this
  have he0 : Ext w W0 := by rw [← hW]; exact Ext.trans (ext_alloc _ _) (ext_alloc _ _)
  clear hW
  have HX : Hid (∀ W, Ext W0.drew W → W.heap[w.heap.size]? = some (.cells (ints .u8 xs) 23)) := Lib.hid fun W hR => row_ext (row_ext hA (ext_drew _)) hR
  have HY : Hid (∀ W, Ext W0.drew W → W.heap[w.heap.size + 1]? = some (.cells (ints .u8 ys) 23)) := Lib.hid fun W hR => row_ext (row_ext hB (ext_drew _)) hR
  refine wp_region_relyD Ext 6 50 [⟨none, [(2, none)]⟩, ⟨none, [(9, some 0)]⟩, ⟨none, [(3, none)]⟩, ⟨none, [(11, some 2)]⟩, ⟨none, []⟩, ⟨none, []⟩] [4, 5] (by kernel_rfl) (by kernel_rfl) (by kernel_rfl) rfl Ext.refl Ext.trans (fun F r0 hr hF => ?_)
  have f2 : r0 2 = .pointer (some ⟨w.heap.size, 0, none⟩) := by rw [hr]; rfl
  have f3 : r0 3 = .pointer (some ⟨w.heap.size + 1, 0, none⟩) := by rw [hr]; rfl
  clear hr
  simp only [List.take_succ_cons, List.take_zero]
  refine step_const (.agg (ints .u8 xs)) (fun ρ W hR hh => ?_) ?_
  · clear hF
    have h2 : ρ 2 = .pointer (some ⟨w.heap.size, 0, none⟩) := Eq.trans hh.1 f2
    exact load_key (.tmp _) rfl _ _ hx h2 (HX.out W hR)
  refine step_const (num x) (fun ρ W hR hh => ?_) ?_
  · clear hF
    have h9 : ρ 9 = .agg (ints .u8 xs) := hh.1
    simp only [guarded, relyAt]
    go_simp
    exact ⟨Ext.refl _, (HFX.out _).mono fun _ _ h => h.const⟩
  refine step_const (.agg (ints .u8 ys)) (fun ρ W hR hh => ?_) ?_
  · clear hF
    have h3 : ρ 3 = .pointer (some ⟨w.heap.size + 1, 0, none⟩) := Eq.trans hh.1 f3
    exact load_key (.tmp _) rfl _ _ hy h3 (HY.out W hR)
  refine step_const (num y) (fun ρ W hR hh => ?_) ?_
  · clear hF
    have h11 : ρ 11 = .agg (ints .u8 ys) := hh.1
    simp only [guarded, relyAt]
    go_simp
    exact ⟨Ext.refl _, (HFY.out _).mono fun _ _ h => h.const⟩
  refine step_fact (FreshT 29 4 W0.heap.size) (freshT_stable _ _ _) (fun ρ W hR hh => ?_) ?_
  · have hsz : W0.heap.size ≤ W.heap.size := hR.size
    simp only [guarded, relyAt]
    go_simp
    exact ⟨ext_alloc _ _, _, rfl, by omega, by simp, _, rfl, heap_alloc_new _ _⟩
  refine step_fact (FreshT 29 4 W0.heap.size) (freshT_stable _ _ _) (fun ρ W hR hh => ?_) ?_
  · have hsz : W0.heap.size ≤ W.heap.size := hR.size
    simp only [guarded, relyAt]
    go_simp
    exact ⟨ext_alloc _ _, _, rfl, by omega, by simp, _, rfl, heap_alloc_new _ _⟩
  simp only [List.cons_append, List.nil_append]
  refine hF.out ?_ fun W1 hR1 => ?_
  · intro j hj u V h
    simp only [List.mem_cons, List.not_mem_nil, or_false] at hj
    have : ∃ t m, FreshT t m W0.heap.size u V := by
      rcases hj with rfl | rfl <;> exact ⟨_, _, h⟩
    obtain ⟨t, m, g, h1, _, h3, _⟩ := this
    exact ⟨g, h1, h3⟩
  simp only [List.take_succ_cons, List.take_zero, List.drop_succ_cons, List.drop_zero, finP]
  intro v0 h0 d0 v1 h1 d1 v2 h2 d2 v3 h3 d3 v4 h4 d4 v5 h5 d5
  have n4_5 : v4 ≠ v5 := d5 (by decide) v4 (by simp)
  clear d0 d1 d2 d3 d4 d5
  subst h0 h1 h2 h3
  obtain ⟨g4, rfl, l4, u4, c4, s4, k4⟩ := h4
  obtain ⟨g5, rfl, l5, u5, c5, s5, k5⟩ := h5
  have m4_5 : g4 ≠ g5 := fun e => n4_5 (by rw [e])
  clear n4_5
  simp only [Act.put, List.setIfInBounds_toArray, List.set_cons_zero, List.set_cons_succ]
  refine wpList_store_row rfl 29 _ _ rfl g4 (numA x) rfl rfl 29 _ k4 infoNum s4 (numA_one _) ?_
  refine wpList_store_row rfl 29 _ _ rfl g5 (numA y) rfl rfl 29 _ ((setRow_other _ _ _ _ (Ne.symm m4_5)).trans k5) infoNum s5 (numA_one _) ?_
  have hE1 := Ext.trans (ext_drew W0) hR1
  have hX1 := (setRow_other (W1.setRow g4 (numA x)) g5 g4 (numA y) m4_5).trans (setRow_heap _ _ _ _ _ _ k4)
  have hY1 := setRow_heap _ _ _ (numA y) _ _ ((setRow_other W1 g4 g5 (numA x) (Ne.symm m4_5)).trans k5)
  have he1 : Ext W0 ((W1.setRow g4 (numA x)).setRow g5 (numA y)) := ext_setRow (ext_setRow hE1 l4 _) l5 _
  have hA1 := row_ext hA he1
  have hB1 := row_ext hB he1
  clear k4 k5 s4 s5 hR1 hE1 HX HY
  generalize (W1.setRow g4 (numA x)).setRow g5 (numA y) = V1 at *
  clear f2 f3
  have HX : Hid (∀ W, Ext V1.drew W → W.heap[w.heap.size]? = some (.cells (ints .u8 xs) 23)) := Lib.hid fun W hR => row_ext (row_ext hA1 (ext_drew _)) hR
  have HY : Hid (∀ W, Ext V1.drew W → W.heap[w.heap.size + 1]? = some (.cells (ints .u8 ys) 23)) := Lib.hid fun W hR => row_ext (row_ext hB1 (ext_drew _)) hR
  go_wp2
  refine wp_region_relyD Ext 6 50 [⟨none, [(2, none)]⟩, ⟨none, [(13, some 0)]⟩, ⟨none, [(3, none)]⟩, ⟨none, [(15, some 2)]⟩, ⟨none, []⟩, ⟨none, []⟩] [4, 5] (by kernel_rfl) (by kernel_rfl) (by kernel_rfl) rfl Ext.refl Ext.trans (fun F r0 hr hF => ?_)
  have f2 : r0 2 = .pointer (some ⟨w.heap.size, 0, none⟩) := by rw [hr]; rfl
  have f3 : r0 3 = .pointer (some ⟨w.heap.size + 1, 0, none⟩) := by rw [hr]; rfl
  clear hr
  simp only [List.take_succ_cons, List.take_zero]
  refine step_const (.agg (ints .u8 xs)) (fun ρ W hR hh => ?_) ?_
  · clear hF
    have h2 : ρ 2 = .pointer (some ⟨w.heap.size, 0, none⟩) := Eq.trans hh.1 f2
    exact load_key (.tmp _) rfl _ _ hx h2 (HX.out W hR)
  refine step_const (lnum x) (fun ρ W hR hh => ?_) ?_
  · clear hF
    have h13 : ρ 13 = .agg (ints .u8 xs) := hh.1
    simp only [guarded, relyAt]
    go_simp
    exact ⟨Ext.refl _, (HLX.out _).mono fun _ _ h => h.const⟩
  refine step_const (.agg (ints .u8 ys)) (fun ρ W hR hh => ?_) ?_
  · clear hF
    have h3 : ρ 3 = .pointer (some ⟨w.heap.size + 1, 0, none⟩) := Eq.trans hh.1 f3
    exact load_key (.tmp _) rfl _ _ hy h3 (HY.out W hR)
  refine step_const (lnum y) (fun ρ W hR hh => ?_) ?_
  · clear hF
    have h15 : ρ 15 = .agg (ints .u8 ys) := hh.1
    simp only [guarded, relyAt]
    go_simp
    exact ⟨Ext.refl _, (HLY.out _).mono fun _ _ h => h.const⟩
  refine step_fact (FreshT 32 16 V1.heap.size) (freshT_stable _ _ _) (fun ρ W hR hh => ?_) ?_
  · have hsz : V1.heap.size ≤ W.heap.size := hR.size
    simp only [guarded, relyAt]
    go_simp
    exact ⟨ext_alloc _ _, _, rfl, by omega, by simp, _, rfl, heap_alloc_new _ _⟩
  refine step_fact (FreshT 32 16 V1.heap.size) (freshT_stable _ _ _) (fun ρ W hR hh => ?_) ?_
  · have hsz : V1.heap.size ≤ W.heap.size := hR.size
    simp only [guarded, relyAt]
    go_simp
    exact ⟨ext_alloc _ _, _, rfl, by omega, by simp, _, rfl, heap_alloc_new _ _⟩
  simp only [List.cons_append, List.nil_append]
  refine hF.out ?_ fun W2 hR2 => ?_
  · intro j hj u V h
    simp only [List.mem_cons, List.not_mem_nil, or_false] at hj
    have : ∃ t m, FreshT t m V1.heap.size u V := by
      rcases hj with rfl | rfl <;> exact ⟨_, _, h⟩
    obtain ⟨t, m, g, h1, _, h3, _⟩ := this
    exact ⟨g, h1, h3⟩
  simp only [List.take_succ_cons, List.take_zero, List.drop_succ_cons, List.drop_zero, finP]
  intro v0 h0 d0 v1 h1 d1 v2 h2 d2 v3 h3 d3 v4 h4 d4 v5 h5 d5
  have n4_5 : v4 ≠ v5 := d5 (by decide) v4 (by simp)
  clear d0 d1 d2 d3 d4 d5
  subst h0 h1 h2 h3
  obtain ⟨q4, rfl, j4, o4, c4, s4, k4⟩ := h4
  obtain ⟨q5, rfl, j5, o5, c5, s5, k5⟩ := h5
  have p4_5 : q4 ≠ q5 := fun e => n4_5 (by rw [e])
  clear n4_5
  simp only [Act.put, List.setIfInBounds_toArray, List.set_cons_zero, List.set_cons_succ]
  refine wpList_store_row rfl 32 _ _ rfl q4 (ints .i64 (lims x)) rfl rfl 32 _ k4 (infoL _ (lims_len _)) (by rw [s4, ints_size, lims_len]) (ints_one _ _) ?_
  refine wpList_store_row rfl 32 _ _ rfl q5 (ints .i64 (lims y)) rfl rfl 32 _ ((setRow_other _ _ _ _ (Ne.symm p4_5)).trans k5) (infoL _ (lims_len _)) (by rw [s5, ints_size, lims_len]) (ints_one _ _) ?_
  have hE2 := Ext.trans (ext_drew V1) hR2
  have hU2 := (setRow_other (W2.setRow q4 (ints .i64 (lims x))) q5 q4 (ints .i64 (lims y)) p4_5).trans (setRow_heap _ _ _ _ _ _ k4)
  have hV2 := setRow_heap _ _ _ (ints .i64 (lims y)) _ _ ((setRow_other W2 q4 q5 (ints .i64 (lims x)) (Ne.symm p4_5)).trans k5)
  have he2 : Ext V1 ((W2.setRow q4 (ints .i64 (lims x))).setRow q5 (ints .i64 (lims y))) := ext_setRow (ext_setRow hE2 j4 _) j5 _
  have hX2 := row_ext hX1 he2
  have hY2 := row_ext hY1 he2
  clear k4 k5 s4 s5 hR2 hE2 HX HY f2 f3 hX1 hY1
  have he02 : Ext w ((W2.setRow q4 (ints .i64 (lims x))).setRow q5 (ints .i64 (lims y))) := Ext.trans he0 (Ext.trans he1 he2)
  clear he1 he2 hA hB hA1 hB1 he0
  generalize (W2.setRow q4 (ints .i64 (lims x))).setRow q5 (ints .i64 (lims y)) = V2 at *
  have HX : Hid (∀ W, Ext V2.drew W → W.heap[g4]? = some (.cells (numA x) 29)) := Lib.hid fun W hR => row_ext (row_ext hX2 (ext_drew _)) hR
  have HY : Hid (∀ W, Ext V2.drew W → W.heap[g5]? = some (.cells (numA y) 29)) := Lib.hid fun W hR => row_ext (row_ext hY2 (ext_drew _)) hR
  have HU : Hid (∀ W, Ext V2.drew W → W.heap[q4]? = some (.cells (ints .i64 (lims x)) 32)) := Lib.hid fun W hR => row_ext (row_ext hU2 (ext_drew _)) hR
  have HV : Hid (∀ W, Ext V2.drew W → W.heap[q5]? = some (.cells (ints .i64 (lims y)) 32)) := Lib.hid fun W hR => row_ext (row_ext hV2 (ext_drew _)) hR
  go_wp2
  refine wp_region_rely Ext 33 50 [⟨none, []⟩, ⟨none, [(17, some 0)]⟩, ⟨some (18, true), [(5, none), (18, some 1)]⟩, ⟨some (18, true), [(6, none), (18, some 1)]⟩, ⟨some (18, true), [(19, some 2), (20, some 3), (18, some 1)]⟩, ⟨some (18, true), [(7, none), (18, some 1)]⟩, ⟨some (18, true), [(8, none), (18, some 1)]⟩, ⟨some (18, true), [(22, some 5), (23, some 6), (18, some 1)]⟩, ⟨some (18, true), [(21, some 4), (24, some 7), (18, some 1)]⟩, ⟨none, [(18, some 1), (25, some 8)]⟩, ⟨none, [(26, some 9)]⟩, ⟨some (27, true), [(5, none), (27, some 10)]⟩, ⟨some (27, true), [(6, none), (27, some 10)]⟩, ⟨some (27, true), [(28, some 11), (29, some 12), (27, some 10)]⟩, ⟨some (27, true), [(7, none), (27, some 10)]⟩, ⟨some (27, true), [(8, none), (27, some 10)]⟩, ⟨some (27, true), [(31, some 14), (32, some 15), (27, some 10)]⟩, ⟨some (27, true), [(30, some 13), (33, some 16), (27, some 10)]⟩, ⟨none, [(27, some 10), (34, some 17)]⟩, ⟨none, [(35, some 18)]⟩, ⟨some (36, true), [(5, none), (36, some 19)]⟩, ⟨some (36, true), [(6, none), (36, some 19)]⟩, ⟨some (36, true), [(37, some 20), (38, some 21), (36, some 19)]⟩, ⟨some (36, true), [(7, none), (36, some 19)]⟩, ⟨some (36, true), [(8, none), (36, some 19)]⟩, ⟨some (36, true), [(40, some 23), (41, some 24), (36, some 19)]⟩, ⟨some (36, true), [(39, some 22), (42, some 25), (36, some 19)]⟩, ⟨none, [(36, some 19), (43, some 26)]⟩, ⟨none, [(44, some 27)]⟩, ⟨some (45, true), [(5, none), (45, some 28)]⟩, ⟨some (45, true), [(5, none), (45, some 28)]⟩, ⟨some (45, true), [(46, some 29), (47, some 30), (45, some 28)]⟩, ⟨none, [(45, some 28), (48, some 31)]⟩] (by kernel_rfl) (by kernel_rfl) rfl Ext.refl Ext.trans (fun F r0 hr hF => ?_)
  have f5 : r0 5 = .pointer (some ⟨g4, 0, none⟩) := by rw [hr]; rfl
  have f6 : r0 6 = .pointer (some ⟨g5, 0, none⟩) := by rw [hr]; rfl
  have f7 : r0 7 = .pointer (some ⟨q4, 0, none⟩) := by rw [hr]; rfl
  have f8 : r0 8 = .pointer (some ⟨q5, 0, none⟩) := by rw [hr]; rfl
  clear hr
  simp only [List.take_succ_cons, List.take_zero]
  refine step_const (.bool true) (fun ρ W hR hh => ?_) ?_
  · clear hF
    simp only [guarded, relyAt]
    go_simp
    exact ⟨Ext.refl _, (alive _).mono fun _ _ h => h.const⟩
  refine step_const (.bool true) (fun ρ W hR hh => ?_) ?_
  · clear hF
    have h17 : ρ 17 = .bool true := hh.1
    simp only [guarded, relyAt]
    go_simp
    first
      | exact Ext.refl _
      | exact ⟨Ext.refl _, rfl⟩
  refine step_const (num x) (fun ρ W hR hh => ?_) ?_
  · clear hF
    have h5 : ρ 5 = .pointer (some ⟨g4, 0, none⟩) := Eq.trans hh.1 f5
    have h18 : ρ 18 = .bool true := hh.2.1
    simp only [guarded, h18, isB_bool, beq_self_eq_true, ↓reduceIte]
    exact load_num (.tmp _) rfl _ _  h5 (HX.out W hR)
  refine step_const (num y) (fun ρ W hR hh => ?_) ?_
  · clear hF
    have h6 : ρ 6 = .pointer (some ⟨g5, 0, none⟩) := Eq.trans hh.1 f6
    have h18 : ρ 18 = .bool true := hh.2.1
    simp only [guarded, h18, isB_bool, beq_self_eq_true, ↓reduceIte]
    exact load_num (.tmp _) rfl _ _  h6 (HY.out W hR)
  refine step_const (num z) (fun ρ W hR hh => ?_) ?_
  · clear hF
    have h19 : ρ 19 = num x := hh.1
    have h20 : ρ 20 = num y := hh.2.1
    have h18 : ρ 18 = .bool true := hh.2.2.1
    simp only [guarded, relyAt, h18, isB_bool, beq_self_eq_true, ↓reduceIte]
    go_simp
    exact ⟨Ext.refl _, (HA.out _).mono fun _ _ h => h.const⟩
  refine step_const (lnum x) (fun ρ W hR hh => ?_) ?_
  · clear hF
    have h7 : ρ 7 = .pointer (some ⟨q4, 0, none⟩) := Eq.trans hh.1 f7
    have h18 : ρ 18 = .bool true := hh.2.1
    simp only [guarded, h18, isB_bool, beq_self_eq_true, ↓reduceIte]
    exact load_lnum (.tmp _) rfl _ _  h7 (HU.out W hR)
  simp only [List.cons_append, List.nil_append]
  refine step_const (lnum y) (fun ρ W hR hh => ?_) ?_
  · clear hF
    have h8 : ρ 8 = .pointer (some ⟨q5, 0, none⟩) := Eq.trans hh.1 f8
    have h18 : ρ 18 = .bool true := hh.2.1
    simp only [guarded, h18, isB_bool, beq_self_eq_true, ↓reduceIte]
    exact load_lnum (.tmp _) rfl _ _  h8 (HV.out W hR)
  refine step_const (lnum z) (fun ρ W hR hh => ?_) ?_
  · clear hF
    have h22 : ρ 22 = lnum x := hh.1
    have h23 : ρ 23 = lnum y := hh.2.1
    have h18 : ρ 18 = .bool true := hh.2.2.1
    simp only [guarded, relyAt, h18, isB_bool, beq_self_eq_true, ↓reduceIte]
    go_simp
    exact ⟨Ext.refl _, (HLA.out _).mono fun _ _ h => h.const⟩
  refine step_const (.bool true) (fun ρ W hR hh => ?_) ?_
  · clear hF
    have h21 : ρ 21 = num z := hh.1
    have h24 : ρ 24 = lnum z := hh.2.1
    have h18 : ρ 18 = .bool true := hh.2.2.1
    simp only [guarded, relyAt, h18, isB_bool, beq_self_eq_true, ↓reduceIte]
    go_simp
    exact ⟨Ext.refl _, (HIA.out _).mono fun _ _ h => h.const⟩
  refine step_const (.bool true) (fun ρ W hR hh => ?_) ?_
  · clear hF
    have h18 : ρ 18 = .bool true := hh.1
    have h25 : ρ 25 = .bool true := hh.2.1
    simp only [guarded, relyAt]
    go_simp
    first
      | exact Ext.refl _
      | exact ⟨Ext.refl _, rfl⟩
  refine step_const (.bool true) (fun ρ W hR hh => ?_) ?_
  · clear hF
    have h26 : ρ 26 = .bool true := hh.1
    simp only [guarded, relyAt]
    go_simp
    first
      | exact Ext.refl _
      | exact ⟨Ext.refl _, rfl⟩
  refine step_const (num x) (fun ρ W hR hh => ?_) ?_
  · clear hF
    have h5 : ρ 5 = .pointer (some ⟨g4, 0, none⟩) := Eq.trans hh.1 f5
    have h27 : ρ 27 = .bool true := hh.2.1
    simp only [guarded, h27, isB_bool, beq_self_eq_true, ↓reduceIte]
    exact load_num (.tmp _) rfl _ _  h5 (HX.out W hR)
  simp only [List.cons_append, List.nil_append]
  refine step_const (num y) (fun ρ W hR hh => ?_) ?_
  · clear hF
    have h6 : ρ 6 = .pointer (some ⟨g5, 0, none⟩) := Eq.trans hh.1 f6
    have h27 : ρ 27 = .bool true := hh.2.1
    simp only [guarded, h27, isB_bool, beq_self_eq_true, ↓reduceIte]
    exact load_num (.tmp _) rfl _ _  h6 (HY.out W hR)
  refine step_const (num v) (fun ρ W hR hh => ?_) ?_
  · clear hF
    have h28 : ρ 28 = num x := hh.1
    have h29 : ρ 29 = num y := hh.2.1
    have h27 : ρ 27 = .bool true := hh.2.2.1
    simp only [guarded, relyAt, h27, isB_bool, beq_self_eq_true, ↓reduceIte]
    go_simp
    exact ⟨Ext.refl _, (HS.out _).mono fun _ _ h => h.const⟩
  refine step_const (lnum x) (fun ρ W hR hh => ?_) ?_
  · clear hF
    have h7 : ρ 7 = .pointer (some ⟨q4, 0, none⟩) := Eq.trans hh.1 f7
    have h27 : ρ 27 = .bool true := hh.2.1
    simp only [guarded, h27, isB_bool, beq_self_eq_true, ↓reduceIte]
    exact load_lnum (.tmp _) rfl _ _  h7 (HU.out W hR)
  refine step_const (lnum y) (fun ρ W hR hh => ?_) ?_
  · clear hF
    have h8 : ρ 8 = .pointer (some ⟨q5, 0, none⟩) := Eq.trans hh.1 f8
    have h27 : ρ 27 = .bool true := hh.2.1
    simp only [guarded, h27, isB_bool, beq_self_eq_true, ↓reduceIte]
    exact load_lnum (.tmp _) rfl _ _  h8 (HV.out W hR)
  refine step_const (lnum v) (fun ρ W hR hh => ?_) ?_
  · clear hF
    have h31 : ρ 31 = lnum x := hh.1
    have h32 : ρ 32 = lnum y := hh.2.1
    have h27 : ρ 27 = .bool true := hh.2.2.1
    simp only [guarded, relyAt, h27, isB_bool, beq_self_eq_true, ↓reduceIte]
    go_simp
    exact ⟨Ext.refl _, (HLS.out _).mono fun _ _ h => h.const⟩
  refine step_const (.bool true) (fun ρ W hR hh => ?_) ?_
  · clear hF
    have h30 : ρ 30 = num v := hh.1
    have h33 : ρ 33 = lnum v := hh.2.1
    have h27 : ρ 27 = .bool true := hh.2.2.1
    simp only [guarded, relyAt, h27, isB_bool, beq_self_eq_true, ↓reduceIte]
    go_simp
    exact ⟨Ext.refl _, (HIS.out _).mono fun _ _ h => h.const⟩
  simp only [List.cons_append, List.nil_append]
  refine step_const (.bool true) (fun ρ W hR hh => ?_) ?_
  · clear hF
    have h27 : ρ 27 = .bool true := hh.1
    have h34 : ρ 34 = .bool true := hh.2.1
    simp only [guarded, relyAt]
    go_simp
    first
      | exact Ext.refl _
      | exact ⟨Ext.refl _, rfl⟩
  refine step_const (.bool true) (fun ρ W hR hh => ?_) ?_
  · clear hF
    have h35 : ρ 35 = .bool true := hh.1
    simp only [guarded, relyAt]
    go_simp
    first
      | exact Ext.refl _
      | exact ⟨Ext.refl _, rfl⟩
  refine step_const (num x) (fun ρ W hR hh => ?_) ?_
  · clear hF
    have h5 : ρ 5 = .pointer (some ⟨g4, 0, none⟩) := Eq.trans hh.1 f5
    have h36 : ρ 36 = .bool true := hh.2.1
    simp only [guarded, h36, isB_bool, beq_self_eq_true, ↓reduceIte]
    exact load_num (.tmp _) rfl _ _  h5 (HX.out W hR)
  refine step_const (num y) (fun ρ W hR hh => ?_) ?_
  · clear hF
    have h6 : ρ 6 = .pointer (some ⟨g5, 0, none⟩) := Eq.trans hh.1 f6
    have h36 : ρ 36 = .bool true := hh.2.1
    simp only [guarded, h36, isB_bool, beq_self_eq_true, ↓reduceIte]
    exact load_num (.tmp _) rfl _ _  h6 (HY.out W hR)
  refine step_const (.bool e) (fun ρ W hR hh => ?_) ?_
  · clear hF
    have h37 : ρ 37 = num x := hh.1
    have h38 : ρ 38 = num y := hh.2.1
    have h36 : ρ 36 = .bool true := hh.2.2.1
    simp only [guarded, relyAt, h36, isB_bool, beq_self_eq_true, ↓reduceIte]
    go_simp
    exact ⟨Ext.refl _, (HE.out _).mono fun _ _ h => h.const⟩
  refine step_const (lnum x) (fun ρ W hR hh => ?_) ?_
  · clear hF
    have h7 : ρ 7 = .pointer (some ⟨q4, 0, none⟩) := Eq.trans hh.1 f7
    have h36 : ρ 36 = .bool true := hh.2.1
    simp only [guarded, h36, isB_bool, beq_self_eq_true, ↓reduceIte]
    exact load_lnum (.tmp _) rfl _ _  h7 (HU.out W hR)
  simp only [List.cons_append, List.nil_append]
  refine step_const (lnum y) (fun ρ W hR hh => ?_) ?_
  · clear hF
    have h8 : ρ 8 = .pointer (some ⟨q5, 0, none⟩) := Eq.trans hh.1 f8
    have h36 : ρ 36 = .bool true := hh.2.1
    simp only [guarded, h36, isB_bool, beq_self_eq_true, ↓reduceIte]
    exact load_lnum (.tmp _) rfl _ _  h8 (HV.out W hR)
  refine step_const (.bool e) (fun ρ W hR hh => ?_) ?_
  · clear hF
    have h40 : ρ 40 = lnum x := hh.1
    have h41 : ρ 41 = lnum y := hh.2.1
    have h36 : ρ 36 = .bool true := hh.2.2.1
    simp only [guarded, h36, isB_bool, beq_self_eq_true, ↓reduceIte]
    exact relyAt_eql_agg 32 _ (.tmp _) (.tmp _) rfl _ _ _ hgl h40 h41 (HLE.out W)
  refine step_const (.bool true) (fun ρ W hR hh => ?_) ?_
  · clear hF
    have h39 : ρ 39 = .bool e := hh.1
    have h42 : ρ 42 = .bool e := hh.2.1
    have h36 : ρ 36 = .bool true := hh.2.2.1
    cases e
    all_goals
      simp only [guarded, relyAt, h36, isB_bool, beq_self_eq_true, ↓reduceIte]
      go_simp
      exact Ext.refl _
  refine step_const (.bool true) (fun ρ W hR hh => ?_) ?_
  · clear hF
    have h36 : ρ 36 = .bool true := hh.1
    have h43 : ρ 43 = .bool true := hh.2.1
    simp only [guarded, relyAt]
    go_simp
    first
      | exact Ext.refl _
      | exact ⟨Ext.refl _, rfl⟩
  refine step_const (.bool true) (fun ρ W hR hh => ?_) ?_
  · clear hF
    have h44 : ρ 44 = .bool true := hh.1
    simp only [guarded, relyAt]
    go_simp
    first
      | exact Ext.refl _
      | exact ⟨Ext.refl _, rfl⟩
  refine step_const (num x) (fun ρ W hR hh => ?_) ?_
  · clear hF
    have h5 : ρ 5 = .pointer (some ⟨g4, 0, none⟩) := Eq.trans hh.1 f5
    have h45 : ρ 45 = .bool true := hh.2.1
    simp only [guarded, h45, isB_bool, beq_self_eq_true, ↓reduceIte]
    exact load_num (.tmp _) rfl _ _  h5 (HX.out W hR)
  simp only [List.cons_append, List.nil_append]
  refine step_const (num x) (fun ρ W hR hh => ?_) ?_
  · clear hF
    have h5 : ρ 5 = .pointer (some ⟨g4, 0, none⟩) := Eq.trans hh.1 f5
    have h45 : ρ 45 = .bool true := hh.2.1
    simp only [guarded, h45, isB_bool, beq_self_eq_true, ↓reduceIte]
    exact load_num (.tmp _) rfl _ _  h5 (HX.out W hR)
  refine step_const (.bool true) (fun ρ W hR hh => ?_) ?_
  · clear hF
    have h46 : ρ 46 = num x := hh.1
    have h47 : ρ 47 = num x := hh.2.1
    have h45 : ρ 45 = .bool true := hh.2.2.1
    simp only [guarded, relyAt, h45, isB_bool, beq_self_eq_true, ↓reduceIte]
    go_simp
    exact ⟨Ext.refl _, (HXX.out _).mono fun _ _ h => h.const⟩
  refine step_const (.bool true) (fun ρ W hR hh => ?_) ?_
  · clear hF
    have h45 : ρ 45 = .bool true := hh.1
    have h48 : ρ 48 = .bool true := hh.2.1
    simp only [guarded, relyAt]
    go_simp
    first
      | exact Ext.refl _
      | exact ⟨Ext.refl _, rfl⟩
  simp only [List.cons_append, List.nil_append]
  refine hF.out fun W3 hR3 => ?_
  simp only [List.take_succ_cons, List.take_zero, List.drop_succ_cons, List.drop_zero, fin, forall_eq, Act.put, List.setIfInBounds_toArray, List.set_cons_zero, List.set_cons_succ]
  clear hF
  go_wp2
  exact bodyPost_ret (results_tmp rfl _ _ _) rfl ⟨rfl, Ext.trans (Ext.trans he02 (ext_drew _)) hR3⟩
end Go.Proofs.Ytaojnmjmmfdfjaa.Field
