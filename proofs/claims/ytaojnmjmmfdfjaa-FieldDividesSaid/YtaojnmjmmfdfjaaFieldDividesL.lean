/- The walk of the law FieldDivides. -/
import Derived.Test.YtaojnmjmmfdfjaaLawKit
import Derived.Test.YtaojnmjmmfdfjaaPowF
import Derived.Test.YtaojnmjmmfdfjaaRelyD
namespace Go.Proofs.Ytaojnmjmmfdfjaa.Field
open Go Go.RowKit
open Go.Proofs.Ytaojnmjmmfdfjaa.Rely
set_option linter.unusedVariables false

set_option maxRecDepth 100000 in
set_option maxHeartbeats 8000000 in
theorem divides (xs ys : List Int) (hx : xs.length = 32) (hy : ys.length = 32) (hbx : AreBytes xs) (hby : AreBytes ys) (w : World) :
    Calls Try.prog 11 #[.agg (ints .u8 xs), .agg (ints .u8 ys)] w fun e w' => e = .returned (.bool true) ∧ Below w.heap.size w w' := by
  have HFX : Hid (∀ w, Calls Try.prog 20 #[.agg (ints .u8 xs)] w (Ret w (num (keyNum xs)))) := Lib.hid (from_ xs hx hbx)
  have HFY : Hid (∀ w, Calls Try.prog 20 #[.agg (ints .u8 ys)] w (Ret w (num (keyNum ys)))) := Lib.hid (from_ ys hy hby)
  have iX := keyNum_isN xs
  have iY := keyNum_isN ys
  generalize keyNum xs = x at *
  generalize keyNum ys = y at *
  have zN : isN 0 := by unfold isN p; decide
  have HXX : Hid (∀ w, Calls Try.prog 27 #[num x, num x] w (Ret w (num 0))) := Lib.hid fun w => by have := sub x x iX iX w; rw [sub_self_mod] at this; exact this
  have HNX : Hid (∀ w, Calls Try.prog 27 #[num 0, num x] w (Ret w (num ((0 - x) % p)))) := Lib.hid (sub 0 x zN iX)
  have HAX : Hid (∀ w, Calls Try.prog 25 #[num x, num ((0 - x) % p)] w (Ret w (num 0))) := Lib.hid fun w => by have := add x _ iX (isN_mod (0 - x)) w; rw [neg_add] at this; exact this
  have H00 : Hid (∀ w, Calls Try.prog 29 #[num 0, num 0] w (Ret w (.bool true))) := Lib.hid (num_is 0 0 rfl zN)
  have HYT : Hid (y = 0 → ∀ w, Calls Try.prog 29 #[.agg (numA y), .agg #[.int .u64 0, .int .u64 0, .int .u64 0, .int .u64 0]] w (Ret w (.bool true))) := Lib.hid fun h => num_is y 0 h iY
  have HYF : Hid (y ≠ 0 → ∀ w, Calls Try.prog 29 #[.agg (numA y), .agg #[.int .u64 0, .int .u64 0, .int .u64 0, .int .u64 0]] w (Ret w (.bool false))) := Lib.hid fun h => num_isnt y 0 h iY zN
  have HIZ : Hid (y = 0 → ∀ w, Calls Try.prog 32 #[.agg (numA y)] w (Ret w (num 0))) := Lib.hid fun h w => by have := inv y iY w; rw [h, inv_zero] at this; rw [h]; exact this
  have H0Z : Hid (∀ w, Calls Try.prog 29 #[num 0, .agg #[.int .u64 0, .int .u64 0, .int .u64 0, .int .u64 0]] w (Ret w (.bool true))) := Lib.hid (num_is 0 0 rfl zN)
  have HIY : Hid (∀ w, Calls Try.prog 32 #[num y] w (Ret w (num (invN y)))) := Lib.hid (inv y iY)
  have HII : Hid (y ≠ 0 → ∀ w, Calls Try.prog 32 #[num (invN y)] w (Ret w (num y))) := Lib.hid fun h w => by have := inv (invN y) (invN_isN y) w; rw [inv_inv y iY h] at this; exact this
  have HM1 : Hid (∀ w, Calls Try.prog 30 #[num x, num (invN y)] w (Ret w (num (x * invN y % p)))) := Lib.hid (mul x _ iX (invN_isN y))
  have HM2 : Hid (y ≠ 0 → ∀ w, Calls Try.prog 30 #[num (x * invN y % p), num y] w (Ret w (num x))) := Lib.hid fun h w => by have := mul (x * invN y % p) y (isN_mod _) iY w; rw [div_back x y iX iY h] at this; exact this
  have HEX : Hid (∀ w, Calls Try.prog 29 #[num x, num x] w (Ret w (.bool true))) := Lib.hid (num_is x x rfl iX)
  have HEY : Hid (∀ w, Calls Try.prog 29 #[num y, num y] w (Ret w (.bool true))) := Lib.hid (num_is y y rfl iY)
  generalize x * invN y % p = q at *
  generalize invN y = i at *
  generalize (0 - x) % p = nx at *
  go_enter Try.func11, Try.ntmps11
  go_wp2_with fail
  generalize hW : ((w.alloc (.cells (ints .u8 xs) 23)).alloc (.cells (ints .u8 ys) 23)) = W0
  have hA : W0.heap[w.heap.size]? = some (.cells (ints .u8 xs) 23) := by rw [← hW, Below.heap_alloc _ _ _ (by simp)]; exact heap_alloc_new _ _
  have hB : W0.heap[w.heap.size + 1]? = some (.cells (ints .u8 ys) 23) := by
    rw [← hW]
    have := heap_alloc_new (w.alloc (.cells (ints .u8 xs) 23)) (.cells (ints .u8 ys) 23)
    simpa using this
  have he0 : Ext w W0 := by rw [← hW]; exact Ext.trans (ext_alloc _ _) (ext_alloc _ _)
  clear hW
  have HX : Hid (∀ W, Ext W0.drew W → W.heap[w.heap.size]? = some (.cells (ints .u8 xs) 23)) := Lib.hid fun W hR => row_ext (row_ext hA (ext_drew _)) hR
  have HY : Hid (∀ W, Ext W0.drew W → W.heap[w.heap.size + 1]? = some (.cells (ints .u8 ys) 23)) := Lib.hid fun W hR => row_ext (row_ext hB (ext_drew _)) hR
  refine wp_region_relyD Ext 6 53 [⟨none, [(2, none)]⟩, ⟨none, [(7, some 0)]⟩, ⟨none, [(3, none)]⟩, ⟨none, [(9, some 2)]⟩, ⟨none, []⟩, ⟨none, []⟩] [4, 5] (by kernel_rfl) (by kernel_rfl) (by kernel_rfl) rfl Ext.refl Ext.trans (fun F r0 hr hF => ?_)
  have f2 : r0 2 = .pointer (some ⟨w.heap.size, 0, none⟩) := by rw [hr]; rfl
  have f3 : r0 3 = .pointer (some ⟨w.heap.size + 1, 0, none⟩) := by rw [hr]; rfl
  clear hr
  simp only [List.take_succ_cons, List.take_zero]
  refine step_const (.agg (ints .u8 xs)) (fun ρ W hR hh => ?_) ?_
  · clear hF
    have h2 : ρ 2 = .pointer (some ⟨w.heap.size, 0, none⟩) := Eq.trans hh.1 f2
    exact load_key (.tmp _) rfl _ _ hx h2 (HX.out W hR)
  refine step_const (num x) (fun ρ W hR hh => ?_) ?_
  · clear hF
    have h7 : ρ 7 = .agg (ints .u8 xs) := hh.1
    simp only [guarded, relyAt]
    go_simp
    exact ⟨Ext.refl _, (HFX.out _).mono fun _ _ h => h.const⟩
  refine step_const (.agg (ints .u8 ys)) (fun ρ W hR hh => ?_) ?_
  · clear hF
    have h3 : ρ 3 = .pointer (some ⟨w.heap.size + 1, 0, none⟩) := Eq.trans hh.1 f3
    exact load_key (.tmp _) rfl _ _ hy h3 (HY.out W hR)
  refine step_const (num y) (fun ρ W hR hh => ?_) ?_
  · clear hF
    have h9 : ρ 9 = .agg (ints .u8 ys) := hh.1
    simp only [guarded, relyAt]
    go_simp
    exact ⟨Ext.refl _, (HFY.out _).mono fun _ _ h => h.const⟩
  refine step_fact (FreshT 29 4 W0.heap.size) (freshT_stable _ _ _) (fun ρ W hR hh => ?_) ?_
  · have hsz : W0.heap.size ≤ W.heap.size := hR.size
    simp only [guarded, relyAt]
    go_simp
    exact ⟨ext_alloc _ _, _, rfl, by omega, by simp, _, rfl, heap_alloc_new _ _⟩
  refine step_fact (FreshT 29 4 W0.heap.size) (freshT_stable _ _ _) (fun ρ W hR hh => ?_) ?_
  · have hsz : W0.heap.size ≤ W.heap.size := hR.size
    simp only [guarded, relyAt]
    go_simp
    exact ⟨ext_alloc _ _, _, rfl, by omega, by simp, _, rfl, heap_alloc_new _ _⟩
  simp only [List.cons_append, List.nil_append]
  refine hF.out ?_ fun W1 hR1 => ?_
  · intro j hj u V h
    simp only [List.mem_cons, List.not_mem_nil, or_false] at hj
    have : ∃ t m, FreshT t m W0.heap.size u V := by
      rcases hj with rfl | rfl <;> exact ⟨_, _, h⟩
    obtain ⟨t, m, g, h1, _, h3, _⟩ := this
    exact ⟨g, h1, h3⟩
  simp only [List.take_succ_cons, List.take_zero, List.drop_succ_cons, List.drop_zero, finP]
  intro v0 h0 d0 v1 h1 d1 v2 h2 d2 v3 h3 d3 v4 h4 d4 v5 h5 d5
  have n4_5 : v4 ≠ v5 := d5 (by decide) v4 (by simp)
  clear d0 d1 d2 d3 d4 d5
  subst h0 h1 h2 h3
  obtain ⟨g4, rfl, l4, u4, c4, s4, k4⟩ := h4
  obtain ⟨g5, rfl, l5, u5, c5, s5, k5⟩ := h5
  have m4_5 : g4 ≠ g5 := fun e => n4_5 (by rw [e])
  clear n4_5
  simp only [Act.put, List.setIfInBounds_toArray, List.set_cons_zero, List.set_cons_succ]
  refine wpList_store_row rfl 29 _ _ rfl g4 (numA x) rfl rfl 29 _ k4 infoNum s4 (numA_one _) ?_
  refine wpList_store_row rfl 29 _ _ rfl g5 (numA y) rfl rfl 29 _ ((setRow_other _ _ _ _ (Ne.symm m4_5)).trans k5) infoNum s5 (numA_one _) ?_
  have hE1 := Ext.trans (ext_drew W0) hR1
  have hX1 := (setRow_other (W1.setRow g4 (numA x)) g5 g4 (numA y) m4_5).trans (setRow_heap _ _ _ _ _ _ k4)
  have hY1 := setRow_heap _ _ _ (numA y) _ _ ((setRow_other W1 g4 g5 (numA x) (Ne.symm m4_5)).trans k5)
  have he1 : Ext w ((W1.setRow g4 (numA x)).setRow g5 (numA y)) := Ext.trans he0 (ext_setRow (ext_setRow hE1 l4 _) l5 _)
  clear k4 k5 s4 s5 hR1 hE1 HX HY hA hB he0 f2 f3
  generalize (W1.setRow g4 (numA x)).setRow g5 (numA y) = V1 at *
  have HX : Hid (∀ W, Ext V1.drew W → W.heap[g4]? = some (.cells (numA x) 29)) := Lib.hid fun W hR => row_ext (row_ext hX1 (ext_drew _)) hR
  have HY : Hid (∀ W, Ext V1.drew W → W.heap[g5]? = some (.cells (numA y) 29)) := Lib.hid fun W hR => row_ext (row_ext hY1 (ext_drew _)) hR
  go_wp2
  refine wp_region_rely Ext 19 53 [⟨none, []⟩, ⟨none, [(11, some 0)]⟩, ⟨none, [(12, some 1)]⟩, ⟨some (13, false), [(5, none), (13, some 2)]⟩, ⟨some (13, false), [(5, none), (13, some 2)]⟩, ⟨some (13, false), [(14, some 3), (15, some 4), (13, some 2)]⟩, ⟨some (13, false), [(13, some 2)]⟩, ⟨some (13, false), [(16, some 5), (17, some 6), (13, some 2)]⟩, ⟨some (13, false), [(18, some 7), (13, some 2)]⟩, ⟨none, [(13, some 2), (19, some 8)]⟩, ⟨none, [(20, some 9)]⟩, ⟨some (21, false), [(5, none), (21, some 10)]⟩, ⟨some (21, false), [(21, some 10)]⟩, ⟨some (21, false), [(5, none), (21, some 10)]⟩, ⟨some (21, false), [(23, some 12), (24, some 13), (21, some 10)]⟩, ⟨some (21, false), [(22, some 11), (25, some 14), (21, some 10)]⟩, ⟨some (21, false), [(21, some 10)]⟩, ⟨some (21, false), [(26, some 15), (27, some 16), (21, some 10)]⟩, ⟨some (21, false), [(28, some 17), (21, some 10)]⟩] (by kernel_rfl) (by kernel_rfl) rfl Ext.refl Ext.trans (fun F r0 hr hF => ?_)
  have f5 : r0 5 = .pointer (some ⟨g4, 0, none⟩) := by rw [hr]; rfl
  clear hr
  simp only [List.take_succ_cons, List.take_zero]
  refine step_const (.bool true) (fun ρ W hR hh => ?_) ?_
  · clear hF
    simp only [guarded, relyAt]
    go_simp
    exact ⟨Ext.refl _, (alive _).mono fun _ _ h => h.const⟩
  refine step_const (.bool false) (fun ρ W hR hh => ?_) ?_
  · clear hF
    have h11 : ρ 11 = .bool true := hh.1
    simp only [guarded, relyAt]
    go_simp
    first
      | exact Ext.refl _
      | exact ⟨Ext.refl _, rfl⟩
  refine step_const (.bool false) (fun ρ W hR hh => ?_) ?_
  · clear hF
    have h12 : ρ 12 = .bool false := hh.1
    simp only [guarded, relyAt]
    go_simp
    first
      | exact Ext.refl _
      | exact ⟨Ext.refl _, rfl⟩
  refine step_const (num x) (fun ρ W hR hh => ?_) ?_
  · clear hF
    have h5 : ρ 5 = .pointer (some ⟨g4, 0, none⟩) := Eq.trans hh.1 f5
    have h13 : ρ 13 = .bool false := hh.2.1
    simp only [guarded, h13, isB_bool, beq_self_eq_true, ↓reduceIte]
    exact load_num (.tmp _) rfl _ _  h5 (HX.out W hR)
  refine step_const (num x) (fun ρ W hR hh => ?_) ?_
  · clear hF
    have h5 : ρ 5 = .pointer (some ⟨g4, 0, none⟩) := Eq.trans hh.1 f5
    have h13 : ρ 13 = .bool false := hh.2.1
    simp only [guarded, h13, isB_bool, beq_self_eq_true, ↓reduceIte]
    exact load_num (.tmp _) rfl _ _  h5 (HX.out W hR)
  refine step_const (num 0) (fun ρ W hR hh => ?_) ?_
  · clear hF
    have h14 : ρ 14 = num x := hh.1
    have h15 : ρ 15 = num x := hh.2.1
    have h13 : ρ 13 = .bool false := hh.2.2.1
    simp only [guarded, relyAt, h13, isB_bool, beq_self_eq_true, ↓reduceIte]
    go_simp
    exact ⟨Ext.refl _, (HXX.out _).mono fun _ _ h => h.const⟩
  simp only [List.cons_append, List.nil_append]
  refine step_const (num 0) (fun ρ W hR hh => ?_) ?_
  · clear hF
    have h13 : ρ 13 = .bool false := hh.1
    simp only [guarded, relyAt, h13, isB_bool, beq_self_eq_true, ↓reduceIte]
    go_simp
    first
      | exact Ext.refl _
      | exact ⟨Ext.refl _, rfl⟩
  refine step_const (.bool true) (fun ρ W hR hh => ?_) ?_
  · clear hF
    have h16 : ρ 16 = num 0 := hh.1
    have h17 : ρ 17 = num 0 := hh.2.1
    have h13 : ρ 13 = .bool false := hh.2.2.1
    simp only [guarded, relyAt, h13, isB_bool, beq_self_eq_true, ↓reduceIte]
    go_simp
    exact ⟨Ext.refl _, (H00.out _).mono fun _ _ h => h.const⟩
  refine step_const (.bool false) (fun ρ W hR hh => ?_) ?_
  · clear hF
    have h18 : ρ 18 = .bool true := hh.1
    have h13 : ρ 13 = .bool false := hh.2.1
    simp only [guarded, relyAt, h13, isB_bool, beq_self_eq_true, ↓reduceIte]
    go_simp
    first
      | exact Ext.refl _
      | exact ⟨Ext.refl _, rfl⟩
  refine step_const (.bool false) (fun ρ W hR hh => ?_) ?_
  · clear hF
    have h13 : ρ 13 = .bool false := hh.1
    have h19 : ρ 19 = .bool false := hh.2.1
    simp only [guarded, relyAt]
    go_simp
    first
      | exact Ext.refl _
      | exact ⟨Ext.refl _, rfl⟩
  refine step_const (.bool false) (fun ρ W hR hh => ?_) ?_
  · clear hF
    have h20 : ρ 20 = .bool false := hh.1
    simp only [guarded, relyAt]
    go_simp
    first
      | exact Ext.refl _
      | exact ⟨Ext.refl _, rfl⟩
  refine step_const (num x) (fun ρ W hR hh => ?_) ?_
  · clear hF
    have h5 : ρ 5 = .pointer (some ⟨g4, 0, none⟩) := Eq.trans hh.1 f5
    have h21 : ρ 21 = .bool false := hh.2.1
    simp only [guarded, h21, isB_bool, beq_self_eq_true, ↓reduceIte]
    exact load_num (.tmp _) rfl _ _  h5 (HX.out W hR)
  simp only [List.cons_append, List.nil_append]
  refine step_const (num 0) (fun ρ W hR hh => ?_) ?_
  · clear hF
    have h21 : ρ 21 = .bool false := hh.1
    simp only [guarded, relyAt, h21, isB_bool, beq_self_eq_true, ↓reduceIte]
    go_simp
    first
      | exact Ext.refl _
      | exact ⟨Ext.refl _, rfl⟩
  refine step_const (num x) (fun ρ W hR hh => ?_) ?_
  · clear hF
    have h5 : ρ 5 = .pointer (some ⟨g4, 0, none⟩) := Eq.trans hh.1 f5
    have h21 : ρ 21 = .bool false := hh.2.1
    simp only [guarded, h21, isB_bool, beq_self_eq_true, ↓reduceIte]
    exact load_num (.tmp _) rfl _ _  h5 (HX.out W hR)
  refine step_const (num nx) (fun ρ W hR hh => ?_) ?_
  · clear hF
    have h23 : ρ 23 = num 0 := hh.1
    have h24 : ρ 24 = num x := hh.2.1
    have h21 : ρ 21 = .bool false := hh.2.2.1
    simp only [guarded, relyAt, h21, isB_bool, beq_self_eq_true, ↓reduceIte]
    go_simp
    exact ⟨Ext.refl _, (HNX.out _).mono fun _ _ h => h.const⟩
  refine step_const (num 0) (fun ρ W hR hh => ?_) ?_
  · clear hF
    have h22 : ρ 22 = num x := hh.1
    have h25 : ρ 25 = num nx := hh.2.1
    have h21 : ρ 21 = .bool false := hh.2.2.1
    simp only [guarded, relyAt, h21, isB_bool, beq_self_eq_true, ↓reduceIte]
    go_simp
    exact ⟨Ext.refl _, (HAX.out _).mono fun _ _ h => h.const⟩
  refine step_const (num 0) (fun ρ W hR hh => ?_) ?_
  · clear hF
    have h21 : ρ 21 = .bool false := hh.1
    simp only [guarded, relyAt, h21, isB_bool, beq_self_eq_true, ↓reduceIte]
    go_simp
    first
      | exact Ext.refl _
      | exact ⟨Ext.refl _, rfl⟩
  refine step_const (.bool true) (fun ρ W hR hh => ?_) ?_
  · clear hF
    have h26 : ρ 26 = num 0 := hh.1
    have h27 : ρ 27 = num 0 := hh.2.1
    have h21 : ρ 21 = .bool false := hh.2.2.1
    simp only [guarded, relyAt, h21, isB_bool, beq_self_eq_true, ↓reduceIte]
    go_simp
    exact ⟨Ext.refl _, (H00.out _).mono fun _ _ h => h.const⟩
  simp only [List.cons_append, List.nil_append]
  refine step_const (.bool false) (fun ρ W hR hh => ?_) ?_
  · clear hF
    have h28 : ρ 28 = .bool true := hh.1
    have h21 : ρ 21 = .bool false := hh.2.1
    simp only [guarded, relyAt, h21, isB_bool, beq_self_eq_true, ↓reduceIte]
    go_simp
    first
      | exact Ext.refl _
      | exact ⟨Ext.refl _, rfl⟩
  simp only [List.cons_append, List.nil_append]
  refine hF.out fun W2 hR2 => ?_
  simp only [List.take_succ_cons, List.take_zero, List.drop_succ_cons, List.drop_zero, fin, forall_eq, Act.put, List.setIfInBounds_toArray, List.set_cons_zero, List.set_cons_succ]
  clear hF
  have hX2 := row_ext (row_ext hX1 (ext_drew _)) hR2
  have hY2 := row_ext (row_ext hY1 (ext_drew _)) hR2
  have he2 := Ext.trans (Ext.trans he1 (ext_drew _)) hR2
  clear HX HY hX1 hY1 he1 hR2
  by_cases hz : y = 0
  · have HZ := Lib.hid hz
    have HYT' := Lib.hid (HYT.out hz)
    have HIZ' := Lib.hid (HIZ.out hz)
    clear hz HYT HYF HIZ HII HM2
    go_wp2_with first
      | (go_at_call 29
         (with_reducible refine (HYT'.out _).mono ?_)
         rintro e w3 ⟨rfl, hw3⟩
         have hY3 := row_ext hY2 hw3
         have he3 := Ext.trans he2 hw3
         clear hY2 he2 hw3 HYT')
      | (go_at_call 29
         (with_reducible refine (H0Z.out _).mono ?_)
         rintro e w5 ⟨rfl, hw5⟩)
      | (go_at_call 32
         (with_reducible refine (HIZ'.out _).mono ?_)
         rintro e w4 ⟨rfl, hw4⟩)
      | (with_reducible show wpList _ _ _ ((⟨_, .load 29 _, _, _, _, _⟩ : Oper) :: _) _ _
         refine wpList_load_row rfl 29 _ rfl g5 rfl 29 _ (0, 0) _ hY2 Try.underlying29 rfl infoNum ?_)
      | (with_reducible show wpList _ _ _ ((⟨_, .load 29 _, _, _, _, _⟩ : Oper) :: _) _ _
         refine wpList_load_row rfl 29 _ rfl g5 rfl 29 _ (0, 0) _ hY3 Try.underlying29 rfl infoNum ?_)
    exact bodyPost_ret (results_tmp rfl _ _ _) rfl ⟨rfl, Ext.trans (Ext.trans he3 hw4) hw5⟩
  · have HZ := Lib.hid hz
    have HYF' := Lib.hid (HYF.out hz)
    clear hz HYT HYF HIZ
    go_wp2_with first
      | (go_at_call 29
         (with_reducible refine (HYF'.out _).mono ?_)
         rintro e w3 ⟨rfl, hw3⟩
         have hX3 := row_ext hX2 hw3
         have hY3 := row_ext hY2 hw3
         have he3 := Ext.trans he2 hw3
         clear hX2 hY2 he2 hw3 HYF')
      | (with_reducible show wpList _ _ _ ((⟨_, .load 29 _, _, _, _, _⟩ : Oper) :: _) _ _
         refine wpList_load_row rfl 29 _ rfl g5 rfl 29 _ (0, 0) _ hY2 Try.underlying29 rfl infoNum ?_)
    have HX : Hid (∀ W, Ext w3.drew W → W.heap[g4]? = some (.cells (numA x) 29)) := Lib.hid fun W hR => row_ext (row_ext hX3 (ext_drew _)) hR
    have HY : Hid (∀ W, Ext w3.drew W → W.heap[g5]? = some (.cells (numA y) 29)) := Lib.hid fun W hR => row_ext (row_ext hY3 (ext_drew _)) hR
    refine wp_region_rely Ext 15 53 [⟨none, [(5, none)]⟩, ⟨none, [(6, none)]⟩, ⟨none, [(39, some 1)]⟩, ⟨none, [(38, some 0), (40, some 2)]⟩, ⟨none, [(6, none)]⟩, ⟨none, [(41, some 3), (42, some 4)]⟩, ⟨none, [(5, none)]⟩, ⟨none, [(43, some 5), (44, some 6)]⟩, ⟨none, [(45, some 7)]⟩, ⟨some (46, true), [(6, none), (46, some 8)]⟩, ⟨some (46, true), [(47, some 9), (46, some 8)]⟩, ⟨some (46, true), [(48, some 10), (46, some 8)]⟩, ⟨some (46, true), [(6, none), (46, some 8)]⟩, ⟨some (46, true), [(49, some 11), (50, some 12), (46, some 8)]⟩, ⟨none, [(46, some 8), (51, some 13)]⟩] (by kernel_rfl) (by kernel_rfl) rfl Ext.refl Ext.trans (fun F r0 hr hF => ?_)
    have f5 : r0 5 = .pointer (some ⟨g4, 0, none⟩) := by rw [hr]; rfl
    have f6 : r0 6 = .pointer (some ⟨g5, 0, none⟩) := by rw [hr]; rfl
    clear hr
    simp only [List.take_succ_cons, List.take_zero]
    refine step_const (num x) (fun ρ W hR hh => ?_) ?_
    · clear hF
      have h5 : ρ 5 = .pointer (some ⟨g4, 0, none⟩) := Eq.trans hh.1 f5
      exact load_num (.tmp _) rfl _ _  h5 (HX.out W hR)
    refine step_const (num y) (fun ρ W hR hh => ?_) ?_
    · clear hF
      have h6 : ρ 6 = .pointer (some ⟨g5, 0, none⟩) := Eq.trans hh.1 f6
      exact load_num (.tmp _) rfl _ _  h6 (HY.out W hR)
    refine step_const (num i) (fun ρ W hR hh => ?_) ?_
    · clear hF
      have h39 : ρ 39 = num y := hh.1
      simp only [guarded, relyAt]
      go_simp
      exact ⟨Ext.refl _, (HIY.out _).mono fun _ _ h => h.const⟩
    refine step_const (num q) (fun ρ W hR hh => ?_) ?_
    · clear hF
      have h38 : ρ 38 = num x := hh.1
      have h40 : ρ 40 = num i := hh.2.1
      simp only [guarded, relyAt]
      go_simp
      exact ⟨Ext.refl _, (HM1.out _).mono fun _ _ h => h.const⟩
    refine step_const (num y) (fun ρ W hR hh => ?_) ?_
    · clear hF
      have h6 : ρ 6 = .pointer (some ⟨g5, 0, none⟩) := Eq.trans hh.1 f6
      exact load_num (.tmp _) rfl _ _  h6 (HY.out W hR)
    refine step_const (num x) (fun ρ W hR hh => ?_) ?_
    · clear hF
      have h41 : ρ 41 = num q := hh.1
      have h42 : ρ 42 = num y := hh.2.1
      simp only [guarded, relyAt]
      go_simp
      exact ⟨Ext.refl _, ((HM2.out HZ.out) _).mono fun _ _ h => h.const⟩
    simp only [List.cons_append, List.nil_append]
    refine step_const (num x) (fun ρ W hR hh => ?_) ?_
    · clear hF
      have h5 : ρ 5 = .pointer (some ⟨g4, 0, none⟩) := Eq.trans hh.1 f5
      exact load_num (.tmp _) rfl _ _  h5 (HX.out W hR)
    refine step_const (.bool true) (fun ρ W hR hh => ?_) ?_
    · clear hF
      have h43 : ρ 43 = num x := hh.1
      have h44 : ρ 44 = num x := hh.2.1
      simp only [guarded, relyAt]
      go_simp
      exact ⟨Ext.refl _, (HEX.out _).mono fun _ _ h => h.const⟩
    refine step_const (.bool true) (fun ρ W hR hh => ?_) ?_
    · clear hF
      have h45 : ρ 45 = .bool true := hh.1
      simp only [guarded, relyAt]
      go_simp
      first
        | exact Ext.refl _
        | exact ⟨Ext.refl _, rfl⟩
    refine step_const (num y) (fun ρ W hR hh => ?_) ?_
    · clear hF
      have h6 : ρ 6 = .pointer (some ⟨g5, 0, none⟩) := Eq.trans hh.1 f6
      have h46 : ρ 46 = .bool true := hh.2.1
      simp only [guarded, h46, isB_bool, beq_self_eq_true, ↓reduceIte]
      exact load_num (.tmp _) rfl _ _  h6 (HY.out W hR)
    refine step_const (num i) (fun ρ W hR hh => ?_) ?_
    · clear hF
      have h47 : ρ 47 = num y := hh.1
      have h46 : ρ 46 = .bool true := hh.2.1
      simp only [guarded, relyAt, h46, isB_bool, beq_self_eq_true, ↓reduceIte]
      go_simp
      exact ⟨Ext.refl _, (HIY.out _).mono fun _ _ h => h.const⟩
    refine step_const (num y) (fun ρ W hR hh => ?_) ?_
    · clear hF
      have h48 : ρ 48 = num i := hh.1
      have h46 : ρ 46 = .bool true := hh.2.1
      simp only [guarded, relyAt, h46, isB_bool, beq_self_eq_true, ↓reduceIte]
      go_simp
      exact ⟨Ext.refl _, ((HII.out HZ.out) _).mono fun _ _ h => h.const⟩
    simp only [List.cons_append, List.nil_append]
    refine step_const (num y) (fun ρ W hR hh => ?_) ?_
    · clear hF
      have h6 : ρ 6 = .pointer (some ⟨g5, 0, none⟩) := Eq.trans hh.1 f6
      have h46 : ρ 46 = .bool true := hh.2.1
      simp only [guarded, h46, isB_bool, beq_self_eq_true, ↓reduceIte]
      exact load_num (.tmp _) rfl _ _  h6 (HY.out W hR)
    refine step_const (.bool true) (fun ρ W hR hh => ?_) ?_
    · clear hF
      have h49 : ρ 49 = num y := hh.1
      have h50 : ρ 50 = num y := hh.2.1
      have h46 : ρ 46 = .bool true := hh.2.2.1
      simp only [guarded, relyAt, h46, isB_bool, beq_self_eq_true, ↓reduceIte]
      go_simp
      exact ⟨Ext.refl _, (HEY.out _).mono fun _ _ h => h.const⟩
    refine step_const (.bool true) (fun ρ W hR hh => ?_) ?_
    · clear hF
      have h46 : ρ 46 = .bool true := hh.1
      have h51 : ρ 51 = .bool true := hh.2.1
      simp only [guarded, relyAt]
      go_simp
      first
        | exact Ext.refl _
        | exact ⟨Ext.refl _, rfl⟩
    simp only [List.cons_append, List.nil_append]
    refine hF.out fun W4 hR4 => ?_
    simp only [List.take_succ_cons, List.take_zero, List.drop_succ_cons, List.drop_zero, fin, forall_eq, Act.put, List.setIfInBounds_toArray, List.set_cons_zero, List.set_cons_succ]
    clear hF
    go_wp2
    exact bodyPost_ret (results_tmp rfl _ _ _) rfl ⟨rfl, Ext.trans (Ext.trans he3 (ext_drew _)) hR4⟩
end Go.Proofs.Ytaojnmjmmfdfjaa.Field
