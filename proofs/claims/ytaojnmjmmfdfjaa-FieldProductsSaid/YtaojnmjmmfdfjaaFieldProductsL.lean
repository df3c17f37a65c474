/- The walk of the law FieldProducts. -/
import Derived.Test.YtaojnmjmmfdfjaaLawKit
import Derived.Test.YtaojnmjmmfdfjaaRelyD
namespace Go.Proofs.Ytaojnmjmmfdfjaa.Field
open Go Go.RowKit
open Go.Proofs.Ytaojnmjmmfdfjaa.Rely
set_option linter.unusedVariables false

set_option maxRecDepth 100000 in
set_option maxHeartbeats 4000000 in
theorem products (xs ys : List Int) (hx : xs.length = 32) (hy : ys.length = 32) (hbx : AreBytes xs) (hby : AreBytes ys) (w : World) :
    Calls Try.prog 5 #[.agg (ints .u8 xs), .agg (ints .u8 ys)] w fun e w' => e = .returned (.bool true) ∧ Below w.heap.size w w' := by
  have HFX : Hid (∀ w, Calls Try.prog 20 #[.agg (ints .u8 xs)] w (Ret w (num (keyNum xs)))) := Lib.hid (from_ xs hx hbx)
  have HFY : Hid (∀ w, Calls Try.prog 20 #[.agg (ints .u8 ys)] w (Ret w (num (keyNum ys)))) := Lib.hid (from_ ys hy hby)
  have HLX : Hid (∀ w, Calls Try.prog 21 #[.agg (ints .u8 xs)] w (Ret w (lnum (keyNum xs)))) := Lib.hid (lFrom xs hx hbx)
  have HLY : Hid (∀ w, Calls Try.prog 21 #[.agg (ints .u8 ys)] w (Ret w (lnum (keyNum ys)))) := Lib.hid (lFrom ys hy hby)
  have iX := keyNum_isN xs
  have iY := keyNum_isN ys
  generalize keyNum xs = x at *
  generalize keyNum ys = y at *
  have HM : Hid (∀ w, Calls Try.prog 30 #[num x, num y] w (Ret w (num (x * y % p)))) := Lib.hid (mul x y iX iY)
  have HLM : Hid (∀ w, Calls Try.prog 31 #[lnum x, lnum y] w (Ret w (lnum (x * y % p)))) := Lib.hid (lMul x y (isN_big iX) (isN_big iY))
  have HIS : Hid (∀ w, Calls Try.prog 19 #[num (x * y % p), lnum (x * y % p)] w (Ret w (.bool true))) := Lib.hid (is_true _ (isN_mod _))
  generalize x * y % p = z at *
  go_enter Try.func5, Try.ntmps5
  go_wp2_with fail
  generalize hW : ((w.alloc (.cells (ints .u8 xs) 23)).alloc (.cells (ints .u8 ys) 23)) = W0
  have hA : W0.heap[w.heap.size]? = some (.cells (ints .u8 xs) 23) := by rw [← hW, Below.heap_alloc _ _ _ (by simp)]; exact heap_alloc_new _ _
  have hB : W0.heap[w.heap.size + 1]? = some (.cells (ints .u8 ys) 23) := by
    rw [← hW]
    have := heap_alloc_new (w.alloc (.cells (ints .u8 xs) 23)) (.cells (ints .u8 ys) 23)
    simpa using this
  have he0 : Ext w W0 := by rw [← hW]; exact Ext.trans (ext_alloc _ _) (ext_alloc _ _)
  clear hW
  have HX : Hid (∀ W, Ext W0.drew W → W.heap[w.heap.size]? = some (.cells (ints .u8 xs) 23)) := Lib.hid fun W hR => row_ext (row_ext hA (ext_drew _)) hR
  have HY : Hid (∀ W, Ext W0.drew W → W.heap[w.heap.size + 1]? = some (.cells (ints .u8 ys) 23)) := Lib.hid fun W hR => row_ext (row_ext hB (ext_drew _)) hR
  refine wp_region_rely Ext 14 19 [⟨none, []⟩, ⟨none, [(5, some 0)]⟩, ⟨some (6, true), [(2, none), (6, some 1)]⟩, ⟨some (6, true), [(7, some 2), (6, some 1)]⟩, ⟨some (6, true), [(3, none), (6, some 1)]⟩, ⟨some (6, true), [(9, some 4), (6, some 1)]⟩, ⟨some (6, true), [(8, some 3), (10, some 5), (6, some 1)]⟩, ⟨some (6, true), [(2, none), (6, some 1)]⟩, ⟨some (6, true), [(12, some 7), (6, some 1)]⟩, ⟨some (6, true), [(3, none), (6, some 1)]⟩, ⟨some (6, true), [(14, some 9), (6, some 1)]⟩, ⟨some (6, true), [(13, some 8), (15, some 10), (6, some 1)]⟩, ⟨some (6, true), [(11, some 6), (16, some 11), (6, some 1)]⟩, ⟨none, [(6, some 1), (17, some 12)]⟩] (by kernel_rfl) (by kernel_rfl) rfl Ext.refl Ext.trans (fun F r0 hr hF => ?_)
  have f2 : r0 2 = .pointer (some ⟨w.heap.size, 0, none⟩) := by rw [hr]; rfl
  have f3 : r0 3 = .pointer (some ⟨w.heap.size + 1, 0, none⟩) := by rw [hr]; rfl
  clear hr
  simp only [List.take_succ_cons, List.take_zero]
  refine step_const (.bool true) (fun ρ W hR hh => ?_) ?_
  · clear hF
    simp only [guarded, relyAt]
    go_simp
    exact ⟨Ext.refl _, (alive _).mono fun _ _ h => h.const⟩
  refine step_const (.bool true) (fun ρ W hR hh => ?_) ?_
  · clear hF
    have h5 : ρ 5 = .bool true := hh.1
    simp only [guarded, relyAt]
    go_simp
    first
      | exact Ext.refl _
      | exact ⟨Ext.refl _, rfl⟩
  refine step_const (.agg (ints .u8 xs)) (fun ρ W hR hh => ?_) ?_
  · clear hF
    have h2 : ρ 2 = .pointer (some ⟨w.heap.size, 0, none⟩) := Eq.trans hh.1 f2
    have h6 : ρ 6 = .bool true := hh.2.1
    simp only [guarded, h6, isB_bool, beq_self_eq_true, ↓reduceIte]
    exact load_key (.tmp _) rfl _ _ hx h2 (HX.out W hR)
  refine step_const (num x) (fun ρ W hR hh => ?_) ?_
  · clear hF
    have h7 : ρ 7 = .agg (ints .u8 xs) := hh.1
    have h6 : ρ 6 = .bool true := hh.2.1
    simp only [guarded, relyAt, h6, isB_bool, beq_self_eq_true, ↓reduceIte]
    go_simp
    exact ⟨Ext.refl _, (HFX.out _).mono fun _ _ h => h.const⟩
  refine step_const (.agg (ints .u8 ys)) (fun ρ W hR hh => ?_) ?_
  · clear hF
    have h3 : ρ 3 = .pointer (some ⟨w.heap.size + 1, 0, none⟩) := Eq.trans hh.1 f3
    have h6 : ρ 6 = .bool true := hh.2.1
    simp only [guarded, h6, isB_bool, beq_self_eq_true, ↓reduceIte]
    exact load_key (.tmp _) rfl _ _ hy h3 (HY.out W hR)
  refine step_const (num y) (fun ρ W hR hh => ?_) ?_
  · clear hF
    have h9 : ρ 9 = .agg (ints .u8 ys) := hh.1
    have h6 : ρ 6 = .bool true := hh.2.1
    simp only [guarded, relyAt, h6, isB_bool, beq_self_eq_true, ↓reduceIte]
    go_simp
    exact ⟨Ext.refl _, (HFY.out _).mono fun _ _ h => h.const⟩
  simp only [List.cons_append, List.nil_append]
  refine step_const (num z) (fun ρ W hR hh => ?_) ?_
  · clear hF
    have h8 : ρ 8 = num x := hh.1
    have h10 : ρ 10 = num y := hh.2.1
    have h6 : ρ 6 = .bool true := hh.2.2.1
    simp only [guarded, relyAt, h6, isB_bool, beq_self_eq_true, ↓reduceIte]
    go_simp
    exact ⟨Ext.refl _, (HM.out _).mono fun _ _ h => h.const⟩
  refine step_const (.agg (ints .u8 xs)) (fun ρ W hR hh => ?_) ?_
  · clear hF
    have h2 : ρ 2 = .pointer (some ⟨w.heap.size, 0, none⟩) := Eq.trans hh.1 f2
    have h6 : ρ 6 = .bool true := hh.2.1
    simp only [guarded, h6, isB_bool, beq_self_eq_true, ↓reduceIte]
    exact load_key (.tmp _) rfl _ _ hx h2 (HX.out W hR)
  refine step_const (lnum x) (fun ρ W hR hh => ?_) ?_
  · clear hF
    have h12 : ρ 12 = .agg (ints .u8 xs) := hh.1
    have h6 : ρ 6 = .bool true := hh.2.1
    simp only [guarded, relyAt, h6, isB_bool, beq_self_eq_true, ↓reduceIte]
    go_simp
    exact ⟨Ext.refl _, (HLX.out _).mono fun _ _ h => h.const⟩
  refine step_const (.agg (ints .u8 ys)) (fun ρ W hR hh => ?_) ?_
  · clear hF
    have h3 : ρ 3 = .pointer (some ⟨w.heap.size + 1, 0, none⟩) := Eq.trans hh.1 f3
    have h6 : ρ 6 = .bool true := hh.2.1
    simp only [guarded, h6, isB_bool, beq_self_eq_true, ↓reduceIte]
    exact load_key (.tmp _) rfl _ _ hy h3 (HY.out W hR)
  refine step_const (lnum y) (fun ρ W hR hh => ?_) ?_
  · clear hF
    have h14 : ρ 14 = .agg (ints .u8 ys) := hh.1
    have h6 : ρ 6 = .bool true := hh.2.1
    simp only [guarded, relyAt, h6, isB_bool, beq_self_eq_true, ↓reduceIte]
    go_simp
    exact ⟨Ext.refl _, (HLY.out _).mono fun _ _ h => h.const⟩
  refine step_const (lnum z) (fun ρ W hR hh => ?_) ?_
  · clear hF
    have h13 : ρ 13 = lnum x := hh.1
    have h15 : ρ 15 = lnum y := hh.2.1
    have h6 : ρ 6 = .bool true := hh.2.2.1
    simp only [guarded, relyAt, h6, isB_bool, beq_self_eq_true, ↓reduceIte]
    go_simp
    exact ⟨Ext.refl _, (HLM.out _).mono fun _ _ h => h.const⟩
  simp only [List.cons_append, List.nil_append]
  refine step_const (.bool true) (fun ρ W hR hh => ?_) ?_
  · clear hF
    have h11 : ρ 11 = num z := hh.1
    have h16 : ρ 16 = lnum z := hh.2.1
    have h6 : ρ 6 = .bool true := hh.2.2.1
    simp only [guarded, relyAt, h6, isB_bool, beq_self_eq_true, ↓reduceIte]
    go_simp
    exact ⟨Ext.refl _, (HIS.out _).mono fun _ _ h => h.const⟩
  refine step_const (.bool true) (fun ρ W hR hh => ?_) ?_
  · clear hF
    have h6 : ρ 6 = .bool true := hh.1
    have h17 : ρ 17 = .bool true := hh.2.1
    simp only [guarded, relyAt]
    go_simp
    first
      | exact Ext.refl _
      | exact ⟨Ext.refl _, rfl⟩
  simp only [List.cons_append, List.nil_append]
  refine hF.out fun W1 hR1 => ?_
  simp only [List.take_succ_cons, List.take_zero, List.drop_succ_cons, List.drop_zero, fin, forall_eq, Act.put, List.setIfInBounds_toArray, List.set_cons_zero, List.set_cons_succ]
  clear hF
  go_wp2
  exact bodyPost_ret (results_tmp rfl _ _ _) rfl ⟨rfl, Ext.trans (Ext.trans he0 (ext_drew _)) hR1⟩
end Go.Proofs.Ytaojnmjmmfdfjaa.Field
