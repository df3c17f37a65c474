/- The walk of the law FieldInverse. -/
import Derived.Test.YtaojnmjmmfdfjaaLawKit
import Derived.Test.YtaojnmjmmfdfjaaPowD
import Derived.Test.YtaojnmjmmfdfjaaPowE
import Derived.Test.YtaojnmjmmfdfjaaRelyD
namespace Go.Proofs.Ytaojnmjmmfdfjaa.Field
open Go Go.RowKit
open Go.Proofs.Ytaojnmjmmfdfjaa.Rely
set_option linter.unusedVariables false

set_option maxRecDepth 100000 in
set_option maxHeartbeats 8000000 in
theorem inverse (xs : List Int) (hx : xs.length = 32) (hbx : AreBytes xs) (w : World) :
    Calls Try.prog 6 #[.agg (ints .u8 xs)] w fun e w' => e = .returned (.bool true) ∧ Below w.heap.size w w' := by
  have HFX : Hid (∀ w, Calls Try.prog 20 #[.agg (ints .u8 xs)] w (Ret w (num (keyNum xs)))) := Lib.hid (from_ xs hx hbx)
  have HLX : Hid (∀ w, Calls Try.prog 21 #[.agg (ints .u8 xs)] w (Ret w (lnum (keyNum xs)))) := Lib.hid (lFrom xs hx hbx)
  have iX := keyNum_isN xs
  generalize keyNum xs = x at *
  have HI : Hid (∀ w, Calls Try.prog 32 #[.agg (numA x)] w (Ret w (num (invN x)))) := Lib.hid (inv x iX)
  have HLI : Hid (∀ w, Calls Try.prog 33 #[lnum x] w (Ret w (lnum (invN x)))) := Lib.hid (lInv x iX)
  have HIS : Hid (∀ w, Calls Try.prog 19 #[num (invN x), lnum (invN x)] w (Ret w (.bool true))) := Lib.hid (is_true _ (invN_isN x))
  have HS0 : Hid (∀ w, Calls Try.prog 22 #[.int .i64 0] w (Ret w (num 0))) := Lib.hid fun w => by have := small_pos 0 (by decide) w; rw [show (0 : Int) % p = 0 by decide] at this; exact this
  have HS1 : Hid (∀ w, Calls Try.prog 22 #[.int .i64 1] w (Ret w (num 1))) := Lib.hid fun w => by have := small_pos 1 (by decide) w; rw [show (1 : Int) % p = 1 by decide] at this; exact this
  have HM : Hid (x ≠ 0 → ∀ w, Calls Try.prog 30 #[num x, num (invN x)] w (Ret w (num 1))) := Lib.hid fun h w => by
    have := mul x (invN x) iX (invN_isN x) w
    rw [inv_mul x iX h] at this
    exact this
  have HE1 : Hid (∀ w, Calls Try.prog 29 #[num 1, num 1] w (Ret w (.bool true))) := Lib.hid (num_is 1 1 rfl one_isN)
  have HT : Hid (x = 0 → ∀ w, Calls Try.prog 29 #[num x, num 0] w (Ret w (.bool true))) := Lib.hid fun h => num_is x 0 h iX
  have HF : Hid (x ≠ 0 → ∀ w, Calls Try.prog 29 #[num x, num 0] w (Ret w (.bool false))) := Lib.hid fun h => num_isnt x 0 h iX (by unfold isN p; decide)
  generalize invN x = i at *
  go_enter Try.func6, Try.ntmps6
  go_wp2_with first
    | (go_at_call 20
       (with_reducible refine (HFX.out _).mono ?_)
       rintro e w1 ⟨rfl, hw1⟩
       clear HFX)
    | (with_reducible show wpList _ _ _ ((⟨_, .load 23 _, _, _, _, _⟩ : Oper) :: _) _ _
       refine wpList_load_row rfl 23 _ rfl w.heap.size rfl 23 _ (0, 0) _ (heap_alloc_new _ _) Try.underlying23 rfl (by rw [infoKey, ints_size, hx]) ?_)
    | (with_reducible show wpList _ _ _ ((⟨_, .store 29 _ _, _, _, _, _⟩ : Oper) :: _) _ _
       refine wpList_store_row rfl 29 _ _ rfl w1.heap.size (numA x) rfl rfl 29 _ (heap_alloc_new _ _) infoNum rfl (numA_one _) ?_
       have hX := setRow_heap _ _ _ (numA x) _ _ (heap_alloc_new w1 (.cells #[.int .u64 0, .int .u64 0, .int .u64 0, .int .u64 0] 29))
       have hE := ext_setRow (ext_alloc w1 (.cells #[.int .u64 0, .int .u64 0, .int .u64 0, .int .u64 0] 29)) (Nat.le_refl _) (numA x)
       have hA := row_ext (row_ext (heap_alloc_new w (.cells (ints .u8 xs) 23)) hw1) hE
       have he := Ext.trans (Ext.trans (ext_alloc w (.cells (ints .u8 xs) 23)) hw1) hE
       have hgx : w.heap.size < w1.heap.size := by have := hw1.size; simp at this; omega
       generalize (w1.alloc (.cells #[.int .u64 0, .int .u64 0, .int .u64 0, .int .u64 0] 29)).setRow w1.heap.size (numA x) = V1 at *
       generalize w1.heap.size = gx at *
       clear hw1 hE)
    | (go_at_call 32
       (with_reducible refine (HI.out _).mono ?_)
       rintro e w2 ⟨rfl, hw2⟩
       have hX2 := row_ext hX hw2
       have hA2 := row_ext hA hw2
       have he2 := Ext.trans he hw2
       clear HI hX hA he hw2)
    | (with_reducible show wpList _ _ _ ((⟨_, .load 29 _, _, _, _, _⟩ : Oper) :: _) _ _
       refine wpList_load_row rfl 29 _ rfl gx rfl 29 _ (0, 0) _ hX Try.underlying29 rfl infoNum ?_)
    | (with_reducible show wpList _ _ _ ((⟨_, .store 29 _ _, _, _, _, _⟩ : Oper) :: _) _ _
       refine wpList_store_row rfl 29 _ _ rfl w2.heap.size (numA i) rfl rfl 29 _ (heap_alloc_new _ _) infoNum rfl (numA_one _) ?_
       have hI3 := setRow_heap _ _ _ (numA i) _ _ (heap_alloc_new w2 (.cells #[.int .u64 0, .int .u64 0, .int .u64 0, .int .u64 0] 29))
       have hE := ext_setRow (ext_alloc w2 (.cells #[.int .u64 0, .int .u64 0, .int .u64 0, .int .u64 0] 29)) (Nat.le_refl _) (numA i)
       have hX3 := row_ext hX2 hE
       have hA3 := row_ext hA2 hE
       have he3 := Ext.trans he2 hE
       generalize (w2.alloc (.cells #[.int .u64 0, .int .u64 0, .int .u64 0, .int .u64 0] 29)).setRow w2.heap.size (numA i) = V3 at *
       generalize w2.heap.size = gi at *
       clear hE hX2 hA2 he2)
  have HXX : Hid (∀ W, Ext V3.drew W → W.heap[gx]? = some (.cells (numA x) 29)) := Lib.hid fun W hR => row_ext (row_ext hX3 (ext_drew _)) hR
  have HII : Hid (∀ W, Ext V3.drew W → W.heap[gi]? = some (.cells (numA i) 29)) := Lib.hid fun W hR => row_ext (row_ext hI3 (ext_drew _)) hR
  have HAA : Hid (∀ W, Ext V3.drew W → W.heap[w.heap.size]? = some (.cells (ints .u8 xs) 23)) := Lib.hid fun W hR => row_ext (row_ext hA3 (ext_drew _)) hR
  by_cases hz : x = 0
  · have HZ := Lib.hid hz
    clear hz
    refine wp_region_rely Ext 20 29 [⟨none, []⟩, ⟨none, [(9, some 0)]⟩, ⟨some (10, true), [(4, none), (10, some 1)]⟩, ⟨some (10, true), [(1, none), (10, some 1)]⟩, ⟨some (10, true), [(12, some 3), (10, some 1)]⟩, ⟨some (10, true), [(13, some 4), (10, some 1)]⟩, ⟨some (10, true), [(11, some 2), (14, some 5), (10, some 1)]⟩, ⟨none, [(10, some 1), (15, some 6)]⟩, ⟨none, [(16, some 7)]⟩, ⟨some (17, true), [(3, none), (17, some 8)]⟩, ⟨some (17, true), [(17, some 8)]⟩, ⟨some (17, true), [(18, some 9), (19, some 10), (17, some 8)]⟩, ⟨some (17, true), [(20, some 11), (17, some 8)]⟩, ⟨some (21, false), [(3, none), (21, some 12)]⟩, ⟨some (21, false), [(4, none), (21, some 12)]⟩, ⟨some (21, false), [(22, some 13), (23, some 14), (21, some 12)]⟩, ⟨some (21, false), [(21, some 12)]⟩, ⟨some (21, false), [(24, some 15), (25, some 16), (21, some 12)]⟩, ⟨some (17, true), [(21, some 12), (26, some 17), (17, some 8)]⟩, ⟨none, [(17, some 8), (27, some 18)]⟩] (by kernel_rfl) (by kernel_rfl) rfl Ext.refl Ext.trans (fun F r0 hr hF => ?_)
    have f4 : r0 4 = .pointer (some ⟨gi, 0, none⟩) := by rw [hr]; rfl
    have f1 : r0 1 = .pointer (some ⟨w.heap.size, 0, none⟩) := by rw [hr]; rfl
    have f3 : r0 3 = .pointer (some ⟨gx, 0, none⟩) := by rw [hr]; rfl
    clear hr
    simp only [List.take_succ_cons, List.take_zero]
    refine step_const (.bool true) (fun ρ W hR hh => ?_) ?_
    · clear hF
      simp only [guarded, relyAt]
      go_simp
      exact ⟨Ext.refl _, (alive _).mono fun _ _ h => h.const⟩
    refine step_const (.bool true) (fun ρ W hR hh => ?_) ?_
    · clear hF
      have h9 : ρ 9 = .bool true := hh.1
      simp only [guarded, relyAt]
      go_simp
      first
        | exact Ext.refl _
        | exact ⟨Ext.refl _, rfl⟩
    refine step_const (num i) (fun ρ W hR hh => ?_) ?_
    · clear hF
      have h4 : ρ 4 = .pointer (some ⟨gi, 0, none⟩) := Eq.trans hh.1 f4
      have h10 : ρ 10 = .bool true := hh.2.1
      simp only [guarded, h10, isB_bool, beq_self_eq_true, ↓reduceIte]
      exact load_num (.tmp _) rfl _ _  h4 (HII.out W hR)
    refine step_const (.agg (ints .u8 xs)) (fun ρ W hR hh => ?_) ?_
    · clear hF
      have h1 : ρ 1 = .pointer (some ⟨w.heap.size, 0, none⟩) := Eq.trans hh.1 f1
      have h10 : ρ 10 = .bool true := hh.2.1
      simp only [guarded, h10, isB_bool, beq_self_eq_true, ↓reduceIte]
      exact load_key (.tmp _) rfl _ _ hx h1 (HAA.out W hR)
    refine step_const (lnum x) (fun ρ W hR hh => ?_) ?_
    · clear hF
      have h12 : ρ 12 = .agg (ints .u8 xs) := hh.1
      have h10 : ρ 10 = .bool true := hh.2.1
      simp only [guarded, relyAt, h10, isB_bool, beq_self_eq_true, ↓reduceIte]
      go_simp
      exact ⟨Ext.refl _, (HLX.out _).mono fun _ _ h => h.const⟩
    refine step_const (lnum i) (fun ρ W hR hh => ?_) ?_
    · clear hF
      have h13 : ρ 13 = lnum x := hh.1
      have h10 : ρ 10 = .bool true := hh.2.1
      simp only [guarded, relyAt, h10, isB_bool, beq_self_eq_true, ↓reduceIte]
      go_simp
      exact ⟨Ext.refl _, (HLI.out _).mono fun _ _ h => h.const⟩
    simp only [List.cons_append, List.nil_append]
    refine step_const (.bool true) (fun ρ W hR hh => ?_) ?_
    · clear hF
      have h11 : ρ 11 = num i := hh.1
      have h14 : ρ 14 = lnum i := hh.2.1
      have h10 : ρ 10 = .bool true := hh.2.2.1
      simp only [guarded, relyAt, h10, isB_bool, beq_self_eq_true, ↓reduceIte]
      go_simp
      exact ⟨Ext.refl _, (HIS.out _).mono fun _ _ h => h.const⟩
    refine step_const (.bool true) (fun ρ W hR hh => ?_) ?_
    · clear hF
      have h10 : ρ 10 = .bool true := hh.1
      have h15 : ρ 15 = .bool true := hh.2.1
      simp only [guarded, relyAt]
      go_simp
      first
        | exact Ext.refl _
        | exact ⟨Ext.refl _, rfl⟩
    refine step_const (.bool true) (fun ρ W hR hh => ?_) ?_
    · clear hF
      have h16 : ρ 16 = .bool true := hh.1
      simp only [guarded, relyAt]
      go_simp
      first
        | exact Ext.refl _
        | exact ⟨Ext.refl _, rfl⟩
    refine step_const (num x) (fun ρ W hR hh => ?_) ?_
    · clear hF
      have h3 : ρ 3 = .pointer (some ⟨gx, 0, none⟩) := Eq.trans hh.1 f3
      have h17 : ρ 17 = .bool true := hh.2.1
      simp only [guarded, h17, isB_bool, beq_self_eq_true, ↓reduceIte]
      exact load_num (.tmp _) rfl _ _  h3 (HXX.out W hR)
    refine step_const (num 0) (fun ρ W hR hh => ?_) ?_
    · clear hF
      have h17 : ρ 17 = .bool true := hh.1
      simp only [guarded, relyAt, h17, isB_bool, beq_self_eq_true, ↓reduceIte]
      go_simp
      exact ⟨Ext.refl _, (HS0.out _).mono fun _ _ h => h.const⟩
    refine step_const (.bool true) (fun ρ W hR hh => ?_) ?_
    · clear hF
      have h18 : ρ 18 = num x := hh.1
      have h19 : ρ 19 = num 0 := hh.2.1
      have h17 : ρ 17 = .bool true := hh.2.2.1
      simp only [guarded, relyAt, h17, isB_bool, beq_self_eq_true, ↓reduceIte]
      go_simp
      exact ⟨Ext.refl _, ((HT.out HZ.out) _).mono fun _ _ h => h.const⟩
    simp only [List.cons_append, List.nil_append]
    refine step_const (.bool true) (fun ρ W hR hh => ?_) ?_
    · clear hF
      have h20 : ρ 20 = .bool true := hh.1
      have h17 : ρ 17 = .bool true := hh.2.1
      simp only [guarded, relyAt, h17, isB_bool, beq_self_eq_true, ↓reduceIte]
      go_simp
      first
        | exact Ext.refl _
        | exact ⟨Ext.refl _, rfl⟩
    refine step_const (undef) (fun ρ W hR hh => ?_) ?_
    · clear hF
      have h3 : ρ 3 = .pointer (some ⟨gx, 0, none⟩) := Eq.trans hh.1 f3
      have h21 : ρ 21 = .bool true := hh.2.1
      simp [guarded, h21, isB_bool]
    refine step_const (undef) (fun ρ W hR hh => ?_) ?_
    · clear hF
      have h4 : ρ 4 = .pointer (some ⟨gi, 0, none⟩) := Eq.trans hh.1 f4
      have h21 : ρ 21 = .bool true := hh.2.1
      simp [guarded, h21, isB_bool]
    refine step_const (undef) (fun ρ W hR hh => ?_) ?_
    · clear hF
      have h22 : ρ 22 = undef := hh.1
      have h23 : ρ 23 = undef := hh.2.1
      have h21 : ρ 21 = .bool true := hh.2.2.1
      simp [guarded, h21, isB_bool]
    refine step_const (undef) (fun ρ W hR hh => ?_) ?_
    · clear hF
      have h21 : ρ 21 = .bool true := hh.1
      simp [guarded, h21, isB_bool]
    refine step_const (undef) (fun ρ W hR hh => ?_) ?_
    · clear hF
      have h24 : ρ 24 = undef := hh.1
      have h25 : ρ 25 = undef := hh.2.1
      have h21 : ρ 21 = .bool true := hh.2.2.1
      simp [guarded, h21, isB_bool]
    simp only [List.cons_append, List.nil_append]
    refine step_const (.bool true) (fun ρ W hR hh => ?_) ?_
    · clear hF
      have h21 : ρ 21 = .bool true := hh.1
      have h26 : ρ 26 = undef := hh.2.1
      have h17 : ρ 17 = .bool true := hh.2.2.1
      simp only [guarded, relyAt, h17, isB_bool, beq_self_eq_true, ↓reduceIte]
      go_simp
      first
        | exact Ext.refl _
        | exact ⟨Ext.refl _, rfl⟩
    refine step_const (.bool true) (fun ρ W hR hh => ?_) ?_
    · clear hF
      have h17 : ρ 17 = .bool true := hh.1
      have h27 : ρ 27 = .bool true := hh.2.1
      simp only [guarded, relyAt]
      go_simp
      first
        | exact Ext.refl _
        | exact ⟨Ext.refl _, rfl⟩
    simp only [List.cons_append, List.nil_append]
    refine hF.out fun W1 hR1 => ?_
    simp only [List.take_succ_cons, List.take_zero, List.drop_succ_cons, List.drop_zero, fin, forall_eq, Act.put, List.setIfInBounds_toArray, List.set_cons_zero, List.set_cons_succ]
    clear hF
    go_wp2
    exact bodyPost_ret (results_tmp rfl _ _ _) rfl ⟨rfl, Ext.trans (Ext.trans he3 (ext_drew _)) hR1⟩
  · have HZ := Lib.hid hz
    clear hz
    refine wp_region_rely Ext 20 29 [⟨none, []⟩, ⟨none, [(9, some 0)]⟩, ⟨some (10, true), [(4, none), (10, some 1)]⟩, ⟨some (10, true), [(1, none), (10, some 1)]⟩, ⟨some (10, true), [(12, some 3), (10, some 1)]⟩, ⟨some (10, true), [(13, some 4), (10, some 1)]⟩, ⟨some (10, true), [(11, some 2), (14, some 5), (10, some 1)]⟩, ⟨none, [(10, some 1), (15, some 6)]⟩, ⟨none, [(16, some 7)]⟩, ⟨some (17, true), [(3, none), (17, some 8)]⟩, ⟨some (17, true), [(17, some 8)]⟩, ⟨some (17, true), [(18, some 9), (19, some 10), (17, some 8)]⟩, ⟨some (17, true), [(20, some 11), (17, some 8)]⟩, ⟨some (21, false), [(3, none), (21, some 12)]⟩, ⟨some (21, false), [(4, none), (21, some 12)]⟩, ⟨some (21, false), [(22, some 13), (23, some 14), (21, some 12)]⟩, ⟨some (21, false), [(21, some 12)]⟩, ⟨some (21, false), [(24, some 15), (25, some 16), (21, some 12)]⟩, ⟨some (17, true), [(21, some 12), (26, some 17), (17, some 8)]⟩, ⟨none, [(17, some 8), (27, some 18)]⟩] (by kernel_rfl) (by kernel_rfl) rfl Ext.refl Ext.trans (fun F r0 hr hF => ?_)
    have f4 : r0 4 = .pointer (some ⟨gi, 0, none⟩) := by rw [hr]; rfl
    have f1 : r0 1 = .pointer (some ⟨w.heap.size, 0, none⟩) := by rw [hr]; rfl
    have f3 : r0 3 = .pointer (some ⟨gx, 0, none⟩) := by rw [hr]; rfl
    clear hr
    simp only [List.take_succ_cons, List.take_zero]
    refine step_const (.bool true) (fun ρ W hR hh => ?_) ?_
    · clear hF
      simp only [guarded, relyAt]
      go_simp
      exact ⟨Ext.refl _, (alive _).mono fun _ _ h => h.const⟩
    refine step_const (.bool true) (fun ρ W hR hh => ?_) ?_
    · clear hF
      have h9 : ρ 9 = .bool true := hh.1
      simp only [guarded, relyAt]
      go_simp
      first
        | exact Ext.refl _
        | exact ⟨Ext.refl _, rfl⟩
    refine step_const (num i) (fun ρ W hR hh => ?_) ?_
    · clear hF
      have h4 : ρ 4 = .pointer (some ⟨gi, 0, none⟩) := Eq.trans hh.1 f4
      have h10 : ρ 10 = .bool true := hh.2.1
      simp only [guarded, h10, isB_bool, beq_self_eq_true, ↓reduceIte]
      exact load_num (.tmp _) rfl _ _  h4 (HII.out W hR)
    refine step_const (.agg (ints .u8 xs)) (fun ρ W hR hh => ?_) ?_
    · clear hF
      have h1 : ρ 1 = .pointer (some ⟨w.heap.size, 0, none⟩) := Eq.trans hh.1 f1
      have h10 : ρ 10 = .bool true := hh.2.1
      simp only [guarded, h10, isB_bool, beq_self_eq_true, ↓reduceIte]
      exact load_key (.tmp _) rfl _ _ hx h1 (HAA.out W hR)
    refine step_const (lnum x) (fun ρ W hR hh => ?_) ?_
    · clear hF
      have h12 : ρ 12 = .agg (ints .u8 xs) := hh.1
      have h10 : ρ 10 = .bool true := hh.2.1
      simp only [guarded, relyAt, h10, isB_bool, beq_self_eq_true, ↓reduceIte]
      go_simp
      exact ⟨Ext.refl _, (HLX.out _).mono fun _ _ h => h.const⟩
    refine step_const (lnum i) (fun ρ W hR hh => ?_) ?_
    · clear hF
      have h13 : ρ 13 = lnum x := hh.1
      have h10 : ρ 10 = .bool true := hh.2.1
      simp only [guarded, relyAt, h10, isB_bool, beq_self_eq_true, ↓reduceIte]
      go_simp
      exact ⟨Ext.refl _, (HLI.out _).mono fun _ _ h => h.const⟩
    simp only [List.cons_append, List.nil_append]
    refine step_const (.bool true) (fun ρ W hR hh => ?_) ?_
    · clear hF
      have h11 : ρ 11 = num i := hh.1
      have h14 : ρ 14 = lnum i := hh.2.1
      have h10 : ρ 10 = .bool true := hh.2.2.1
      simp only [guarded, relyAt, h10, isB_bool, beq_self_eq_true, ↓reduceIte]
      go_simp
      exact ⟨Ext.refl _, (HIS.out _).mono fun _ _ h => h.const⟩
    refine step_const (.bool true) (fun ρ W hR hh => ?_) ?_
    · clear hF
      have h10 : ρ 10 = .bool true := hh.1
      have h15 : ρ 15 = .bool true := hh.2.1
      simp only [guarded, relyAt]
      go_simp
      first
        | exact Ext.refl _
        | exact ⟨Ext.refl _, rfl⟩
    refine step_const (.bool true) (fun ρ W hR hh => ?_) ?_
    · clear hF
      have h16 : ρ 16 = .bool true := hh.1
      simp only [guarded, relyAt]
      go_simp
      first
        | exact Ext.refl _
        | exact ⟨Ext.refl _, rfl⟩
    refine step_const (num x) (fun ρ W hR hh => ?_) ?_
    · clear hF
      have h3 : ρ 3 = .pointer (some ⟨gx, 0, none⟩) := Eq.trans hh.1 f3
      have h17 : ρ 17 = .bool true := hh.2.1
      simp only [guarded, h17, isB_bool, beq_self_eq_true, ↓reduceIte]
      exact load_num (.tmp _) rfl _ _  h3 (HXX.out W hR)
    refine step_const (num 0) (fun ρ W hR hh => ?_) ?_
    · clear hF
      have h17 : ρ 17 = .bool true := hh.1
      simp only [guarded, relyAt, h17, isB_bool, beq_self_eq_true, ↓reduceIte]
      go_simp
      exact ⟨Ext.refl _, (HS0.out _).mono fun _ _ h => h.const⟩
    refine step_const (.bool false) (fun ρ W hR hh => ?_) ?_
    · clear hF
      have h18 : ρ 18 = num x := hh.1
      have h19 : ρ 19 = num 0 := hh.2.1
      have h17 : ρ 17 = .bool true := hh.2.2.1
      simp only [guarded, relyAt, h17, isB_bool, beq_self_eq_true, ↓reduceIte]
      go_simp
      exact ⟨Ext.refl _, ((HF.out HZ.out) _).mono fun _ _ h => h.const⟩
    simp only [List.cons_append, List.nil_append]
    refine step_const (.bool false) (fun ρ W hR hh => ?_) ?_
    · clear hF
      have h20 : ρ 20 = .bool false := hh.1
      have h17 : ρ 17 = .bool true := hh.2.1
      simp only [guarded, relyAt, h17, isB_bool, beq_self_eq_true, ↓reduceIte]
      go_simp
      first
        | exact Ext.refl _
        | exact ⟨Ext.refl _, rfl⟩
    refine step_const (num x) (fun ρ W hR hh => ?_) ?_
    · clear hF
      have h3 : ρ 3 = .pointer (some ⟨gx, 0, none⟩) := Eq.trans hh.1 f3
      have h21 : ρ 21 = .bool false := hh.2.1
      simp only [guarded, h21, isB_bool, beq_self_eq_true, ↓reduceIte]
      exact load_num (.tmp _) rfl _ _  h3 (HXX.out W hR)
    refine step_const (num i) (fun ρ W hR hh => ?_) ?_
    · clear hF
      have h4 : ρ 4 = .pointer (some ⟨gi, 0, none⟩) := Eq.trans hh.1 f4
      have h21 : ρ 21 = .bool false := hh.2.1
      simp only [guarded, h21, isB_bool, beq_self_eq_true, ↓reduceIte]
      exact load_num (.tmp _) rfl _ _  h4 (HII.out W hR)
    refine step_const (num 1) (fun ρ W hR hh => ?_) ?_
    · clear hF
      have h22 : ρ 22 = num x := hh.1
      have h23 : ρ 23 = num i := hh.2.1
      have h21 : ρ 21 = .bool false := hh.2.2.1
      simp only [guarded, relyAt, h21, isB_bool, beq_self_eq_true, ↓reduceIte]
      go_simp
      exact ⟨Ext.refl _, ((HM.out HZ.out) _).mono fun _ _ h => h.const⟩
    refine step_const (num 1) (fun ρ W hR hh => ?_) ?_
    · clear hF
      have h21 : ρ 21 = .bool false := hh.1
      simp only [guarded, relyAt, h21, isB_bool, beq_self_eq_true, ↓reduceIte]
      go_simp
      exact ⟨Ext.refl _, (HS1.out _).mono fun _ _ h => h.const⟩
    refine step_const (.bool true) (fun ρ W hR hh => ?_) ?_
    · clear hF
      have h24 : ρ 24 = num 1 := hh.1
      have h25 : ρ 25 = num 1 := hh.2.1
      have h21 : ρ 21 = .bool false := hh.2.2.1
      simp only [guarded, relyAt, h21, isB_bool, beq_self_eq_true, ↓reduceIte]
      go_simp
      exact ⟨Ext.refl _, (HE1.out _).mono fun _ _ h => h.const⟩
    simp only [List.cons_append, List.nil_append]
    refine step_const (.bool true) (fun ρ W hR hh => ?_) ?_
    · clear hF
      have h21 : ρ 21 = .bool false := hh.1
      have h26 : ρ 26 = .bool true := hh.2.1
      have h17 : ρ 17 = .bool true := hh.2.2.1
      simp only [guarded, relyAt, h17, isB_bool, beq_self_eq_true, ↓reduceIte]
      go_simp
      first
        | exact Ext.refl _
        | exact ⟨Ext.refl _, rfl⟩
    refine step_const (.bool true) (fun ρ W hR hh => ?_) ?_
    · clear hF
      have h17 : ρ 17 = .bool true := hh.1
      have h27 : ρ 27 = .bool true := hh.2.1
      simp only [guarded, relyAt]
      go_simp
      first
        | exact Ext.refl _
        | exact ⟨Ext.refl _, rfl⟩
    simp only [List.cons_append, List.nil_append]
    refine hF.out fun W1 hR1 => ?_
    simp only [List.take_succ_cons, List.take_zero, List.drop_succ_cons, List.drop_zero, fin, forall_eq, Act.put, List.setIfInBounds_toArray, List.set_cons_zero, List.set_cons_succ]
    clear hF
    go_wp2
    exact bodyPost_ret (results_tmp rfl _ _ _) rfl ⟨rfl, Ext.trans (Ext.trans he3 (ext_drew _)) hR1⟩
end Go.Proofs.Ytaojnmjmmfdfjaa.Field
