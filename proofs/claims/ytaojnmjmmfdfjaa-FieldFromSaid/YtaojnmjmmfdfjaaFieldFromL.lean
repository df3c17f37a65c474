/- The walk of the law FieldFrom. -/
import Derived.Test.YtaojnmjmmfdfjaaLawKit
import Derived.Test.YtaojnmjmmfdfjaaRefH
import Derived.Test.YtaojnmjmmfdfjaaRelyD
namespace Go.Proofs.Ytaojnmjmmfdfjaa.Field
open Go Go.RowKit
open Go.Proofs.Ytaojnmjmmfdfjaa.Rely
set_option linter.unusedVariables false

theorem limb_even (x : Int) : limb x 0 % 2 = x % 2 := by
  unfold limb
  rw [Int.pow_zero, Int.ediv_one]
  omega
set_option maxRecDepth 100000 in
set_option maxHeartbeats 8000000 in
theorem from_law (xs : List Int) (n : Int) (hx : xs.length = 32) (hbx : AreBytes xs) (hn : -9223372036854775808 ≤ n ∧ n < 9223372036854775808) (w : World) :
    Calls Try.prog 3 #[.agg (ints .u8 xs), .int .i64 n] w fun e w' => e = .returned (.bool true) ∧ Below w.heap.size w w' := by
  have HFX : Hid (∀ w, Calls Try.prog 20 #[.agg (ints .u8 xs)] w (Ret w (num (keyNum xs)))) := Lib.hid (from_ xs hx hbx)
  have HLX : Hid (∀ w, Calls Try.prog 21 #[.agg (ints .u8 xs)] w (Ret w (lnum (keyNum xs)))) := Lib.hid (lFrom xs hx hbx)
  have iX := keyNum_isN xs
  generalize keyNum xs = x at *
  have HI : Hid (∀ w, Calls Try.prog 19 #[num x, lnum x] w (Ret w (.bool true))) := Lib.hid (is_true _ iX)
  have HS : Hid (∀ w, Calls Try.prog 22 #[.int .i64 n] w (Ret w (num (n % p)))) := Lib.hid fun w => by
    rcases Int.lt_or_le n 0 with h | h
    · exact small_neg n ⟨hn.1, h⟩ w
    · exact small_pos n ⟨h, hn.2⟩ w
  have HLS : Hid (∀ w, Calls Try.prog 23 #[.int .i64 n] w (Ret w (lnum (n % p)))) := Lib.hid fun w => by
    rcases Int.lt_or_le n 0 with h | h
    · exact lSmall_neg n ⟨hn.1, h⟩ w
    · exact lSmall_pos n ⟨h, hn.2⟩ w
  have HIS : Hid (∀ w, Calls Try.prog 19 #[num (n % p), lnum (n % p)] w (Ret w (.bool true))) := Lib.hid (is_true _ (isN_mod _))
  generalize n % p = z at *
  have HO : Hid (∀ w, Calls Try.prog 24 #[num x] w (Ret w (.bool (x % 2 == 1)))) := Lib.hid (odd x iX)
  have HIX : Hid (∀ W, (Instr.index 32 (.agg (ints .i64 (lims x))) (.int .i64 0)).run Try.prog W = .ok (.int .i64 (limb x 0)) W) := Lib.hid fun W => by
    have := run_index_ints (P := Try.prog) W (k := .i64) (ki := .i64) Try.underlying32 Try.underlying3 (by kernel_rfl) (lims x) (lims_len x) 0 (by decide)
    rw [lims_nth x 0 (by decide)] at this
    exact this
  have hl0 := limb_range x 0
  have ho := limb_even x
  have w1 : (limb x 0).tmod 2 = limb x 0 % 2 := Int.tmod_eq_emod_of_nonneg (by omega)
  have w2 : IntKind.i64.wrap (limb x 0 % 2) = limb x 0 % 2 := IntWalk.i64_in _ (by omega)
  rw [ho] at w1 w2
  generalize limb x 0 = l0 at *
  generalize x % 2 = par at *
  clear hn
  go_enter Try.func3, Try.ntmps3
  go_wp2_with fail
  generalize hW : w.alloc (.cells (ints .u8 xs) 23) = W0
  have hA : W0.heap[w.heap.size]? = some (.cells (ints .u8 xs) 23) := by rw [← hW]; exact heap_alloc_new _ _
  have he0 : Ext w W0 := by rw [← hW]; exact ext_alloc _ _
  clear hW
  have HX : Hid (∀ W, Ext W0.drew W → W.heap[w.heap.size]? = some (.cells (ints .u8 xs) 23)) := Lib.hid fun W hR => row_ext (row_ext hA (ext_drew _)) hR
  refine wp_region_rely Ext 26 31 [⟨none, []⟩, ⟨none, [(5, some 0)]⟩, ⟨some (6, true), [(2, none), (6, some 1)]⟩, ⟨some (6, true), [(7, some 2), (6, some 1)]⟩, ⟨some (6, true), [(2, none), (6, some 1)]⟩, ⟨some (6, true), [(9, some 4), (6, some 1)]⟩, ⟨some (6, true), [(8, some 3), (10, some 5), (6, some 1)]⟩, ⟨none, [(6, some 1), (11, some 6)]⟩, ⟨none, [(12, some 7)]⟩, ⟨some (13, true), [(1, none), (13, some 8)]⟩, ⟨some (13, true), [(14, some 9), (13, some 8)]⟩, ⟨some (13, true), [(1, none), (13, some 8)]⟩, ⟨some (13, true), [(16, some 11), (13, some 8)]⟩, ⟨some (13, true), [(15, some 10), (17, some 12), (13, some 8)]⟩, ⟨none, [(13, some 8), (18, some 13)]⟩, ⟨none, [(19, some 14)]⟩, ⟨some (20, true), [(2, none), (20, some 15)]⟩, ⟨some (20, true), [(21, some 16), (20, some 15)]⟩, ⟨some (20, true), [(22, some 17), (20, some 15)]⟩, ⟨some (20, true), [(2, none), (20, some 15)]⟩, ⟨some (20, true), [(24, some 19), (20, some 15)]⟩, ⟨some (20, true), [(25, some 20), (20, some 15)]⟩, ⟨some (20, true), [(26, some 21), (20, some 15)]⟩, ⟨some (20, true), [(27, some 22), (20, some 15)]⟩, ⟨some (20, true), [(23, some 18), (28, some 23), (20, some 15)]⟩, ⟨none, [(20, some 15), (29, some 24)]⟩] (by kernel_rfl) (by kernel_rfl) rfl Ext.refl Ext.trans (fun F r0 hr hF => ?_)
  have f2 : r0 2 = .pointer (some ⟨w.heap.size, 0, none⟩) := by rw [hr]; rfl
  have f1 : r0 1 = .int .i64 n := by rw [hr]; rfl
  clear hr
  simp only [List.take_succ_cons, List.take_zero]
  refine step_const (.bool true) (fun ρ W hR hh => ?_) ?_
  · clear hF
    simp only [guarded, relyAt]
    go_simp
    exact ⟨Ext.refl _, (alive _).mono fun _ _ h => h.const⟩
  refine step_const (.bool true) (fun ρ W hR hh => ?_) ?_
  · clear hF
    have h5 : ρ 5 = .bool true := hh.1
    simp only [guarded, relyAt]
    go_simp
    first
      | exact Ext.refl _
      | exact ⟨Ext.refl _, rfl⟩
  refine step_const (.agg (ints .u8 xs)) (fun ρ W hR hh => ?_) ?_
  · clear hF
    have h2 : ρ 2 = .pointer (some ⟨w.heap.size, 0, none⟩) := Eq.trans hh.1 f2
    have h6 : ρ 6 = .bool true := hh.2.1
    simp only [guarded, h6, isB_bool, beq_self_eq_true, ↓reduceIte]
    exact load_key (.tmp _) rfl _ _ hx h2 (HX.out W hR)
  refine step_const (num x) (fun ρ W hR hh => ?_) ?_
  · clear hF
    have h7 : ρ 7 = .agg (ints .u8 xs) := hh.1
    have h6 : ρ 6 = .bool true := hh.2.1
    simp only [guarded, relyAt, h6, isB_bool, beq_self_eq_true, ↓reduceIte]
    go_simp
    exact ⟨Ext.refl _, (HFX.out _).mono fun _ _ h => h.const⟩
  refine step_const (.agg (ints .u8 xs)) (fun ρ W hR hh => ?_) ?_
  · clear hF
    have h2 : ρ 2 = .pointer (some ⟨w.heap.size, 0, none⟩) := Eq.trans hh.1 f2
    have h6 : ρ 6 = .bool true := hh.2.1
    simp only [guarded, h6, isB_bool, beq_self_eq_true, ↓reduceIte]
    exact load_key (.tmp _) rfl _ _ hx h2 (HX.out W hR)
  refine step_const (lnum x) (fun ρ W hR hh => ?_) ?_
  · clear hF
    have h9 : ρ 9 = .agg (ints .u8 xs) := hh.1
    have h6 : ρ 6 = .bool true := hh.2.1
    simp only [guarded, relyAt, h6, isB_bool, beq_self_eq_true, ↓reduceIte]
    go_simp
    exact ⟨Ext.refl _, (HLX.out _).mono fun _ _ h => h.const⟩
  simp only [List.cons_append, List.nil_append]
  refine step_const (.bool true) (fun ρ W hR hh => ?_) ?_
  · clear hF
    have h8 : ρ 8 = num x := hh.1
    have h10 : ρ 10 = lnum x := hh.2.1
    have h6 : ρ 6 = .bool true := hh.2.2.1
    simp only [guarded, relyAt, h6, isB_bool, beq_self_eq_true, ↓reduceIte]
    go_simp
    exact ⟨Ext.refl _, (HI.out _).mono fun _ _ h => h.const⟩
  refine step_const (.bool true) (fun ρ W hR hh => ?_) ?_
  · clear hF
    have h6 : ρ 6 = .bool true := hh.1
    have h11 : ρ 11 = .bool true := hh.2.1
    simp only [guarded, relyAt]
    go_simp
    first
      | exact Ext.refl _
      | exact ⟨Ext.refl _, rfl⟩
  refine step_const (.bool true) (fun ρ W hR hh => ?_) ?_
  · clear hF
    have h12 : ρ 12 = .bool true := hh.1
    simp only [guarded, relyAt]
    go_simp
    first
      | exact Ext.refl _
      | exact ⟨Ext.refl _, rfl⟩
  refine step_const (.int .i64 n) (fun ρ W hR hh => ?_) ?_
  · clear hF
    have h1 : ρ 1 = .int .i64 n := Eq.trans hh.1 f1
    have h13 : ρ 13 = .bool true := hh.2.1
    simp only [guarded, relyAt, h13, isB_bool, beq_self_eq_true, ↓reduceIte]
    go_simp
    first
      | exact Ext.refl _
      | exact ⟨Ext.refl _, rfl⟩
  refine step_const (num z) (fun ρ W hR hh => ?_) ?_
  · clear hF
    have h14 : ρ 14 = .int .i64 n := hh.1
    have h13 : ρ 13 = .bool true := hh.2.1
    simp only [guarded, relyAt, h13, isB_bool, beq_self_eq_true, ↓reduceIte]
    go_simp
    exact ⟨Ext.refl _, (HS.out _).mono fun _ _ h => h.const⟩
  refine step_const (.int .i64 n) (fun ρ W hR hh => ?_) ?_
  · clear hF
    have h1 : ρ 1 = .int .i64 n := Eq.trans hh.1 f1
    have h13 : ρ 13 = .bool true := hh.2.1
    simp only [guarded, relyAt, h13, isB_bool, beq_self_eq_true, ↓reduceIte]
    go_simp
    first
      | exact Ext.refl _
      | exact ⟨Ext.refl _, rfl⟩
  simp only [List.cons_append, List.nil_append]
  refine step_const (lnum z) (fun ρ W hR hh => ?_) ?_
  · clear hF
    have h16 : ρ 16 = .int .i64 n := hh.1
    have h13 : ρ 13 = .bool true := hh.2.1
    simp only [guarded, relyAt, h13, isB_bool, beq_self_eq_true, ↓reduceIte]
    go_simp
    exact ⟨Ext.refl _, (HLS.out _).mono fun _ _ h => h.const⟩
  refine step_const (.bool true) (fun ρ W hR hh => ?_) ?_
  · clear hF
    have h15 : ρ 15 = num z := hh.1
    have h17 : ρ 17 = lnum z := hh.2.1
    have h13 : ρ 13 = .bool true := hh.2.2.1
    simp only [guarded, relyAt, h13, isB_bool, beq_self_eq_true, ↓reduceIte]
    go_simp
    exact ⟨Ext.refl _, (HIS.out _).mono fun _ _ h => h.const⟩
  refine step_const (.bool true) (fun ρ W hR hh => ?_) ?_
  · clear hF
    have h13 : ρ 13 = .bool true := hh.1
    have h18 : ρ 18 = .bool true := hh.2.1
    simp only [guarded, relyAt]
    go_simp
    first
      | exact Ext.refl _
      | exact ⟨Ext.refl _, rfl⟩
  refine step_const (.bool true) (fun ρ W hR hh => ?_) ?_
  · clear hF
    have h19 : ρ 19 = .bool true := hh.1
    simp only [guarded, relyAt]
    go_simp
    first
      | exact Ext.refl _
      | exact ⟨Ext.refl _, rfl⟩
  refine step_const (.agg (ints .u8 xs)) (fun ρ W hR hh => ?_) ?_
  · clear hF
    have h2 : ρ 2 = .pointer (some ⟨w.heap.size, 0, none⟩) := Eq.trans hh.1 f2
    have h20 : ρ 20 = .bool true := hh.2.1
    simp only [guarded, h20, isB_bool, beq_self_eq_true, ↓reduceIte]
    exact load_key (.tmp _) rfl _ _ hx h2 (HX.out W hR)
  refine step_const (num x) (fun ρ W hR hh => ?_) ?_
  · clear hF
    have h21 : ρ 21 = .agg (ints .u8 xs) := hh.1
    have h20 : ρ 20 = .bool true := hh.2.1
    simp only [guarded, relyAt, h20, isB_bool, beq_self_eq_true, ↓reduceIte]
    go_simp
    exact ⟨Ext.refl _, (HFX.out _).mono fun _ _ h => h.const⟩
  simp only [List.cons_append, List.nil_append]
  refine step_const (.bool (par == 1)) (fun ρ W hR hh => ?_) ?_
  · clear hF
    have h22 : ρ 22 = num x := hh.1
    have h20 : ρ 20 = .bool true := hh.2.1
    simp only [guarded, relyAt, h20, isB_bool, beq_self_eq_true, ↓reduceIte]
    go_simp
    exact ⟨Ext.refl _, (HO.out _).mono fun _ _ h => h.const⟩
  refine step_const (.agg (ints .u8 xs)) (fun ρ W hR hh => ?_) ?_
  · clear hF
    have h2 : ρ 2 = .pointer (some ⟨w.heap.size, 0, none⟩) := Eq.trans hh.1 f2
    have h20 : ρ 20 = .bool true := hh.2.1
    simp only [guarded, h20, isB_bool, beq_self_eq_true, ↓reduceIte]
    exact load_key (.tmp _) rfl _ _ hx h2 (HX.out W hR)
  refine step_const (lnum x) (fun ρ W hR hh => ?_) ?_
  · clear hF
    have h24 : ρ 24 = .agg (ints .u8 xs) := hh.1
    have h20 : ρ 20 = .bool true := hh.2.1
    simp only [guarded, relyAt, h20, isB_bool, beq_self_eq_true, ↓reduceIte]
    go_simp
    exact ⟨Ext.refl _, (HLX.out _).mono fun _ _ h => h.const⟩
  refine step_const (.int .i64 l0) (fun ρ W hR hh => ?_) ?_
  · clear hF
    have h25 : ρ 25 = lnum x := hh.1
    have h20 : ρ 20 = .bool true := hh.2.1
    have hi := HIX.out W
    rw [show lnum x = .agg (ints .i64 (lims x)) from rfl] at h25
    simp only [guarded, relyAt, h20, isB_bool, beq_self_eq_true, ↓reduceIte]
    go_simp
    exact Ext.refl _
  refine step_const (.int .i64 par) (fun ρ W hR hh => ?_) ?_
  · clear hF
    have h26 : ρ 26 = .int .i64 l0 := hh.1
    have h20 : ρ 20 = .bool true := hh.2.1
    simp only [guarded, relyAt, h20, isB_bool, beq_self_eq_true, ↓reduceIte]
    go_simp
    exact Ext.refl _
  refine step_const (.bool (par == 1)) (fun ρ W hR hh => ?_) ?_
  · clear hF
    have h27 : ρ 27 = .int .i64 par := hh.1
    have h20 : ρ 20 = .bool true := hh.2.1
    simp only [guarded, relyAt, h20, isB_bool, beq_self_eq_true, ↓reduceIte]
    go_simp
    exact Ext.refl _
  simp only [List.cons_append, List.nil_append]
  refine step_const (.bool true) (fun ρ W hR hh => ?_) ?_
  · clear hF
    have h23 : ρ 23 = .bool (par == 1) := hh.1
    have h28 : ρ 28 = .bool (par == 1) := hh.2.1
    have h20 : ρ 20 = .bool true := hh.2.2.1
    generalize (par == 1) = e at *
    cases e
    all_goals
      simp only [guarded, relyAt, h20, isB_bool, beq_self_eq_true, ↓reduceIte]
      go_simp
      exact Ext.refl _
  refine step_const (.bool true) (fun ρ W hR hh => ?_) ?_
  · clear hF
    have h20 : ρ 20 = .bool true := hh.1
    have h29 : ρ 29 = .bool true := hh.2.1
    simp only [guarded, relyAt]
    go_simp
    first
      | exact Ext.refl _
      | exact ⟨Ext.refl _, rfl⟩
  simp only [List.cons_append, List.nil_append]
  refine hF.out fun W1 hR1 => ?_
  simp only [List.take_succ_cons, List.take_zero, List.drop_succ_cons, List.drop_zero, fin, forall_eq, Act.put, List.setIfInBounds_toArray, List.set_cons_zero, List.set_cons_succ]
  clear hF
  go_wp2
  exact bodyPost_ret (results_tmp rfl _ _ _) rfl ⟨rfl, Ext.trans (Ext.trans he0 (ext_drew _)) hR1⟩
end Go.Proofs.Ytaojnmjmmfdfjaa.Field
