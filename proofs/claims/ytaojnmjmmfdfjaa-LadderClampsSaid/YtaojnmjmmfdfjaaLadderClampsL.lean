/- The walk of the law LadderClamps. -/
import Derived.Test.YtaojnmjmmfdfjaaClamp
namespace Go.Proofs.Ytaojnmjmmfdfjaa.Ladder
set_option linter.unusedVariables false
open Go Go.RowKit
open Go.Proofs.Ytaojnmjmmfdfjaa.Rely

def kA : List Int := 7 :: List.replicate 31 0
def kB : List Int := List.replicate 31 0 ++ [64]
theorem kA_bytes : AreBytes kA := fun x hx => by
  simp [kA] at hx
  omega
theorem kA_clamp : clamp kA = kB := by decide

theorem law (xs : List Int) (hl : xs.length = 32) (hb : AreBytes xs) (w : World) :
    Calls Try.prog 12 #[.agg (ints .u8 xs)] w fun e w' => e = .returned (.bool true) ∧ Below w.heap.size w w' := by
  have hi : ∀ (ys : List Int), ys.length = 32 → (Try.prog.info? 23).map (·.size) = some (ints .u8 ys).size := fun ys h => by rw [infoKey, ints_size, h]
  have hw : ∀ W, Ext (w.alloc (.cells (ints .u8 xs) 23)).drew W → W.heap[w.heap.size]? = some (.cells (ints .u8 xs) 23) := fun W hR => by
    rw [hR.block _ (by simp)]
    exact heap_alloc_new w _
  have he : ∀ (W : World) (a b : List Int), a.length = 32 → b.length = 32 → (binOp .eql 23 (.agg (ints .u8 a)) (.agg (ints .u8 b))).run Try.prog W = .ok (.bool (decide (a = b))) W :=
    fun W a b ha hb => eql_ints W Try.underlying23 Try.underlying5 (by kernel_rfl) a b ha hb
  have hg : Try.prog.eqGuardType Try.prog.depth 23 = false := by kernel_rfl
  have hcl : (clamp xs).length = 32 := by simp [clamp, hl]
  have hab : decide (clamp kA = kB) = true := by rw [kA_clamp]; decide
  go_enter Try.func12, Try.ntmps12
  go_wp2_with fail
  refine wp_region_rely Ext 11 14 [⟨none, []⟩, ⟨none, [(3, some 0)]⟩, ⟨none, []⟩, ⟨none, [(4, some 1), (5, some 2)]⟩, ⟨none, [(6, some 3)]⟩, ⟨some (7, true), [(1, none), (7, some 4)]⟩, ⟨some (7, true), [(8, some 5), (7, some 4)]⟩, ⟨some (7, true), [(1, none), (7, some 4)]⟩, ⟨some (7, true), [(10, some 7), (7, some 4)]⟩, ⟨some (7, true), [(9, some 6), (11, some 8), (7, some 4)]⟩, ⟨none, [(7, some 4), (12, some 9)]⟩] (by kernel_rfl) (by kernel_rfl) rfl Ext.refl Ext.trans (fun F r0 hr hF => ?_)
  have f1 : r0 1 = .pointer (some ⟨w.heap.size, 0, none⟩) := by rw [hr]; rfl
  clear hr
  simp only [List.take_succ_cons, List.take_zero]
  refine step_const (.agg (ints .u8 kA)) (fun ρ W hR hh => ?_) ?_
  · simp only [guarded, relyAt]
    go_simp
    exact ⟨Ext.refl _, rfl⟩
  refine step_const (.agg (ints .u8 (clamp kA))) (fun ρ W hR hh => ?_) ?_
  · have h3 : ρ 3 = .agg (ints .u8 kA) := hh.1
    simp only [guarded, relyAt]
    go_simp
    exact ⟨Ext.refl _, (clampC kA rfl kA_bytes _).mono fun _ _ h => h.const⟩
  refine step_const (.agg (ints .u8 kB)) (fun ρ W hR hh => ?_) ?_
  · simp only [guarded, relyAt]
    go_simp
    exact ⟨Ext.refl _, rfl⟩
  refine step_const (.bool true) (fun ρ W hR hh => ?_) ?_
  · have h4 : ρ 4 = .agg (ints .u8 (clamp kA)) := hh.1
    have h5 : ρ 5 = .agg (ints .u8 kB) := hh.2.1
    rw [← hab]
    exact relyAt_eql_agg 23 _ (.tmp _) (.tmp _) rfl _ _ _ hg h4 h5 (he W _ _ rfl rfl)
  refine step_const (.bool true) (fun ρ W hR hh => ?_) ?_
  · have h6 : ρ 6 = .bool true := hh.1
    simp only [guarded, relyAt]
    go_simp
    exact Ext.refl _
  refine step_const (.agg (ints .u8 xs)) (fun ρ W hR hh => ?_) ?_
  · have h7 : ρ 7 = .bool true := hh.2.1
    have h1 : ρ 1 = r0 1 := hh.1
    simp only [guarded, h7, isB_bool, beq_self_eq_true, ↓reduceIte]
    exact relyAt_load_row 23 (.tmp _) rfl _ (h1.trans f1) 23 _ (0, 0) _ (hw W hR) Try.underlying23 rfl (hi _ hl)
  refine step_const (.agg (ints .u8 (clamp xs))) (fun ρ W hR hh => ?_) ?_
  · have h7 : ρ 7 = .bool true := hh.2.1
    have h8 : ρ 8 = .agg (ints .u8 xs) := hh.1
    simp only [guarded, relyAt, h7, isB_bool, beq_self_eq_true, ↓reduceIte]
    go_simp
    exact ⟨Ext.refl _, (clampC xs hl hb _).mono fun _ _ h => h.const⟩
  refine step_const (.agg (ints .u8 xs)) (fun ρ W hR hh => ?_) ?_
  · have h7 : ρ 7 = .bool true := hh.2.1
    have h1 : ρ 1 = r0 1 := hh.1
    simp only [guarded, h7, isB_bool, beq_self_eq_true, ↓reduceIte]
    exact relyAt_load_row 23 (.tmp _) rfl _ (h1.trans f1) 23 _ (0, 0) _ (hw W hR) Try.underlying23 rfl (hi _ hl)
  refine step_const (.agg (ints .u8 (clamp xs))) (fun ρ W hR hh => ?_) ?_
  · have h7 : ρ 7 = .bool true := hh.2.1
    have h10 : ρ 10 = .agg (ints .u8 xs) := hh.1
    simp only [guarded, relyAt, h7, isB_bool, beq_self_eq_true, ↓reduceIte]
    go_simp
    exact ⟨Ext.refl _, (refClampC xs hl hb _).mono fun _ _ h => h.const⟩
  refine step_const (.bool true) (fun ρ W hR hh => ?_) ?_
  · have h7 : ρ 7 = .bool true := hh.2.2.1
    have h9 : ρ 9 = .agg (ints .u8 (clamp xs)) := hh.1
    have h11 : ρ 11 = .agg (ints .u8 (clamp xs)) := hh.2.1
    simp only [guarded, h7, isB_bool, beq_self_eq_true, ↓reduceIte]
    have := he W (clamp xs) (clamp xs) hcl hcl
    simp only [decide_true] at this
    exact relyAt_eql_agg 23 _ (.tmp _) (.tmp _) rfl _ _ _ hg h9 h11 this
  refine step_const (.bool true) (fun ρ W hR hh => ?_) ?_
  · have h7 : ρ 7 = .bool true := hh.1
    have h12 : ρ 12 = .bool true := hh.2.1
    simp only [guarded, relyAt]
    go_simp
    exact Ext.refl _
  simp only [List.cons_append, List.nil_append]
  refine hF.out fun W hR => ?_
  simp only [List.take_succ_cons, List.take_zero, List.drop_succ_cons, List.drop_zero, fin, forall_eq, Act.put, List.setIfInBounds_toArray, List.set_cons_zero, List.set_cons_succ]
  go_wp2
  go_ret
  exact ⟨rfl, Ext.trans (Ext.trans (ext_alloc w _) (ext_drew _)) hR⟩
end Go.Proofs.Ytaojnmjmmfdfjaa.Ladder
