/- The walk of the law FieldSquares. -/
import Derived.Test.YtaojnmjmmfdfjaaLawKit
import Derived.Test.YtaojnmjmmfdfjaaRootB
import Derived.Test.YtaojnmjmmfdfjaaRootC
import Derived.Test.YtaojnmjmmfdfjaaRelyD
namespace Go.Proofs.Ytaojnmjmmfdfjaa.Field
open Go Go.RowKit
open Go.Proofs.Ytaojnmjmmfdfjaa.Rely
set_option linter.unusedVariables false

theorem load_row_g {P : Program} {ops : Array Oper} {rest : List Oper} {o : Oper} {a : Act} {w : World} {Q : Exit → Act → World → Prop} (ty : TypeId) (x : Operand) (ho : o.op = .load ty x)
    (g : Nat) (hx : a.eval x = .pointer (some ⟨g, 0, none⟩)) (t : TypeId) (cs : Array Value) (fr : Nat × Nat) (d : TypeDesc) (hg : w.heap[g]? = some (.cells cs t fr))
    (hu : P.underlying ty = some d) (hd : (match d with | .struct _ | .array _ _ => true | _ => false) = true) (hi : (P.info? ty).map (·.size) = some cs.size)
    (hw : Region.wanted o (yielded ops a.tmps) = true)
    (h : wpList P ops Q rest (a.put o.dst (.agg cs)) w) : wpList P ops Q (o :: rest) a w :=
  wpList_step fun _ hK => by
    rw [if_pos hw]
    exact wp_load_row ty x ho g hx t cs fr d hg hu hd hi (hK _ _ h)
theorem evenOf_par (x : Int) (hx : isN x) : ¬ evenOf x % 2 = 1 := fun e => by
  by_cases h : x % 2 = 1
  · rw [evenOf_odd x hx h] at e
    have : (p - x) % 2 = 1 - x % 2 := by unfold p; omega
    omega
  · unfold evenOf at e
    rw [if_neg h] at e
    exact h e
set_option maxRecDepth 100000 in
set_option maxHeartbeats 8000000 in
theorem squares (xs : List Int) (hx : xs.length = 32) (hbx : AreBytes xs) (w : World) :
    Calls Try.prog 8 #[.agg (ints .u8 xs)] w fun e w' => e = .returned (.bool true) ∧ Below w.heap.size w w' := by
  have HFX : Hid (∀ w, Calls Try.prog 20 #[.agg (ints .u8 xs)] w (Ret w (num (keyNum xs)))) := Lib.hid (from_ xs hx hbx)
  have iX := keyNum_isN xs
  generalize keyNum xs = x at *
  have iE := evenOf_isN x iX
  have HAL : Hid (∀ w, Calls Try.prog 18 #[] w (Ret w (.bool true))) := Lib.hid alive
  have HM : Hid (∀ w, Calls Try.prog 30 #[.agg (numA x), .agg (numA x)] w (Ret w (num (x * x % p)))) := Lib.hid (mul x x iX iX)
  have HRT : Hid (∀ w, Calls Try.prog 34 #[num (x * x % p)] w (Ret w (.tuple #[.agg (numA (evenOf x)), .bool true]))) := Lib.hid fun w => by
    have := root (x * x % p) (isN_mod _) w
    rw [(root_square x iX).1, (root_square x iX).2] at this
    exact this
  have HEQ : Hid (∀ w, Calls Try.prog 29 #[.agg (numA (evenOf x)), .agg (numA (evenOf x))] w (Ret w (.bool true))) := Lib.hid (num_is (evenOf x) (evenOf x) rfl iE)
  have HEV : Hid (∀ w, Calls Try.prog 24 #[.agg (numA (evenOf x))] w (Ret w (.bool false))) := Lib.hid fun w => by
    have := odd (evenOf x) iE w
    rw [show (evenOf x % 2 == 1) = false by simpa using evenOf_par x iX] at this
    exact this
  generalize x * x % p = a at *
  go_enter Try.func8, Try.ntmps8
  by_cases ho : x % 2 = 1
  · have HO : Hid (∀ w, Calls Try.prog 24 #[.agg (numA x)] w (Ret w (.bool true))) := Lib.hid fun w => by
      have := odd x iX w
      rw [show (x % 2 == 1) = true by simpa using ho] at this
      exact this
    have HN : Hid (∀ w, Calls Try.prog 27 #[num 0, num x] w (Ret w (.agg (numA (evenOf x))))) := Lib.hid fun w => by
      have := sub 0 x zero_isN' iX w
      rw [show (0 - x) % p = evenOf x by unfold evenOf; rw [if_pos ho]] at this
      exact this
    have HS0 : Hid (∀ w, Calls Try.prog 22 #[.int .i64 0] w (Ret w (num 0))) := Lib.hid fun w => by have := small_pos 0 (by decide) w; rw [show (0 : Int) % p = 0 by decide] at this; exact this
    clear ho
    generalize hevv : evenOf x = ev at *
    clear hevv
    go_wp2_with first
      | (go_at_call 20
         (with_reducible refine (HFX.out _).mono ?_)
         rintro e w1 ⟨rfl, hw1⟩
         clear HFX)
      | (with_reducible show wpList _ _ _ ((⟨_, .load 23 _, _, _, _, _⟩ : Oper) :: _) _ _
         refine wpList_load_row rfl 23 _ rfl w.heap.size rfl 23 _ (0, 0) _ (heap_alloc_new _ _) Try.underlying23 rfl (by rw [infoKey, ints_size, hx]) ?_)
      | (with_reducible show wpList _ _ _ ((⟨_, .store 29 _ _, _, _, _, _⟩ : Oper) :: _) _ _
         refine wpList_store_row rfl 29 _ _ rfl w1.heap.size (numA x) rfl rfl 29 _ (heap_alloc_new _ _) infoNum rfl (numA_one _) ?_
         have hX := setRow_heap _ _ _ (numA x) _ _ (heap_alloc_new w1 (.cells #[.int .u64 0, .int .u64 0, .int .u64 0, .int .u64 0] 29))
         have hE := ext_setRow (ext_alloc w1 (.cells #[.int .u64 0, .int .u64 0, .int .u64 0, .int .u64 0] 29)) (Nat.le_refl _) (numA x)
         have hA := row_ext (row_ext (heap_alloc_new w (.cells (ints .u8 xs) 23)) hw1) hE
         have he := Ext.trans (Ext.trans (ext_alloc w (.cells (ints .u8 xs) 23)) hw1) hE
         have hgx : w.heap.size < w1.heap.size := by have := hw1.size; simp at this; omega
         generalize (w1.alloc (.cells #[.int .u64 0, .int .u64 0, .int .u64 0, .int .u64 0] 29)).setRow w1.heap.size (numA x) = V1 at *
         generalize w1.heap.size = gx at *
         clear hw1 hE)
      | (go_at_call 30
         (with_reducible refine (HM.out _).mono ?_)
         rintro e w2 ⟨rfl, hw2⟩
         have hX2 := row_ext hX hw2
         have he2 := Ext.trans he hw2
         clear hX he hw2 HM hA)
      | (go_at_call 34
         (with_reducible refine (HRT.out _).mono ?_)
         rintro e w3 ⟨rfl, hw3⟩
         have hX3 := row_ext hX2 hw3
         have he3 := Ext.trans he2 hw3
         clear hX2 he2 hw3 HRT)
      | (go_at_call 24
         (with_reducible refine (HO.out _).mono ?_)
         rintro e w5 ⟨rfl, hw5⟩
         have hX5 := row_ext hX4 hw5
         have hR5 := row_ext hR4 hw5
         have he5 := Ext.trans he4 hw5
         clear hX4 hR4 he4 hw5 HO)
      | (with_reducible show wpList _ _ _ ((⟨_, .load 29 _, _, _, _, _⟩ : Oper) :: _) _ _
         refine wpList_load_row rfl 29 _ rfl gx rfl 29 _ (0, 0) _ hX Try.underlying29 rfl infoNum ?_)
      | (with_reducible show wpList _ _ _ ((⟨_, .load 29 _, _, _, _, _⟩ : Oper) :: _) _ _
         refine wpList_load_row rfl 29 _ rfl gx rfl 29 _ (0, 0) _ hX4 Try.underlying29 rfl infoNum ?_)
      | (with_reducible show wpList _ _ _ ((⟨_, .store 29 _ _, _, _, _, _⟩ : Oper) :: _) _ _
         refine wpList_store_row rfl 29 _ _ rfl w3.heap.size (numA ev) rfl rfl 29 _ (heap_alloc_new _ _) infoNum rfl (numA_one _) ?_
         have hR4 := setRow_heap _ _ _ (numA ev) _ _ (heap_alloc_new w3 (.cells #[.int .u64 0, .int .u64 0, .int .u64 0, .int .u64 0] 29))
         have hE := ext_setRow (ext_alloc w3 (.cells #[.int .u64 0, .int .u64 0, .int .u64 0, .int .u64 0] 29)) (Nat.le_refl _) (numA ev)
         have hX4 := row_ext hX3 hE
         have he4 := Ext.trans he3 hE
         have hgr : gx < w3.heap.size := row_lt hX3
         generalize (w3.alloc (.cells #[.int .u64 0, .int .u64 0, .int .u64 0, .int .u64 0] 29)).setRow w3.heap.size (numA ev) = V4 at *
         generalize w3.heap.size = gr at *
         clear hE hX3 he3)
    have HXX : Hid (∀ W, Ext w5.drew W → W.heap[gx]? = some (.cells (numA x) 29)) := Lib.hid fun W hR => row_ext (row_ext hX5 (ext_drew _)) hR
    refine wp_region_rely Ext 3 34 [⟨none, []⟩, ⟨none, [(3, none)]⟩, ⟨none, [(17, some 0), (18, some 1)]⟩] (by kernel_rfl) (by kernel_rfl) rfl Ext.refl Ext.trans (fun F r0 hr hF => ?_)
    have f3 : r0 3 = .pointer (some ⟨gx, 0, none⟩) := by rw [hr]; rfl
    clear hr
    simp only [List.take_succ_cons, List.take_zero]
    refine step_const (num 0) (fun ρ W hR hh => ?_) ?_
    · clear hF
      simp only [guarded, relyAt]
      go_simp
      exact ⟨Ext.refl _, (HS0.out _).mono fun _ _ h => h.const⟩
    refine step_const (num x) (fun ρ W hR hh => ?_) ?_
    · clear hF
      have h3 : ρ 3 = .pointer (some ⟨gx, 0, none⟩) := Eq.trans hh.1 f3
      exact load_num (.tmp _) rfl _ _  h3 (HXX.out W hR)
    refine step_const (.agg (numA ev)) (fun ρ W hR hh => ?_) ?_
    · clear hF
      have h17 : ρ 17 = num 0 := hh.1
      have h18 : ρ 18 = num x := hh.2.1
      simp only [guarded, relyAt]
      go_simp
      exact ⟨Ext.refl _, (HN.out _).mono fun _ _ h => h.const⟩
    simp only [List.cons_append, List.nil_append]
    refine hF.out fun W9 hR9 => ?_
    simp only [List.take_succ_cons, List.take_zero, List.drop_succ_cons, List.drop_zero, fin, forall_eq, Act.put, List.setIfInBounds_toArray, List.set_cons_zero, List.set_cons_succ]
    clear hF
    have hX9 := row_ext (row_ext hX5 (ext_drew _)) hR9
    have hR9' := row_ext (row_ext hR5 (ext_drew _)) hR9
    have he9 := Ext.trans (Ext.trans he5 (ext_drew _)) hR9
    clear HXX f3
    have hgw : w.heap.size ≤ gx := by omega
    have hX10 := setRow_heap _ _ _ (numA ev) _ _ hX9
    have hR10 := (setRow_other W9 gx gr (numA ev) (by omega)).trans hR9'
    have he10 := ext_setRow he9 hgw (numA ev)
    refine wpList_store_row rfl 29 _ _ rfl gx (numA ev) rfl rfl 29 _ hX9 infoNum rfl (numA_one _) ?_
    generalize W9.setRow gx (numA ev) = V10 at *
    clear hX5 hR5 he5 hX9 hR9' he9 hR9
    have hX5 := hX10
    have hR5 := hR10
    have he5 := he10
    clear hX10 hR10 he10
    go_wp2_with first
      | (go_at_call 18
         (with_reducible refine (HAL.out _).mono ?_)
         rintro e w6 ⟨rfl, hw6⟩
         have hX6 := row_ext hX5 hw6
         have hR6 := row_ext hR5 hw6
         have he6 := Ext.trans he5 hw6
         clear hX5 hR5 he5 hw6 HAL)
      | (go_at_call 29
         (with_reducible refine (HEQ.out _).mono ?_)
         rintro e w7 ⟨rfl, hw7⟩
         have hR7 := row_ext hR6 hw7
         have he7 := Ext.trans he6 hw7
         clear hX6 hR6 he6 hw7 HEQ)
      | (go_at_call 24
         (with_reducible refine (HEV.out _).mono ?_)
         rintro e w8 ⟨rfl, hw8⟩)
      | (with_reducible show wpList _ _ _ ((⟨_, .load 29 _, _, _, _, _⟩ : Oper) :: _) _ _
         refine load_row_g 29 _ rfl gr rfl 29 _ (0, 0) _ hR6 Try.underlying29 rfl infoNum rfl ?_)
      | (with_reducible show wpList _ _ _ ((⟨_, .load 29 _, _, _, _, _⟩ : Oper) :: _) _ _
         refine load_row_g 29 _ rfl gx rfl 29 _ (0, 0) _ hX6 Try.underlying29 rfl infoNum rfl ?_)
      | (with_reducible show wpList _ _ _ ((⟨_, .load 29 _, _, _, _, _⟩ : Oper) :: _) _ _
         refine load_row_g 29 _ rfl gr rfl 29 _ (0, 0) _ hR7 Try.underlying29 rfl infoNum rfl ?_)
    exact bodyPost_ret (results_tmp rfl _ _ _) rfl ⟨rfl, Ext.trans he7 hw8⟩
  · have HO : Hid (∀ w, Calls Try.prog 24 #[.agg (numA x)] w (Ret w (.bool false))) := Lib.hid fun w => by
      have := odd x iX w
      rw [show (x % 2 == 1) = false by simpa using ho] at this
      exact this
    have hev : evenOf x = x := by unfold evenOf; rw [if_neg ho]
    have HEE := Lib.hid hev
    clear hev
    clear ho
    generalize hevv : evenOf x = ev at *
    clear hevv
    go_wp2_with first
      | (go_at_call 20
         (with_reducible refine (HFX.out _).mono ?_)
         rintro e w1 ⟨rfl, hw1⟩
         clear HFX)
      | (with_reducible show wpList _ _ _ ((⟨_, .load 23 _, _, _, _, _⟩ : Oper) :: _) _ _
         refine wpList_load_row rfl 23 _ rfl w.heap.size rfl 23 _ (0, 0) _ (heap_alloc_new _ _) Try.underlying23 rfl (by rw [infoKey, ints_size, hx]) ?_)
      | (with_reducible show wpList _ _ _ ((⟨_, .store 29 _ _, _, _, _, _⟩ : Oper) :: _) _ _
         refine wpList_store_row rfl 29 _ _ rfl w1.heap.size (numA x) rfl rfl 29 _ (heap_alloc_new _ _) infoNum rfl (numA_one _) ?_
         have hX := setRow_heap _ _ _ (numA x) _ _ (heap_alloc_new w1 (.cells #[.int .u64 0, .int .u64 0, .int .u64 0, .int .u64 0] 29))
         have hE := ext_setRow (ext_alloc w1 (.cells #[.int .u64 0, .int .u64 0, .int .u64 0, .int .u64 0] 29)) (Nat.le_refl _) (numA x)
         have hA := row_ext (row_ext (heap_alloc_new w (.cells (ints .u8 xs) 23)) hw1) hE
         have he := Ext.trans (Ext.trans (ext_alloc w (.cells (ints .u8 xs) 23)) hw1) hE
         have hgx : w.heap.size < w1.heap.size := by have := hw1.size; simp at this; omega
         generalize (w1.alloc (.cells #[.int .u64 0, .int .u64 0, .int .u64 0, .int .u64 0] 29)).setRow w1.heap.size (numA x) = V1 at *
         generalize w1.heap.size = gx at *
         clear hw1 hE)
      | (go_at_call 30
         (with_reducible refine (HM.out _).mono ?_)
         rintro e w2 ⟨rfl, hw2⟩
         have hX2 := row_ext hX hw2
         have he2 := Ext.trans he hw2
         clear hX he hw2 HM hA)
      | (go_at_call 34
         (with_reducible refine (HRT.out _).mono ?_)
         rintro e w3 ⟨rfl, hw3⟩
         have hX3 := row_ext hX2 hw3
         have he3 := Ext.trans he2 hw3
         clear hX2 he2 hw3 HRT)
      | (go_at_call 24
         (with_reducible refine (HO.out _).mono ?_)
         rintro e w5 ⟨rfl, hw5⟩
         have hX5 := row_ext hX4 hw5
         have hR5 := row_ext hR4 hw5
         have he5 := Ext.trans he4 hw5
         clear hX4 hR4 he4 hw5 HO
         rw [← HEE.out] at hX5)
      | (with_reducible show wpList _ _ _ ((⟨_, .load 29 _, _, _, _, _⟩ : Oper) :: _) _ _
         refine wpList_load_row rfl 29 _ rfl gx rfl 29 _ (0, 0) _ hX Try.underlying29 rfl infoNum ?_)
      | (with_reducible show wpList _ _ _ ((⟨_, .load 29 _, _, _, _, _⟩ : Oper) :: _) _ _
         refine wpList_load_row rfl 29 _ rfl gx rfl 29 _ (0, 0) _ hX4 Try.underlying29 rfl infoNum ?_)
      | (with_reducible show wpList _ _ _ ((⟨_, .store 29 _ _, _, _, _, _⟩ : Oper) :: _) _ _
         refine wpList_store_row rfl 29 _ _ rfl w3.heap.size (numA ev) rfl rfl 29 _ (heap_alloc_new _ _) infoNum rfl (numA_one _) ?_
         have hR4 := setRow_heap _ _ _ (numA ev) _ _ (heap_alloc_new w3 (.cells #[.int .u64 0, .int .u64 0, .int .u64 0, .int .u64 0] 29))
         have hE := ext_setRow (ext_alloc w3 (.cells #[.int .u64 0, .int .u64 0, .int .u64 0, .int .u64 0] 29)) (Nat.le_refl _) (numA ev)
         have hX4 := row_ext hX3 hE
         have he4 := Ext.trans he3 hE
         have hgr : gx < w3.heap.size := row_lt hX3
         generalize (w3.alloc (.cells #[.int .u64 0, .int .u64 0, .int .u64 0, .int .u64 0] 29)).setRow w3.heap.size (numA ev) = V4 at *
         generalize w3.heap.size = gr at *
         clear hE hX3 he3)
        | (go_at_call 18
           (with_reducible refine (HAL.out _).mono ?_)
           rintro e w6 ⟨rfl, hw6⟩
           have hX6 := row_ext hX5 hw6
           have hR6 := row_ext hR5 hw6
           have he6 := Ext.trans he5 hw6
           clear hX5 hR5 he5 hw6 HAL)
        | (go_at_call 29
           (with_reducible refine (HEQ.out _).mono ?_)
           rintro e w7 ⟨rfl, hw7⟩
           have hR7 := row_ext hR6 hw7
           have he7 := Ext.trans he6 hw7
           clear hX6 hR6 he6 hw7 HEQ)
        | (go_at_call 24
           (with_reducible refine (HEV.out _).mono ?_)
           rintro e w8 ⟨rfl, hw8⟩)
        | (with_reducible show wpList _ _ _ ((⟨_, .load 29 _, _, _, _, _⟩ : Oper) :: _) _ _
           refine load_row_g 29 _ rfl gr rfl 29 _ (0, 0) _ hR6 Try.underlying29 rfl infoNum rfl ?_)
        | (with_reducible show wpList _ _ _ ((⟨_, .load 29 _, _, _, _, _⟩ : Oper) :: _) _ _
           refine load_row_g 29 _ rfl gx rfl 29 _ (0, 0) _ hX6 Try.underlying29 rfl infoNum rfl ?_)
        | (with_reducible show wpList _ _ _ ((⟨_, .load 29 _, _, _, _, _⟩ : Oper) :: _) _ _
           refine load_row_g 29 _ rfl gr rfl 29 _ (0, 0) _ hR7 Try.underlying29 rfl infoNum rfl ?_)
    exact bodyPost_ret (results_tmp rfl _ _ _) rfl ⟨rfl, Ext.trans he7 hw8⟩
end Go.Proofs.Ytaojnmjmmfdfjaa.Field
