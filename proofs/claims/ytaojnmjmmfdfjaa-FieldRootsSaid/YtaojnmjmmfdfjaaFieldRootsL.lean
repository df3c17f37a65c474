/- The walk of the law FieldRoots. -/
import Derived.Test.YtaojnmjmmfdfjaaLawKit
import Derived.Test.YtaojnmjmmfdfjaaRootC
import Derived.Test.YtaojnmjmmfdfjaaRootE
import Derived.Test.YtaojnmjmmfdfjaaRelyD
namespace Go.Proofs.Ytaojnmjmmfdfjaa.Field
open Go Go.RowKit
open Go.Proofs.Ytaojnmjmmfdfjaa.Rely
set_option linter.unusedVariables false

theorem load_row_g {P : Program} {ops : Array Oper} {rest : List Oper} {o : Oper} {a : Act} {w : World} {Q : Exit → Act → World → Prop} (ty : TypeId) (x : Operand) (ho : o.op = .load ty x)
    (g : Nat) (hx : a.eval x = .pointer (some ⟨g, 0, none⟩)) (t : TypeId) (cs : Array Value) (fr : Nat × Nat) (d : TypeDesc) (hg : w.heap[g]? = some (.cells cs t fr))
    (hu : P.underlying ty = some d) (hd : (match d with | .struct _ | .array _ _ => true | _ => false) = true) (hi : (P.info? ty).map (·.size) = some cs.size)
    (hw : Region.wanted o (yielded ops a.tmps) = true)
    (h : wpList P ops Q rest (a.put o.dst (.agg cs)) w) : wpList P ops Q (o :: rest) a w :=
  wpList_step fun _ hK => by
    rw [if_pos hw]
    exact wp_load_row ty x ho g hx t cs fr d hg hu hd hi (hK _ _ h)
set_option maxRecDepth 100000 in
set_option maxHeartbeats 8000000 in
theorem roots (xs : List Int) (hx : xs.length = 32) (hbx : AreBytes xs) (w : World) :
    Calls Try.prog 7 #[.agg (ints .u8 xs)] w fun e w' => e = .returned (.bool true) ∧ Below w.heap.size w w' := by
  have HFX : Hid (∀ w, Calls Try.prog 20 #[.agg (ints .u8 xs)] w (Ret w (num (keyNum xs)))) := Lib.hid (from_ xs hx hbx)
  have HLX : Hid (∀ w, Calls Try.prog 21 #[.agg (ints .u8 xs)] w (Ret w (lnum (keyNum xs)))) := Lib.hid (lFrom xs hx hbx)
  have iX := keyNum_isN xs
  generalize keyNum xs = x at *
  have HAL : Hid (∀ w, Calls Try.prog 18 #[] w (Ret w (.bool true))) := Lib.hid alive
  have HR : Hid (∀ w, Calls Try.prog 34 #[num x] w (Ret w (.tuple #[.agg (numA (rootN x)), .bool (hasRoot x)]))) := Lib.hid (root x iX)
  have HLR : Hid (∀ w, Calls Try.prog 35 #[lnum x] w (Ret w (.tuple #[.agg (ints .i64 (lims (rootN x))), .bool (hasRoot x)]))) := Lib.hid (lRoot x iX)
  have HIS : Hid (∀ w, Calls Try.prog 19 #[.agg (numA (rootN x)), .agg (ints .i64 (lims (rootN x)))] w (Ret w (.bool true))) := Lib.hid (is_true _ (rootN_isN x))
  have lr := lims_len (rootN x)
  have hgk : (Try.prog.info? 23).map (·.size) = some (ints .u8 xs).size := by rw [infoKey, ints_size, hx]
  generalize rootN x = r at *
  generalize hasRoot x = ok at *
  go_enter Try.func7, Try.ntmps7
  have eok : (ok == ok) = true := by simp
  go_wp2_with first
    | (go_at_call 20
       (with_reducible refine (HFX.out _).mono ?_)
       rintro e w1 ⟨rfl, hw1⟩
       have hA1 := row_ext (heap_alloc_new w (.cells (ints .u8 xs) 23)) hw1
       have he1 := Ext.trans (ext_alloc w (.cells (ints .u8 xs) 23)) hw1
       clear HFX hw1)
    | (go_at_call 34
       (with_reducible refine (HR.out _).mono ?_)
       rintro e w2 ⟨rfl, hw2⟩
       have hA2 := row_ext hA1 hw2
       have he2 := Ext.trans he1 hw2
       clear HR hw2 hA1 he1)
    | (go_at_call 21
       (with_reducible refine (HLX.out _).mono ?_)
       rintro e w4 ⟨rfl, hw4⟩
       have hr4 := row_ext hr3 hw4
       have he4 := Ext.trans he3 hw4
       clear HLX hw4 hr3 he3 hA3)
    | (go_at_call 35
       (with_reducible refine (HLR.out _).mono ?_)
       rintro e w5 ⟨rfl, hw5⟩
       have hr5 := row_ext hr4 hw5
       have he5 := Ext.trans he4 hw5
       clear HLR hw5 hr4 he4)
    | (go_at_call 18
       (with_reducible refine (HAL.out _).mono ?_)
       rintro e w7 ⟨rfl, hw7⟩
       have hr7 := row_ext hr6 hw7
       have hl7 := row_ext hl6 hw7
       have he7 := Ext.trans he6 hw7
       clear HAL hw7 hr6 hl6 he6)
    | (go_at_call 19
       (with_reducible refine (HIS.out _).mono ?_)
       rintro e w8 ⟨rfl, hw8⟩)
    | (with_reducible show wpList _ _ _ ((⟨_, .load 23 _, _, _, _, _⟩ : Oper) :: _) _ _
       refine wpList_load_row rfl 23 _ rfl w.heap.size rfl 23 _ (0, 0) _ (heap_alloc_new _ _) Try.underlying23 rfl hgk ?_)
    | (with_reducible show wpList _ _ _ ((⟨_, .load 23 _, _, _, _, _⟩ : Oper) :: _) _ _
       refine wpList_load_row rfl 23 _ rfl w.heap.size rfl 23 _ (0, 0) _ hA3 Try.underlying23 rfl hgk ?_)
    | (with_reducible show wpList _ _ _ ((⟨_, .load 29 _, _, _, _, _⟩ : Oper) :: _) _ _
       refine load_row_g 29 _ rfl gr rfl 29 _ (0, 0) _ hr7 Try.underlying29 rfl infoNum rfl ?_)
    | (with_reducible show wpList _ _ _ ((⟨_, .load 32 _, _, _, _, _⟩ : Oper) :: _) _ _
       refine load_row_g 32 _ rfl gl rfl 32 _ (0, 0) _ hl7 Try.underlying32 rfl (infoL _ lr) rfl ?_)
    | (with_reducible show wpList _ _ _ ((⟨_, .store 29 _ _, _, _, _, _⟩ : Oper) :: _) _ _
       refine wpList_store_row rfl 29 _ _ rfl w2.heap.size (numA r) rfl rfl 29 _ (heap_alloc_new _ _) infoNum rfl (numA_one _) ?_
       have hr3 := setRow_heap _ _ _ (numA r) _ _ (heap_alloc_new w2 (.cells #[.int .u64 0, .int .u64 0, .int .u64 0, .int .u64 0] 29))
       have hE := ext_setRow (ext_alloc w2 (.cells #[.int .u64 0, .int .u64 0, .int .u64 0, .int .u64 0] 29)) (Nat.le_refl _) (numA r)
       have hA3 := row_ext hA2 hE
       have he3 := Ext.trans he2 hE
       generalize (w2.alloc (.cells #[.int .u64 0, .int .u64 0, .int .u64 0, .int .u64 0] 29)).setRow w2.heap.size (numA r) = V3 at *
       generalize w2.heap.size = gr at *
       clear hE hA2 he2)
    | (with_reducible show wpList _ _ _ ((⟨_, .store 32 _ _, _, _, _, _⟩ : Oper) :: _) _ _
       refine wpList_store_row rfl 32 _ _ rfl w5.heap.size (ints .i64 (lims r)) rfl rfl 32 _ (heap_alloc_new _ _) (infoL _ lr) (by rw [ints_size, lr]; rfl) (ints_one _ _) ?_
       have hl6 := setRow_heap _ _ _ (ints .i64 (lims r)) _ _ (heap_alloc_new w5 (.cells #[.int .i64 0, .int .i64 0, .int .i64 0, .int .i64 0, .int .i64 0, .int .i64 0, .int .i64 0, .int .i64 0, .int .i64 0, .int .i64 0, .int .i64 0, .int .i64 0, .int .i64 0, .int .i64 0, .int .i64 0, .int .i64 0] 32))
       have hE := ext_setRow (ext_alloc w5 (.cells #[.int .i64 0, .int .i64 0, .int .i64 0, .int .i64 0, .int .i64 0, .int .i64 0, .int .i64 0, .int .i64 0, .int .i64 0, .int .i64 0, .int .i64 0, .int .i64 0, .int .i64 0, .int .i64 0, .int .i64 0, .int .i64 0] 32)) (Nat.le_refl _) (ints .i64 (lims r))
       have hr6 := row_ext hr5 hE
       have he6 := Ext.trans he5 hE
       generalize (w5.alloc (.cells #[.int .i64 0, .int .i64 0, .int .i64 0, .int .i64 0, .int .i64 0, .int .i64 0, .int .i64 0, .int .i64 0, .int .i64 0, .int .i64 0, .int .i64 0, .int .i64 0, .int .i64 0, .int .i64 0, .int .i64 0, .int .i64 0] 32)).setRow w5.heap.size (ints .i64 (lims r)) = V6 at *
       generalize w5.heap.size = gl at *
       clear hE hr5 he5)
  exact bodyPost_ret (results_tmp rfl _ _ _) rfl ⟨rfl, Ext.trans he7 hw8⟩
end Go.Proofs.Ytaojnmjmmfdfjaa.Field
