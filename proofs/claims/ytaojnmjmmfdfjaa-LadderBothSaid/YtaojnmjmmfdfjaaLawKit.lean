/- What the laws of the field use: loads of numbers, the comparison with the document's number. -/
import Derived.Test.YtaojnmjmmfdfjaaRefF
import Derived.Test.YtaojnmjmmfdfjaaRefG
import Derived.Test.YtaojnmjmmfdfjaaFieldH
namespace Go.Proofs.Ytaojnmjmmfdfjaa.Field
open Go Go.RowKit
open Go.Proofs.Ytaojnmjmmfdfjaa.Rely
set_option linter.unusedVariables false

def keyNum (xs : List Int) : Int := leAt xs 0 32 % 57896044618658097711785492504343953926634992332820282019728792003956564819968 % p
theorem keyNum_isN (xs : List Int) : isN (keyNum xs) := isN_mod _
theorem isN_big {n : Int} (h : isN n) : 0 ≤ n ∧ n < big := ⟨h.1, Int.lt_trans h.2 (by decide)⟩
theorem load_num {o : Oper} {ρ : Tmp → Value} {W : World} (x : Operand) (ho : o.op = .load 29 x) (g : Nat) (n : Int) (hx : Rely.look ρ x = Value.pointer (some ⟨g, 0, none⟩)) (hg : W.heap[g]? = some (.cells (numA n) 29)) :
    relyAt Try.prog Ext o ρ W (fun v _ => v = num n) :=
  relyAt_load_row 29 x ho g hx 29 (numA n) (0, 0) _ hg Try.underlying29 rfl infoNum
theorem load_lnum {o : Oper} {ρ : Tmp → Value} {W : World} (x : Operand) (ho : o.op = .load 32 x) (g : Nat) (n : Int) (hx : Rely.look ρ x = Value.pointer (some ⟨g, 0, none⟩)) (hg : W.heap[g]? = some (.cells (ints .i64 (lims n)) 32)) :
    relyAt Try.prog Ext o ρ W (fun v _ => v = lnum n) :=
  relyAt_load_row 32 x ho g hx 32 _ (0, 0) _ hg Try.underlying32 rfl (infoL _ (lims_len _))
theorem load_key {o : Oper} {ρ : Tmp → Value} {W : World} (x : Operand) (ho : o.op = .load 23 x) (g : Nat) (xs : List Int) (hl : xs.length = 32) (hx : Rely.look ρ x = Value.pointer (some ⟨g, 0, none⟩)) (hg : W.heap[g]? = some (.cells (ints .u8 xs) 23)) :
    relyAt Try.prog Ext o ρ W (fun v _ => v = .agg (ints .u8 xs)) :=
  relyAt_load_row 23 x ho g hx 23 _ (0, 0) _ hg Try.underlying23 rfl (by rw [infoKey, ints_size, hl])
theorem num_is (a b : Int) (h : a = b) (ha : isN a) (w : World) : Calls Try.prog 29 #[num a, num b] w (Ret w (.bool true)) := by
  subst h
  have := equal a a ha ha w
  simpa using this
theorem num_isnt (a b : Int) (h : a ≠ b) (ha : isN a) (hb : isN b) (w : World) : Calls Try.prog 29 #[num a, num b] w (Ret w (.bool false)) := by
  have := equal a b ha hb w
  rw [show (a == b) = false by simpa using h] at this
  exact this
/-- a fresh variable of a type -/
def FreshT (t : TypeId) (m : Nat) (b : Nat) (v : Value) (W : World) : Prop := ∃ g, v = .pointer (some ⟨g, 0, none⟩) ∧ b ≤ g ∧ g < W.heap.size ∧ ∃ cs : Array Value, cs.size = m ∧ W.heap[g]? = some (.cells cs t)
theorem freshT_stable (t : TypeId) (m : Nat) (b : Nat) : Stable Ext (FreshT t m b) := fun v W W' hR ⟨g, h1, h2, h3, cs, h4, h5⟩ => ⟨g, h1, h2, Nat.lt_of_lt_of_le h3 hR.size, cs, h4, (hR.block g h3).trans h5⟩
theorem bytesOf_len (n : Int) : (bytesOf n).length = 32 := by simp [bytesOf, part]

theorem is_true (n : Int) (hn : isN n) (w : World) : Calls Try.prog 19 #[num n, lnum n] w (Ret w (.bool true)) := by
  have HB : Hid (∀ w, Calls Try.prog 48 #[num n] w (Ret w (.agg (ints .u8 (bytesOf n))))) := Lib.hid fun w => bytes n hn w
  have HL : Hid (∀ w, Calls Try.prog 49 #[lnum n] w (Ret w (.agg (ints .u8 (bytesOf n))))) := Lib.hid fun w => lBytes n w
  have he : ∀ (W : World), (binOp .eql 23 (.agg (ints .u8 (bytesOf n))) (.agg (ints .u8 (bytesOf n)))).run Try.prog W = .ok (.bool true) W := fun W => by
    rw [eql_ints W Try.underlying23 Try.underlying5 (by kernel_rfl) _ _ (bytesOf_len n) (bytesOf_len n)]
    simp
  have hg : Try.prog.eqGuardType Try.prog.depth 23 = false := by kernel_rfl
  generalize bytesOf n = bs at *
  rw [show num n = .agg (numA n) from rfl, show lnum n = .agg (ints .i64 (lims n)) from rfl]
  go_enter Try.func19, Try.ntmps19
  go_wp2_with fail
  generalize hW : ((w.alloc (.cells (numA n) 29)).alloc (.cells (ints .i64 (lims n)) 32)) = W0
  have hA : W0.heap[w.heap.size]? = some (.cells (numA n) 29) := by rw [← hW, Below.heap_alloc _ _ _ (by simp)]; exact heap_alloc_new _ _
  have hB : W0.heap[w.heap.size + 1]? = some (.cells (ints .i64 (lims n)) 32) := by
    rw [← hW]
    have := heap_alloc_new (w.alloc (.cells (numA n) 29)) (.cells (ints .i64 (lims n)) 32)
    simpa using this
  have he0 : Ext w W0 := by rw [← hW]; exact Ext.trans (ext_alloc _ _) (ext_alloc _ _)
  clear hW
  have HX : Hid (∀ W, Ext W0.drew W → W.heap[w.heap.size]? = some (.cells (numA n) 29)) := Lib.hid fun W hR => row_ext (row_ext hA (ext_drew _)) hR
  have HY : Hid (∀ W, Ext W0.drew W → W.heap[w.heap.size + 1]? = some (.cells (ints .i64 (lims n)) 32)) := Lib.hid fun W hR => row_ext (row_ext hB (ext_drew _)) hR
  refine wp_region_rely Ext 5 10 [⟨none, [(2, none)]⟩, ⟨none, [(5, some 0)]⟩, ⟨none, [(3, none)]⟩, ⟨none, [(7, some 2)]⟩, ⟨none, [(6, some 1), (8, some 3)]⟩] (by kernel_rfl) (by kernel_rfl) rfl Ext.refl Ext.trans (fun F r0 hr hF => ?_)
  have f2 : r0 2 = .pointer (some ⟨w.heap.size, 0, none⟩) := by rw [hr]; rfl
  have f3 : r0 3 = .pointer (some ⟨w.heap.size + 1, 0, none⟩) := by rw [hr]; rfl
  clear hr
  simp only [List.take_succ_cons, List.take_zero]
  refine step_const (num n) (fun ρ W hR hh => ?_) ?_
  · clear hF
    have h2 : ρ 2 = .pointer (some ⟨w.heap.size, 0, none⟩) := Eq.trans hh.1 f2
    exact load_num (.tmp _) rfl _ _  h2 (HX.out W hR)
  refine step_const (.agg (ints .u8 bs)) (fun ρ W hR hh => ?_) ?_
  · clear hF
    have h5 : ρ 5 = num n := hh.1
    simp only [guarded, relyAt]
    go_simp
    exact ⟨Ext.refl _, (HB.out _).mono fun _ _ h => h.const⟩
  refine step_const (lnum n) (fun ρ W hR hh => ?_) ?_
  · clear hF
    have h3 : ρ 3 = .pointer (some ⟨w.heap.size + 1, 0, none⟩) := Eq.trans hh.1 f3
    exact load_lnum (.tmp _) rfl _ _  h3 (HY.out W hR)
  refine step_const (.agg (ints .u8 bs)) (fun ρ W hR hh => ?_) ?_
  · clear hF
    have h7 : ρ 7 = lnum n := hh.1
    simp only [guarded, relyAt]
    go_simp
    exact ⟨Ext.refl _, (HL.out _).mono fun _ _ h => h.const⟩
  refine step_const (.bool true) (fun ρ W hR hh => ?_) ?_
  · clear hF
    have h6 : ρ 6 = .agg (ints .u8 bs) := hh.1
    have h8 : ρ 8 = .agg (ints .u8 bs) := hh.2.1
    exact relyAt_eql_agg 23 _ (.tmp _) (.tmp _) rfl _ _ _ hg h6 h8 (he W)
  simp only [List.cons_append, List.nil_append]
  refine hF.out fun W1 hR1 => ?_
  simp only [List.take_succ_cons, List.take_zero, List.drop_succ_cons, List.drop_zero, fin, forall_eq, Act.put, List.setIfInBounds_toArray, List.set_cons_zero, List.set_cons_succ]
  clear hF
  go_wp2
  exact bodyPost_ret (results_tmp rfl _ _ _) rfl ⟨rfl, Ext.trans (Ext.trans he0 (ext_drew _)) hR1⟩
end Go.Proofs.Ytaojnmjmmfdfjaa.Field
