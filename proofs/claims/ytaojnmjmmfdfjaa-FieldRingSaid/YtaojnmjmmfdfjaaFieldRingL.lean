/- The walk of the law FieldRing. -/
import Derived.Test.YtaojnmjmmfdfjaaFieldH
import Derived.Test.YtaojnmjmmfdfjaaRelyD
import Derived.Test.YtaojnmjmmfdfjaaRows2
namespace Go.Proofs.Ytaojnmjmmfdfjaa.Field
open Go Go.RowKit
open Go.Proofs.Ytaojnmjmmfdfjaa.Rely
set_option linter.unusedVariables false

def numOf (xs : List Int) : Int := leAt xs 0 32 % 57896044618658097711785492504343953926634992332820282019728792003956564819968 % p
theorem numOf_isN (xs : List Int) : isN (numOf xs) := isN_mod _
/-- a fresh variable of the type of numbers -/
def Fresh (b : Nat) (v : Value) (W : World) : Prop := ∃ g, v = .pointer (some ⟨g, 0, none⟩) ∧ b ≤ g ∧ g < W.heap.size ∧ ∃ cs, cs.size = 4 ∧ W.heap[g]? = some (.cells cs 29)
theorem fresh_stable (b : Nat) : Stable Ext (Fresh b) := fun v W W' hR ⟨g, h1, h2, h3, cs, h4, h5⟩ => ⟨g, h1, h2, Nat.lt_of_lt_of_le h3 hR.size, cs, h4, (hR.block g h3).trans h5⟩

theorem relyAt_load_num {o : Oper} {ρ : Tmp → Value} {W : World} (x : Operand) (ho : o.op = .load 29 x) (g : Nat) (n : Int) (hx : Rely.look ρ x = Value.pointer (some ⟨g, 0, none⟩)) (hg : W.heap[g]? = some (.cells (numA n) 29)) :
    relyAt Try.prog Ext o ρ W (fun v _ => v = num n) :=
  relyAt_load_row 29 x ho g hx 29 (numA n) (0, 0) _ hg Try.underlying29 rfl infoNum
theorem equal_true (a b : Int) (h : a = b) (ha : isN a) (w : World) : Calls Try.prog 29 #[num a, num b] w (Ret w (.bool true)) := by
  subst h
  have := equal a a ha ha w
  simpa using this
theorem eq1 (x y : Int) : (x + y) % p = (y + x) % p := by rw [Int.add_comm]
theorem eq2 (x y z : Int) : ((x + y) % p + z) % p = (x + (y + z) % p) % p := by rw [Int.emod_add_emod, Int.add_emod_emod, Int.add_assoc]
theorem eq3 (x y : Int) (hx : isN x) : ((x - y) % p + y) % p = x := by rw [Int.emod_add_emod, Int.sub_add_cancel, Int.emod_eq_of_lt hx.1 hx.2]
theorem mod_mul (a b : Int) : a % p * b % p = a * b % p := by rw [Int.mul_emod, Int.emod_emod, ← Int.mul_emod]
theorem mul_mod (a b : Int) : a * (b % p) % p = a * b % p := by rw [Int.mul_emod, Int.emod_emod, ← Int.mul_emod]
theorem eq5 (x y z : Int) : x * y % p * z % p = x * (y * z % p) % p := by rw [mod_mul, mul_mod, Int.mul_assoc]
theorem eq6 (x y z : Int) : (x + y) % p * z % p = (x * z % p + y * z % p) % p := by rw [mod_mul, Int.add_mul, Int.emod_add_emod, Int.add_emod_emod]
theorem eq7 (x : Int) (hx : isN x) : x * 1 % p = x := by rw [Int.mul_one, Int.emod_eq_of_lt hx.1 hx.2]
theorem eq4 (x y : Int) : x * y % p = y * x % p := by rw [Int.mul_comm]

set_option maxRecDepth 100000 in
set_option maxHeartbeats 8000000 in
theorem ring (xs ys zs : List Int) (hx : xs.length = 32) (hy : ys.length = 32) (hz : zs.length = 32) (hbx : AreBytes xs) (hby : AreBytes ys) (hbz : AreBytes zs) (w : World) :
    Calls Try.prog 9 #[.agg (ints .u8 xs), .agg (ints .u8 ys), .agg (ints .u8 zs)] w fun e w' => e = .returned (.bool true) ∧ Below w.heap.size w w' := by
  have hi : ∀ (ys : List Int), ys.length = 32 → (Try.prog.info? 23).map (·.size) = some (ints .u8 ys).size := fun ys h => by rw [infoKey, ints_size, h]
  generalize hw0 : ((w.alloc (.cells (ints .u8 xs) 23)).alloc (.cells (ints .u8 ys) 23)).alloc (.cells (ints .u8 zs) 23) = w0
  have gx : w0.heap[w.heap.size]? = some (.cells (ints .u8 xs) 23) := by rw [← hw0]; exact alloc3_fst _ _ _ _
  have gy : w0.heap[w.heap.size + 1]? = some (.cells (ints .u8 ys) 23) := by rw [← hw0]; exact alloc3_mid _ _ _ _
  have gz : w0.heap[w.heap.size + 1 + 1]? = some (.cells (ints .u8 zs) 23) := by rw [← hw0]; exact alloc3_new _ _ _ _
  have hs0 : w0.heap.size = w.heap.size + 3 := by rw [← hw0]; simp
  have he0 : Ext w w0 := by rw [← hw0]; exact ext3 _ _ _ _
  have fx := from_ xs hx hbx
  have fy := from_ ys hy hby
  have fz := from_ zs hz hbz
  go_enter Try.func9, Try.ntmps9
  go_wp2_with fail
  try rw [hw0]
  refine wp_region_relyD Ext 9 102 [⟨none, [(3, none)]⟩, ⟨none, [(10, some 0)]⟩, ⟨none, [(4, none)]⟩, ⟨none, [(12, some 2)]⟩, ⟨none, [(5, none)]⟩, ⟨none, [(14, some 4)]⟩, ⟨none, []⟩, ⟨none, []⟩, ⟨none, []⟩] [6, 7, 8] (by kernel_rfl) (by kernel_rfl) (by kernel_rfl) rfl Ext.refl Ext.trans (fun F r0 hr hF => ?_)
  have f3 : r0 3 = .pointer (some ⟨w.heap.size, 0, none⟩) := by rw [hr]; rfl
  have f4 : r0 4 = .pointer (some ⟨w.heap.size + 1, 0, none⟩) := by rw [hr]; rfl
  have f5 : r0 5 = .pointer (some ⟨w.heap.size + 1 + 1, 0, none⟩) := by rw [hr]; rfl
  clear hr
  simp only [List.take_succ_cons, List.take_zero]
  refine step_const (.agg (ints .u8 xs)) (fun ρ W hR hh => ?_) ?_
  · exact relyAt_load_row 23 (.tmp _) rfl _ (Eq.trans hh.1 f3) 23 _ (0, 0) _ ((hR.block _ (by show _ < w0.heap.size; omega)).trans gx) Try.underlying23 rfl (hi _ hx)
  refine step_const (num (numOf xs)) (fun ρ W hR hh => ?_) ?_
  · have h10 : ρ 10 = .agg (ints .u8 xs) := hh.1
    simp only [guarded, relyAt]
    go_simp
    exact ⟨Ext.refl _, (fx _).mono fun _ _ h => h.const⟩
  refine step_const (.agg (ints .u8 ys)) (fun ρ W hR hh => ?_) ?_
  · exact relyAt_load_row 23 (.tmp _) rfl _ (Eq.trans hh.1 f4) 23 _ (0, 0) _ ((hR.block _ (by show _ < w0.heap.size; omega)).trans gy) Try.underlying23 rfl (hi _ hy)
  refine step_const (num (numOf ys)) (fun ρ W hR hh => ?_) ?_
  · have h12 : ρ 12 = .agg (ints .u8 ys) := hh.1
    simp only [guarded, relyAt]
    go_simp
    exact ⟨Ext.refl _, (fy _).mono fun _ _ h => h.const⟩
  refine step_const (.agg (ints .u8 zs)) (fun ρ W hR hh => ?_) ?_
  · exact relyAt_load_row 23 (.tmp _) rfl _ (Eq.trans hh.1 f5) 23 _ (0, 0) _ ((hR.block _ (by show _ < w0.heap.size; omega)).trans gz) Try.underlying23 rfl (hi _ hz)
  refine step_const (num (numOf zs)) (fun ρ W hR hh => ?_) ?_
  · have h14 : ρ 14 = .agg (ints .u8 zs) := hh.1
    simp only [guarded, relyAt]
    go_simp
    exact ⟨Ext.refl _, (fz _).mono fun _ _ h => h.const⟩
  iterate 3
    (refine step_fact (Fresh w0.heap.size) (fresh_stable _) (fun ρ W hR hh => ?_) ?_
     · have hsz : w0.heap.size ≤ W.heap.size := hR.size
       simp only [guarded, relyAt]
       go_simp
       exact ⟨ext_alloc _ _, _, rfl, by omega, by simp, _, rfl, heap_alloc_new _ _⟩)
  simp only [List.cons_append, List.nil_append]
  refine hF.out ?_ fun W hR => ?_
  · intro j hj u W h
    have : Fresh w0.heap.size u W := by
      simp only [List.mem_cons, List.not_mem_nil, or_false] at hj
      rcases hj with rfl | rfl | rfl <;> exact h
    obtain ⟨g, h1, _, h3, _⟩ := this
    exact ⟨g, h1, h3⟩
  simp only [List.take_succ_cons, List.take_zero, List.drop_succ_cons, List.drop_zero, finP]
  intro v0 h0 _ v1 h1 _ v2 h2 _ v3 h3 _ v4 h4 _ v5 h5 _ v6 h6 _ v7 h7 d7 v8 h8 d8
  have n67 : v6 ≠ v7 := d7 (by decide) v6 (by simp)
  have n68 : v6 ≠ v8 := d8 (by decide) v6 (by simp)
  have n78 : v7 ≠ v8 := d8 (by decide) v7 (by simp)
  clear d7 d8
  subst h0 h1 h2 h3 h4 h5
  obtain ⟨g6, rfl, l6, u6, c6, s6, k6⟩ := h6
  obtain ⟨g7, rfl, l7, u7, c7, s7, k7⟩ := h7
  obtain ⟨g8, rfl, l8, u8, c8, s8, k8⟩ := h8
  have m67 : g6 ≠ g7 := fun e => n67 (by rw [e])
  have m68 : g6 ≠ g8 := fun e => n68 (by rw [e])
  have m78 : g7 ≠ g8 := fun e => n78 (by rw [e])
  clear n67 n68 n78
  simp only [Act.put, List.setIfInBounds_toArray, List.set_cons_zero, List.set_cons_succ]
  refine wpList_store_row rfl 29 _ _ rfl g6 (numA (numOf xs)) rfl rfl 29 _ k6 infoNum s6 (numA_one _) ?_
  refine wpList_store_row rfl 29 _ _ rfl g7 (numA (numOf ys)) rfl rfl 29 _ ((setRow_other _ _ _ _ (Ne.symm m67)).trans k7) infoNum s7 (numA_one _) ?_
  refine wpList_store_row rfl 29 _ _ rfl g8 (numA (numOf zs)) rfl rfl 29 _ ((setRow_other _ _ _ _ (Ne.symm m78)).trans ((setRow_other _ _ _ _ (Ne.symm m68)).trans k8)) infoNum s8 (numA_one _) ?_
  generalize hW1 : ((W.setRow g6 (numA (numOf xs))).setRow g7 (numA (numOf ys))).setRow g8 (numA (numOf zs)) = W1
  have r6 : W1.heap[g6]? = some (.cells (numA (numOf xs)) 29) := by
    rw [← hW1, setRow_other _ _ _ _ m68, setRow_other _ _ _ _ m67]
    exact setRow_heap _ _ _ _ _ _ k6
  have r7 : W1.heap[g7]? = some (.cells (numA (numOf ys)) 29) := by
    rw [← hW1, setRow_other _ _ _ _ m78]
    exact setRow_heap _ _ _ _ _ _ ((setRow_other _ _ _ _ (Ne.symm m67)).trans k7)
  have r8 : W1.heap[g8]? = some (.cells (numA (numOf zs)) 29) := by
    rw [← hW1]
    exact setRow_heap _ _ _ _ _ _ ((setRow_other _ _ _ _ (Ne.symm m78)).trans ((setRow_other _ _ _ _ (Ne.symm m68)).trans k8))
  have e1 : Ext w W1 := by
    rw [← hW1]
    exact below_setRow (below_setRow (below_setRow (Ext.trans he0 (Ext.trans (ext_drew _) hR)) (by omega) _) (by omega) _) (by omega) _
  clear hW1 k6 k7 k8 s6 s7 s8
  have hX := numOf_isN xs
  have hY := numOf_isN ys
  have hZ := numOf_isN zs
  have b6 : g6 < W1.heap.size := (Array.getElem?_eq_some_iff.1 r6).1
  have b7 : g7 < W1.heap.size := (Array.getElem?_eq_some_iff.1 r7).1
  have b8 : g8 < W1.heap.size := (Array.getElem?_eq_some_iff.1 r8).1
  generalize numOf xs = x at *
  generalize numOf ys = y at *
  generalize numOf zs = z at *
  clear fx fy fz hi gx gy gz hs0 he0 hx hy hz hbx hby hbz l6 l7 l8 c6 c7 c8 hw0
  obtain ⟨v21, e21⟩ : ∃ v, v = (x + y) % p := ⟨_, rfl⟩
  have i21 : isN v21 := by rw [e21]; exact isN_mod _
  have C21 : Hid (∀ w, Calls Try.prog 25 #[num x, num y] w (Ret w (num v21))) := Lib.hid fun w => by rw [e21]; exact add _ _ hX hY w
  obtain ⟨v24, e24⟩ : ∃ v, v = (y + x) % p := ⟨_, rfl⟩
  have i24 : isN v24 := by rw [e24]; exact isN_mod _
  have C24 : Hid (∀ w, Calls Try.prog 25 #[num y, num x] w (Ret w (num v24))) := Lib.hid fun w => by rw [e24]; exact add _ _ hY hX w
  have C25 : Hid (∀ w, Calls Try.prog 29 #[num v21, num v24] w (Ret w (.bool true))) := Lib.hid (equal_true _ _ (by rw [e21, e24]; exact eq1 x y) i21)
  obtain ⟨v31, e31⟩ : ∃ v, v = (x + y) % p := ⟨_, rfl⟩
  have i31 : isN v31 := by rw [e31]; exact isN_mod _
  have C31 : Hid (∀ w, Calls Try.prog 25 #[num x, num y] w (Ret w (num v31))) := Lib.hid fun w => by rw [e31]; exact add _ _ hX hY w
  obtain ⟨v33, e33⟩ : ∃ v, v = (v31 + z) % p := ⟨_, rfl⟩
  have i33 : isN v33 := by rw [e33]; exact isN_mod _
  have C33 : Hid (∀ w, Calls Try.prog 25 #[num v31, num z] w (Ret w (num v33))) := Lib.hid fun w => by rw [e33]; exact add _ _ i31 hZ w
  obtain ⟨v37, e37⟩ : ∃ v, v = (y + z) % p := ⟨_, rfl⟩
  have i37 : isN v37 := by rw [e37]; exact isN_mod _
  have C37 : Hid (∀ w, Calls Try.prog 25 #[num y, num z] w (Ret w (num v37))) := Lib.hid fun w => by rw [e37]; exact add _ _ hY hZ w
  obtain ⟨v38, e38⟩ : ∃ v, v = (x + v37) % p := ⟨_, rfl⟩
  have i38 : isN v38 := by rw [e38]; exact isN_mod _
  have C38 : Hid (∀ w, Calls Try.prog 25 #[num x, num v37] w (Ret w (num v38))) := Lib.hid fun w => by rw [e38]; exact add _ _ hX i37 w
  have C39 : Hid (∀ w, Calls Try.prog 29 #[num v33, num v38] w (Ret w (.bool true))) := Lib.hid (equal_true _ _ (by rw [e33, e31, e38, e37]; exact eq2 x y z) i33)
  obtain ⟨v45, e45⟩ : ∃ v, v = (x - y) % p := ⟨_, rfl⟩
  have i45 : isN v45 := by rw [e45]; exact isN_mod _
  have C45 : Hid (∀ w, Calls Try.prog 27 #[num x, num y] w (Ret w (num v45))) := Lib.hid fun w => by rw [e45]; exact sub _ _ hX hY w
  obtain ⟨v47, e47⟩ : ∃ v, v = (v45 + y) % p := ⟨_, rfl⟩
  have i47 : isN v47 := by rw [e47]; exact isN_mod _
  have C47 : Hid (∀ w, Calls Try.prog 25 #[num v45, num y] w (Ret w (num v47))) := Lib.hid fun w => by rw [e47]; exact add _ _ i45 hY w
  have C49 : Hid (∀ w, Calls Try.prog 29 #[num v47, num x] w (Ret w (.bool true))) := Lib.hid (equal_true _ _ (by rw [e47, e45]; exact eq3 x y hX) i47)
  obtain ⟨v55, e55⟩ : ∃ v, v = x * y % p := ⟨_, rfl⟩
  have i55 : isN v55 := by rw [e55]; exact isN_mod _
  have C55 : Hid (∀ w, Calls Try.prog 30 #[num x, num y] w (Ret w (num v55))) := Lib.hid fun w => by rw [e55]; exact mul _ _ hX hY w
  obtain ⟨v58, e58⟩ : ∃ v, v = y * x % p := ⟨_, rfl⟩
  have i58 : isN v58 := by rw [e58]; exact isN_mod _
  have C58 : Hid (∀ w, Calls Try.prog 30 #[num y, num x] w (Ret w (num v58))) := Lib.hid fun w => by rw [e58]; exact mul _ _ hY hX w
  have C59 : Hid (∀ w, Calls Try.prog 29 #[num v55, num v58] w (Ret w (.bool true))) := Lib.hid (equal_true _ _ (by rw [e55, e58]; exact eq4 x y) i55)
  clear e21 e24 e31 e33 e37 e38 e45 e47 e55 e58
  go_wp2_with fail
  refine wp_region_rely Ext 45 102 [⟨none, []⟩, ⟨none, [(16, some 0)]⟩, ⟨none, [(17, some 1)]⟩, ⟨some (18, false), [(7, none), (18, some 2)]⟩, ⟨some (18, false), [(8, none), (18, some 2)]⟩, ⟨some (18, false), [(19, some 3), (20, some 4), (18, some 2)]⟩, ⟨some (18, false), [(8, none), (18, some 2)]⟩, ⟨some (18, false), [(7, none), (18, some 2)]⟩, ⟨some (18, false), [(22, some 6), (23, some 7), (18, some 2)]⟩, ⟨some (18, false), [(21, some 5), (24, some 8), (18, some 2)]⟩, ⟨some (18, false), [(25, some 9), (18, some 2)]⟩, ⟨none, [(18, some 2), (26, some 10)]⟩, ⟨none, [(27, some 11)]⟩, ⟨some (28, false), [(7, none), (28, some 12)]⟩, ⟨some (28, false), [(8, none), (28, some 12)]⟩, ⟨some (28, false), [(29, some 13), (30, some 14), (28, some 12)]⟩, ⟨some (28, false), [(9, none), (28, some 12)]⟩, ⟨some (28, false), [(31, some 15), (32, some 16), (28, some 12)]⟩, ⟨some (28, false), [(7, none), (28, some 12)]⟩, ⟨some (28, false), [(8, none), (28, some 12)]⟩, ⟨some (28, false), [(9, none), (28, some 12)]⟩, ⟨some (28, false), [(35, some 19), (36, some 20), (28, some 12)]⟩, ⟨some (28, false), [(34, some 18), (37, some 21), (28, some 12)]⟩, ⟨some (28, false), [(33, some 17), (38, some 22), (28, some 12)]⟩, ⟨some (28, false), [(39, some 23), (28, some 12)]⟩, ⟨none, [(28, some 12), (40, some 24)]⟩, ⟨none, [(41, some 25)]⟩, ⟨some (42, false), [(7, none), (42, some 26)]⟩, ⟨some (42, false), [(8, none), (42, some 26)]⟩, ⟨some (42, false), [(43, some 27), (44, some 28), (42, some 26)]⟩, ⟨some (42, false), [(8, none), (42, some 26)]⟩, ⟨some (42, false), [(45, some 29), (46, some 30), (42, some 26)]⟩, ⟨some (42, false), [(7, none), (42, some 26)]⟩, ⟨some (42, false), [(47, some 31), (48, some 32), (42, some 26)]⟩, ⟨some (42, false), [(49, some 33), (42, some 26)]⟩, ⟨none, [(42, some 26), (50, some 34)]⟩, ⟨none, [(51, some 35)]⟩, ⟨some (52, false), [(7, none), (52, some 36)]⟩, ⟨some (52, false), [(8, none), (52, some 36)]⟩, ⟨some (52, false), [(53, some 37), (54, some 38), (52, some 36)]⟩, ⟨some (52, false), [(8, none), (52, some 36)]⟩, ⟨some (52, false), [(7, none), (52, some 36)]⟩, ⟨some (52, false), [(56, some 40), (57, some 41), (52, some 36)]⟩, ⟨some (52, false), [(55, some 39), (58, some 42), (52, some 36)]⟩, ⟨some (52, false), [(59, some 43), (52, some 36)]⟩] (by kernel_rfl) (by kernel_rfl) rfl Ext.refl Ext.trans (fun F r0 hr hF => ?_)
  have f7 : r0 7 = .pointer (some ⟨g6, 0, none⟩) := by rw [hr]; rfl
  have f8 : r0 8 = .pointer (some ⟨g7, 0, none⟩) := by rw [hr]; rfl
  have f9 : r0 9 = .pointer (some ⟨g8, 0, none⟩) := by rw [hr]; rfl
  clear hr
  have H6 : Hid (∀ W, Ext W1.drew W → W.heap[g6]? = some (.cells (numA x) 29)) := Lib.hid fun W hR => (hR.block _ b6).trans r6
  have H7 : Hid (∀ W, Ext W1.drew W → W.heap[g7]? = some (.cells (numA y) 29)) := Lib.hid fun W hR => (hR.block _ b7).trans r7
  have H8 : Hid (∀ W, Ext W1.drew W → W.heap[g8]? = some (.cells (numA z) 29)) := Lib.hid fun W hR => (hR.block _ b8).trans r8
  simp only [List.take_succ_cons, List.take_zero]
  refine step_const (Value.bool true) (fun ρ W hR hh => ?_) ?_
  · clear hF
    simp only [guarded, relyAt]
    go_simp
    exact ⟨Ext.refl _, (alive _).mono fun _ _ h => h.const⟩
  refine step_const (Value.bool false) (fun ρ W hR hh => ?_) ?_
  · clear hF
    have h16 : ρ 16 = Value.bool true := hh.1
    simp only [guarded, relyAt]
    go_simp
    exact Ext.refl _
  refine step_const (Value.bool false) (fun ρ W hR hh => ?_) ?_
  · clear hF
    have h17 : ρ 17 = Value.bool false := hh.1
    simp only [guarded, relyAt]
    go_simp
    exact Ext.refl _
  refine step_const (num x) (fun ρ W hR hh => ?_) ?_
  · clear hF
    have h7 : ρ 7 = r0 7 := hh.1
    have h18 : ρ 18 = Value.bool false := hh.2.1
    simp only [guarded, h18, isB_bool, beq_self_eq_true, ↓reduceIte]
    exact relyAt_load_num (.tmp _) rfl g6 _ (h7.trans f7) (H6.out W hR)
  refine step_const (num y) (fun ρ W hR hh => ?_) ?_
  · clear hF
    have h8 : ρ 8 = r0 8 := hh.1
    have h18 : ρ 18 = Value.bool false := hh.2.1
    simp only [guarded, h18, isB_bool, beq_self_eq_true, ↓reduceIte]
    exact relyAt_load_num (.tmp _) rfl g7 _ (h8.trans f8) (H7.out W hR)
  refine step_const (num v21) (fun ρ W hR hh => ?_) ?_
  · clear hF
    have h19 : ρ 19 = num x := hh.1
    have h20 : ρ 20 = num y := hh.2.1
    have h18 : ρ 18 = Value.bool false := hh.2.2.1
    simp only [guarded, relyAt, h18, isB_bool, beq_self_eq_true, ↓reduceIte]
    go_simp
    exact ⟨Ext.refl _, (C21.out _).mono fun _ _ h => h.const⟩
  simp only [List.cons_append, List.nil_append]
  refine step_const (num y) (fun ρ W hR hh => ?_) ?_
  · clear hF
    have h8 : ρ 8 = r0 8 := hh.1
    have h18 : ρ 18 = Value.bool false := hh.2.1
    simp only [guarded, h18, isB_bool, beq_self_eq_true, ↓reduceIte]
    exact relyAt_load_num (.tmp _) rfl g7 _ (h8.trans f8) (H7.out W hR)
  refine step_const (num x) (fun ρ W hR hh => ?_) ?_
  · clear hF
    have h7 : ρ 7 = r0 7 := hh.1
    have h18 : ρ 18 = Value.bool false := hh.2.1
    simp only [guarded, h18, isB_bool, beq_self_eq_true, ↓reduceIte]
    exact relyAt_load_num (.tmp _) rfl g6 _ (h7.trans f7) (H6.out W hR)
  refine step_const (num v24) (fun ρ W hR hh => ?_) ?_
  · clear hF
    have h22 : ρ 22 = num y := hh.1
    have h23 : ρ 23 = num x := hh.2.1
    have h18 : ρ 18 = Value.bool false := hh.2.2.1
    simp only [guarded, relyAt, h18, isB_bool, beq_self_eq_true, ↓reduceIte]
    go_simp
    exact ⟨Ext.refl _, (C24.out _).mono fun _ _ h => h.const⟩
  refine step_const (Value.bool true) (fun ρ W hR hh => ?_) ?_
  · clear hF
    have h21 : ρ 21 = num v21 := hh.1
    have h24 : ρ 24 = num v24 := hh.2.1
    have h18 : ρ 18 = Value.bool false := hh.2.2.1
    simp only [guarded, relyAt, h18, isB_bool, beq_self_eq_true, ↓reduceIte]
    go_simp
    exact ⟨Ext.refl _, (C25.out _).mono fun _ _ h => h.const⟩
  refine step_const (Value.bool false) (fun ρ W hR hh => ?_) ?_
  · clear hF
    have h25 : ρ 25 = Value.bool true := hh.1
    have h18 : ρ 18 = Value.bool false := hh.2.1
    simp only [guarded, relyAt, h18, isB_bool, beq_self_eq_true, ↓reduceIte]
    go_simp
    exact Ext.refl _
  refine step_const (Value.bool false) (fun ρ W hR hh => ?_) ?_
  · clear hF
    have h18 : ρ 18 = Value.bool false := hh.1
    have h26 : ρ 26 = Value.bool false := hh.2.1
    simp only [guarded, relyAt]
    go_simp
    exact Ext.refl _
  simp only [List.cons_append, List.nil_append]
  refine step_const (Value.bool false) (fun ρ W hR hh => ?_) ?_
  · clear hF
    have h27 : ρ 27 = Value.bool false := hh.1
    simp only [guarded, relyAt]
    go_simp
    exact Ext.refl _
  refine step_const (num x) (fun ρ W hR hh => ?_) ?_
  · clear hF
    have h7 : ρ 7 = r0 7 := hh.1
    have h28 : ρ 28 = Value.bool false := hh.2.1
    simp only [guarded, h28, isB_bool, beq_self_eq_true, ↓reduceIte]
    exact relyAt_load_num (.tmp _) rfl g6 _ (h7.trans f7) (H6.out W hR)
  refine step_const (num y) (fun ρ W hR hh => ?_) ?_
  · clear hF
    have h8 : ρ 8 = r0 8 := hh.1
    have h28 : ρ 28 = Value.bool false := hh.2.1
    simp only [guarded, h28, isB_bool, beq_self_eq_true, ↓reduceIte]
    exact relyAt_load_num (.tmp _) rfl g7 _ (h8.trans f8) (H7.out W hR)
  refine step_const (num v31) (fun ρ W hR hh => ?_) ?_
  · clear hF
    have h29 : ρ 29 = num x := hh.1
    have h30 : ρ 30 = num y := hh.2.1
    have h28 : ρ 28 = Value.bool false := hh.2.2.1
    simp only [guarded, relyAt, h28, isB_bool, beq_self_eq_true, ↓reduceIte]
    go_simp
    exact ⟨Ext.refl _, (C31.out _).mono fun _ _ h => h.const⟩
  refine step_const (num z) (fun ρ W hR hh => ?_) ?_
  · clear hF
    have h9 : ρ 9 = r0 9 := hh.1
    have h28 : ρ 28 = Value.bool false := hh.2.1
    simp only [guarded, h28, isB_bool, beq_self_eq_true, ↓reduceIte]
    exact relyAt_load_num (.tmp _) rfl g8 _ (h9.trans f9) (H8.out W hR)
  refine step_const (num v33) (fun ρ W hR hh => ?_) ?_
  · clear hF
    have h31 : ρ 31 = num v31 := hh.1
    have h32 : ρ 32 = num z := hh.2.1
    have h28 : ρ 28 = Value.bool false := hh.2.2.1
    simp only [guarded, relyAt, h28, isB_bool, beq_self_eq_true, ↓reduceIte]
    go_simp
    exact ⟨Ext.refl _, (C33.out _).mono fun _ _ h => h.const⟩
  simp only [List.cons_append, List.nil_append]
  refine step_const (num x) (fun ρ W hR hh => ?_) ?_
  · clear hF
    have h7 : ρ 7 = r0 7 := hh.1
    have h28 : ρ 28 = Value.bool false := hh.2.1
    simp only [guarded, h28, isB_bool, beq_self_eq_true, ↓reduceIte]
    exact relyAt_load_num (.tmp _) rfl g6 _ (h7.trans f7) (H6.out W hR)
  refine step_const (num y) (fun ρ W hR hh => ?_) ?_
  · clear hF
    have h8 : ρ 8 = r0 8 := hh.1
    have h28 : ρ 28 = Value.bool false := hh.2.1
    simp only [guarded, h28, isB_bool, beq_self_eq_true, ↓reduceIte]
    exact relyAt_load_num (.tmp _) rfl g7 _ (h8.trans f8) (H7.out W hR)
  refine step_const (num z) (fun ρ W hR hh => ?_) ?_
  · clear hF
    have h9 : ρ 9 = r0 9 := hh.1
    have h28 : ρ 28 = Value.bool false := hh.2.1
    simp only [guarded, h28, isB_bool, beq_self_eq_true, ↓reduceIte]
    exact relyAt_load_num (.tmp _) rfl g8 _ (h9.trans f9) (H8.out W hR)
  refine step_const (num v37) (fun ρ W hR hh => ?_) ?_
  · clear hF
    have h35 : ρ 35 = num y := hh.1
    have h36 : ρ 36 = num z := hh.2.1
    have h28 : ρ 28 = Value.bool false := hh.2.2.1
    simp only [guarded, relyAt, h28, isB_bool, beq_self_eq_true, ↓reduceIte]
    go_simp
    exact ⟨Ext.refl _, (C37.out _).mono fun _ _ h => h.const⟩
  refine step_const (num v38) (fun ρ W hR hh => ?_) ?_
  · clear hF
    have h34 : ρ 34 = num x := hh.1
    have h37 : ρ 37 = num v37 := hh.2.1
    have h28 : ρ 28 = Value.bool false := hh.2.2.1
    simp only [guarded, relyAt, h28, isB_bool, beq_self_eq_true, ↓reduceIte]
    go_simp
    exact ⟨Ext.refl _, (C38.out _).mono fun _ _ h => h.const⟩
  refine step_const (Value.bool true) (fun ρ W hR hh => ?_) ?_
  · clear hF
    have h33 : ρ 33 = num v33 := hh.1
    have h38 : ρ 38 = num v38 := hh.2.1
    have h28 : ρ 28 = Value.bool false := hh.2.2.1
    simp only [guarded, relyAt, h28, isB_bool, beq_self_eq_true, ↓reduceIte]
    go_simp
    exact ⟨Ext.refl _, (C39.out _).mono fun _ _ h => h.const⟩
  simp only [List.cons_append, List.nil_append]
  refine step_const (Value.bool false) (fun ρ W hR hh => ?_) ?_
  · clear hF
    have h39 : ρ 39 = Value.bool true := hh.1
    have h28 : ρ 28 = Value.bool false := hh.2.1
    simp only [guarded, relyAt, h28, isB_bool, beq_self_eq_true, ↓reduceIte]
    go_simp
    exact Ext.refl _
  refine step_const (Value.bool false) (fun ρ W hR hh => ?_) ?_
  · clear hF
    have h28 : ρ 28 = Value.bool false := hh.1
    have h40 : ρ 40 = Value.bool false := hh.2.1
    simp only [guarded, relyAt]
    go_simp
    exact Ext.refl _
  refine step_const (Value.bool false) (fun ρ W hR hh => ?_) ?_
  · clear hF
    have h41 : ρ 41 = Value.bool false := hh.1
    simp only [guarded, relyAt]
    go_simp
    exact Ext.refl _
  refine step_const (num x) (fun ρ W hR hh => ?_) ?_
  · clear hF
    have h7 : ρ 7 = r0 7 := hh.1
    have h42 : ρ 42 = Value.bool false := hh.2.1
    simp only [guarded, h42, isB_bool, beq_self_eq_true, ↓reduceIte]
    exact relyAt_load_num (.tmp _) rfl g6 _ (h7.trans f7) (H6.out W hR)
  refine step_const (num y) (fun ρ W hR hh => ?_) ?_
  · clear hF
    have h8 : ρ 8 = r0 8 := hh.1
    have h42 : ρ 42 = Value.bool false := hh.2.1
    simp only [guarded, h42, isB_bool, beq_self_eq_true, ↓reduceIte]
    exact relyAt_load_num (.tmp _) rfl g7 _ (h8.trans f8) (H7.out W hR)
  refine step_const (num v45) (fun ρ W hR hh => ?_) ?_
  · clear hF
    have h43 : ρ 43 = num x := hh.1
    have h44 : ρ 44 = num y := hh.2.1
    have h42 : ρ 42 = Value.bool false := hh.2.2.1
    simp only [guarded, relyAt, h42, isB_bool, beq_self_eq_true, ↓reduceIte]
    go_simp
    exact ⟨Ext.refl _, (C45.out _).mono fun _ _ h => h.const⟩
  simp only [List.cons_append, List.nil_append]
  refine step_const (num y) (fun ρ W hR hh => ?_) ?_
  · clear hF
    have h8 : ρ 8 = r0 8 := hh.1
    have h42 : ρ 42 = Value.bool false := hh.2.1
    simp only [guarded, h42, isB_bool, beq_self_eq_true, ↓reduceIte]
    exact relyAt_load_num (.tmp _) rfl g7 _ (h8.trans f8) (H7.out W hR)
  refine step_const (num v47) (fun ρ W hR hh => ?_) ?_
  · clear hF
    have h45 : ρ 45 = num v45 := hh.1
    have h46 : ρ 46 = num y := hh.2.1
    have h42 : ρ 42 = Value.bool false := hh.2.2.1
    simp only [guarded, relyAt, h42, isB_bool, beq_self_eq_true, ↓reduceIte]
    go_simp
    exact ⟨Ext.refl _, (C47.out _).mono fun _ _ h => h.const⟩
  refine step_const (num x) (fun ρ W hR hh => ?_) ?_
  · clear hF
    have h7 : ρ 7 = r0 7 := hh.1
    have h42 : ρ 42 = Value.bool false := hh.2.1
    simp only [guarded, h42, isB_bool, beq_self_eq_true, ↓reduceIte]
    exact relyAt_load_num (.tmp _) rfl g6 _ (h7.trans f7) (H6.out W hR)
  refine step_const (Value.bool true) (fun ρ W hR hh => ?_) ?_
  · clear hF
    have h47 : ρ 47 = num v47 := hh.1
    have h48 : ρ 48 = num x := hh.2.1
    have h42 : ρ 42 = Value.bool false := hh.2.2.1
    simp only [guarded, relyAt, h42, isB_bool, beq_self_eq_true, ↓reduceIte]
    go_simp
    exact ⟨Ext.refl _, (C49.out _).mono fun _ _ h => h.const⟩
  refine step_const (Value.bool false) (fun ρ W hR hh => ?_) ?_
  · clear hF
    have h49 : ρ 49 = Value.bool true := hh.1
    have h42 : ρ 42 = Value.bool false := hh.2.1
    simp only [guarded, relyAt, h42, isB_bool, beq_self_eq_true, ↓reduceIte]
    go_simp
    exact Ext.refl _
  refine step_const (Value.bool false) (fun ρ W hR hh => ?_) ?_
  · clear hF
    have h42 : ρ 42 = Value.bool false := hh.1
    have h50 : ρ 50 = Value.bool false := hh.2.1
    simp only [guarded, relyAt]
    go_simp
    exact Ext.refl _
  simp only [List.cons_append, List.nil_append]
  refine step_const (Value.bool false) (fun ρ W hR hh => ?_) ?_
  · clear hF
    have h51 : ρ 51 = Value.bool false := hh.1
    simp only [guarded, relyAt]
    go_simp
    exact Ext.refl _
  refine step_const (num x) (fun ρ W hR hh => ?_) ?_
  · clear hF
    have h7 : ρ 7 = r0 7 := hh.1
    have h52 : ρ 52 = Value.bool false := hh.2.1
    simp only [guarded, h52, isB_bool, beq_self_eq_true, ↓reduceIte]
    exact relyAt_load_num (.tmp _) rfl g6 _ (h7.trans f7) (H6.out W hR)
  refine step_const (num y) (fun ρ W hR hh => ?_) ?_
  · clear hF
    have h8 : ρ 8 = r0 8 := hh.1
    have h52 : ρ 52 = Value.bool false := hh.2.1
    simp only [guarded, h52, isB_bool, beq_self_eq_true, ↓reduceIte]
    exact relyAt_load_num (.tmp _) rfl g7 _ (h8.trans f8) (H7.out W hR)
  refine step_const (num v55) (fun ρ W hR hh => ?_) ?_
  · clear hF
    have h53 : ρ 53 = num x := hh.1
    have h54 : ρ 54 = num y := hh.2.1
    have h52 : ρ 52 = Value.bool false := hh.2.2.1
    simp only [guarded, relyAt, h52, isB_bool, beq_self_eq_true, ↓reduceIte]
    go_simp
    exact ⟨Ext.refl _, (C55.out _).mono fun _ _ h => h.const⟩
  refine step_const (num y) (fun ρ W hR hh => ?_) ?_
  · clear hF
    have h8 : ρ 8 = r0 8 := hh.1
    have h52 : ρ 52 = Value.bool false := hh.2.1
    simp only [guarded, h52, isB_bool, beq_self_eq_true, ↓reduceIte]
    exact relyAt_load_num (.tmp _) rfl g7 _ (h8.trans f8) (H7.out W hR)
  refine step_const (num x) (fun ρ W hR hh => ?_) ?_
  · clear hF
    have h7 : ρ 7 = r0 7 := hh.1
    have h52 : ρ 52 = Value.bool false := hh.2.1
    simp only [guarded, h52, isB_bool, beq_self_eq_true, ↓reduceIte]
    exact relyAt_load_num (.tmp _) rfl g6 _ (h7.trans f7) (H6.out W hR)
  simp only [List.cons_append, List.nil_append]
  refine step_const (num v58) (fun ρ W hR hh => ?_) ?_
  · clear hF
    have h56 : ρ 56 = num y := hh.1
    have h57 : ρ 57 = num x := hh.2.1
    have h52 : ρ 52 = Value.bool false := hh.2.2.1
    simp only [guarded, relyAt, h52, isB_bool, beq_self_eq_true, ↓reduceIte]
    go_simp
    exact ⟨Ext.refl _, (C58.out _).mono fun _ _ h => h.const⟩
  refine step_const (Value.bool true) (fun ρ W hR hh => ?_) ?_
  · clear hF
    have h55 : ρ 55 = num v55 := hh.1
    have h58 : ρ 58 = num v58 := hh.2.1
    have h52 : ρ 52 = Value.bool false := hh.2.2.1
    simp only [guarded, relyAt, h52, isB_bool, beq_self_eq_true, ↓reduceIte]
    go_simp
    exact ⟨Ext.refl _, (C59.out _).mono fun _ _ h => h.const⟩
  refine step_const (Value.bool false) (fun ρ W hR hh => ?_) ?_
  · clear hF
    have h59 : ρ 59 = Value.bool true := hh.1
    have h52 : ρ 52 = Value.bool false := hh.2.1
    simp only [guarded, relyAt, h52, isB_bool, beq_self_eq_true, ↓reduceIte]
    go_simp
    exact Ext.refl _
  simp only [List.cons_append, List.nil_append]
  refine hF.out fun W2 hR2 => ?_
  simp only [List.take_succ_cons, List.take_zero, List.drop_succ_cons, List.drop_zero, fin, forall_eq, Act.put, List.setIfInBounds_toArray, List.set_cons_zero, List.set_cons_succ]
  clear hF
  obtain ⟨v64, e64⟩ : ∃ v, v = x * y % p := ⟨_, rfl⟩
  have i64 : isN v64 := by rw [e64]; exact isN_mod _
  have C64 : Hid (∀ w, Calls Try.prog 30 #[num x, num y] w (Ret w (num v64))) := Lib.hid fun w => by rw [e64]; exact mul _ _ hX hY w
  obtain ⟨v66, e66⟩ : ∃ v, v = v64 * z % p := ⟨_, rfl⟩
  have i66 : isN v66 := by rw [e66]; exact isN_mod _
  have C66 : Hid (∀ w, Calls Try.prog 30 #[num v64, num z] w (Ret w (num v66))) := Lib.hid fun w => by rw [e66]; exact mul _ _ i64 hZ w
  obtain ⟨v70, e70⟩ : ∃ v, v = y * z % p := ⟨_, rfl⟩
  have i70 : isN v70 := by rw [e70]; exact isN_mod _
  have C70 : Hid (∀ w, Calls Try.prog 30 #[num y, num z] w (Ret w (num v70))) := Lib.hid fun w => by rw [e70]; exact mul _ _ hY hZ w
  obtain ⟨v71, e71⟩ : ∃ v, v = x * v70 % p := ⟨_, rfl⟩
  have i71 : isN v71 := by rw [e71]; exact isN_mod _
  have C71 : Hid (∀ w, Calls Try.prog 30 #[num x, num v70] w (Ret w (num v71))) := Lib.hid fun w => by rw [e71]; exact mul _ _ hX i70 w
  have C72 : Hid (∀ w, Calls Try.prog 29 #[num v66, num v71] w (Ret w (.bool true))) := Lib.hid (equal_true _ _ (by rw [e66, e64, e71, e70]; exact eq5 x y z) i66)
  obtain ⟨v76, e76⟩ : ∃ v, v = (x + y) % p := ⟨_, rfl⟩
  have i76 : isN v76 := by rw [e76]; exact isN_mod _
  have C76 : Hid (∀ w, Calls Try.prog 25 #[num x, num y] w (Ret w (num v76))) := Lib.hid fun w => by rw [e76]; exact add _ _ hX hY w
  obtain ⟨v78, e78⟩ : ∃ v, v = v76 * z % p := ⟨_, rfl⟩
  have i78 : isN v78 := by rw [e78]; exact isN_mod _
  have C78 : Hid (∀ w, Calls Try.prog 30 #[num v76, num z] w (Ret w (num v78))) := Lib.hid fun w => by rw [e78]; exact mul _ _ i76 hZ w
  obtain ⟨v81, e81⟩ : ∃ v, v = x * z % p := ⟨_, rfl⟩
  have i81 : isN v81 := by rw [e81]; exact isN_mod _
  have C81 : Hid (∀ w, Calls Try.prog 30 #[num x, num z] w (Ret w (num v81))) := Lib.hid fun w => by rw [e81]; exact mul _ _ hX hZ w
  obtain ⟨v84, e84⟩ : ∃ v, v = y * z % p := ⟨_, rfl⟩
  have i84 : isN v84 := by rw [e84]; exact isN_mod _
  have C84 : Hid (∀ w, Calls Try.prog 30 #[num y, num z] w (Ret w (num v84))) := Lib.hid fun w => by rw [e84]; exact mul _ _ hY hZ w
  obtain ⟨v85, e85⟩ : ∃ v, v = (v81 + v84) % p := ⟨_, rfl⟩
  have i85 : isN v85 := by rw [e85]; exact isN_mod _
  have C85 : Hid (∀ w, Calls Try.prog 25 #[num v81, num v84] w (Ret w (num v85))) := Lib.hid fun w => by rw [e85]; exact add _ _ i81 i84 w
  have C86 : Hid (∀ w, Calls Try.prog 29 #[num v78, num v85] w (Ret w (.bool true))) := Lib.hid (equal_true _ _ (by rw [e78, e76, e85, e81, e84]; exact eq6 x y z) i78)
  have C90 : Hid (∀ w, Calls Try.prog 22 #[.int .i64 1] w (Ret w (num 1))) := Lib.hid fun w => by have := small_pos 1 (by decide) w; rw [show (1 : Int) % p = 1 by decide] at this; exact this
  have C91 : Hid (∀ w, Calls Try.prog 30 #[num x, num 1] w (Ret w (num x))) := Lib.hid fun w => by have := mul x 1 hX (by unfold isN p; decide) w; rw [eq7 x hX] at this; exact this
  have C93 : Hid (∀ w, Calls Try.prog 29 #[num x, num x] w (Ret w (.bool true))) := Lib.hid (equal_true _ _ (by exact rfl) hX)
  have C97 : Hid (∀ w, Calls Try.prog 22 #[.int .i64 0] w (Ret w (num 0))) := Lib.hid fun w => by have := small_pos 0 (by decide) w; rw [show (0 : Int) % p = 0 by decide] at this; exact this
  have C98 : Hid (∀ w, Calls Try.prog 30 #[num x, num 0] w (Ret w (num 0))) := Lib.hid fun w => by have := mul x 0 hX (by unfold isN p; decide) w; rw [Int.mul_zero, Int.zero_emod] at this; exact this
  have C100 : Hid (∀ w, Calls Try.prog 29 #[num 0, num 0] w (Ret w (.bool true))) := Lib.hid (equal_true _ _ rfl (by unfold isN p; decide))
  clear e64 e66 e70 e71 e76 e78 e81 e84 e85
  have e2 := Ext.trans e1 (Ext.trans (ext_drew _) hR2)
  have r6' := row_ext r6 (Ext.trans (ext_drew _) hR2)
  have r7' := row_ext r7 (Ext.trans (ext_drew _) hR2)
  have r8' := row_ext r8 (Ext.trans (ext_drew _) hR2)
  clear H6 H7 H8 f7 f8 f9 hR2
  have H6 : Hid (∀ W, Ext W2.drew W → W.heap[g6]? = some (.cells (numA x) 29)) := Lib.hid fun W hR => row_ext (row_ext r6' (ext_drew _)) hR
  have H7 : Hid (∀ W, Ext W2.drew W → W.heap[g7]? = some (.cells (numA y) 29)) := Lib.hid fun W hR => row_ext (row_ext r7' (ext_drew _)) hR
  have H8 : Hid (∀ W, Ext W2.drew W → W.heap[g8]? = some (.cells (numA z) 29)) := Lib.hid fun W hR => row_ext (row_ext r8' (ext_drew _)) hR
  go_wp2
  refine wp_region_rely Ext 40 102 [⟨none, [(7, none)]⟩, ⟨none, [(8, none)]⟩, ⟨none, [(62, some 0), (63, some 1)]⟩, ⟨none, [(9, none)]⟩, ⟨none, [(64, some 2), (65, some 3)]⟩, ⟨none, [(7, none)]⟩, ⟨none, [(8, none)]⟩, ⟨none, [(9, none)]⟩, ⟨none, [(68, some 6), (69, some 7)]⟩, ⟨none, [(67, some 5), (70, some 8)]⟩, ⟨none, [(66, some 4), (71, some 9)]⟩, ⟨none, [(72, some 10)]⟩, ⟨some (73, true), [(7, none), (73, some 11)]⟩, ⟨some (73, true), [(8, none), (73, some 11)]⟩, ⟨some (73, true), [(74, some 12), (75, some 13), (73, some 11)]⟩, ⟨some (73, true), [(9, none), (73, some 11)]⟩, ⟨some (73, true), [(76, some 14), (77, some 15), (73, some 11)]⟩, ⟨some (73, true), [(7, none), (73, some 11)]⟩, ⟨some (73, true), [(9, none), (73, some 11)]⟩, ⟨some (73, true), [(79, some 17), (80, some 18), (73, some 11)]⟩, ⟨some (73, true), [(8, none), (73, some 11)]⟩, ⟨some (73, true), [(9, none), (73, some 11)]⟩, ⟨some (73, true), [(82, some 20), (83, some 21), (73, some 11)]⟩, ⟨some (73, true), [(81, some 19), (84, some 22), (73, some 11)]⟩, ⟨some (73, true), [(78, some 16), (85, some 23), (73, some 11)]⟩, ⟨none, [(73, some 11), (86, some 24)]⟩, ⟨none, [(87, some 25)]⟩, ⟨some (88, true), [(7, none), (88, some 26)]⟩, ⟨some (88, true), [(88, some 26)]⟩, ⟨some (88, true), [(89, some 27), (90, some 28), (88, some 26)]⟩, ⟨some (88, true), [(7, none), (88, some 26)]⟩, ⟨some (88, true), [(91, some 29), (92, some 30), (88, some 26)]⟩, ⟨none, [(88, some 26), (93, some 31)]⟩, ⟨none, [(94, some 32)]⟩, ⟨some (95, true), [(7, none), (95, some 33)]⟩, ⟨some (95, true), [(95, some 33)]⟩, ⟨some (95, true), [(96, some 34), (97, some 35), (95, some 33)]⟩, ⟨some (95, true), [(95, some 33)]⟩, ⟨some (95, true), [(98, some 36), (99, some 37), (95, some 33)]⟩, ⟨none, [(95, some 33), (100, some 38)]⟩] (by kernel_rfl) (by kernel_rfl) rfl Ext.refl Ext.trans (fun F r0 hr hF => ?_)
  have f7 : r0 7 = .pointer (some ⟨g6, 0, none⟩) := by rw [hr]; rfl
  have f8 : r0 8 = .pointer (some ⟨g7, 0, none⟩) := by rw [hr]; rfl
  have f9 : r0 9 = .pointer (some ⟨g8, 0, none⟩) := by rw [hr]; rfl
  clear hr
  simp only [List.take_succ_cons, List.take_zero]
  refine step_const (num x) (fun ρ W hR hh => ?_) ?_
  · clear hF
    have h7 : ρ 7 = r0 7 := hh.1
    simp only [guarded]
    exact relyAt_load_num (.tmp _) rfl g6 _ (h7.trans f7) (H6.out W hR)
  refine step_const (num y) (fun ρ W hR hh => ?_) ?_
  · clear hF
    have h8 : ρ 8 = r0 8 := hh.1
    simp only [guarded]
    exact relyAt_load_num (.tmp _) rfl g7 _ (h8.trans f8) (H7.out W hR)
  refine step_const (num v64) (fun ρ W hR hh => ?_) ?_
  · clear hF
    have h62 : ρ 62 = num x := hh.1
    have h63 : ρ 63 = num y := hh.2.1
    simp only [guarded, relyAt]
    go_simp
    exact ⟨Ext.refl _, (C64.out _).mono fun _ _ h => h.const⟩
  refine step_const (num z) (fun ρ W hR hh => ?_) ?_
  · clear hF
    have h9 : ρ 9 = r0 9 := hh.1
    simp only [guarded]
    exact relyAt_load_num (.tmp _) rfl g8 _ (h9.trans f9) (H8.out W hR)
  refine step_const (num v66) (fun ρ W hR hh => ?_) ?_
  · clear hF
    have h64 : ρ 64 = num v64 := hh.1
    have h65 : ρ 65 = num z := hh.2.1
    simp only [guarded, relyAt]
    go_simp
    exact ⟨Ext.refl _, (C66.out _).mono fun _ _ h => h.const⟩
  refine step_const (num x) (fun ρ W hR hh => ?_) ?_
  · clear hF
    have h7 : ρ 7 = r0 7 := hh.1
    simp only [guarded]
    exact relyAt_load_num (.tmp _) rfl g6 _ (h7.trans f7) (H6.out W hR)
  simp only [List.cons_append, List.nil_append]
  refine step_const (num y) (fun ρ W hR hh => ?_) ?_
  · clear hF
    have h8 : ρ 8 = r0 8 := hh.1
    simp only [guarded]
    exact relyAt_load_num (.tmp _) rfl g7 _ (h8.trans f8) (H7.out W hR)
  refine step_const (num z) (fun ρ W hR hh => ?_) ?_
  · clear hF
    have h9 : ρ 9 = r0 9 := hh.1
    simp only [guarded]
    exact relyAt_load_num (.tmp _) rfl g8 _ (h9.trans f9) (H8.out W hR)
  refine step_const (num v70) (fun ρ W hR hh => ?_) ?_
  · clear hF
    have h68 : ρ 68 = num y := hh.1
    have h69 : ρ 69 = num z := hh.2.1
    simp only [guarded, relyAt]
    go_simp
    exact ⟨Ext.refl _, (C70.out _).mono fun _ _ h => h.const⟩
  refine step_const (num v71) (fun ρ W hR hh => ?_) ?_
  · clear hF
    have h67 : ρ 67 = num x := hh.1
    have h70 : ρ 70 = num v70 := hh.2.1
    simp only [guarded, relyAt]
    go_simp
    exact ⟨Ext.refl _, (C71.out _).mono fun _ _ h => h.const⟩
  refine step_const (Value.bool true) (fun ρ W hR hh => ?_) ?_
  · clear hF
    have h66 : ρ 66 = num v66 := hh.1
    have h71 : ρ 71 = num v71 := hh.2.1
    simp only [guarded, relyAt]
    go_simp
    exact ⟨Ext.refl _, (C72.out _).mono fun _ _ h => h.const⟩
  refine step_const (Value.bool true) (fun ρ W hR hh => ?_) ?_
  · clear hF
    have h72 : ρ 72 = Value.bool true := hh.1
    simp only [guarded, relyAt]
    go_simp
    exact Ext.refl _
  simp only [List.cons_append, List.nil_append]
  refine step_const (num x) (fun ρ W hR hh => ?_) ?_
  · clear hF
    have h7 : ρ 7 = r0 7 := hh.1
    have h73 : ρ 73 = Value.bool true := hh.2.1
    simp only [guarded, h73, isB_bool, beq_self_eq_true, ↓reduceIte]
    exact relyAt_load_num (.tmp _) rfl g6 _ (h7.trans f7) (H6.out W hR)
  refine step_const (num y) (fun ρ W hR hh => ?_) ?_
  · clear hF
    have h8 : ρ 8 = r0 8 := hh.1
    have h73 : ρ 73 = Value.bool true := hh.2.1
    simp only [guarded, h73, isB_bool, beq_self_eq_true, ↓reduceIte]
    exact relyAt_load_num (.tmp _) rfl g7 _ (h8.trans f8) (H7.out W hR)
  refine step_const (num v76) (fun ρ W hR hh => ?_) ?_
  · clear hF
    have h74 : ρ 74 = num x := hh.1
    have h75 : ρ 75 = num y := hh.2.1
    have h73 : ρ 73 = Value.bool true := hh.2.2.1
    simp only [guarded, relyAt, h73, isB_bool, beq_self_eq_true, ↓reduceIte]
    go_simp
    exact ⟨Ext.refl _, (C76.out _).mono fun _ _ h => h.const⟩
  refine step_const (num z) (fun ρ W hR hh => ?_) ?_
  · clear hF
    have h9 : ρ 9 = r0 9 := hh.1
    have h73 : ρ 73 = Value.bool true := hh.2.1
    simp only [guarded, h73, isB_bool, beq_self_eq_true, ↓reduceIte]
    exact relyAt_load_num (.tmp _) rfl g8 _ (h9.trans f9) (H8.out W hR)
  refine step_const (num v78) (fun ρ W hR hh => ?_) ?_
  · clear hF
    have h76 : ρ 76 = num v76 := hh.1
    have h77 : ρ 77 = num z := hh.2.1
    have h73 : ρ 73 = Value.bool true := hh.2.2.1
    simp only [guarded, relyAt, h73, isB_bool, beq_self_eq_true, ↓reduceIte]
    go_simp
    exact ⟨Ext.refl _, (C78.out _).mono fun _ _ h => h.const⟩
  refine step_const (num x) (fun ρ W hR hh => ?_) ?_
  · clear hF
    have h7 : ρ 7 = r0 7 := hh.1
    have h73 : ρ 73 = Value.bool true := hh.2.1
    simp only [guarded, h73, isB_bool, beq_self_eq_true, ↓reduceIte]
    exact relyAt_load_num (.tmp _) rfl g6 _ (h7.trans f7) (H6.out W hR)
  simp only [List.cons_append, List.nil_append]
  refine step_const (num z) (fun ρ W hR hh => ?_) ?_
  · clear hF
    have h9 : ρ 9 = r0 9 := hh.1
    have h73 : ρ 73 = Value.bool true := hh.2.1
    simp only [guarded, h73, isB_bool, beq_self_eq_true, ↓reduceIte]
    exact relyAt_load_num (.tmp _) rfl g8 _ (h9.trans f9) (H8.out W hR)
  refine step_const (num v81) (fun ρ W hR hh => ?_) ?_
  · clear hF
    have h79 : ρ 79 = num x := hh.1
    have h80 : ρ 80 = num z := hh.2.1
    have h73 : ρ 73 = Value.bool true := hh.2.2.1
    simp only [guarded, relyAt, h73, isB_bool, beq_self_eq_true, ↓reduceIte]
    go_simp
    exact ⟨Ext.refl _, (C81.out _).mono fun _ _ h => h.const⟩
  refine step_const (num y) (fun ρ W hR hh => ?_) ?_
  · clear hF
    have h8 : ρ 8 = r0 8 := hh.1
    have h73 : ρ 73 = Value.bool true := hh.2.1
    simp only [guarded, h73, isB_bool, beq_self_eq_true, ↓reduceIte]
    exact relyAt_load_num (.tmp _) rfl g7 _ (h8.trans f8) (H7.out W hR)
  refine step_const (num z) (fun ρ W hR hh => ?_) ?_
  · clear hF
    have h9 : ρ 9 = r0 9 := hh.1
    have h73 : ρ 73 = Value.bool true := hh.2.1
    simp only [guarded, h73, isB_bool, beq_self_eq_true, ↓reduceIte]
    exact relyAt_load_num (.tmp _) rfl g8 _ (h9.trans f9) (H8.out W hR)
  refine step_const (num v84) (fun ρ W hR hh => ?_) ?_
  · clear hF
    have h82 : ρ 82 = num y := hh.1
    have h83 : ρ 83 = num z := hh.2.1
    have h73 : ρ 73 = Value.bool true := hh.2.2.1
    simp only [guarded, relyAt, h73, isB_bool, beq_self_eq_true, ↓reduceIte]
    go_simp
    exact ⟨Ext.refl _, (C84.out _).mono fun _ _ h => h.const⟩
  refine step_const (num v85) (fun ρ W hR hh => ?_) ?_
  · clear hF
    have h81 : ρ 81 = num v81 := hh.1
    have h84 : ρ 84 = num v84 := hh.2.1
    have h73 : ρ 73 = Value.bool true := hh.2.2.1
    simp only [guarded, relyAt, h73, isB_bool, beq_self_eq_true, ↓reduceIte]
    go_simp
    exact ⟨Ext.refl _, (C85.out _).mono fun _ _ h => h.const⟩
  simp only [List.cons_append, List.nil_append]
  refine step_const (Value.bool true) (fun ρ W hR hh => ?_) ?_
  · clear hF
    have h78 : ρ 78 = num v78 := hh.1
    have h85 : ρ 85 = num v85 := hh.2.1
    have h73 : ρ 73 = Value.bool true := hh.2.2.1
    simp only [guarded, relyAt, h73, isB_bool, beq_self_eq_true, ↓reduceIte]
    go_simp
    exact ⟨Ext.refl _, (C86.out _).mono fun _ _ h => h.const⟩
  refine step_const (Value.bool true) (fun ρ W hR hh => ?_) ?_
  · clear hF
    have h73 : ρ 73 = Value.bool true := hh.1
    have h86 : ρ 86 = Value.bool true := hh.2.1
    simp only [guarded, relyAt]
    go_simp
    exact Ext.refl _
  refine step_const (Value.bool true) (fun ρ W hR hh => ?_) ?_
  · clear hF
    have h87 : ρ 87 = Value.bool true := hh.1
    simp only [guarded, relyAt]
    go_simp
    exact Ext.refl _
  refine step_const (num x) (fun ρ W hR hh => ?_) ?_
  · clear hF
    have h7 : ρ 7 = r0 7 := hh.1
    have h88 : ρ 88 = Value.bool true := hh.2.1
    simp only [guarded, h88, isB_bool, beq_self_eq_true, ↓reduceIte]
    exact relyAt_load_num (.tmp _) rfl g6 _ (h7.trans f7) (H6.out W hR)
  refine step_const (num 1) (fun ρ W hR hh => ?_) ?_
  · clear hF
    have h88 : ρ 88 = Value.bool true := hh.1
    simp only [guarded, relyAt, h88, isB_bool, beq_self_eq_true, ↓reduceIte]
    go_simp
    exact ⟨Ext.refl _, (C90.out _).mono fun _ _ h => h.const⟩
  refine step_const (num x) (fun ρ W hR hh => ?_) ?_
  · clear hF
    have h89 : ρ 89 = num x := hh.1
    have h90 : ρ 90 = num 1 := hh.2.1
    have h88 : ρ 88 = Value.bool true := hh.2.2.1
    simp only [guarded, relyAt, h88, isB_bool, beq_self_eq_true, ↓reduceIte]
    go_simp
    exact ⟨Ext.refl _, (C91.out _).mono fun _ _ h => h.const⟩
  simp only [List.cons_append, List.nil_append]
  refine step_const (num x) (fun ρ W hR hh => ?_) ?_
  · clear hF
    have h7 : ρ 7 = r0 7 := hh.1
    have h88 : ρ 88 = Value.bool true := hh.2.1
    simp only [guarded, h88, isB_bool, beq_self_eq_true, ↓reduceIte]
    exact relyAt_load_num (.tmp _) rfl g6 _ (h7.trans f7) (H6.out W hR)
  refine step_const (Value.bool true) (fun ρ W hR hh => ?_) ?_
  · clear hF
    have h91 : ρ 91 = num x := hh.1
    have h92 : ρ 92 = num x := hh.2.1
    have h88 : ρ 88 = Value.bool true := hh.2.2.1
    simp only [guarded, relyAt, h88, isB_bool, beq_self_eq_true, ↓reduceIte]
    go_simp
    exact ⟨Ext.refl _, (C93.out _).mono fun _ _ h => h.const⟩
  refine step_const (Value.bool true) (fun ρ W hR hh => ?_) ?_
  · clear hF
    have h88 : ρ 88 = Value.bool true := hh.1
    have h93 : ρ 93 = Value.bool true := hh.2.1
    simp only [guarded, relyAt]
    go_simp
    exact Ext.refl _
  refine step_const (Value.bool true) (fun ρ W hR hh => ?_) ?_
  · clear hF
    have h94 : ρ 94 = Value.bool true := hh.1
    simp only [guarded, relyAt]
    go_simp
    exact Ext.refl _
  refine step_const (num x) (fun ρ W hR hh => ?_) ?_
  · clear hF
    have h7 : ρ 7 = r0 7 := hh.1
    have h95 : ρ 95 = Value.bool true := hh.2.1
    simp only [guarded, h95, isB_bool, beq_self_eq_true, ↓reduceIte]
    exact relyAt_load_num (.tmp _) rfl g6 _ (h7.trans f7) (H6.out W hR)
  refine step_const (num 0) (fun ρ W hR hh => ?_) ?_
  · clear hF
    have h95 : ρ 95 = Value.bool true := hh.1
    simp only [guarded, relyAt, h95, isB_bool, beq_self_eq_true, ↓reduceIte]
    go_simp
    exact ⟨Ext.refl _, (C97.out _).mono fun _ _ h => h.const⟩
  simp only [List.cons_append, List.nil_append]
  refine step_const (num 0) (fun ρ W hR hh => ?_) ?_
  · clear hF
    have h96 : ρ 96 = num x := hh.1
    have h97 : ρ 97 = num 0 := hh.2.1
    have h95 : ρ 95 = Value.bool true := hh.2.2.1
    simp only [guarded, relyAt, h95, isB_bool, beq_self_eq_true, ↓reduceIte]
    go_simp
    exact ⟨Ext.refl _, (C98.out _).mono fun _ _ h => h.const⟩
  refine step_const (num 0) (fun ρ W hR hh => ?_) ?_
  · clear hF
    have h95 : ρ 95 = Value.bool true := hh.1
    simp only [guarded, relyAt, h95, isB_bool, beq_self_eq_true, ↓reduceIte]
    go_simp
    exact ⟨Ext.refl _, rfl⟩
  refine step_const (Value.bool true) (fun ρ W hR hh => ?_) ?_
  · clear hF
    have h98 : ρ 98 = num 0 := hh.1
    have h99 : ρ 99 = num 0 := hh.2.1
    have h95 : ρ 95 = Value.bool true := hh.2.2.1
    simp only [guarded, relyAt, h95, isB_bool, beq_self_eq_true, ↓reduceIte]
    go_simp
    exact ⟨Ext.refl _, (C100.out _).mono fun _ _ h => h.const⟩
  refine step_const (Value.bool true) (fun ρ W hR hh => ?_) ?_
  · clear hF
    have h95 : ρ 95 = Value.bool true := hh.1
    have h100 : ρ 100 = Value.bool true := hh.2.1
    simp only [guarded, relyAt]
    go_simp
    exact Ext.refl _
  simp only [List.cons_append, List.nil_append]
  refine hF.out fun W3 hR3 => ?_
  simp only [List.take_succ_cons, List.take_zero, List.drop_succ_cons, List.drop_zero, fin, forall_eq, Act.put, List.setIfInBounds_toArray, List.set_cons_zero, List.set_cons_succ]
  clear hF
  go_wp2
  exact bodyPost_ret (results_tmp rfl _ _ _) rfl ⟨rfl, Ext.trans (Ext.trans e2 (ext_drew _)) hR3⟩
end Go.Proofs.Ytaojnmjmmfdfjaa.Field
