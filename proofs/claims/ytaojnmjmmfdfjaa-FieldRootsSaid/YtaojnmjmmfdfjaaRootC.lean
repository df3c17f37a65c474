/- The program's Root. -/
import Derived.Test.YtaojnmjmmfdfjaaRootA
namespace Go.Proofs.Ytaojnmjmmfdfjaa.Field
open Go Go.RowKit
open Go.Proofs.Ytaojnmjmmfdfjaa.Rely
set_option linter.unusedVariables false

theorem results_cell_tmp {Pr : Program} {fn : Func} {q t : Tmp} {ty : TypeId} (h : fn.results = #[.cell q ty, .tmp t]) (tmps : Array Value) (w : World) (g : Nat) (tt : TypeId) (cs : Array Value) (fr : Nat × Nat) (d : TypeDesc)
    (hp : tmps.getD q undef = .pointer (some ⟨g, 0, none⟩)) (v : Value) (ht : tmps.getD t undef = v) (hg : w.heap[g]? = some (.cells cs tt fr))
    (hu : Pr.underlying ty = some d) (hd : (match d with | .struct _ | .array _ _ => true | _ => false) = true) (hi : (Pr.info? ty).map (·.size) = some cs.size) :
    (results fn tmps).run Pr w = .ok (.tuple #[.agg cs, v]) w := by
  have hp' : tmps[q]?.getD undef = .pointer (some ⟨g, 0, none⟩) := by simpa using hp
  have ht' : tmps[t]?.getD undef = v := by simpa using ht
  simp [results, h, hp', ht', asAddr, run_loadVar_row w g tt ty cs fr d hg hu hd hi]

set_option maxRecDepth 100000 in
set_option maxHeartbeats 4000000 in
theorem root (a : Int) (ha : isN a) (w : World) : Calls Try.prog 34 #[num a] w (Ret w (.tuple #[num (rootN a), .bool (hasRoot a)])) := by
  have HE1 : Hid (∀ w, Calls Try.prog 57 #[.int .u8 254, .int .u8 15] w (Ret w (.agg (ints .u8 (expo 254 15))))) := Lib.hid (exponent 254 15)
  have HB1 : Hid (∀ w, Calls Try.prog 36 #[.agg (ints .u8 (expo 254 15))] w (Gives w (BitsV (expo 254 15)))) := Lib.hid (bits_call _)
  have HP1 : Hid (∀ v w, BitsV (expo 254 15) v w → Calls Try.prog 37 #[num a, v] w (Ret w (num (rootA a)))) := Lib.hid fun v w hv => power a ha (expo 254 15) (expo_len _ _) (expo_bytes _ _ (by decide) (by decide)) v w hv
  have HE2 : Hid (∀ w, Calls Try.prog 57 #[.int .u8 251, .int .u8 31] w (Ret w (.agg (ints .u8 (expo 251 31))))) := Lib.hid (exponent 251 31)
  have HB2 : Hid (∀ w, Calls Try.prog 36 #[.agg (ints .u8 (expo 251 31))] w (Gives w (BitsV (expo 251 31)))) := Lib.hid (bits_call _)
  have HP2 : Hid (∀ v w, BitsV (expo 251 31) v w → Calls Try.prog 37 #[num 2, v] w (Ret w (num rootI))) := Lib.hid fun v w hv => power 2 two_isN (expo 251 31) (expo_len _ _) (expo_bytes _ _ (by decide) (by decide)) v w hv
  have HS2 : Hid (∀ w, Calls Try.prog 22 #[.int .i64 2] w (Ret w (num 2))) := Lib.hid fun w => by have := small_pos 2 (by decide) w; rw [show (2 : Int) % p = 2 by decide] at this; exact this
  have i_ra := rootA_isN a
  have i_rb : isN (rootA a * rootI % p) := isN_mod _
  have HM0 : Hid (∀ w, Calls Try.prog 30 #[num (rootA a), num (rootA a)] w (Ret w (num (rootA a * rootA a % p)))) := Lib.hid (mul _ _ i_ra i_ra)
  have HMI : Hid (∀ w, Calls Try.prog 30 #[num (rootA a), num rootI] w (Ret w (num (rootA a * rootI % p)))) := Lib.hid (mul _ _ i_ra rootI_isN)
  have HM1 : Hid (∀ w, Calls Try.prog 30 #[num (rootA a * rootI % p), num (rootA a * rootI % p)] w (Ret w (num (rootA a * rootI % p * (rootA a * rootI % p) % p)))) := Lib.hid (mul _ _ i_rb i_rb)
  have i_s0 : isN (rootA a * rootA a % p) := isN_mod _
  have i_s1 : isN (rootA a * rootI % p * (rootA a * rootI % p) % p) := isN_mod _
  have FN : Hid (rootN a = (if rootA a * rootA a % p = a then evenOf (rootA a) else if rootA a * rootI % p * (rootA a * rootI % p) % p = a then evenOf (rootA a * rootI % p) else 0)) := Lib.hid rfl
  have FB : Hid (hasRoot a = (decide (rootA a * rootA a % p = a) || decide (rootA a * rootI % p * (rootA a * rootI % p) % p = a))) := Lib.hid rfl
  generalize hs0 : rootA a * rootA a % p = s0 at *
  generalize hs1 : rootA a * rootI % p * (rootA a * rootI % p) % p = s1 at *
  clear hs0 hs1
  generalize rootA a * rootI % p = rb at *
  generalize rootA a = ra at *
  generalize rootI = ri at *
  generalize expo 254 15 = x1 at *
  generalize expo 251 31 = x2 at *
  rw [show num a = .agg (numA a) from rfl]
  go_enter Try.func34, Try.ntmps34
  go_wp2_with fail
  generalize hW : (w.alloc _).alloc _ = W0
  have hA : W0.heap[w.heap.size]? = some (.cells (numA a) 29) := by rw [← hW]; exact alloc2_1 _ _ _
  have hC : ∃ b : Array Value, b.size = 4 ∧ W0.heap[w.heap.size + 1]? = some (.cells b 29) := by rw [← hW]; exact ⟨_, rfl, alloc2_2 _ _ _⟩
  obtain ⟨b, hbs, hC⟩ := hC
  have he : Ext w W0 := by rw [← hW]; exact Ext.trans (ext_alloc _ _) (ext_alloc _ _)
  clear hW
  have hsz := he.size
  have hlC := row_lt hC
  have HA : Hid (∀ W, Ext W0.drew W → W.heap[w.heap.size]? = some (.cells (numA a) 29)) := Lib.hid fun W hR => row_ext (row_ext hA (ext_drew _)) hR
  refine wp_region_rely Ext 5 34 [⟨none, [(1, none)]⟩, ⟨none, []⟩, ⟨none, [(6, some 1)]⟩, ⟨none, [(5, some 0), (7, some 2)]⟩, ⟨none, []⟩] (by kernel_rfl) (by kernel_rfl) rfl Ext.refl Ext.trans (fun F r0 hr hF => ?_)
  have f1 : r0 1 = .pointer (some ⟨w.heap.size, 0, none⟩) := by rw [hr]; rfl
  clear hr
  simp only [List.take_succ_cons, List.take_zero]
  refine step_const (num a) (fun ρ W hR hh => ?_) ?_
  · clear hF
    exact load_num (.tmp _) rfl _ _ (Eq.trans hh.1 f1) (HA.out W hR)
  refine step_const (.agg (ints .u8 x1)) (fun ρ W hR hh => ?_) ?_
  · clear hF
    simp only [guarded, relyAt]
    go_simp
    exact ⟨Ext.refl _, (HE1.out _).mono fun _ _ h => h.const⟩
  refine step_fact (BitsV x1) (bitsV_stable x1) (fun ρ W hR hh => ?_) ?_
  · clear hF
    have h6 : ρ 6 = .agg (ints .u8 x1) := hh.1
    simp only [guarded, relyAt]
    go_simp
    exact ⟨Ext.refl _, (HB1.out _).mono fun _ _ h => h.fact⟩
  refine step_const (num ra) (fun ρ W hR hh => ?_) ?_
  · clear hF
    have h5 : ρ 5 = num a := hh.1
    have h7 : BitsV x1 (ρ 7) W := hh.2.1
    simp only [guarded, relyAt]
    go_simp
    exact ⟨Ext.refl _, (HP1.out _ _ h7).mono fun _ _ h => h.const⟩
  refine step_fact (FreshT 29 4 W0.heap.size) (freshT_stable _ _ _) (fun ρ W hR hh => ?_) ?_
  · have hsz : W0.heap.size ≤ W.heap.size := hR.size
    simp only [guarded, relyAt]
    go_simp
    exact ⟨ext_alloc _ _, _, rfl, by omega, by simp, _, rfl, heap_alloc_new _ _⟩
  simp only [List.cons_append, List.nil_append]
  refine hF.out fun W1 hR1 => ?_
  simp only [List.take_succ_cons, List.take_zero, List.drop_succ_cons, List.drop_zero, fin, forall_eq, Act.put, List.setIfInBounds_toArray, List.set_cons_zero, List.set_cons_succ]
  rintro vb - vg ⟨gr, rfl, lg, ug, cg, sg, kg⟩
  clear hF f1
  refine wpList_store_row rfl 29 _ _ rfl gr (numA ra) rfl rfl 29 _ kg infoNum sg (numA_one _) ?_
  have hE1 := Ext.trans (ext_drew W0) hR1
  have hr1 := setRow_heap _ _ _ (numA ra) _ _ kg
  have hA1 := (setRow_other W1 gr w.heap.size (numA ra) (by omega)).trans (row_ext hA hE1)
  have hs1 := (setRow_other W1 gr (w.heap.size + 1) (numA ra) (by omega)).trans (row_ext hC hE1)
  have he1 := ext_setRow (Ext.trans he hE1) (show w.heap.size ≤ gr by omega) (numA ra)
  have hgr : w.heap.size + 1 < gr := by omega
  clear kg hR1 hE1 HA hA hC he lg ug sg hsz hlC HE1 HB1 HP1
  generalize W1.setRow gr (numA ra) = V1 at *
  have HA : Hid (∀ W, Ext V1.drew W → W.heap[w.heap.size]? = some (.cells (numA a) 29)) := Lib.hid fun W hR => row_ext (row_ext hA1 (ext_drew _)) hR
  have HR : Hid (∀ W, Ext V1.drew W → W.heap[gr]? = some (.cells (numA ra) 29)) := Lib.hid fun W hR => row_ext (row_ext hr1 (ext_drew _)) hR
  by_cases hz : s0 = a
  · have HQ : Hid (∀ w, Calls Try.prog 29 #[num s0, num a] w (Ret w (.bool true))) := Lib.hid (num_is s0 a hz i_s0)
    have HM := HM0
    have FIN : Hid (rootN a = evenOf ra ∧ hasRoot a = true) := Lib.hid ⟨by rw [FN.out, if_pos hz], by rw [FB.out, decide_eq_true hz]; rfl⟩
    clear hz FN FB HM1 HMI HP2 HE2 HB2 HS2
    go_wp2
    refine wp_region_rely Ext 5 34 [⟨none, [(4, none)]⟩, ⟨none, [(4, none)]⟩, ⟨none, [(9, some 0), (10, some 1)]⟩, ⟨none, [(1, none)]⟩, ⟨none, [(11, some 2), (12, some 3)]⟩] (by kernel_rfl) (by kernel_rfl) rfl Ext.refl Ext.trans (fun F r0 hr hF => ?_)
    have f4 : r0 4 = .pointer (some ⟨gr, 0, none⟩) := by rw [hr]; rfl
    have f1 : r0 1 = .pointer (some ⟨w.heap.size, 0, none⟩) := by rw [hr]; rfl
    clear hr
    simp only [List.take_succ_cons, List.take_zero]
    refine step_const (num ra) (fun ρ W hR hh => ?_) ?_
    · clear hF
      have h4 : ρ 4 = .pointer (some ⟨gr, 0, none⟩) := Eq.trans hh.1 f4
      exact load_num (.tmp _) rfl _ _  h4 (HR.out W hR)
    refine step_const (num ra) (fun ρ W hR hh => ?_) ?_
    · clear hF
      have h4 : ρ 4 = .pointer (some ⟨gr, 0, none⟩) := Eq.trans hh.1 f4
      exact load_num (.tmp _) rfl _ _  h4 (HR.out W hR)
    refine step_const (num s0) (fun ρ W hR hh => ?_) ?_
    · clear hF
      have h9 : ρ 9 = num ra := hh.1
      have h10 : ρ 10 = num ra := hh.2.1
      simp only [guarded, relyAt]
      go_simp
      exact ⟨Ext.refl _, (HM.out _).mono fun _ _ h => h.const⟩
    refine step_const (num a) (fun ρ W hR hh => ?_) ?_
    · clear hF
      have h1 : ρ 1 = .pointer (some ⟨w.heap.size, 0, none⟩) := Eq.trans hh.1 f1
      exact load_num (.tmp _) rfl _ _  h1 (HA.out W hR)
    refine step_const (.bool true) (fun ρ W hR hh => ?_) ?_
    · clear hF
      have h11 : ρ 11 = num s0 := hh.1
      have h12 : ρ 12 = num a := hh.2.1
      simp only [guarded, relyAt]
      go_simp
      exact ⟨Ext.refl _, (HQ.out _).mono fun _ _ h => h.const⟩
    simp only [List.cons_append, List.nil_append]
    refine hF.out fun W2 hR2 => ?_
    simp only [List.take_succ_cons, List.take_zero, List.drop_succ_cons, List.drop_zero, fin, forall_eq, Act.put, List.setIfInBounds_toArray, List.set_cons_zero, List.set_cons_succ]
    clear hF
    have hr2 := row_ext (row_ext hr1 (ext_drew _)) hR2
    have hA2 := row_ext (row_ext hA1 (ext_drew _)) hR2
    have hs2 := row_ext (row_ext hs1 (ext_drew _)) hR2
    have he2 := Ext.trans (Ext.trans he1 (ext_drew _)) hR2
    clear HA HR hR2 hr1 hA1 hs1 he1
    have HA : Hid (∀ W, Ext W2.drew W → W.heap[w.heap.size]? = some (.cells (numA a) 29)) := Lib.hid fun W hR => row_ext (row_ext hA2 (ext_drew _)) hR
    have HR : Hid (∀ W, Ext W2.drew W → W.heap[gr]? = some (.cells (numA ra) 29)) := Lib.hid fun W hR => row_ext (row_ext hr2 (ext_drew _)) hR
    go_wp2
    refine wp_region_rely Ext 5 34 [⟨none, [(4, none)]⟩, ⟨none, [(4, none)]⟩, ⟨none, [(21, some 0), (22, some 1)]⟩, ⟨none, [(1, none)]⟩, ⟨none, [(23, some 2), (24, some 3)]⟩] (by kernel_rfl) (by kernel_rfl) rfl Ext.refl Ext.trans (fun F r0 hr hF => ?_)
    have f4 : r0 4 = .pointer (some ⟨gr, 0, none⟩) := by rw [hr]; rfl
    have f1 : r0 1 = .pointer (some ⟨w.heap.size, 0, none⟩) := by rw [hr]; rfl
    clear hr
    simp only [List.take_succ_cons, List.take_zero]
    refine step_const (num ra) (fun ρ W hR hh => ?_) ?_
    · clear hF
      have h4 : ρ 4 = .pointer (some ⟨gr, 0, none⟩) := Eq.trans hh.1 f4
      exact load_num (.tmp _) rfl _ _  h4 (HR.out W hR)
    refine step_const (num ra) (fun ρ W hR hh => ?_) ?_
    · clear hF
      have h4 : ρ 4 = .pointer (some ⟨gr, 0, none⟩) := Eq.trans hh.1 f4
      exact load_num (.tmp _) rfl _ _  h4 (HR.out W hR)
    refine step_const (num s0) (fun ρ W hR hh => ?_) ?_
    · clear hF
      have h21 : ρ 21 = num ra := hh.1
      have h22 : ρ 22 = num ra := hh.2.1
      simp only [guarded, relyAt]
      go_simp
      exact ⟨Ext.refl _, (HM.out _).mono fun _ _ h => h.const⟩
    refine step_const (num a) (fun ρ W hR hh => ?_) ?_
    · clear hF
      have h1 : ρ 1 = .pointer (some ⟨w.heap.size, 0, none⟩) := Eq.trans hh.1 f1
      exact load_num (.tmp _) rfl _ _  h1 (HA.out W hR)
    refine step_const (.bool true) (fun ρ W hR hh => ?_) ?_
    · clear hF
      have h23 : ρ 23 = num s0 := hh.1
      have h24 : ρ 24 = num a := hh.2.1
      simp only [guarded, relyAt]
      go_simp
      exact ⟨Ext.refl _, (HQ.out _).mono fun _ _ h => h.const⟩
    simp only [List.cons_append, List.nil_append]
    refine hF.out fun W4 hR4 => ?_
    simp only [List.take_succ_cons, List.take_zero, List.drop_succ_cons, List.drop_zero, fin, forall_eq, Act.put, List.setIfInBounds_toArray, List.set_cons_zero, List.set_cons_succ]
    clear hF
    have hr4 := row_ext (row_ext hr2 (ext_drew _)) hR4
    have hA4 := row_ext (row_ext hA2 (ext_drew _)) hR4
    have hs4 := row_ext (row_ext hs2 (ext_drew _)) hR4
    have he4 := Ext.trans (Ext.trans he2 (ext_drew _)) hR4
    clear HA HR hR4 hr2 hA2 hs2 he2
    by_cases ho : ra % 2 = 1
    · have HO : Hid (∀ w, Calls Try.prog 24 #[.agg (numA ra)] w (Ret w (.bool true))) := Lib.hid fun w => by
        have := odd ra i_ra w
        rw [ho] at this
        exact this
      have HN : Hid (∀ w, Calls Try.prog 27 #[.agg #[.int .u64 0, .int .u64 0, .int .u64 0, .int .u64 0], .agg (numA ra)] w (Ret w (.agg (numA (evenOf ra))))) := Lib.hid fun w => by
        have := sub 0 ra zero_isN' i_ra w
        rw [show (0 - ra) % p = evenOf ra by unfold evenOf; rw [if_pos ho]] at this
        exact this
      generalize hev : evenOf ra = ev at *
      clear ho
      go_wp2_with first
        | (go_at_call 24
           (with_reducible refine (HO.out _).mono ?_)
           rintro e w6 ⟨rfl, hw6⟩
           clear HO
           have hr6 := row_ext hr4 hw6
           have hs6 := row_ext hs4 hw6
           have he6 := Ext.trans he4 hw6
           clear hr4 hs4 he4 hw6)
        | (go_at_call 27
           (with_reducible refine (HN.out _).mono ?_)
           rintro e w7 ⟨rfl, hw7⟩
           clear HN
           have hr7 := row_ext hr6 hw7
           have hs7 := row_ext hs6 hw7
           have he7 := Ext.trans he6 hw7
           clear hr6 hs6 he6 hw7)
        | (with_reducible show wpList _ _ _ ((⟨_, .load 29 _, _, _, _, _⟩ : Oper) :: _) _ _
           refine wpList_load_row rfl 29 _ rfl gr rfl 29 _ (0, 0) _ hr4 Try.underlying29 rfl infoNum ?_)
        | (with_reducible show wpList _ _ _ ((⟨_, .load 29 _, _, _, _, _⟩ : Oper) :: _) _ _
           refine wpList_load_row rfl 29 _ rfl gr rfl 29 _ (0, 0) _ hr6 Try.underlying29 rfl infoNum ?_)
        | (with_reducible show wpList _ _ _ ((⟨_, .load 29 _, _, _, _, _⟩ : Oper) :: _) _ _
           refine wpList_load_row rfl 29 _ rfl gr rfl 29 _ (0, 0) _ hr8 Try.underlying29 rfl infoNum ?_)
        | (with_reducible show wpList _ _ _ ((⟨_, .store 29 _ _, _, _, _, _⟩ : Oper) :: _) _ _
           refine wpList_store_row rfl 29 _ _ rfl gr (numA ev) rfl rfl 29 _ hr7 infoNum rfl (numA_one _) ?_
           have hr8 := setRow_heap _ _ _ (numA ev) _ _ hr7
           have hs8 := (setRow_other w7 gr (w.heap.size + 1) (numA ev) (by omega)).trans hs7
           have he8 := ext_setRow he7 (show w.heap.size ≤ gr by omega) (numA ev)
           clear hr7)
        | (with_reducible show wpList _ _ _ ((⟨_, .store 29 _ _, _, _, _, _⟩ : Oper) :: _) _ _
           refine wpList_store_row rfl 29 _ _ rfl (w.heap.size + 1) (numA ev) rfl rfl 29 _ hs8 infoNum hbs (numA_one _) ?_)
      exact bodyPost_ret (results_cell_tmp rfl _ _ (w.heap.size + 1) 29 _ (0, 0) _ rfl _ rfl (setRow_heap _ _ _ _ _ _ hs8) Try.underlying29 rfl infoNum) rfl ⟨by rw [FIN.out.1, FIN.out.2]; rfl, ext_setRow he8 (by omega) _⟩
    · have HO : Hid (∀ w, Calls Try.prog 24 #[.agg (numA ra)] w (Ret w (.bool false))) := Lib.hid fun w => by
        have := odd ra i_ra w
        rw [show (ra % 2 == 1) = false by simpa using ho] at this
        exact this
      have hev : evenOf ra = ra := by unfold evenOf; rw [if_neg ho]
      clear ho
      have HEV := Lib.hid hev
      clear hev
      go_wp2_with first
        | (go_at_call 24
           (with_reducible refine (HO.out _).mono ?_)
           rintro e w6 ⟨rfl, hw6⟩
           clear HO
           have hr6 := row_ext hr4 hw6
           have hs6 := row_ext hs4 hw6
           have he6 := Ext.trans he4 hw6
           clear hr4 hs4 he4 hw6)
        | (with_reducible show wpList _ _ _ ((⟨_, .load 29 _, _, _, _, _⟩ : Oper) :: _) _ _
           refine wpList_load_row rfl 29 _ rfl gr rfl 29 _ (0, 0) _ hr4 Try.underlying29 rfl infoNum ?_)
        | (with_reducible show wpList _ _ _ ((⟨_, .load 29 _, _, _, _, _⟩ : Oper) :: _) _ _
           refine wpList_load_row rfl 29 _ rfl gr rfl 29 _ (0, 0) _ hr6 Try.underlying29 rfl infoNum ?_)
        | (with_reducible show wpList _ _ _ ((⟨_, .store 29 _ _, _, _, _, _⟩ : Oper) :: _) _ _
           refine wpList_store_row rfl 29 _ _ rfl (w.heap.size + 1) (numA ra) rfl rfl 29 _ hs6 infoNum hbs (numA_one _) ?_)
      exact bodyPost_ret (results_cell_tmp rfl _ _ (w.heap.size + 1) 29 _ (0, 0) _ rfl _ rfl (setRow_heap _ _ _ _ _ _ hs6) Try.underlying29 rfl infoNum) rfl ⟨by rw [FIN.out.1, FIN.out.2, HEV.out]; rfl, ext_setRow he6 (by omega) _⟩
  · have HQ0 : Hid (∀ w, Calls Try.prog 29 #[num s0, num a] w (Ret w (.bool false))) := Lib.hid (num_isnt s0 a hz i_s0 ha)
    have HZ := Lib.hid hz
    clear hz
    have HQ := HQ0
    have HM := HM0
    go_wp2
    refine wp_region_rely Ext 5 34 [⟨none, [(4, none)]⟩, ⟨none, [(4, none)]⟩, ⟨none, [(9, some 0), (10, some 1)]⟩, ⟨none, [(1, none)]⟩, ⟨none, [(11, some 2), (12, some 3)]⟩] (by kernel_rfl) (by kernel_rfl) rfl Ext.refl Ext.trans (fun F r0 hr hF => ?_)
    have f4 : r0 4 = .pointer (some ⟨gr, 0, none⟩) := by rw [hr]; rfl
    have f1 : r0 1 = .pointer (some ⟨w.heap.size, 0, none⟩) := by rw [hr]; rfl
    clear hr
    simp only [List.take_succ_cons, List.take_zero]
    refine step_const (num ra) (fun ρ W hR hh => ?_) ?_
    · clear hF
      have h4 : ρ 4 = .pointer (some ⟨gr, 0, none⟩) := Eq.trans hh.1 f4
      exact load_num (.tmp _) rfl _ _  h4 (HR.out W hR)
    refine step_const (num ra) (fun ρ W hR hh => ?_) ?_
    · clear hF
      have h4 : ρ 4 = .pointer (some ⟨gr, 0, none⟩) := Eq.trans hh.1 f4
      exact load_num (.tmp _) rfl _ _  h4 (HR.out W hR)
    refine step_const (num s0) (fun ρ W hR hh => ?_) ?_
    · clear hF
      have h9 : ρ 9 = num ra := hh.1
      have h10 : ρ 10 = num ra := hh.2.1
      simp only [guarded, relyAt]
      go_simp
      exact ⟨Ext.refl _, (HM.out _).mono fun _ _ h => h.const⟩
    refine step_const (num a) (fun ρ W hR hh => ?_) ?_
    · clear hF
      have h1 : ρ 1 = .pointer (some ⟨w.heap.size, 0, none⟩) := Eq.trans hh.1 f1
      exact load_num (.tmp _) rfl _ _  h1 (HA.out W hR)
    refine step_const (.bool false) (fun ρ W hR hh => ?_) ?_
    · clear hF
      have h11 : ρ 11 = num s0 := hh.1
      have h12 : ρ 12 = num a := hh.2.1
      simp only [guarded, relyAt]
      go_simp
      exact ⟨Ext.refl _, (HQ.out _).mono fun _ _ h => h.const⟩
    simp only [List.cons_append, List.nil_append]
    refine hF.out fun W2 hR2 => ?_
    simp only [List.take_succ_cons, List.take_zero, List.drop_succ_cons, List.drop_zero, fin, forall_eq, Act.put, List.setIfInBounds_toArray, List.set_cons_zero, List.set_cons_succ]
    clear hF
    have hr2 := row_ext (row_ext hr1 (ext_drew _)) hR2
    have hA2 := row_ext (row_ext hA1 (ext_drew _)) hR2
    have hs2 := row_ext (row_ext hs1 (ext_drew _)) hR2
    have he2 := Ext.trans (Ext.trans he1 (ext_drew _)) hR2
    clear HA HR hR2 hr1 hA1 hs1 he1
    clear HQ HM HQ0 HM0
    go_wp2
    have HR : Hid (∀ W, Ext W2.drew W → W.heap[gr]? = some (.cells (numA ra) 29)) := Lib.hid fun W hR => row_ext (row_ext hr2 (ext_drew _)) hR
    refine wp_region_rely Ext 6 34 [⟨none, [(4, none)]⟩, ⟨none, []⟩, ⟨none, []⟩, ⟨none, [(17, some 2)]⟩, ⟨none, [(16, some 1), (18, some 3)]⟩, ⟨none, [(15, some 0), (19, some 4)]⟩] (by kernel_rfl) (by kernel_rfl) rfl Ext.refl Ext.trans (fun F r0 hr hF => ?_)
    have f4 : r0 4 = .pointer (some ⟨gr, 0, none⟩) := by rw [hr]; rfl
    clear hr
    simp only [List.take_succ_cons, List.take_zero]
    refine step_const (num ra) (fun ρ W hR hh => ?_) ?_
    · clear hF
      exact load_num (.tmp _) rfl _ _ (Eq.trans hh.1 f4) (HR.out W hR)
    refine step_const (num 2) (fun ρ W hR hh => ?_) ?_
    · clear hF
      simp only [guarded, relyAt]
      go_simp
      exact ⟨Ext.refl _, (HS2.out _).mono fun _ _ h => h.const⟩
    refine step_const (.agg (ints .u8 x2)) (fun ρ W hR hh => ?_) ?_
    · clear hF
      simp only [guarded, relyAt]
      go_simp
      exact ⟨Ext.refl _, (HE2.out _).mono fun _ _ h => h.const⟩
    refine step_fact (BitsV x2) (bitsV_stable x2) (fun ρ W hR hh => ?_) ?_
    · clear hF
      have h17 : ρ 17 = .agg (ints .u8 x2) := hh.1
      simp only [guarded, relyAt]
      go_simp
      exact ⟨Ext.refl _, (HB2.out _).mono fun _ _ h => h.fact⟩
    refine step_const (num ri) (fun ρ W hR hh => ?_) ?_
    · clear hF
      have h16 : ρ 16 = num 2 := hh.1
      have h18 : BitsV x2 (ρ 18) W := hh.2.1
      simp only [guarded, relyAt]
      go_simp
      exact ⟨Ext.refl _, (HP2.out _ _ h18).mono fun _ _ h => h.const⟩
    refine step_const (num rb) (fun ρ W hR hh => ?_) ?_
    · clear hF
      have h15 : ρ 15 = num ra := hh.1
      have h19 : ρ 19 = num ri := hh.2.1
      simp only [guarded, relyAt]
      go_simp
      exact ⟨Ext.refl _, (HMI.out _).mono fun _ _ h => h.const⟩
    simp only [List.cons_append, List.nil_append]
    refine hF.out fun W3 hR3 => ?_
    simp only [List.take_succ_cons, List.take_zero, List.drop_succ_cons, List.drop_zero, fin, forall_eq, Act.put, List.setIfInBounds_toArray, List.set_cons_zero, List.set_cons_succ]
    intro vb hvb
    clear hF f4 hvb
    have hr3 := row_ext (row_ext hr2 (ext_drew _)) hR3
    refine wpList_store_row rfl 29 _ _ rfl gr (numA rb) rfl rfl 29 _ hr3 infoNum rfl (numA_one _) ?_
    have hr5 := setRow_heap _ _ _ (numA rb) _ _ hr3
    have hA5 := (setRow_other W3 gr w.heap.size (numA rb) (by omega)).trans (row_ext (row_ext hA2 (ext_drew _)) hR3)
    have hs5 := (setRow_other W3 gr (w.heap.size + 1) (numA rb) (by omega)).trans (row_ext (row_ext hs2 (ext_drew _)) hR3)
    have he5 := ext_setRow (Ext.trans (Ext.trans he2 (ext_drew _)) hR3) (show w.heap.size ≤ gr by omega) (numA rb)
    clear hr3 hr2 hA2 hs2 he2 hR3 HR HS2 HE2 HB2 HP2 HMI
    generalize W3.setRow gr (numA rb) = V5 at *
    have HA : Hid (∀ W, Ext V5.drew W → W.heap[w.heap.size]? = some (.cells (numA a) 29)) := Lib.hid fun W hR => row_ext (row_ext hA5 (ext_drew _)) hR
    have HR : Hid (∀ W, Ext V5.drew W → W.heap[gr]? = some (.cells (numA rb) 29)) := Lib.hid fun W hR => row_ext (row_ext hr5 (ext_drew _)) hR
    have HM := HM1
    by_cases hz : s1 = a
    · have HQ : Hid (∀ w, Calls Try.prog 29 #[num s1, num a] w (Ret w (.bool true))) := Lib.hid (num_is s1 a hz i_s1)
      have FIN : Hid (rootN a = evenOf rb ∧ hasRoot a = true) := Lib.hid ⟨by rw [FN.out, if_neg HZ.out, if_pos hz], by rw [FB.out, decide_eq_true hz, Bool.or_true]⟩
      clear hz FN FB HZ
      go_wp2
      refine wp_region_rely Ext 5 34 [⟨none, [(4, none)]⟩, ⟨none, [(4, none)]⟩, ⟨none, [(21, some 0), (22, some 1)]⟩, ⟨none, [(1, none)]⟩, ⟨none, [(23, some 2), (24, some 3)]⟩] (by kernel_rfl) (by kernel_rfl) rfl Ext.refl Ext.trans (fun F r0 hr hF => ?_)
      have f4 : r0 4 = .pointer (some ⟨gr, 0, none⟩) := by rw [hr]; rfl
      have f1 : r0 1 = .pointer (some ⟨w.heap.size, 0, none⟩) := by rw [hr]; rfl
      clear hr
      simp only [List.take_succ_cons, List.take_zero]
      refine step_const (num rb) (fun ρ W hR hh => ?_) ?_
      · clear hF
        have h4 : ρ 4 = .pointer (some ⟨gr, 0, none⟩) := Eq.trans hh.1 f4
        exact load_num (.tmp _) rfl _ _  h4 (HR.out W hR)
      refine step_const (num rb) (fun ρ W hR hh => ?_) ?_
      · clear hF
        have h4 : ρ 4 = .pointer (some ⟨gr, 0, none⟩) := Eq.trans hh.1 f4
        exact load_num (.tmp _) rfl _ _  h4 (HR.out W hR)
      refine step_const (num s1) (fun ρ W hR hh => ?_) ?_
      · clear hF
        have h21 : ρ 21 = num rb := hh.1
        have h22 : ρ 22 = num rb := hh.2.1
        simp only [guarded, relyAt]
        go_simp
        exact ⟨Ext.refl _, (HM.out _).mono fun _ _ h => h.const⟩
      refine step_const (num a) (fun ρ W hR hh => ?_) ?_
      · clear hF
        have h1 : ρ 1 = .pointer (some ⟨w.heap.size, 0, none⟩) := Eq.trans hh.1 f1
        exact load_num (.tmp _) rfl _ _  h1 (HA.out W hR)
      refine step_const (.bool true) (fun ρ W hR hh => ?_) ?_
      · clear hF
        have h23 : ρ 23 = num s1 := hh.1
        have h24 : ρ 24 = num a := hh.2.1
        simp only [guarded, relyAt]
        go_simp
        exact ⟨Ext.refl _, (HQ.out _).mono fun _ _ h => h.const⟩
      simp only [List.cons_append, List.nil_append]
      refine hF.out fun W4 hR4 => ?_
      simp only [List.take_succ_cons, List.take_zero, List.drop_succ_cons, List.drop_zero, fin, forall_eq, Act.put, List.setIfInBounds_toArray, List.set_cons_zero, List.set_cons_succ]
      clear hF
      have hr4 := row_ext (row_ext hr5 (ext_drew _)) hR4
      have hA4 := row_ext (row_ext hA5 (ext_drew _)) hR4
      have hs4 := row_ext (row_ext hs5 (ext_drew _)) hR4
      have he4 := Ext.trans (Ext.trans he5 (ext_drew _)) hR4
      clear HA HR hR4 hr5 hA5 hs5 he5
      by_cases ho : rb % 2 = 1
      · have HO : Hid (∀ w, Calls Try.prog 24 #[.agg (numA rb)] w (Ret w (.bool true))) := Lib.hid fun w => by
          have := odd rb i_rb w
          rw [ho] at this
          exact this
        have HN : Hid (∀ w, Calls Try.prog 27 #[.agg #[.int .u64 0, .int .u64 0, .int .u64 0, .int .u64 0], .agg (numA rb)] w (Ret w (.agg (numA (evenOf rb))))) := Lib.hid fun w => by
          have := sub 0 rb zero_isN' i_rb w
          rw [show (0 - rb) % p = evenOf rb by unfold evenOf; rw [if_pos ho]] at this
          exact this
        generalize hev : evenOf rb = ev at *
        clear ho
        go_wp2_with first
          | (go_at_call 24
             (with_reducible refine (HO.out _).mono ?_)
             rintro e w6 ⟨rfl, hw6⟩
             clear HO
             have hr6 := row_ext hr4 hw6
             have hs6 := row_ext hs4 hw6
             have he6 := Ext.trans he4 hw6
             clear hr4 hs4 he4 hw6)
          | (go_at_call 27
             (with_reducible refine (HN.out _).mono ?_)
             rintro e w7 ⟨rfl, hw7⟩
             clear HN
             have hr7 := row_ext hr6 hw7
             have hs7 := row_ext hs6 hw7
             have he7 := Ext.trans he6 hw7
             clear hr6 hs6 he6 hw7)
          | (with_reducible show wpList _ _ _ ((⟨_, .load 29 _, _, _, _, _⟩ : Oper) :: _) _ _
             refine wpList_load_row rfl 29 _ rfl gr rfl 29 _ (0, 0) _ hr4 Try.underlying29 rfl infoNum ?_)
          | (with_reducible show wpList _ _ _ ((⟨_, .load 29 _, _, _, _, _⟩ : Oper) :: _) _ _
             refine wpList_load_row rfl 29 _ rfl gr rfl 29 _ (0, 0) _ hr6 Try.underlying29 rfl infoNum ?_)
          | (with_reducible show wpList _ _ _ ((⟨_, .load 29 _, _, _, _, _⟩ : Oper) :: _) _ _
             refine wpList_load_row rfl 29 _ rfl gr rfl 29 _ (0, 0) _ hr8 Try.underlying29 rfl infoNum ?_)
          | (with_reducible show wpList _ _ _ ((⟨_, .store 29 _ _, _, _, _, _⟩ : Oper) :: _) _ _
             refine wpList_store_row rfl 29 _ _ rfl gr (numA ev) rfl rfl 29 _ hr7 infoNum rfl (numA_one _) ?_
             have hr8 := setRow_heap _ _ _ (numA ev) _ _ hr7
             have hs8 := (setRow_other w7 gr (w.heap.size + 1) (numA ev) (by omega)).trans hs7
             have he8 := ext_setRow he7 (show w.heap.size ≤ gr by omega) (numA ev)
             clear hr7)
          | (with_reducible show wpList _ _ _ ((⟨_, .store 29 _ _, _, _, _, _⟩ : Oper) :: _) _ _
             refine wpList_store_row rfl 29 _ _ rfl (w.heap.size + 1) (numA ev) rfl rfl 29 _ hs8 infoNum hbs (numA_one _) ?_)
        exact bodyPost_ret (results_cell_tmp rfl _ _ (w.heap.size + 1) 29 _ (0, 0) _ rfl _ rfl (setRow_heap _ _ _ _ _ _ hs8) Try.underlying29 rfl infoNum) rfl ⟨by rw [FIN.out.1, FIN.out.2]; rfl, ext_setRow he8 (by omega) _⟩
      · have HO : Hid (∀ w, Calls Try.prog 24 #[.agg (numA rb)] w (Ret w (.bool false))) := Lib.hid fun w => by
          have := odd rb i_rb w
          rw [show (rb % 2 == 1) = false by simpa using ho] at this
          exact this
        have hev : evenOf rb = rb := by unfold evenOf; rw [if_neg ho]
        clear ho
        have HEV := Lib.hid hev
        clear hev
        go_wp2_with first
          | (go_at_call 24
             (with_reducible refine (HO.out _).mono ?_)
             rintro e w6 ⟨rfl, hw6⟩
             clear HO
             have hr6 := row_ext hr4 hw6
             have hs6 := row_ext hs4 hw6
             have he6 := Ext.trans he4 hw6
             clear hr4 hs4 he4 hw6)
          | (with_reducible show wpList _ _ _ ((⟨_, .load 29 _, _, _, _, _⟩ : Oper) :: _) _ _
             refine wpList_load_row rfl 29 _ rfl gr rfl 29 _ (0, 0) _ hr4 Try.underlying29 rfl infoNum ?_)
          | (with_reducible show wpList _ _ _ ((⟨_, .load 29 _, _, _, _, _⟩ : Oper) :: _) _ _
             refine wpList_load_row rfl 29 _ rfl gr rfl 29 _ (0, 0) _ hr6 Try.underlying29 rfl infoNum ?_)
          | (with_reducible show wpList _ _ _ ((⟨_, .store 29 _ _, _, _, _, _⟩ : Oper) :: _) _ _
             refine wpList_store_row rfl 29 _ _ rfl (w.heap.size + 1) (numA rb) rfl rfl 29 _ hs6 infoNum hbs (numA_one _) ?_)
        exact bodyPost_ret (results_cell_tmp rfl _ _ (w.heap.size + 1) 29 _ (0, 0) _ rfl _ rfl (setRow_heap _ _ _ _ _ _ hs6) Try.underlying29 rfl infoNum) rfl ⟨by rw [FIN.out.1, FIN.out.2, HEV.out]; rfl, ext_setRow he6 (by omega) _⟩
    · have HQ : Hid (∀ w, Calls Try.prog 29 #[num s1, num a] w (Ret w (.bool false))) := Lib.hid (num_isnt s1 a hz i_s1 ha)
      have FIN : Hid (rootN a = 0 ∧ hasRoot a = false) := Lib.hid ⟨by rw [FN.out, if_neg HZ.out, if_neg hz], by rw [FB.out, decide_eq_false HZ.out, decide_eq_false hz]; rfl⟩
      clear hz FN FB HZ
      go_wp2
      refine wp_region_rely Ext 5 34 [⟨none, [(4, none)]⟩, ⟨none, [(4, none)]⟩, ⟨none, [(21, some 0), (22, some 1)]⟩, ⟨none, [(1, none)]⟩, ⟨none, [(23, some 2), (24, some 3)]⟩] (by kernel_rfl) (by kernel_rfl) rfl Ext.refl Ext.trans (fun F r0 hr hF => ?_)
      have f4 : r0 4 = .pointer (some ⟨gr, 0, none⟩) := by rw [hr]; rfl
      have f1 : r0 1 = .pointer (some ⟨w.heap.size, 0, none⟩) := by rw [hr]; rfl
      clear hr
      simp only [List.take_succ_cons, List.take_zero]
      refine step_const (num rb) (fun ρ W hR hh => ?_) ?_
      · clear hF
        have h4 : ρ 4 = .pointer (some ⟨gr, 0, none⟩) := Eq.trans hh.1 f4
        exact load_num (.tmp _) rfl _ _  h4 (HR.out W hR)
      refine step_const (num rb) (fun ρ W hR hh => ?_) ?_
      · clear hF
        have h4 : ρ 4 = .pointer (some ⟨gr, 0, none⟩) := Eq.trans hh.1 f4
        exact load_num (.tmp _) rfl _ _  h4 (HR.out W hR)
      refine step_const (num s1) (fun ρ W hR hh => ?_) ?_
      · clear hF
        have h21 : ρ 21 = num rb := hh.1
        have h22 : ρ 22 = num rb := hh.2.1
        simp only [guarded, relyAt]
        go_simp
        exact ⟨Ext.refl _, (HM.out _).mono fun _ _ h => h.const⟩
      refine step_const (num a) (fun ρ W hR hh => ?_) ?_
      · clear hF
        have h1 : ρ 1 = .pointer (some ⟨w.heap.size, 0, none⟩) := Eq.trans hh.1 f1
        exact load_num (.tmp _) rfl _ _  h1 (HA.out W hR)
      refine step_const (.bool false) (fun ρ W hR hh => ?_) ?_
      · clear hF
        have h23 : ρ 23 = num s1 := hh.1
        have h24 : ρ 24 = num a := hh.2.1
        simp only [guarded, relyAt]
        go_simp
        exact ⟨Ext.refl _, (HQ.out _).mono fun _ _ h => h.const⟩
      simp only [List.cons_append, List.nil_append]
      refine hF.out fun W4 hR4 => ?_
      simp only [List.take_succ_cons, List.take_zero, List.drop_succ_cons, List.drop_zero, fin, forall_eq, Act.put, List.setIfInBounds_toArray, List.set_cons_zero, List.set_cons_succ]
      clear hF
      have hr4 := row_ext (row_ext hr5 (ext_drew _)) hR4
      have hA4 := row_ext (row_ext hA5 (ext_drew _)) hR4
      have hs4 := row_ext (row_ext hs5 (ext_drew _)) hR4
      have he4 := Ext.trans (Ext.trans he5 (ext_drew _)) hR4
      clear HA HR hR4 hr5 hA5 hs5 he5
      go_wp2_with first
        | (with_reducible show wpList _ _ _ ((⟨_, .store 29 _ _, _, _, _, _⟩ : Oper) :: _) _ _
           refine wpList_store_row rfl 29 _ _ rfl (w.heap.size + 1) (numA 0) rfl rfl 29 _ hs4 infoNum hbs (numA_one _) ?_)
      exact bodyPost_ret (results_cell_tmp rfl _ _ (w.heap.size + 1) 29 _ (0, 0) _ rfl _ rfl (setRow_heap _ _ _ _ _ _ hs4) Try.underlying29 rfl infoNum) rfl ⟨by rw [FIN.out.1, FIN.out.2]; rfl, ext_setRow he4 (by omega) _⟩
end Go.Proofs.Ytaojnmjmmfdfjaa.Field
