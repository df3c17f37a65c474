/- Bits and Power. -/
import Derived.Test.YtaojnmjmmfdfjaaPowA
namespace Go.Proofs.Ytaojnmjmmfdfjaa.Field
open Go Go.RowKit Go.Shelf
open Go.Proofs.Ytaojnmjmmfdfjaa.Rely
attribute [local go_sem] Oper.semAt_some
set_option linter.unusedVariables false

/-- the iterator over the bits of these bytes -/
def BitsV (es : List Int) : Fact := fun v W => ∃ kb, v = .func (.func 59) #[] #[.pointer (some ⟨kb, 0, none⟩)] ∧ W.heap[kb]? = some (.cells (ints .u8 es) 23)
theorem bitsV_stable (es : List Int) : Stable Ext (BitsV es) := fun v W W' hR ⟨kb, h1, h2⟩ => ⟨kb, h1, row_ext h2 hR⟩
theorem bits_call (es : List Int) (w : World) : Calls Try.prog 36 #[.agg (ints .u8 es)] w (Gives w (BitsV es)) := by
  have hmf : ∀ (fn : Fn) (first cap : Array Value) (w : World), (Instr.makeFunc fn first cap).run Try.prog w = .ok (.func fn first cap) w := fun _ _ _ _ => rfl
  go_enter Try.func36, Try.ntmps36
  go_wp2_with fail
  exact bodyPost_ret (results_tmp rfl _ _ _) rfl ⟨_, rfl, ext_alloc _ _, w.heap.size, rfl, heap_alloc_new _ _⟩

set_option maxRecDepth 100000 in
set_option maxHeartbeats 4000000 in
theorem power (a : Int) (ha : isN a) (es : List Int) (hel : es.length = 32) (hb : AreBytes es) (v : Value) (w : World) (hv : BitsV es v w) :
    Calls Try.prog 37 #[num a, v] w (Ret w (num (pwBits a (bitsOf es)))) := by
  obtain ⟨kb, rfl, hkb⟩ := hv
  have HS : Hid (∀ w, Calls Try.prog 22 #[.int .i64 1] w (Ret w (num 1))) := Lib.hid fun w => by have := small_pos 1 (by decide) w; rw [show (1 : Int) % p = 1 by decide] at this; exact this
  have hnf : ∀ W, (binOp .eql 50 (.func (.func 59) #[] #[.pointer (some ⟨kb, 0, none⟩)]) Value.nilFunc).run Try.prog W = .ok (.bool false) W := fun W => by kernel_rfl
  rw [show num a = .agg (numA a) from rfl]
  refine (callsIn_wide (n := 3)).1 ?_
  refine callsIn_of_wp_marks Try.func37 rfl trivial ?_ rfl
  simp only [Try.ntmps37, List.size_toArray, List.length_cons, List.length_nil, Nat.reduceAdd, Nat.reduceSub, Array.replicate_succ, Array.replicate_zero, List.push_toArray, List.append_toArray, List.nil_append, List.cons_append]
  gi_wp2_with first
    | (refine ⟨trivial, ?_⟩
       gi_at_call 22
       refine (callsIn_wide.2 (HS.out _)).mono ?_
       rintro e w' ⟨rfl, hw⟩)
    | (with_reducible show wpListIn _ _ _ _ _ ((⟨_, .store 29 _ _, _, _, _, _⟩ : Oper) :: _) _ _
       refine wpListIn_store_row rfl 29 _ _ rfl w'.heap.size (numA 1) rfl rfl 29 _ (heap_alloc_new _ _) infoNum rfl (numA_one _) ?_)
  have hO : ((w'.alloc (.cells #[.int .u64 0, .int .u64 0, .int .u64 0, .int .u64 0] 29)).setRow w'.heap.size (numA 1)).heap[w'.heap.size]? = some (.cells (numA 1) 29) := setRow_heap _ _ _ _ _ _ (heap_alloc_new _ _)
  have hq : w.heap.size + 2 ≤ w'.heap.size := by have := hw.size; simpa using this
  have he1 : Ext w w' := Ext.trans (Ext.trans (ext_alloc _ _) (ext_alloc _ _)) hw
  have hA1 : w'.heap[w.heap.size]? = some (.cells (numA a) 29) := row_ext (by rw [Below.heap_alloc _ _ _ (by simp)]; exact heap_alloc_new _ _) hw
  have hR1 : ∃ b : Array Value, b.size = 4 ∧ w'.heap[w.heap.size + 1]? = some (.cells b 29) := ⟨_, rfl, row_ext (by have := heap_alloc_new (w.alloc (.cells (numA a) 29)) (.cells #[.int .u64 0, .int .u64 0, .int .u64 0, .int .u64 0] 29); simpa using this) hw⟩
  have he2 : Ext w' ((w'.alloc (.cells #[.int .u64 0, .int .u64 0, .int .u64 0, .int .u64 0] 29)).setRow w'.heap.size (numA 1)) := ext_setRow (ext_alloc _ _) (Nat.le_refl _) _
  have hA := row_ext hA1 he2
  obtain ⟨b, hbs, hR1⟩ := hR1
  have hR := row_ext hR1 he2
  have he := Ext.trans he1 he2
  have hkV := row_ext hkb he
  have hkl := row_lt hkb
  generalize (w'.alloc (.cells #[.int .u64 0, .int .u64 0, .int .u64 0, .int .u64 0] 29)).setRow w'.heap.size (numA 1) = V at *
  generalize w'.heap.size = gO at *
  clear hA1 hR1 he1 he2 hw HS hnf
  have hsz := he.size
  refine wpIn_rangeFunc_ownF rfl (by omega) (gf := 59) (lb := #[.pointer (some ⟨kb, 0, none⟩)]) rfl trivial (enters_of Try.func59 (by kernel_rfl) rfl)
    (bits_stops _ (by omega) kb w.heap.size es hel hb V hkV hkl hsz) belowK_t (belowK_b hsz) (Below.refl _ _) (fun _ => rfl)
    (fun pre W => (W.heap[gO]? = some (.cells (numA (pwBits a pre)) 29) ∧ W.heap[w.heap.size]? = some (.cells (numA a) 29) ∧ W.heap[w.heap.size + 1]? = some (.cells b 29)) ∧ Below w.heap.size w W)
    (fun _ _ _ => False)
    (OwnFrom.and (Own.from (fun s A B row hs hg hr => ⟨row_kept hs.1 hg hr, row_kept hs.2.1 hg hr, row_kept hs.2.2 hg hr⟩) _) (ownFrom_below (Nat.le_refl _) hsz))
    (fun _ _ _ _ _ hs _ _ => hs)
    ⟨⟨hO, hA, hR⟩, he⟩
    (fun x => { tmps := #[.agg (numA a), .func (.func 59) #[] #[.pointer (some ⟨kb, 0, none⟩)], .pointer (some ⟨w.heap.size, 0, none⟩), undef, .pointer (some ⟨w.heap.size + 1, 0, none⟩), .pointer (some ⟨gO, 0, none⟩), .int .i64 x, num 1,
      .func (.func 59) #[] #[.pointer (some ⟨kb, 0, none⟩)], .bool false, undef, .func (.func 59) #[] #[.pointer (some ⟨kb, 0, none⟩)], .int .i64 x, undef, undef, undef, undef, undef, undef, undef, undef, undef], defers := [] }) ?assign ?body ?done ?stop
  case assign =>
    intro l x W K hK
    gi_wp2
    exact hK
  case body =>
    clear hO hA hR hkV hsz he
    rintro l pre x W ⟨⟨hO, hA, hR⟩, hB⟩ _
    have io := pwBits_isN a pre
    have HM : Hid (∀ w, Calls Try.prog 30 #[.agg (numA (pwBits a pre)), .agg (numA (pwBits a pre))] w (Ret w (.agg (numA (pwBits a pre * pwBits a pre % p))))) := Lib.hid (mul _ _ io io)
    have hsn := pwBits_snoc a pre x
    have hlA := row_lt hA
    by_cases hx : x = 0
    · have hval : pwBits a (pre ++ [x]) = pwBits a pre * pwBits a pre % p := by rw [hsn]; unfold pwStep; rw [if_pos hx]
      have HV := Lib.hid hval
      clear hval hsn
      generalize hoo : pwBits a pre = o at *
      generalize ho2 : o * o % p = o2 at *
      gi_wp2_with first
        | (refine ⟨trivial, ?_⟩
           gi_at_call 30
           refine (CallsIn.inRound l (callsIn_wide.2 (HM.out _))).mono ?_
           rintro e w2 ⟨rfl, hw2⟩
           have hO2 := row_ext hO hw2)
        | (with_reducible show wpListIn _ _ _ _ _ ((⟨_, .load 29 _, _, _, _, _⟩ : Oper) :: _) _ _
           refine wpListIn_load_row rfl 29 _ rfl gO rfl 29 _ (0, 0) _ hO Try.underlying29 rfl infoNum ?_)
        | (with_reducible show wpListIn _ _ _ _ _ ((⟨_, .store 29 _ _, _, _, _, _⟩ : Oper) :: _) _ _
           refine wpListIn_store_row rfl 29 _ _ rfl gO (numA o2) rfl rfl 29 _ hO2 infoNum rfl (numA_one _) ?_)
      refine ⟨(keeps_ext hw2).trans (keeps_setRow hO2 _), below_row (below_ext hw2 (by omega)) (by omega) _, ⟨?_, (setRow_other _ _ _ _ (by omega)).trans (row_ext hA hw2), (setRow_other _ _ _ _ (by omega)).trans (row_ext hR hw2)⟩, below_row (hB.trans (below_ext hw2 (by omega))) (by omega) _⟩
      rw [HV.out]
      exact setRow_heap _ _ _ _ _ _ hO2
    · have hval : pwBits a (pre ++ [x]) = pwBits a pre * pwBits a pre % p * a % p := by rw [hsn]; unfold pwStep; rw [if_neg hx]
      have HV := Lib.hid hval
      have HM2 : Hid (∀ w, Calls Try.prog 30 #[.agg (numA (pwBits a pre * pwBits a pre % p)), .agg (numA a)] w (Ret w (.agg (numA (pwBits a pre * pwBits a pre % p * a % p))))) := Lib.hid (mul _ _ (isN_mod _) ha)
      clear hval hsn
      generalize hoo : pwBits a pre = o at *
      generalize ho2 : o * o % p = o2 at *
      generalize ho3 : o2 * a % p = o3 at *
      gi_wp2_with first
        | (refine ⟨trivial, ?_⟩
           gi_at_call 30
           refine (CallsIn.inRound l (callsIn_wide.2 (HM.out _))).mono ?_
           rintro e w2 ⟨rfl, hw2⟩
           clear HM
           have hO2 := row_ext hO hw2
           clear hO)
        | (refine ⟨trivial, ?_⟩
           gi_at_call 30
           refine (CallsIn.inRound l (callsIn_wide.2 (HM2.out _))).mono ?_
           rintro e w4 ⟨rfl, hw4⟩
           clear HM2
           have hO4 := row_ext hO3 hw4
           clear hO3)
        | (with_reducible show wpListIn _ _ _ _ _ ((⟨_, .load 29 _, _, _, _, _⟩ : Oper) :: _) _ _
           refine wpListIn_load_row rfl 29 _ rfl gO rfl 29 _ (0, 0) _ hO Try.underlying29 rfl infoNum ?_)
        | (with_reducible show wpListIn _ _ _ _ _ ((⟨_, .load 29 _, _, _, _, _⟩ : Oper) :: _) _ _
           refine wpListIn_load_row rfl 29 _ rfl gO rfl 29 _ (0, 0) _ hO3 Try.underlying29 rfl infoNum ?_)
        | (with_reducible show wpListIn _ _ _ _ _ ((⟨_, .load 29 _, _, _, _, _⟩ : Oper) :: _) _ _
           refine wpListIn_load_row rfl 29 _ rfl w.heap.size rfl 29 _ (0, 0) _ hA3 Try.underlying29 rfl infoNum ?_)
        | (with_reducible show wpListIn _ _ _ _ _ ((⟨_, .store 29 _ _, _, _, _, _⟩ : Oper) :: _) _ _
           refine wpListIn_store_row rfl 29 _ _ rfl gO (numA o2) rfl rfl 29 _ hO2 infoNum rfl (numA_one _) ?_
           have hO3 := setRow_heap _ _ _ (numA o2) _ _ hO2
           have hA3 := (setRow_other _ gO w.heap.size (numA o2) (by omega)).trans (row_ext hA hw2)
           have hR3 := (setRow_other _ gO (w.heap.size + 1) (numA o2) (by omega)).trans (row_ext hR hw2)
           have hk3 := (keeps_ext hw2).trans (keeps_setRow hO2 (numA o2))
           have hb3 := below_row (below_ext (n := w.heap.size) hw2 (by omega)) (show w.heap.size ≤ gO by omega) (numA o2)
           clear hO2 hw2)
        | (with_reducible show wpListIn _ _ _ _ _ ((⟨_, .store 29 _ _, _, _, _, _⟩ : Oper) :: _) _ _
           refine wpListIn_store_row rfl 29 _ _ rfl gO (numA o3) rfl rfl 29 _ hO4 infoNum rfl (numA_one _) ?_)
      have hl3 := row_lt hA3
      have hb5 := below_row (hb3.trans (below_ext hw4 (by omega))) (show w.heap.size ≤ gO by omega) (numA o3)
      refine ⟨(hk3.trans (keeps_ext hw4)).trans (keeps_setRow hO4 _), hb5, ⟨?_, (setRow_other _ _ _ _ (by omega)).trans (row_ext hA3 hw4), (setRow_other _ _ _ _ (by omega)).trans (row_ext hR3 hw4)⟩, hB.trans hb5⟩
      rw [HV.out]
      exact setRow_heap _ _ _ _ _ _ hO4
  case done =>
    rintro D ys W hD rfl ⟨⟨hO, hA, hR⟩, hB⟩ hK
    gi_wp2_with first
        | (with_reducible show wpListIn _ _ _ _ _ ((⟨_, .load 29 _, _, _, _, _⟩ : Oper) :: _) _ _
           refine wpListIn_load_row rfl 29 _ rfl gO rfl 29 _ (0, 0) _ hO Try.underlying29 rfl infoNum ?_)
        | (with_reducible show wpListIn _ _ _ _ _ ((⟨_, .store 29 _ _, _, _, _, _⟩ : Oper) :: _) _ _
           refine wpListIn_store_row rfl 29 _ _ rfl (w.heap.size + 1) (numA (pwBits a (bitsOf es))) rfl rfl 29 _ hR infoNum hbs (numA_one _) ?_)
    have hK' := (keeps_setRow hR (numA (pwBits a (bitsOf es)))).same D _ hK rfl
    refine ⟨by simp, .inl ⟨_, _, rfl, run_takeDeferred hK', ?_⟩⟩
    exact ⟨_, results_cell_row (p := 4) rfl _ _ (w.heap.size + 1) 29 (numA (pwBits a (bitsOf es))) (0, 0) _ rfl (row_kept (setRow_heap _ _ _ _ _ _ hR) (grownBy_putObj' _ D (.deferred none)) (fun r e => by cases e; exact ⟨_, hK', rfl⟩)) Try.underlying29 rfl infoNum, rfl,
      (below_row hB (by omega) _).trans (belowK_b (w := w) (Nat.le_refl _) _ D _ _ (by omega) hK' rfl rfl)⟩
  case stop =>
    rintro D c pre W _ _ h _
    exact h.elim
end Go.Proofs.Ytaojnmjmmfdfjaa.Field
