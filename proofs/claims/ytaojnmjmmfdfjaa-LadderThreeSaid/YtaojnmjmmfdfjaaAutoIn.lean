/- The laws of a walk by program inside the body of a range over a function. -/
import Derived.Test.YtaojnmjmmfdfjaaAutoT
namespace Go.Proofs.Ytaojnmjmmfdfjaa.Auto
open Go Go.RowKit
open Go.Proofs.Ytaojnmjmmfdfjaa.Rely
set_option linter.unusedVariables false
variable {ds : List Deferred} {Fe : Fence} {nf : Nat}

/-- a fence that asks nothing -/
structure Free (Fe : Fence) (nf : Nat) (P : Program) : Prop where
  fn : ∀ f, Fe.fn f
  dp : Fe.depth.isSome = true → 1 ≤ nf
  calls : ∀ {f : FuncId} {args : Array Value} {w : World} {T : Ending → World → Prop}, Calls P f args w T → CallsIn Fe (nf - 1) P f args w T
theorem free_wide (l nf : Nat) (P : Program) : Free (Fence.wide.inRound l) nf P := ⟨fun _ => trivial, (fun h => by cases h), fun h => callsIn_wide.2 h⟩
def noDefer (o : Oper) : Bool := match o.op with | .defer _ => false | _ => true
theorem noDefer_ne {o : Oper} (h : noDefer o = true) : ∀ c, o.op ≠ .defer c := fun c hc => by
  unfold noDefer at h
  rw [hc] at h
  cases h

/-! ### Operations in the order of the text -/
section
variable {P : Program} {ops : Array Oper} {Q : Exit → Act → World → Prop} {rest : List Oper} {o : Oper} {N : Nat} {L : Env} {w : World}
structure WLI (Fe : Fence) (nf : Nat) (P : Program) (ops : Array Oper) (Q : Exit → Act → World → Prop) (rest : List Oper) (a : Act) (w : World) : Prop where
  out : wpListIn Fe nf P ops Q rest a w
theorem region_litIn {P : Program} {Q : Exit → Act → World → Prop} {a : Act} {w : World} {id : Nat} {l : List Oper} (h : WLI Fe nf P l.toArray Q l a w) : (Code.region id l.toArray false).wpIn Fe nf P Q a w := wpIn_region_lit h.out
theorem in_op (hF : Free Fe nf P) (hnd : noDefer o = true) (hg : wantB ops o N L = some true) (h : ∀ K : Act → World → Prop, (∀ a w, WLI Fe nf P ops Q rest a w → K a w) → o.uponIn Fe nf P (actOf ds N L) K Q ((execOp (Rely.look (envN N L)) o).run P w)) : WLI Fe nf P ops Q (o :: rest) (actOf ds N L) w :=
  ⟨wpListIn_step fun K hK => by
    rw [if_pos (wanted_of hg)]
    unfold Oper.wpIn
    rw [Oper.semAt_plain Fe _ _ (noDefer_ne hnd), eval_actOf]
    exact ⟨fun f _ => hF.fn f, h K fun a w hh => hK a w hh.out⟩⟩
theorem in_skip (d : Nat) (hd : o.dst = some d) (hF : Free Fe nf P) (hnd : noDefer o = true) (hg : wantB ops o N L = some false) (k : WLI Fe nf P ops Q rest (actOf ds N ((d, undef) :: L)) w) : WLI Fe nf P ops Q (o :: rest) (actOf ds N L) w :=
  ⟨wpListIn_step fun K hK => by
    rw [if_neg (by rw [wanted_of hg]; decide), hd, put_actOf]
    exact ⟨fun f _ => hF.fn f, hK _ _ k.out⟩⟩
theorem in_val (v : Value) (d : Nat) (hd : o.dst = some d) (hF : Free Fe nf P) (hnd : noDefer o = true) (hg : wantB ops o N L = some true) (h : (execOp (Rely.look (envN N L)) o).run P w = .ok (.value v) w) (k : WLI Fe nf P ops Q rest (actOf ds N ((d, v) :: L)) w) : WLI Fe nf P ops Q (o :: rest) (actOf ds N L) w :=
  in_op hF hnd hg fun K hK => by
    rw [h]
    show K _ _
    rw [hd, put_actOf]
    exact hK _ _ k
theorem in_valw (v : Value) (w' : World) (d : Nat) (hd : o.dst = some d) (hF : Free Fe nf P) (hnd : noDefer o = true) (hg : wantB ops o N L = some true) (h : (execOp (Rely.look (envN N L)) o).run P w = .ok (.value v) w') (k : WLI Fe nf P ops Q rest (actOf ds N ((d, v) :: L)) w') : WLI Fe nf P ops Q (o :: rest) (actOf ds N L) w :=
  in_op hF hnd hg fun K hK => by
    rw [h]
    show K _ _
    rw [hd, put_actOf]
    exact hK _ _ k
theorem in_voidw (w' : World) (hd : o.dst = none) (hF : Free Fe nf P) (hnd : noDefer o = true) (hg : wantB ops o N L = some true) (h : (execOp (Rely.look (envN N L)) o).run P w = .ok .skip w') (k : WLI Fe nf P ops Q rest (actOf ds N L) w') : WLI Fe nf P ops Q (o :: rest) (actOf ds N L) w :=
  in_op hF hnd hg fun K hK => by
    rw [h]
    show K _ _
    rw [hd]
    exact hK _ _ k
/-- a new block -/
theorem in_alloc (cs : Array Value) (T : TypeId) (d : Nat) (hd : o.dst = some d) (hF : Free Fe nf P) (hnd : noDefer o = true) (hg : wantB ops o N L = some true) (h : (execOp (Rely.look (envN N L)) o).run P w = .ok (.value (.pointer (some ⟨w.heap.size, 0, none⟩))) (w.alloc (.cells cs T)))
    (k : ∀ (g : Nat) (W : World), w.heap.size ≤ g → Ext w W → W.heap[g]? = some (.cells cs T) → WLI Fe nf P ops Q rest (actOf ds N ((d, .pointer (some ⟨g, 0, none⟩)) :: L)) W) : WLI Fe nf P ops Q (o :: rest) (actOf ds N L) w :=
  in_valw _ _ d hd hF hnd hg h (k _ _ (Nat.le_refl _) (ext_alloc _ _) (heap_alloc_new _ _))
/-- a call that leaves all blocks as they are -/
theorem in_call (v : Value) (f : FuncId) (args : Array Value) (d : Nat) (hd : o.dst = some d) (hF : Free Fe nf P) (hnd : noDefer o = true) (hg : wantB ops o N L = some true) (h : (execOp (Rely.look (envN N L)) o).run P w = .ok (.enter f args) w)
    (hc : Calls P f args w (Ret w v)) (k : ∀ W : World, Ext w W → WLI Fe nf P ops Q rest (actOf ds N ((d, v) :: L)) W) : WLI Fe nf P ops Q (o :: rest) (actOf ds N L) w :=
  in_op hF hnd hg fun K hK => by
    rw [h]
    refine ⟨hF.dp, (hF.calls hc).mono ?_⟩
    rintro e w' ⟨rfl, hw⟩
    show K _ _
    rw [hd, put_actOf]
    exact hK _ _ (k _ hw)
/-- a call of which something is known of what it hands back and of the world behind it -/
theorem in_callR (R : Value → World → Prop) (f : FuncId) (args : Array Value) (d : Nat) (hd : o.dst = some d) (hF : Free Fe nf P) (hnd : noDefer o = true) (hg : wantB ops o N L = some true) (h : (execOp (Rely.look (envN N L)) o).run P w = .ok (.enter f args) w)
    (hc : Calls P f args w fun e w' => ∃ v, e = .returned v ∧ R v w') (k : ∀ (v : Value) (W : World), R v W → WLI Fe nf P ops Q rest (actOf ds N ((d, v) :: L)) W) : WLI Fe nf P ops Q (o :: rest) (actOf ds N L) w :=
  in_op hF hnd hg fun K hK => by
    rw [h]
    refine ⟨hF.dp, (hF.calls hc).mono ?_⟩
    rintro e w' ⟨v, rfl, hw⟩
    show K _ _
    rw [hd, put_actOf]
    exact hK _ _ (k _ _ hw)
theorem in_nil (k : Q .normal (actOf ds N L) w) : WLI Fe nf P ops Q [] (actOf ds N L) w := ⟨k⟩
end

section
variable {P : Program} {ops : Array Oper} {Q : Exit → Act → World → Prop} {rest : List Oper} {o : Oper} {N : Nat} {L : Env} {w : World}
/-- a store: the block's row is another one behind it -/
theorem in_store (g : Nat) (old cs : Array Value) (t : TypeId) (hg : w.heap[g]? = some (.cells old t)) (hd : o.dst = none) (hF : Free Fe nf P) (hnd : noDefer o = true) (hw : wantB ops o N L = some true) (h : (execOp (Rely.look (envN N L)) o).run P w = .ok .skip (w.setRow g cs))
    (k : ∀ W : World, Puts w g W → W.heap[g]? = some (.cells cs t) → WLI Fe nf P ops Q rest (actOf ds N L) W) : WLI Fe nf P ops Q (o :: rest) (actOf ds N L) w :=
  in_voidw _ hd hF hnd hw h (k _ (puts_setRow _ _ _) (setRow_heap _ _ _ _ _ _ hg))
end

/-! ### Conditions -/
section
variable {P : Program} {Q : Exit → Act → World → Prop} {w : World} {N : Nat} {L : Env}
theorem in_cond_true {c : Operand} {x y : Code} (hc : Rely.look (envN N L) c = .bool true) (h : x.wpIn Fe nf P Q (actOf ds N L) w) : (Code.cond c x y).wpIn Fe nf P Q (actOf ds N L) w := wpIn_cond_true (by rw [eval_actOf]; exact hc) h
theorem in_cond_false {c : Operand} {x y : Code} (hc : Rely.look (envN N L) c = .bool false) (h : y.wpIn Fe nf P Q (actOf ds N L) w) : (Code.cond c x y).wpIn Fe nf P Q (actOf ds N L) w := wpIn_cond_false (by rw [eval_actOf]; exact hc) h
theorem in_cond_split {c : Operand} {x y : Code} {t : Bool} (hc : Rely.look (envN N L) c = .bool t) (ht : t = true → x.wpIn Fe nf P Q (actOf ds N L) w) (hf : t = false → y.wpIn Fe nf P Q (actOf ds N L) w) : (Code.cond c x y).wpIn Fe nf P Q (actOf ds N L) w := wpIn_cond_split (by rw [eval_actOf]; exact hc) ht hf
end

theorem in_region {P : Program} {id : Nat} {Q : Exit → Act → World → Prop} {N : Nat} {L : Env} {w : World} {l : List Oper} (n : Nat) (S : List Src) (hFr : Free Fe nf P) (hdf : (l.all noDefer) = true) (hm : P.follows .mixedOrders = true) (hok : ok l n N S = true)
    (h : ∀ F : List Kn → Prop, (∀ C, (C.all fun k => match k with | .is _ => true | _ => false) = true → (∀ W, Ext w W → WLI Fe nf P l.toArray Q (l.drop n) (actOf ds N (ups L (l.take n) C)) W) → F C) → steps P w.drew 0 N L F (l.take n) S []) :
    (Code.region id l.toArray true).wpIn Fe nf P Q (actOf ds N L) w := by
  refine wpIn_region_rely Ext n N S hFr.fn hFr.dp hFr.calls hdf hm hok (size_actOf N L) Ext.refl Ext.trans fun F r0 hr hF => ?_
  rw [slots_actOf] at hr
  subst hr
  have := h (fun C => (C.all fun k => match k with | .is _ => true | _ => false) = true ∧ ∀ W, Ext w W → WLI Fe nf P l.toArray Q (l.drop n) (actOf ds N (ups L (l.take n) C)) W) (fun C h1 h2 => ⟨h1, h2⟩)
  exact steps_relies (F := fun C => (C.all fun k => match k with | .is _ => true | _ => false) = true ∧ ∀ W, Ext w W → WLI Fe nf P l.toArray Q (l.drop n) (actOf ds N (ups L (l.take n) C)) W) (G := F)
    (fun C h => hF.out fun W hR => fin_ups (Q := fun a W => wpListIn Fe nf P l.toArray Q (l.drop n) a W) _ _ _ h.1 (h.2 W (Rely.Ext.trans (ext_drew w) hR)).out) _ _ [] this

section
variable {P : Program} {Rd : World → Prop} {w0 : World} {base N : Nat} {L : Env}
theorem wpAnyIn_of_T {l : List Oper} {S : List Src} {C : List Kn} {U D : List Nat} {Q : Exit → Act → World → Prop} (hFr : Free Fe nf P) (hdf : (l.all noDefer) = true) (hD : allocsOk l D = true) (hDC : ∀ j ∈ D, ∃ cs T, C[j]? = some (.new cs T)) (hok : okT l N S U = true)
    (hC : C.length = l.length) (hRd : ∀ W, Ext w0 W → Rd W)
    (hop : ∀ j o s, l[j]? = some o → S[j]? = some s → ∃ k, C[j]? = some k ∧ (o.dst.isNone = true → k = .is undef) ∧ (o.dst.isNone = false → if U.contains j = true then pureOk P Rd N L (C.take j) o s k else opOk P Ext w0 (envN N L) ((C.take j).map (Kn.fact base)) o s (k.fact base)))
    (hfin : ∀ W, Ext w0 W → finP (fun af W => TailRun P Rd l af (fun W' => Q .normal af W') (tailsOf l) W) D l (C.map (Kn.fact base)) 0 [] (actOf ds N L) W) :
    ∀ (fuel : Nat) (listed : Array Bool) (a : Act) (W : World) (vs : Nat → Value), InvT l (actOf ds N L) listed a vs C U → Phase P Rd l w0 base (actOf ds N L) listed W vs C U D Q → fuel = left l.toArray listed → wpAnyIn Fe nf P .any l.toArray Q fuel listed a W := by
  simp only [okT, Bool.and_eq_true] at hok
  obtain ⟨⟨⟨⟨⟨hsrc, hdst⟩, hedge⟩, htail⟩, hst⟩, hUT⟩ := hok
  have hN : (actOf ds N L).tmps.size = N := size_actOf N L
  have hanc : ∀ j i, ((masks l #[]).getD j 0).testBit i = true → Anc l.toArray i j := masks_anc l.toArray l #[] (fun j => by simp) (fun j i h => by simp at h)
  have hsl : S.length = l.length := srcs_len l S 0 hsrc
  have frame : ∀ (listed : Array Bool) (a : Act) (vs : Nat → Value), InvT l (actOf ds N L) listed a vs C U → (∀ i, i < l.length → listed.getD i true = true) → putsFrom l vs 0 (actOf ds N L) = a := by
    intro listed a vs inv hall
    have hall' : ∀ i, i < l.length → listed.getD i false = true := fun i hi => by
      cases hx : listed.getD i false with
      | true => rfl
      | false => have := getD_in (by have := inv.size; omega) hx; rw [hall i hi] at this; cases this
    have hsz := putsFrom_size l vs 0 (actOf ds N L)
    have ht : (putsFrom l vs 0 (actOf ds N L)).tmps = a.tmps := by
      refine Array.ext_getElem? fun t => ?_
      by_cases hw : ∃ (i : Nat) (o : Oper), l[i]? = some o ∧ o.dst = some t
      · obtain ⟨i, o, hi, ho⟩ := hw
        have hin : i < l.length := (List.getElem?_eq_some_iff.1 hi).1
        rw [putsFrom_some l vs 0 (actOf ds N L) t i o hdst hN hi ho, Nat.zero_add]
        exact (inv.vals i o t (hall' i hin) hi ho).symm
      · rw [putsFrom_none l vs 0 (actOf ds N L) t (fun o ho he => by
          obtain ⟨i, hi⟩ := List.mem_iff_getElem?.1 ho
          exact hw ⟨i, o, hi, he⟩)]
        refine (inv.rest t fun i o _ hi he => hw ⟨i, o, hi, he⟩).symm
    have hd := hsz.2.trans inv.defers.symm
    generalize putsFrom l vs 0 (actOf ds N L) = b at *
    cases a; cases b
    simp_all
  -- the stores begin
  have begin_ : ∀ (listed : Array Bool) (a : Act) (W : World) (vs : Nat → Value), InvT l (actOf ds N L) listed a vs C U → (∀ i, isT l i = true → listed.getD i false = false) → Ext w0 W → (∀ i k, C[i]? = some k → listed.getD i false = true → k.fact base (vs i) W) → Pairs D l.length listed vs →
      (∀ i, i < l.length → isT l i = false → U.contains i = false → listed.getD i false = true) → TailRun P Rd l (putsFrom l vs 0 (actOf ds N L)) (fun W' => Q .normal (putsFrom l vs 0 (actOf ds N L)) W') (rem l listed) W := by
    intro listed a W vs inv hT hR hf hp hall
    have hrem : rem l listed = tailsOf l := by
      unfold rem
      rw [List.filter_eq_self]
      intro i hi
      have h1 := mem_tails.1 hi
      have h2 := hT i h1
      have hil : i < l.length := by
        cases hx : l[i]? with
        | none => simp [isT, hx] at h1
        | some o => exact (List.getElem?_eq_some_iff.1 hx).1
      rw [getD_in (by have := inv.size; omega) h2]
      rfl
    rw [hrem]
    have hDl : ∀ i, i ∈ D → listed.getD i false = true := fun i hi => by
      obtain ⟨cs, T, hc⟩ := hDC i hi
      have hil : i < l.length := by rw [← hC]; exact (List.getElem?_eq_some_iff.1 hc).1
      obtain ⟨o, ho⟩ : ∃ o, l[i]? = some o := ⟨l[i], by simp [hil]⟩
      obtain ⟨s, hs⟩ : ∃ s, S[i]? = some s := ⟨S[i]'(by omega), by simp [show i < S.length by omega]⟩
      obtain ⟨k, hk, hk1, hk2⟩ := hop i o s ho hs
      obtain rfl : k = .new cs T := Option.some.inj (hk.symm.trans hc)
      refine hall i hil ?_ ?_
      · rw [isT_some ho]
        cases hx : o.dst.isNone with
        | false => rfl
        | true => exact absurd (hk1 hx) (fun e => by cases e)
      · cases hx : U.contains i with
        | false => rfl
        | true =>
          have hdn : o.dst.isNone = false := by
            cases hy : o.dst.isNone with
            | false => rfl
            | true => exact absurd (hk1 hy) (fun e => by cases e)
          have := hk2 hdn
          rw [if_pos hx] at this
          obtain ⟨_, c, hc', _⟩ := this
          cases hc'
    refine fin_runP (D := D) l (C.map (Kn.fact base)) (actOf ds N L) vs 0 [] (hfin W hR) (by simp [hC]) (fun i hi => ?_) (fun u hu => by cases hu) (fun i k hi hk hin hkn hne => hp i k hi hk (hDl i hi) (hDl k hk) (by omega) (by omega) hne)
    rw [Nat.zero_add]
    obtain ⟨k, hk⟩ : ∃ k, C[i]? = some k := ⟨C[i]'(by omega), by simp [show i < C.length by omega]⟩
    have e1 : (C.map (Kn.fact base)).getD i (fun _ _ => True) = k.fact base := by simp [hk]
    rw [e1]
    by_cases hli : listed.getD i false = true
    · exact hf i k hk hli
    · obtain ⟨o, ho⟩ : ∃ o, l[i]? = some o := ⟨l[i], by simp [hi]⟩
      obtain ⟨s, hs⟩ : ∃ s, S[i]? = some s := ⟨S[i]'(by omega), by simp [show i < S.length by omega]⟩
      obtain ⟨k', hk', hk1, hk2⟩ := hop i o s ho hs
      obtain rfl : k' = k := Option.some.inj (hk'.symm.trans hk)
      cases hx : o.dst.isNone with
      | true =>
        have hkk := hk1 hx
        rw [hkk]
        exact inv.cst i undef (hkk ▸ hk) (.inr (.inr (by rw [isT_some ho]; exact hx)))
      | false =>
        have hiU : U.contains i = true := by
          cases hy : U.contains i with
          | true => rfl
          | false => exact absurd (hall i hi (by rw [isT_some ho]; exact hx) hy) hli
        have := hk2 hx
        rw [if_pos hiU] at this
        obtain ⟨_, c, hc', _⟩ := this
        rw [hc']
        exact inv.cst i c (hc' ▸ hk) (.inr (.inl hiU))
  intro fuel
  induction fuel with
  | zero =>
    intro listed a W vs inv ph hf
    have hall : ∀ i, i < l.length → listed.getD i true = true := fun i hi => by
      cases hx : listed.getD i true with
      | true => rfl
      | false =>
        have := left_pos (ops := l.toArray) (by simpa using hi) hx
        omega
    refine ⟨?_, ?_⟩
    · cases hr : Region.ready .any l.toArray listed with
      | nil => rfl
      | cons x xs =>
        obtain ⟨hu, o, ho, _⟩ := mem_ready.1 (show x ∈ Region.ready .any l.toArray listed by rw [hr]; exact List.mem_cons_self)
        have hxl : x < l.length := by have := (Array.getElem?_eq_some_iff.1 ho).1; simpa using this
        rw [hall x hxl] at hu
        cases hu
    · have hrem : rem l listed = [] := by
        rw [List.eq_nil_iff_forall_not_mem]
        intro j hj
        obtain ⟨h1, h2⟩ := mem_rem.1 hj
        have hjl : j < l.length := by
          cases hx : l[j]? with
          | none => simp [isT, hx] at h1
          | some o => exact (List.getElem?_eq_some_iff.1 hx).1
        rw [hall j hjl] at h2
        cases h2
      have ht : TailRun P Rd l (putsFrom l vs 0 (actOf ds N L)) (fun W' => Q .normal (putsFrom l vs 0 (actOf ds N L)) W') (rem l listed) W := by
        rcases ph with ⟨h1, h2, h3, h4⟩ | ⟨_, _, h2⟩
        · refine begin_ listed a W vs inv h1 h2 h3 h4 fun i hi _ _ => ?_
          cases hx : listed.getD i false with
          | true => rfl
          | false => have := getD_in (by have := inv.size; omega) hx; rw [hall i hi] at this; cases this
        · exact h2
      rw [hrem, frame listed a vs inv hall] at ht
      exact ht
  | succ fuel ih =>
    intro listed a W vs inv ph hf
    have hs : listed.size = l.length := inv.size
    refine ⟨fun hr => ?_, fun j hj => ?_⟩
    · exfalso
      by_cases hA : ∀ i, i < l.length → listed.getD i true = true
      · have : left l.toArray listed = 0 := by
          unfold left
          rw [List.countP_eq_zero]
          intro i hi
          have := hA i (by simpa using List.mem_range.1 hi)
          simp only [this, Bool.not_true, Bool.false_eq_true, not_false_iff]
        omega
      · obtain ⟨i0, hi0, hu0⟩ : ∃ i, i < l.length ∧ listed.getD i true = false := by
          refine Classical.byContradiction fun hc => hA fun i hi => ?_
          cases hx : listed.getD i true with
          | true => rfl
          | false => exact absurd ⟨i, hi, hx⟩ hc
        obtain ⟨j, hj⟩ := ready_of_left hedge (listed := listed) i0 hi0 hu0
        rw [hr] at hj; cases hj
    · obtain ⟨hju, oj, hoj, _⟩ := mem_ready.1 hj
      have hoj' : l[j]? = some oj := by simpa using hoj
      have hjl : j < l.length := (List.getElem?_eq_some_iff.1 hoj').1
      have hjs : j < listed.size := by omega
      have hnl : ¬ listed.getD j false = true := fun h => by rw [getD_false_of_true h] at hju; cases hju
      obtain ⟨s, hsj, hso⟩ := srcs_get l S 0 hsrc j oj hoj'
      rw [Nat.zero_add] at hso
      simp only [srcOk, Bool.and_eq_true] at hso
      obtain ⟨hg, hrd⟩ := hso
      have hg' : guardOf l.toArray oj = some s.guard := by simpa using hg
      have readS : ∀ t i, (t, some i) ∈ s.reads → i < j ∧ listed.getD i false = true ∧ ∃ oi, l[i]? = some oi ∧ oi.dst = some t := fun t i hti => by
        have h1 := List.all_eq_true.1 hrd (t, some i) hti
        simp only [readOk, Bool.and_eq_true, decide_eq_true_eq, beq_iff_eq] at h1
        obtain ⟨⟨hij, hbit⟩, hdi⟩ := h1
        refine ⟨hij, anc_of_ready inv.closed hj (hanc j i hbit), ?_⟩
        cases hx : l[i]? with
        | none => rw [hx] at hdi; cases hdi
        | some oi => rw [hx] at hdi; exact ⟨oi, rfl, hdi⟩
      have readN : ∀ t, (t, none) ∈ s.reads → a.tmps[t]? = (actOf ds N L).tmps[t]? := fun t htn => inv.rest t fun i o hli hio hd => by
        have h1 := List.all_eq_true.1 hrd (t, none) htn
        simp only [readOk] at h1
        have h3 := List.all_eq_true.1 h1 (o, i) (by
          rw [List.mem_iff_getElem?]
          refine ⟨i, ?_⟩
          rw [List.getElem?_zipIdx]
          simp [hio])
        simp only [hd, bne_self_eq_false, Bool.false_or, Bool.or_eq_true, beq_iff_eq] at h3
        have hlj : listed.getD j false = true := by
          rcases h3 with h3 | h3
          · exact inv.closed.anc (hanc i j h3) hli
          · rw [← h3]; exact hli
        exact hnl hlj
      have slotS : ∀ t i, (t, some i) ∈ s.reads → slots a t = vs i := fun t i hti => by
        obtain ⟨_, hli, oi, hoi, hdi⟩ := readS t i hti
        have hv := inv.vals i oi t hli hoi hdi
        simp only [slots, Array.getD_eq_getD_getElem?, hv, Option.getD_some]
      have slotN : ∀ t, (t, none) ∈ s.reads → slots a t = envN N L t := fun t htn => by
        rw [← slots_actOf (ds := ds)]
        simp only [slots, Array.getD_eq_getD_getElem?, readN t htn]
      have hlist : ∀ i, (listed.setIfInBounds j true).getD i false = true → i = j ∨ listed.getD i false = true := fun i hi => by
        by_cases hij : j = i
        · exact .inl hij.symm
        · rw [getD_set_ne false hij] at hi; exact .inr hi
      obtain ⟨k, hk, hk1, hk2⟩ := hop j oj s hoj' hsj
      cases hdn : oj.dst.isNone with
      | true =>
        have hTj : isT l j = true := by rw [isT_some hoj']; exact hdn
        have hdnone : oj.dst = none := by simpa using hdn
        have htj := List.all_eq_true.1 htail j (List.mem_range.2 hjl)
        simp only [hTj, Bool.not_true, Bool.false_or] at htj
        have hall : ∀ i, i < l.length → isT l i = false → U.contains i = false → listed.getD i false = true := fun i hi h1 h2 => by
          have h3 := List.all_eq_true.1 htj i (List.mem_range.2 hi)
          simp only [Bool.or_eq_true, beq_iff_eq] at h3
          rcases h3 with h3 | h3
          · rw [h3, hTj] at h1; cases h1
          · rw [h1] at h3
            simp only [Bool.false_eq_true, if_false, h2, Bool.false_or] at h3
            exact anc_of_ready inv.closed hj (hanc j i h3)
        have hrun : TailRun P Rd l (putsFrom l vs 0 (actOf ds N L)) (fun W' => Q .normal (putsFrom l vs 0 (actOf ds N L)) W') (rem l listed) W := by
          rcases ph with ⟨h1, h2, h3, h4⟩ | ⟨_, _, h2⟩
          · exact begin_ listed a W vs inv h1 h2 h3 h4 hall
          · exact h2
        have hjr : j ∈ rem l listed := mem_rem.2 ⟨hTj, hju⟩
        have hsorted := rem_sorted l listed
        have hset := rem_set (l := l) (listed := listed) hjs
        cases hr : rem l listed with
        | nil => rw [hr] at hjr; cases hjr
        | cons h r =>
          rw [hr] at hrun hjr hsorted hset
          have hhj : h = j := by
            rcases List.mem_cons.1 hjr with e | e
            · exact e.symm
            · exfalso
              have hlt := (List.pairwise_cons.1 hsorted).1 j e
              obtain ⟨hTh, hlh⟩ := mem_rem.1 (show h ∈ rem l listed by rw [hr]; exact List.mem_cons_self)
              have h3 := List.all_eq_true.1 htj h (List.mem_range.2 (by omega))
              simp only [Bool.or_eq_true, beq_iff_eq, hTh, if_true, decide_eq_true_eq] at h3
              rcases h3 with h3 | h3 | h3
              · omega
              · omega
              · have := anc_of_ready inv.closed hj (hanc j h h3)
                rw [getD_false_of_true this] at hlh
                cases hlh
          subst hhj
          rw [filter_ne hsorted] at hset
          obtain ⟨o', W', ho', hrunj, hrdj, hrest⟩ := hrun
          obtain rfl : o' = oj := Option.some.inj (ho'.symm.trans hoj')
          have hstj := List.all_eq_true.1 hst h (List.mem_range.2 hjl)
          simp only [hTj, Bool.not_true, Bool.false_or, hoj', hsj, Bool.and_eq_true] at hstj
          obtain ⟨⟨⟨hs1, hs2⟩, hs3⟩, hs4⟩ := hstj
          have hcong : execOp a.eval o' = execOp (putsFrom l vs 0 (actOf ds N L)).eval o' := by
            refine execOp_congr o' (fun cs b hc => by rw [hc] at hs3; cases hs3) fun x hx => ?_
            cases x with
            | tmp t =>
              have h5 := List.all_eq_true.1 hs4 (.tmp t) (Array.mem_toList_iff.2 hx)
              obtain ⟨⟨t', si⟩, hm, hb⟩ := List.any_eq_true.1 h5
              have ht' : t' = t := Nat.eq_of_beq_eq_true hb
              subst ht'
              show a.tmps.getD t' undef = (putsFrom l vs 0 (actOf ds N L)).tmps.getD t' undef
              cases si with
              | none =>
                have h6 := List.all_eq_true.1 hs1 (t', none) hm
                rw [Array.getD_eq_getD_getElem?, Array.getD_eq_getD_getElem?, readN t' hm, putsFrom_none l vs 0 (actOf ds N L) t' fun o ho he => by
                  have := List.all_eq_true.1 h6 o ho
                  rw [he] at this
                  simp at this]
              | some i =>
                obtain ⟨_, hli, oi, hoi, hdi⟩ := readS t' i hm
                rw [Array.getD_eq_getD_getElem?, Array.getD_eq_getD_getElem?, inv.vals i oi t' hli hoi hdi, putsFrom_some l vs 0 (actOf ds N L) t' i oi hdst hN hoi hdi, Nat.zero_add]
            | const v => rfl
            | global g => rfl
            | func f => rfl
          refine wpOpIn_of_wanted hoj hFr.fn ?_
          have hgn : s.guard = none := by simpa using hs2
          rw [wanted_guard hg', hgn]
          simp only [gOk, if_true]
          unfold Oper.wpIn
          rw [Oper.semAt_plain Fe _ _ (noDefer_ne (List.all_eq_true.1 hdf _ (List.mem_of_getElem? hoj'))), hcong, hrunj]
          refine ⟨fun f _ => hFr.fn f, ?_⟩
          show wpAnyIn Fe nf P .any l.toArray Q fuel (listed.setIfInBounds h true) (a.put o'.dst undef) W'
          rw [hdnone]
          refine ih _ a W' vs ⟨by simp [inv.size], inv.closed.set hj, inv.defers, inv.asize, fun i o d hi hio hd => ?_, fun t ht => ?_, fun i c hc hi => ?_⟩ (.inr ⟨fun i hi h1 h2 => getD_set_true (hall i hi h1 h2), hrdj, ?_⟩) ?_
          · rcases hlist i hi with e | e
            · subst e
              obtain rfl : o = o' := Option.some.inj (hio.symm.trans hoj')
              rw [hdnone] at hd; cases hd
            · exact inv.vals i o d e hio hd
          · exact inv.rest t fun i o hi hio => ht i o (getD_set_true hi) hio
          · refine inv.cst i c hc ?_
            rcases hi with hi | hi
            · rcases hlist i hi with e | e
              · exact .inr (.inr (e ▸ hTj))
              · exact .inl e
            · exact .inr hi
          · rw [hset]; exact hrest
          · have := left_set (ops := l.toArray) hju (by rw [List.size_toArray]; exact inv.size)
            omega
      | false =>
        have hTj : isT l j = false := by rw [isT_some hoj']; exact hdn
        have hkk := hk2 hdn
        have hrem' : rem l (listed.setIfInBounds j true) = rem l listed := by
          rw [rem_set hjs, List.filter_eq_self]
          intro i hi
          have := (mem_rem.1 hi).1
          simp only [bne_iff_ne, ne_eq]
          intro e
          rw [e, hTj] at this
          cases this
        have htl : ∀ {P : Nat → Prop}, (∀ i, isT l i = true → listed.getD i false = false) → ∀ i, isT l i = true → (listed.setIfInBounds j true).getD i false = false := fun h i hi => by
          have hij : j ≠ i := fun e => by rw [e, hi] at hTj; cases hTj
          rw [getD_set_ne false hij]
          exact h i hi
        cases hU : U.contains j with
        | true =>
          rw [if_pos hU] at hkk
          obtain ⟨hseen, c, rfl, hrun⟩ := hkk
          have hseen' := hseen
          simp only [seen, Bool.and_eq_true] at hseen'
          have htk : ∀ i, i < j → (C.take j)[i]? = C[i]? := fun i hi => by rw [List.getElem?_take, if_pos hi]
          have hh : Holds (envN N L) ((C.take j).map (Kn.fact base)) (slots a) W s.reads := holdsC s.reads hseen'.1.1.2 slotN fun t i c hti hc => by
            obtain ⟨hij, hli, _⟩ := readS t i hti
            rw [htk i hij] at hc
            rw [slotS t i hti]
            exact inv.cst i c hc (.inl hli)
          have hvj : vs j = c := inv.cst j c hk (.inr (.inl hU))
          have hrdW : Rd W := by
            rcases ph with ⟨_, h2, _, _⟩ | ⟨_, h2, _⟩
            · exact hRd W h2
            · exact h2
          have hr := hrun W hrdW
          rw [← seen_guard hseen hh, ← seen_look hseen hh, ← eval_look] at hr
          have next : wpAnyIn Fe nf P .any l.toArray Q fuel (listed.setIfInBounds j true) (a.put oj.dst c) W := by
            refine ih _ _ W vs ⟨by simp [inv.size], inv.closed.set hj, (put_defers _ _ _).trans inv.defers, (put_size _ _ _).trans inv.asize, fun i o d hi hio hd => ?_, fun t ht => ?_, fun i c' hc hi => ?_⟩ ?_ ?_
            · by_cases hij : i = j
              · subst hij
                obtain rfl : o = oj := Option.some.inj (hio.symm.trans hoj')
                rw [hd, put_get_eq _ _ _ (by rw [inv.asize, hN]; exact dsts_lt l hdst i o d hoj' hd), hvj]
              · rcases hlist i hi with e | e
                · exact absurd e hij
                · rw [put_get_ne _ _ _ _ (dsts_ne l hdst i j o oj d hio hoj' hij hd)]
                  exact inv.vals i o d e hio hd
            · rw [put_get_ne _ _ _ _ (ht j oj (by simp [Array.getElem?_setIfInBounds_self_of_lt hjs]) hoj')]
              exact inv.rest t fun i o hi hio => ht i o (getD_set_true hi) hio
            · refine inv.cst i c' hc ?_
              rcases hi with hi | hi
              · rcases hlist i hi with e | e
                · exact .inr (.inl (e ▸ hU))
                · exact .inl e
              · exact .inr hi
            · rcases ph with ⟨h1, h2, h3, h4⟩ | ⟨h1, h1r, h2⟩
              · refine .inl ⟨htl (P := fun _ => True) h1, h2, fun i k' hk' hi => ?_, fun i k' hi hk' hli hlk hin hkn hne => ?_⟩
                · rcases hlist i hi with e | e
                  · subst e
                    obtain rfl : k' = .is c := Option.some.inj (hk'.symm.trans hk)
                    exact hvj
                  · exact h3 i k' hk' e
                · have nj : ∀ i, i ∈ D → i ≠ j := fun i hi e => by
                    obtain ⟨cs, T, hc⟩ := hDC i hi
                    rw [e, hk] at hc
                    cases hc
                  exact h4 i k' hi hk' ((hlist i hli).resolve_left (nj i hi)) ((hlist k' hlk).resolve_left (nj k' hk')) hin hkn hne
              · refine .inr ⟨fun i hi e1 e2 => getD_set_true (h1 i hi e1 e2), h1r, ?_⟩
                rw [hrem']
                exact h2
            · have := left_set (ops := l.toArray) hju (by rw [List.size_toArray]; exact inv.size)
              omega
          refine wpOpIn_of_wanted hoj hFr.fn ?_
          rw [wanted_guard hg']
          by_cases hb : gOk s.guard (slots a) = true
          · rw [if_pos hb]
            have hr' : (execOp a.eval oj).run P W = .ok (.value c) W := by
              cases hgd' : s.guard with
              | none => rw [hgd'] at hr; exact hr
              | some db =>
                rw [hgd'] at hr hb
                exact (if_pos hb).mp hr
            unfold Oper.wpIn
            rw [Oper.semAt_plain Fe _ _ (noDefer_ne (List.all_eq_true.1 hdf _ (List.mem_of_getElem? hoj'))), hr']
            exact ⟨fun f _ => hFr.fn f, next⟩
          · rw [if_neg hb]
            have hc' : undef = c := by
              cases hgd' : s.guard with
              | none => rw [hgd'] at hb; exact absurd rfl hb
              | some db =>
                rw [hgd'] at hr hb
                exact (if_neg hb).mp hr
            rw [hc']
            exact next
        | false =>
          rw [if_neg (by rw [hU]; decide)] at hkk
          obtain ⟨h1, h2, h3, h4⟩ : (∀ i, isT l i = true → listed.getD i false = false) ∧ Ext w0 W ∧ (∀ i k, C[i]? = some k → listed.getD i false = true → k.fact base (vs i) W) ∧ Pairs D l.length listed vs := by
            rcases ph with h | ⟨h1, _⟩
            · exact h
            · exact absurd (h1 j hjl hTj hU) hnl
          have holds : ∀ (r : List (Tmp × Option Nat)), (∀ x ∈ r, x ∈ s.reads) → Holds (envN N L) ((C.take j).map (Kn.fact base)) (slots a) W r := by
            intro r
            induction r with
            | nil => intro _; trivial
            | cons x r ihr =>
              intro hr
              obtain ⟨t, si⟩ := x
              have hm := hr _ List.mem_cons_self
              cases si with
              | none => exact ⟨slotN t hm, ihr fun x hx => hr x (List.mem_cons_of_mem _ hx)⟩
              | some i =>
                refine ⟨?_, ihr fun x hx => hr x (List.mem_cons_of_mem _ hx)⟩
                obtain ⟨hij, hli, _⟩ := readS t i hm
                rw [slotS t i hm]
                obtain ⟨ki, hki⟩ : ∃ ki, C[i]? = some ki := ⟨C[i]'(by omega), by simp [show i < C.length by omega]⟩
                have e1 : ((C.take j).map (Kn.fact base)).getD i (fun _ _ => True) = ki.fact base := by
                  simp [hij, hki]
                rw [e1]
                exact h3 i ki hki hli
          have hopj := hkk (slots a) W h2 (holds s.reads fun _ h => h)
          have next : ∀ v W', Ext W W' → (k.fact base v W' ∧ (j ∈ D → v = .pointer (some ⟨W.heap.size, 0, none⟩))) → wpAnyIn Fe nf P .any l.toArray Q fuel (listed.setIfInBounds j true) (a.put oj.dst v) W' := by
            intro v W' hR ⟨hφ, hfresh⟩
            refine ih _ _ W' (fun i => if i = j then v else vs i) ⟨by simp [inv.size], inv.closed.set hj, (put_defers _ _ _).trans inv.defers, (put_size _ _ _).trans inv.asize, fun i o d hi hio hd => ?_, fun t ht => ?_, fun i c' hc hi => ?_⟩ (.inl ⟨htl (P := fun _ => True) h1, Rely.Ext.trans h2 hR, fun i k' hk' hi => ?_, fun i k' hi hk' hli hlk hin hkn hne => ?_⟩) ?_
            · by_cases hij : i = j
              · subst hij
                obtain rfl : o = oj := Option.some.inj (hio.symm.trans hoj')
                rw [hd, put_get_eq _ _ _ (by rw [inv.asize, hN]; exact dsts_lt l hdst i o d hoj' hd)]
                simp
              · simp only [hij, if_false]
                rcases hlist i hi with e | e
                · exact absurd e hij
                · rw [put_get_ne _ _ _ _ (dsts_ne l hdst i j o oj d hio hoj' hij hd)]
                  exact inv.vals i o d e hio hd
            · rw [put_get_ne _ _ _ _ (ht j oj (by simp [Array.getElem?_setIfInBounds_self_of_lt hjs]) hoj')]
              exact inv.rest t fun i o hi hio => ht i o (getD_set_true hi) hio
            · by_cases hij : i = j
              · subst hij
                obtain rfl : k = .is c' := Option.some.inj (hk.symm.trans hc)
                have hv : v = c' := hφ
                simpa using hv
              · simp only [hij, if_false]
                refine inv.cst i c' hc ?_
                rcases hi with hi | hi
                · exact .inl ((hlist i hi).resolve_left hij)
                · exact .inr hi
            · by_cases hij : i = j
              · subst hij
                obtain rfl : k' = k := Option.some.inj (hk'.symm.trans hk)
                simpa using hφ
              · simp only [hij, if_false]
                exact Kn.stable base k' _ _ _ hR (h3 i k' hk' ((hlist i hi).resolve_left hij))
            · have old : ∀ m, m ∈ D → listed.getD m false = true → j ∈ D → vs m ≠ v := fun m hm hl hjD he => by
                obtain ⟨cs, T, hc⟩ := hDC m hm
                obtain ⟨g, hg1, _, hg2⟩ := h3 m _ hc hl
                rw [hg1, hfresh hjD] at he
                simp only [Value.pointer.injEq, Option.some.injEq, Addr.mk.injEq, and_true] at he
                have := row_lt hg2
                omega
              by_cases hij : i = j
              · by_cases hkj : k' = j
                · exact absurd (hij.trans hkj.symm) hne
                · simp only [hij, hkj, if_true, if_false]
                  exact (old k' hk' ((hlist k' hlk).resolve_left hkj) (hij ▸ hi)).symm
              · by_cases hkj : k' = j
                · simp only [hij, hkj, if_true, if_false]
                  exact old i hi ((hlist i hli).resolve_left hij) (hkj ▸ hk')
                · simp only [hij, hkj, if_false]
                  exact h4 i k' hi hk' ((hlist i hli).resolve_left hij) ((hlist k' hlk).resolve_left hkj) hin hkn hne
            · have := left_set (ops := l.toArray) hju (by rw [List.size_toArray]; exact inv.size)
              omega
          refine wpOpIn_of_wanted hoj hFr.fn ?_
          rw [wanted_guard hg']
          by_cases hb : gOk s.guard (slots a) = true
          · rw [if_pos hb]
            refine relyAt_wpIn (R := Ext) (W := W) (φ := fun v W' => k.fact base v W' ∧ (j ∈ D → v = .pointer (some ⟨W.heap.size, 0, none⟩))) (noDefer_ne (List.all_eq_true.1 hdf _ (List.mem_of_getElem? hoj'))) hFr.fn hFr.dp hFr.calls (fun {_ _ _} h1 h2 => Rely.Ext.trans h1 h2) ?_ next
            cases hgd' : s.guard with
            | none => rw [hgd'] at hopj; exact relyAt_fresh hD hoj' hopj
            | some db =>
              rw [hgd'] at hopj hb
              exact relyAt_fresh hD hoj' ((if_pos hb).mp hopj)
          · rw [if_neg hb]
            refine next undef W (Ext.refl W) ⟨?_, fun hjD => absurd (noguard hD hjD hoj' hg') (fun e => hb (by rw [e]; rfl))⟩
            cases hgd' : s.guard with
            | none => rw [hgd'] at hb; exact absurd rfl hb
            | some db =>
              rw [hgd'] at hopj hb
              exact (if_neg hb).mp hopj
end

theorem in_regionT {P : Program} {id : Nat} {Q : Exit → Act → World → Prop} {N : Nat} {L : Env} {w : World} {l : List Oper} (Rd : World → Prop) (S : List Src) (D U : List Nat) (hFr : Free Fe nf P) (hdf : (l.all noDefer) = true) (hD : allocsOk l D = true) (hm : P.follows .mixedOrders = true) (hok : okT l N S U = true) (hRd : ∀ W, Ext w W → Rd W)
    (h : ∀ F : List Kn → Prop, (∀ C, newsOf C 0 = D → (∀ W, Ext w W → fins w.heap.size (fun L W => TailEnv P Rd l N L (fun W' => Q .normal (actOf ds N L) W') (tailsOf l) W) l C [] L W) → F C) → stepsT P Rd w.drew w.heap.size N L U F l S []) :
    (Code.region id l.toArray true).wpIn Fe nf P Q (actOf ds N L) w := by
  have hok' := hok
  simp only [okT, Bool.and_eq_true] at hok'
  obtain ⟨⟨⟨⟨⟨hsrc, hdst⟩, hedge⟩, htail⟩, hst⟩, hUT⟩ := hok'
  obtain ⟨C, hlen, _, hF, hO⟩ := stepsT_found l S [] (srcs_len l S 0 hsrc) (h (fun C => newsOf C 0 = D ∧ ∀ W, Ext w W → fins w.heap.size (fun L W => TailEnv P Rd l N L (fun W' => Q .normal (actOf ds N L) W') (tailsOf l) W) l C [] L W) (fun C h1 h2 => ⟨h1, h2⟩))
  have hCl : C.length = l.length := by simpa using hlen
  refine wpIn_region_any hm ?_
  have hcount : l.toArray.size = left l.toArray (Array.replicate l.toArray.size false) := by
    unfold left
    have : ∀ m, m ≤ l.toArray.size → (List.range m).countP (fun i => !(Array.replicate l.toArray.size false).getD i true) = m := by
      intro m
      induction m with
      | zero => intro _; simp
      | succ m ih =>
        intro hm
        rw [List.range_succ, List.countP_append, ih (by omega), List.countP_singleton]
        have : (Array.replicate l.toArray.size false).getD m true = false := by simp at hm ⊢; simp [show m < l.length by omega]
        simp only [this, Bool.not_false, if_true]
    exact (this _ (Nat.le_refl _)).symm
  refine wpAnyIn_of_T (P := P) (Fe := Fe) (nf := nf) (w0 := w.drew) (base := w.heap.size) (N := N) (L := L) (S := S) (C := C) (U := U) (D := D) (Rd := Rd) hFr hdf hD (fun j hj => newsOf_get C C 0 (fun j => by rw [Nat.zero_add]) j (by rw [hF.1]; exact hj)) hok hCl (fun W hW => hRd W (Rely.Ext.trans (ext_drew w) hW)) (fun j o s hj hs => by simpa using hO j o s hj hs) (fun W hR => ?_) _ _ _ _ (fun i => match C[i]? with | some (.is c) => c | _ => undef) ⟨by simp, ?_, rfl, rfl, ?_, fun t _ => rfl, fun i c hc _ => by simp [hc]⟩ (.inl ⟨fun i _ => getD_replicate_false _ _, Ext.refl _, ?_, ?_⟩) hcount
  · have := hF.2 W (Rely.Ext.trans (ext_drew w) hR)
    have key := finP_fins (ds := ds) (Q := fun af W => TailRun P Rd l af (fun W' => Q .normal af W') (tailsOf l) W) (N := N) (base := w.heap.size) (W := W) (D := D) l C 0 [] L (fun i _ => by rw [hF.1]; simp)
    refine key ?_
    have mono : ∀ (os : List Oper) (C : List Kn) (acc : List Nat) (L : Env) (A B : Env → World → Prop), (∀ L W, A L W → B L W) → fins w.heap.size A os C acc L W → fins w.heap.size B os C acc L W := by
      intro os
      induction os with
      | nil => intro C acc L A B h hh; cases C <;> exact h _ _ hh
      | cons o os ih =>
        intro C acc L A B h hh
        cases C with
        | nil => exact h _ _ hh
        | cons k C =>
          cases k with
          | is c => exact ih C acc _ A B h hh
          | new cs T => exact fun g h1 h2 h3 => ih C _ _ A B h (hh g h1 h2 h3)
    exact mono l C [] L _ _ (fun L W h => tail_env _ _ h) this
  · intro j o ho hl
    rw [getD_replicate_false] at hl; cases hl
  · intro i o d hi; rw [getD_replicate_false] at hi; cases hi
  · intro i k _ hi; rw [getD_replicate_false] at hi; cases hi
  · intro i k _ _ hi; rw [getD_replicate_false] at hi; cases hi
end Go.Proofs.Ytaojnmjmmfdfjaa.Auto
