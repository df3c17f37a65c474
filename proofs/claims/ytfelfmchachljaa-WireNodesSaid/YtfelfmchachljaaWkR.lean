/- Regions that draw, walked: values that hold in every later world, then what changes the world. -/
import Derived.Test.YtfelfmchachljaaNumK
import Derived.Test.YtfelfmchachljaaAutoH
namespace Go.Proofs.Ytfelfmchachljaa.Wk
open Go Go.RowKit
open Go.Proofs.Ytfelfmchachljaa.Rely Go.Proofs.Ytfelfmchachljaa.Auto Go.Proofs.Ytfelfmchachljaa.Own Go.Proofs.Ytfelfmchachljaa.Sha
set_option linter.unusedVariables false
set_option linter.unusedSimpArgs false

variable {P : Program} {ops : Array Oper} {Q : Exit → Act → World → Prop}
/-- all orders, each step ends in a world that Rd allows -/
def allR (P : Program) (ops : Array Oper) (Q : Exit → Act → World → Prop) (Rd : World → Prop) : Nat → Array Bool → Act → World → Prop
  | 0, listed, a, w => Region.ready .any ops listed = [] ∧ Q .normal a w
  | fuel + 1, listed, a, w => (Region.ready .any ops listed = [] → Q .normal a w) ∧ ∀ i ∈ Region.ready .any ops listed, wpOp P ops Q i (fun a' w' => Rd w' ∧ allR P ops Q Rd fuel (listed.setIfInBounds i true) a' w') a w
theorem allR_any {Rd : World → Prop} : ∀ (fuel : Nat) (listed : Array Bool) (a : Act) (w : World), allR P ops Q Rd fuel listed a w → wpAny P .any ops Q fuel listed a w
  | 0, _, _, _, h => h
  | _ + 1, _, _, _, h => ⟨h.1, fun i hi => wpOp_mono (fun a w h => allR_any _ _ a w h.2) (h.2 i hi)⟩
/-- an operation gives v in every world that Rd allows -/
def YieldsR (P : Program) (ops : Array Oper) (Rd : World → Prop) (o : Oper) (v : Value) (a : Act) : Prop :=
  (Region.wanted o (yielded ops a.tmps) = true ∧ ∀ w, Rd w → (execOp a.eval o).run P w = .ok (.value v) w) ∨ (Region.wanted o (yielded ops a.tmps) = false ∧ v = undef)
theorem YieldsR.wpOp {Rd : World → Prop} {i : Nat} {o : Oper} {v : Value} {a : Act} (hi : ops[i]? = some o) (hy : YieldsR P ops Rd o v a) {K : Act → World → Prop} {w : World} (hw : Rd w) (h : K (a.put o.dst v) w) : wpOp P ops Q i K a w := by
  unfold Go.wpOp
  simp only [hi]
  rcases hy with ⟨hw1, hv⟩ | ⟨hw1, rfl⟩
  · simp only [hw1, if_true, Oper.wp, hv w hw, Oper.upon]; exact .inl h
  · simp only [hw1, Bool.false_eq_true, if_false]; exact h
theorem YieldsR.same {Rd : World → Prop} {o : Oper} {v : Value} {a a' : Act} (hy : YieldsR P ops Rd o v a) (he : execOp a'.eval o = execOp a.eval o) (hw : Region.wanted o (yielded ops a'.tmps) = Region.wanted o (yielded ops a.tmps)) : YieldsR P ops Rd o v a' := by
  unfold YieldsR at *
  rw [he, hw]
  exact hy
theorem opR_put {Rd : World → Prop} {j : Nat} {oi oj : Oper} {v : Value} (hj : ops[j]? = some oj) (hap : oi.apart ops oj = true) (hsi : ∀ cs b, oi.op ≠ .select cs b) (hsj : ∀ cs b, oj.op ≠ .select cs b)
    (hQ : ∀ c a w, Q (.panic c) (a.put oi.dst v) w → Q (.panic c) a w) {K : Act → World → Prop} {a : Act} {w : World} (hy : YieldsR P ops Rd oi v a) (h : wpOp P ops Q j K (a.put oi.dst v) w) :
    wpOp P ops Q j (fun a' w' => YieldsR P ops Rd oi v a' ∧ K (a'.put oi.dst v) w') a w := by
  obtain ⟨h1, h2, h3⟩ := Oper.apart_spec hap
  have keep : ∀ (a : Act), YieldsR P ops Rd oi v a → ∀ u, YieldsR P ops Rd oi v (a.put oj.dst u) := fun a hy u => hy.same (execOp_put oi hsi a oj.dst u h3) (wanted_put oi a oj.dst u h3)
  have keepD : ∀ d, YieldsR P ops Rd oi v { a with defers := d :: a.defers } := fun d => hy.same rfl rfl
  unfold wpOp at *
  simp only [hj] at *
  rw [wanted_put oj a oi.dst v h1] at h
  split
  · rename_i hw
    simp only [hw, if_true] at h
    rcases h with h | ⟨hasks, hlets⟩
    case inr => exact .inr ⟨by unfold Oper.asks at *; rw [execOp_put oj hsj a oi.dst v h1] at hasks; exact hasks, hlets⟩
    refine .inl ?_
    unfold Oper.wp at *
    rw [execOp_put oj hsj a oi.dst v h1] at h
    generalize (execOp a.eval oj).run P w = r at *
    cases r with
    | ok n w' =>
      cases n <;> simp only [Oper.upon] at h ⊢
      case value u => exact ⟨keep a hy u, by rw [← Act.put_comm a v u h2]; exact h⟩
      case skip => exact ⟨keep a hy _, by rw [← Act.put_comm a v undef h2]; exact h⟩
      case defer d =>
        refine ⟨keep _ (keepD d) _, ?_⟩
        rw [← Act.put_comm _ v undef h2, ← Act.put_defers]
        exact h
      case enter f args =>
        refine Calls.mono h fun e w'' he => ?_
        cases e with
        | returned u => exact ⟨keep a hy u, by rw [← Act.put_comm a v u h2]; exact he⟩
        | panicked c => exact hQ _ _ _ he
        | outgrown => exact he
      case row row args => exact Rows.mono h fun u w'' he => ⟨keep a hy u, by rw [← Act.put_comm a v u h2]; exact he⟩
    | halt x w' =>
      cases x <;> simp only [Oper.upon] at h ⊢
      case panic u => exact hQ _ _ _ h
  · rename_i hw
    simp only [hw] at h
    exact ⟨keep a hy _, by rw [← Act.put_comm a v undef h2]; exact h⟩
theorem allR_first {Rd : World → Prop} {i : Nat} {oi : Oper} {v : Value} (hi : ops[i]? = some oi) (hsel : ∀ (j : Nat) (o : Oper) cs b, ops[j]? = some o → o.op ≠ .select cs b) (hQ : ∀ c a w, Q (.panic c) (a.put oi.dst v) w → Q (.panic c) a w) :
    ∀ (fuel : Nat) (listed : Array Bool) (a : Act) (w : World), Rd w →
      (∀ j oj, ops[j]? = some oj → j ≠ i → listed.getD j true = false → (∀ e ∈ oj.after, Region.binds .any e = true → e.on ≠ i) → oi.apart ops oj = true) →
      i ∈ Region.ready .any ops listed → YieldsR P ops Rd oi v a → allR P ops Q Rd fuel (listed.setIfInBounds i true) (a.put oi.dst v) w → allR P ops Q Rd (fuel + 1) listed a w := by
  intro fuel
  induction fuel with
  | zero =>
    intro listed a w hw _ hr hy H
    refine ⟨fun h => (by rw [h] at hr; cases hr), fun j hj => ?_⟩
    by_cases hji : j = i
    · subst hji; exact hy.wpOp hi hw ⟨hw, H⟩
    · have := ready_mono hj hji
      rw [H.1] at this
      cases this
  | succ fuel ih =>
    intro listed a w hw hfree hr hy H
    refine ⟨fun h => (by rw [h] at hr; cases hr), fun j hj => ?_⟩
    by_cases hji : j = i
    · subst hji; exact hy.wpOp hi hw ⟨hw, H⟩
    · have h1 := H.2 j (ready_mono hj hji)
      obtain ⟨hjun, oj, hoj, hall⟩ := mem_ready.1 hj
      have hnot : ∀ e ∈ oj.after, Region.binds .any e = true → e.on ≠ i := fun e he hb heq => by
        have h1 := hall e he hb
        have h0 := (mem_ready.1 hr).1
        rw [heq] at h1
        rcases Nat.lt_or_ge i listed.size with h' | h'
        · simp [h'] at h0 h1; rw [h0] at h1; cases h1
        · simp [Array.getElem?_eq_none h'] at h1
      have h2 := opR_put hoj (hfree j oj hoj hji hjun hnot) (fun cs b => hsel i oi cs b hi) (fun cs b => hsel j oj cs b hoj) hQ hy h1
      have hfree' : ∀ k ok, ops[k]? = some ok → k ≠ i → (listed.setIfInBounds j true).getD k true = false → (∀ e ∈ ok.after, Region.binds .any e = true → e.on ≠ i) → oi.apart ops ok = true := fun k ok hk hki hun hno => by
        refine hfree k ok hk hki ?_ hno
        by_cases hjk : j = k
        · subst hjk; exact hjun
        · rw [getD_set_ne true hjk] at hun; exact hun
      refine wpOp_mono (fun a' w' h3 => ⟨h3.2.1, ih (listed.setIfInBounds j true) a' w' h3.2.1 hfree' (ready_mono hr (Ne.symm hji)) h3.1 ?_⟩) h2
      rw [Array.setIfInBounds_comm _ _ hji]
      exact h3.2.2
/-- what is left of a region that draws: its worlds are Rd -/
structure WB (P : Program) (ops : Array Oper) (Q : Exit → Act → World → Prop) (Rd : World → Prop) (fuel : Nat) (listed : Array Bool) (a : Act) (w : World) : Prop where
  out : Rd w → allR P ops Q Rd fuel listed a w
/-- operation k is taken next -/
structure WO (P : Program) (ops : Array Oper) (Q : Exit → Act → World → Prop) (Rd : World → Prop) (k fuel : Nat) (listed : Array Bool) (a : Act) (w : World) : Prop where
  out : wpOp P ops Q k (fun a' w' => Rd w' ∧ allR P ops Q Rd fuel (listed.setIfInBounds k true) a' w') a w
variable {o : Oper} {N : Nat} {L : Env} {w V : World} {ds : List Deferred} {fuel : Nat} {listed : Array Bool} {k : Nat} {a : Act} {Rd : World → Prop}
theorem region_walkB {id : Nat} {l : List Oper} (hm : P.follows .mixedOrders = true) (h : ∀ W, Ext w W → WB P l.toArray Q (Ext W) l.length (Array.replicate l.length false) (actOf ds N L) W) : (Code.region id l.toArray true).wp P Q (actOf ds N L) w := by
  refine wp_region_any hm ?_
  have := allR_any _ _ _ _ ((h w.drew (ext_drew w)).out (Ext.refl _))
  simpa using this
theorem region_walkG {id : Nat} {l : List Oper} (Rd : World → Prop) (hm : P.follows .mixedOrders = true) (h : ∀ W, Ext w W → Rd W ∧ WB P l.toArray Q Rd l.length (Array.replicate l.length false) (actOf ds N L) W) : (Code.region id l.toArray true).wp P Q (actOf ds N L) w := by
  refine wp_region_any hm ?_
  obtain ⟨h1, h2⟩ := h w.drew (ext_drew w)
  have := allR_any _ _ _ _ (h2.out h1)
  simpa using this
theorem wb_val (k : Nat) (v : Value) (d : Nat) (ho : ops[k]? = some o) (hd : o.dst = some d) (hg : wantB ops o N L = some true) (hc : (Region.noSelect ops && Region.free .any ops listed k && (Region.ready .any ops listed).contains k) = true)
    (hQ : ∀ c a w, Q (.panic c) (a.put o.dst v) w → Q (.panic c) a w) (h : ∀ W, Rd W → (execOp (Rely.look (envN N L)) o).run P W = .ok (.value v) W) (kk : WB P ops Q Rd fuel (listed.setIfInBounds k true) (actOf ds N ((d, v) :: L)) w) : WB P ops Q Rd (fuel + 1) listed (actOf ds N L) w := by
  simp only [Bool.and_eq_true] at hc
  refine ⟨fun hw => allR_first ho (Region.noSelect_spec hc.1.1) hQ fuel listed _ w hw (Region.free_spec ho hc.1.2) (by simpa using hc.2) (.inl ⟨wanted_of hg, fun W hW => ?_⟩) ?_⟩
  · rw [eval_actOf]; exact h W hW
  · rw [hd, put_actOf]; exact kk.out hw
theorem wb_skip (k : Nat) (d : Nat) (ho : ops[k]? = some o) (hd : o.dst = some d) (hg : wantB ops o N L = some false) (hc : (Region.noSelect ops && Region.free .any ops listed k && (Region.ready .any ops listed).contains k) = true)
    (hQ : ∀ c a w, Q (.panic c) (a.put o.dst undef) w → Q (.panic c) a w) (kk : WB P ops Q Rd fuel (listed.setIfInBounds k true) (actOf ds N ((d, undef) :: L)) w) : WB P ops Q Rd (fuel + 1) listed (actOf ds N L) w := by
  simp only [Bool.and_eq_true] at hc
  refine ⟨fun hw => allR_first ho (Region.noSelect_spec hc.1.1) hQ fuel listed _ w hw (Region.free_spec ho hc.1.2) (by simpa using hc.2) (.inr ⟨wanted_of hg, rfl⟩) ?_⟩
  rw [hd, put_actOf]; exact kk.out hw
theorem wb_one (k : Nat) (hr : Region.ready .any ops listed = [k]) (h : WO P ops Q Rd k fuel listed a w) : WB P ops Q Rd (fuel + 1) listed a w :=
  ⟨fun _ => ⟨fun h0 => (by rw [hr] at h0; cases h0), fun i hi => by rw [hr] at hi; obtain rfl : i = k := by simpa using hi
                                                                    exact h.out⟩⟩
theorem wb_two (k l : Nat) (hr : Region.ready .any ops listed = [k, l]) (h1 : WO P ops Q Rd k fuel listed a w) (h2 : WO P ops Q Rd l fuel listed a w) : WB P ops Q Rd (fuel + 1) listed a w :=
  ⟨fun _ => ⟨fun h0 => (by rw [hr] at h0; cases h0), fun i hi => by
    rw [hr] at hi
    rcases (by simpa using hi : i = k ∨ i = l) with rfl | rfl
    · exact h1.out
    · exact h2.out⟩⟩
theorem wo_callR (ho : ops[k]? = some o) (R : Value → World → Prop) (f : FuncId) (args : Array Value) (d : Nat) (hd : o.dst = some d) (hg : wantB ops o N L = some true)
    (h : (execOp (Rely.look (envN N L)) o).run P w = .ok (.enter f args) w) (hc : Calls P f args w fun e w' => ∃ v, e = .returned v ∧ R v w') (hR : ∀ v W, R v W → Rd W) (kk : ∀ (v : Value) (W : World), R v W → WB P ops Q Rd fuel (listed.setIfInBounds k true) (actOf ds N ((d, v) :: L)) W) : WO P ops Q Rd k fuel listed (actOf ds N L) w := by
  refine ⟨?_⟩
  unfold wpOp
  rw [ho]
  simp only [wanted_of hg, if_true]
  refine .inl ?_
  unfold Oper.wp
  rw [eval_actOf, h]
  refine hc.mono ?_
  rintro e w' ⟨v, rfl, hw⟩
  show _ ∧ allR _ _ _ _ _ _ _ _
  rw [hd, put_actOf]
  exact ⟨hR v w' hw, (kk v w' hw).out (hR v w' hw)⟩
theorem wo_run (ho : ops[k]? = some o) (R : Value → World → Prop) (d : Nat) (hd : o.dst = some d) (hg : wantB ops o N L = some true) (h : ∃ v W, (execOp (Rely.look (envN N L)) o).run P w = .ok (.value v) W ∧ R v W) (hR : ∀ v W, R v W → Rd W)
    (kk : ∀ (v : Value) (W : World), R v W → WB P ops Q Rd fuel (listed.setIfInBounds k true) (actOf ds N ((d, v) :: L)) W) : WO P ops Q Rd k fuel listed (actOf ds N L) w := by
  obtain ⟨v, W, h1, h2⟩ := h
  refine ⟨?_⟩
  unfold wpOp
  rw [ho]
  simp only [wanted_of hg, if_true]
  refine .inl ?_
  unfold Oper.wp
  rw [eval_actOf, h1]
  show _ ∧ allR _ _ _ _ _ _ _ _
  rw [hd, put_actOf]
  exact ⟨hR v W h2, (kk v W h2).out (hR v W h2)⟩
theorem wo_appendN {k : IntKind} {T : TypeId} (b : Nat) (s x : Operand) (t : TypeId) (ho2 : o.op = .call { callee := .builtin .append, args := #[s, x], argTypes := #[t, t] })
    (ht : P.underlying t = some (.slice T)) (hi : (P.info? T).map (fun i => (i.zero, i.size, i.bytes)) = some (some (.int k 0), 1, b)) (hb8 : b ≤ 8) (d : Nat) (hd : o.dst = some d) (j : Nat) (ho : ops[j]? = some o) (hg : wantB ops o N L = some true) {B : Nat} {v y : Value} {xs ys : List Int}
    (hs : Rely.look (envN N L) s = v) (hx : Rely.look (envN N L) x = y)
    (h : OwnN k T V.heap.size xs v w) (hy : RdK k B ys y w) (hn : xs.length + ys.length ≤ 1000000000) (hV : Ext V w)
    (kk : ∀ (u : Value) (W' : World), OwnN k T V.heap.size (xs ++ ys) u W' → Ext V W' → Below V.heap.size w W' → WB P ops Q (Ext V) fuel (listed.setIfInBounds j true) (actOf ds N ((d, u) :: L)) W') : WO P ops Q (Ext V) j fuel listed (actOf ds N L) w := by
  obtain ⟨v', W', h1, h2, h3, h4⟩ := append_N (ρ := Rely.look (envN N L)) (o := o) (W := w) s x t ho2 ht hi hb8 hs hx h hy hn hV.size
  exact wo_run ho (fun u W' => OwnN k T V.heap.size (xs ++ ys) u W' ∧ Ext V W' ∧ Below V.heap.size w W') d hd hg ⟨v', W', h1, h2, ext_own hV h h3, ⟨h3.os, h3.tape, h3.output, h3.size, fun i hi => h3.block i (Nat.lt_of_lt_of_le hi hV.size) (fun q => by have := h.ge q.symm; omega)⟩⟩ (fun _ _ h => h.2.1) fun u W' h => kk u W' h.1 h.2.1 h.2.2
/-- an operation gives something of which φ is known, and older blocks stay -/
def Ef (P : Program) (o : Oper) (ρ : Operand → Value) (W : World) (φ : Value → World → Prop) : Prop :=
  (∃ v W', (execOp ρ o).run P W = .ok (.value v) W' ∧ Ext W W' ∧ φ v W') ∨ ∃ f args, (execOp ρ o).run P W = .ok (.enter f args) W ∧ Calls P f args W fun e W' => ∃ v, e = .returned v ∧ Ext W W' ∧ φ v W'
theorem ef_wp {φ : Value → World → Prop} {K : Act → World → Prop} {d : Nat} (ho : ops[k]? = some o) (hd : o.dst = some d) (hg : Region.wanted o (yielded ops a.tmps) = true) (h : Ef P o a.eval w φ) (hK : ∀ v W, Ext w W → φ v W → K (a.put (some d) v) W) : wpOp P ops Q k K a w := by
  unfold wpOp
  rw [ho]
  simp only [hg, if_true]
  refine .inl ?_
  unfold Oper.wp
  rcases h with ⟨v, W, h1, h2, h3⟩ | ⟨f, args, h1, h2⟩
  · rw [h1]
    show K _ _
    rw [hd]; exact hK v W h2 h3
  · rw [h1]
    refine h2.mono ?_
    rintro e w' ⟨v, rfl, h3, h4⟩
    show K _ _
    rw [hd]; exact hK v w' h3 h4
theorem Ef.put {φ : Value → World → Prop} {d : Nat} {v : Value} (h : Ef P o a.eval w φ) (hs : ∀ cs b, o.op ≠ .select cs b) (hd : ∀ e, some d = some e → e ∉ o.looksAt ops) : Ef P o (a.put (some d) v).eval w φ := by
  unfold Ef
  rw [execOp_put (ops := ops) o hs a (some d) v hd]
  exact h
theorem wb_pair (k l : Nat) {o1 o2 : Oper} (ho1 : ops[k]? = some o1) (ho2 : ops[l]? = some o2) (hne : k ≠ l) (hr : Region.ready .any ops listed = [k, l]) (hr1 : Region.ready .any ops (listed.setIfInBounds k true) = [l]) (hr2 : Region.ready .any ops (listed.setIfInBounds l true) = [k])
    (hap : (o1.apart ops o2 && o2.apart ops o1 && Region.noSelect ops) = true) (d1 d2 : Nat) (hd1 : o1.dst = some d1) (hd2 : o2.dst = some d2) (hg1 : wantB ops o1 N L = some true) (hg2 : wantB ops o2 N L = some true)
    (φ1 φ2 : Value → World → Prop) (st1 : ∀ v W W', Ext W W' → φ1 v W → φ1 v W') (st2 : ∀ v W W', Ext W W' → φ2 v W → φ2 v W') (h1 : ∀ W, Ext V W → Ef P o1 (Rely.look (envN N L)) W φ1) (h2 : ∀ W, Ext V W → Ef P o2 (Rely.look (envN N L)) W φ2)
    (kk : ∀ (v1 v2 : Value) (W : World), φ1 v1 W → φ2 v2 W → Ext w W → WB P ops Q (Ext V) fuel ((listed.setIfInBounds k true).setIfInBounds l true) (actOf ds N ((d2, v2) :: (d1, v1) :: L)) W) : WB P ops Q (Ext V) (fuel + 2) listed (actOf ds N L) w := by
  simp only [Bool.and_eq_true] at hap
  obtain ⟨⟨ha1, ha2⟩, hsl⟩ := hap
  obtain ⟨p1, p2, p3⟩ := Oper.apart_spec ha1
  have hs1 := fun cs b => Region.noSelect_spec hsl k o1 cs b ho1
  have hs2 := fun cs b => Region.noSelect_spec hsl l o2 cs b ho2
  rw [hd1, hd2] at p2
  rw [hd1] at p1
  rw [hd2] at p3
  refine ⟨fun hw => ⟨fun h0 => (by rw [hr] at h0; cases h0), fun i hi => ?_⟩⟩
  rw [hr] at hi
  rcases (by simpa using hi : i = k ∨ i = l) with rfl | rfl
  · refine ef_wp ho1 hd1 (wanted_of hg1) (by rw [eval_actOf]; exact h1 w hw) fun v1 W1 e1 q1 => ⟨Rely.Ext.trans hw e1, fun h0 => (by rw [hr1] at h0; cases h0), fun j hj => ?_⟩
    rw [hr1] at hj
    obtain rfl : j = l := by simpa using hj
    refine ef_wp ho2 hd2 ?_ (Ef.put (ops := ops) (by rw [eval_actOf]; exact h2 W1 (Rely.Ext.trans hw e1)) hs2 p1) fun v2 W2 e2 q2 => ⟨Rely.Ext.trans (Rely.Ext.trans hw e1) e2, ?_⟩
    · rw [wanted_put o2 _ (some d1) v1 p1]; exact wanted_of hg2
    · rw [put_actOf, put_actOf]
      exact (kk v1 v2 W2 (st1 _ _ _ e2 q1) q2 (Rely.Ext.trans e1 e2)).out (Rely.Ext.trans (Rely.Ext.trans hw e1) e2)
  · refine ef_wp ho2 hd2 (wanted_of hg2) (by rw [eval_actOf]; exact h2 w hw) fun v2 W1 e1 q2 => ⟨Rely.Ext.trans hw e1, fun h0 => (by rw [hr2] at h0; cases h0), fun j hj => ?_⟩
    rw [hr2] at hj
    obtain rfl : j = k := by simpa using hj
    refine ef_wp ho1 hd1 ?_ (Ef.put (ops := ops) (by rw [eval_actOf]; exact h1 W1 (Rely.Ext.trans hw e1)) hs1 p3) fun v1 W2 e2 q1 => ⟨Rely.Ext.trans (Rely.Ext.trans hw e1) e2, ?_⟩
    · rw [wanted_put o1 _ (some d2) v2 p3]; exact wanted_of hg1
    · rw [← Act.put_comm _ v1 v2 p2, put_actOf, put_actOf, ← Array.setIfInBounds_comm _ _ hne]
      exact (kk v1 v2 W2 q1 (st2 _ _ _ e2 q2) (Rely.Ext.trans e1 e2)).out (Rely.Ext.trans (Rely.Ext.trans hw e1) e2)
theorem wb_nil (hr : Region.ready .any ops listed = []) (h : Q .normal (actOf ds N L) w) : WB P ops Q Rd fuel listed (actOf ds N L) w :=
  ⟨fun _ => by cases fuel with
    | zero => exact ⟨hr, h⟩
    | succ n => exact ⟨fun _ => h, by rw [hr]; simp⟩⟩

end Go.Proofs.Ytfelfmchachljaa.Wk
