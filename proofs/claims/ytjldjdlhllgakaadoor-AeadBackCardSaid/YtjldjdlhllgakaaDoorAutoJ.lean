/- A walk by program: calls and conditions inside rounds; a range over a function of two values. -/
import Derived.Test.YtjldjdlhllgakaaDoorAutoH
import Derived.Sort.LoopGhostIn
namespace Go.Proofs.YtjldjdlhllgakaaDoor.Auto
open Go Go.RowKit
open Go.Proofs.YtjldjdlhllgakaaDoor.Rely Go.Proofs.YtjldjdlhllgakaaDoor.Own
set_option linter.unusedVariables false
set_option linter.unusedSimpArgs false
variable {ds : List Deferred} {Fe : Fence} {nf : Nat}
section
variable {P : Program} {ops : Array Oper} {Q : Exit → Act → World → Prop} {rest : List Oper} {o : Oper} {N : Nat} {L : Env} {w : World}
theorem in_skip (d : Nat) (hd : o.dst = some d) (hF : Free Fe nf P) (hnd : noDefer o = true) (hg : wantB ops o N L = some false) (k : WLI Fe nf P ops Q rest (actOf ds N ((d, undef) :: L)) w) : WLI Fe nf P ops Q (o :: rest) (actOf ds N L) w :=
  ⟨wpListIn_step fun K hK => by
    rw [if_neg (by rw [wanted_of hg]; decide), hd, put_actOf]
    exact ⟨fun f _ => hF.fn f, hK _ _ k.out⟩⟩
theorem in_call (v : Value) (f : FuncId) (args : Array Value) (d : Nat) (hd : o.dst = some d) (hF : Free Fe nf P) (hnd : noDefer o = true) (hg : wantB ops o N L = some true) (h : (execOp (Rely.look (envN N L)) o).run P w = .ok (.enter f args) w)
    (hc : Calls P f args w (Ret w v)) (k : ∀ W : World, Ext w W → WLI Fe nf P ops Q rest (actOf ds N ((d, v) :: L)) W) : WLI Fe nf P ops Q (o :: rest) (actOf ds N L) w :=
  in_op hF hnd hg fun K hK => by
    rw [h]
    refine ⟨hF.dp, (hF.calls hc).mono ?_⟩
    rintro e w' ⟨rfl, hw⟩
    show K _ _
    rw [hd, put_actOf]
    exact hK _ _ (k _ hw)
theorem in_callR (R : Value → World → Prop) (f : FuncId) (args : Array Value) (d : Nat) (hd : o.dst = some d) (hF : Free Fe nf P) (hnd : noDefer o = true) (hg : wantB ops o N L = some true) (h : (execOp (Rely.look (envN N L)) o).run P w = .ok (.enter f args) w)
    (hc : Calls P f args w fun e w' => ∃ v, e = .returned v ∧ R v w') (k : ∀ (v : Value) (W : World), R v W → WLI Fe nf P ops Q rest (actOf ds N ((d, v) :: L)) W) : WLI Fe nf P ops Q (o :: rest) (actOf ds N L) w :=
  in_op hF hnd hg fun K hK => by
    rw [h]
    refine ⟨hF.dp, (hF.calls hc).mono ?_⟩
    rintro e w' ⟨v, rfl, hw⟩
    show K _ _
    rw [hd, put_actOf]
    exact hK _ _ (k _ _ hw)
end
section
variable {P : Program} {Q : Exit → Act → World → Prop} {w : World} {N : Nat} {L : Env}
theorem in_cond_true {c : Operand} {x y : Code} (hc : Rely.look (envN N L) c = .bool true) (h : x.wpIn Fe nf P Q (actOf ds N L) w) : (Code.cond c x y).wpIn Fe nf P Q (actOf ds N L) w := wpIn_cond_true (by rw [eval_actOf]; exact hc) h
theorem in_cond_false {c : Operand} {x y : Code} (hc : Rely.look (envN N L) c = .bool false) (h : y.wpIn Fe nf P Q (actOf ds N L) w) : (Code.cond c x y).wpIn Fe nf P Q (actOf ds N L) w := wpIn_cond_false (by rw [eval_actOf]; exact hc) h
end
theorem round_frame2 (N : Nat) (L : Env) (p q : Nat) (v u : Value) : ({ tmps := (#[p, q].zip #[v, u]).foldl (fun t (p, v) => t.setIfInBounds p v) (actOf ds N L).tmps, defers := [] } : Act) = actOf [] N ((q, u) :: (p, v) :: L) := by
  rw [← put_actOf, ← put_actOf]
  simp [Act.put, actOf]
theorem range_autoJ {α : Type} {P : Program} {g : Operand} {p q : Tmp} {assign body : Code} {Q : Exit → Act → World → Prop} {N : Nat} {L : Env} {w : World}
    {gf : Nat} {lb : Array Value} (hg : Rely.look (envN N L) g = .func (.func gf) #[] lb) (eg : ∀ args w, (callFunc gf args).run P w = .ok (.enter gf args) w)
    {enc enc2 : α → Value} {Kp : World → World → Prop} {S Sp : List α → Prop} {M : Nat} {w0 : World} (hseq : SeqStopsK Fence.wide 2 P gf lb (fun x => #[enc x, enc2 x]) Kp S Sp M w0)
    (hKt : ∀ {A B C : World}, Kp A B → Kp B C → Kp A C) (hKb : ∀ (W : World) (l : Nat) (o o' : Obj), w.heap.size ≤ l → W.heap[l]? = some o → o.isCells = false → o.isWalk = false → Kp W (W.putObj l o')) (hb0 : Below w0.heap.size w0 w)
    (I : List α → World → Prop) (Ix : Code → List α → World → Prop) (hI : OwnFrom w.heap.size I) (hIx : ∀ c, OwnFrom w.heap.size (Ix c)) (h0 : I [] w)
    (hKe : ∀ {A B : World}, Ext A B → Kp A B) (hIe : ∀ pre {A B : World}, I pre A → Ext A B → I pre B) (hIs : ∀ pre W, I pre W → w.heap.size ≤ W.heap.size)
    (asg : α → Nat → Env) (cs : α → Array Value) (T : TypeId)
    (hassign : ∀ (l : Nat) (x : α) (W : World) (K : Act → World → Prop), (∀ g W', W.heap.size ≤ g → Ext W W' → W'.heap[g]? = some (.cells (cs x) T) → K (actOf [] N (asg x g ++ L)) W') → assign.wpIn (Fence.wide.inRound l) 1 P (Exit.then K (fun _ _ _ => False)) (actOf [] N ((q, enc2 x) :: (p, enc x) :: L)) W)
    (hbody : ∀ (l : Nat) (pre : List α) (x : α) (g : Nat) (W : World), w.heap.size ≤ g → I pre W → W.heap[g]? = some (.cells (cs x) T) → pre.length < M → body.wpIn (Fence.wide.inRound l) 1 P (ownPostK Kp I Ix (pre ++ [x]) W) (actOf [] N (asg x g ++ L)) W)
    (hdone : ∀ (D : Nat) (xs : List α) (W : World), w.heap.size ≤ D → S xs → I xs W → W.heap[D]? = some (.deferred (some [])) → Q .normal (actOf (mark D :: ds) N L) W)
    (hstop : ∀ (D : Nat) (c : Code) (pre : List α) (W : World), w.heap.size ≤ D → Sp pre → Ix c pre W → W.heap[D]? = some (.deferred (some [])) → c.wp P Q (actOf (mark D :: ds) N L) W) :
    (Code.rangeFunc g #[p, q] assign body).wp P Q (actOf ds N L) w := by
  refine (wpIn_wide (n := 3)).1 ?_
  refine wpIn_rangeFunc_ownH rfl (by omega) (by rw [eval_actOf]; exact hg) trivial eg (w0 := w0) hseq hKt hKb hb0 (fun _ => rfl) I Ix hI hIx h0
    (fun x a' W => ∃ g, a' = actOf [] N (asg x g ++ L) ∧ w.heap.size ≤ g ∧ W.heap[g]? = some (.cells (cs x) T)) ?_ (fun l pre x W K hi hK => ?_) ?_ ?_ ?_
  · rintro x a' _ X Y row ⟨g, e, hl, r⟩ hgr hr
    exact ⟨g, e, hl, row_kept r hgr (fun q e => (hr q e).2)⟩
  · rw [round_frame2]
    refine hassign l x W K fun g W' hg' e r => hK _ _ ((keeps_ext e).from _) (hKe e) (hIe pre hi e) ⟨g, rfl, Nat.le_trans (hIs pre W hi) hg', r⟩
  · rintro l pre x a' W _ _ hi ⟨g, rfl, hl, r⟩ hlen
    exact wpIn_mono (hbody l pre x g W hl hi r hlen) ownPostG_of_ownPostK
  · intro D xs W h1 h2 h3 h4
    exact hdone D xs W h1 h2 h3 h4
  · intro D c pre W h1 h2 h3 h4
    exact wpIn_wide.2 (hstop D c pre W h1 h2 h3 h4)

theorem loop_autoIn {α : Type} {P : Program} {body : Code} {Q : Exit → Act → World → Prop} {N : Nat} {L : Env} {w : World} (live : α → Env) (I : α → World → Prop) (μ : α → Nat) (s0 : α) (hL : Agree L (live s0)) (h0 : I s0 w)
    (round : ∀ (s : α) (X : Env) (W : World), I s W → body.wpIn Fe nf P (Exit.then (Goes ds N live I μ s) Q) (actOf ds N (live s ++ X)) W) : (Code.loop body).wpIn Fe nf P Q (actOf ds N L) w := by
  rw [← act_agree hL]
  refine Go.wpIn_loop_ghost (fun n a W => ∃ (s : α) (X : Env), a = actOf ds N (live s ++ X) ∧ I s W ∧ μ s = n) (μ s0) ⟨s0, L, rfl, h0, rfl⟩ ?_
  rintro n a W ⟨s, X, rfl, hI, rfl⟩
  refine wpIn_mono (round s X W hI) fun e a' w' h => ?_
  cases e <;> try exact h
  obtain ⟨s', X', h1, h2, h3⟩ := h
  exact ⟨μ s', h3, s', X', h1, h2, rfl⟩
theorem in_regionE {P : Program} {id : Nat} {Q : Exit → Act → World → Prop} {N : Nat} {L : Env} {w : World} {l : List Oper} (n : Nat) (S : List Src) (hFr : Free Fe nf P) (hdf : (l.all noDefer) = true) (hm : P.follows .mixedOrders = true) (hok : ok l n N S = true)
    (h : ∀ F : List KE → Prop, (∀ C, (∀ W, Ext w W → finE (fun L W => WLI Fe nf P l.toArray Q (l.drop n) (actOf ds N L) W) (l.take n) C L W) → F C) → stepsE P Ext w.drew N L F (l.take n) S []) :
    (Code.region id l.toArray true).wpIn Fe nf P Q (actOf ds N L) w :=
  in_regionX Ext Rely.Ext.refl Rely.Ext.trans n S hFr hdf hm hok fun F hF => h F fun C hC => hF C fun W hR => hC W (Rely.Ext.trans (ext_drew w) hR)
section
variable {P : Program} {ops : Array Oper} {Q : Exit → Act → World → Prop} {rest : List Oper} {o : Oper} {N : Nat} {L : Env} {W : World}
theorem in_appendN {k : IntKind} {T : TypeId} (b : Nat) (s x : Operand) (t : TypeId) (ho : o.op = .call { callee := .builtin .append, args := #[s, x], argTypes := #[t, t] })
    (ht : P.underlying t = some (.slice T)) (hi : (P.info? T).map (fun i => (i.zero, i.size, i.bytes)) = some (some (.int k 0), 1, b)) (hb8 : b ≤ 8) (d : Nat) (hd : o.dst = some d) (hF : Free Fe nf P) (hnd : noDefer o = true) (hg : wantB ops o N L = some true) {B : Nat} {v y : Value} {xs ys : List Int} {V : World}
    (hs : Rely.look (envN N L) s = v) (hx : Rely.look (envN N L) x = y)
    (h : OwnN k T V.heap.size xs v W) (hy : RdK k B ys y W) (hn : xs.length + ys.length ≤ 1000000000) (hV : Ext V W)
    (kk : ∀ (u : Value) (W' : World), OwnN k T V.heap.size (xs ++ ys) u W' → Ext V W' → Below V.heap.size W W' → WLI Fe nf P ops Q rest (actOf ds N ((d, u) :: L)) W') : WLI Fe nf P ops Q (o :: rest) (actOf ds N L) W := by
  obtain ⟨v', W', h1, h2, h3, h4⟩ := append_N (ρ := Rely.look (envN N L)) (o := o) (W := W) s x t ho ht hi hb8 hs hx h hy hn hV.size
  exact in_valw _ _ d hd hF hnd hg h1 (kk v' W' h2 (ext_own hV h h3) ⟨h3.os, h3.tape, h3.output, h3.size, fun i hi => h3.block i (Nat.lt_of_lt_of_le hi hV.size) (fun q => by have := h.ge q.symm; omega)⟩)
end
theorem goXj {K : Act → World → Prop} {Q : Exit → Act → World → Prop} {a : Act} {w : World} {n m : Nat} (h : n ≠ m) (k : Q (.exit n) a w) : Exit.inBlock m Q (.exit n) a w := by
  unfold Exit.inBlock
  simp [h]
  exact k
theorem keepCj {gs : List Nat} {A B : World} {g : Nat} (h : Puts A g B) (hm : g ∈ gs) : KeepC gs A B := ⟨Nat.le_of_eq h.2.2.2.1.symm, fun k cs t fr q n => (h.2.2.2.2 k (fun e => n (e ▸ hm))).trans q⟩
end Go.Proofs.YtjldjdlhllgakaaDoor.Auto
