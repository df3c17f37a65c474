/- A walk by program: ranges over functions. -/
import Derived.Test.YtaojnmjmmfdfjaaAutoIn
namespace Go.Proofs.Ytaojnmjmmfdfjaa.Auto
open Go Go.RowKit
open Go.Proofs.Ytaojnmjmmfdfjaa.Rely
set_option linter.unusedVariables false
variable {ds : List Deferred}

theorem enterM {P : Program} {f : FuncId} {fn : Func} {c : Code} {args : Array Value} {w : World} {R : Ending → World → Prop} (N : Nat) (L : Env)
    (hf : P.funcs[f]? = some fn) (hb : fn.body = some c) (hn : fn.ntmps = N) (hs : Nat.ble args.size N = true) (hL : argsEnv args.toList 0 = L)
    (h : c.wp P (bodyPostM Fence.wide 3 P fn R) (actOf [] N L) w) : Calls P f args w R := by
  subst hn
  subst hL
  refine (callsIn_wide (n := 3)).1 (callsIn_of_wp_marks hf hb trivial (wpIn_wide.2 ?_) rfl)
  rw [entry _ _ (by simpa using hs)]
  exact h
abbrev mark (D : Nat) : Deferred := { target := .collected D, args := #[] }
theorem round_frame (N : Nat) (L : Env) (p : Nat) (v : Value) : ({ tmps := (#[p].zip #[v]).foldl (fun t (p, v) => t.setIfInBounds p v) (actOf ds N L).tmps, defers := [] } : Act) = actOf [] N ((p, v) :: L) := by
  rw [← put_actOf]
  simp [Act.put, actOf]
theorem range_auto {α : Type} {P : Program} {g : Operand} {p : Tmp} {assign body : Code} {Q : Exit → Act → World → Prop} {N : Nat} {L : Env} {w : World}
    {gf : Nat} {lb : Array Value} (hg : Rely.look (envN N L) g = .func (.func gf) #[] lb) (eg : ∀ args w, (callFunc gf args).run P w = .ok (.enter gf args) w)
    {enc : α → Value} {Kp : World → World → Prop} {S Sp : List α → Prop} {M : Nat} {w0 : World} (hseq : SeqStopsK Fence.wide 2 P gf lb (fun x => #[enc x]) Kp S Sp M w0)
    (hKt : ∀ {A B C : World}, Kp A B → Kp B C → Kp A C) (hKb : ∀ (W : World) (l : Nat) (o o' : Obj), w.heap.size ≤ l → W.heap[l]? = some o → o.isCells = false → o.isWalk = false → Kp W (W.putObj l o')) (hb0 : Below w0.heap.size w0 w)
    (I : List α → World → Prop) (Ix : Code → List α → World → Prop) (hI : OwnFrom w.heap.size I) (hIx : ∀ c, OwnFrom w.heap.size (Ix c)) (h0 : I [] w) (asg : α → Env)
    (hassign : ∀ (l : Nat) (x : α) (W : World) (K : Act → World → Prop), K (actOf [] N (asg x ++ L)) W → assign.wpIn (Fence.wide.inRound l) 1 P (Exit.then K (fun _ _ _ => False)) (actOf [] N ((p, enc x) :: L)) W)
    (hbody : ∀ (l : Nat) (pre : List α) (x : α) (W : World), I pre W → pre.length < M → body.wpIn (Fence.wide.inRound l) 1 P (ownPostK Kp I Ix (pre ++ [x]) W) (actOf [] N (asg x ++ L)) W)
    (hdone : ∀ (D : Nat) (xs : List α) (W : World), w.heap.size ≤ D → S xs → I xs W → W.heap[D]? = some (.deferred (some [])) → Q .normal (actOf (mark D :: ds) N L) W)
    (hstop : ∀ (D : Nat) (c : Code) (pre : List α) (W : World), w.heap.size ≤ D → Sp pre → Ix c pre W → W.heap[D]? = some (.deferred (some [])) → c.wp P Q (actOf (mark D :: ds) N L) W) :
    (Code.rangeFunc g #[p] assign body).wp P Q (actOf ds N L) w := by
  refine (wpIn_wide (n := 3)).1 ?_
  refine wpIn_rangeFunc_ownF rfl (by omega) (by rw [eval_actOf]; exact hg) trivial eg (w0 := w0) hseq hKt hKb hb0 (fun _ => rfl) I Ix hI hIx h0 (fun x => actOf [] N (asg x ++ L)) (fun l x W K hK => ?_) hbody ?_ ?_
  · rw [round_frame]
    exact hassign l x W K hK
  · intro D xs W h1 h2 h3 h4
    exact hdone D xs W h1 h2 h3 h4
  · intro D c pre W h1 h2 h3 h4
    exact wpIn_wide.2 (hstop D c pre W h1 h2 h3 h4)

/-! ### The book of the loop -/
theorem ne_mark {W : World} {g D : Nat} {cs : Array Value} {t : TypeId} {b : Option (List Deferred)} (h : W.heap[g]? = some (.cells cs t)) (hD : W.heap[D]? = some (.deferred b)) : D ≠ g := fun e => by
  subst e
  rw [h] at hD
  cases hD
theorem putD_row {W : World} {g D : Nat} {cs : Array Value} {t : TypeId} {b : Option (List Deferred)} (h : W.heap[g]? = some (.cells cs t)) (hD : W.heap[D]? = some (.deferred b)) (o : Obj) : (W.putObj D o).heap[g]? = some (.cells cs t) :=
  row_kept h (grownBy_putObj' W D o) (fun r e => by cases e; exact ⟨_, hD, rfl⟩)
theorem putD_ext {w W : World} {D : Nat} {ob : Obj} (h : Ext w W) (hl : w.heap.size ≤ D) (hD : W.heap[D]? = some ob) (o : Obj) : Ext w (W.putObj D o) :=
  ⟨h.os, h.tape, h.output, by have := h.size; simpa using this, fun k hk => (World.putObj_heap_other (fun e => by omega)).trans (h.block k hk)⟩
theorem keeps_puts {W W' : World} {g : Nat} {cs : Array Value} {t : TypeId} (hp : Puts W g W') (hg : W.heap[g]? = some (.cells cs t)) : KeepsOthers W W' :=
  ⟨Nat.le_of_eq hp.2.2.2.1.symm, fun k o hk ho => by
    refine (hp.2.2.2.2 k fun e => ?_).trans hk
    subst e
    rw [hg] at hk
    cases hk
    cases ho⟩
section
variable {P : Program} {fn : Func} {R : Ending → World → Prop} {N : Nat} {L : Env} {w : World}
theorem retM0 {r : ResultVar} (v : Value) (hr : fn.results = #[r]) (h : ResIs P w N L r v) (k : R (.returned v) w) : bodyPostM Fence.wide 3 P fn R .ret (actOf [] N L) w := ⟨_, run_results1 hr h, k⟩
theorem retM1 {D : Nat} {r : ResultVar} (v : Value) (hr : fn.results = #[r]) (hD : w.heap[D]? = some (.deferred (some []))) (h : ResIs P (w.putObj D (.deferred none)) N L r v) (k : R (.returned v) (w.putObj D (.deferred none))) : bodyPostM Fence.wide 3 P fn R .ret (actOf [mark D] N L) w :=
  ⟨by simp, .inl ⟨_, _, rfl, run_takeDeferred hD, ⟨_, run_results1 hr h, k⟩⟩⟩
theorem retM2 {D : Nat} {r s : ResultVar} (u v : Value) (hr : fn.results = #[r, s]) (hD : w.heap[D]? = some (.deferred (some []))) (h : ResIs P (w.putObj D (.deferred none)) N L r u) (h2 : ResIs P (w.putObj D (.deferred none)) N L s v) (k : R (.returned (.tuple #[u, v])) (w.putObj D (.deferred none))) : bodyPostM Fence.wide 3 P fn R .ret (actOf [mark D] N L) w :=
  ⟨by simp, .inl ⟨_, _, rfl, run_takeDeferred hD, ⟨_, run_results2 hr h h2, k⟩⟩⟩
end
end Go.Proofs.Ytaojnmjmmfdfjaa.Auto
