/- A walk by program: returns behind a range over a function. -/
import Derived.Test.YticjghmgbmjkiaaDoorAutoJ
namespace Go.Proofs.YticjghmgbmjkiaaDoor.Auto
open Go Go.RowKit
open Go.Proofs.YticjghmgbmjkiaaDoor.Rely
set_option linter.unusedVariables false
theorem res_cell1 {P : Program} {w : World} {N : Nat} {L : Env} {a : Tmp} {ty : TypeId} (g : Nat) (t : TypeId) (cs : Array Value) (v : Value) (hg : w.heap[g]? = some (.cells cs t)) (ha : envN N L a = .pointer (some ⟨g, 0, none⟩)) (hu : aggD P ty = some false) (hp : cs[0]? = some v) :
    ResIs P w N L (.cell a ty) v := by
  refine ⟨_, ha, ?_⟩
  unfold aggD at hu
  cases hd : P.underlying ty with
  | none => rw [hd] at hu; cases hu
  | some d =>
    rw [hd] at hu
    have hdd : aggB d = false := Option.some.inj hu
    have hc : w.cell? ⟨g, 0, none⟩ = some v := (cell_of_row w g 0 cs t _ hg).trans hp
    have hagg : (isAgg ty).run P w = .ok false w := by
      unfold isAgg
      rw [Sem.run_bind, run_underlying hd w]
      cases d <;> first | rfl | cases hdd
    simp [loadVar, Sem.run_bind, hagg, hc]
theorem ne_mark {W : World} {g D : Nat} {cs : Array Value} {t : TypeId} {b : Option (List Deferred)} (h : W.heap[g]? = some (.cells cs t)) (hD : W.heap[D]? = some (.deferred b)) : D ≠ g := fun e => by
  subst e
  rw [h] at hD
  cases hD
section
variable {P : Program} {fn : Func} {R : Ending → World → Prop} {N : Nat} {L : Env} {w : World}
theorem retM0 {r : ResultVar} (v : Value) (hr : fn.results = #[r]) (h : ResIs P w N L r v) (k : R (.returned v) w) : bodyPostM Fence.wide 3 P fn R .ret (actOf [] N L) w := ⟨_, run_results1 hr h, k⟩
theorem retM1 {D : Nat} {r : ResultVar} (v : Value) (hr : fn.results = #[r]) (hD : w.heap[D]? = some (.deferred (some []))) (h : ResIs P (w.putObj D (.deferred none)) N L r v) (k : R (.returned v) (w.putObj D (.deferred none))) : bodyPostM Fence.wide 3 P fn R .ret (actOf [mark D] N L) w :=
  ⟨by simp, .inl ⟨_, _, rfl, run_takeDeferred hD, ⟨_, run_results1 hr h, k⟩⟩⟩
end
end Go.Proofs.YticjghmgbmjkiaaDoor.Auto
