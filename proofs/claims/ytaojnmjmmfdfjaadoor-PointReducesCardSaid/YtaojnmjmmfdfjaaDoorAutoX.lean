/- What the walker uses beyond the first base. -/
import Derived.Test.YtaojnmjmmfdfjaaDoorBase
namespace Go.Proofs.YtaojnmjmmfdfjaaDoor.Auto
open Go Go.RowKit
open Go.Proofs.YtaojnmjmmfdfjaaDoor.Rely
set_option linter.unusedVariables false

theorem run_loadC1 {P : Program} {ρ : Operand → Value} {o : Oper} {w : World} (ty : TypeId) (x : Operand) (g off : Nat) (t : TypeId) (cs : Array Value) (v : Value) (fr : Nat × Nat) (hg : w.heap[g]? = some (.cells cs t fr))
    (ho : o.op = .load ty x) (hx : ρ x = .pointer (some ⟨g, off, none⟩)) (hp : cs[off]? = some v) (hu : aggD P ty = some false) :
    (execOp ρ o).run P w = .ok (.value v) w := by
  unfold aggD at hu
  cases hd : P.underlying ty with
  | none => rw [hd] at hu; cases hu
  | some d =>
    rw [hd] at hu
    have hdd : aggB d = false := Option.some.inj hu
    have hc : w.cell? ⟨g, off, none⟩ = some v := (cell_of_row w g off cs t fr hg).trans hp
    have hagg : (isAgg ty).run P w = .ok false w := by
      unfold isAgg
      rw [Sem.run_bind, run_underlying hd w]
      cases d <;> first | rfl | cases hdd
    unfold execOp
    simp [ho, hx, Instr.loadAt, Instr.sureAddr, loadVar, hagg, hc]
theorem run_storeC1 {P : Program} {ρ : Operand → Value} {o : Oper} {w : World} (ty : TypeId) (x y : Operand) (g off : Nat) (t : TypeId) (old : Array Value) (v : Value) (hg : w.heap[g]? = some (.cells old t))
    (ho : o.op = .store ty x y) (hx : ρ x = .pointer (some ⟨g, off, none⟩)) (hy : ρ y = v) (hi : (P.info? ty).map (·.size) = some 1) (hs : Nat.blt off old.size = true) (h1 : v.oneCell' = true) (hcs : v.cells = #[v]) :
    (execOp ρ o).run P w = .ok .skip (w.setRow g (old.setIfInBounds off v)) := by
  have hlt : off < old.size := by simpa using hs
  have hcell : w.cell? ⟨g, off, none⟩ = some old[off] := by simp [World.cell?, hg, hlt]
  have hfro : w.frozen? ⟨g, off, none⟩ = false := by simp [World.frozen?, hg]
  cases hq : P.info? ty with
  | none => simp [hq] at hi
  | some i =>
    have hs' : i.size = 1 := by simpa [hq] using hi
    have hst : (store (⟨g, off, none⟩ : Addr) v).run P w = .ok () (w.setRow g (old.setIfInBounds off v)) := by
      rw [run_store P w _ v _ h1, hcell]
      simp [hfro, setCell_eq_setRow w g off old t (0, 0) v hg]
    have hadd : (⟨g, off, none⟩ : Addr).add 0 = ⟨g, off, none⟩ := by unfold Addr.add; split <;> simp_all
    unfold execOp
    simp [ho, hx, hy, Instr.storeAt, Instr.sureAddr, storeVar, sizeOf, typeInfo, hq, hs', hcs, storeCells, hadd, hst]
theorem run_storeI {P : Program} {ρ : Operand → Value} {o : Oper} {w : World} {k : IntKind} (ty : TypeId) (x y : Operand) (g off : Nat) (t : TypeId) (xs : List Int) (v : Int) (hg : w.heap[g]? = some (.cells (ints k xs) t))
    (ho : o.op = .store ty x y) (hx : ρ x = .pointer (some ⟨g, off, none⟩)) (hy : ρ y = .int k v) (hi : (P.info? ty).map (·.size) = some 1) (hs : off < xs.length) :
    (execOp ρ o).run P w = .ok .skip (w.setRow g (ints k (xs.set off v))) := by
  rw [← ints_set]
  exact run_storeC1 ty x y g off t _ _ hg ho hx hy hi (by rw [ints_size]; simpa using hs) rfl rfl
end Go.Proofs.YtaojnmjmmfdfjaaDoor.Auto
