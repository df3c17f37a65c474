/- A walk by program: slices, and loops that are unrolled. -/
import Derived.Test.YtfelfmchachljaaBaseN
import Derived.Laws.MakeOwn
import Derived.LoopN
import Derived.Great.BuildSlice
namespace Go.Proofs.Ytfelfmchachljaa.Auto
open Go Go.RowKit
open Go.Proofs.Ytfelfmchachljaa.Rely
set_option linter.unusedVariables false
variable {ds : List Deferred}

theorem made_ints (k : IntKind) (n : Nat) : madeCells (Value.int k 0).cells (n * 1) = ints k (List.replicate n 0) := by
  unfold madeCells ints
  apply Array.ext
  · simp
  · intro i h1 h2
    simp [Value.cells, Nat.mod_one]
theorem run_makeI {P : Program} {ρ : Operand → Value} {o : Oper} {w : World} {k : IntKind} (t : TypeId) (x y : Operand) (kl kc : IntKind) (n : Nat) (e : TypeId) (ho : o.op = .makeSlice t x y) (hx : ρ x = .int kl n) (hy : ρ y = .int kc n)
    (hu : P.underlying t = some (.slice e)) (hi : (P.info? e).map (fun i => (i.zero, i.size, i.bytes)) = some (some (.int k 0), 1, 8) ∨ (P.info? e).map (fun i => (i.zero, i.size, i.bytes)) = some (some (.int k 0), 1, 1)) (hn : n ≤ 16777216) :
    (execOp ρ o).run P w = .ok (.value (.slice (some ⟨w.heap.size, 0, none⟩) n n)) (w.alloc (.cells (ints k (List.replicate n 0)) e)) := by
  cases hq : P.info? e with
  | none => rcases hi with hi | hi <;> simp [hq] at hi
  | some i =>
    have hz : i.zero = some (.int k 0) ∧ i.size = 1 ∧ i.bytes ≤ 8 := by
      rcases hi with hi | hi <;> simp [hq] at hi <;> exact ⟨hi.1, hi.2.1, by omega⟩
    have hb : (i.bytes : Int) * (n : Int) ≤ 281474976710656 := by
      have h1 : (i.bytes : Int) * (n : Int) ≤ 8 * (n : Int) := Int.mul_le_mul_of_nonneg_right (by omega) (by omega)
      omega
    have h := run_make w t e i (.int k 0) hu hq hz.1 kl kc (n : Int) (n : Int) (by omega) (by omega) hb (by omega)
    rw [hz.2.1, Int.toNat_natCast, made_ints] at h
    unfold execOp
    simp only [ho, hx, hy, Sem.run_bind, Sem.run_pure, h, Result.andThen_ok]
theorem run_indexS {P : Program} {ρ : Operand → Value} {o : Oper} {w : World} (t : TypeId) (x y : Operand) (k : IntKind) (n g off len cap : Nat) (e : TypeId) (ho : o.op = .indexAddr t x y) (hx : ρ x = .slice (some ⟨g, off, none⟩) len cap) (hy : ρ y = .int k n)
    (hu : P.underlying t = some (.slice e)) (hs : (P.info? e).map (·.size) = some 1) (hn : n < len) : (execOp ρ o).run P w = .ok (.value (.pointer (some ⟨g, off + n, none⟩))) w := by
  cases hq : P.info? e with
  | none => simp [hq] at hs
  | some i =>
    have hs' : i.size = 1 := by simpa [hq] using hs
    have hadd : (⟨g, off, none⟩ : Addr).add n = ⟨g, off + n, none⟩ := by unfold Addr.add; split <;> simp_all
    have h0 : (0 : Int) ≤ (n : Int) := by omega
    have h1 : (n : Int) < (len : Int) := by omega
    unfold execOp
    simp only [ho, hx, hy]
    simp [Instr.indexAt, asIntOf, run_underlying hu, sizeOf, typeInfo, hq, hs', h0, hn, hadd]
theorem run_indexS0 {P : Program} {ρ : Operand → Value} {o : Oper} {w : World} (t : TypeId) (x y : Operand) (k : IntKind) (n g len cap : Nat) (e : TypeId) (ho : o.op = .indexAddr t x y) (hx : ρ x = .slice (some ⟨g, 0, none⟩) len cap) (hy : ρ y = .int k n)
    (hu : P.underlying t = some (.slice e)) (hs : (P.info? e).map (·.size) = some 1) (hn : n < len) : (execOp ρ o).run P w = .ok (.value (.pointer (some ⟨g, n, none⟩))) w := by
  have := run_indexS (w := w) t x y k n g 0 len cap e ho hx hy hu hs hn
  rwa [Nat.zero_add] at this
theorem run_loadCell {P : Program} {ρ : Operand → Value} {o : Oper} {w : World} (ty : TypeId) (x : Operand) (a : Addr) (v : Value) (hc : w.cell? a = some v)
    (ho : o.op = .load ty x) (hx : ρ x = .pointer (some a)) (hu : aggD P ty = some false) : (execOp ρ o).run P w = .ok (.value v) w := by
  unfold aggD at hu
  cases hd : P.underlying ty with
  | none => rw [hd] at hu; cases hu
  | some d =>
    rw [hd] at hu
    have hdd : aggB d = false := Option.some.inj hu
    have hagg : (isAgg ty).run P w = .ok false w := by
      unfold isAgg
      rw [Sem.run_bind, run_underlying hd w]
      cases d <;> first | rfl | cases hdd
    unfold execOp
    simp [ho, hx, Instr.loadAt, Instr.sureAddr, loadVar, hagg, hc]
theorem row_eq {W : World} {g : Nat} {k : IntKind} {a b : List Int} {t : TypeId} (r : W.heap[g]? = some (.cells (ints k a) t)) (h : a = b) : W.heap[g]? = some (.cells (ints k b) t) := h ▸ r
theorem run_extF {P : Program} {ρ : Operand → Value} {o : Oper} {w : World} {f : FuncId} {args : Array Value} {v : Value} (qs : Array Operand) (ts : Array TypeId) (x : Operand) (ho : o.op = .call { callee := .value x, args := qs, argTypes := ts })
    (hx : ρ x = .func (.func f) #[] #[]) (ha : qs.map ρ = args) (h : (callFunc f args).run P w = .ok (.value v) w) : (execOp ρ o).run P w = .ok (.value v) w := by
  subst ha
  unfold execOp
  simp only [ho, resolve, hx, Deferred.ofValue, invoke, Sem.run_bind, Sem.run_pure, Result.andThen_ok]
  simpa using h
section
variable {P : Program} {ops : Array Oper} {Q : Exit → Act → World → Prop} {rest : List Oper} {o : Oper} {N : Nat} {L : Env} {w : World}
theorem seq_makeS (cs : Array Value) (T : TypeId) (n d : Nat) (hd : o.dst = some d) (hg : wantB ops o N L = some true) (h : (execOp (Rely.look (envN N L)) o).run P w = .ok (.value (.slice (some ⟨w.heap.size, 0, none⟩) n n)) (w.alloc (.cells cs T)))
    (k : ∀ (g : Nat) (W : World), w.heap.size ≤ g → Ext w W → W.heap[g]? = some (.cells cs T) → WL P ops Q rest (actOf ds N ((d, .slice (some ⟨g, 0, none⟩) n n) :: L)) W) : WL P ops Q (o :: rest) (actOf ds N L) w :=
  seq_valw _ _ d hd hg h (k _ _ (Nat.le_refl _) (ext_alloc _ _) (heap_alloc_new _ _))
end
section
variable {K : Act → World → Prop} {Q : Exit → Act → World → Prop} {a : Act} {w : World}
theorem goX1 {n : Nat} (h : Q (.exit n) a w) : Exit.then K Q (.exit n) a w := h
theorem goX2 {n : Nat} (h : Q .normal a w) : Exit.inBlock n Q (.exit n) a w := by
  unfold Exit.inBlock
  simpa using h
theorem goR1 (h : Q .ret a w) : Exit.then K Q .ret a w := h
theorem goR2 {n : Nat} (h : Q .ret a w) : Exit.inBlock n Q .ret a w := h
theorem goX3 {n : Nat} (h : Q .normal a w) : Exit.inBlock n Q .normal a w := h
end
end Go.Proofs.Ytfelfmchachljaa.Auto
