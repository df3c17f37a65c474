/- Parts of rows: stores, and loads and stores inside a fence. -/
import Derived.Test.YtaojnmjmmfdfjaaParts
import Derived.Test.YtaojnmjmmfdfjaaRangeKit
namespace Go.Proofs.Ytaojnmjmmfdfjaa.Rely
open Go Go.RowKit
set_option linter.unusedVariables false

theorem wpList_store_part {P : Program} {ops : Array Oper} {rest : List Oper} {o : Oper} {a : Act} {w : World} {Q : Exit → Act → World → Prop} (hgd : o.guard = none) (ty : TypeId) (x y : Operand) (ho : o.op = .store ty x y)
    (g off : Nat) (cells : Array Value) (hx : a.eval x = .pointer (some ⟨g, off, none⟩)) (hy : a.eval y = .agg cells)
    (t : TypeId) (old : Array Value) (hg : w.heap[g]? = some (.cells old t)) (hi : (P.info? ty).map (·.size) = some cells.size)
    (hold : off + cells.size ≤ old.size) (h1 : cells.all (·.oneCell') = true)
    (h : wpList P ops Q rest (a.put o.dst undef) (w.setRow g (splice old off cells.toList))) : wpList P ops Q (o :: rest) a w :=
  wpList_plain hgd fun _ hK => by
    unfold Oper.wp execOp
    simp only [ho, hx, hy, Instr.storeAt, Instr.sureAddr, Sem.run_bind, Sem.run_pure, Result.andThen_ok, run_storeVar_part w g off t ty old cells hg hi hold h1]
    exact hK _ _ h
theorem wpListIn_store_part {F : Fence} {n : Nat} {P : Program} {ops : Array Oper} {rest : List Oper} {o : Oper} {a : Act} {w : World} {Q : Exit → Act → World → Prop} (hgd : o.guard = none) (ty : TypeId) (x y : Operand) (ho : o.op = .store ty x y)
    (g off : Nat) (cells : Array Value) (hx : a.eval x = .pointer (some ⟨g, off, none⟩)) (hy : a.eval y = .agg cells)
    (t : TypeId) (old : Array Value) (hg : w.heap[g]? = some (.cells old t)) (hi : (P.info? ty).map (·.size) = some cells.size)
    (hold : off + cells.size ≤ old.size) (h1 : cells.all (·.oneCell') = true)
    (h : wpListIn F n P ops Q rest (a.put o.dst undef) (w.setRow g (splice old off cells.toList))) : wpListIn F n P ops Q (o :: rest) a w := by
  refine wpListIn_plain hgd fun K hK' => ?_
  unfold Oper.wpIn
  refine ⟨?_, ?_⟩
  · simp [Oper.about, ho]
  · rw [Oper.semAt_plain F _ _ (by rw [ho]; intro c hc'; cases hc')]
    unfold execOp
    simp only [ho, hx, hy, Instr.storeAt, Instr.sureAddr, Sem.run_bind, Sem.run_pure, Result.andThen_ok, run_storeVar_part w g off t ty old cells hg hi hold h1]
    exact hK' _ _ h
theorem wpListIn_load_part {F : Fence} {n : Nat} {P : Program} {ops : Array Oper} {rest : List Oper} {o : Oper} {a : Act} {w : World} {Q : Exit → Act → World → Prop} (hgd : o.guard = none) (ty : TypeId) (x : Operand) (ho : o.op = .load ty x)
    (g off : Nat) (hx : a.eval x = .pointer (some ⟨g, off, none⟩)) (t : TypeId) (cs ps : Array Value) (fr : Nat × Nat) (d : TypeDesc) (hg : w.heap[g]? = some (.cells cs t fr)) (hp : ∀ j v, ps[j]? = some v → cs[off + j]? = some v)
    (hu : P.underlying ty = some d) (hd : (match d with | .struct _ | .array _ _ => true | _ => false) = true) (hi : (P.info? ty).map (·.size) = some ps.size)
    (h : wpListIn F n P ops Q rest (a.put o.dst (.agg ps)) w) : wpListIn F n P ops Q (o :: rest) a w := by
  refine wpListIn_plain hgd fun K hK' => ?_
  unfold Oper.wpIn
  refine ⟨?_, ?_⟩
  · simp [Oper.about, ho]
  · rw [Oper.semAt_plain F _ _ (by rw [ho]; intro c hc'; cases hc')]
    unfold execOp
    simp only [ho, hx, Instr.loadAt, Instr.sureAddr, Sem.run_bind, Sem.run_pure, Result.andThen_ok, run_loadVar_part w g off t ty cs ps fr d hg hp hu hd hi]
    exact hK' _ _ h
theorem splice_get (vs : List Value) : ∀ (cur : Array Value) (k : Nat), k + vs.length ≤ cur.size → ∀ j, (splice cur k vs)[j]? = if k ≤ j ∧ j < k + vs.length then vs[j - k]? else cur[j]? := by
  induction vs with
  | nil =>
    intro cur k _ j
    rw [splice, if_neg (by simp only [List.length_nil]; omega)]
  | cons v r ih =>
    intro cur k hk j
    simp only [List.length_cons] at hk ⊢
    rw [splice, ih _ _ (by simp; omega)]
    by_cases h1 : k + 1 ≤ j ∧ j < k + 1 + r.length
    · rw [if_pos h1, if_pos (by omega), show j - k = (j - (k + 1)) + 1 by omega, List.getElem?_cons_succ]
    · rw [if_neg h1]
      by_cases h2 : j = k
      · subst h2
        rw [if_pos (by omega), Array.getElem?_setIfInBounds_self_of_lt (by omega), Nat.sub_self, List.getElem?_cons_zero]
      · rw [Array.getElem?_setIfInBounds_ne (Ne.symm h2), if_neg (by omega)]
theorem splice_fst (ps qs rs : Array Value) (h : rs.size = ps.size) : splice (ps ++ qs) 0 rs.toList = rs ++ qs := by
  apply Array.ext_getElem?
  intro j
  rw [splice_get _ _ _ (by simp; omega)]
  by_cases hj : j < rs.size
  · rw [if_pos (by simp; omega), Array.getElem?_append_left hj]
    simp
  · rw [if_neg (by simp; omega), Array.getElem?_append_right (by omega), Array.getElem?_append_right (by omega), h]
theorem splice_snd (ps qs rs : Array Value) (n : Nat) (hn : ps.size = n) (h : rs.size = qs.size) : splice (ps ++ qs) n rs.toList = ps ++ rs := by
  subst hn
  apply Array.ext_getElem?
  intro j
  rw [splice_get _ _ _ (by simp; omega)]
  by_cases hj : j < ps.size
  · rw [if_neg (by omega), Array.getElem?_append_left hj, Array.getElem?_append_left hj]
  · rw [Array.getElem?_append_right (by omega)]
    by_cases h2 : j < ps.size + rs.size
    · rw [if_pos (by simp; omega)]
      simp
      rw [Array.getElem?_append_right (by omega)]
    · rw [if_neg (by simp; omega), Array.getElem?_append_right (by omega), Array.getElem?_eq_none (by omega), Array.getElem?_eq_none (by omega)]
end Go.Proofs.Ytaojnmjmmfdfjaa.Rely
