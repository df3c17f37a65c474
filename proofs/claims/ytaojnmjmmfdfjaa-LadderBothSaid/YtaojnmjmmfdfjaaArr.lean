/- Arrays of integers as values: equality, and blocks that hold one. -/
import Derived.Test.YtaojnmjmmfdfjaaBytes
import Derived.ChangeKeysEq
import Derived.Laws.Rows
import Derived.Laws.Tables
namespace Go.Proofs.Ytaojnmjmmfdfjaa.Rely
open Go Go.RowKit

/-- the cells of an array of integers -/
def ints (k : IntKind) (xs : List Int) : Array Value := (xs.map (Value.int k)).toArray
theorem arr8_ints (xs : List Int) : arr8 xs = ints .u8 xs := rfl
theorem ints_get (k : IntKind) (xs : List Int) (i : Nat) (h : i < xs.length) : (ints k xs)[i]? = some (.int k (nth xs i)) := by
  simp [ints, nth, h]
theorem ints_size (k : IntKind) (xs : List Int) : (ints k xs).size = xs.length := by simp [ints]
theorem ints_set (k : IntKind) (xs : List Int) (i : Nat) (v : Int) : (ints k xs).setIfInBounds i (.int k v) = ints k (xs.set i v) := by
  unfold ints
  simp [List.map_set]
theorem nth_set_eq (xs : List Int) (i : Nat) (v : Int) (h : i < xs.length) : nth (xs.set i v) i = v := by simp [nth, h]
theorem nth_set_ne (xs : List Int) (i j : Nat) (v : Int) (h : i ≠ j) : nth (xs.set i v) j = nth xs j := by
  simp [nth, List.getElem?_set_ne h]

theorem eqItems_ints {P : Program} (w : World) (d : Nat) {e : TypeId} {k : IntKind} (he : P.underlying e = some (.int k)) (hc : P.cellsOf e = 1) (xs ys : List Int) : ∀ (is : List Nat), (∀ i ∈ is, i < xs.length ∧ i < ys.length) →
    (Op.eqItems (d + 1) e (P.cellsOf e) (ints k xs) (ints k ys) is).run P w = .ok (decide (∀ i ∈ is, nth xs i = nth ys i)) w
  | [], _ => by simp [Op.eqItems]
  | i :: is, h => by
    have hp : P.plainKey e = true := by simp [Program.plainKey, he]
    obtain ⟨h1, h2⟩ := h i List.mem_cons_self
    have a1 := run_part_plain w hp (ints_get k xs i h1)
    have a2 := run_part_plain w hp (ints_get k ys i h2)
    have a3 := run_equalIn_int (P := P) w d e k k (nth xs i) (nth ys i) he
    have ih := eqItems_ints w d he hc xs ys is fun j hj => h j (List.mem_cons_of_mem _ hj)
    simp only [Op.eqItems, hc, Nat.mul_one, Sem.run_bind, a1, a2, a3, Result.andThen_ok]
    rw [hc] at ih
    by_cases hq : nth xs i = nth ys i
    · have : (nth xs i == nth ys i) = true := beq_iff_eq.2 hq
      rw [this]
      simp only [Bool.not_true, Bool.false_eq_true, if_false, ih, List.mem_cons, forall_eq_or_imp, hq, true_and]
    · have : (nth xs i == nth ys i) = false := beq_eq_false_iff_ne.2 hq
      rw [this]
      simp [hq]

theorem list_ext_nth {xs ys : List Int} (hl : xs.length = ys.length) (h : ∀ i, i < xs.length → nth xs i = nth ys i) : xs = ys := by
  refine List.ext_getElem hl fun i h1 h2 => ?_
  have := h i h1
  simpa [nth, h1, h2] using this

/-- two arrays of integers are compared -/
theorem equalIn_ints {P : Program} (w : World) (d : Nat) {t e : TypeId} {n : Nat} {k : IntKind} (ht : P.underlying t = some (.array n e)) (he : P.underlying e = some (.int k)) (hc : P.cellsOf e = 1) (xs ys : List Int) (hx : xs.length = n) (hy : ys.length = n) :
    (Op.equalIn (d + 2) t (.agg (ints k xs)) (.agg (ints k ys))).run P w = .ok (decide (xs = ys)) w := by
  obtain ⟨i, hi⟩ := info_of_underlying he
  rw [run_equalIn_array w (d + 1) _ _ ht hi, eqItems_ints w d he hc xs ys (List.range n) fun j hj => by have := List.mem_range.1 hj; omega]
  congr 1
  refine decide_eq_decide.2 ⟨fun h => list_ext_nth (by omega) fun j hj => h j (List.mem_range.2 (by omega)), fun h => by rw [h]; exact fun _ _ => rfl⟩
theorem eql_ints {P : Program} (w : World) {t e : TypeId} {n : Nat} {k : IntKind} (ht : P.underlying t = some (.array n e)) (he : P.underlying e = some (.int k)) (hc : P.cellsOf e = 1) (xs ys : List Int) (hx : xs.length = n) (hy : ys.length = n) :
    (binOp .eql t (.agg (ints k xs)) (.agg (ints k ys))).run P w = .ok (.bool (decide (xs = ys))) w := by
  rw [run_eql_struct, equalIn_ints w 9998 ht he hc xs ys hx hy]
  rfl
theorem neq_ints {P : Program} (w : World) {t e : TypeId} {n : Nat} {k : IntKind} (ht : P.underlying t = some (.array n e)) (he : P.underlying e = some (.int k)) (hc : P.cellsOf e = 1) (xs ys : List Int) (hx : xs.length = n) (hy : ys.length = n) :
    (binOp .neq t (.agg (ints k xs)) (.agg (ints k ys))).run P w = .ok (.bool (!decide (xs = ys))) w := by
  rw [run_neq_struct, equalIn_ints w 9998 ht he hc xs ys hx hy]
  rfl

/-- a whole array read inside a region -/
theorem relyAt_load_row {P : Program} {o : Oper} {ρ : Tmp → Value} {W : World} (ty : TypeId) (x : Operand) (ho : o.op = .load ty x)
    (g : Nat) (hx : look ρ x = .pointer (some ⟨g, 0, none⟩)) (t : TypeId) (cs : Array Value) (fr : Nat × Nat) (d : TypeDesc) (hg : W.heap[g]? = some (.cells cs t fr))
    (hu : P.underlying ty = some d) (hd : (match d with | .struct _ | .array _ _ => true | _ => false) = true) (hi : (P.info? ty).map (·.size) = some cs.size) :
    relyAt P Ext o ρ W (fun v _ => v = .agg cs) := by
  unfold relyAt execOp
  simp only [ho, hx, Instr.loadAt, Instr.sureAddr, Sem.run_bind, Sem.run_pure, Result.andThen_ok, run_loadVar_row W g t ty cs fr d hg hu hd hi]
  exact ⟨Ext.refl _, rfl⟩
/-- two arrays (or structs) compared inside a region -/
theorem relyAt_eql_agg {P : Program} {o : Oper} {ρ : Tmp → Value} {W : World} (ty tr : TypeId) (x y : Operand) (ho : o.op = .binOp .eql ty x y tr) (u v : Array Value) (r : Value)
    (hm : P.eqGuardType P.depth ty = false)
    (hx : look ρ x = .agg u) (hy : look ρ y = .agg v) (h : (binOp .eql ty (.agg u) (.agg v)).run P W = .ok r W) :
    relyAt P Ext o ρ W (fun z _ => z = r) := by
  unfold relyAt execOp
  simp only [ho, hx, hy, Sem.run_bind, Sem.run_pure, run_eqGuard_agg (hm := hm), Result.andThen_ok, h]
  exact ⟨Ext.refl _, rfl⟩
end Go.Proofs.Ytaojnmjmmfdfjaa.Rely
