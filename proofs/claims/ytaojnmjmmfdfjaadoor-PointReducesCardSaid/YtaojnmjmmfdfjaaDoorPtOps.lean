/- Points: single operations. -/
import Derived.Test.YtaojnmjmmfdfjaaDoorPtLaid
namespace Go.Proofs.YtaojnmjmmfdfjaaDoor.Field
open Go Go.RowKit
open Go.Proofs.YtaojnmjmmfdfjaaDoor.Rely Go.Proofs.YtaojnmjmmfdfjaaDoor.Auto
set_option linter.unusedVariables false

theorem run_index_il {P : Program} {ρ : Operand → Value} {o : Oper} {w : World} (t : TypeId) (x y : Operand) (ki k : IntKind) (xs : List Int) (i n : Nat) (e : TypeId) (v : Int) (ho : o.op = .index t x y) (hx : ρ x = .agg (ints k xs)) (hy : ρ y = .int ki (i : Int))
    (ht : P.underlying t = some (.array n e)) (he : P.underlying e = some (.int k)) (hq : (P.info? e).map (·.size) = some 1) (hl : xs.length = n) (hi : i < n) (hv : nth xs i = v) : (execOp ρ o).run P w = .ok (.value (.int k v)) w := by
  have h := run_index_ints (P := P) w (ki := ki) ht he hq xs hl i hi
  rw [hv] at h
  unfold execOp
  simp only [ho, hx, hy, Sem.run_bind, h, Result.andThen_ok, Sem.run_pure]
theorem num_eqIn (a b : Int) (ha : isN a) (hb : isN b) (W : World) : (Op.equalIn 9999 26 (.agg (numA a)) (.agg (numA b))).run Tryd.prog W = .ok (a == b) W := by
  obtain ⟨x0, x1, x2, x3, wx0, wx1, wx2, wx3, ex, eX⟩ := num_open a ha
  obtain ⟨y0, y1, y2, y3, wy0, wy1, wy2, wy3, ey, eY⟩ := num_open b hb
  rw [num_agg] at eX eY
  unfold words at eX eY
  rw [eX, eY]
  have h := equalIn_ints (P := Tryd.prog) W 9997 Tryd.underlying26 Tryd.underlying25 (by kernel_rfl) [x0, x1, x2, x3] [y0, y1, y2, y3] rfl rfl
  have e : decide ([x0, x1, x2, x3] = [y0, y1, y2, y3]) = (a == b) := by
    have : [x0, x1, x2, x3] = [y0, y1, y2, y3] ↔ a = b := by
      simp only [List.cons.injEq, and_true]
      unfold isW val at *
      constructor <;> omega
    rw [Bool.eq_iff_iff]
    simp only [decide_eq_true_eq, beq_iff_eq, this]
  rw [e] at h
  exact h
theorem num_eql (a b : Int) (r : Bool) (ha : isN a) (hb : isN b) (h : (a == b) = r) (W : World) : (binOp .eql 28 (.agg (numA a)) (.agg (numA b))).run Tryd.prog W = .ok (.bool r) W := by
  have q := num_eqIn a b ha hb W
  have hp : ∀ n, (Go.part 26 (numA n) 0).run Tryd.prog W = .ok (.agg (numA n)) W := fun n => by kernel_rfl
  rw [run_eql_struct, run_equalIn_struct W 9999 _ _ _ (by kernel_rfl) (by kernel_rfl)]
  obtain ⟨fd, hl, h1, h2, h3⟩ : ∃ fd, (Tryd.prog.fieldsOf 28).toList = [fd] ∧ fd.type = 26 ∧ fd.offset = 0 ∧ (fd.name != "_") = true := by
    cases hL : (Tryd.prog.fieldsOf 28).toList with
    | nil => exact absurd (congrArg List.length hL) (by rw [show (Tryd.prog.fieldsOf 28).toList.length = 1 from by kernel_rfl]; decide)
    | cons fd r =>
      have e1 : (Tryd.prog.fieldsOf 28).toList.map (fun f => (f.type, f.offset, f.name != "_")) = [(26, 0, true)] := by kernel_rfl
      rw [hL] at e1
      simp only [List.map_cons, List.cons.injEq, Prod.mk.injEq, List.map_eq_nil_iff] at e1
      obtain ⟨⟨a1, a2, a3⟩, rfl⟩ := e1
      exact ⟨fd, rfl, a1, a2, a3⟩
  have h4 : fd.name ≠ "_" := by simpa using h3
  rw [hl, Op.eqFields, if_pos h4]
  simp only [Sem.run_bind, h1, h2, hp, Result.andThen_ok, q]
  rw [h]
  cases r <;> simp [Op.eqFields]
theorem key_eql (xs ys : List Int) (r : Bool) (hx : xs.length = 32) (hy : ys.length = 32) (h : decide (xs = ys) = r) (W : World) : (binOp .eql 23 (.agg (ints .u8 xs)) (.agg (ints .u8 ys))).run Tryd.prog W = .ok (.bool r) W := by
  rw [eql_ints W Tryd.underlying23 Tryd.underlying5 (by kernel_rfl) xs ys hx hy, h]
theorem key_neq (xs ys : List Int) (r : Bool) (hx : xs.length = 32) (hy : ys.length = 32) (h : decide (xs = ys) = r) (W : World) : (binOp .neq 23 (.agg (ints .u8 xs)) (.agg (ints .u8 ys))).run Tryd.prog W = .ok (.bool (!r)) W := by
  rw [neq_ints W Tryd.underlying23 Tryd.underlying5 (by kernel_rfl) xs ys hx hy, h]
theorem lnum_eql (x y : Int) (r : Bool) (h : decide (lims x = lims y) = r) (W : World) : (binOp .eql 34 (.agg (ints .i64 (lims x))) (.agg (ints .i64 (lims y)))).run Tryd.prog W = .ok (.bool r) W := by
  rw [eql_ints W Tryd.underlying34 Tryd.underlying3 (by kernel_rfl) _ _ (lims_len x) (lims_len y), h]
theorem odd_is (a : Int) (r : Bool) (ha : isN a) (h : (a % 2 == 1) = r) (w : World) : Calls Tryd.prog 49 #[num a] w (Ret w (.bool r)) := by
  have := odd a ha w
  rw [h] at this
  exact this
theorem or128 (v : Int) (h : 0 ≤ v ∧ v < 128) : bits .or .u8 v 128 = v + 128 := by
  obtain ⟨n, rfl⟩ := Int.eq_ofNat_of_zero_le h.1
  have hn : n < 128 := by omega
  have : ∀ m : Fin 128, bits .or .u8 ((m.val : Nat) : Int) 128 = ((m.val : Nat) : Int) + 128 := by decide +kernel
  exact this ⟨n, hn⟩
theorem and127 (v : Int) (h : 0 ≤ v ∧ v ≤ 255) : bits .and .u8 v 127 = v % 128 := by
  obtain ⟨n, rfl⟩ := Int.eq_ofNat_of_zero_le h.1
  have hn : n < 256 := by omega
  have : ∀ m : Fin 256, bits .and .u8 ((m.val : Nat) : Int) 127 = ((m.val : Nat) : Int) % 128 := by decide +kernel
  exact this ⟨n, hn⟩
theorem wrap8 (v : Int) (h : 0 ≤ v ∧ v < 128) : IntKind.u8.wrap (v + 128) = v + 128 := by
  obtain ⟨n, rfl⟩ := Int.eq_ofNat_of_zero_le h.1
  have hn : n < 128 := by omega
  have : ∀ m : Fin 128, IntKind.u8.wrap (((m.val : Nat) : Int) + 128) = ((m.val : Nat) : Int) + 128 := by decide +kernel
  exact this ⟨n, hn⟩
theorem tmod128 (v : Int) (h : 0 ≤ v ∧ v ≤ 255) : Int.tmod v 128 = v % 128 := Int.tmod_eq_emod_of_nonneg h.1
/-- the last byte of a number below the prime -/
theorem last_byte {n : Int} (h : isN n) : 0 ≤ nth (bytesOf n) 31 ∧ nth (bytesOf n) 31 < 128 := by
  have e : nth (bytesOf n) 31 = byteAt n 31 := by unfold nth bytesOf part; simp
  rw [e]
  obtain ⟨h0, h1⟩ := h
  unfold byteAt
  unfold p at h1
  simp only [Int.reducePow]
  omega
theorem bytes_len (n : Int) : (bytesOf n).length = 32 := by unfold bytesOf part; simp
/-- the lowest limb's parity is the number's -/
theorem lims_even (n : Int) : Int.tmod (nth (lims n) 0) 2 = n % 2 := by
  have e : nth (lims n) 0 = n % 65536 := by
    unfold nth lims
    simp [limb]
  rw [e, Int.tmod_eq_emod_of_nonneg (by omega)]
  omega
end Go.Proofs.YtaojnmjmmfdfjaaDoor.Field
