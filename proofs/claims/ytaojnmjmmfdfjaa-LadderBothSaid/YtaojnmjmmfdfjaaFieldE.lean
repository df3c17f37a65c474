/- Equality, oddness, small numbers. -/
import Derived.Test.YtaojnmjmmfdfjaaFieldD
namespace Go.Proofs.Ytaojnmjmmfdfjaa.Field
open Go Go.RowKit
open Go.Proofs.Ytaojnmjmmfdfjaa.Rely
set_option linter.unusedVariables false

theorem odd_bit (a : Int) (h : isW a) : bits .and .u64 a 1 = a % 2 := by
  obtain ⟨A, rfl⟩ := Int.eq_ofNat_of_zero_le h.1
  have h := bits_and_u64_nat A 1 (by have := h.2; omega) (by omega)
  have e : A &&& 1 = A % 2 := Nat.and_two_pow_sub_one_eq_mod A 1
  rw [e] at h
  exact h
theorem odd (a : Int) (ha : isN a) (w : World) : Calls Try.prog 24 #[num a] w (Ret w (.bool (a % 2 == 1))) := by
  obtain ⟨x0, x1, x2, x3, wx0, wx1, wx2, wx3, ex, eX⟩ := num_open a ha
  have o := odd_bit x0 wx0
  have e : a % 2 = x0 % 2 := by unfold val at ex; omega
  rw [eX, e]
  clear ex eX ha
  unfold words
  go_enter Try.func24, Try.ntmps24
  go_wp2_with fail
  go_ret
  exact ⟨rfl, ext_alloc _ _⟩
theorem equal (a b : Int) (ha : isN a) (hb : isN b) (w : World) : Calls Try.prog 29 #[num a, num b] w (Ret w (.bool (a == b))) := by
  obtain ⟨x0, x1, x2, x3, wx0, wx1, wx2, wx3, ex, eX⟩ := num_open a ha
  obtain ⟨y0, y1, y2, y3, wy0, wy1, wy2, wy3, ey, eY⟩ := num_open b hb
  have q : ∀ W, (Op.equalIn 9999 27 (.agg #[.int .u64 x0, .int .u64 x1, .int .u64 x2, .int .u64 x3]) (.agg #[.int .u64 y0, .int .u64 y1, .int .u64 y2, .int .u64 y3])).run Try.prog W = .ok (a == b) W := fun W => by
    have h := equalIn_ints (P := Try.prog) W 9997 Try.underlying27 Try.underlying26 (by kernel_rfl) [x0, x1, x2, x3] [y0, y1, y2, y3] rfl rfl
    have e : decide ([x0, x1, x2, x3] = [y0, y1, y2, y3]) = (a == b) := by
      have : [x0, x1, x2, x3] = [y0, y1, y2, y3] ↔ a = b := by
        simp only [List.cons.injEq, and_true]
        unfold isW val at *
        constructor <;> omega
      rw [Bool.eq_iff_iff]
      simp only [decide_eq_true_eq, beq_iff_eq, this]
    rw [e] at h
    exact h
  have HQ := Lib.hid q
  clear q
  rw [eX, eY]
  have q := HQ.out
  clear HQ ex ey eX eY
  generalize (a == b) = r at *
  unfold words
  cases r
  all_goals
    go_enter Try.func29, Try.ntmps29
    go_wp2_with fail
    go_ret
    exact ⟨rfl, Ext.trans (ext_alloc _ _) (ext_alloc _ _)⟩
theorem small_pos (n : Int) (h : 0 ≤ n ∧ n < 9223372036854775808) (w : World) : Calls Try.prog 22 #[.int .i64 n] w (Ret w (num (n % p))) := by
  have hw := wrap64 n (by unfold isW; omega)
  have e : num (n % p) = words n 0 0 0 := by
    rw [num_val n 0 0 0 (by unfold isW; omega) zero_isW zero_isW zero_isW]
    congr 1
    unfold val p
    omega
  rw [e]
  have hlt : ¬ n < 0 := by omega
  unfold words
  go_enter Try.func22, Try.ntmps22
  go_wp2_with fail
  exact bodyPost_ret (ret_num (t := 2) rfl rfl (heap_alloc_new w _)) rfl ⟨rfl, ext_alloc _ _⟩
theorem small_neg (n : Int) (h : -9223372036854775808 ≤ n ∧ n < 0) (w : World) : Calls Try.prog 22 #[.int .i64 n] w (Ret w (num (n % p))) := by
  have hw : IntKind.u64.wrap n = n + 18446744073709551616 := by rw [IntKind.wrap_u64]; omega
  have hw2 : IntKind.u64.wrap (-(n + 18446744073709551616)) = -n := by rw [IntKind.wrap_u64]; omega
  have C : ∀ w, Calls Try.prog 27 #[words 0 0 0 0, words (-n) 0 0 0] w (Ret w (num (n % p))) := fun w => by
    have := sub 0 (-n) ⟨by decide, by decide⟩ ⟨by omega, by unfold p; omega⟩ w
    have e0 : num 0 = words 0 0 0 0 := rfl
    have e1 : num (-n) = words (-n) 0 0 0 := by
      rw [num_val (-n) 0 0 0 (by unfold isW; omega) zero_isW zero_isW zero_isW]
      congr 1
      unfold val
      omega
    have e2 : (0 : Int) - -n = n := by omega
    rw [e0, e1, e2] at this
    exact this
  generalize n % p = r at *
  unfold words at C
  have HC := Lib.hid C
  clear C
  have hlt : n < 0 := h.2
  go_enter Try.func22, Try.ntmps22
  go_wp2_with first
    | (go_at_call 27
       (with_reducible refine (HC.out _).mono ?_)
       rintro e w' ⟨rfl, hw'⟩)
    | (with_reducible show wpList _ _ _ ((⟨_, .store 29 _ _, _, _, _, _⟩ : Oper) :: _) _ _
       refine wpList_store_row rfl 29 _ _ rfl w.heap.size (numA r) rfl rfl 29 _ ((hw'.block _ (by simp)).trans (heap_alloc_new w _)) infoNum rfl (numA_one _) ?_)
  exact bodyPost_ret (results_num (t := 2) rfl rfl (setRow_heap _ _ _ _ _ _ ((hw'.block _ (by simp)).trans (heap_alloc_new w _)))) rfl ⟨rfl, below_setRow (Ext.trans (ext_alloc _ _) hw') (by omega) _⟩
end Go.Proofs.Ytaojnmjmmfdfjaa.Field
