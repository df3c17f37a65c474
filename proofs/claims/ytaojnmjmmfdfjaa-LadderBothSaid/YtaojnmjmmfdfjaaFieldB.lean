/- Numbers below the prime as the program holds them: the residue, sum, difference, product. -/
import Derived.Test.YtaojnmjmmfdfjaaFieldA
import Derived.Laws.BitsAllLaws
namespace Go.Proofs.Ytaojnmjmmfdfjaa.Field
open Go Go.RowKit
open Go.Proofs.Ytaojnmjmmfdfjaa.Rely
set_option linter.unusedVariables false

/-- what four words stand for -/
def val (a b c d : Int) : Int := a + 18446744073709551616 * b + 340282366920938463463374607431768211456 * c + 6277101735386680763835789423207666416102355444464034512896 * d
/-- the prime -/
def p : Int := 57896044618658097711785492504343953926634992332820282019728792003956564819949
/-- four words as a value -/
def words (a b c d : Int) : Value := .agg #[.int .u64 a, .int .u64 b, .int .u64 c, .int .u64 d]
/-- a number below 2^256 as a value -/
def num (n : Int) : Value := words (n % 18446744073709551616) (n / 18446744073709551616 % 18446744073709551616) (n / 340282366920938463463374607431768211456 % 18446744073709551616) (n / 6277101735386680763835789423207666416102355444464034512896 % 18446744073709551616)
theorem num_val (a b c d : Int) (ha : isW a) (hb : isW b) (hc : isW c) (hd : isW d) : words a b c d = num (val a b c d) := by
  unfold isW at *
  unfold num val
  have e1 : (a + 18446744073709551616 * b + 340282366920938463463374607431768211456 * c + 6277101735386680763835789423207666416102355444464034512896 * d) % 18446744073709551616 = a := by omega
  have e2 : (a + 18446744073709551616 * b + 340282366920938463463374607431768211456 * c + 6277101735386680763835789423207666416102355444464034512896 * d) / 18446744073709551616 % 18446744073709551616 = b := by omega
  have e3 : (a + 18446744073709551616 * b + 340282366920938463463374607431768211456 * c + 6277101735386680763835789423207666416102355444464034512896 * d) / 340282366920938463463374607431768211456 % 18446744073709551616 = c := by omega
  have e4 : (a + 18446744073709551616 * b + 340282366920938463463374607431768211456 * c + 6277101735386680763835789423207666416102355444464034512896 * d) / 6277101735386680763835789423207666416102355444464034512896 % 18446744073709551616 = d := by omega
  rw [e1, e2, e3, e4]

theorem ret_num {fn : Func} {tmps : Array Value} {W : World} {g : Nat} {t : Tmp} {a b c d : Int} (h : fn.results = #[.cell t 29])
    (hp : tmps.getD t undef = .pointer (some ⟨g, 0, none⟩)) (hg : W.heap[g]? = some (.cells #[.int .u64 a, .int .u64 b, .int .u64 c, .int .u64 d] 29)) :
    (results fn tmps).run Try.prog W = .ok (words a b c d) W :=
  results_cell_row h tmps W g 29 _ (0, 0) _ hp hg Try.underlying29 rfl (by kernel_rfl)
theorem top_off (a : Int) (h : isW a) : bits .andNot .u64 a 9223372036854775808 = a % 9223372036854775808 := by
  obtain ⟨A, rfl⟩ := Int.eq_ofNat_of_zero_le h.1
  have h2 : A < 18446744073709551616 := by have := h.2; omega
  have e := u64_andNot_nat A 9223372036854775808 h2 (by decide)
  have m : A &&& 9223372036854775807 = A % 9223372036854775808 := Nat.and_two_pow_sub_one_eq_mod A 63
  simp only [Nat.reduceSub, m] at e
  exact e

theorem reduced (a b c d : Int) (ha : isW a) (hb : isW b) (hc : isW c) (hd : isW d) (h : val a b c d < 2 * p) (w : World) :
    Calls Try.prog 50 #[.int .u64 a, .int .u64 b, .int .u64 c, .int .u64 d] w (Ret w (num (val a b c d % p))) := by
  obtain ⟨v0, c0, wv0, wc0, e0, r0⟩ := add64 a 19 0 ha (by unfold isW; decide) (by decide)
  obtain ⟨v1, c1, wv1, wc1, e1, r1⟩ := add64 b 0 c0 hb (by unfold isW; decide) wc0
  obtain ⟨v2, c2, wv2, wc2, e2, r2⟩ := add64 c 0 c1 hc (by unfold isW; decide) wc1
  have wv3 : isW (d + c2) := by unfold isW val p at *; omega
  have o3 := top_off _ wv3
  have u3 := wrap64 _ wv3
  by_cases hlt : d + c2 < 9223372036854775808
  · have hz : (d + c2) / 9223372036854775808 = 0 := by have := wv3.1; omega
    have hv : num (val a b c d % p) = words a b c d := by
      rw [Int.emod_eq_of_lt (by unfold isW val p at *; omega) (by unfold isW val p at *; omega), num_val a b c d ha hb hc hd]
    rw [hv]
    clear hv o3 e0 e1 e2 h
    go_enter Try.func50, Try.ntmps50
    go_wp2_with fail
    exact bodyPost_ret (ret_num (t := 8) rfl rfl (heap_alloc_new w _)) rfl ⟨rfl, ext_alloc _ _⟩
  · have hz : (d + c2) / 9223372036854775808 = 1 := by have := wv3.2; omega
    have hv : num (val a b c d % p) = words v0 v1 v2 ((d + c2) % 9223372036854775808) := by
      rw [num_val v0 v1 v2 ((d + c2) % 9223372036854775808) wv0 wv1 wv2 (by unfold isW; omega)]
      congr 1
      rw [← Int.sub_emod_right, Int.emod_eq_of_lt (by unfold isW val p at *; omega) (by unfold isW val p at *; omega)]
      unfold isW val p at *
      omega
    rw [hv]
    clear hv e0 e1 e2 h
    go_enter Try.func50, Try.ntmps50
    go_wp2_with fail
    exact bodyPost_ret (ret_num (t := 8) rfl rfl (heap_alloc_new w _)) rfl ⟨rfl, ext_alloc _ _⟩
end Go.Proofs.Ytaojnmjmmfdfjaa.Field
