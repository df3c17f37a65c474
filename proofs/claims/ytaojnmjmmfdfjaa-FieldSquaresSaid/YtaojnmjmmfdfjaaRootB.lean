/- The root of a square is it or its negative. -/
import Derived.Test.YtaojnmjmmfdfjaaRootA
namespace Go.Proofs.Ytaojnmjmmfdfjaa.Field
open Go Go.RowKit
open Go.Proofs.Ytaojnmjmmfdfjaa.Rely
set_option linter.unusedVariables false

theorem pow_modp (a : Int) : ∀ n : Nat, (a % p) ^ n % p = a ^ n % p
  | 0 => by rw [Int.pow_zero, Int.pow_zero]
  | n + 1 => by
    rw [Int.pow_succ, Int.pow_succ, modR, Int.mul_emod, pow_modp a n, ← Int.mul_emod]
/-- what a prime divides: one of the two -/
theorem euclid (u v : Nat) (h : 57896044618658097711785492504343953926634992332820282019728792003956564819949 ∣ u * v) :
    57896044618658097711785492504343953926634992332820282019728792003956564819949 ∣ u ∨ 57896044618658097711785492504343953926634992332820282019728792003956564819949 ∣ v := by
  have hp := Prime.p25519.1
  generalize 57896044618658097711785492504343953926634992332820282019728792003956564819949 = P at *
  rcases hp.2 (Nat.gcd P u) (Nat.gcd_dvd_left P u) with hg | hg
  · right
    have hc : Nat.Coprime P u := hg
    exact hc.dvd_of_dvd_mul_left h
  · left
    rw [← hg]
    exact Nat.gcd_dvd_right P u
theorem sq_eq (r x : Int) (hr : isN r) (hx : isN x) (h : r * r % p = x * x % p) : r = x ∨ r = (0 - x) % p := by
  obtain ⟨R, rfl⟩ := Int.eq_ofNat_of_zero_le hr.1
  obtain ⟨X, rfl⟩ := Int.eq_ofNat_of_zero_le hx.1
  have hR := hr.2
  have hX := hx.2
  have h1 : (p : Int) ∣ (R : Int) * R - (X : Int) * X := Int.dvd_of_emod_eq_zero (by rw [Int.sub_emod, h, Int.sub_self]; rfl)
  have h2 : (p : Int) ∣ ((R : Int) + p - X) * ((R : Int) + X) := by
    have e : ((R : Int) + p - X) * ((R : Int) + X) = ((R : Int) * R - (X : Int) * X) + p * ((R : Int) + X) := by grind
    rw [e]
    exact Int.dvd_add h1 (Int.dvd_mul_right _ _)
  have h3 : 57896044618658097711785492504343953926634992332820282019728792003956564819949 ∣ (R + 57896044618658097711785492504343953926634992332820282019728792003956564819949 - X) * (R + X) := by
    unfold p at h2 hX
    rw [← Int.natCast_dvd_natCast]
    have e : (((R + 57896044618658097711785492504343953926634992332820282019728792003956564819949 - X) * (R + X) : Nat) : Int) = ((R : Int) + 57896044618658097711785492504343953926634992332820282019728792003956564819949 - X) * ((R : Int) + X) := by
      rw [Int.natCast_mul, Int.natCast_sub (by omega)]
      rfl
    rw [e]
    exact h2
  unfold p at *
  rcases euclid _ _ h3 with ⟨c, hc⟩ | ⟨c, hc⟩
  · left
    omega
  · right
    omega
theorem sq_gen (E h k : Nat) (hE : 4 * E = h + 2) (hh : 2 * h = k) (hk : k = 57896044618658097711785492504343953926634992332820282019728792003956564819949 - 1) (x : Int) (hx : isN x) (h0 : x ≠ 0) :
    (x * x % p) ^ E % p * ((x * x % p) ^ E % p) % p = x * x % p * (x ^ h % p) % p ∧ x ^ h % p * (x ^ h % p) % p = 1 := by
  constructor
  · rw [pow_modp, ← Int.mul_emod, ← Int.pow_add, ← Int.mul_emod]
    have e : (x * x) ^ (E + E) = x * x * x ^ h := by
      have e1 : x * x = x ^ 2 := by rw [Int.pow_succ, Int.pow_succ, Int.pow_zero, Int.one_mul]
      rw [e1, ← Int.pow_mul, ← Int.pow_add]
      congr 1
      omega
    rw [e]
  · rw [← Int.mul_emod, ← Int.pow_add, show h + h = k by omega]
    exact fermat_int x hx h0 k hk
theorem pm_half : Prime.pm 57896044618658097711785492504343953926634992332820282019728792003956564819949 256 2 28948022309329048855892746252171976963317496166410141009864396001978282409974 = 57896044618658097711785492504343953926634992332820282019728792003956564819948 := by decide +kernel
theorem two_half (m : Nat) (h : m = 28948022309329048855892746252171976963317496166410141009864396001978282409974) : (2 : Int) ^ m % p = p - 1 := by
  have h1 := Prime.pm_eq 57896044618658097711785492504343953926634992332820282019728792003956564819949 256 2 m (by rw [h]; decide)
  have h2 : Prime.pm 57896044618658097711785492504343953926634992332820282019728792003956564819949 256 2 m = 57896044618658097711785492504343953926634992332820282019728792003956564819948 := by rw [h]; exact pm_half
  rw [h2] at h1
  have h3 := cast_pow_mod 2 m 57896044618658097711785492504343953926634992332820282019728792003956564819949
  rw [← h1] at h3
  exact h3
theorem rootI_sq : rootI * rootI % p = p - 1 := by
  have hc := cnt_rootI
  unfold rootI
  rw [pw_pow]
  generalize cnt (bitsOf (expo 251 31)) = K at *
  rw [← Int.mul_emod, ← Int.pow_add]
  exact two_half (K + K) (by omega)
theorem neg_mod (x : Int) (hx : isN x) (h : x ≠ 0) : (0 - x) % p = p - x := by
  unfold isN p at *
  omega
theorem evenOf_neg (x : Int) (hx : isN x) : evenOf ((0 - x) % p) = evenOf x := by
  by_cases h : x = 0
  · subst h; rfl
  · have hpar : (p - x) % 2 = 1 - x % 2 := by unfold p; omega
    have hN : isN (p - x) := by unfold isN at *; omega
    have h0 : p - x ≠ 0 := by unfold isN at hx; omega
    rw [neg_mod x hx h]
    unfold evenOf
    by_cases h2 : x % 2 = 1
    · rw [if_neg (by omega), if_pos h2, neg_mod x hx h]
    · rw [if_pos (by omega), if_neg h2, neg_mod (p - x) hN h0]
      omega
theorem found_first (a r : Int) (h1 : rootA a = r) (h2 : r * r % p = a) : hasRoot a = true ∧ rootN a = evenOf r := by
  unfold hasRoot rootN
  rw [h1, if_pos h2, decide_eq_true h2]
  exact ⟨rfl, rfl⟩
theorem found_second (a r : Int) (h1 : rootA a * rootI % p = r) (h0 : rootA a * rootA a % p ≠ a) (h2 : r * r % p = a) : hasRoot a = true ∧ rootN a = evenOf r := by
  unfold hasRoot rootN rootB
  rw [h1, if_neg h0, if_pos h2, decide_eq_true h2]
  simp
theorem root_zero : hasRoot 0 = true ∧ rootN 0 = evenOf 0 := by
  refine found_first 0 0 ?_ (by decide)
  have hc := cnt_root
  unfold rootA
  rw [pw_pow]
  generalize cnt (bitsOf (expo 254 15)) = E at *
  rw [Int.zero_pow (by omega)]
  rfl
theorem four_mul (a b : Int) : a * b * (a * b) = a * a * (b * b) := by grind
theorem sq_mix (a i : Int) : a * i % p * (a * i % p) % p = (a * a % p) * (i * i % p) % p := by rw [← Int.mul_emod, ← Int.mul_emod, four_mul]
theorem neg_sq (a : Int) (ha : isN a) : a * (p - 1) % p * (p - 1) % p = a := by
  rw [modL, Int.mul_assoc, ← modR, show (p - 1) * (p - 1) % p = 1 by decide, isN_one_mul a ha]
theorem neg_ne (a : Int) (ha : isN a) (h : a ≠ 0) : a * (p - 1) % p ≠ a := by
  have e : a * (p - 1) = (0 - a) + p * a := by grind
  rw [e, Int.add_mul_emod_self_left, neg_mod a ha h]
  unfold p
  omega
theorem half_num (E : Nat) (hc : E = 7237005577332262213973186563042994240829374041602535252466099000494570602494) : ∃ h : Nat, 4 * E = h + 2 ∧ 2 * h = 57896044618658097711785492504343953926634992332820282019728792003956564819949 - 1 :=
  ⟨28948022309329048855892746252171976963317496166410141009864396001978282409974, by omega, by decide⟩
theorem sq_ne (x : Int) (hx : isN x) (h : x ≠ 0) : x * x % p ≠ 0 := fun e => by
  rcases sq_eq x 0 hx zero_isN' (by rw [e]; decide) with h1 | h1
  · exact h h1
  · exact h (h1.trans (by decide))
theorem same_even (x : Int) (hx : isN x) (r : Int) (hr : isN r) (e : r * r % p = x * x % p) : evenOf r = evenOf x := by
  rcases sq_eq r x hr hx e with h1 | h1
  · rw [h1]
  · rw [h1]; exact evenOf_neg x hx
theorem root_pos (x : Int) (hx : isN x) (h0 : x ≠ 0) : hasRoot (x * x % p) = true ∧ rootN (x * x % p) = evenOf x := by
  obtain ⟨h, hE, hh⟩ := half_num (cnt (bitsOf (expo 254 15))) cnt_root
  have hA : rootA (x * x % p) = (x * x % p) ^ cnt (bitsOf (expo 254 15)) % p := by unfold rootA; rw [pw_pow]
  generalize cnt (bitsOf (expo 254 15)) = E at *
  obtain ⟨q1, q2⟩ := sq_gen E h (2 * h) hE rfl hh x hx h0
  rw [← hA] at q1
  have hsN : isN (x ^ h % p) := isN_mod _
  have ha := sq_ne x hx h0
  have haN : isN (x * x % p) := isN_mod _
  have hrN := rootA_isN (x * x % p)
  have back := same_even x hx
  clear hE hh hA
  generalize x ^ h % p = s at *
  generalize x * x % p = a at *
  have q2' : s * s % p = 1 * 1 % p := by rw [q2]; decide
  rcases sq_eq s 1 hsN one_isN q2' with h1 | h1
  · have q3 : rootA a * rootA a % p = a := by rw [q1, h1, isN_one_mul a haN]
    have := found_first _ _ rfl q3
    rw [back _ hrN q3] at this
    exact this
  · have h2 : s = p - 1 := by rw [h1]; decide
    have q3 : rootA a * rootA a % p = a * (p - 1) % p := by rw [q1, h2]
    have q4 : rootA a * rootA a % p ≠ a := by rw [q3]; exact neg_ne a haN ha
    have q5 : rootA a * rootI % p * (rootA a * rootI % p) % p = a := by rw [sq_mix, q3, rootI_sq, neg_sq a haN]
    have := found_second _ _ rfl q4 q5
    rw [back _ (isN_mod _) q5] at this
    exact this
theorem root_square (x : Int) (hx : isN x) : hasRoot (x * x % p) = true ∧ rootN (x * x % p) = evenOf x := by
  by_cases h0 : x = 0
  · subst h0
    rw [show (0 : Int) * 0 % p = 0 by decide]
    exact root_zero
  · exact root_pos x hx h0
end Go.Proofs.Ytaojnmjmmfdfjaa.Field
