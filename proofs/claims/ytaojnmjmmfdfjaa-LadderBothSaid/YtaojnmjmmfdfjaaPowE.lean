/- Fermat's rule for the field: what the inverse is. -/
import Derived.Test.YtaojnmjmmfdfjaaPowC
import Derived.Test.YtaojnmjmmfdfjaaPrime
namespace Go.Proofs.Ytaojnmjmmfdfjaa.Field
open Go Go.RowKit
open Go.Proofs.Ytaojnmjmmfdfjaa.Rely
set_option linter.unusedVariables false

theorem cast_pow_mod (A k P : Nat) : ((A : Int) ^ k) % (P : Int) = ((A ^ k % P : Nat) : Int) := by
  rw [Int.natCast_emod, Int.natCast_pow]
theorem fermat_int (x : Int) (hx : isN x) (h0 : x ≠ 0) (k : Nat) (hk : k = 57896044618658097711785492504343953926634992332820282019728792003956564819949 - 1) : x ^ k % p = 1 := by
  obtain ⟨A, rfl⟩ := Int.eq_ofNat_of_zero_le hx.1
  have hA : A < 57896044618658097711785492504343953926634992332820282019728792003956564819949 := by have := hx.2; unfold p at this; omega
  have hA0 : A ≠ 0 := fun e => h0 (by rw [e]; rfl)
  have hf := Prime.p25519.2.1 A (by rw [Nat.mod_eq_of_lt hA]; exact hA0)
  rw [← hk] at hf
  have := cast_pow_mod A k 57896044618658097711785492504343953926634992332820282019728792003956564819949
  rw [hf] at this
  exact this
theorem inv_cnt : cnt (bitsOf (expo 235 127)) + 1 = 57896044618658097711785492504343953926634992332820282019728792003956564819949 - 1 := by decide +kernel
theorem inv_gen (k : Nat) (h : k + 1 = 57896044618658097711785492504343953926634992332820282019728792003956564819949 - 1) (x : Int) (hx : isN x) (h0 : x ≠ 0) : x * (x ^ k % p) % p = 1 := by
  have e : x ^ k * x = x ^ (k + 1) := (Int.pow_succ x k).symm
  rw [Int.mul_emod, Int.emod_emod, ← Int.mul_emod, Int.mul_comm, e]
  generalize k + 1 = m at *
  exact fermat_int x hx h0 m h
theorem inv_mul (x : Int) (hx : isN x) (h0 : x ≠ 0) : x * invN x % p = 1 := by
  unfold invN
  rw [pw_pow]
  exact inv_gen _ inv_cnt x hx h0
theorem zero_pow_mod (k : Nat) (h : k + 1 = 57896044618658097711785492504343953926634992332820282019728792003956564819949 - 1) : (0 : Int) ^ k % p = 0 := by
  have hk : k ≠ 0 := fun e => by
    subst e
    exact absurd h (by decide)
  rw [Int.zero_pow hk]
  rfl
theorem inv_zero : invN 0 = 0 := (pw_pow 0 (bitsOf (expo 235 127))).trans (zero_pow_mod _ inv_cnt)
end Go.Proofs.Ytaojnmjmmfdfjaa.Field
