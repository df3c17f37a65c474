/- What is divided comes back. -/
import Derived.Test.YtaojnmjmmfdfjaaPowE
namespace Go.Proofs.Ytaojnmjmmfdfjaa.Field
open Go Go.RowKit
open Go.Proofs.Ytaojnmjmmfdfjaa.Rely
set_option linter.unusedVariables false

theorem modL (a b : Int) : a % p * b % p = a * b % p := by rw [Int.mul_emod, Int.emod_emod, ← Int.mul_emod]
theorem modR (a b : Int) : a * (b % p) % p = a * b % p := by rw [Int.mul_emod, Int.emod_emod, ← Int.mul_emod]
theorem isN_one_mul (x : Int) (hx : isN x) : x * 1 % p = x := by rw [Int.mul_one, Int.emod_eq_of_lt hx.1 hx.2]
theorem div_back (x y : Int) (hx : isN x) (hy : isN y) (h : y ≠ 0) : x * invN y % p * y % p = x := by
  rw [modL, Int.mul_assoc, Int.mul_comm (invN y), ← modR, inv_mul y hy h, isN_one_mul x hx]
theorem inv_ne (y : Int) (hy : isN y) (h : y ≠ 0) : invN y ≠ 0 := fun e => by
  have := inv_mul y hy h
  rw [e, Int.mul_zero] at this
  exact absurd this (by decide)
theorem inv_inv (y : Int) (hy : isN y) (h : y ≠ 0) : invN (invN y) = y := by
  have h1 := inv_mul y hy h
  have h2 := inv_mul (invN y) (invN_isN y) (inv_ne y hy h)
  have h3 : y * (invN y * invN (invN y) % p) % p = y := by rw [h2, isN_one_mul y hy]
  rw [modR, ← Int.mul_assoc, ← modL, h1, Int.one_mul, Int.emod_eq_of_lt (invN_isN _).1 (invN_isN _).2] at h3
  exact h3
theorem sub_self_mod (x : Int) : (x - x) % p = 0 := by rw [Int.sub_self]; rfl
theorem neg_add (x : Int) : (x + (0 - x) % p) % p = 0 := by
  rw [Int.add_emod_emod, show x + (0 - x) = 0 by omega]
  rfl
end Go.Proofs.Ytaojnmjmmfdfjaa.Field
