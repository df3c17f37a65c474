/- Merged: PtAssoc, LadPrime, LadGrp, LadRep, LadMul. -/
import Derived.WalkKit
import Derived.Test.YtaojnmjmmfdfjaaPrime
import Derived.Test.YtaojnmjmmfdfjaaLadFn0
import Derived.Test.YtaojnmjmmfdfjaaPowF

/-! Points of the curve: the identities of associativity. -/
section
namespace Go.Proofs.Ytaojnmjmmfdfjaa.Field
set_option maxHeartbeats 4000000
theorem assocX_id (d x y u v r s : Int) : ((x * v + y * u) * (1 - (d * (x * u * (y * v)))) * s + (y * v + x * u) * (1 + (d * (x * u * (y * v)))) * r) * ((1 + (d * (u * r * (v * s)))) * (1 - (d * (u * r * (v * s)))) + d * ((u * s + v * r) * x * ((v * s + u * r) * y))) - ((u * s + v * r) * (1 - (d * (u * r * (v * s)))) * y + (v * s + u * r) * (1 + (d * (u * r * (v * s)))) * x) * ((1 + (d * (x * u * (y * v)))) * (1 - (d * (x * u * (y * v)))) + d * ((x * v + y * u) * r * ((y * v + x * u) * s))) =
    (-d^2*r^2*s*u^4*v^3*x + d^2*r^2*s*u^3*v^4*y + d^2*r*s^2*u^4*v^3*y - d^2*r*s^2*u^3*v^4*x - d*r^3*u^3*v^2*x - d*r^3*u^2*v^3*y - d*r^2*s*u^4*v*x - d*r^2*s*u*v^4*y + d*r*s^2*u^4*v*y + d*r*s^2*u*v^4*x - d*r*u^3*v^2*x - d*r*u^2*v^3*y + d*s^3*u^3*v^2*y + d*s^3*u^2*v^3*x - d*s*u^3*v^2*y - d*s*u^2*v^3*x) * (-(x * x) + y * y - 1 - d * (x * x * (y * y)))
    + (d^2*r^3*s^2*u^2*v*x^2*y + d^2*r^3*s^2*u*v^2*x*y^2 - d^2*r^2*s^3*u^2*v*x*y^2 - d^2*r^2*s^3*u*v^2*x^2*y + d*r^3*s^2*u*x^3 - d*r^3*s^2*u*x*y^2 + d*r^3*s^2*u*x + d*r^3*s^2*v*x^2*y - d*r^3*s^2*v*y^3 + d*r^3*s^2*v*y + d*r^2*s^3*u*x^2*y - d*r^2*s^3*u*y^3 + d*r^2*s^3*u*y + d*r^2*s^3*v*x^3 - d*r^2*s^3*v*x*y^2 + d*r^2*s^3*v*x + d*r^2*s*u^2*v*x^3 - d*r^2*s*u^2*v*x*y^2 + d*r^2*s*u^2*v*x - d*r^2*s*u*v^2*x^2*y + d*r^2*s*u*v^2*y^3 - d*r^2*s*u*v^2*y - d*r*s^2*u^2*v*x^2*y + d*r*s^2*u^2*v*y^3 - d*r*s^2*u^2*v*y + d*r*s^2*u*v^2*x^3 - d*r*s^2*u*v^2*x*y^2 + d*r*s^2*u*v^2*x + r^3*u*x^3 - r^3*u*x*y^2 + r^3*u*x + r^3*v*x^2*y - r^3*v*y^3 + r^3*v*y + r^2*s*u*x^2*y - r^2*s*u*y^3 + r^2*s*u*y + r^2*s*v*x^3 - r^2*s*v*x*y^2 + r^2*s*v*x - r*s^2*u*x^3 + r*s^2*u*x*y^2 - r*s^2*u*x - r*s^2*v*x^2*y + r*s^2*v*y^3 - r*s^2*v*y + r*u*x^3 - r*u*x*y^2 + r*u*x + r*v*x^2*y - r*v*y^3 + r*v*y - s^3*u*x^2*y + s^3*u*y^3 - s^3*u*y - s^3*v*x^3 + s^3*v*x*y^2 - s^3*v*x + s*u*x^2*y - s*u*y^3 + s*u*y + s*v*x^3 - s*v*x*y^2 + s*v*x) * (-(u * u) + v * v - 1 - d * (u * u * (v * v)))
    + (-d*r*u^2*v*x^2*y - d*r*u*v^2*x*y^2 + d*s*u^2*v*x*y^2 + d*s*u*v^2*x^2*y - r*u^3*x^3 + r*u^3*x*y^2 - r*u^3*x - r*u^2*v*x^2*y + r*u^2*v*y^3 - r*u^2*v*y + r*u*v^2*x^3 - r*u*v^2*x*y^2 + r*u*v^2*x - r*u*x^3 + r*u*x*y^2 - r*u*x + r*v^3*x^2*y - r*v^3*y^3 + r*v^3*y - r*v*x^2*y + r*v*y^3 - r*v*y - s*u^3*x^2*y + s*u^3*y^3 - s*u^3*y - s*u^2*v*x^3 + s*u^2*v*x*y^2 - s*u^2*v*x + s*u*v^2*x^2*y - s*u*v^2*y^3 + s*u*v^2*y - s*u*x^2*y + s*u*y^3 - s*u*y + s*v^3*x^3 - s*v^3*x*y^2 + s*v^3*x - s*v*x^3 + s*v*x*y^2 - s*v*x) * (-(r * r) + s * s - 1 - d * (r * r * (s * s))) := by grind
theorem assocY_id (d x y u v r s : Int) : ((y * v + x * u) * (1 + (d * (x * u * (y * v)))) * s + (x * v + y * u) * (1 - (d * (x * u * (y * v)))) * r) * ((1 + (d * (u * r * (v * s)))) * (1 - (d * (u * r * (v * s)))) - d * ((u * s + v * r) * x * ((v * s + u * r) * y))) - ((v * s + u * r) * (1 + (d * (u * r * (v * s)))) * y + (u * s + v * r) * (1 - (d * (u * r * (v * s)))) * x) * ((1 + (d * (x * u * (y * v)))) * (1 - (d * (x * u * (y * v)))) - d * ((x * v + y * u) * r * ((y * v + x * u) * s))) =
    (-d^2*r^2*s*u^4*v^3*y + d^2*r^2*s*u^3*v^4*x + d^2*r*s^2*u^4*v^3*x - d^2*r*s^2*u^3*v^4*y - d*r^3*u^3*v^2*y - d*r^3*u^2*v^3*x - d*r^2*s*u^4*v*y - d*r^2*s*u*v^4*x + d*r*s^2*u^4*v*x + d*r*s^2*u*v^4*y - d*r*u^3*v^2*y - d*r*u^2*v^3*x + d*s^3*u^3*v^2*x + d*s^3*u^2*v^3*y - d*s*u^3*v^2*x - d*s*u^2*v^3*y) * (-(x * x) + y * y - 1 - d * (x * x * (y * y)))
    + (-d^2*r^3*s^2*u^2*v*x*y^2 - d^2*r^3*s^2*u*v^2*x^2*y + d^2*r^2*s^3*u^2*v*x^2*y + d^2*r^2*s^3*u*v^2*x*y^2 + d*r^3*s^2*u*x^2*y - d*r^3*s^2*u*y^3 + d*r^3*s^2*u*y + d*r^3*s^2*v*x^3 - d*r^3*s^2*v*x*y^2 + d*r^3*s^2*v*x + d*r^2*s^3*u*x^3 - d*r^2*s^3*u*x*y^2 + d*r^2*s^3*u*x + d*r^2*s^3*v*x^2*y - d*r^2*s^3*v*y^3 + d*r^2*s^3*v*y + d*r^2*s*u^2*v*x^2*y - d*r^2*s*u^2*v*y^3 + d*r^2*s*u^2*v*y - d*r^2*s*u*v^2*x^3 + d*r^2*s*u*v^2*x*y^2 - d*r^2*s*u*v^2*x - d*r*s^2*u^2*v*x^3 + d*r*s^2*u^2*v*x*y^2 - d*r*s^2*u^2*v*x + d*r*s^2*u*v^2*x^2*y - d*r*s^2*u*v^2*y^3 + d*r*s^2*u*v^2*y + r^3*u*x^2*y - r^3*u*y^3 + r^3*u*y + r^3*v*x^3 - r^3*v*x*y^2 + r^3*v*x + r^2*s*u*x^3 - r^2*s*u*x*y^2 + r^2*s*u*x + r^2*s*v*x^2*y - r^2*s*v*y^3 + r^2*s*v*y - r*s^2*u*x^2*y + r*s^2*u*y^3 - r*s^2*u*y - r*s^2*v*x^3 + r*s^2*v*x*y^2 - r*s^2*v*x + r*u*x^2*y - r*u*y^3 + r*u*y + r*v*x^3 - r*v*x*y^2 + r*v*x - s^3*u*x^3 + s^3*u*x*y^2 - s^3*u*x - s^3*v*x^2*y + s^3*v*y^3 - s^3*v*y + s*u*x^3 - s*u*x*y^2 + s*u*x + s*v*x^2*y - s*v*y^3 + s*v*y) * (-(u * u) + v * v - 1 - d * (u * u * (v * v)))
    + (d*r*u^2*v*x*y^2 + d*r*u*v^2*x^2*y - d*s*u^2*v*x^2*y - d*s*u*v^2*x*y^2 - r*u^3*x^2*y + r*u^3*y^3 - r*u^3*y - r*u^2*v*x^3 + r*u^2*v*x*y^2 - r*u^2*v*x + r*u*v^2*x^2*y - r*u*v^2*y^3 + r*u*v^2*y - r*u*x^2*y + r*u*y^3 - r*u*y + r*v^3*x^3 - r*v^3*x*y^2 + r*v^3*x - r*v*x^3 + r*v*x*y^2 - r*v*x - s*u^3*x^3 + s*u^3*x*y^2 - s*u^3*x - s*u^2*v*x^2*y + s*u^2*v*y^3 - s*u^2*v*y + s*u*v^2*x^3 - s*u*v^2*x*y^2 + s*u*v^2*x - s*u*x^3 + s*u*x*y^2 - s*u*x + s*v^3*x^2*y - s*v^3*y^3 + s*v^3*y - s*v*x^2*y + s*v*y^3 - s*v*y) * (-(r * r) + s * s - 1 - d * (r * r * (s * s))) := by grind

end Go.Proofs.Ytaojnmjmmfdfjaa.Field
end

/-! The order of the base is a prime: by certificates. -/
section
namespace Go.Proofs.Ytaojnmjmmfdfjaa.Prime
set_option linter.unusedVariables false

theorem q11 : IsP 11 := small_prime 11 2 (by decide +kernel)
theorem q23 : IsP 23 := small_prime 23 3 (by decide +kernel)
theorem q409477 : IsP 409477 := small_prime 409477 638 (by decide +kernel)
theorem q14741173 : IsP 14741173 := (cert 14741173 2 [2, 2, 3, 3, 409477] (by
  intro q hq
  simp only [List.mem_cons, List.not_mem_nil, or_false] at hq
  rcases hq with rfl | rfl | rfl | rfl | rfl
  · exact p2
  · exact p2
  · exact p3
  · exact p3
  · exact q409477
) (by decide +kernel)).1
theorem q58964693 : IsP 58964693 := (cert 58964693 2 [2, 2, 14741173] (by
  intro q hq
  simp only [List.mem_cons, List.not_mem_nil, or_false] at hq
  rcases hq with rfl | rfl | rfl
  · exact p2
  · exact p2
  · exact q14741173
) (by decide +kernel)).1
theorem q30703 : IsP 30703 := small_prime 30703 174 (by decide +kernel)
theorem q82163 : IsP 82163 := small_prime 82163 285 (by decide +kernel)
theorem q132667 : IsP 132667 := small_prime 132667 363 (by decide +kernel)
theorem q137849 : IsP 137849 := small_prime 137849 370 (by decide +kernel)
theorem q3044861653679985063343 : IsP 3044861653679985063343 := (cert 3044861653679985063343 5 [2, 3, 11, 30703, 82163, 132667, 137849] (by
  intro q hq
  simp only [List.mem_cons, List.not_mem_nil, or_false] at hq
  rcases hq with rfl | rfl | rfl | rfl | rfl | rfl | rfl
  · exact p2
  · exact p3
  · exact q11
  · exact q30703
  · exact q82163
  · exact q132667
  · exact q137849
) (by decide +kernel)).1
theorem q198211423230930754013084525763697 : IsP 198211423230930754013084525763697 := (cert 198211423230930754013084525763697 5 [2, 2, 2, 2, 3, 23, 58964693, 3044861653679985063343] (by
  intro q hq
  simp only [List.mem_cons, List.not_mem_nil, or_false] at hq
  rcases hq with rfl | rfl | rfl | rfl | rfl | rfl | rfl | rfl
  · exact p2
  · exact p2
  · exact p2
  · exact p2
  · exact p3
  · exact q23
  · exact q58964693
  · exact q3044861653679985063343
) (by decide +kernel)).1
theorem q269 : IsP 269 := small_prime 269 15 (by decide +kernel)
theorem q73 : IsP 73 := small_prime 73 7 (by decide +kernel)
theorem q307 : IsP 307 := small_prime 307 16 (by decide +kernel)
theorem q5879 : IsP 5879 := small_prime 5879 75 (by decide +kernel)
theorem q292386187 : IsP 292386187 := (cert 292386187 2 [2, 3, 3, 3, 3, 307, 5879] (by
  intro q hq
  simp only [List.mem_cons, List.not_mem_nil, or_false] at hq
  rcases hq with rfl | rfl | rfl | rfl | rfl | rfl | rfl
  · exact p2
  · exact p3
  · exact p3
  · exact p3
  · exact p3
  · exact q307
  · exact q5879
) (by decide +kernel)).1
theorem q213441916511 : IsP 213441916511 := (cert 213441916511 13 [2, 5, 73, 292386187] (by
  intro q hq
  simp only [List.mem_cons, List.not_mem_nil, or_false] at hq
  rcases hq with rfl | rfl | rfl | rfl
  · exact p2
  · exact p5
  · exact q73
  · exact q292386187
) (by decide +kernel)).1
theorem q1361 : IsP 1361 := small_prime 1361 35 (by decide +kernel)
theorem q2851 : IsP 2851 := small_prime 2851 52 (by decide +kernel)
theorem q41 : IsP 41 := small_prime 41 5 (by decide +kernel)
theorem q43 : IsP 43 := small_prime 43 5 (by decide +kernel)
theorem q531581 : IsP 531581 := small_prime 531581 728 (by decide +kernel)
theorem q1224481 : IsP 1224481 := small_prime 1224481 1105 (by decide +kernel)
theorem q1257559732178653 : IsP 1257559732178653 := (cert 1257559732178653 2 [2, 2, 3, 7, 23, 531581, 1224481] (by
  intro q hq
  simp only [List.mem_cons, List.not_mem_nil, or_false] at hq
  rcases hq with rfl | rfl | rfl | rfl | rfl | rfl | rfl
  · exact p2
  · exact p2
  · exact p3
  · exact p7
  · exact q23
  · exact q531581
  · exact q1224481
) (by decide +kernel)).1
theorem q4434155615661930479 : IsP 4434155615661930479 := (cert 4434155615661930479 17 [2, 41, 43, 1257559732178653] (by
  intro q hq
  simp only [List.mem_cons, List.not_mem_nil, or_false] at hq
  rcases hq with rfl | rfl | rfl | rfl
  · exact p2
  · exact q41
  · exact q43
  · exact q1257559732178653
) (by decide +kernel)).1
theorem q172054593956031949258510691 : IsP 172054593956031949258510691 := (cert 172054593956031949258510691 2 [2, 5, 1361, 2851, 4434155615661930479] (by
  intro q hq
  simp only [List.mem_cons, List.not_mem_nil, or_false] at hq
  rcases hq with rfl | rfl | rfl | rfl | rfl
  · exact p2
  · exact p5
  · exact q1361
  · exact q2851
  · exact q4434155615661930479
) (by decide +kernel)).1
theorem q19757330305831588566944191468367130476339 : IsP 19757330305831588566944191468367130476339 := (cert 19757330305831588566944191468367130476339 2 [2, 269, 213441916511, 172054593956031949258510691] (by
  intro q hq
  simp only [List.mem_cons, List.not_mem_nil, or_false] at hq
  rcases hq with rfl | rfl | rfl | rfl
  · exact p2
  · exact q269
  · exact q213441916511
  · exact q172054593956031949258510691
) (by decide +kernel)).1
theorem q276602624281642239937218680557139826668747 : IsP 276602624281642239937218680557139826668747 := (cert 276602624281642239937218680557139826668747 2 [2, 7, 19757330305831588566944191468367130476339] (by
  intro q hq
  simp only [List.mem_cons, List.not_mem_nil, or_false] at hq
  rcases hq with rfl | rfl | rfl
  · exact p2
  · exact p7
  · exact q19757330305831588566944191468367130476339
) (by decide +kernel)).1
theorem q7237005577332262213973186563042994240857116359379907606001950938285454250989 : IsP 7237005577332262213973186563042994240857116359379907606001950938285454250989 := (cert 7237005577332262213973186563042994240857116359379907606001950938285454250989 2 [2, 2, 3, 11, 198211423230930754013084525763697, 276602624281642239937218680557139826668747] (by
  intro q hq
  simp only [List.mem_cons, List.not_mem_nil, or_false] at hq
  rcases hq with rfl | rfl | rfl | rfl | rfl | rfl
  · exact p2
  · exact p2
  · exact p3
  · exact q11
  · exact q198211423230930754013084525763697
  · exact q276602624281642239937218680557139826668747
) (by decide +kernel)).1
end Go.Proofs.Ytaojnmjmmfdfjaa.Prime
end

/-! The curve's points: sums are complete, and a group (for the ladder). -/
section
namespace Go.Proofs.Ytaojnmjmmfdfjaa.Field
open Go Go.RowKit
open Go.Proofs.Ytaojnmjmmfdfjaa.Rely Go.Proofs.Ytaojnmjmmfdfjaa.Auto Go.Proofs.Ytaojnmjmmfdfjaa.Ladder
set_option linter.unusedVariables false
set_option maxHeartbeats 4000000

def dN : Int := 37095705934669439343138083508754565189542113879843219016388785533085940283555
def rootI : Int := 19681161376707505956807079304988542015446066515923890162744021073123829784752
theorem rootI_sq : rootI * rootI % p = p - 1 := by decide +kernel
theorem isN_self {a : Int} (h : isN a) : a % p = a := Int.emod_eq_of_lt h.1 h.2
theorem num_isN (n : Nat) (h : n < 1000000 := by decide) : isN (n : Int) := by unfold isN p; omega
theorem inv_one : invN 1 = 1 := by
  have h := inv_mul 1 (num_isN 1) (by decide)
  rw [Int.one_mul, isN_self (invN_isN 1)] at h
  exact h
theorem mul_one_inv {x : Int} (h : isN x) : x * invN 1 % p = x := by rw [inv_one, Int.mul_one, isN_self h]
theorem pow_modp (a : Int) : ∀ n : Nat, (a % p) ^ n % p = a ^ n % p
  | 0 => by rw [Int.pow_zero, Int.pow_zero]
  | n + 1 => by
    rw [Int.pow_succ, Int.pow_succ, modR, Int.mul_emod, pow_modp a n, ← Int.mul_emod]
/-! ### Numbers modulo p -/
theorem zc1 {e a c : Int} (ha : a % p = 0) (he : e = c * a) : e % p = 0 := by
  rw [he, Int.mul_emod, ha, Int.mul_zero]; rfl
theorem zc2 {e a b c d : Int} (ha : a % p = 0) (hb : b % p = 0) (he : e = c * a + d * b) : e % p = 0 := by
  rw [he, Int.add_emod, zc1 ha rfl, zc1 hb rfl]; rfl
theorem zc4 {e a b c d k l m n : Int} (ha : a % p = 0) (hb : b % p = 0) (hc : c % p = 0) (hd : d % p = 0) (he : e = k * a + l * b + m * c + n * d) : e % p = 0 := by
  rw [he, Int.add_emod, Int.add_emod (k * a + l * b), zc2 ha hb rfl, zc1 hc rfl, zc1 hd rfl]; rfl
theorem z_mul {a b : Int} (h : a * b % p = 0) : a % p = 0 ∨ b % p = 0 := by
  by_cases ha : a % p = 0
  · exact .inl ha
  · by_cases hb : b % p = 0
    · exact .inr hb
    · exact absurd h (mul_ne ha hb)
theorem z_sub {a b : Int} (h : (a - b) % p = 0) : a % p = b % p := Int.emod_eq_emod_iff_emod_sub_eq_zero.2 h
theorem sub_z {a b : Int} (h : a % p = b % p) : (a - b) % p = 0 := Int.emod_eq_emod_iff_emod_sub_eq_zero.1 h
theorem two_z {a : Int} (h : 2 * a % p = 0) : a % p = 0 := (z_mul h).resolve_left (by decide)
theorem inv_z {a : Int} (h : a % p ≠ 0) : (a * invN (a % p) - 1) % p = 0 := by
  have := inv_mul (a % p) (isN_mod _) h
  rw [modL] at this
  exact sub_z (by rw [this]; rfl)
/-! ### -d is no square -/
def hN : Nat := 28948022309329048855892746252171976963317496166410141009864396001978282409974
theorem dneg_half : Prime.pm 57896044618658097711785492504343953926634992332820282019728792003956564819949 256 ((p - dN).toNat) hN = 57896044618658097711785492504343953926634992332820282019728792003956564819948 := by decide +kernel
theorem dneg_pow : ((p - dN).toNat : Int) ^ hN % p = p - 1 := by
  have h := Prime.pm_eq 57896044618658097711785492504343953926634992332820282019728792003956564819949 256 ((p - dN).toNat) hN (by decide)
  rw [dneg_half] at h
  have h2 := cast_pow_mod ((p - dN).toNat) hN 57896044618658097711785492504343953926634992332820282019728792003956564819949
  rw [← h] at h2
  exact h2
theorem half_p (h : Nat) (e : h = hN) : 2 * h = 57896044618658097711785492504343953926634992332820282019728792003956564819949 - 1 := by rw [e]; decide
theorem pow_gen (h : Nat) (D a : Int) (hh : 2 * h = 57896044618658097711785492504343953926634992332820282019728792003956564819949 - 1) (hD : D ^ h % p = p - 1) (b : Int) (ha : a % p ≠ 0)
    (hs : D * (a * a) % p = b * b % p) : False := by
  have ha1 := fermat_int (a % p) (isN_mod _) ha (2 * h) hh
  rw [pow_modp] at ha1
  have e : (D * (a * a)) ^ h % p = (b * b) ^ h % p := by rw [← pow_modp (D * (a * a)), hs, pow_modp]
  have sq : ∀ c : Int, (c * c) ^ h = c ^ (2 * h) := fun c => by rw [Int.pow_mul, show c ^ 2 = c * c from by rw [Int.pow_succ, Int.pow_succ, Int.pow_zero, Int.one_mul]]
  rw [Int.mul_pow, sq, sq, Int.mul_emod, hD, ha1, Int.mul_one] at e
  rw [show (p - 1) % p = p - 1 by decide] at e
  by_cases hb : b % p = 0
  · rw [← pow_modp b, hb] at e
    have h0 : 0 < 2 * h := by omega
    rw [Int.zero_pow (by omega)] at e
    exact absurd e (by decide)
  · have hb1 := fermat_int (b % p) (isN_mod _) hb (2 * h) hh
    rw [pow_modp] at hb1
    rw [hb1] at e
    exact absurd e (by decide)
theorem nonsq {a b : Int} (ha : a % p ≠ 0) (h : (-dN * (a * a) - b * b) % p = 0) : False := by
  refine pow_gen hN ((p - dN).toNat : Int) a (half_p _ rfl) dneg_pow b ha ?_
  rw [← z_sub h]
  have e : ((p - dN).toNat : Int) = p - dN := by decide +kernel
  rw [e]
  refine Int.emod_eq_emod_iff_emod_sub_eq_zero.2 ?_
  rw [show (p - dN) * (a * a) - -dN * (a * a) = p * (a * a) by grind]
  exact Int.mul_emod_right ..
/-! ### The curve -/
def cv (x y : Int) : Int := -(x * x) + y * y - 1 - dN * (x * x * (y * y))
def onC (x y : Int) : Prop := cv x y % p = 0
def eps (x y u v : Int) : Int := dN * (x * u * (y * v))
theorem complete_id (d i s x y u v : Int) (hs : s * s = 1) : -d * ((i * x * y) * (i * u + s * v) * ((i * x * y) * (i * u + s * v))) - (i * x + s * (d * (x * u * (y * v))) * y) * (i * x + s * (d * (x * u * (y * v))) * y) =
    (-(x * x) * (d * (i * i) * (u * u) * (y * y) + 2 * d * i * u * s * v * (y * y) - d * (u * u) * (y * y) + d * (v * v) * (y * y) + 1)) * (i * i + 1) + -1 * (-(x * x) + y * y - 1 - d * (x * x * (y * y)))
      + (d * (x * x) * (y * y)) * (-(u * u) + v * v - 1 - d * (u * u * (v * v))) + (1 - y * y) * (d * (x * u * (y * v)) * (d * (x * u * (y * v))) - 1) := by grind
theorem complete {x y u v : Int} (h1 : onC x y) (h2 : onC u v) : (eps x y u v * eps x y u v - 1) % p ≠ 0 := fun he => by
  have hi : (rootI * rootI + 1) % p = 0 := by rw [← addL, rootI_sq]; rfl
  have hi0 : rootI % p ≠ 0 := fun e => by
    have := rootI_sq
    rw [← modL, e, Int.zero_mul] at this
    exact absurd this (by decide)
  have hx : eps x y u v % p ≠ 0 := fun e => by
    rw [← subL, ← modL, e, Int.zero_mul] at he
    exact absurd he (by decide)
  have hx' : ∀ a b : Int, eps x y u v = a * b → a % p ≠ 0 := fun a b e h => by
    apply hx; rw [e, ← modL, h, Int.zero_mul]; rfl
  have hX := hx' x (dN * (u * (y * v))) (by unfold eps; grind)
  have hY := hx' y (dN * (u * (x * v))) (by unfold eps; grind)
  have hU := hx' u (dN * (x * (y * v))) (by unfold eps; grind)
  have hb : (rootI * x * y) % p ≠ 0 := mul_ne (mul_ne hi0 hX) hY
  have key : ∀ s : Int, s * s = 1 → (rootI * u + s * v) % p = 0 := fun s hs => by
    apply Decidable.byContradiction
    intro hne
    exact nonsq (mul_ne hb hne) (zc4 hi h1 h2 he (complete_id dN rootI s x y u v hs))
  have k1 := key 1 rfl
  have k2 := key (-1) rfl
  have k3 : rootI * (2 * u) % p = 0 := zc2 k1 k2 (c := 1) (d := 1) (by grind)
  exact hU (two_z ((z_mul k3).resolve_left hi0))
theorem d1_ne {x y u v : Int} (h1 : onC x y) (h2 : onC u v) : (1 + eps x y u v) % p ≠ 0 := fun h => complete h1 h2 (zc1 h (c := eps x y u v - 1) (by grind))
theorem d2_ne {x y u v : Int} (h1 : onC x y) (h2 : onC u v) : (1 - eps x y u v) % p ≠ 0 := fun h => complete h1 h2 (zc1 h (c := -1 - eps x y u v) (by grind))
/-- the sum of two points of the curve -/
def aX (x y u v : Int) : Int := (x * v + y * u) * invN ((1 + eps x y u v) % p) % p
def aY (x y u v : Int) : Int := (y * v + x * u) * invN ((1 - eps x y u v) % p) % p
theorem closed_id (d x y u v : Int) : -((x * v + y * u) * (x * v + y * u) * ((1 - d * (x * u * (y * v))) * (1 - d * (x * u * (y * v))))) + (y * v + x * u) * (y * v + x * u) * ((1 + d * (x * u * (y * v))) * (1 + d * (x * u * (y * v))))
      - (1 + d * (x * u * (y * v))) * (1 + d * (x * u * (y * v))) * ((1 - d * (x * u * (y * v))) * (1 - d * (x * u * (y * v)))) - d * ((x * v + y * u) * (x * v + y * u) * ((y * v + x * u) * (y * v + x * u))) =
    (d^3*u^4*v^4*x^2*y^2 - d^2*u^4*v^4*x^2 + d^2*u^4*v^4*y^2 - d^2*u^4*v^4 - 2*d*u^4*v^4 - d*u^4*v^2*x^2 + d*u^4*v^2*y^2 + d*u^2*v^4*x^2 - d*u^2*v^4*y^2 - 2*d*u^2*v^2 - 2*u^4*v^2 + u^4 + 2*u^2*v^4 - 4*u^2*v^2 + v^4) * (-(x * x) + y * y - 1 - d * (x * x * (y * y)))
      + (d*u^2*v^2*x^4 + 2*d*u^2*v^2*x^2 + d*u^2*v^2*y^4 - 2*d*u^2*v^2*y^2 + d*u^2*v^2 + 2*u^2*v^2*x^2 - 2*u^2*v^2*y^2 + 2*u^2*v^2 - u^2*x^2 + u^2*y^2 - u^2 + v^2*x^2 - v^2*y^2 + v^2 + 1) * (-(u * u) + v * v - 1 - d * (u * u * (v * v))) := by grind
/-- numbers that times a and times b are given -/
theorem closed_frac (d n m a b i j X Y : Int) (hi : (a * i - 1) % p = 0) (hj : (b * j - 1) % p = 0) (hX : (X - n * i) % p = 0) (hY : (Y - m * j) % p = 0)
    (h : (-(n * n * (b * b)) + m * m * (a * a) - a * a * (b * b) - d * (n * n * (m * m))) % p = 0) : (-(X * X) + Y * Y - 1 - d * (X * X * (Y * Y))) % p = 0 := by
  have e1 : (-(n * i * (n * i)) + m * j * (m * j) - 1 - d * (n * i * (n * i) * (m * j * (m * j)))) % p = 0 := by
    refine zc4 h hi hj (d := 0) rfl (k := i * i * (j * j)) (l := -((m * m * (j * j)) * (a * i + 1)) + (a * i + 1) * (b * j) * (b * j)) (m := n * n * (i * i) * (b * j + 1) + (b * j + 1)) (n := 0) ?_
    grind
  refine zc4 e1 hX hY (d := 0) rfl (k := 1) (l := -(X + n * i) - d * (Y * Y) * (X + n * i)) (m := (Y + m * j) - d * (n * i * (n * i)) * (Y + m * j)) (n := 0) ?_
  grind
theorem closed {x y u v : Int} (h1 : onC x y) (h2 : onC u v) : onC (aX x y u v) (aY x y u v) := by
  unfold onC cv
  refine closed_frac dN (x * v + y * u) (y * v + x * u) (1 + eps x y u v) (1 - eps x y u v) _ _ _ _ (inv_z (d1_ne h1 h2)) (inv_z (d2_ne h1 h2)) (sub_z (Int.emod_emod ..)) (sub_z (Int.emod_emod ..)) ?_
  exact zc2 h1 h2 (closed_id dN x y u v)
theorem onC_zero : onC 0 1 := rfl
/-! ### The group -/
theorem eps_comm (x y u v : Int) : eps u v x y = eps x y u v := by unfold eps; grind
theorem aX_comm (x y u v : Int) : aX u v x y = aX x y u v := by
  unfold aX; rw [eps_comm, show u * y + v * x = x * v + y * u by grind]
theorem aY_comm (x y u v : Int) : aY u v x y = aY x y u v := by
  unfold aY; rw [eps_comm, show v * y + u * x = y * v + x * u by grind]
theorem aX_isN (x y u v : Int) : isN (aX x y u v) := isN_mod _
theorem aY_isN (x y u v : Int) : isN (aY x y u v) := isN_mod _
theorem frac_z {D i n X : Int} (hi : (D * i - 1) % p = 0) (hX : X = n * i % p) : (D * X - n) % p = 0 := by
  have h1 : (X - n * i) % p = 0 := sub_z (by rw [hX, Int.emod_emod])
  exact zc2 hi h1 (c := n) (d := D) (by grind)
theorem aX_frac {x y u v : Int} (h1 : onC x y) (h2 : onC u v) : ((1 + eps x y u v) * aX x y u v - (x * v + y * u)) % p = 0 := frac_z (inv_z (d1_ne h1 h2)) rfl
theorem aY_frac {x y u v : Int} (h1 : onC x y) (h2 : onC u v) : ((1 - eps x y u v) * aY x y u v - (y * v + x * u)) % p = 0 := frac_z (inv_z (d2_ne h1 h2)) rfl
theorem clearX (d D1 D2 N1 N2 X Y r s Z : Int) (h1 : (D1 * X - N1) % p = 0) (h2 : (D2 * Y - N2) % p = 0) (h3 : ((1 + d * (X * r * (Y * s))) * Z - (X * s + Y * r)) % p = 0) :
    ((D1 * D2 + d * (N1 * r * (N2 * s))) * Z - (N1 * D2 * s + N2 * D1 * r)) % p = 0 := by
  refine zc4 h1 h2 h3 (d := 0) rfl (k := D2 * s - d * r * s * Z * N2) (l := D1 * r - d * r * s * Z * (D1 * X)) (m := D1 * D2) (n := 0) ?_
  grind
theorem clearY (d D1 D2 N1 N2 X Y r s Z : Int) (h1 : (D1 * X - N1) % p = 0) (h2 : (D2 * Y - N2) % p = 0) (h3 : ((1 - d * (X * r * (Y * s))) * Z - (Y * s + X * r)) % p = 0) :
    ((D1 * D2 - d * (N1 * r * (N2 * s))) * Z - (N2 * D1 * s + N1 * D2 * r)) % p = 0 := by
  refine zc4 h1 h2 h3 (d := 0) rfl (k := D2 * r + d * r * s * Z * N2) (l := D1 * s + d * r * s * Z * (D1 * X)) (m := D1 * D2) (n := 0) ?_
  grind
theorem clearD (d D1 D2 N1 N2 X Y r s : Int) (h1 : (D1 * X - N1) % p = 0) (h2 : (D2 * Y - N2) % p = 0) (hd1 : D1 % p ≠ 0) (hd2 : D2 % p ≠ 0) (h3 : (1 + d * (X * r * (Y * s))) % p ≠ 0) :
    (D1 * D2 + d * (N1 * r * (N2 * s))) % p ≠ 0 := fun h => by
  have e : (D1 * D2 * (1 + d * (X * r * (Y * s)))) % p = 0 := by
    refine zc4 h h1 h2 (d := 0) rfl (k := 1) (l := d * r * s * (D2 * Y)) (m := d * r * s * N1) (n := 0) ?_
    grind
  exact mul_ne (mul_ne hd1 hd2) h3 e
theorem cross {DL NL DM NM X Y : Int} (h1 : (DL * X - NL) % p = 0) (h2 : (DM * Y - NM) % p = 0) (hG : (NL * DM - NM * DL) % p = 0) (hd1 : DL % p ≠ 0) (hd2 : DM % p ≠ 0) : X % p = Y % p := by
  have e : (DL * DM * (X - Y)) % p = 0 := by
    refine zc4 h1 h2 hG (d := 0) rfl (k := DM) (l := -DL) (m := 1) (n := 0) ?_
    grind
  exact z_sub ((z_mul e).resolve_left (mul_ne hd1 hd2))
theorem assocX {x y u v r s : Int} (h1 : onC x y) (h2 : onC u v) (h3 : onC r s) : aX (aX x y u v) (aY x y u v) r s = aX x y (aX u v r s) (aY u v r s) := by
  rw [← aX_comm x y (aX u v r s)]
  have a := aX_frac (closed h1 h2) h3
  have b := aX_frac (closed h2 h3) h1
  have cl := clearX dN _ _ _ _ _ _ r s _ (aX_frac h1 h2) (aY_frac h1 h2) a
  have cm := clearX dN _ _ _ _ _ _ x y _ (aX_frac h2 h3) (aY_frac h2 h3) b
  have dl := clearD dN _ _ _ _ _ _ r s (aX_frac h1 h2) (aY_frac h1 h2) (d1_ne h1 h2) (d2_ne h1 h2) (d1_ne (closed h1 h2) h3)
  have dm := clearD dN _ _ _ _ _ _ x y (aX_frac h2 h3) (aY_frac h2 h3) (d1_ne h2 h3) (d2_ne h2 h3) (d1_ne (closed h2 h3) h1)
  have := cross cl cm (zc4 h1 h2 h3 (d := 0) rfl (n := 0) ((assocX_id dN x y u v r s).trans (by rw [Int.mul_zero, Int.add_zero]; rfl))) dl dm
  rwa [isN_self (aX_isN ..), isN_self (aX_isN ..)] at this
theorem clearD' (d D1 D2 N1 N2 X Y r s : Int) (h1 : (D1 * X - N1) % p = 0) (h2 : (D2 * Y - N2) % p = 0) (hd1 : D1 % p ≠ 0) (hd2 : D2 % p ≠ 0) (h3 : (1 - d * (X * r * (Y * s))) % p ≠ 0) :
    (D1 * D2 - d * (N1 * r * (N2 * s))) % p ≠ 0 := fun h => by
  refine clearD (-d) D1 D2 N1 N2 X Y r s h1 h2 hd1 hd2 (fun h' => h3 ?_) ?_
  · rw [← h']; exact mod_hom (by grind)
  · rw [← h]; exact mod_hom (by grind)
theorem assocY {x y u v r s : Int} (h1 : onC x y) (h2 : onC u v) (h3 : onC r s) : aY (aX x y u v) (aY x y u v) r s = aY x y (aX u v r s) (aY u v r s) := by
  rw [← aY_comm x y (aX u v r s)]
  have a := aY_frac (closed h1 h2) h3
  have b := aY_frac (closed h2 h3) h1
  have cl := clearY dN _ _ _ _ _ _ r s _ (aX_frac h1 h2) (aY_frac h1 h2) a
  have cm := clearY dN _ _ _ _ _ _ x y _ (aX_frac h2 h3) (aY_frac h2 h3) b
  have dl := clearD' dN _ _ _ _ _ _ r s (aX_frac h1 h2) (aY_frac h1 h2) (d1_ne h1 h2) (d2_ne h1 h2) (d2_ne (closed h1 h2) h3)
  have dm := clearD' dN _ _ _ _ _ _ x y (aX_frac h2 h3) (aY_frac h2 h3) (d1_ne h2 h3) (d2_ne h2 h3) (d2_ne (closed h2 h3) h1)
  have := cross cl cm (zc4 h1 h2 h3 (d := 0) rfl (n := 0) ((assocY_id dN x y u v r s).trans (by rw [Int.mul_zero, Int.add_zero]; rfl))) dl dm
  rwa [isN_self (aY_isN ..), isN_self (aY_isN ..)] at this
/-- a point of the curve, its numbers below p -/
structure OnP (P : Int × Int) : Prop where
  x : isN P.1
  y : isN P.2
  c : onC P.1 P.2
def pAdd (P Q : Int × Int) : Int × Int := (aX P.1 P.2 Q.1 Q.2, aY P.1 P.2 Q.1 Q.2)
def pNeg (P : Int × Int) : Int × Int := ((0 - P.1) % p, P.2)
def pZero : Int × Int := (0, 1)
theorem pZero_on : OnP pZero := ⟨num_isN 0, num_isN 1, onC_zero⟩
theorem pAdd_on {P Q : Int × Int} (h : OnP P) (k : OnP Q) : OnP (pAdd P Q) := ⟨isN_mod _, isN_mod _, closed h.c k.c⟩
theorem pAdd_comm (P Q : Int × Int) : pAdd P Q = pAdd Q P := Prod.ext (aX_comm ..) (aY_comm ..)
theorem pAdd_assoc {P Q R : Int × Int} (h : OnP P) (k : OnP Q) (l : OnP R) : pAdd (pAdd P Q) R = pAdd P (pAdd Q R) := Prod.ext (assocX h.c k.c l.c) (assocY h.c k.c l.c)
theorem pAdd_zero {P : Int × Int} (h : OnP P) : pAdd P pZero = P := by
  have e : eps P.1 P.2 0 1 = 0 := by unfold eps; grind
  refine Prod.ext ?_ ?_
  · show (P.1 * 1 + P.2 * 0) * invN ((1 + eps P.1 P.2 0 1) % p) % p = P.1
    rw [e, show (1 + 0 : Int) % p = 1 from rfl, Int.mul_zero, Int.add_zero, Int.mul_one, mul_one_inv h.x]
  · show (P.2 * 1 + P.1 * 0) * invN ((1 - eps P.1 P.2 0 1) % p) % p = P.2
    rw [e, show (1 - 0 : Int) % p = 1 from rfl, Int.mul_zero, Int.add_zero, Int.mul_one, mul_one_inv h.y]
theorem pNeg_on {P : Int × Int} (h : OnP P) : OnP (pNeg P) := by
  refine ⟨isN_mod _, h.y, ?_⟩
  have e : ((0 - P.1) % p - (0 - P.1)) % p = 0 := by rw [subL, Int.sub_self]; rfl
  refine zc2 h.c e (c := 1) (d := -((0 - P.1) % p + (0 - P.1)) - dN * (P.2 * P.2) * ((0 - P.1) % p + (0 - P.1))) ?_
  show cv ((0 - P.1) % p) P.2 = _
  unfold cv
  generalize (0 - P.1) % p = q
  grind
theorem one_frac {D X n : Int} (hD : D % p ≠ 0) (h : (D * X - n) % p = 0) (e : (n - D * 1) % p = 0) : X % p = 1 % p := by
  have : (D * (X - 1)) % p = 0 := zc2 h e (c := 1) (d := 1) (by grind)
  exact z_sub ((z_mul this).resolve_left hD)
theorem neg_sum {x y q : Int} (h : onC x y) (hn : onC q y) (e : (q - (0 - x)) % p = 0) : aX x y q y = 0 ∧ aY x y q y = 1 := by
  have fx := aX_frac h hn
  have fy := aY_frac h hn
  have hX := isN_self (aX_isN x y q y)
  have hY := isN_self (aY_isN x y q y)
  have hc := h
  unfold onC cv at hc
  have d1 := d1_ne h hn
  have d2 := d2_ne h hn
  generalize aX x y q y = X at *
  generalize aY x y q y = Y at *
  constructor
  · have : X % p = 0 := by
      refine (z_mul (a := 1 + eps x y q y) ?_).resolve_left d1
      exact zc2 fx e (c := 1) (d := y) (by grind)
    rwa [hX] at this
  · have := one_frac d2 fy (by
      refine zc2 hc e (c := 1) (d := x + dN * (x * (y * y))) ?_
      unfold eps
      grind)
    rwa [hY] at this
theorem pAdd_neg {P : Int × Int} (h : OnP P) : pAdd P (pNeg P) = pZero := by
  have e : ((0 - P.1) % p - (0 - P.1)) % p = 0 := by rw [subL, Int.sub_self]; rfl
  have r := neg_sum h.c (pNeg_on h).c e
  exact Prod.ext r.1 r.2
def nmul : Nat → Int × Int → Int × Int
  | 0, _ => pZero
  | n + 1, P => pAdd (nmul n P) P
theorem nmul_on {P : Int × Int} (h : OnP P) : ∀ n, OnP (nmul n P)
  | 0 => pZero_on
  | n + 1 => pAdd_on (nmul_on h n) h
theorem nmul_add {P : Int × Int} (h : OnP P) (m : Nat) : ∀ n, nmul (m + n) P = pAdd (nmul m P) (nmul n P)
  | 0 => (pAdd_zero (nmul_on h m)).symm
  | n + 1 => by
    show pAdd (nmul (m + n) P) P = pAdd (nmul m P) (pAdd (nmul n P) P)
    rw [nmul_add h m n, pAdd_assoc (nmul_on h m) (nmul_on h n) h]
theorem nmul_one {P : Int × Int} (h : OnP P) : nmul 1 P = P := by
  show pAdd pZero P = P
  rw [pAdd_comm, pAdd_zero h]
theorem nmul_zero : ∀ n, nmul n pZero = pZero
  | 0 => rfl
  | n + 1 => by
    show pAdd (nmul n pZero) pZero = pZero
    rw [nmul_zero n, pAdd_zero pZero_on]
theorem nmul_mul {P : Int × Int} (h : OnP P) (m : Nat) : ∀ n, nmul (n * m) P = nmul n (nmul m P)
  | 0 => by rw [Nat.zero_mul]; rfl
  | n + 1 => by
    rw [Nat.succ_mul, nmul_add h, nmul_mul h m n]
    rfl
theorem nmul_mod {P : Int × Int} (h : OnP P) (L : Nat) (hL : nmul L P = pZero) (n : Nat) : nmul (n % L) P = nmul n P := by
  have e := Nat.div_add_mod n L
  have : nmul n P = pAdd (nmul (L * (n / L)) P) (nmul (n % L) P) := by rw [← nmul_add h, e]
  rw [this, Nat.mul_comm, nmul_mul h, hL, nmul_zero, pAdd_comm, pAdd_zero (nmul_on h _)]

end Go.Proofs.Ytaojnmjmmfdfjaa.Field
end

/-! What the ladder comes to: the u-coordinate of a multiple of a point. -/
section
namespace Go.Proofs.Ytaojnmjmmfdfjaa.Field
open Go Go.RowKit
open Go.Proofs.Ytaojnmjmmfdfjaa.Rely Go.Proofs.Ytaojnmjmmfdfjaa.Auto Go.Proofs.Ytaojnmjmmfdfjaa.Ladder
set_option linter.unusedVariables false
set_option maxHeartbeats 4000000

/-- (X : Z) is the u-coordinate of a point with this y -/
def RepU (X Z y : Int) : Prop := (X + Z) % p ≠ 0 ∧ (X - Z - y * (X + Z)) % p = 0
theorem repU_mod {X Z y : Int} (h : RepU X Z y) : RepU (X % p) (Z % p) y := by
  refine ⟨by rw [addL, addR]; exact h.1, ?_⟩
  have e1 : (X % p - X) % p = 0 := sub_z (Int.emod_emod ..)
  have e2 : (Z % p - Z) % p = 0 := sub_z (Int.emod_emod ..)
  exact zc4 h.2 e1 e2 (d := 0) rfl (k := 1) (l := 1 - y) (m := -1 - y) (n := 0) (by grind)
/-- out of c (O1 + O2) = K S and c (O1 - O2) = K D, D = y S -/
theorem repU_of {O1 O2 c K S D y : Int} (h1 : (c * (O1 + O2) - K * S) % p = 0) (h2 : (c * (O1 - O2) - K * D) % p = 0) (h3 : (D - y * S) % p = 0) (hc : c % p ≠ 0) (hK : K % p ≠ 0) (hS : S % p ≠ 0) : RepU O1 O2 y := by
  constructor
  · intro h
    have e : (K * S) % p = 0 := zc2 h h1 (c := c) (d := -1) (by grind)
    exact mul_ne hK hS e
  · have e : (c * (O1 - O2 - y * (O1 + O2))) % p = 0 := zc4 h1 h2 h3 (d := 0) rfl (k := -y) (l := 1) (m := K) (n := 0) (by grind)
    exact (z_mul e).resolve_left hc
theorem add_id (d x y u v b r : Int) : 2 * (y * v) * (1 + d * (x * u * (y * v))) * (1 - d * (x * u * (y * v))) - (1 - d * (x * u * (y * v))) * ((1 + d * (x * u * (y * v))) * b) * (y * y + v * v) - (1 + d * (x * u * (y * v))) * ((1 - d * (x * u * (y * v))) * r) * (y * y + v * v - 2 * b * (y * v)) =
    (2 * (y * v) * (d * (u * u * (v * v)) + u * u)) * (-(x * x) + y * y - 1 - d * (x * x * (y * y))) + (2 * (y * v) * (y * y - 1)) * (-(u * u) + v * v - 1 - d * (u * u * (v * v)))
      + (-(1 - d * (x * u * (y * v))) * (y * y + v * v) + 2 * (y * v) * ((1 - d * (x * u * (y * v))) * r)) * ((1 + d * (x * u * (y * v))) * b - (y * v - x * u)) + (-(1 + d * (x * u * (y * v))) * (y * y + v * v) + 2 * (y * v) * (y * v - x * u)) * ((1 - d * (x * u * (y * v))) * r - (y * v + x * u)) := by grind
/-- the sum of two points whose difference has the y-coordinate b -/
theorem dadd {x y u v b X Z Y V w : Int} (h1 : onC x y) (h2 : onC u v) (hb : ((1 + eps x y u v) * b - (y * v - x * u)) % p = 0) (hp : (1 + b) % p ≠ 0) (hm : (1 - b) % p ≠ 0) (hw : (w * (1 - b) - (1 + b)) % p = 0) (r1 : RepU X Z y) (r2 : RepU Y V v) :
    RepU (((Y - V) * (X + Z) + (Y + V) * (X - Z)) * ((Y - V) * (X + Z) + (Y + V) * (X - Z))) (w * (((Y - V) * (X + Z) - (Y + V) * (X - Z)) * ((Y - V) * (X + Z) - (Y + V) * (X - Z)))) (aY x y u v) := by
  have h3 := aY_frac h1 h2
  have d1 := d1_ne h1 h2
  have d2 := d2_ne h1 h2
  generalize aY x y u v = r at *
  have hk : (2 * (y * v) - b * (y * y + v * v) - r * (y * y + v * v - 2 * b * (y * v))) % p = 0 := by
    have e : ((1 + eps x y u v) * (1 - eps x y u v) * (2 * (y * v) - b * (y * y + v * v) - r * (y * y + v * v - 2 * b * (y * v)))) % p = 0 := by
      refine zc4 h1 h2 hb h3 ((?_ : _ = _).trans (add_id dN x y u v b r))
      unfold eps; grind
    exact (z_mul e).resolve_left (mul_ne d1 d2)
  have hS : (y * y + v * v - 2 * b * (y * v)) % p ≠ 0 := fun hs => by
    have hd : (2 * (y * v) - b * (y * y + v * v)) % p = 0 := zc2 hk hs (c := 1) (d := r) (by grind)
    have q1 : ((1 - b) * ((y + v) * (y + v))) % p = 0 := zc2 hs hd (c := 1) (d := 1) (by grind)
    have q2 : ((1 + b) * ((v - y) * (v - y))) % p = 0 := zc2 hs hd (c := 1) (d := -1) (by grind)
    have s1 : (y + v) % p = 0 := (z_mul ((z_mul q1).resolve_left hm)).elim id id
    have s2 : (v - y) % p = 0 := (z_mul ((z_mul q2).resolve_left hp)).elim id id
    have y0 : y % p = 0 := two_z (zc2 s1 s2 (c := 1) (d := -1) (by grind))
    have v0 : v % p = 0 := zc2 s2 y0 (c := 1) (d := 1) (by grind)
    have c1 : (x * x + 1) % p = 0 := zc2 h1 y0 (c := -1) (d := y - dN * (x * x * y)) (by unfold cv; grind)
    have c2 : (u * u + 1) % p = 0 := zc2 h2 v0 (c := -1) (d := v - dN * (u * u * v)) (by unfold cv; grind)
    have c3 : (b + x * u) % p = 0 := zc2 hb y0 (c := 1) (d := v - dN * (x * u * v) * b) (by unfold eps; grind)
    have c4 : ((1 - b) * (1 + b)) % p = 0 := zc4 c1 c2 c3 (d := 0) rfl (k := -(u * u)) (l := 1) (m := x * u - b) (n := 0) (by grind)
    exact mul_ne hm hp c4
  have hT : ((X + Z) * (Y + V) * ((X + Z) * (Y + V))) % p ≠ 0 := mul_ne (mul_ne r1.1 r2.1) (mul_ne r1.1 r2.1)
  have f1 := r1.2
  have f2 := r2.2
  have hA : ((Y - V) * (X + Z) + (Y + V) * (X - Z) - (X + Z) * (Y + V) * (y + v)) % p = 0 := zc2 f1 f2 (c := Y + V) (d := X + Z) (by grind)
  have hB : ((Y - V) * (X + Z) - (Y + V) * (X - Z) - (X + Z) * (Y + V) * (v - y)) % p = 0 := zc2 f1 f2 (c := -(Y + V)) (d := X + Z) (by grind)
  generalize (Y - V) * (X + Z) + (Y + V) * (X - Z) = A at *
  generalize (Y - V) * (X + Z) - (Y + V) * (X - Z) = B at *
  generalize (X + Z) * (Y + V) = M at *
  refine repU_of (c := 1 - b) (K := M * M * 2) (S := y * y + v * v - 2 * b * (y * v)) (D := 2 * (y * v) - b * (y * y + v * v)) ?_ ?_ hk hm (mul_ne hT (by decide)) hS
  · exact zc4 hA hB hw (d := 0) rfl (k := (1 - b) * (A + M * (y + v))) (l := (1 + b) * (B + M * (v - y))) (m := B * B) (n := 0) (by grind)
  · exact zc4 hA hB hw (d := 0) rfl (k := (1 - b) * (A + M * (y + v))) (l := -(1 + b) * (B + M * (v - y))) (m := -(B * B)) (n := 0) (by grind)
theorem d_val : (dN * 121666 + 121665) % p = 0 := by decide +kernel
theorem dbl_id (d x y r : Int) : 121666 * ((1 - d * (x * x * (y * y))) * (2 * (y * y) - 1 - 121665 * ((1 - y * y) * (1 - y * y))) - (1 - d * (x * x * (y * y))) * r * (1 + 121665 * ((1 - y * y) * (1 - y * y)))) =
    (2 * (1 - y * y) * 121666 + 121666 * (2 * (y * y) - 1 - 121665 * ((1 - y * y) * (1 - y * y)))) * 0 + 0 * (d * 121666 + 121665) + (-121666 * (1 + 121665 * ((1 - y * y) * (1 - y * y)))) * ((1 - d * (x * x * (y * y))) * r - (y * y + x * x)) + 121666 * ((1 - d * (x * x * (y * y))) * (2 * (y * y) - 1 - 121665 * ((1 - y * y) * (1 - y * y))) - (y * y + x * x) * (1 + 121665 * ((1 - y * y) * (1 - y * y)))) := by grind
theorem dbl_id2 (d x y : Int) : (1 - d * (x * x * (y * y))) * (2 * (y * y) - 1 - 121665 * ((1 - y * y) * (1 - y * y))) - (y * y + x * x) * (1 + 121665 * ((1 - y * y) * (1 - y * y))) =
    (2 * (1 - y * y) * 121666 + (2 * (y * y) - 1 - 121665 * ((1 - y * y) * (1 - y * y)))) * (-(x * x) + y * y - 1 - d * (x * x * (y * y))) + (2 * (1 - y * y) * (x * x * (y * y))) * (d * 121666 + 121665) := by grind
/-- twice a point -/
theorem ddbl {x y X Z : Int} (h1 : onC x y) (r1 : RepU X Z y) :
    RepU ((X + Z) * (X + Z) * ((X - Z) * (X - Z))) (((X + Z) * (X + Z) - (X - Z) * (X - Z)) * ((X + Z) * (X + Z) + ((X + Z) * (X + Z) - (X - Z) * (X - Z)) * 121665)) (aY x y x y) := by
  have h3 := aY_frac h1 h1
  have d2 := d2_ne h1 h1
  generalize aY x y x y = r at *
  have g1 : ((1 - eps x y x y) * (2 * (y * y) - 1 - 121665 * ((1 - y * y) * (1 - y * y))) - (y * y + x * x) * (1 + 121665 * ((1 - y * y) * (1 - y * y)))) % p = 0 := zc2 h1 d_val ((dbl_id2 dN x y).trans rfl)
  have hk : ((2 * (y * y) - 1 - 121665 * ((1 - y * y) * (1 - y * y))) - r * (1 + 121665 * ((1 - y * y) * (1 - y * y)))) % p = 0 := by
    have e : ((1 - eps x y x y) * ((2 * (y * y) - 1 - 121665 * ((1 - y * y) * (1 - y * y))) - r * (1 + 121665 * ((1 - y * y) * (1 - y * y))))) % p = 0 := zc2 g1 h3 (c := 1) (d := -(1 + 121665 * ((1 - y * y) * (1 - y * y)))) (by grind)
    exact (z_mul e).resolve_left d2
  have hS : (1 + 121665 * ((1 - y * y) * (1 - y * y))) % p ≠ 0 := fun hs => by
    have hd : (2 * (y * y) - 1 - 121665 * ((1 - y * y) * (1 - y * y))) % p = 0 := zc2 hk hs (c := 1) (d := r) (by grind)
    have hy : (2 * (y * y)) % p = 0 := zc2 hs hd (c := 1) (d := 1) (by grind)
    have y0 : y % p = 0 := (z_mul (two_z hy)).elim id id
    have : (121666 : Int) % p = 0 := zc2 hs y0 (c := 1) (d := 121665 * (2 * y - y * y * y)) (by grind)
    exact absurd this (by decide)
  have f1 := r1.2
  have hq : ((X - Z) * (X - Z) - y * y * ((X + Z) * (X + Z))) % p = 0 := zc1 f1 (c := (X - Z) + y * (X + Z)) (by grind)
  have hT : ((X + Z) * (X + Z) * ((X + Z) * (X + Z))) % p ≠ 0 := mul_ne (mul_ne r1.1 r1.1) (mul_ne r1.1 r1.1)
  generalize (X - Z) * (X - Z) = q at *
  generalize (X + Z) * (X + Z) = s at *
  refine repU_of (c := 1) (K := s * s) (S := 1 + 121665 * ((1 - y * y) * (1 - y * y))) (D := 2 * (y * y) - 1 - 121665 * ((1 - y * y) * (1 - y * y))) ?_ ?_ hk (by decide) hT hS
  · exact zc1 hq (c := s - (s + 2 * 121665 * s * (1 - y * y) - 121665 * (q - y * y * s))) (by grind)
  · exact zc1 hq (c := s + (s + 2 * 121665 * s * (1 - y * y) - 121665 * (q - y * y * s))) (by grind)
end Go.Proofs.Ytaojnmjmmfdfjaa.Field
end

/-! The ladder multiplies points; two and three agree. -/
section
namespace Go.Proofs.Ytaojnmjmmfdfjaa.Field
open Go Go.RowKit
open Go.Proofs.Ytaojnmjmmfdfjaa.Rely Go.Proofs.Ytaojnmjmmfdfjaa.Auto Go.Proofs.Ytaojnmjmmfdfjaa.Ladder
set_option linter.unusedVariables false
set_option maxHeartbeats 4000000

/-- w is the u-coordinate of a point that isn't its own negative -/
structure BaseU (w : Int) (B : Int × Int) : Prop where
  on : OnP B
  p1 : (1 + B.2) % p ≠ 0
  m1 : (1 - B.2) % p ≠ 0
  hw : (w * (1 - B.2) - (1 + B.2)) % p = 0
theorem diff_frac {B : Int × Int} (hB : OnP B) (n : Nat) : ((1 + eps (nmul n B).1 (nmul n B).2 (nmul (n + 1) B).1 (nmul (n + 1) B).2) * B.2 - ((nmul n B).2 * (nmul (n + 1) B).2 - (nmul n B).1 * (nmul (n + 1) B).1)) % p = 0 := by
  have hP := nmul_on hB n
  have hQ := nmul_on hB (n + 1)
  have hd : pAdd (nmul (n + 1) B) (pNeg (nmul n B)) = B := by
    show pAdd (pAdd (nmul n B) B) (pNeg (nmul n B)) = B
    rw [pAdd_comm (nmul n B) B, pAdd_assoc hB hP (pNeg_on hP), pAdd_neg hP, pAdd_zero hB]
  generalize nmul (n + 1) B = Q at *
  generalize nmul n B = P at *
  have f := aY_frac hQ.c (pNeg_on hP).c
  have hy : aY Q.1 Q.2 (pNeg P).1 (pNeg P).2 = B.2 := congrArg Prod.snd hd
  rw [hy] at f
  have e : ((0 - P.1) % p - (0 - P.1)) % p = 0 := by rw [subL, Int.sub_self]; rfl
  refine zc2 f e (c := 1) (d := dN * (Q.1 * Q.2 * P.2) * B.2 + Q.1) ?_
  show (1 + dN * (P.1 * Q.1 * (P.2 * Q.2))) * B.2 - (P.2 * Q.2 - P.1 * Q.1) = 1 * ((1 - dN * (Q.1 * ((0 - P.1) % p) * (Q.2 * P.2))) * B.2 - (Q.2 * P.2 + Q.1 * ((0 - P.1) % p))) + _
  generalize (0 - P.1) % p = q
  grind
def bvf (n : Nat) (bs : List Bool) : Nat := bs.foldl (fun n b => 2 * n + if b then 1 else 0) n
/-- near is n times the point, far n + 1 times -/
def Near (B : Int × Int) (n : Nat) (s : LSt) : Prop := RepU s.1 s.2.1 (nmul n B).2 ∧ RepU s.2.2.1 s.2.2.2 (nmul (n + 1) B).2
theorem near_rung {w : Int} {B : Int × Int} (hB : BaseU w B) {n : Nat} {s : LSt} (b : Bool) (h : Near B n s) : Near B (2 * n + if b then 1 else 0) (rung w s b) := by
  obtain ⟨X, Z, Y, V⟩ := s
  obtain ⟨h1, h2⟩ := h
  have hP := nmul_on hB.on n
  have hQ := nmul_on hB.on (n + 1)
  have hd := diff_frac hB.on n
  have a1 : (nmul (2 * n) B).2 = aY (nmul n B).1 (nmul n B).2 (nmul n B).1 (nmul n B).2 := by rw [Nat.two_mul, nmul_add hB.on]; rfl
  have a2 : (nmul (2 * n + 1) B).2 = aY (nmul n B).1 (nmul n B).2 (nmul (n + 1) B).1 (nmul (n + 1) B).2 := by rw [show 2 * n + 1 = n + (n + 1) by omega, nmul_add hB.on]; rfl
  have a3 : (nmul (2 * n + 1 + 1) B).2 = aY (nmul (n + 1) B).1 (nmul (n + 1) B).2 (nmul (n + 1) B).1 (nmul (n + 1) B).2 := by rw [show 2 * n + 1 + 1 = (n + 1) + (n + 1) by omega, nmul_add hB.on]; rfl
  generalize nmul (n + 1) B = Q at *
  generalize nmul n B = P at *
  cases b with
  | false =>
    simp only [rung, Bool.false_eq_true, if_false, lstep_poly]
    refine ⟨?_, ?_⟩
    · show RepU _ _ (nmul (2 * n + 0) B).2
      rw [Nat.add_zero, a1]
      exact repU_mod (ddbl hP.c h1)
    · show RepU _ _ (nmul (2 * n + 0 + 1) B).2
      rw [Nat.add_zero, a2]
      exact repU_mod (dadd hP.c hQ.c hd hB.p1 hB.m1 hB.hw h1 h2)
  | true =>
    have hd' : ((1 + eps Q.1 Q.2 P.1 P.2) * B.2 - (Q.2 * P.2 - Q.1 * P.1)) % p = 0 := by
      rw [eps_comm, Int.mul_comm Q.2, Int.mul_comm Q.1]; exact hd
    simp only [rung, if_true, lstep_poly]
    refine ⟨?_, ?_⟩
    · show RepU _ _ (nmul (2 * n + 1) B).2
      rw [a2, ← aY_comm]
      exact repU_mod (dadd hQ.c hP.c hd' hB.p1 hB.m1 hB.hw h2 h1)
    · show RepU _ _ (nmul (2 * n + 1 + 1) B).2
      rw [a3]
      exact repU_mod (ddbl hQ.c h2)
theorem near_fold {w : Int} {B : Int × Int} (hB : BaseU w B) : ∀ (bs : List Bool) (n : Nat) (s : LSt), Near B n s → Near B (bvf n bs) (bs.foldl (rung w) s)
  | [], n, s, h => h
  | b :: bs, n, s, h => near_fold hB bs _ _ (near_rung hB b h)
theorem near_start {w : Int} {B : Int × Int} (hB : BaseU w B) : Near B 0 (1, 0, w, 1) := by
  refine ⟨(show RepU 1 0 1 from ⟨by decide, by decide⟩), ?_⟩
  show RepU w 1 (nmul 1 B).2
  rw [nmul_one hB.on]
  refine ⟨fun h => ?_, zc1 hB.hw (c := 1) (by grind)⟩
  have : (2 : Int) % p = 0 := zc2 hB.hw h (c := -1) (d := 1 - B.2) (by grind)
  exact absurd this (by decide)
theorem rungs_near {w : Int} {B : Int × Int} (hB : BaseU w B) (bs : List Bool) : Near B (bvf 0 bs) (rungs w bs) := near_fold hB bs 0 _ (near_start hB)
/-- the u-coordinate that a point's y has -/
def uP (y : Int) : Int := (1 + y) * invN ((1 - y) % p) % p
def half2 : Int := 28948022309329048855892746252171976963317496166410141009864396001978282409975
theorem half2_z : (2 * half2 - 1) % p = 0 := by decide +kernel
theorem rep_out {X Z y : Int} (h : RepU X Z y) (hX : isN X) (hZ : isN Z) : X * invN Z % p = uP y := by
  have hl : ((X + Z) * half2) % p ≠ 0 := mul_ne h.1 (by decide +kernel)
  have e1 : X % p = (X + Z) * half2 * (1 + y) % p := z_sub (zc2 half2_z h.2 (c := -X) (d := half2) (by grind))
  have e2 : Z % p = (X + Z) * half2 * (1 - y) % p := z_sub (zc2 half2_z h.2 (c := -Z) (d := -half2) (by grind))
  rw [isN_self hX, ← modR] at e1
  rw [isN_self hZ, ← modR] at e2
  have := out_sc hl (isN_mod (1 + y)) (isN_mod (1 - y))
  rw [← e1, ← e2, modL] at this
  exact this
theorem uP_isN (y : Int) : isN (uP y) := isN_mod _
theorem outN_rungs {w : Int} {B : Int × Int} (hB : BaseU w B) (hw : isN w) (bs : List Bool) : outN w (rungs w bs) = uP (nmul (bvf 0 bs) B).2 := by
  have hL := rungs_isL w hw bs
  exact rep_out (rungs_near hB bs).1 hL.1 hL.2.1
theorem baseU_of {P : Int × Int} (h : OnP P) (hp : (1 + P.2) % p ≠ 0) (hm : (1 - P.2) % p ≠ 0) : BaseU (uP P.2) P := by
  refine ⟨h, hp, hm, ?_⟩
  have h1 := inv_z hm
  have h2 : (uP P.2 - (1 + P.2) * invN ((1 - P.2) % p)) % p = 0 := sub_z (Int.emod_emod ..)
  exact zc2 h1 h2 (c := 1 + P.2) (d := 1 - P.2) (by grind)
theorem uP_ne {y : Int} (hp : (1 + y) % p ≠ 0) (hm : (1 - y) % p ≠ 0) : uP y ≠ 0 := by
  refine mul_ne hp fun e => ?_
  have h1 := inv_z hm
  rw [← subL, ← modR, e, Int.mul_zero] at h1
  exact absurd h1 (by decide)
/-! ### Points that are their own negatives -/
theorem x_zero {P : Int × Int} (h : OnP P) (hy : (P.2 * P.2 - 1) % p = 0) : P.1 = 0 := by
  have e : ((1 + dN) * (P.1 * P.1)) % p = 0 := zc2 h.c hy (c := -1) (d := 1 - dN * (P.1 * P.1)) (by unfold cv; grind)
  have := (z_mul ((z_mul e).resolve_left (by decide +kernel))).elim id id
  rwa [isN_self h.x] at this
theorem y_one {P : Int × Int} (h : OnP P) (hy : (1 - P.2) % p = 0) : P = pZero := by
  refine Prod.ext (x_zero h (zc1 hy (c := -(1 + P.2)) (by grind))) ?_
  have : P.2 % p = 1 % p := z_sub (zc1 hy (c := -1) (by grind))
  rw [isN_self h.y] at this
  exact this
theorem y_minus {P : Int × Int} (h : OnP P) (hy : (1 + P.2) % p = 0) : pAdd P P = pZero := by
  have hx := x_zero h (zc1 hy (c := P.2 - 1) (by grind))
  have e : pNeg P = P := Prod.ext (by show (0 - P.1) % p = P.1; rw [hx]; rfl) rfl
  have := pAdd_neg h
  rwa [e] at this
/-! ### The base and its order -/
def B9 : Int × Int := (15112221349535400772501151409588531511454012693041857206046113283949847762202, 46316835694926478169428394003475163141307993866256225615783033603165251855960)
theorem B9_base : BaseU 9 B9 := ⟨⟨⟨by decide, by decide⟩, ⟨by decide, by decide⟩, by unfold onC; decide +kernel⟩, by decide +kernel, by decide +kernel, by decide +kernel⟩
def ladZ (u e : Nat) : Nat → Nat → Nat → Nat → Nat → Nat
  | 0, x, z, y, v => z
  | f + 1, x, z, y, v => bif Nat.beq (e / 2 ^ f % 2) 1 then lsN (fun a b c d => ladZ u e f c d a b) u y v x z else lsN (fun a b c d => ladZ u e f a b c d) u x z y v
theorem ladZ_cast (u e : Nat) : ∀ (f x z y v : Nat), x < PN → z < PN → y < PN → v < PN → ((ladZ u e f x z y v : Nat) : Int) = ((bitsDown e f).foldl (rung u) ((x : Int), (z : Int), (y : Int), (v : Int))).2.1
  | 0, x, z, y, v, hx, hz, hy, hv => rfl
  | f + 1, x, z, y, v, hx, hz, hy, hv => by
    rw [ladZ, bitsDown, List.foldl_cons]
    cases Nat.beq (e / 2 ^ f % 2) 1 with
    | true =>
      rw [_root_.cond_true]
      obtain ⟨a, b, c, d, ha, hb, hc, hd, h1, h2⟩ := ls_cast (fun a b c d => ladZ u e f c d a b) u y v x z hy hv hx hz
      rw [h1]
      simp only [rung, if_true, h2]
      exact ladZ_cast u e f c d a b hc hd ha hb
    | false =>
      rw [_root_.cond_false]
      obtain ⟨a, b, c, d, ha, hb, hc, hd, h1, h2⟩ := ls_cast (fun a b c d => ladZ u e f a b c d) u x z y v hx hz hy hv
      rw [h1]
      simp only [rung, Bool.false_eq_true, if_false, h2]
      exact ladZ_cast u e f a b c d ha hb hc hd
def LN : Nat := 7237005577332262213973186563042994240857116359379907606001950938285454250989
theorem ord_lad : ladZ 9 LN 253 1 0 9 1 = 0 := by decide +kernel
theorem ord_bits : bvf 0 (bitsDown LN 253) = LN := by decide +kernel
theorem ord_gen (L : Nat) (ord_lad : ladZ 9 L 253 1 0 9 1 = 0) (ord_bits : bvf 0 (bitsDown L 253) = L) : nmul L B9 = pZero := by
  have h := (rungs_near B9_base (bitsDown L 253)).1
  have hz : (rungs 9 (bitsDown L 253)).2.1 = 0 := by
    have := ladZ_cast 9 L 253 1 0 9 1 (by decide) (by decide) (by decide) (by decide)
    rw [ord_lad] at this
    exact this.symm
  rw [hz, ord_bits] at h
  refine y_one (nmul_on B9_base.on L) ?_
  have e : ((rungs 9 (bitsDown L 253)).1 * (1 - (nmul L B9).2)) % p = 0 := zc1 h.2 (c := 1) (by grind)
  refine (z_mul e).resolve_left fun q => h.1 ?_
  rw [Int.add_zero]; exact q
theorem ord_mul : nmul LN B9 = pZero := ord_gen LN ord_lad ord_bits
theorem gcd_mul {P : Int × Int} (h : OnP P) : ∀ m n, nmul m P = pZero → nmul n P = pZero → nmul (Nat.gcd m n) P = pZero := by
  intro m n
  induction m, n using Nat.gcd.induction with
  | H0 n => intro _ h; simpa using h
  | H1 m n hm ih =>
    intro h1 h2
    rw [Nat.gcd_rec]
    refine ih ?_ h1
    rw [nmul_mod h m h1]; exact h2
theorem LN_prime : Prime.IsP LN := Prime.q7237005577332262213973186563042994240857116359379907606001950938285454250989
theorem ord_dvd {m : Nat} (h : nmul m B9 = pZero) : LN ∣ m := by
  have hg := gcd_mul B9_base.on LN m ord_mul h
  rcases LN_prime.2 (Nat.gcd LN m) (Nat.gcd_dvd_left LN m) with e | e
  · rw [e, nmul_one B9_base.on] at hg
    exact absurd (congrArg Prod.fst hg) (by decide)
  · rw [← e]; exact Nat.gcd_dvd_right LN m
theorem LN_mul {a b : Nat} (h : LN ∣ a * b) : LN ∣ a ∨ LN ∣ b := by
  rcases LN_prime.2 (Nat.gcd LN a) (Nat.gcd_dvd_left LN a) with hg | hg
  · right
    have hc : Nat.Coprime LN a := hg
    exact hc.dvd_of_dvd_mul_left h
  · left
    rw [← hg]
    exact Nat.gcd_dvd_right LN a
theorem good {N : Nat} (h : ¬ LN ∣ 2 * N) : BaseU (uP (nmul N B9).2) (nmul N B9) := by
  have on := nmul_on B9_base.on N
  have e2 : nmul (2 * N) B9 = pAdd (nmul N B9) (nmul N B9) := by rw [Nat.two_mul, nmul_add B9_base.on]
  refine baseU_of on (fun hp => h (ord_dvd ?_)) (fun hm => h (ord_dvd ?_))
  · rw [e2]; exact y_minus on hp
  · rw [e2, y_one on hm]; exact pAdd_zero pZero_on
/-! ### Clamped numbers -/
def cBits (xs : List Int) : List Bool := ((bitsB (clamp xs)).drop 1).take (255 - 0)
def cN (xs : List Int) : Nat := bvf 0 (cBits xs)
theorem bvf_snoc (n : Nat) (bs : List Bool) (b : Bool) : bvf n (bs ++ [b]) = 2 * bvf n bs + if b then 1 else 0 := by unfold bvf; rw [List.foldl_append]; rfl
theorem bvf_range : ∀ (bs : List Bool) (n : Nat), n * 2 ^ bs.length ≤ bvf n bs ∧ bvf n bs < (n + 1) * 2 ^ bs.length
  | [], n => by simp [bvf]
  | b :: bs, n => by
    have h := bvf_range bs (2 * n + if b then 1 else 0)
    have e : bvf n (b :: bs) = bvf (2 * n + if b then 1 else 0) bs := rfl
    rw [e, List.length_cons, Nat.pow_succ]
    have hb : (if b = true then 1 else 0) ≤ 1 := by split <;> omega
    generalize (if b = true then 1 else 0) = c at *
    generalize 2 ^ bs.length = q at *
    constructor
    · refine Nat.le_trans ?_ h.1
      rw [Nat.mul_comm q 2, ← Nat.mul_assoc, Nat.mul_comm n 2]
      exact Nat.mul_le_mul_right q (by omega)
    · refine Nat.lt_of_lt_of_le h.2 ?_
      rw [Nat.mul_comm q 2, ← Nat.mul_assoc]
      exact Nat.mul_le_mul_right q (by omega)
theorem clamp_low (xs : List Int) (hx : xs.length = 32) (j : Nat) (hj : j < 3) : bitB (clamp xs) j = false := by
  have h0 : nth (clamp xs) 0 = nth xs 0 / 8 * 8 := by unfold clamp; rw [nth_set_ne _ _ _ _ (by decide), nth_set_eq _ _ _ (by omega)]
  unfold bitB bitAt
  rw [show j / 8 = 0 by omega, h0]
  rcases (show j = 0 ∨ j = 1 ∨ j = 2 by omega) with rfl | rfl | rfl
  · have : nth xs 0 / 8 * 8 / 2 ^ (0 % 8) % 2 = 0 := by rw [show (2 : Int) ^ (0 % 8) = 1 from rfl]; omega
    rw [this]; rfl
  · have : nth xs 0 / 8 * 8 / 2 ^ (1 % 8) % 2 = 0 := by rw [show (2 : Int) ^ (1 % 8) = 2 from rfl]; omega
    rw [this]; rfl
  · have : nth xs 0 / 8 * 8 / 2 ^ (2 % 8) % 2 = 0 := by rw [show (2 : Int) ^ (2 % 8) = 4 from rfl]; omega
    rw [this]; rfl
theorem cN_val (xs : List Int) (hx : xs.length = 32) (hb : AreBytes xs) : ∃ m, cN xs = 8 * m ∧ 2 ^ 251 ≤ m ∧ m < 2 ^ 252 := by
  obtain ⟨h255, h254⟩ := clamp_bits xs hx hb
  have hc := bitsB_cons (clamp xs)
  rw [h255, h254] at hc
  have hd : cBits xs = true :: (bitsB (clamp xs)).drop 2 := by
    unfold cBits
    rw [List.take_of_length_le (by simp [bitsB_len])]
    conv => lhs; rw [hc]
    rfl
  have t0 := bitsB_take (clamp xs) 0 (by decide)
  have t1 := bitsB_take (clamp xs) 1 (by decide)
  have t2 := bitsB_take (clamp xs) 2 (by decide)
  rw [clamp_low xs hx 0 (by decide)] at t0
  rw [clamp_low xs hx 1 (by decide)] at t1
  rw [clamp_low xs hx 2 (by decide)] at t2
  have hl : (bitsB (clamp xs)).length = 256 := bitsB_len _
  have e : cBits xs = ((bitsB (clamp xs)).take 253).drop 1 ++ [false] ++ [false] ++ [false] := by
    unfold cBits
    rw [List.take_of_length_le (by simp [bitsB_len])]
    have e1 : bitsB (clamp xs) = (bitsB (clamp xs)).take 253 ++ [false] ++ [false] ++ [false] := by
      have q : (bitsB (clamp xs)).take (256 - 0) = bitsB (clamp xs) := List.take_of_length_le (by omega)
      rw [q] at t0
      conv => lhs; rw [t0, show 256 - (0 + 1) = 256 - 1 from rfl, t1, show 256 - (1 + 1) = 256 - 2 from rfl, t2]
    have hl2 : ((bitsB (clamp xs)).take 253).length = 253 := by rw [List.length_take]; omega
    conv => lhs; rw [e1]
    rw [List.drop_append_of_le_length (by simp only [List.length_append]; omega), List.drop_append_of_le_length (by simp only [List.length_append]; omega), List.drop_append_of_le_length (by omega)]
  have hr : 2 ^ 254 ≤ cN xs ∧ cN xs < 2 ^ 255 := by
    unfold cN
    rw [hd]
    have h1 := bvf_range ((bitsB (clamp xs)).drop 2) 1
    have hl3 : ((bitsB (clamp xs)).drop 2).length = 254 := by rw [List.length_drop, hl]
    rw [hl3] at h1
    have e2 : ∀ l, bvf 0 (true :: l) = bvf 1 l := fun _ => rfl
    rw [e2]
    omega
  refine ⟨bvf 0 (((bitsB (clamp xs)).take 253).drop 1), ?_, ?_, ?_⟩
  · unfold cN
    rw [e, bvf_snoc, bvf_snoc, bvf_snoc]
    simp only [Bool.false_eq_true, if_false]
    omega
  all_goals
    have q : cN xs = 8 * bvf 0 (((bitsB (clamp xs)).take 253).drop 1) := by
      unfold cN
      rw [e, bvf_snoc, bvf_snoc, bvf_snoc]
      simp only [Bool.false_eq_true, if_false]
      omega
    omega
theorem cN_not (xs : List Int) (hx : xs.length = 32) (hb : AreBytes xs) : ¬ LN ∣ cN xs := fun h => by
  obtain ⟨m, e, h1, h2⟩ := cN_val xs hx hb
  rw [e] at h
  have two : ¬ LN ∣ 2 := fun q => by have := Nat.le_of_dvd (by decide) q; exact absurd this (by decide)
  have hm : LN ∣ m := by
    rcases LN_mul (a := 8) h with q | q
    · rw [show (8 : Nat) = 2 * (2 * 2) from rfl] at q
      rcases LN_mul q with q | q
      · exact absurd q two
      · rcases LN_mul q with q | q <;> exact absurd q two
    · exact q
  have := Nat.le_of_dvd (Nat.lt_of_lt_of_le (by decide) h1) hm
  unfold LN at this
  omega
theorem not_mul {xs : List Int} {N : Nat} (hx : xs.length = 32) (hb : AreBytes xs) (h : ¬ LN ∣ 2 * N) : ¬ LN ∣ 2 * (cN xs * N) := fun q => by
  rw [Nat.mul_left_comm] at q
  rcases LN_mul q with q | q
  · exact cN_not xs hx hb q
  · exact h q
theorem not_one : ¬ LN ∣ 2 * 1 := fun q => by have := Nat.le_of_dvd (by decide) q; exact absurd this (by decide)
/-! ### What keys come to -/
theorem mod_step2 (a B : Int) (hB : 0 < B) : a % B + B * (a / B % 256) = a % (B * 256) := by
  have e1 := Int.emod_add_mul_ediv a B
  have e2 := Int.emod_add_mul_ediv (a / B) 256
  have r0 := Int.emod_nonneg a (show B ≠ 0 by omega)
  have r1 := Int.emod_lt_of_pos a hB
  have s0 := Int.emod_nonneg (a / B) (show (256 : Int) ≠ 0 by decide)
  have s1 := Int.emod_lt_of_pos (a / B) (show (0 : Int) < 256 by decide)
  generalize a % B = r at *
  generalize a / B % 256 = s at *
  generalize a / B / 256 = t at *
  generalize a / B = q at *
  have e3 : a = (r + B * s) + B * 256 * t := by rw [← e1, ← e2]; grind
  have m1 : B * s ≤ B * 255 := Int.mul_le_mul_of_nonneg_left (by omega) (by omega)
  have m2 : 0 ≤ B * s := Int.mul_nonneg (by omega) s0
  rw [e3, Int.add_mul_emod_self_left]
  exact (Int.emod_eq_of_lt (by omega) (by omega)).symm
theorem leAt_mod2 (n : Int) : ∀ k, k ≤ 32 → leAt (bytesOf n) 0 k = n % 256 ^ k
  | 0, _ => by simp [leAt, Int.emod_one]
  | k + 1, hk => by
    have q : nth (bytesOf n) (0 + k) = byteAt n k := by unfold nth bytesOf part; simp [show k < 32 by omega]
    rw [leAt, leAt_mod2 n k (by omega), q, Int.pow_succ, ← mod_step2 _ _ (Int.pow_pos (by decide))]
    unfold byteAt
    rw [Int.mul_comm (n / 256 ^ k % 256)]
theorem keyNum_bytes {n : Int} (h : isN n) : keyNum (bytesOf n) = n := by
  unfold keyNum
  rw [leAt_mod2 n 32 (Nat.le_refl _), show (256 : Int) ^ 32 = 115792089237316195423570985008687907853269984665640564039457584007913129639936 from rfl]
  have h1 := h.1
  have h2 := h.2
  unfold p at *
  omega
theorem bytesOf_areBytes (n : Int) : AreBytes (bytesOf n) := fun v hv => by
  unfold bytesOf part at hv
  obtain ⟨i, -, rfl⟩ := List.mem_map.1 hv
  split
  · unfold byteAt; omega
  · omega
theorem crungs_bits (u : Int) (xs : List Int) : crungs u (clamp xs) 0 = rungs u (cBits xs) := rfl
theorem pub_uP (xs : List Int) : pubL xs = bytesOf (uP (nmul (cN xs * 1) B9).2) := by
  unfold pubL
  rw [crungs_bits, outN_rungs B9_base nine_isN, Nat.mul_one]
  rfl
theorem ag_uP (xs : List Int) {N : Nat} (h : ¬ LN ∣ 2 * N) : agN xs (bytesOf (uP (nmul N B9).2)) = uP (nmul (cN xs * N) B9).2 := by
  unfold agN
  rw [keyNum_bytes (uP_isN _), crungs_bits, outN_rungs (good h) (uP_isN _), nmul_mul B9_base.on]
  rfl
theorem ag_ne {N : Nat} (h : ¬ LN ∣ 2 * N) : (uP (nmul N B9).2 == 0) = false := by
  have := uP_ne (good h).p1 (good h).m1
  simpa using this
theorem both_eq {xs ys : List Int} (hx : xs.length = 32) (hb : AreBytes xs) (hy : ys.length = 32) (hc : AreBytes ys) : agN xs (pubL ys) = agN ys (pubL xs) ∧ (agN xs (pubL ys) == 0) = false := by
  have n1 := not_mul hx hb not_one
  have n2 := not_mul hy hc not_one
  rw [pub_uP, pub_uP, ag_uP xs n2, ag_uP ys n1]
  refine ⟨?_, ag_ne (not_mul hx hb n2)⟩
  rw [Nat.mul_one, Nat.mul_one, Nat.mul_comm]
theorem three_eq {xs ys zs : List Int} (hx : xs.length = 32) (hb : AreBytes xs) (hy : ys.length = 32) (hc : AreBytes ys) (hz : zs.length = 32) (hd : AreBytes zs) :
    (agN xs (pubL zs) == 0) = false ∧ (agN ys (pubL zs) == 0) = false ∧ agN ys (bytesOf (agN xs (pubL zs))) = agN xs (bytesOf (agN ys (pubL zs))) ∧ (agN ys (bytesOf (agN xs (pubL zs))) == 0) = false := by
  have n1 := not_mul hz hd not_one
  rw [pub_uP, ag_uP xs n1, ag_uP ys n1, ag_uP ys (not_mul hx hb n1), ag_uP xs (not_mul hy hc n1)]
  refine ⟨ag_ne (not_mul hx hb n1), ag_ne (not_mul hy hc n1), ?_, ag_ne (not_mul hy hc (not_mul hx hb n1))⟩
  rw [Nat.mul_left_comm]
end Go.Proofs.Ytaojnmjmmfdfjaa.Field
end
