/- Points: the program's sum of two is four times the document's. -/
import Derived.Test.YtaojnmjmmfdfjaaDoorPtBase
namespace Go.Proofs.YtaojnmjmmfdfjaaDoor.Field
open Go Go.RowKit
open Go.Proofs.YtaojnmjmmfdfjaaDoor.Rely Go.Proofs.YtaojnmjmmfdfjaaDoor.Auto
set_option linter.unusedVariables false

theorem mul_ne {a b : Int} (ha : a % p ≠ 0) (hb : b % p ≠ 0) : a * b % p ≠ 0 := fun h => by
  have hA := inv_mul (a % p) (isN_mod _) ha
  apply hb
  have e : (a % p * invN (a % p) % p) * b % p = invN (a % p) * (a * b % p) % p := by
    rw [modL, modR, Int.mul_assoc, modL, ← Int.mul_assoc, ← Int.mul_assoc, Int.mul_comm a]
  rw [hA, h, Int.one_mul, Int.mul_zero] at e
  rw [e]
  rfl
theorem inv_uniq {y a b : Int} (ha : y * a % p = 1) (hb : y * b % p = 1) : a % p = b % p := by
  have e : (y * a % p) * b % p = (y * b % p) * a % p := by
    rw [modL, modL, Int.mul_assoc, Int.mul_assoc, Int.mul_comm a b]
  rw [ha, hb, Int.one_mul, Int.one_mul] at e
  exact e.symm
theorem out_sc {l x z : Int} (hl : l % p ≠ 0) (hx : isN x) (hz : isN z) : (l * x % p) * invN (l * z % p) % p = x * invN z % p := by
  by_cases h0 : z = 0
  · subst h0
    rw [Int.mul_zero, show (0 : Int) % p = 0 from rfl, inv_zero, Int.mul_zero, Int.mul_zero]
  · have hz0 : z % p ≠ 0 := by rw [Int.emod_eq_of_lt hz.1 hz.2]; exact h0
    have h1 := inv_mul (l * z % p) (isN_mod _) (mul_ne hl hz0)
    have h2 := inv_mul z hz h0
    have h3 := inv_mul (l % p) (isN_mod _) hl
    have h4 : (l * z % p) * (invN (l % p) * invN z) % p = 1 := by
      have e : (l * z % p) * (invN (l % p) * invN z) % p = (l % p * invN (l % p) % p) * (z * invN z % p) % p := by
        rw [modL, modL, modR, Int.mul_assoc (l % p), modL]
        refine mod_hom ?_
        grind
      rw [e, h2, h3]
      rfl
    have h5 := inv_uniq h1 h4
    rw [← modR, h5, modR, modL]
    have e : l * x * (invN (l % p) * invN z) % p = (l % p * invN (l % p) % p) * (x * invN z) % p := by
      rw [modL, Int.mul_assoc (l % p), modL]
      refine mod_hom ?_
      grind
    rw [e, h3, Int.one_mul]
theorem wadd_poly (a b c d e f g h k : Int) : waddF a b c d e f g h k =
    (((b + a) * (f + e) - (b - a) * (f - e)) * (c * g + c * g - (d * h * k + d * h * k)) % p, (c * g + c * g + (d * h * k + d * h * k)) * ((b + a) * (f + e) + (b - a) * (f - e)) % p,
     (c * g + c * g - (d * h * k + d * h * k)) * (c * g + c * g + (d * h * k + d * h * k)) % p, ((b + a) * (f + e) - (b - a) * (f - e)) * ((b + a) * (f + e) + (b - a) * (f - e)) % p) := by
  simp only [waddF, modL, modR, addL, addR, subL, subR]
theorem radd_poly (x y z u v t : Int) : raddF x y z u v t =
    (z * t * ((z * t * (z * t) - dN * (x * u * (y * v))) * ((x + y) * (u + v) - x * u - y * v)) % p, z * t * ((z * t * (z * t) + dN * (x * u * (y * v))) * (y * v + x * u)) % p,
     (z * t * (z * t) - dN * (x * u * (y * v))) * (z * t * (z * t) + dN * (x * u * (y * v))) % p) := by
  simp only [raddF, modL, modR, addL, addR, subL, subR]
/-- one sum of two points as they come from bytes -/
theorem sum_four (x y u v : Int) : waddF x y 1 (x * y % p) u v 1 (u * v % p) dN =
    (4 * (raddF x y 1 u v 1).1 % p, 4 * (raddF x y 1 u v 1).2.1 % p, 4 * (raddF x y 1 u v 1).2.2 % p, (waddF x y 1 (x * y % p) u v 1 (u * v % p) dN).2.2.2) := by
  have h : waddF x y 1 (x * y % p) u v 1 (u * v % p) dN = waddF x y 1 (x * y) u v 1 (u * v) dN := by
    simp only [waddF, modL, modR]
  refine Prod.ext ?_ (Prod.ext ?_ (Prod.ext ?_ rfl)) <;> rw [h, wadd_poly, radd_poly] <;> simp only [modR] <;> refine mod_hom ?_ <;> grind
theorem pnar_eq (a b c d : Int) : pnarF a b c d = (a * invN c % p, (b * invN c % p - 1) % p) := rfl
theorem padd_eq (x l u m : Int) : paddF x l u m = pnarF (waddF x (pyF x l) 1 (x * pyF x l % p) u (pyF u m) 1 (u * pyF u m % p) dN).1 (waddF x (pyF x l) 1 (x * pyF x l % p) u (pyF u m) 1 (u * pyF u m % p) dN).2.1
    (waddF x (pyF x l) 1 (x * pyF x l % p) u (pyF u m) 1 (u * pyF u m % p) dN).2.2.1 (waddF x (pyF x l) 1 (x * pyF x l % p) u (pyF u m) 1 (u * pyF u m % p) dN).2.2.2 := rfl
theorem sum_same (x l u m : Int) (hx : isN x) (hl : isN l) (hu : isN u) (hm : isN m) : enc (paddF x l u m).1 (pyF (paddF x l u m).1 (paddF x l u m).2) =
    enc ((raddF x (pyF x l) 1 u (pyF u m) 1).1 * invN (raddF x (pyF x l) 1 u (pyF u m) 1).2.2 % p) ((raddF x (pyF x l) 1 u (pyF u m) 1).2.1 * invN (raddF x (pyF x l) 1 u (pyF u m) 1).2.2 % p) := by
  have hR := radd_isN x (pyF x l) 1 u (pyF u m) 1 hx (py_isN _ _ hx hl) (num_isN 1) hu (py_isN _ _ hu hm) (num_isN 1)
  rw [padd_eq, pnar_eq, py_back (isN_mod _), sum_four]
  simp only []
  rw [out_sc (by decide) hR.1 hR.2.2, out_sc (by decide) hR.2.1 hR.2.2]
theorem neg_same (x l : Int) (hx : isN x) (hl : isN l) : enc (pngPF x l).1 (pyF (pngPF x l).1 (pngPF x l).2) =
    enc ((rnegF x (pyF x l) 1).1 * invN (rnegF x (pyF x l) 1).2.2 % p) ((rnegF x (pyF x l) 1).2.1 * invN (rnegF x (pyF x l) 1).2.2 % p) := by
  show enc ((0 - x) % p) (pyF x l) = enc ((0 - x) % p * invN 1 % p) (pyF x l * invN 1 % p)
  rw [mul_one_inv (isN_mod _), mul_one_inv (py_isN x l hx hl)]
end Go.Proofs.YtaojnmjmmfdfjaaDoor.Field
