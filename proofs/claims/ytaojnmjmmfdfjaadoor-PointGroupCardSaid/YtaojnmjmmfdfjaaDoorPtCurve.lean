/- Points of the curve: sums are complete, and a group. -/
import Derived.Test.YtaojnmjmmfdfjaaDoorPtSum
namespace Go.Proofs.YtaojnmjmmfdfjaaDoor.Field
open Go Go.RowKit
open Go.Proofs.YtaojnmjmmfdfjaaDoor.Rely Go.Proofs.YtaojnmjmmfdfjaaDoor.Auto
set_option linter.unusedVariables false
set_option maxHeartbeats 4000000

/-! ### Numbers modulo p -/
theorem zc1 {e a c : Int} (ha : a % p = 0) (he : e = c * a) : e % p = 0 := by
  rw [he, Int.mul_emod, ha, Int.mul_zero]; rfl
theorem zc2 {e a b c d : Int} (ha : a % p = 0) (hb : b % p = 0) (he : e = c * a + d * b) : e % p = 0 := by
  rw [he, Int.add_emod, zc1 ha rfl, zc1 hb rfl]; rfl
theorem zc4 {e a b c d k l m n : Int} (ha : a % p = 0) (hb : b % p = 0) (hc : c % p = 0) (hd : d % p = 0) (he : e = k * a + l * b + m * c + n * d) : e % p = 0 := by
  rw [he, Int.add_emod, Int.add_emod (k * a + l * b), zc2 ha hb rfl, zc1 hc rfl, zc1 hd rfl]; rfl
theorem z_mul {a b : Int} (h : a * b % p = 0) : a % p = 0 ∨ b % p = 0 := by
  by_cases ha : a % p = 0
  · exact .inl ha
  · by_cases hb : b % p = 0
    · exact .inr hb
    · exact absurd h (mul_ne ha hb)
theorem z_sub {a b : Int} (h : (a - b) % p = 0) : a % p = b % p := Int.emod_eq_emod_iff_emod_sub_eq_zero.2 h
theorem sub_z {a b : Int} (h : a % p = b % p) : (a - b) % p = 0 := Int.emod_eq_emod_iff_emod_sub_eq_zero.1 h
theorem two_z {a : Int} (h : 2 * a % p = 0) : a % p = 0 := (z_mul h).resolve_left (by decide)
theorem inv_z {a : Int} (h : a % p ≠ 0) : (a * invN (a % p) - 1) % p = 0 := by
  have := inv_mul (a % p) (isN_mod _) h
  rw [modL] at this
  exact sub_z (by rw [this]; rfl)
/-! ### -d is no square -/
def hN : Nat := 28948022309329048855892746252171976963317496166410141009864396001978282409974
theorem dneg_half : Prime.pm 57896044618658097711785492504343953926634992332820282019728792003956564819949 256 ((p - dN).toNat) hN = 57896044618658097711785492504343953926634992332820282019728792003956564819948 := by decide +kernel
theorem dneg_pow : ((p - dN).toNat : Int) ^ hN % p = p - 1 := by
  have h := Prime.pm_eq 57896044618658097711785492504343953926634992332820282019728792003956564819949 256 ((p - dN).toNat) hN (by decide)
  rw [dneg_half] at h
  have h2 := cast_pow_mod ((p - dN).toNat) hN 57896044618658097711785492504343953926634992332820282019728792003956564819949
  rw [← h] at h2
  exact h2
theorem half_p (h : Nat) (e : h = hN) : 2 * h = 57896044618658097711785492504343953926634992332820282019728792003956564819949 - 1 := by rw [e]; decide
theorem pow_gen (h : Nat) (D a : Int) (hh : 2 * h = 57896044618658097711785492504343953926634992332820282019728792003956564819949 - 1) (hD : D ^ h % p = p - 1) (b : Int) (ha : a % p ≠ 0)
    (hs : D * (a * a) % p = b * b % p) : False := by
  have ha1 := fermat_int (a % p) (isN_mod _) ha (2 * h) hh
  rw [pow_modp] at ha1
  have e : (D * (a * a)) ^ h % p = (b * b) ^ h % p := by rw [← pow_modp (D * (a * a)), hs, pow_modp]
  have sq : ∀ c : Int, (c * c) ^ h = c ^ (2 * h) := fun c => by rw [Int.pow_mul, show c ^ 2 = c * c from by rw [Int.pow_succ, Int.pow_succ, Int.pow_zero, Int.one_mul]]
  rw [Int.mul_pow, sq, sq, Int.mul_emod, hD, ha1, Int.mul_one] at e
  rw [show (p - 1) % p = p - 1 by decide] at e
  by_cases hb : b % p = 0
  · rw [← pow_modp b, hb] at e
    have h0 : 0 < 2 * h := by omega
    rw [Int.zero_pow (by omega)] at e
    exact absurd e (by decide)
  · have hb1 := fermat_int (b % p) (isN_mod _) hb (2 * h) hh
    rw [pow_modp] at hb1
    rw [hb1] at e
    exact absurd e (by decide)
theorem nonsq {a b : Int} (ha : a % p ≠ 0) (h : (-dN * (a * a) - b * b) % p = 0) : False := by
  refine pow_gen hN ((p - dN).toNat : Int) a (half_p _ rfl) dneg_pow b ha ?_
  rw [← z_sub h]
  have e : ((p - dN).toNat : Int) = p - dN := by decide +kernel
  rw [e]
  refine Int.emod_eq_emod_iff_emod_sub_eq_zero.2 ?_
  rw [show (p - dN) * (a * a) - -dN * (a * a) = p * (a * a) by grind]
  exact Int.mul_emod_right ..
/-! ### The curve -/
def cv (x y : Int) : Int := -(x * x) + y * y - 1 - dN * (x * x * (y * y))
def onC (x y : Int) : Prop := cv x y % p = 0
def eps (x y u v : Int) : Int := dN * (x * u * (y * v))
theorem complete_id (d i s x y u v : Int) (hs : s * s = 1) : -d * ((i * x * y) * (i * u + s * v) * ((i * x * y) * (i * u + s * v))) - (i * x + s * (d * (x * u * (y * v))) * y) * (i * x + s * (d * (x * u * (y * v))) * y) =
    (-(x * x) * (d * (i * i) * (u * u) * (y * y) + 2 * d * i * u * s * v * (y * y) - d * (u * u) * (y * y) + d * (v * v) * (y * y) + 1)) * (i * i + 1) + -1 * (-(x * x) + y * y - 1 - d * (x * x * (y * y)))
      + (d * (x * x) * (y * y)) * (-(u * u) + v * v - 1 - d * (u * u * (v * v))) + (1 - y * y) * (d * (x * u * (y * v)) * (d * (x * u * (y * v))) - 1) := by grind
theorem complete {x y u v : Int} (h1 : onC x y) (h2 : onC u v) : (eps x y u v * eps x y u v - 1) % p ≠ 0 := fun he => by
  have hi : (rootI * rootI + 1) % p = 0 := by rw [← addL, rootI_sq]; rfl
  have hi0 : rootI % p ≠ 0 := fun e => by
    have := rootI_sq
    rw [← modL, e, Int.zero_mul] at this
    exact absurd this (by decide)
  have hx : eps x y u v % p ≠ 0 := fun e => by
    rw [← subL, ← modL, e, Int.zero_mul] at he
    exact absurd he (by decide)
  have hx' : ∀ a b : Int, eps x y u v = a * b → a % p ≠ 0 := fun a b e h => by
    apply hx; rw [e, ← modL, h, Int.zero_mul]; rfl
  have hX := hx' x (dN * (u * (y * v))) (by unfold eps; grind)
  have hY := hx' y (dN * (u * (x * v))) (by unfold eps; grind)
  have hU := hx' u (dN * (x * (y * v))) (by unfold eps; grind)
  have hb : (rootI * x * y) % p ≠ 0 := mul_ne (mul_ne hi0 hX) hY
  have key : ∀ s : Int, s * s = 1 → (rootI * u + s * v) % p = 0 := fun s hs => by
    apply Decidable.byContradiction
    intro hne
    exact nonsq (mul_ne hb hne) (zc4 hi h1 h2 he (complete_id dN rootI s x y u v hs))
  have k1 := key 1 rfl
  have k2 := key (-1) rfl
  have k3 : rootI * (2 * u) % p = 0 := zc2 k1 k2 (c := 1) (d := 1) (by grind)
  exact hU (two_z ((z_mul k3).resolve_left hi0))
theorem d1_ne {x y u v : Int} (h1 : onC x y) (h2 : onC u v) : (1 + eps x y u v) % p ≠ 0 := fun h => complete h1 h2 (zc1 h (c := eps x y u v - 1) (by grind))
theorem d2_ne {x y u v : Int} (h1 : onC x y) (h2 : onC u v) : (1 - eps x y u v) % p ≠ 0 := fun h => complete h1 h2 (zc1 h (c := -1 - eps x y u v) (by grind))
/-- the sum of two points of the curve -/
def aX (x y u v : Int) : Int := (x * v + y * u) * invN ((1 + eps x y u v) % p) % p
def aY (x y u v : Int) : Int := (y * v + x * u) * invN ((1 - eps x y u v) % p) % p
theorem closed_id (d x y u v : Int) : -((x * v + y * u) * (x * v + y * u) * ((1 - d * (x * u * (y * v))) * (1 - d * (x * u * (y * v))))) + (y * v + x * u) * (y * v + x * u) * ((1 + d * (x * u * (y * v))) * (1 + d * (x * u * (y * v))))
      - (1 + d * (x * u * (y * v))) * (1 + d * (x * u * (y * v))) * ((1 - d * (x * u * (y * v))) * (1 - d * (x * u * (y * v)))) - d * ((x * v + y * u) * (x * v + y * u) * ((y * v + x * u) * (y * v + x * u))) =
    (d^3*u^4*v^4*x^2*y^2 - d^2*u^4*v^4*x^2 + d^2*u^4*v^4*y^2 - d^2*u^4*v^4 - 2*d*u^4*v^4 - d*u^4*v^2*x^2 + d*u^4*v^2*y^2 + d*u^2*v^4*x^2 - d*u^2*v^4*y^2 - 2*d*u^2*v^2 - 2*u^4*v^2 + u^4 + 2*u^2*v^4 - 4*u^2*v^2 + v^4) * (-(x * x) + y * y - 1 - d * (x * x * (y * y)))
      + (d*u^2*v^2*x^4 + 2*d*u^2*v^2*x^2 + d*u^2*v^2*y^4 - 2*d*u^2*v^2*y^2 + d*u^2*v^2 + 2*u^2*v^2*x^2 - 2*u^2*v^2*y^2 + 2*u^2*v^2 - u^2*x^2 + u^2*y^2 - u^2 + v^2*x^2 - v^2*y^2 + v^2 + 1) * (-(u * u) + v * v - 1 - d * (u * u * (v * v))) := by grind
/-- numbers that times a and times b are given -/
theorem closed_frac (d n m a b i j X Y : Int) (hi : (a * i - 1) % p = 0) (hj : (b * j - 1) % p = 0) (hX : (X - n * i) % p = 0) (hY : (Y - m * j) % p = 0)
    (h : (-(n * n * (b * b)) + m * m * (a * a) - a * a * (b * b) - d * (n * n * (m * m))) % p = 0) : (-(X * X) + Y * Y - 1 - d * (X * X * (Y * Y))) % p = 0 := by
  have e1 : (-(n * i * (n * i)) + m * j * (m * j) - 1 - d * (n * i * (n * i) * (m * j * (m * j)))) % p = 0 := by
    refine zc4 h hi hj (d := 0) rfl (k := i * i * (j * j)) (l := -((m * m * (j * j)) * (a * i + 1)) + (a * i + 1) * (b * j) * (b * j)) (m := n * n * (i * i) * (b * j + 1) + (b * j + 1)) (n := 0) ?_
    grind
  refine zc4 e1 hX hY (d := 0) rfl (k := 1) (l := -(X + n * i) - d * (Y * Y) * (X + n * i)) (m := (Y + m * j) - d * (n * i * (n * i)) * (Y + m * j)) (n := 0) ?_
  grind
theorem closed {x y u v : Int} (h1 : onC x y) (h2 : onC u v) : onC (aX x y u v) (aY x y u v) := by
  unfold onC cv
  refine closed_frac dN (x * v + y * u) (y * v + x * u) (1 + eps x y u v) (1 - eps x y u v) _ _ _ _ (inv_z (d1_ne h1 h2)) (inv_z (d2_ne h1 h2)) (sub_z (Int.emod_emod ..)) (sub_z (Int.emod_emod ..)) ?_
  exact zc2 h1 h2 (closed_id dN x y u v)
theorem onC_zero : onC 0 1 := rfl
/-! ### Points with a number beneath -/
structure RepW (X Y Z T x y : Int) : Prop where
  n : isN Z
  z : Z ≠ 0
  hx : X = Z * x % p
  hy : Y = Z * y % p
  ht : T = Z * (x * y) % p
structure RepR (X Y Z x y : Int) : Prop where
  n : isN Z
  z : Z ≠ 0
  hx : X = Z * x % p
  hy : Y = Z * y % p
theorem rep_mod (k a i n z : Int) (hi : (a * i - 1) % p = 0) (hz : (z - k * a) % p = 0) : (k * n) % p = z * (n * i % p) % p := by
  rw [modR]
  refine (z_sub (zc2 hi hz (c := k * n) (d := n * i) ?_)).symm
  grind
theorem rep_mod2 (k a b i j n m z : Int) (hi : (a * i - 1) % p = 0) (hj : (b * j - 1) % p = 0) (hz : (z - k * (b * a)) % p = 0) : (k * (n * m)) % p = z * (n * i % p * (m * j % p)) % p := by
  have e : (n * i % p * (m * j % p)) % p = n * i * (m * j) % p := by rw [modL, modR]
  rw [← modR z, e, modR]
  refine (z_sub (zc4 hi hj hz (d := 0) rfl (k := k * b * j * (n * m)) (l := k * (n * m)) (m := n * i * (m * j)) (n := 0) ?_)).symm
  grind
theorem wadd_rep {X Y Z T x y U V S R u v : Int} (h1 : onC x y) (h2 : onC u v) (p1 : RepW X Y Z T x y) (p2 : RepW U V S R u v) :
    RepW (waddF X Y Z T U V S R dN).1 (waddF X Y Z T U V S R dN).2.1 (waddF X Y Z T U V S R dN).2.2.1 (waddF X Y Z T U V S R dN).2.2.2 (aX x y u v) (aY x y u v) := by
  have e : waddF X Y Z T U V S R dN = (4 * (Z * S * (Z * S)) * (1 - eps x y u v) * (x * v + y * u) % p, 4 * (Z * S * (Z * S)) * (1 + eps x y u v) * (y * v + x * u) % p,
      4 * (Z * S * (Z * S)) * ((1 - eps x y u v) * (1 + eps x y u v)) % p, 4 * (Z * S * (Z * S)) * ((x * v + y * u) * (y * v + x * u)) % p) := by
    rw [p1.hx, p1.hy, p1.ht, p2.hx, p2.hy, p2.ht]
    have e0 : waddF (Z * x % p) (Z * y % p) Z (Z * (x * y) % p) (S * u % p) (S * v % p) S (S * (u * v) % p) dN = waddF (Z * x) (Z * y) Z (Z * (x * y)) (S * u) (S * v) S (S * (u * v)) dN := by
      simp only [waddF, modL, modR, addL, addR, subL, subR]
    rw [e0, wadd_poly]
    refine Prod.ext ?_ (Prod.ext ?_ (Prod.ext ?_ ?_)) <;> refine mod_hom ?_ <;> ((try unfold eps); grind)
  have hz : (4 * (Z * S * (Z * S)) * ((1 - eps x y u v) * (1 + eps x y u v))) % p ≠ 0 := by
    have a1 : Z % p ≠ 0 := by rw [isN_self p1.n]; exact p1.z
    have a2 : S % p ≠ 0 := by rw [isN_self p2.n]; exact p2.z
    exact mul_ne (mul_ne (by decide) (mul_ne (mul_ne a1 a2) (mul_ne a1 a2))) (mul_ne (d2_ne h1 h2) (d1_ne h1 h2))
  have i1 := inv_z (d1_ne h1 h2)
  have i2 := inv_z (d2_ne h1 h2)
  rw [e]
  refine ⟨isN_mod _, hz, ?_, ?_, ?_⟩
  · exact rep_mod _ _ _ _ _ i1 (by rw [show ∀ a b : Int, a % p - b = a % p - b from fun _ _ => rfl, subL]; exact zc1 (a := 0) rfl (c := 0) (by grind))
  · exact rep_mod _ _ _ _ _ i2 (by rw [subL]; exact zc1 (a := 0) rfl (c := 0) (by grind))
  · exact rep_mod2 _ _ _ _ _ _ _ _ i1 i2 (by rw [subL]; exact zc1 (a := 0) rfl (c := 0) (by grind))
theorem radd_rep {X Y Z x y U V S u v : Int} (h1 : onC x y) (h2 : onC u v) (p1 : RepR X Y Z x y) (p2 : RepR U V S u v) :
    RepR (raddF X Y Z U V S).1 (raddF X Y Z U V S).2.1 (raddF X Y Z U V S).2.2 (aX x y u v) (aY x y u v) := by
  have e : raddF X Y Z U V S = ((Z * S * (Z * S) * (Z * S * (Z * S))) * (1 - eps x y u v) * (x * v + y * u) % p, (Z * S * (Z * S) * (Z * S * (Z * S))) * (1 + eps x y u v) * (y * v + x * u) % p,
      (Z * S * (Z * S) * (Z * S * (Z * S))) * ((1 - eps x y u v) * (1 + eps x y u v)) % p) := by
    rw [p1.hx, p1.hy, p2.hx, p2.hy]
    have e0 : raddF (Z * x % p) (Z * y % p) Z (S * u % p) (S * v % p) S = raddF (Z * x) (Z * y) Z (S * u) (S * v) S := by
      simp only [raddF, modL, modR, addL, addR, subL, subR]
    rw [e0, radd_poly]
    refine Prod.ext ?_ (Prod.ext ?_ ?_) <;> refine mod_hom ?_ <;> ((try unfold eps); grind)
  have hz : ((Z * S * (Z * S) * (Z * S * (Z * S))) * ((1 - eps x y u v) * (1 + eps x y u v))) % p ≠ 0 := by
    have a1 : Z % p ≠ 0 := by rw [isN_self p1.n]; exact p1.z
    have a2 : S % p ≠ 0 := by rw [isN_self p2.n]; exact p2.z
    exact mul_ne (mul_ne (mul_ne (mul_ne a1 a2) (mul_ne a1 a2)) (mul_ne (mul_ne a1 a2) (mul_ne a1 a2))) (mul_ne (d2_ne h1 h2) (d1_ne h1 h2))
  have i1 := inv_z (d1_ne h1 h2)
  have i2 := inv_z (d2_ne h1 h2)
  rw [e]
  refine ⟨isN_mod _, hz, ?_, ?_⟩
  · exact rep_mod _ _ _ _ _ i1 (by rw [subL]; exact zc1 (a := 0) rfl (c := 0) (by grind))
  · exact rep_mod _ _ _ _ _ i2 (by rw [subL]; exact zc1 (a := 0) rfl (c := 0) (by grind))
/-! ### The point of bytes is on the curve -/
theorem evenOf_sq (r : Int) (h : isN r) : evenOf r * evenOf r % p = r * r % p := by
  unfold evenOf
  split
  · rw [modL, modR]; exact mod_hom (by grind)
  · rfl
theorem hasRoot_sq {a : Int} (h : hasRoot a = true) : rootN a * rootN a % p = a := by
  unfold hasRoot at h
  unfold rootN rootB
  by_cases h1 : rootA a * rootA a % p = a
  · rw [if_pos h1, evenOf_sq _ (rootA_isN a)]; exact h1
  · rw [if_neg h1]
    have h2 : rootA a * rootI % p * (rootA a * rootI % p) % p = a := by simpa [h1] using h
    rw [if_pos h2, evenOf_sq _ (isN_mod _)]; exact h2
theorem uK_onC {x y : Int} (hx : x * x % p = uK y) : onC x y := by
  unfold uK at hx
  have hw : (y * y * dN + 1) % p ≠ 0 := fun h => by
    by_cases hy : y % p = 0
    · rw [← addL, Int.mul_assoc, ← modL, hy, Int.zero_mul] at h
      exact absurd h (by decide)
    · exact nonsq (a := y) (b := 1) hy (zc1 h (c := -1) (by grind))
  have i1 := inv_z hw
  have e : (y * y % p * dN % p + 1) % p = (y * y * dN + 1) % p := by rw [modL, addL]
  rw [e] at hx
  have h2 : (x * x - (y * y - 1) * invN ((y * y * dN + 1) % p)) % p = 0 := by
    refine sub_z ?_
    rw [hx, modL, ← modL (y * y % p - 1), subL, modL]
  unfold onC cv
  refine zc2 h2 i1 (c := -(y * y * dN + 1)) (d := -(y * y - 1)) ?_
  grind
theorem K_onC (xs : List Int) : onC (xK xs) (zK xs) := by
  unfold xK zK
  by_cases h : okK xs = true
  · rw [if_pos h, if_pos h]
    have hr : hasRoot (uK (yK xs)) = true := by
      unfold okK at h
      simp only [Bool.and_eq_true] at h
      exact h.2.1
    have hs := hasRoot_sq hr
    have hn : pnegF (rK xs) * pnegF (rK xs) % p = rK xs * rK xs % p := by
      rw [pneg_val, modL, modR]; exact mod_hom (by grind)
    split
    · exact uK_onC (hn.trans hs)
    · exact uK_onC hs
  · rw [if_neg h, if_neg h]; exact onC_zero

end Go.Proofs.YtaojnmjmmfdfjaaDoor.Field
