/- Points of the curve: a group. -/
import Derived.Test.YtaojnmjmmfdfjaaDoorPtCurve
import Derived.Test.YtaojnmjmmfdfjaaDoorPtAssoc
namespace Go.Proofs.YtaojnmjmmfdfjaaDoor.Field
open Go Go.RowKit
open Go.Proofs.YtaojnmjmmfdfjaaDoor.Rely Go.Proofs.YtaojnmjmmfdfjaaDoor.Auto
set_option linter.unusedVariables false
set_option maxHeartbeats 4000000

/-! ### The group -/
theorem eps_comm (x y u v : Int) : eps u v x y = eps x y u v := by unfold eps; grind
theorem aX_comm (x y u v : Int) : aX u v x y = aX x y u v := by
  unfold aX; rw [eps_comm, show u * y + v * x = x * v + y * u by grind]
theorem aY_comm (x y u v : Int) : aY u v x y = aY x y u v := by
  unfold aY; rw [eps_comm, show v * y + u * x = y * v + x * u by grind]
theorem aX_isN (x y u v : Int) : isN (aX x y u v) := isN_mod _
theorem aY_isN (x y u v : Int) : isN (aY x y u v) := isN_mod _
theorem frac_z {D i n X : Int} (hi : (D * i - 1) % p = 0) (hX : X = n * i % p) : (D * X - n) % p = 0 := by
  have h1 : (X - n * i) % p = 0 := sub_z (by rw [hX, Int.emod_emod])
  exact zc2 hi h1 (c := n) (d := D) (by grind)
theorem aX_frac {x y u v : Int} (h1 : onC x y) (h2 : onC u v) : ((1 + eps x y u v) * aX x y u v - (x * v + y * u)) % p = 0 := frac_z (inv_z (d1_ne h1 h2)) rfl
theorem aY_frac {x y u v : Int} (h1 : onC x y) (h2 : onC u v) : ((1 - eps x y u v) * aY x y u v - (y * v + x * u)) % p = 0 := frac_z (inv_z (d2_ne h1 h2)) rfl
theorem clearX (d D1 D2 N1 N2 X Y r s Z : Int) (h1 : (D1 * X - N1) % p = 0) (h2 : (D2 * Y - N2) % p = 0) (h3 : ((1 + d * (X * r * (Y * s))) * Z - (X * s + Y * r)) % p = 0) :
    ((D1 * D2 + d * (N1 * r * (N2 * s))) * Z - (N1 * D2 * s + N2 * D1 * r)) % p = 0 := by
  refine zc4 h1 h2 h3 (d := 0) rfl (k := D2 * s - d * r * s * Z * N2) (l := D1 * r - d * r * s * Z * (D1 * X)) (m := D1 * D2) (n := 0) ?_
  grind
theorem clearY (d D1 D2 N1 N2 X Y r s Z : Int) (h1 : (D1 * X - N1) % p = 0) (h2 : (D2 * Y - N2) % p = 0) (h3 : ((1 - d * (X * r * (Y * s))) * Z - (Y * s + X * r)) % p = 0) :
    ((D1 * D2 - d * (N1 * r * (N2 * s))) * Z - (N2 * D1 * s + N1 * D2 * r)) % p = 0 := by
  refine zc4 h1 h2 h3 (d := 0) rfl (k := D2 * r + d * r * s * Z * N2) (l := D1 * s + d * r * s * Z * (D1 * X)) (m := D1 * D2) (n := 0) ?_
  grind
theorem clearD (d D1 D2 N1 N2 X Y r s : Int) (h1 : (D1 * X - N1) % p = 0) (h2 : (D2 * Y - N2) % p = 0) (hd1 : D1 % p ≠ 0) (hd2 : D2 % p ≠ 0) (h3 : (1 + d * (X * r * (Y * s))) % p ≠ 0) :
    (D1 * D2 + d * (N1 * r * (N2 * s))) % p ≠ 0 := fun h => by
  have e : (D1 * D2 * (1 + d * (X * r * (Y * s)))) % p = 0 := by
    refine zc4 h h1 h2 (d := 0) rfl (k := 1) (l := d * r * s * (D2 * Y)) (m := d * r * s * N1) (n := 0) ?_
    grind
  exact mul_ne (mul_ne hd1 hd2) h3 e
theorem cross {DL NL DM NM X Y : Int} (h1 : (DL * X - NL) % p = 0) (h2 : (DM * Y - NM) % p = 0) (hG : (NL * DM - NM * DL) % p = 0) (hd1 : DL % p ≠ 0) (hd2 : DM % p ≠ 0) : X % p = Y % p := by
  have e : (DL * DM * (X - Y)) % p = 0 := by
    refine zc4 h1 h2 hG (d := 0) rfl (k := DM) (l := -DL) (m := 1) (n := 0) ?_
    grind
  exact z_sub ((z_mul e).resolve_left (mul_ne hd1 hd2))
theorem assocX {x y u v r s : Int} (h1 : onC x y) (h2 : onC u v) (h3 : onC r s) : aX (aX x y u v) (aY x y u v) r s = aX x y (aX u v r s) (aY u v r s) := by
  rw [← aX_comm x y (aX u v r s)]
  have a := aX_frac (closed h1 h2) h3
  have b := aX_frac (closed h2 h3) h1
  have cl := clearX dN _ _ _ _ _ _ r s _ (aX_frac h1 h2) (aY_frac h1 h2) a
  have cm := clearX dN _ _ _ _ _ _ x y _ (aX_frac h2 h3) (aY_frac h2 h3) b
  have dl := clearD dN _ _ _ _ _ _ r s (aX_frac h1 h2) (aY_frac h1 h2) (d1_ne h1 h2) (d2_ne h1 h2) (d1_ne (closed h1 h2) h3)
  have dm := clearD dN _ _ _ _ _ _ x y (aX_frac h2 h3) (aY_frac h2 h3) (d1_ne h2 h3) (d2_ne h2 h3) (d1_ne (closed h2 h3) h1)
  have := cross cl cm (zc4 h1 h2 h3 (d := 0) rfl (n := 0) ((assocX_id dN x y u v r s).trans (by rw [Int.mul_zero, Int.add_zero]; rfl))) dl dm
  rwa [isN_self (aX_isN ..), isN_self (aX_isN ..)] at this
theorem clearD' (d D1 D2 N1 N2 X Y r s : Int) (h1 : (D1 * X - N1) % p = 0) (h2 : (D2 * Y - N2) % p = 0) (hd1 : D1 % p ≠ 0) (hd2 : D2 % p ≠ 0) (h3 : (1 - d * (X * r * (Y * s))) % p ≠ 0) :
    (D1 * D2 - d * (N1 * r * (N2 * s))) % p ≠ 0 := fun h => by
  refine clearD (-d) D1 D2 N1 N2 X Y r s h1 h2 hd1 hd2 (fun h' => h3 ?_) ?_
  · rw [← h']; exact mod_hom (by grind)
  · rw [← h]; exact mod_hom (by grind)
theorem assocY {x y u v r s : Int} (h1 : onC x y) (h2 : onC u v) (h3 : onC r s) : aY (aX x y u v) (aY x y u v) r s = aY x y (aX u v r s) (aY u v r s) := by
  rw [← aY_comm x y (aX u v r s)]
  have a := aY_frac (closed h1 h2) h3
  have b := aY_frac (closed h2 h3) h1
  have cl := clearY dN _ _ _ _ _ _ r s _ (aX_frac h1 h2) (aY_frac h1 h2) a
  have cm := clearY dN _ _ _ _ _ _ x y _ (aX_frac h2 h3) (aY_frac h2 h3) b
  have dl := clearD' dN _ _ _ _ _ _ r s (aX_frac h1 h2) (aY_frac h1 h2) (d1_ne h1 h2) (d2_ne h1 h2) (d2_ne (closed h1 h2) h3)
  have dm := clearD' dN _ _ _ _ _ _ x y (aX_frac h2 h3) (aY_frac h2 h3) (d1_ne h2 h3) (d2_ne h2 h3) (d2_ne (closed h2 h3) h1)
  have := cross cl cm (zc4 h1 h2 h3 (d := 0) rfl (n := 0) ((assocY_id dN x y u v r s).trans (by rw [Int.mul_zero, Int.add_zero]; rfl))) dl dm
  rwa [isN_self (aY_isN ..), isN_self (aY_isN ..)] at this
/-- a point of the curve, its numbers below p -/
structure OnP (P : Int × Int) : Prop where
  x : isN P.1
  y : isN P.2
  c : onC P.1 P.2
def pAdd (P Q : Int × Int) : Int × Int := (aX P.1 P.2 Q.1 Q.2, aY P.1 P.2 Q.1 Q.2)
def pNeg (P : Int × Int) : Int × Int := ((0 - P.1) % p, P.2)
def pZero : Int × Int := (0, 1)
theorem pZero_on : OnP pZero := ⟨num_isN 0, num_isN 1, onC_zero⟩
theorem pAdd_on {P Q : Int × Int} (h : OnP P) (k : OnP Q) : OnP (pAdd P Q) := ⟨isN_mod _, isN_mod _, closed h.c k.c⟩
theorem pAdd_comm (P Q : Int × Int) : pAdd P Q = pAdd Q P := Prod.ext (aX_comm ..) (aY_comm ..)
theorem pAdd_assoc {P Q R : Int × Int} (h : OnP P) (k : OnP Q) (l : OnP R) : pAdd (pAdd P Q) R = pAdd P (pAdd Q R) := Prod.ext (assocX h.c k.c l.c) (assocY h.c k.c l.c)
theorem pAdd_zero {P : Int × Int} (h : OnP P) : pAdd P pZero = P := by
  have e : eps P.1 P.2 0 1 = 0 := by unfold eps; grind
  refine Prod.ext ?_ ?_
  · show (P.1 * 1 + P.2 * 0) * invN ((1 + eps P.1 P.2 0 1) % p) % p = P.1
    rw [e, show (1 + 0 : Int) % p = 1 from rfl, Int.mul_zero, Int.add_zero, Int.mul_one, mul_one_inv h.x]
  · show (P.2 * 1 + P.1 * 0) * invN ((1 - eps P.1 P.2 0 1) % p) % p = P.2
    rw [e, show (1 - 0 : Int) % p = 1 from rfl, Int.mul_zero, Int.add_zero, Int.mul_one, mul_one_inv h.y]
theorem pNeg_on {P : Int × Int} (h : OnP P) : OnP (pNeg P) := by
  refine ⟨isN_mod _, h.y, ?_⟩
  have e : ((0 - P.1) % p - (0 - P.1)) % p = 0 := by rw [subL, Int.sub_self]; rfl
  refine zc2 h.c e (c := 1) (d := -((0 - P.1) % p + (0 - P.1)) - dN * (P.2 * P.2) * ((0 - P.1) % p + (0 - P.1))) ?_
  show cv ((0 - P.1) % p) P.2 = _
  unfold cv
  generalize (0 - P.1) % p = q
  grind
theorem one_frac {D X n : Int} (hD : D % p ≠ 0) (h : (D * X - n) % p = 0) (e : (n - D * 1) % p = 0) : X % p = 1 % p := by
  have : (D * (X - 1)) % p = 0 := zc2 h e (c := 1) (d := 1) (by grind)
  exact z_sub ((z_mul this).resolve_left hD)
theorem neg_sum {x y q : Int} (h : onC x y) (hn : onC q y) (e : (q - (0 - x)) % p = 0) : aX x y q y = 0 ∧ aY x y q y = 1 := by
  have fx := aX_frac h hn
  have fy := aY_frac h hn
  have hX := isN_self (aX_isN x y q y)
  have hY := isN_self (aY_isN x y q y)
  have hc := h
  unfold onC cv at hc
  have d1 := d1_ne h hn
  have d2 := d2_ne h hn
  generalize aX x y q y = X at *
  generalize aY x y q y = Y at *
  constructor
  · have : X % p = 0 := by
      refine (z_mul (a := 1 + eps x y q y) ?_).resolve_left d1
      exact zc2 fx e (c := 1) (d := y) (by grind)
    rwa [hX] at this
  · have := one_frac d2 fy (by
      refine zc2 hc e (c := 1) (d := x + dN * (x * (y * y))) ?_
      unfold eps
      grind)
    rwa [hY] at this
theorem pAdd_neg {P : Int × Int} (h : OnP P) : pAdd P (pNeg P) = pZero := by
  have e : ((0 - P.1) % p - (0 - P.1)) % p = 0 := by rw [subL, Int.sub_self]; rfl
  have r := neg_sum h.c (pNeg_on h).c e
  exact Prod.ext r.1 r.2
def nmul : Nat → Int × Int → Int × Int
  | 0, _ => pZero
  | n + 1, P => pAdd (nmul n P) P
theorem nmul_on {P : Int × Int} (h : OnP P) : ∀ n, OnP (nmul n P)
  | 0 => pZero_on
  | n + 1 => pAdd_on (nmul_on h n) h
theorem nmul_add {P : Int × Int} (h : OnP P) (m : Nat) : ∀ n, nmul (m + n) P = pAdd (nmul m P) (nmul n P)
  | 0 => (pAdd_zero (nmul_on h m)).symm
  | n + 1 => by
    show pAdd (nmul (m + n) P) P = pAdd (nmul m P) (pAdd (nmul n P) P)
    rw [nmul_add h m n, pAdd_assoc (nmul_on h m) (nmul_on h n) h]
theorem nmul_one {P : Int × Int} (h : OnP P) : nmul 1 P = P := by
  show pAdd pZero P = P
  rw [pAdd_comm, pAdd_zero h]
theorem nmul_zero : ∀ n, nmul n pZero = pZero
  | 0 => rfl
  | n + 1 => by
    show pAdd (nmul n pZero) pZero = pZero
    rw [nmul_zero n, pAdd_zero pZero_on]
theorem nmul_mul {P : Int × Int} (h : OnP P) (m : Nat) : ∀ n, nmul (n * m) P = nmul n (nmul m P)
  | 0 => by rw [Nat.zero_mul]; rfl
  | n + 1 => by
    rw [Nat.succ_mul, nmul_add h, nmul_mul h m n]
    rfl
theorem nmul_mod {P : Int × Int} (h : OnP P) (L : Nat) (hL : nmul L P = pZero) (n : Nat) : nmul (n % L) P = nmul n P := by
  have e := Nat.div_add_mod n L
  have : nmul n P = pAdd (nmul (L * (n / L)) P) (nmul (n % L) P) := by rw [← nmul_add h, e]
  rw [this, Nat.mul_comm, nmul_mul h, hL, nmul_zero, pAdd_comm, pAdd_zero (nmul_on h _)]
/-- the sum of bits, each time twice what there is -/
def climbP (P : Int × Int) (bs : List Bool) : Int × Int := bs.foldl (fun A b => if b then pAdd (pAdd A A) P else pAdd A A) pZero
def bval (bs : List Bool) : Nat := bs.foldl (fun n b => 2 * n + if b then 1 else 0) 0
theorem climb_from {P : Int × Int} (h : OnP P) : ∀ (bs : List Bool) (n : Nat), bs.foldl (fun A b => if b then pAdd (pAdd A A) P else pAdd A A) (nmul n P) = nmul (bs.foldl (fun n b => 2 * n + if b then 1 else 0) n) P
  | [], n => rfl
  | b :: bs, n => by
    have e : (if b then pAdd (pAdd (nmul n P) (nmul n P)) P else pAdd (nmul n P) (nmul n P)) = nmul (2 * n + if b then 1 else 0) P := by
      rw [← nmul_add h, Nat.two_mul]
      cases b
      · simp
      · simp only [if_true]; rfl
    rw [List.foldl_cons, e, climb_from h bs, List.foldl_cons]
theorem climbP_eq {P : Int × Int} (h : OnP P) (bs : List Bool) : climbP P bs = nmul (bval bs) P := climb_from h bs 0
theorem climbP_on {P : Int × Int} (h : OnP P) (bs : List Bool) : OnP (climbP P bs) := by rw [climbP_eq h]; exact nmul_on h _
theorem climbP_snoc (P : Int × Int) (bs : List Bool) (b : Bool) : climbP P (bs ++ [b]) = if b then pAdd (pAdd (climbP P bs) (climbP P bs)) P else pAdd (climbP P bs) (climbP P bs) := by
  unfold climbP
  rw [List.foldl_append]
  rfl

end Go.Proofs.YtaojnmjmmfdfjaaDoor.Field
