/- Points: the order's multiple of the base is neutral; multiples by sums of residues. -/
import Derived.Test.YtaojnmjmmfdfjaaDoorScFnB
import Derived.Test.YtaojnmjmmfdfjaaDoorPtLawDoubles
namespace Go.Proofs.YtaojnmjmmfdfjaaDoor.Field
open Go Go.RowKit
open Go.Proofs.YtaojnmjmmfdfjaaDoor.Rely Go.Proofs.YtaojnmjmmfdfjaaDoor.Auto
set_option linter.unusedVariables false


/-! ### The order's multiple of the base, by natural numbers -/
def PN : Nat := 57896044618658097711785492504343953926634992332820282019728792003956564819949
theorem pn_cast : ((PN : Nat) : Int) = p := rfl
def dNat : Nat := 37095705934669439343138083508754565189542113879843219016388785533085940283555
theorem d_cast : ((dNat : Nat) : Int) = dN := by decide +kernel
def sbN (a b : Nat) : Nat := (a + (PN - b)) % PN
def wadT (a b c d e f g h : Nat) : Nat × Nat × Nat × Nat :=
  let s0 := sbN b a * sbN f e % PN
  let s1 := (b + a) % PN * ((f + e) % PN) % PN
  let s2 := d * h % PN * dNat % PN
  let s3 := (s2 + s2) % PN
  let s4 := c * g % PN
  let s5 := (s4 + s4) % PN
  let s6 := sbN s1 s0
  let s7 := sbN s5 s3
  let s8 := (s5 + s3) % PN
  let s9 := (s1 + s0) % PN
  (s6 * s7 % PN, s8 * s9 % PN, s7 * s8 % PN, s6 * s9 % PN)
def wadN (k : Nat → Nat → Nat → Nat → Nat) (a b c d e f g h : Nat) : Nat :=
  let s0 := sbN b a * sbN f e % PN
  let s1 := (b + a) % PN * ((f + e) % PN) % PN
  let s2 := d * h % PN * dNat % PN
  let s3 := (s2 + s2) % PN
  let s4 := c * g % PN
  let s5 := (s4 + s4) % PN
  let s6 := sbN s1 s0
  let s7 := sbN s5 s3
  let s8 := (s5 + s3) % PN
  let s9 := (s1 + s0) % PN
  let r0 := s6 * s7 % PN
  let r1 := s8 * s9 % PN
  let r2 := s7 * s8 % PN
  let r3 := s6 * s9 % PN
  bif Nat.ble r0 PN && Nat.ble r1 PN && Nat.ble r2 PN && Nat.ble r3 PN then k r0 r1 r2 r3 else 0
def ordS (E1 E2 E3 E4 : Nat) (bt : Bool) (k : Nat → Nat → Nat → Nat → Nat) (a b c d : Nat) : Nat := wadN (fun a b c d => bif bt then wadN k a b c d E1 E2 E3 E4 else k a b c d) a b c d a b c d
def ordN (E1 E2 E3 E4 e : Nat) : Nat → Nat → Nat → Nat → Nat → Nat
  | 0, a, b, c, _ => bif Nat.beq a 0 && Nat.beq b c then 1 else 2
  | f + 1, a, b, c, d => ordS E1 E2 E3 E4 (Nat.beq (e / 2 ^ f % 2) 1) (ordN E1 E2 E3 E4 e f) a b c d
def bitsDown (e : Nat) : Nat → List Bool
  | 0 => []
  | f + 1 => Nat.beq (e / 2 ^ f % 2) 1 :: bitsDown e f
theorem sb_cast (a b : Nat) (ha : a < PN) (hb : b < PN) : ((sbN a b : Nat) : Int) = ((a : Int) - b) % p := by
  unfold sbN
  rw [← pn_cast, Int.natCast_emod, Int.natCast_add, Int.natCast_sub (Nat.le_of_lt hb), show (a : Int) + ((PN : Int) - b) = (a - b) + PN by omega, Int.add_emod_right]
theorem ad_cast (a b : Nat) : (((a + b) % PN : Nat) : Int) = ((a : Int) + b) % p := by
  rw [← pn_cast, Int.natCast_emod, Int.natCast_add]
theorem mu_cast (a b : Nat) : ((a * b % PN : Nat) : Int) = ((a : Int) * b) % p := by
  rw [← pn_cast, Int.natCast_emod, Int.natCast_mul]
theorem mod_lt (a : Nat) : a % PN < PN := Nat.mod_lt _ (by decide)
theorem sb_lt (a b : Nat) : sbN a b < PN := mod_lt _
def castW (t : Nat × Nat × Nat × Nat) : W4 := ((t.1 : Int), (t.2.1 : Int), (t.2.2.1 : Int), (t.2.2.2 : Int))
theorem wad_cast (k : Nat → Nat → Nat → Nat → Nat) (a b c d e f g h : Nat) (ha : a < PN) (hb : b < PN) (hc : c < PN) (hd : d < PN) (he : e < PN) (hf : f < PN) (hg : g < PN) (hh : h < PN) :
    ∃ r0 r1 r2 r3 : Nat, r0 < PN ∧ r1 < PN ∧ r2 < PN ∧ r3 < PN ∧ wadN k a b c d e f g h = k r0 r1 r2 r3 ∧ wad (castW (a, b, c, d)) (castW (e, f, g, h)) = castW (r0, r1, r2, r3) := by
  refine ⟨(wadT a b c d e f g h).1, (wadT a b c d e f g h).2.1, (wadT a b c d e f g h).2.2.1, (wadT a b c d e f g h).2.2.2, mod_lt _, mod_lt _, mod_lt _, mod_lt _, ?_, ?_⟩
  · have hb : ∀ a : Nat, Nat.ble (a % PN) PN = true := fun a => by
      rw [Nat.ble_eq]
      exact Nat.le_of_lt (mod_lt _)
    unfold wadN wadT
    simp only [hb, Bool.and_true, _root_.cond_true]
  · show waddF (a : Int) b c d e f g h dN = _
    unfold waddF wadT castW
    simp only [ad_cast, mu_cast, sb_cast _ _ hb ha, sb_cast _ _ hf he, sb_cast _ _ (mod_lt _) (mod_lt _), d_cast]
theorem wrun_cons (E Z : W4) (b : Bool) (bs : List Bool) : wrun E Z (b :: bs) = wrun E (wrung E Z b) bs := rfl
theorem wrun_nil (E Z : W4) : wrun E Z [] = Z := rfl
theorem ord_zero_eq (E1 E2 E3 E4 e a b c d : Nat) : ordN E1 E2 E3 E4 e 0 a b c d = (bif Nat.beq a 0 && Nat.beq b c then 1 else 2) := by rw [ordN]
theorem wrung_true (E A : W4) : wrung E A true = wad (wad A A) E := rfl
theorem wrung_false (E A : W4) : wrung E A false = wad A A := rfl
theorem ordS_eq (E1 E2 E3 E4 : Nat) (bt : Bool) (k : Nat → Nat → Nat → Nat → Nat) (a b c d : Nat) : ordS E1 E2 E3 E4 bt k a b c d = wadN (fun a b c d => bif bt then wadN k a b c d E1 E2 E3 E4 else k a b c d) a b c d a b c d := by rw [ordS]
theorem ordS_cast (E1 E2 E3 E4 : Nat) (h1 : E1 < PN) (h2 : E2 < PN) (h3 : E3 < PN) (h4 : E4 < PN) (E : W4) (hE : E = castW (E1, E2, E3, E4)) (bt : Bool) (k : Nat → Nat → Nat → Nat → Nat) (a b c d : Nat) (ha : a < PN) (hb : b < PN) (hc : c < PN) (hd : d < PN) :
    ∃ r0 r1 r2 r3 : Nat, r0 < PN ∧ r1 < PN ∧ r2 < PN ∧ r3 < PN ∧ ordS E1 E2 E3 E4 bt k a b c d = k r0 r1 r2 r3 ∧ wrung E (castW (a, b, c, d)) bt = castW (r0, r1, r2, r3) := by
  obtain ⟨q0, q1, q2, q3, l0, l1, l2, l3, e1, e2⟩ := wad_cast (fun a b c d => bif bt then wadN k a b c d E1 E2 E3 E4 else k a b c d) a b c d a b c d ha hb hc hd ha hb hc hd
  cases bt with
  | true =>
    obtain ⟨t0, t1, t2, t3, m0, m1, m2, m3, e3, e4⟩ := wad_cast k q0 q1 q2 q3 E1 E2 E3 E4 l0 l1 l2 l3 h1 h2 h3 h4
    refine ⟨t0, t1, t2, t3, m0, m1, m2, m3, (ordS_eq ..).trans (e1.trans ((_root_.cond_true _ _).trans e3)), ?_⟩
    rw [wrung_true, e2]
    exact (congrArg (wad _) hE).trans e4
  | false => exact ⟨q0, q1, q2, q3, l0, l1, l2, l3, (ordS_eq ..).trans (e1.trans (_root_.cond_false _ _)), by rw [wrung_false, e2]⟩
theorem ordN_succ (E1 E2 E3 E4 e f a b c d : Nat) : ordN E1 E2 E3 E4 e (f + 1) a b c d = ordS E1 E2 E3 E4 (Nat.beq (e / 2 ^ f % 2) 1) (ordN E1 E2 E3 E4 e f) a b c d := by rw [ordN]
theorem ord_cast (E1 E2 E3 E4 e : Nat) (h1 : E1 < PN) (h2 : E2 < PN) (h3 : E3 < PN) (h4 : E4 < PN) (E : W4) (hE : E = castW (E1, E2, E3, E4)) : ∀ (f a b c d : Nat), a < PN → b < PN → c < PN → d < PN →
    ∃ r0 r1 r2 r3 : Nat, ordN E1 E2 E3 E4 e f a b c d = (bif Nat.beq r0 0 && Nat.beq r1 r2 then 1 else 2) ∧ wrun E (castW (a, b, c, d)) (bitsDown e f) = castW (r0, r1, r2, r3) := by
  intro f
  induction f with
  | zero => intro a b c d _ _ _ _; exact ⟨a, b, c, d, ord_zero_eq .., by rw [bitsDown, wrun_nil]⟩
  | succ f ih =>
    intro a b c d ha hb hc hd
    obtain ⟨q0, q1, q2, q3, l0, l1, l2, l3, e1, e2⟩ := ordS_cast E1 E2 E3 E4 h1 h2 h3 h4 E hE (Nat.beq (e / 2 ^ f % 2) 1) (ordN E1 E2 E3 E4 e f) a b c d ha hb hc hd
    obtain ⟨r0, r1, r2, r3, e3, e4⟩ := ih q0 q1 q2 q3 l0 l1 l2 l3
    exact ⟨r0, r1, r2, r3, (ordN_succ ..).trans (e1.trans e3), by rw [bitsDown, wrun_cons, e2, e4]⟩
def ordBL : List Int := [237, 211, 245, 92, 26, 99, 18, 88, 214, 156, 247, 162, 222, 249, 222, 20, 0, 0, 0, 0, 0, 0, 0, 0, 0, 0, 0, 0, 0, 0, 0, 16]
theorem ordBL_len : ordBL.length = 32 := by decide
theorem ordBL_bytes : AreBytes ordBL := by unfold AreBytes; decide
theorem ord_bits : bitsB ordBL = bitsDown 7237005577332262213973186563042994240857116359379907606001950938285454250989 256 := by decide +kernel
theorem ord_num : numB ordBL = ordL.toNat := by decide +kernel
theorem ord_run : ordN 15112221349535400772501151409588531511454012693041857206046113283949847762202 46316835694926478169428394003475163141307993866256225615783033603165251855960 1 46827403850823179245072216630277197565144205554125654976674165829533817101731 7237005577332262213973186563042994240857116359379907606001950938285454250989 256 0 1 1 0 = 1 := by decide +kernel
theorem wE_base : wE BP.1 ((BP.2 - 1) % p) = castW (15112221349535400772501151409588531511454012693041857206046113283949847762202, 46316835694926478169428394003475163141307993866256225615783033603165251855960, 1, 46827403850823179245072216630277197565144205554125654976674165829533817101731) := by decide +kernel
theorem wE_zero' : wE 0 0 = castW (0, 1, 1, 0) := by decide +kernel
theorem ord_zero : climbP BP (bitsB ordBL) = pZero := by
  have r := wrun_rep BP_on (wE_rep BP_on) (bitsB ordBL) pZero_on wE_zero
  have on := climbP_on BP_on (bitsB ordBL)
  change RepW' _ (climbP BP (bitsB ordBL)) at r
  rw [wE_base, wE_zero', ord_bits] at r
  obtain ⟨r0, r1, r2, r3, h1, h2⟩ := ord_cast 15112221349535400772501151409588531511454012693041857206046113283949847762202 46316835694926478169428394003475163141307993866256225615783033603165251855960 1 46827403850823179245072216630277197565144205554125654976674165829533817101731 7237005577332262213973186563042994240857116359379907606001950938285454250989 (by decide) (by decide) (by decide) (by decide) _ rfl 256 0 1 1 0 (by decide) (by decide) (by decide) (by decide)
  rw [ord_run] at h1
  rw [h2] at r
  rw [← ord_bits] at r
  generalize climbP BP (bitsB ordBL) = P at r on
  have hq : r0 = 0 ∧ r1 = r2 := by
    cases ha : Nat.beq r0 0 with
    | false => rw [ha] at h1; simp at h1
    | true =>
      cases hb : Nat.beq r1 r2 with
      | false => rw [ha, hb] at h1; simp at h1
      | true => exact ⟨Nat.eq_of_beq_eq_true ha, Nat.eq_of_beq_eq_true hb⟩
  obtain ⟨rfl, rfl⟩ := hq
  have hz : (r1 : Int) % p ≠ 0 := by
    have := r.z
    have n := r.n
    change isN (r1 : Int) at n
    rw [isN_self n]; exact this
  have hX : (0 : Int) = r1 * P.1 % p := r.hx
  have hY : (r1 : Int) = r1 * P.2 % p := r.hy
  have x0 : P.1 = 0 := by
    have := (z_mul hX.symm).resolve_left hz
    rwa [isN_self on.x] at this
  have y1 : P.2 = 1 := by
    have n := r.n
    change isN (r1 : Int) at n
    have e : ((r1 : Int) * (P.2 - 1)) % p = 0 := by
      rw [show (r1 : Int) * (P.2 - 1) = r1 * P.2 - r1 by grind, ← subL, ← hY]
      simp
    have := z_sub ((z_mul e).resolve_left hz)
    rwa [isN_self on.y] at this
  exact Prod.ext x0 y1
theorem order_mul : nmul ordL.toNat BP = pZero := by
  rw [← ord_num, ← climb_num BP_on _ ordBL_bytes]
  exact ord_zero
theorem numB_bytes {r : Int} (h : isS r) : numB (bytesOf r) = r.toNat := by
  unfold numB
  rw [leAt_mod r 32 (Nat.le_refl _), Int.emod_eq_of_lt h.1 (Int.lt_trans h.2 (by decide))]
theorem bytesOf_bytes (n : Int) : AreBytes (bytesOf n) := fun v hv => by
  unfold bytesOf part at hv
  simp only [List.mem_map, List.mem_range] at hv
  obtain ⟨i, hi, rfl⟩ := hv
  rw [if_pos hi]
  unfold byteAt
  omega
theorem resN_32 (xs : List Int) (hx : xs.length = 32) (hb : AreBytes xs) : resN xs = (numB xs : Int) % ordL := by
  unfold resN
  rw [resB_val, bitsS_32 xs hx, bval_bits xs hb]
theorem mulAdd_val (za zb zc : List Int) (hab : AreBytes za) (hb : zb.length = 32) (hbb : AreBytes zb) (hc : zc.length = 32) (hcb : AreBytes zc) :
    (mulB (resN zb) (bitsB za) + resN zc) % ordL = ((numB za : Int) * numB zb + numB zc) % ordL := by
  rw [mulB_val, resN_32 zb hb hbb, resN_32 zc hc hcb, bval_bits za hab, ← Int.add_emod]
  rw [Int.add_emod, Int.mul_emod, Int.emod_emod, ← Int.mul_emod, ← Int.add_emod]
def kAB (a b : List Int) : List Int := bytesOf ((mulB (resN (key1 1)) (bitsB a) + resN b) % ordL)
theorem sum_eq (a b : List Int) (hab : AreBytes a) (hb : b.length = 32) (hbb : AreBytes b) : climbP BP (bitsB (kAB a b)) = pAdd (pa a) (pa b) := by
  unfold kAB pa
  rw [climb_num BP_on _ (bytesOf_bytes _), numB_bytes (isS_mod _), mulAdd_val a (key1 1) b hab (key1_len 1) (key1_bytes (by omega)) hb hbb, climb_num BP_on _ hab, climb_num BP_on _ hbb, ← nmul_add BP_on]
  have e1 : (numB (key1 1) : Int) = 1 := by rw [key1_eq, num_key2]; rfl
  rw [e1, Int.mul_one]
  have e2 : (((numB a : Int) + numB b) % ordL).toNat = (numB a + numB b) % ordL.toNat := by
    have hL : ((ordL.toNat : Nat) : Int) = ordL := by decide
    rw [← hL, ← Int.natCast_add, ← Int.natCast_emod, Int.toNat_natCast]
    rfl
  rw [e2, nmul_mod BP_on _ order_mul]

end Go.Proofs.YtaojnmjmmfdfjaaDoor.Field
