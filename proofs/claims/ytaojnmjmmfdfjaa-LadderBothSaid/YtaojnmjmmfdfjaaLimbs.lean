/- Numbers by sixteen parts of 16 bits: values, carries, the rounds of the reduction. -/
import Derived.Test.YtaojnmjmmfdfjaaBytes
namespace Go.Proofs.Ytaojnmjmmfdfjaa.Field
open Go Go.RowKit
open Go.Proofs.Ytaojnmjmmfdfjaa.Rely
set_option linter.unusedVariables false

/-- what the first k parts stand for -/
def pvf (g : Nat → Int) : Nat → Int
  | 0 => 0
  | k + 1 => pvf g k + g k * 65536 ^ k
/-- a number's part -/
def limb (n : Int) (i : Nat) : Int := n / 65536 ^ i % 65536
/-- the carry into part k -/
def cr (g : Nat → Int) (k : Nat) : Int := pvf g k / 65536 ^ k
theorem B_pos (k : Nat) : (0 : Int) < 65536 ^ k := Int.pow_pos (by decide)
theorem limb_range (n : Int) (i : Nat) : 0 ≤ limb n i ∧ limb n i < 65536 := by unfold limb; omega
theorem cr_zero (g : Nat → Int) : cr g 0 = 0 := by simp [cr, pvf]
theorem cr_div (g : Nat → Int) (k : Nat) : pvf g (k + 1) / 65536 ^ k = g k + cr g k := by
  unfold cr
  rw [pvf, Int.add_mul_ediv_right _ _ (Int.ne_of_gt (B_pos k)), Int.add_comm]
theorem cr_step (g : Nat → Int) (k : Nat) : (g k + cr g k) / 65536 = cr g (k + 1) := by
  rw [← cr_div]
  unfold cr
  rw [Int.pow_succ, Int.ediv_ediv_of_nonneg (Int.le_of_lt (B_pos k))]
theorem cr_limb (g : Nat → Int) (k : Nat) : (g k + cr g k) % 65536 = limb (pvf g (k + 1)) k := by
  rw [← cr_div]
  rfl
theorem pvf_split (g : Nat → Int) (k : Nat) : ∀ m, ∃ r, pvf g (k + m) = pvf g k + r * 65536 ^ k
  | 0 => ⟨0, by simp⟩
  | m + 1 => by
    obtain ⟨r, h⟩ := pvf_split g k m
    refine ⟨r + g (k + m) * 65536 ^ m, ?_⟩
    rw [← Nat.add_assoc, pvf, h, Int.pow_add, Int.add_mul, Int.mul_assoc, Int.mul_comm (65536 ^ m), Int.add_assoc]
theorem limb_prefix (g : Nat → Int) (k n : Nat) (h : k < n) : limb (pvf g (k + 1)) k = limb (pvf g n) k := by
  obtain ⟨m, rfl⟩ : ∃ m, n = k + 1 + m := ⟨n - (k + 1), by omega⟩
  obtain ⟨r, hr⟩ := pvf_split g (k + 1) m
  unfold limb
  rw [hr, Int.pow_succ, ← Int.mul_assoc, Int.mul_right_comm, Int.add_mul_ediv_right _ _ (Int.ne_of_gt (B_pos k)), Int.add_mul_emod_self_right]
/-- all of a round of carrying -/
theorem carry_limb (g : Nat → Int) (k n : Nat) (h : k < n) : (g k + cr g k) % 65536 = limb (pvf g n) k := by
  rw [cr_limb, limb_prefix g k n h]
theorem pvf_range (g : Nat → Int) (n : Nat) (hg : ∀ i, i < n → 0 ≤ g i ∧ g i < 65536) : ∀ k, k ≤ n → 0 ≤ pvf g k ∧ pvf g k < 65536 ^ k
  | 0, _ => by simp [pvf]
  | k + 1, h => by
    have ih := pvf_range g n hg k (by omega)
    have h0 := hg k (by omega)
    have hp := B_pos k
    have h1 : 0 ≤ g k * 65536 ^ k := Int.mul_nonneg h0.1 (Int.le_of_lt hp)
    have h2 : g k * 65536 ^ k ≤ 65535 * 65536 ^ k := Int.mul_le_mul_of_nonneg_right (by omega) (Int.le_of_lt hp)
    rw [pvf, Int.pow_succ]
    omega
theorem pvf_nonneg (g : Nat → Int) (n : Nat) (hg : ∀ i, i < n → 0 ≤ g i) : ∀ k, k ≤ n → 0 ≤ pvf g k
  | 0, _ => by simp [pvf]
  | k + 1, h => by
    have ih := pvf_nonneg g n hg k (by omega)
    have h1 : 0 ≤ g k * 65536 ^ k := Int.mul_nonneg (hg k (by omega)) (Int.le_of_lt (B_pos k))
    rw [pvf]
    omega
theorem cr_range (g : Nat → Int) (M : Int) (n : Nat) (hM : 65536 ≤ M) (hg : ∀ i, i < n → 0 ≤ g i ∧ g i ≤ M) : ∀ k, k ≤ n → 0 ≤ cr g k ∧ cr g k ≤ M
  | 0, _ => by rw [cr_zero]; omega
  | k + 1, h => by
    have ih := cr_range g M n hM hg k (by omega)
    have h0 := hg k (by omega)
    rw [← cr_step]
    omega
/-- parts give their number back -/
theorem pvf_limb (n : Int) : ∀ k, pvf (limb n) k = n % 65536 ^ k
  | 0 => by simp [pvf, Int.emod_one]
  | k + 1 => by
    rw [pvf, pvf_limb n k]
    unfold limb
    rw [Int.pow_succ, Int.emod_def n, Int.emod_def n, Int.emod_def (n / _), ← Int.ediv_ediv_of_nonneg (Int.le_of_lt (B_pos k))]
    generalize n / 65536 ^ k = q
    generalize (65536 : Int) ^ k = b
    generalize q / 65536 = r
    grind
theorem limb_of (g : Nat → Int) (n : Nat) (hg : ∀ i, i < n → 0 ≤ g i ∧ g i < 65536) (k : Nat) (hk : k < n) : limb (pvf g n) k = g k := by
  rw [← carry_limb g k n hk]
  have h1 := hg k hk
  have : cr g k = 0 := by
    have := pvf_range g n hg k (by omega)
    unfold cr
    exact Int.ediv_eq_zero_of_lt this.1 this.2
  rw [this]
  omega
theorem pvf_congr {g h : Nat → Int} {n : Nat} (e : ∀ i, i < n → g i = h i) : ∀ k, k ≤ n → pvf g k = pvf h k
  | 0, _ => rfl
  | k + 1, hk => by rw [pvf, pvf, pvf_congr e k (by omega), e k (by omega)]
theorem pvf_add (g h : Nat → Int) : ∀ k, pvf (fun i => g i + h i) k = pvf g k + pvf h k
  | 0 => rfl
  | k + 1 => by simp only [pvf]; rw [pvf_add g h k, Int.add_mul]; omega
theorem pvf_smul (c : Int) (g : Nat → Int) : ∀ k, pvf (fun i => c * g i) k = c * pvf g k
  | 0 => by simp [pvf]
  | k + 1 => by simp only [pvf]; rw [pvf_smul c g k, Int.mul_add, Int.mul_assoc]
/-- the upper parts -/
theorem pvf_upper (g : Nat → Int) (k : Nat) : ∀ m, pvf g (k + m) = pvf g k + pvf (fun i => g (i + k)) m * 65536 ^ k
  | 0 => by simp [pvf]
  | m + 1 => by
    rw [← Nat.add_assoc, pvf, pvf_upper g k m, pvf, Int.add_mul, Nat.add_comm m k, Int.pow_add]
    rw [Int.mul_assoc (g (k + m)), Int.mul_comm (65536 ^ m), Int.add_assoc]
theorem limb_shift (n : Int) (i k : Nat) : limb n (i + k) = limb (n / 65536 ^ k) i := by
  unfold limb
  rw [Int.ediv_ediv_of_nonneg (Int.le_of_lt (B_pos k)), ← Int.pow_add, Nat.add_comm k i]
/-- the first k places by f, the others by g -/
def mix (N : Nat) (f g : Nat → Int) (k : Nat) : List Int := (List.range N).map fun i => if i < k then f i else g i
theorem mix_len (N : Nat) (f g : Nat → Int) (k : Nat) : (mix N f g k).length = N := by simp [mix]
theorem mix_nth (N : Nat) (f g : Nat → Int) (k i : Nat) (hi : i < N) : nth (mix N f g k) i = if i < k then f i else g i := by simp [nth, mix, hi]
theorem mix_full (N : Nat) (f g : Nat → Int) (k : Nat) (h : N ≤ k) : mix N f g k = (List.range N).map f := by
  unfold mix
  refine List.map_congr_left fun i hi => ?_
  have := List.mem_range.1 hi
  rw [if_pos (by omega)]
theorem mix_none (N : Nat) (f g : Nat → Int) : mix N f g 0 = (List.range N).map g := by
  unfold mix
  exact List.map_congr_left fun i hi => by simp
theorem mix_set (N : Nat) (f g : Nat → Int) (k : Nat) (hk : k < N) : (mix N f g k).set k (f k) = mix N f g (k + 1) := by
  apply List.ext_getElem
  · simp [mix]
  · intro i h1 h2
    simp only [mix, List.getElem_set, List.getElem_map, List.getElem_range]
    by_cases hi : k = i
    · subst hi; simp
    · simp only [hi, if_false]
      by_cases hl : i < k
      · rw [if_pos hl, if_pos (by omega)]
      · rw [if_neg hl, if_neg (by omega)]
theorem range_nth (xs : List Int) (N : Nat) (h : xs.length = N) : (List.range N).map (nth xs) = xs := by
  apply List.ext_getElem
  · simp [h]
  · intro i h1 h2
    simp [nth, h2]
/-- the sixteen parts of a number -/
def lims (n : Int) : List Int := (List.range 16).map (limb n)
theorem lims_len (n : Int) : (lims n).length = 16 := by simp [lims]
theorem lims_nth (n : Int) (i : Nat) (h : i < 16) : nth (lims n) i = limb n i := by simp [nth, lims, h]
theorem lims_inj {a b : Int} (ha : 0 ≤ a ∧ a < 65536 ^ 16) (hb : 0 ≤ b ∧ b < 65536 ^ 16) (h : lims a = lims b) : a = b := by
  have e : ∀ i, i < 16 → limb a i = limb b i := fun i hi => by rw [← lims_nth a i hi, h, lims_nth b i hi]
  have := pvf_congr e 16 (Nat.le_refl _)
  rw [pvf_limb, pvf_limb, Int.emod_eq_of_lt ha.1 ha.2, Int.emod_eq_of_lt hb.1 hb.2] at this
  exact this
/-! ### The rounds of the reduction: 2^256 counts 38 times -/
def fold38 (n : Int) (i : Nat) : Int := if i < 16 then limb n i + 38 * limb n (i + 16) else 0
def foldV (n : Int) : Int := n % 65536 ^ 16 + 38 * (n / 65536 ^ 16)
theorem pvf_zero : ∀ k, pvf (fun _ => 0) k = 0
  | 0 => rfl
  | k + 1 => by rw [pvf, pvf_zero k]; simp
theorem fold_val (n : Int) (h : 0 ≤ n ∧ n < 65536 ^ 32) : pvf (fold38 n) 32 = foldV n := by
  have e0 : pvf (fold38 n) (16 + 16) = pvf (fold38 n) 16 + pvf (fun i => fold38 n (i + 16)) 16 * 65536 ^ 16 := pvf_upper _ 16 16
  have e1 : pvf (fun i => fold38 n (i + 16)) 16 = 0 := by
    rw [pvf_congr (h := fun _ => 0) (n := 16) (fun i hi => by unfold fold38; rw [if_neg (by omega)]) 16 (Nat.le_refl _)]
    exact pvf_zero 16
  have e2 : pvf (fold38 n) 16 = pvf (fun i => limb n i + 38 * limb n (i + 16)) 16 :=
    pvf_congr (fun i hi => by unfold fold38; rw [if_pos hi]) 16 (Nat.le_refl _)
  have e3 : pvf (fun i => limb n (i + 16)) 16 = n / 65536 ^ 16 := by
    rw [pvf_congr (h := limb (n / 65536 ^ 16)) (n := 16) (fun i hi => limb_shift n i 16) 16 (Nat.le_refl _), pvf_limb]
    exact Int.emod_eq_of_lt (Int.ediv_nonneg h.1 (Int.le_of_lt (B_pos 16))) (Int.ediv_lt_of_lt_mul (B_pos 16) (by rw [← Int.pow_add]; exact h.2))
  have e4 := pvf_add (limb n) (fun i => 38 * limb n (i + 16)) 16
  have e5 := pvf_smul 38 (fun i => limb n (i + 16)) 16
  rw [show (32 : Nat) = 16 + 16 from rfl, e0, e1, e2, e4, e5, e3, pvf_limb]
  unfold foldV
  omega
theorem fold38_range (n : Int) (i : Nat) : 0 ≤ fold38 n i ∧ fold38 n i ≤ 2555865 := by
  unfold fold38
  have := limb_range n i
  have := limb_range n (i + 16)
  split <;> omega
/-- four rounds are enough -/
theorem four (n : Int) (h : 0 ≤ n ∧ n < 65536 ^ 32) : 0 ≤ foldV n ∧ foldV n < 65536 ^ 32 ∧ 0 ≤ foldV (foldV n) ∧ foldV (foldV n) < 65536 ^ 32 ∧ 0 ≤ foldV (foldV (foldV n)) ∧ foldV (foldV (foldV n)) < 65536 ^ 32 ∧
    0 ≤ foldV (foldV (foldV (foldV n))) ∧ foldV (foldV (foldV (foldV n))) < 65536 ^ 16 ∧ foldV (foldV (foldV (foldV n))) % 57896044618658097711785492504343953926634992332820282019728792003956564819949 = n % 57896044618658097711785492504343953926634992332820282019728792003956564819949 := by
  have e1 : (65536 : Int) ^ 16 = 115792089237316195423570985008687907853269984665640564039457584007913129639936 := by decide
  have e2 : (65536 : Int) ^ 32 = 13407807929942597099574024998205846127479365820592393377723561443721764030073546976801874298166903427690031858186486050853753882811946569946433649006084096 := by decide
  have step : ∀ m : Int, foldV m = m - 115792089237316195423570985008687907853269984665640564039457584007913129639898 * (m / 115792089237316195423570985008687907853269984665640564039457584007913129639936) := fun m => by
    unfold foldV; rw [e1]; omega
  rw [e1, e2] at *
  generalize hq1 : n / 115792089237316195423570985008687907853269984665640564039457584007913129639936 = q1
  have s1 := step n
  rw [hq1] at s1
  have b1 : 0 ≤ foldV n ∧ foldV n < 4515891480255331621519268415338828406277529401959981997538845776308612055957504 := by omega
  generalize foldV n = m1 at *
  have s2 := step m1
  generalize hq2 : m1 / 115792089237316195423570985008687907853269984665640564039457584007913129639936 = q2 at *
  have b2 : 0 ≤ foldV m1 ∧ foldV m1 < 115792089237316195423570985008687907853269984665640564039457584007913129639936 + 38 * 38 := by omega
  generalize foldV m1 = m2 at *
  have s3 := step m2
  generalize hq3 : m2 / 115792089237316195423570985008687907853269984665640564039457584007913129639936 = q3 at *
  have b3 : 0 ≤ foldV m2 ∧ foldV m2 < 115792089237316195423570985008687907853269984665640564039457584007913129639936 := by omega
  generalize foldV m2 = m3 at *
  have s4 := step m3
  generalize hq4 : m3 / 115792089237316195423570985008687907853269984665640564039457584007913129639936 = q4 at *
  have b4 : 0 ≤ foldV m3 ∧ foldV m3 < 115792089237316195423570985008687907853269984665640564039457584007913129639936 := by omega
  generalize foldV m3 = m4 at *
  refine ⟨by omega, by omega, by omega, by omega, by omega, by omega, by omega, by omega, ?_⟩
  have : m4 = n - 2 * 57896044618658097711785492504343953926634992332820282019728792003956564819949 * (q1 + q2 + q3 + q4) := by omega
  omega
end Go.Proofs.Ytaojnmjmmfdfjaa.Field
