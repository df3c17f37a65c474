/- Residues: the document's digits. -/
import Derived.Test.YtaojnmjmmfdfjaaDoorScFnB
namespace Go.Proofs.YtaojnmjmmfdfjaaDoor.Field
open Go Go.RowKit
open Go.Proofs.YtaojnmjmmfdfjaaDoor.Rely Go.Proofs.YtaojnmjmmfdfjaaDoor.Auto
set_option linter.unusedVariables false

def dig (V : Int) : List Int := (List.range 34).map (byteAt V)
theorem dig_len (V : Int) : (dig V).length = 34 := by simp [dig]
theorem dig_nth (V : Int) (i : Nat) (hi : i < 34) : nth (dig V) i = byteAt V i := by simp [nth, dig, hi]
theorem byteAt_range (V : Int) (i : Nat) : 0 ≤ byteAt V i ∧ byteAt V i ≤ 255 := by unfold byteAt; omega
theorem dig_bytes (V : Int) : AreBytes (dig V) := fun x hx => by
  simp only [dig, List.mem_map] at hx
  obtain ⟨i, _, rfl⟩ := hx
  exact byteAt_range V i
theorem dig_zero : List.replicate 34 0 = dig 0 := by decide
theorem leAt_dig (V : Int) : ∀ k, k ≤ 34 → leAt (dig V) 0 k = V % 256 ^ k
  | 0, _ => by simp [leAt, Int.emod_one]
  | k + 1, hk => by
    rw [leAt, leAt_dig V k (by omega), Nat.zero_add, dig_nth V k (by omega), mod_step]
    unfold byteAt
    rw [Int.mul_comm (V / 256 ^ k % 256)]
theorem leAt_low (xs : List Int) (o : Nat) : ∀ m, leAt xs o (m + 1) = nth xs o + 256 * leAt xs (o + 1) m
  | 0 => by simp [leAt]
  | m + 1 => by
    rw [leAt, leAt_low xs o m, leAt, show o + (m + 1) = o + 1 + m by omega, Int.pow_succ]
    grind
def redT (xs : List Int) (N : Nat) : Nat → Int
  | 0 => 0
  | m + 1 => (256 * redT xs N m + nth xs (N - 1 - m)) % ordL
theorem redT_val (xs : List Int) (N : Nat) : ∀ m, m ≤ N → redT xs N m = leAt xs (N - m) m % ordL
  | 0, _ => rfl
  | m + 1, h => by
    rw [redT, redT_val xs N m (by omega), leAt_low, show N - (m + 1) + 1 = N - m by omega, show N - 1 - m = N - (m + 1) by omega, Int.add_emod, Int.mul_emod, Int.emod_emod, ← Int.mul_emod, ← Int.add_emod, Int.add_comm]
theorem redT_isS (xs : List Int) (N m : Nat) : isS (redT xs N m) := by
  cases m
  · exact (show isS 0 from ⟨by decide, by decide⟩)
  · exact isS_mod _
theorem pow256 (i : Nat) : (256 : Int) ^ (i + 1) = 256 * 256 ^ i := by rw [Int.pow_succ, Int.mul_comm]
theorem byteAt_shift (R x : Int) (hx : 0 ≤ x ∧ x ≤ 255) (i : Nat) : byteAt (256 * R + x) (i + 1) = byteAt R i := by
  unfold byteAt
  rw [pow256, ← Int.ediv_ediv_of_nonneg (by decide)]
  rw [show (256 * R + x) / 256 = R by omega]
theorem byteAt_first (R x : Int) (hx : 0 ≤ x ∧ x ≤ 255) : byteAt (256 * R + x) 0 = x := by
  unfold byteAt
  simp only [Int.pow_zero, Int.ediv_one]
  omega
def shf (R : Int) (i : Nat) : Int := byteAt R (i - 1)
def sh (R : Int) (k : Nat) : List Int := mix 34 (byteAt R) (shf R) k
theorem sh_len (R : Int) (k : Nat) : (sh R k).length = 34 := mix_len ..
theorem sh_start (R : Int) : dig R = sh R 34 := (mix_full 34 _ _ 34 (Nat.le_refl _)).symm
theorem sh_nth (R : Int) (k i : Nat) (h : i < k) (h2 : i < 34) : nth (sh R k) i = byteAt R i := by rw [sh, mix_nth _ _ _ _ _ h2, if_pos h]
theorem sh_next (R : Int) (q : Nat) (h0 : 0 < q) (hq : q ≤ 33) : (sh R (q + 1)).set q (byteAt R (q - 1)) = sh R (q - 1 + 1) := by
  rw [show q - 1 + 1 = q by omega]
  apply List.ext_getElem
  · simp [sh, mix]
  · intro i h1 h2
    simp only [sh, mix, List.length_map, List.length_range] at h2
    by_cases hi : i = q
    · subst hi; simp [sh, mix, shf]
    · rw [List.getElem_set_ne (by omega)]
      simp only [sh, mix, List.getElem_map, List.getElem_range]
      by_cases h : i < q
      · rw [if_pos h, if_pos (by omega)]
      · rw [if_neg h, if_neg (by omega)]
theorem sh_end (R x : Int) (hx : 0 ≤ x ∧ x ≤ 255) : (sh R (0 + 1)).set 0 x = dig (256 * R + x) := by
  apply List.ext_getElem
  · simp [sh, mix, dig]
  · intro i h1 h2
    simp only [dig, List.length_map, List.length_range] at h2
    rcases i with _ | i
    · simp [dig, byteAt_first R x hx]
    · rw [List.getElem_set_ne (by omega)]
      simp only [sh, mix, dig, List.getElem_map, List.getElem_range]
      rw [if_neg (by omega), byteAt_shift R x hx]
      rfl
/-! ### Subtraction digit by digit -/
def bo (V : Int) (k : Nat) : Int := if V % 256 ^ k < ordL % 256 ^ k then 1 else 0
def dn (V : Int) (k : Nat) : Int := byteAt V k - bo V k - byteAt ordL k
theorem bo_zero (V : Int) : bo V 0 = 0 := by unfold bo; simp [Int.emod_one]
theorem bo_range (V : Int) (k : Nat) : 0 ≤ bo V k ∧ bo V k ≤ 1 := by unfold bo; split <;> omega
theorem sub_core (B qv ql a b : Int) (hB : 0 < B) (ha : 0 ≤ a ∧ a < B) (hb : 0 ≤ b ∧ b < B) : (B * qv + a - (B * ql + b)) / B = qv - ql - (if a < b then 1 else 0) := by
  have e : ∀ q r : Int, 0 ≤ r → r < B → (B * q + r) / B = q := fun q r h0 h1 => by
    rw [Int.add_comm, Int.add_mul_ediv_left _ _ (Int.ne_of_gt hB), Int.ediv_eq_zero_of_lt h0 h1, Int.zero_add]
  by_cases h : a < b
  · rw [if_pos h, show B * qv + a - (B * ql + b) = B * (qv - ql - 1) + (a - b + B) by grind]
    exact e _ _ (by omega) (by omega)
  · rw [if_neg h, show B * qv + a - (B * ql + b) = B * (qv - ql) + (a - b) by grind, e _ _ (by omega) (by omega)]
    omega
theorem cmp_core (B vd ld a b : Int) (hB : 0 < B) (ha : 0 ≤ a ∧ a < B) (hb : 0 ≤ b ∧ b < B) : (a + B * vd < b + B * ld) ↔ vd - (if a < b then 1 else 0) - ld < 0 := by
  by_cases h1 : vd < ld
  · have : B * vd + B ≤ B * ld := by
      have := Int.mul_le_mul_of_nonneg_left (show vd + 1 ≤ ld by omega) (Int.le_of_lt hB)
      rw [Int.mul_add, Int.mul_one] at this; exact this
    constructor
    · intro _; split <;> omega
    · intro _; omega
  · by_cases h2 : vd = ld
    · subst h2
      constructor
      · intro h; rw [if_pos (by omega)]; omega
      · intro h; split at h <;> omega
    · have : B * ld + B ≤ B * vd := by
        have := Int.mul_le_mul_of_nonneg_left (show ld + 1 ≤ vd by omega) (Int.le_of_lt hB)
        rw [Int.mul_add, Int.mul_one] at this; exact this
      constructor
      · intro h; omega
      · intro h; split at h <;> omega
theorem dsub (V : Int) (k : Nat) : byteAt (V - ordL) k = dn V k % 256 ∧ (bo V (k + 1) = if dn V k < 0 then 1 else 0) := by
  have hB : (0 : Int) < 256 ^ k := Int.pow_pos (by decide)
  have s1 := mod_step V k
  have s2 := mod_step ordL k
  unfold dn bo byteAt
  rw [s1, s2]
  generalize ordL = l at *
  generalize (256 : Int) ^ k = B at hB
  have e1 := Int.mul_ediv_add_emod V B
  have e2 := Int.mul_ediv_add_emod l B
  have a1 := Int.emod_nonneg V (Int.ne_of_gt hB)
  have a2 := Int.emod_lt_of_pos V hB
  have b1 := Int.emod_nonneg l (Int.ne_of_gt hB)
  have b2 := Int.emod_lt_of_pos l hB
  have c := sub_core B (V / B) (l / B) (V % B) (l % B) hB ⟨a1, a2⟩ ⟨b1, b2⟩
  rw [e1, e2] at c
  have d := cmp_core B (V / B % 256) (l / B % 256) (V % B) (l % B) hB ⟨a1, a2⟩ ⟨b1, b2⟩
  constructor
  · rw [c]; omega
  · by_cases h : V % B + B * (V / B % 256) < l % B + B * (l / B % 256)
    · rw [if_pos h, if_pos (d.1 h)]
    · rw [if_neg h, if_neg (fun g => h (d.2 g))]
theorem dn_range (V : Int) (k : Nat) : -256 ≤ dn V k ∧ dn V k ≤ 255 := by
  have h1 := byteAt_range V k; have h2 := byteAt_range ordL k; have h3 := bo_range V k
  unfold dn; omega
theorem dsub_neg (V : Int) (k : Nat) (h : dn V k < 0) : dn V k + 256 = byteAt (V - ordL) k ∧ bo V (k + 1) = 1 := by
  have r := dn_range V k
  obtain ⟨h1, h2⟩ := dsub V k
  rw [h1, h2, if_pos h]
  exact ⟨by omega, rfl⟩
theorem dsub_pos (V : Int) (k : Nat) (h : ¬ dn V k < 0) : dn V k = byteAt (V - ordL) k ∧ bo V (k + 1) = 0 := by
  have r := dn_range V k
  obtain ⟨h1, h2⟩ := dsub V k
  rw [h1, h2, if_neg h]
  exact ⟨by omega, rfl⟩
theorem ord_high (k : Nat) (h : 32 ≤ k) : byteAt ordL k = 0 := by
  obtain ⟨m, rfl⟩ : ∃ m, k = 32 + m := ⟨k - 32, by omega⟩
  unfold byteAt
  rw [Int.pow_add, ← Int.ediv_ediv_of_nonneg (Int.pow_nonneg (by decide)), show ordL / 256 ^ 32 = 0 by decide]
  simp
def ordI : List Int := [237, 211, 245, 92, 26, 99, 18, 88, 214, 156, 247, 162, 222, 249, 222, 20, 0, 0, 0, 0, 0, 0, 0, 0, 0, 0, 0, 0, 0, 0, 0, 16]
theorem ordI_len : ordI.length = 32 := by decide
theorem ordI_bytes : AreBytes ordI := by unfold AreBytes; decide
theorem ordI_nth : ∀ k, k < 32 → nth ordI k = byteAt ordL k := by decide
theorem ordI_le : leAt ordI 0 34 = ordL := by decide +kernel
def sb (V : Int) (k : Nat) : List Int := mix 34 (byteAt (V - ordL)) (byteAt V) k
theorem sb_len (V : Int) (k : Nat) : (sb V k).length = 34 := mix_len ..
theorem sb_start (V : Int) : dig V = sb V 0 := (mix_none 34 _ _).symm
theorem sb_end (V : Int) : sb V 34 = dig (V - ordL) := mix_full 34 _ _ 34 (Nat.le_refl _)
theorem sb_nth (V : Int) (k : Nat) (h : k < 34) : nth (sb V k) k = byteAt V k := by rw [sb, mix_nth _ _ _ _ _ h, if_neg (by omega)]
theorem sb_next (V : Int) (k : Nat) (h : k < 34) (v : Int) (e : v = byteAt (V - ordL) k) : (sb V k).set k v = sb V (k + 1) := by rw [e]; exact mix_set 34 _ _ k h
/-! ### Which number is the greater one -/
theorem leAt_same (xs ys : List Int) (k : Nat) : ∀ m, (∀ j, k ≤ j → j < k + m → nth xs j = nth ys j) → leAt xs 0 (k + m) - leAt ys 0 (k + m) = leAt xs 0 k - leAt ys 0 k
  | 0, _ => rfl
  | m + 1, h => by
    rw [← Nat.add_assoc, leAt, leAt, Nat.zero_add, h (k + m) (by omega) (by omega)]
    have := leAt_same xs ys k m fun j h1 h2 => h j h1 (by omega)
    omega
theorem cmp_at (xs ys : List Int) (hx : AreBytes xs) (hy : AreBytes ys) (i N : Nat) (hi : i < N) (h : ∀ j, i + 1 ≤ j → j < N → nth xs j = nth ys j) (hne : nth xs i ≠ nth ys i) :
    decide (nth xs i > nth ys i) = decide (leAt ys 0 N ≤ leAt xs 0 N) := by
  have e := leAt_same xs ys (i + 1) (N - (i + 1)) (fun j h1 h2 => h j h1 (by omega))
  rw [show i + 1 + (N - (i + 1)) = N by omega, leAt, leAt, Nat.zero_add] at e
  have r1 := leAt_range xs hx 0 i
  have r2 := leAt_range ys hy 0 i
  have hB : (0 : Int) < 256 ^ i := Int.pow_pos (by decide)
  generalize (256 : Int) ^ i = B at *
  generalize leAt xs 0 i = a at *
  generalize leAt ys 0 i = b at *
  generalize nth xs i = u at *
  generalize nth ys i = v at *
  by_cases hh : u > v
  · have : v * B + B ≤ u * B := by
      have := Int.mul_le_mul_of_nonneg_right (show v + 1 ≤ u by omega) (Int.le_of_lt hB)
      rw [Int.add_mul, Int.one_mul] at this; exact this
    rw [decide_eq_true hh, decide_eq_true (by omega)]
  · have : u * B + B ≤ v * B := by
      have := Int.mul_le_mul_of_nonneg_right (show u + 1 ≤ v by omega) (Int.le_of_lt hB)
      rw [Int.add_mul, Int.one_mul] at this; exact this
    rw [decide_eq_false hh, decide_eq_false (by omega)]
theorem cmp_all (xs ys : List Int) (N : Nat) (h : ∀ j, 0 ≤ j → j < N → nth xs j = nth ys j) : decide (leAt ys 0 N ≤ leAt xs 0 N) = true := by
  have e := leAt_same xs ys 0 N (fun j h1 h2 => h j h1 (by omega))
  rw [Nat.zero_add] at e
  simp only [leAt, Int.sub_self] at e
  exact decide_eq_true (by omega)
theorem nth_beyond (ys : List Int) (j : Nat) (h : ys.length ≤ j) : nth ys j = 0 := by
  unfold nth
  rw [List.getD_eq_getElem?_getD, List.getElem?_eq_none h]
  rfl
theorem ge_dig (V : Int) (h0 : 0 ≤ V) (h1 : V < 256 ^ 34) : decide (leAt ordI 0 34 ≤ leAt (dig V) 0 34) = decide (ordL ≤ V) := by
  rw [ordI_le, leAt_dig V 34 (Nat.le_refl _), Int.emod_eq_of_lt h0 h1]
def fill (bs : List Int) (n k : Nat) : List Int := mix n (nth bs) (fun _ => 0) k
theorem fill_len (bs : List Int) (n k : Nat) : (fill bs n k).length = n := mix_len ..
theorem fill_start (bs : List Int) (n : Nat) : List.replicate n 0 = fill bs n 0 := by rw [fill, mix_none]; simp [List.map_const']
theorem fill_next (bs : List Int) (n k : Nat) (h : k < n) : (fill bs n k).set k (nth bs k) = fill bs n (k + 1) := mix_set n _ _ k h
theorem fill_end (bs : List Int) (n : Nat) (h : bs.length = n) : fill bs n n = bs := by rw [fill, mix_full n _ _ n (Nat.le_refl _)]; exact range_nth bs n h
end Go.Proofs.YtaojnmjmmfdfjaaDoor.Field
