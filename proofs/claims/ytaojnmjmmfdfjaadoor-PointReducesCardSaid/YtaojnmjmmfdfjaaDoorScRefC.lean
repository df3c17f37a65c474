/- Residues: numbers of lists of any length; products by digits. -/
import Derived.Test.YtaojnmjmmfdfjaaDoorScRefB
namespace Go.Proofs.YtaojnmjmmfdfjaaDoor.Field
open Go Go.RowKit
open Go.Proofs.YtaojnmjmmfdfjaaDoor.Rely Go.Proofs.YtaojnmjmmfdfjaaDoor.Auto
set_option linter.unusedVariables false

theorem leAt_split (xs : List Int) (o a : Nat) : ∀ b, leAt xs o (a + b) = leAt xs o a + 256 ^ a * leAt xs (o + a) b
  | 0 => by simp [leAt]
  | b + 1 => by
    rw [← Nat.add_assoc, leAt, leAt_split xs o a b, leAt, Int.pow_add, Nat.add_assoc]
    grind
theorem leAt_byte (es : List Int) (hb : AreBytes es) (n q : Nat) (hq : q < n) : leAt es 0 n / 256 ^ q % 256 = nth es q := by
  have hB : (0 : Int) < 256 ^ q := Int.pow_pos (by decide)
  have e := leAt_split es 0 q (n - q)
  rw [show q + (n - q) = n by omega, show n - q = (n - q - 1) + 1 by omega, leAt_low, Nat.zero_add] at e
  have r := leAt_range es hb 0 q
  rw [e]
  generalize (256 : Int) ^ q = B at *
  generalize leAt es 0 q = a at *
  generalize leAt es (q + 1) (n - q - 1) = c
  rw [Int.add_mul_ediv_left _ _ (Int.ne_of_gt hB), Int.ediv_eq_zero_of_lt r.1 r.2]
  have := hb.nth q
  omega
theorem mod_bit8 (m : Int) (r : Nat) (hr : r < 8) : m % 256 / 2 ^ r % 2 = m / 2 ^ r % 2 := by
  rcases (by omega : r = 0 ∨ r = 1 ∨ r = 2 ∨ r = 3 ∨ r = 4 ∨ r = 5 ∨ r = 6 ∨ r = 7) with rfl | rfl | rfl | rfl | rfl | rfl | rfl | rfl
  all_goals
    simp only [Int.reducePow]
    omega
theorem bit_numS (es : List Int) (hb : AreBytes es) (n i : Nat) (hi : i < 8 * n) : bitAt es i = leAt es 0 n / 2 ^ i % 2 := by
  unfold bitAt
  rw [← leAt_byte es hb n (i / 8) (by omega), mod_bit8 _ _ (by omega), Int.ediv_ediv_of_nonneg (Int.pow_nonneg (by decide)), show (256 : Int) = 2 ^ 8 by decide, ← Int.pow_mul, ← Int.pow_add, show 8 * (i / 8) + i % 8 = i by omega]
def numS (es : List Int) : Nat := (leAt es 0 es.length).toNat
theorem bitB_numS (es : List Int) (hb : AreBytes es) (i : Nat) (hi : i < 8 * es.length) : (if bitB es i = true then 1 else 0) = numS es / 2 ^ i % 2 := by
  have h := bit_numS es hb es.length i hi
  have hr := leAt_range es hb 0 es.length
  have e : ((numS es : Nat) : Int) = leAt es 0 es.length := by unfold numS; omega
  rw [← e] at h
  have h2 : bitAt es i = ((numS es / 2 ^ i % 2 : Nat) : Int) := by
    rw [h]; rw [Int.natCast_emod, Int.natCast_ediv, Int.natCast_pow]; rfl
  unfold bitB
  rw [h2]
  have : numS es / 2 ^ i % 2 < 2 := Nat.mod_lt _ (by decide)
  rcases (by omega : numS es / 2 ^ i % 2 = 0 ∨ numS es / 2 ^ i % 2 = 1) with q | q <;> rw [q] <;> rfl
theorem bval_takeS (es : List Int) (hb : AreBytes es) (N : Nat) (hN : 8 * es.length = N) : ∀ k, k ≤ N → bval ((bitsS es).take k) = numS es / 2 ^ (N - k)
  | 0, _ => by
    have hr := leAt_range es hb 0 es.length
    have h1 : ((numS es : Nat) : Int) < ((2 ^ N : Nat) : Int) := by
      have e : ((2 ^ N : Nat) : Int) = 256 ^ es.length := by
        rw [← hN, Int.natCast_pow, show (256 : Int) = 2 ^ 8 by decide, ← Int.pow_mul]; rfl
      unfold numS
      rw [e]; omega
    have h2 : numS es < 2 ^ N := by omega
    rw [Nat.sub_zero, Nat.div_eq_of_lt h2]
    rfl
  | k + 1, hk => by
    have e := bitsS_take es (N - 1 - k) (by omega)
    rw [hN, show N - (N - 1 - k) = k + 1 by omega, show N - (N - 1 - k + 1) = k by omega] at e
    rw [e, bval_snoc, bval_takeS es hb N hN k (by omega), bitB_numS es hb _ (by omega), show N - k = (N - 1 - k) + 1 by omega, show N - (k + 1) = N - 1 - k by omega, Nat.pow_succ, ← Nat.div_div_eq_div_mul]
    omega
theorem resN_le (bs : List Int) (hb : AreBytes bs) : resN bs = leAt bs 0 bs.length % ordL := by
  unfold resN
  have h := bval_takeS bs hb (8 * bs.length) rfl (8 * bs.length) (Nat.le_refl _)
  rw [List.take_of_length_le (by rw [bitsS_len]; omega)] at h
  rw [resB_val, h]
  have hr := leAt_range bs hb 0 bs.length
  congr 1
  unfold numS
  simp
  omega
theorem resN_back (bs : List Int) : resN (bytesOf (resN bs)) = resN bs := by
  rw [resN_32 _ (bytesOf_len _) (bytesOf_bytes _), numB_bytes (resN_isS bs)]
  have h := resN_isS bs
  rw [Int.toNat_of_nonneg h.1, isS_self h]
/-! ### One entry of a list is another one -/
theorem nth_set_ne (xs : List Int) (i j : Nat) (v : Int) (h : i ≠ j) : nth (xs.set i v) j = nth xs j := by
  unfold nth
  rw [List.getD_eq_getElem?_getD, List.getD_eq_getElem?_getD, List.getElem?_set_ne h]
theorem leAt_set_high (xs : List Int) (q : Nat) (v : Int) : ∀ N, N ≤ q → leAt (xs.set q v) 0 N = leAt xs 0 N
  | 0, _ => rfl
  | N + 1, h => by rw [leAt, leAt, leAt_set_high xs q v N (by omega), nth_set_ne _ _ _ _ (by omega)]
theorem leAt_set (xs : List Int) (q : Nat) (v : Int) (hq : q < xs.length) : ∀ N, q < N → leAt (xs.set q v) 0 N = leAt xs 0 N + (v - nth xs q) * 256 ^ q
  | 0, h => by omega
  | N + 1, h => by
    rw [leAt, leAt, Nat.zero_add]
    by_cases e : N = q
    · subst e
      rw [leAt_set_high xs N v N (Nat.le_refl _), nth_set_self _ _ _ hq]
      grind
    · rw [leAt_set xs q v hq N (by omega), nth_set_ne _ _ _ _ (by omega)]
      grind
theorem i64_mid (v : Int) (h : -1000000000 ≤ v ∧ v ≤ 1000000000) : IntKind.i64.wrap v = v := IntWalk.i64_in _ (by omega)
theorem i64_addn (a b : Nat) (h : a + b < 1000000) : IntKind.i64.wrap ((a : Int) + (b : Int)) = ((a + b : Nat) : Int) := by
  rw [show ((a + b : Nat) : Int) = (a : Int) + b by omega]
  exact IntWalk.i64_in _ (by omega)
theorem quo256 (v : Int) (h : 0 ≤ v ∧ v ≤ 1000000000) : IntKind.i64.wrap (Int.tdiv v 256) = v / 256 := by
  rw [Int.tdiv_eq_ediv_of_nonneg h.1]
  exact IntWalk.i64_in _ (by omega)
theorem rem256 (v : Int) (h : 0 ≤ v) : Int.tmod v 256 = v % 256 := Int.tmod_eq_emod_of_nonneg h
theorem fill_high (xs : List Int) (N m : Nat) (i : Nat) (h : m ≤ i) : nth (fill xs N m) i = 0 := by
  by_cases hi : i < N
  · rw [fill, mix_nth _ _ _ _ _ hi, if_neg (by omega)]
  · exact nth_beyond _ _ (by rw [fill_len]; omega)
theorem fill_low (xs : List Int) (N m : Nat) (i : Nat) (h : i < m) (hm : m ≤ N) : nth (fill xs N m) i = nth xs i := by
  rw [fill, mix_nth _ _ _ _ _ (by omega), if_pos h]
theorem leAt_fill (xs : List Int) (N m : Nat) (hm : m ≤ N) : ∀ k, k ≤ m → leAt (fill xs N m) 0 k = leAt xs 0 k
  | 0, _ => rfl
  | k + 1, h => by rw [leAt, leAt, leAt_fill xs N m hm k (by omega), Nat.zero_add, fill_low _ _ _ _ (by omega) hm]
theorem leAt_fill66 (xs : List Int) : leAt (fill xs 66 32) 0 66 = leAt xs 0 32 := by
  have h := leAt_split (fill xs 66 32) 0 32 34
  rw [show 32 + 34 = 66 from rfl] at h
  rw [h, leAt_fill xs 66 32 (by omega) 32 (Nat.le_refl _), leAt_zero 34 (0 + 32) _ (fun i hi => fill_high _ _ _ _ (by omega))]
  simp
/-- the state ahead of a row of products -/
def Rows (za zb zc : List Int) (i : Nat) (ls : List Int) : Prop :=
  leAt ls 0 66 = leAt zc 0 32 + leAt za 0 i * leAt zb 0 32 ∧ ∀ q, 0 ≤ nth ls q ∧ nth ls q ≤ 255 + 65025 * i
def RowJ (za zb zc : List Int) (i j : Nat) (ls : List Int) : Prop :=
  leAt ls 0 66 = leAt zc 0 32 + leAt za 0 i * leAt zb 0 32 + nth za i * 256 ^ i * leAt zb 0 j ∧ ∀ q, 0 ≤ nth ls q ∧ (nth ls q ≤ 255 + 65025 * (i + 1) ∧ (i + j ≤ q → nth ls q ≤ 255 + 65025 * i))
theorem rows_start (za zb zc : List Int) (hc : AreBytes zc) : Rows za zb zc 0 (fill zc 66 32) := by
  refine ⟨by rw [leAt_fill66]; simp [leAt], fun q => ?_⟩
  by_cases h : q < 32
  · rw [fill_low _ _ _ _ h (by omega)]; have := hc.nth q; omega
  · rw [fill_high _ _ _ _ (by omega)]; omega
theorem rowj_start {za zb zc : List Int} {i : Nat} {ls : List Int} (h : Rows za zb zc i ls) : RowJ za zb zc i 0 ls := by
  refine ⟨by rw [h.1]; simp [leAt], fun q => ?_⟩
  have := h.2 q
  omega
theorem rowj_next {za zb zc : List Int} (ha : AreBytes za) (hb : AreBytes zb) {i j : Nat} {ls : List Int} (hl : ls.length = 66) (hi : i < 32) (hj : j < 32) (h : RowJ za zb zc i j ls) :
    RowJ za zb zc i (j + 1) (ls.set (i + j) (nth ls (i + j) + nth za i * nth zb j)) := by
  have hp := prod_range (ha.nth i) (hb.nth j)
  refine ⟨?_, fun q => ?_⟩
  · rw [leAt_set _ _ _ (by omega) 66 (by omega), h.1, show leAt zb 0 (j + 1) = leAt zb 0 j + nth zb (0 + j) * 256 ^ j from rfl, Nat.zero_add, Int.pow_add]
    grind
  · have h0 := h.2 q
    by_cases e : i + j = q
    · subst e
      rw [nth_set_self _ _ _ (by omega)]
      have h1 := h0.2.2 (Nat.le_refl _)
      refine ⟨by omega, by omega, fun h => by omega⟩
    · rw [nth_set_ne _ _ _ _ e]
      exact ⟨h0.1, h0.2.1, fun h => h0.2.2 (by omega)⟩
theorem rows_next {za zb zc : List Int} {i : Nat} {ls : List Int} (h : RowJ za zb zc i 32 ls) : Rows za zb zc (i + 1) ls := by
  refine ⟨by rw [h.1, show leAt za 0 (i + 1) = leAt za 0 i + nth za (0 + i) * 256 ^ i from rfl, Nat.zero_add]; grind, fun q => ?_⟩
  have := h.2 q
  constructor
  · exact this.1
  · have h2 := this.2.1
    rw [show ((i + 1 : Nat) : Int) = (i : Int) + 1 by omega]
    exact h2
def CarT (T : Int) (k : Nat) (ls : List Int) : Prop := leAt ls 0 66 = T ∧ ∀ q, 0 ≤ nth ls q ∧ (q < k → nth ls q ≤ 255) ∧ (q = k → nth ls q ≤ 3000000) ∧ (k < q → nth ls q ≤ 2081055)
theorem car_start {za zb zc : List Int} {ls : List Int} (h : Rows za zb zc 32 ls) : CarT (leAt zc 0 32 + leAt za 0 32 * leAt zb 0 32) 0 ls := by
  refine ⟨h.1, fun q => ?_⟩
  have := h.2 q
  have e : ((32 : Nat) : Int) = 32 := rfl
  rw [e] at this
  refine ⟨this.1, fun h => by omega, fun h => by omega, fun h => by omega⟩
theorem car_next {T : Int} {k : Nat} {ls : List Int} (hl : ls.length = 66) (hk : k < 65) (h : CarT T k ls) :
    CarT T (k + 1) ((ls.set (k + 1) (nth ls (k + 1) + nth ls k / 256)).set k (nth ls k % 256)) := by
  have h0 := h.2 k
  have h1 := h.2 (k + 1)
  have b0 := h0.2.2.1 rfl
  have b1 := h1.2.2.2 (by omega)
  refine ⟨?_, fun q => ?_⟩
  · rw [leAt_set _ _ _ (by rw [List.length_set]; omega) 66 (by omega), leAt_set _ _ _ (by omega) 66 (by omega), nth_set_ne _ _ _ _ (by omega), h.1, Int.pow_succ]
    have e : nth ls k = 256 * (nth ls k / 256) + nth ls k % 256 := by omega
    generalize nth ls k / 256 = a at *
    generalize nth ls k % 256 = b at *
    rw [e]
    grind
  · by_cases e0 : q = k
    · subst e0
      rw [nth_set_self _ _ _ (by rw [List.length_set]; omega)]
      refine ⟨by omega, fun _ => by omega, fun _ => by omega, fun _ => by omega⟩
    · rw [nth_set_ne _ _ _ _ (fun e => e0 e.symm)]
      by_cases e1 : q = k + 1
      · subst e1
        rw [nth_set_self _ _ _ (by omega)]
        refine ⟨by omega, fun _ => by omega, fun _ => by omega, fun _ => by omega⟩
      · rw [nth_set_ne _ _ _ _ (fun e => e1 e.symm)]
        have hq := h.2 q
        exact ⟨hq.1, fun h => hq.2.1 (by omega), fun h => absurd h e1, fun h => hq.2.2.2 (by omega)⟩
theorem car_end {za zb zc : List Int} (ha : AreBytes za) (hb : AreBytes zb) (hc : AreBytes zc) {ls : List Int} (hl : ls.length = 66) (h : CarT (leAt zc 0 32 + leAt za 0 32 * leAt zb 0 32) 65 ls) : AreBytes ls := by
  have ra := leAt_range za ha 0 32
  have rb := leAt_range zb hb 0 32
  have rc := leAt_range zc hc 0 32
  have hT : leAt zc 0 32 + leAt za 0 32 * leAt zb 0 32 < 256 ^ 65 := by
    have h1 : leAt za 0 32 * leAt zb 0 32 ≤ 256 ^ 32 * leAt zb 0 32 := Int.mul_le_mul_of_nonneg_right (Int.le_of_lt ra.2) rb.1
    have h2 : (256 : Int) ^ 32 * leAt zb 0 32 ≤ 256 ^ 32 * 256 ^ 32 := Int.mul_le_mul_of_nonneg_left (Int.le_of_lt rb.2) (by decide)
    have h3 : (256 : Int) ^ 32 + 256 ^ 32 * 256 ^ 32 < 256 ^ 65 := by decide
    have h4 := rc.2
    generalize (256 : Int) ^ 65 = P at *
    generalize (256 : Int) ^ 32 * 256 ^ 32 = Q at *
    generalize (256 : Int) ^ 32 = R at *
    omega
  have hlo : ∀ k, k ≤ 65 → 0 ≤ leAt ls 0 k := by
    intro k
    induction k with
    | zero => intro _; simp [leAt]
    | succ k ih =>
      intro hk
      rw [leAt]
      have h1 := ih (by omega)
      have h2 := Int.mul_nonneg (h.2 (0 + k)).1 (show (0 : Int) ≤ 256 ^ k from Int.pow_nonneg (by decide))
      omega
  have h65 : nth ls 65 = 0 := by
    have e := h.1
    rw [leAt, Nat.zero_add] at e
    have l := hlo 65 (Nat.le_refl _)
    have p0 := (h.2 65).1
    apply Decidable.byContradiction
    intro hne
    have h1 : 1 * 256 ^ 65 ≤ nth ls 65 * 256 ^ 65 := Int.mul_le_mul_of_nonneg_right (by omega) (by decide)
    generalize (256 : Int) ^ 65 = P at *
    omega
  intro x hx
  obtain ⟨i, hi, rfl⟩ := List.getElem_of_mem hx
  have e : ls[i] = nth ls i := by unfold nth; simp [hi]
  rw [e]
  have hq := h.2 i
  by_cases h6 : i = 65
  · subst h6; omega
  · have := hq.2.1 (by omega)
    exact ⟨hq.1, this⟩
theorem numB_le (es : List Int) (hb : AreBytes es) : ((numB es : Nat) : Int) = leAt es 0 32 := by
  have := (leAt_range es hb 0 32).1
  unfold numB; omega
def mulR (za zb zc : List Int) : Int := (mulB (resN zb) (bitsB za) + resN zc) % ordL
theorem mulR_le (za zb zc : List Int) (hab : AreBytes za) (hb : zb.length = 32) (hbb : AreBytes zb) (hc : zc.length = 32) (hcb : AreBytes zc) : (leAt zc 0 32 + leAt za 0 32 * leAt zb 0 32) % ordL = mulR za zb zc := by
  unfold mulR
  rw [mulAdd_val za zb zc hab hb hbb hc hcb, numB_le za hab, numB_le zb hbb, numB_le zc hcb, Int.add_comm]
end Go.Proofs.YtaojnmjmmfdfjaaDoor.Field
