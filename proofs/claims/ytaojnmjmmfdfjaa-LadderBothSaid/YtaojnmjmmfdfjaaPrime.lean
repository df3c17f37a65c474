/- 2^255 - 19 is a prime: by certificates, each residue but nought a power of 2. -/
import Derived.WalkKit
namespace Go.Proofs.Ytaojnmjmmfdfjaa.Prime
set_option linter.unusedVariables false

/-! ### Primes by certificate: a number whose powers are all the residues but nought -/
def IsP (n : Nat) : Prop := 1 < n ∧ ∀ d, d ∣ n → d = 1 ∨ d = n
def prods : List Nat → Nat
  | [] => 1
  | q :: l => q * prods l
theorem onto : ∀ (n : Nat) (f : Nat → Nat), (∀ i, i < n → f i < n) → (∀ i j, i < n → j < n → f i = f j → i = j) → ∀ y, y < n → ∃ i, i < n ∧ f i = y
  | 0, _, _, _, y, hy => absurd hy (Nat.not_lt_zero y)
  | n + 1, f, hf, hi, y, hy => by
    have key : ∀ i, i < n → f i = n → f n < n := fun i h e => by
      have h1 := hf n (by omega)
      rcases Nat.lt_or_ge (f n) n with h2 | h2
      · exact h2
      · have := hi i n (by omega) (by omega) (by omega)
        omega
    have IH := onto n (fun i => if f i = n then f n else f i) (fun i h => by
        show (if f i = n then f n else f i) < n
        by_cases e : f i = n
        · rw [if_pos e]; exact key i h e
        · rw [if_neg e]; have := hf i (by omega); omega)
      (fun i j h1 h2 h => by
        have h' : (if f i = n then f n else f i) = (if f j = n then f n else f j) := h
        by_cases e1 : f i = n <;> by_cases e2 : f j = n
        · exact hi i j (by omega) (by omega) (by omega)
        · rw [if_pos e1, if_neg e2] at h'
          have := hi n j (by omega) (by omega) h'
          omega
        · rw [if_neg e1, if_pos e2] at h'
          have := hi i n (by omega) (by omega) h'
          omega
        · rw [if_neg e1, if_neg e2] at h'
          exact hi i j (by omega) (by omega) h')
    have back : ∀ z, z < n → ∃ i, i < n + 1 ∧ f i = z := fun z hz => by
      obtain ⟨i, h1, h2⟩ := IH z hz
      have h2' : (if f i = n then f n else f i) = z := h2
      by_cases e : f i = n
      · rw [if_pos e] at h2'; exact ⟨n, by omega, h2'⟩
      · rw [if_neg e] at h2'; exact ⟨i, by omega, h2'⟩
    rcases Nat.lt_or_ge y n with h | h
    · exact back y h
    · have e : y = n := by omega
      subst e
      by_cases e2 : f y = y
      · exact ⟨y, by omega, e2⟩
      · have h3 : f y < y := by have := hf y (by omega); omega
        obtain ⟨i, h1, h2⟩ := IH (f y) h3
        have h2' : (if f i = y then f y else f i) = f y := h2
        by_cases e3 : f i = y
        · exact ⟨i, by omega, e3⟩
        · rw [if_neg e3] at h2'
          have := hi i y (by omega) (by omega) h2'
          omega

theorem pow_one_mul (N a b k : Nat) (h : a % N = 1 % N) : (a ^ k * b) % N = b % N := by
  rw [Nat.mul_mod, Nat.pow_mod, h, ← Nat.pow_mod, Nat.one_pow, ← Nat.mul_mod, Nat.one_mul]
theorem pow_gcd (N g : Nat) : ∀ m n, g ^ m % N = 1 % N → g ^ n % N = 1 % N → g ^ (Nat.gcd m n) % N = 1 % N := by
  intro m n
  induction m, n using Nat.gcd.induction with
  | H0 n => intro _ h; simpa using h
  | H1 m n hm ih =>
    intro h1 h2
    rw [Nat.gcd_rec]
    refine ih ?_ h1
    have e : g ^ n = (g ^ m) ^ (n / m) * g ^ (n % m) := by
      rw [← Nat.pow_mul, ← Nat.pow_add, Nat.div_add_mod]
    rw [e, pow_one_mul N _ _ _ h1] at h2
    exact h2
theorem dvd_prods : ∀ (qs : List Nat) (e : Nat), (∀ q ∈ qs, IsP q) → e ∣ prods qs → 1 < e → ∃ q ∈ qs, q ∣ e
  | [], e, _, h, h1 => by
    have := Nat.le_of_dvd (by decide) h
    simp only [prods] at this
    omega
  | q :: l, e, hq, h, h1 => by
    have hp := hq q List.mem_cons_self
    rcases hp.2 (Nat.gcd q e) (Nat.gcd_dvd_left q e) with hg | hg
    · have h2 : e ∣ prods l := by
        have hc : Nat.Coprime e q := by rw [Nat.Coprime, Nat.gcd_comm]; exact hg
        exact hc.dvd_of_dvd_mul_left h
      obtain ⟨r, h3, h4⟩ := dvd_prods l e (fun r hr => hq r (List.mem_cons_of_mem _ hr)) h2 h1
      exact ⟨r, List.mem_cons_of_mem _ h3, h4⟩
    · exact ⟨q, List.mem_cons_self, by rw [← hg]; exact Nat.gcd_dvd_right q e⟩
/-- the order of g is N - 1 -/
theorem order (N g : Nat) (qs : List Nat) (h1 : 1 < N) (hq : ∀ q ∈ qs, IsP q) (hprod : prods qs = N - 1) (hne : ∀ q ∈ qs, g ^ ((N - 1) / q) % N ≠ 1)
    (hone : g ^ (N - 1) % N = 1) (m : Nat) (hm : 0 < m) (hlt : m < N - 1) (h : g ^ m % N = 1) : False := by
  have e1 : 1 % N = 1 := Nat.mod_eq_of_lt h1
  have hd := pow_gcd N g m (N - 1) (by rw [e1]; exact h) (by rw [e1]; exact hone)
  have d1 : Nat.gcd m (N - 1) ∣ N - 1 := Nat.gcd_dvd_right _ _
  have d2 : Nat.gcd m (N - 1) ≤ m := Nat.le_of_dvd hm (Nat.gcd_dvd_left _ _)
  generalize hD : Nat.gcd m (N - 1) = d at *
  obtain ⟨e, he⟩ := d1
  have epos : 1 < e := by
    rcases (by omega : e = 0 ∨ e = 1 ∨ 1 < e) with h0 | h0 | h0
    · subst h0; simp at he; omega
    · subst h0; simp at he; omega
    · exact h0
  obtain ⟨q, hq1, hq2⟩ := dvd_prods qs e hq (by rw [hprod, he]; exact Nat.dvd_mul_left e d) epos
  obtain ⟨r, hr⟩ := hq2
  have qpos : 0 < q := by have := (hq q hq1).1; omega
  refine hne q hq1 ?_
  have e3 : (N - 1) / q = d * r := by
    rw [he, hr, show d * (q * r) = q * (d * r) by rw [← Nat.mul_assoc, Nat.mul_comm d q, Nat.mul_assoc]]
    exact Nat.mul_div_cancel_left _ qpos
  have := pow_one_mul N (g ^ d) 1 r hd
  rw [Nat.mul_one, ← Nat.pow_mul, e1] at this
  rw [e3]
  exact this
theorem all_powers (N g : Nat) (qs : List Nat) (h1 : 1 < N) (hq : ∀ q ∈ qs, IsP q) (hprod : prods qs = N - 1) (hne : ∀ q ∈ qs, g ^ ((N - 1) / q) % N ≠ 1)
    (hone : g ^ (N - 1) % N = 1) (a : Nat) (ha : 0 < a) (hlt : a < N) : ∃ k, g ^ k % N = a := by
  have e1 : 1 % N = 1 := Nat.mod_eq_of_lt h1
  have hone' : g ^ (N - 1) % N = 1 % N := by rw [e1]; exact hone
  have up : ∀ b, (g ^ (N - 1) * b) % N = b % N := fun b => by
    have := pow_one_mul N (g ^ (N - 1)) b 1 hone'
    rwa [Nat.pow_one] at this
  have hpos : ∀ i, i < N - 1 → 0 < g ^ i % N := fun i hi => by
    rcases Nat.eq_zero_or_pos (g ^ i % N) with h | h
    · have : g ^ (N - 1) % N = 0 := by
        rw [show N - 1 = i + (N - 1 - i) by omega, Nat.pow_add, Nat.mul_mod, h, Nat.zero_mul, Nat.zero_mod]
      omega
    · exact h
  have inj : ∀ i j, i < j → j < N - 1 → g ^ i % N = g ^ j % N → False := fun i j hij hj h => by
    refine order N g qs h1 hq hprod hne hone (j - i) (by omega) (by omega) ?_
    have e2 : (g ^ (N - 1 - i) * g ^ i) % N = (g ^ (N - 1 - i) * g ^ j) % N := by rw [Nat.mul_mod, h, ← Nat.mul_mod]
    rw [← Nat.pow_add, ← Nat.pow_add, show N - 1 - i + i = N - 1 by omega, show N - 1 - i + j = N - 1 + (j - i) by omega, Nat.pow_add, up, hone] at e2
    exact e2.symm
  obtain ⟨i, h2, h3⟩ := onto (N - 1) (fun i => g ^ i % N - 1) (fun i hi => by
      show g ^ i % N - 1 < N - 1
      have := hpos i hi
      have := Nat.mod_lt (g ^ i) (show 0 < N by omega)
      omega)
    (fun i j hi hj h => by
      have h' : g ^ i % N - 1 = g ^ j % N - 1 := h
      have := hpos i hi
      have := hpos j hj
      rcases Nat.lt_trichotomy i j with h4 | h4 | h4
      · exact (inj i j h4 hj (by omega)).elim
      · exact h4
      · exact (inj j i h4 hi (by omega)).elim) (a - 1) (by omega)
  have h3' : g ^ i % N - 1 = a - 1 := h3
  have := hpos i h2
  exact ⟨i, by omega⟩
theorem fermat_of (N g : Nat) (h1 : 1 < N) (hone : g ^ (N - 1) % N = 1) (hall : ∀ a, 0 < a → a < N → ∃ k, g ^ k % N = a) (a : Nat) (ha : a % N ≠ 0) : a ^ (N - 1) % N = 1 := by
  obtain ⟨k, hk⟩ := hall (a % N) (by omega) (Nat.mod_lt _ (by omega))
  have e1 : 1 % N = 1 := Nat.mod_eq_of_lt h1
  rw [Nat.pow_mod, ← hk, ← Nat.pow_mod, ← Nat.pow_mul, Nat.mul_comm, Nat.pow_mul, Nat.pow_mod, hone, Nat.one_pow, e1]
theorem prime_of (N g : Nat) (h1 : 1 < N) (hone : g ^ (N - 1) % N = 1) (hall : ∀ a, 0 < a → a < N → ∃ k, g ^ k % N = a) : IsP N := by
  refine ⟨h1, fun d hd => ?_⟩
  have hle := Nat.le_of_dvd (by omega) hd
  rcases Nat.eq_or_lt_of_le hle with h | h
  · exact .inr h
  · left
    have d0 : 0 < d := Nat.pos_of_dvd_of_pos hd (by omega)
    have hf := fermat_of N g h1 hone hall d (by rw [Nat.mod_eq_of_lt h]; omega)
    by_cases hN : N - 1 = 0
    · omega
    · have h2 : d ∣ d ^ (N - 1) := by
        rw [show N - 1 = (N - 2) + 1 by omega, Nat.pow_succ]
        exact Nat.dvd_mul_left d _
      have h3 : d ∣ d ^ (N - 1) % N := (Nat.dvd_mod_iff hd).2 h2
      rw [hf] at h3
      exact Nat.dvd_one.1 h3
/-- powers by squaring -/
def pm (N : Nat) : Nat → Nat → Nat → Nat
  | 0, _, _ => 1 % N
  | f + 1, g, e => let h := pm N f (g * g % N) (e / 2); if e % 2 = 1 then g * h % N else h
theorem pm_eq (N : Nat) : ∀ f g e, e < 2 ^ f → pm N f g e = g ^ e % N
  | 0, g, e, h => by
    have : e = 0 := by simpa using h
    subst this
    simp [pm]
  | f + 1, g, e, h => by
    have hm : g * g % N % N = g * g % N := Nat.mod_mod _ _
    have ih := pm_eq N f (g * g % N) (e / 2) (by rw [Nat.pow_succ] at h; omega)
    have e2 : (g * g % N) ^ (e / 2) % N = (g * g) ^ (e / 2) % N := by rw [Nat.pow_mod, hm, ← Nat.pow_mod]
    have e3 : (g * g) ^ (e / 2) = g ^ (2 * (e / 2)) := by rw [Nat.pow_mul, Nat.pow_succ, Nat.pow_one]
    simp only [pm]
    rw [ih, e2, e3]
    by_cases ho : e % 2 = 1
    · rw [if_pos ho]
      have : g ^ e = g * g ^ (2 * (e / 2)) := by
        rw [Nat.mul_comm, ← Nat.pow_succ]
        congr 1
        omega
      rw [this, Nat.mul_mod, Nat.mod_mod, ← Nat.mul_mod]
    · rw [if_neg ho]
      congr 2
      omega
/-- trial division -/
def noDiv (q : Nat) : Nat → Bool
  | 0 => true
  | k + 1 => (decide (k + 2 = q) || q % (k + 2) != 0) && noDiv q k
theorem noDiv_spec (q : Nat) : ∀ k, noDiv q k = true → ∀ d, 2 ≤ d → d < k + 2 → d ∣ q → d = q
  | 0, _, d, h1, h2, _ => by omega
  | k + 1, h, d, h1, h2, h3 => by
    simp only [noDiv, Bool.and_eq_true, Bool.or_eq_true, decide_eq_true_eq, bne_iff_ne, ne_eq] at h
    rcases Nat.lt_or_ge d (k + 2) with h4 | h4
    · exact noDiv_spec q k h.2 d h1 h4 h3
    · have : d = k + 2 := by omega
      subst this
      rcases h.1 with h5 | h5
      · exact h5
      · exact absurd (Nat.mod_eq_zero_of_dvd h3) h5
theorem small_prime (q k : Nat) (h : (decide (1 < q) && decide (q < (k + 2) * (k + 2)) && noDiv q k) = true) : IsP q := by
  simp only [Bool.and_eq_true, decide_eq_true_eq] at h
  obtain ⟨⟨h1, h2⟩, h3⟩ := h
  refine ⟨h1, fun d hd => ?_⟩
  obtain ⟨e, he⟩ := hd
  have dpos : 0 < d := by rcases Nat.eq_zero_or_pos d with h | h; · subst h; simp at he; omega
                          · exact h
  have epos : 0 < e := by rcases Nat.eq_zero_or_pos e with h | h; · subst h; simp at he; omega
                          · exact h
  rcases (by omega : d = 1 ∨ 2 ≤ d) with h4 | h4
  · exact .inl h4
  · rcases (by omega : e = 1 ∨ 2 ≤ e) with h5 | h5
    · subst h5; right; omega
    · rcases Nat.lt_or_ge d (k + 2) with h6 | h6
      · right; exact noDiv_spec q k h3 d h4 h6 ⟨e, he⟩
      · rcases Nat.lt_or_ge e (k + 2) with h7 | h7
        · have := noDiv_spec q k h3 e h5 h7 ⟨d, by rw [he, Nat.mul_comm]⟩
          left
          rw [this] at he
          have : q * 1 = q * d := by rw [Nat.mul_one, Nat.mul_comm]; exact he
          exact (Nat.eq_of_mul_eq_mul_left (by omega) this).symm
        · have := Nat.mul_le_mul h6 h7
          omega
def certOk (N g : Nat) (qs : List Nat) : Bool := decide (1 < N) && decide (N < 2 ^ 256) && decide (prods qs = N - 1) && (pm N 256 g (N - 1) == 1) && qs.all fun q => pm N 256 g ((N - 1) / q) != 1
theorem cert (N g : Nat) (qs : List Nat) (hq : ∀ q ∈ qs, IsP q) (h : certOk N g qs = true) : IsP N ∧ (∀ a, a % N ≠ 0 → a ^ (N - 1) % N = 1) ∧ ∀ a, 0 < a → a < N → ∃ k, g ^ k % N = a := by
  simp only [certOk, Bool.and_eq_true, decide_eq_true_eq, beq_iff_eq, List.all_eq_true, bne_iff_ne, ne_eq] at h
  obtain ⟨⟨⟨⟨h1, h2⟩, h3⟩, h4⟩, h5⟩ := h
  rw [pm_eq N 256 g (N - 1) (by omega)] at h4
  have hne : ∀ q ∈ qs, g ^ ((N - 1) / q) % N ≠ 1 := fun q hm => by
    have := h5 q hm
    rwa [pm_eq N 256 g _ (by have := Nat.div_le_self (N - 1) q; omega)] at this
  have hall := all_powers N g qs h1 hq h3 hne h4
  exact ⟨prime_of N g h1 h4 hall, fermat_of N g h1 h4 hall, hall⟩
theorem p2 : IsP 2 := small_prime 2 0 (by decide +kernel)
theorem p3 : IsP 3 := small_prime 3 0 (by decide +kernel)
theorem p5 : IsP 5 := small_prime 5 1 (by decide +kernel)
theorem p7 : IsP 7 := small_prime 7 1 (by decide +kernel)
theorem p13 : IsP 13 := small_prime 13 2 (by decide +kernel)
theorem p19 : IsP 19 := small_prime 19 3 (by decide +kernel)
theorem p31 : IsP 31 := small_prime 31 4 (by decide +kernel)
theorem p47 : IsP 47 := small_prime 47 5 (by decide +kernel)
theorem p103 : IsP 103 := small_prime 103 9 (by decide +kernel)
theorem p107 : IsP 107 := small_prime 107 9 (by decide +kernel)
theorem p127 : IsP 127 := small_prime 127 10 (by decide +kernel)
theorem p223 : IsP 223 := small_prime 223 13 (by decide +kernel)
theorem p353 : IsP 353 := small_prime 353 17 (by decide +kernel)
theorem p991 : IsP 991 := small_prime 991 30 (by decide +kernel)
theorem p2437 : IsP 2437 := small_prime 2437 48 (by decide +kernel)
theorem p4153 : IsP 4153 := small_prime 4153 63 (by decide +kernel)
theorem p57467 : IsP 57467 := small_prime 57467 238 (by decide +kernel)
theorem p65147 : IsP 65147 := small_prime 65147 254 (by decide +kernel)
theorem p75707 : IsP 75707 := small_prime 75707 274 (by decide +kernel)
theorem p132049 : IsP 132049 := small_prime 132049 362 (by decide +kernel)
theorem p430751 : IsP 430751 := small_prime 430751 655 (by decide +kernel)
theorem p569003 : IsP 569003 := small_prime 569003 753 (by decide +kernel)
theorem p1923133 : IsP 1923133 := small_prime 1923133 1385 (by decide +kernel)
theorem p8574133 : IsP 8574133 := (cert 8574133 2 [2, 2, 3, 7, 103, 991] (by
  intro q hq
  simp only [List.mem_cons, List.not_mem_nil, or_false] at hq
  rcases hq with rfl | rfl | rfl | rfl | rfl | rfl
  · exact p2
  · exact p2
  · exact p3
  · exact p7
  · exact p103
  · exact p991
) (by decide +kernel)).1
theorem p2773320623 : IsP 2773320623 := (cert 2773320623 5 [2, 2437, 569003] (by
  intro q hq
  simp only [List.mem_cons, List.not_mem_nil, or_false] at hq
  rcases hq with rfl | rfl | rfl
  · exact p2
  · exact p2437
  · exact p569003
) (by decide +kernel)).1
theorem p72106336199 : IsP 72106336199 := (cert 72106336199 7 [2, 13, 2773320623] (by
  intro q hq
  simp only [List.mem_cons, List.not_mem_nil, or_false] at hq
  rcases hq with rfl | rfl | rfl
  · exact p2
  · exact p13
  · exact p2773320623
) (by decide +kernel)).1
theorem p1919519569386763 : IsP 1919519569386763 := (cert 1919519569386763 2 [2, 3, 7, 19, 47, 47, 127, 8574133] (by
  intro q hq
  simp only [List.mem_cons, List.not_mem_nil, or_false] at hq
  rcases hq with rfl | rfl | rfl | rfl | rfl | rfl | rfl | rfl
  · exact p2
  · exact p3
  · exact p7
  · exact p19
  · exact p47
  · exact p47
  · exact p127
  · exact p8574133
) (by decide +kernel)).1
theorem p75445702479781427272750846543864801 : IsP 75445702479781427272750846543864801 := (cert 75445702479781427272750846543864801 7 [2, 2, 2, 2, 2, 3, 3, 5, 5, 75707, 72106336199, 1919519569386763] (by
  intro q hq
  simp only [List.mem_cons, List.not_mem_nil, or_false] at hq
  rcases hq with rfl | rfl | rfl | rfl | rfl | rfl | rfl | rfl | rfl | rfl | rfl | rfl
  · exact p2
  · exact p2
  · exact p2
  · exact p2
  · exact p2
  · exact p3
  · exact p3
  · exact p5
  · exact p5
  · exact p75707
  · exact p72106336199
  · exact p1919519569386763
) (by decide +kernel)).1
theorem p31757755568855353 : IsP 31757755568855353 := (cert 31757755568855353 10 [2, 2, 2, 3, 31, 107, 223, 4153, 430751] (by
  intro q hq
  simp only [List.mem_cons, List.not_mem_nil, or_false] at hq
  rcases hq with rfl | rfl | rfl | rfl | rfl | rfl | rfl | rfl | rfl
  · exact p2
  · exact p2
  · exact p2
  · exact p3
  · exact p31
  · exact p107
  · exact p223
  · exact p4153
  · exact p430751
) (by decide +kernel)).1
theorem p74058212732561358302231226437062788676166966415465897661863160754340907 : IsP 74058212732561358302231226437062788676166966415465897661863160754340907 := (cert 74058212732561358302231226437062788676166966415465897661863160754340907 2 [2, 3, 353, 57467, 132049, 1923133, 31757755568855353, 75445702479781427272750846543864801] (by
  intro q hq
  simp only [List.mem_cons, List.not_mem_nil, or_false] at hq
  rcases hq with rfl | rfl | rfl | rfl | rfl | rfl | rfl | rfl
  · exact p2
  · exact p3
  · exact p353
  · exact p57467
  · exact p132049
  · exact p1923133
  · exact p31757755568855353
  · exact p75445702479781427272750846543864801
) (by decide +kernel)).1
theorem p25519 : IsP 57896044618658097711785492504343953926634992332820282019728792003956564819949 ∧ (∀ a, a % 57896044618658097711785492504343953926634992332820282019728792003956564819949 ≠ 0 → a ^ (57896044618658097711785492504343953926634992332820282019728792003956564819949 - 1) % 57896044618658097711785492504343953926634992332820282019728792003956564819949 = 1) ∧ ∀ a, 0 < a → a < 57896044618658097711785492504343953926634992332820282019728792003956564819949 → ∃ k, 2 ^ k % 57896044618658097711785492504343953926634992332820282019728792003956564819949 = a := cert 57896044618658097711785492504343953926634992332820282019728792003956564819949 2 [2, 2, 3, 65147, 74058212732561358302231226437062788676166966415465897661863160754340907] (by
  intro q hq
  simp only [List.mem_cons, List.not_mem_nil, or_false] at hq
  rcases hq with rfl | rfl | rfl | rfl | rfl
  · exact p2
  · exact p2
  · exact p3
  · exact p65147
  · exact p74058212732561358302231226437062788676166966415465897661863160754340907
) (by decide +kernel)
end Go.Proofs.Ytaojnmjmmfdfjaa.Prime
