/- The reference of package seat: each function, held against the functions of SeatA. -/
import Derived.Test.YticjghmgbmjkiaaDoorSeatAN
namespace Go.Proofs.YticjghmgbmjkiaaDoor.Seat
set_option linter.unusedVariables false
open Go Go.RowKit
open Go.Proofs.YticjghmgbmjkiaaDoor.Rely

/-! ### levels -/
theorem rep_unique : ∀ (a b m n : Nat), 2 ^ a * (2 * m + 1) = 2 ^ b * (2 * n + 1) → a = b
  | 0, 0, _, _, _ => rfl
  | 0, b + 1, m, n, h => by
    exfalso
    rw [Nat.pow_succ, Nat.pow_zero, Nat.mul_assoc, Nat.mul_left_comm] at h
    omega
  | a + 1, 0, m, n, h => by
    exfalso
    rw [Nat.pow_succ, Nat.pow_zero, Nat.mul_assoc, Nat.mul_left_comm] at h
    omega
  | a + 1, b + 1, m, n, h => by
    rw [Nat.pow_succ, Nat.pow_succ, Nat.mul_assoc, Nat.mul_assoc, Nat.mul_left_comm, Nat.mul_left_comm (2 ^ b)] at h
    rw [rep_unique a b m n (by omega)]

theorem lvN_spec (x : Nat) (h : x ≤ 9223372036854775807) : ∃ m, x + 1 = 2 ^ lvN x * (2 * m + 1) := by
  have h0 : 18446744073709551615 - x ≠ 0 := by omega
  have e : lvN x = Lib.ctzFrom 64 (18446744073709551615 - x) := by unfold lvN Lib.ctz; rw [if_neg h0]
  obtain ⟨m, hm, hk⟩ := Lib.ctzFrom_spec 64 (18446744073709551615 - x) (by omega) (by omega)
  rw [← e] at hm hk
  generalize lvN x = k at *
  have hp : (2 : Nat) ^ k * 2 ^ (64 - k) = 18446744073709551616 := by
    rw [← Nat.pow_add, show k + (64 - k) = 64 from by omega]
  obtain ⟨q, hq⟩ : ∃ q, 2 ^ (64 - k) = 2 * q := ⟨2 ^ (63 - k), by rw [show 64 - k = (63 - k) + 1 from by omega, Nat.pow_succ]; omega⟩
  rw [hq] at hp
  generalize 2 ^ k = p at *
  have h1 : p * (2 * q) = p * (2 * m + 1) + (x + 1) := by omega
  have h2 : 2 * m + 1 < 2 * q := by
    rcases Nat.lt_or_ge (2 * m + 1) (2 * q) with h | h
    · exact h
    · have := Nat.mul_le_mul_left p h
      omega
  refine ⟨q - m - 1, ?_⟩
  have h3 : 2 * q = (2 * m + 1) + (2 * (q - m - 1) + 1) := by omega
  rw [h3, Nat.mul_add] at h1
  omega

theorem lvN_odd (x : Nat) (h : x ≤ 9223372036854775807) (ho : x % 2 = 1) : lvN x = lvN (x / 2) + 1 := by
  obtain ⟨m, hm⟩ := lvN_spec x h
  obtain ⟨n, hn⟩ := lvN_spec (x / 2) (by omega)
  refine rep_unique _ _ m n ?_
  rw [← hm, Nat.pow_succ, Nat.mul_assoc, Nat.mul_left_comm, ← hn]
  omega
theorem lvN_even (x : Nat) (h : x ≤ 9223372036854775807) (ho : x % 2 = 0) : lvN x = 0 := by
  obtain ⟨m, hm⟩ := lvN_spec x h
  refine rep_unique _ 0 m (x / 2) ?_
  rw [← hm]
  omega

theorem rlevel (x : Int) (hx : i64 x) (w : World) : Calls Tryd.prog 28 #[.int .i64 x] w fun e w' => e = .returned (.int .i64 (lv x)) ∧ w = w' := by
  unfold i64 at hx
  by_cases h : x < 0
  · have e : lv x = -1 := by simp [lv, h]
    rw [e]
    go_enter Tryd.func28, Tryd.ntmps28
    go_wp2
    go_ret
    exact ⟨rfl, rfl⟩
  · have e : lv x = (lvN x.toNat : Int) := by simp [lv, h]
    rw [e]
    obtain ⟨n, rfl⟩ := Int.eq_ofNat_of_zero_le (by omega : 0 ≤ x)
    rw [Int.toNat_natCast]
    have hn : n ≤ 9223372036854775807 := by omega
    clear e hx h
    go_enter Tryd.func28, Tryd.ntmps28
    go_wp2
    go_loop [0, 3] (fun v k => ∃ m c : Nat, m ≤ n ∧ v = .int .i64 m ∧ k = .int .i64 c ∧ lvN n = c + lvN m ∧ c ≤ 64) (fun v _ => (intOf v).toNat)
    case atStart => exact ⟨n, 0, Nat.le_refl _, rfl, rfl, by omega, by omega⟩
    case round =>
      obtain ⟨m, c, hm, rfl, rfl, hk, hc⟩ := hrel
      have hl64 := lvN_lt n hn
      by_cases ho : m % 2 = 1
      · have h1 := lvN_odd m (by omega) ho
        have K := Lib.hid hk
        have K1 := Lib.hid h1
        clear hk h1
        go_wp2
        go_round
        case rel => exact ⟨m / 2, c + 1, by omega, by go_num, by go_num, by have := K.out; have := K1.out; omega, by have := K.out; have := K1.out; omega⟩
        case measure => simp [intOf]; omega
      · have h1 := lvN_even m (by omega) (by omega)
        have hk' : lvN n = c := by omega
        have K := Lib.hid hk'
        clear hk h1 hk' hl64
        go_wp2
        go_ret
        exact ⟨by rw [K.out]; rfl, rfl⟩

theorem pow_small (k : Nat) (h : k ≤ 62) : (2 : Int) ^ k ≤ 4611686018427387904 ∧ 1 ≤ (2 : Int) ^ k := by
  have h1 : (2 : Nat) ^ k ≤ 2 ^ 62 := Nat.pow_le_pow_right (by decide) h
  have h2 := Nat.two_pow_pos k
  have e : ((2 : Int) ^ k) = ((2 ^ k : Nat) : Int) := by simp
  rw [e]
  have h3 : (2 : Nat) ^ 62 = 4611686018427387904 := rfl
  omega

theorem rchildren (x : Int) (hx : i64 x) (w : World) : Calls Tryd.prog 25 #[.int .i64 x] w fun e w' => e = .returned (.tuple #[.int .i64 (kidL x), .int .i64 (kidR x)]) ∧ w = w' := by
  have hl := rlevel x hx w
  have hb := lv_bd x hx
  by_cases h : lv x ≤ 0
  · have e1 : kidL x = -1 := by simp [kidL, h]
    have e2 : kidR x = -1 := by simp [kidR, h]
    rw [e1, e2]
    generalize lv x = k at *
    clear e1 e2
    go_enter Tryd.func25, Tryd.ntmps25
    go_wp2_with (go_at_call 28; refine hl.mono ?_; rintro e w' ⟨rfl, rfl⟩)
    go_ret2
    exact ⟨rfl, rfl⟩
  · have e1 : kidL x = wrap64 (x - half (lv x)) := by simp [kidL, h]
    have e2 : kidR x = wrap64 (x + half (lv x)) := by simp [kidR, h]
    rw [e1, e2]
    generalize lv x = k at *
    have eh : half k = 2 ^ (k.toNat - 1) := by
      have := pow_small (k.toNat - 1) (by omega)
      unfold half
      exact IntWalk.wrap64_in _ (by omega)
    rw [eh]
    clear e1 e2 eh
    go_enter Tryd.func25, Tryd.ntmps25
    go_wp2_with (go_at_call 28; refine hl.mono ?_; rintro e w' ⟨rfl, rfl⟩)
    go_loop [5, 6] (fun p i => ∃ c : Nat, c < k.toNat ∧ p = .int .i64 (2 ^ c) ∧ i = .int .i64 (c + 1)) (fun _ i => k.toNat - (intOf i).toNat)
    case atStart => exact ⟨0, by omega, rfl, rfl⟩
    case round =>
      obtain ⟨c, hc, rfl, rfl⟩ := hrel
      by_cases hlt : (c : Int) + 1 < k
      · have hp := pow_small (c + 1) (by omega)
        have e : (2 : Int) ^ (c + 1) = 2 * 2 ^ c := by rw [Int.pow_succ, Int.mul_comm]
        have E := Lib.hid e
        clear e
        have hq := pow_small c (by omega)
        have hp' : 2 * (2 : Int) ^ c ≤ 4611686018427387904 := by have := E.out; omega
        clear hp
        go_wp2
        go_round
        case rel => exact ⟨c + 1, by omega, by rw [E.out], by go_num⟩
        case measure => simp [intOf]; omega
      · have hck : c = k.toNat - 1 := by omega
        have K := Lib.hid hck
        clear hck
        have hd : decide ((c : Int) + 1 < k) = false := decide_eq_false hlt
        go_wp2
        all_goals first | omega | (go_ret2; exact ⟨by rw [← K.out]; rfl, rfl⟩)

/-! ### trees and nodes -/
theorem sound (n : Int) (w : World) : Calls Tryd.prog 35 #[.int .i64 n] w fun e w' => e = .returned (.bool (isTree n)) ∧ w = w' := by
  by_cases h : n = 1 ∨ n = 2 ∨ n = 4 ∨ n = 8 ∨ n = 16 ∨ n = 32
  · have e : isTree n = true := by simp only [isTree, Bool.or_eq_true, beq_iff_eq]; omega
    rw [e]
    clear e
    rcases h with rfl | rfl | rfl | rfl | rfl | rfl
    all_goals
      go_enter Tryd.func35, Tryd.ntmps35
      go_wp2
      go_ret
      exact ⟨rfl, rfl⟩
  · have e : isTree n = false := by
      rw [Bool.eq_false_iff]; intro h'; exact h (isTree_cases h')
    rw [e]
    have h1 : (n == 1) = false := by rw [beq_eq_false_iff_ne]; omega
    have h2 : (n == 2) = false := by rw [beq_eq_false_iff_ne]; omega
    have h3 : (n == 4) = false := by rw [beq_eq_false_iff_ne]; omega
    have h4 : (n == 8) = false := by rw [beq_eq_false_iff_ne]; omega
    have h5 : (n == 16) = false := by rw [beq_eq_false_iff_ne]; omega
    have h6 : (n == 32) = false := by rw [beq_eq_false_iff_ne]; omega
    clear e h
    go_enter Tryd.func35, Tryd.ntmps35
    go_wp2
    go_ret
    exact ⟨rfl, rfl⟩

theorem rnode (x n : Int) (w : World) : Calls Tryd.prog 53 #[.int .i64 x, .int .i64 n] w fun e w' => e = .returned (.bool (isNode x n)) ∧ w = w' := by
  have hn := sound n w
  cases ht : isTree n with
  | false =>
    have e : isNode x n = false := by simp [isNode, ht]
    rw [e]
    rw [ht] at hn
    go_enter Tryd.func53, Tryd.ntmps53
    go_wp2_with (go_at_call 35; refine hn.mono ?_; rintro e w' ⟨rfl, rfl⟩)
    go_ret
    exact ⟨rfl, rfl⟩
  | true =>
    rw [ht] at hn
    have hc := isTree_cases ht
    have hb : 1 ≤ n ∧ n ≤ 32 := by omega
    clear hc
    by_cases hx : 0 ≤ x
    · have h1 : decide (0 ≤ x) = true := decide_eq_true hx
      by_cases hl : x ≤ 2 * n - 2
      · have e : isNode x n = true := by simp [isNode, ht]; omega
        rw [e]
        have h2 : decide (x ≤ 2 * n - 2) = true := decide_eq_true hl
        clear ht e
        go_enter Tryd.func53, Tryd.ntmps53
        go_wp2_with (go_at_call 35; refine hn.mono ?_; rintro e w' ⟨rfl, rfl⟩)
        go_ret
        exact ⟨rfl, rfl⟩
      · have e : isNode x n = false := by simp [isNode, ht]; omega
        rw [e]
        have h2 : decide (x ≤ 2 * n - 2) = false := decide_eq_false hl
        clear ht e
        go_enter Tryd.func53, Tryd.ntmps53
        go_wp2_with (go_at_call 35; refine hn.mono ?_; rintro e w' ⟨rfl, rfl⟩)
        go_ret
        exact ⟨rfl, rfl⟩
    · have e : isNode x n = false := by simp [isNode, hx]
      rw [e]
      have h1 : decide (0 ≤ x) = false := decide_eq_false hx
      clear ht e
      go_enter Tryd.func53, Tryd.ntmps53
      go_wp2_with (go_at_call 35; refine hn.mono ?_; rintro e w' ⟨rfl, rfl⟩)
      go_ret
      exact ⟨rfl, rfl⟩

/-! ### parents -/
def sizes : List Int := [1, 2, 4, 8, 16, 32]
theorem mem_sizes {n : Int} (h : isTree n = true) : n ∈ sizes := by
  have := isTree_cases h
  simp only [sizes, List.mem_cons, List.not_mem_nil, or_false]
  exact this
/-- what is said of all nodes -/
def allNodes (f : Int → Int → Bool) : Bool := sizes.all fun n => (List.range (2 * n.toNat - 1)).all fun x => f n x
theorem allNodes_spec {f : Int → Int → Bool} (h : allNodes f = true) {x n : Int} (hd : isNode x n = true) : f n x = true := by
  simp only [isNode, Bool.and_eq_true, decide_eq_true_eq] at hd
  obtain ⟨⟨ht, h0⟩, h1⟩ := hd
  have hc := isTree_cases ht
  have h2 := List.all_eq_true.1 (List.all_eq_true.1 h n (mem_sizes ht)) x.toNat (List.mem_range.2 (by omega))
  simpa [Int.toNat_of_nonneg h0] using h2
theorem node_bd {x n : Int} (hd : isNode x n = true) : 0 ≤ x ∧ x ≤ 62 ∧ x ≤ 2 * n - 2 ∧ 1 ≤ n ∧ n ≤ 32 ∧ isTree n = true := by
  simp only [isNode, Bool.and_eq_true, decide_eq_true_eq] at hd
  obtain ⟨⟨ht, h0⟩, h1⟩ := hd
  have hc := isTree_cases ht
  exact ⟨by omega, by omega, by omega, by omega, by omega, ht⟩

set_option maxRecDepth 100000 in
theorem par_all : allNodes (fun n x => decide (par x n = -1) || (isNode (par x n) n && decide (lv (par x n) = lv x + 1))) = true := by decide +kernel
set_option maxRecDepth 100000 in
theorem kids_all : allNodes (fun n x => (List.range (2 * n.toNat - 1)).all fun p => ((kidL p == x || kidR p == x) == (par x n == p))) = true := by decide +kernel
theorem par_out {x n : Int} (hd : isNode x n = false) : par x n = -1 := by simp [par, hd]
theorem par_node {x n : Int} (hd : isNode x n = true) : par x n = -1 ∨ (isNode (par x n) n = true ∧ lv (par x n) = lv x + 1) := by
  have := allNodes_spec par_all hd
  simpa using this
theorem par_bd (x n : Int) : -1 ≤ par x n ∧ par x n ≤ 62 := by
  cases hd : isNode x n with
  | false => rw [par_out hd]; omega
  | true =>
    rcases par_node hd with h | h
    · omega
    · have := node_bd h.1; omega
theorem kids_par {x n p : Int} (hd : isNode x n = true) (h0 : 0 ≤ p) (h1 : p ≤ 2 * n - 2) : (kidL p == x || kidR p == x) = (par x n == p) := by
  have hb := node_bd hd
  have := List.all_eq_true.1 (allNodes_spec kids_all hd) p.toNat (List.mem_range.2 (by omega))
  simpa [Int.toNat_of_nonneg h0] using this

theorem rparent (x n : Int) (w : World) : Calls Tryd.prog 30 #[.int .i64 x, .int .i64 n] w fun e w' => e = .returned (.int .i64 (par x n)) ∧ w = w' := by
  have hn := rnode x n w
  cases hd : isNode x n with
  | false =>
    rw [par_out hd]
    rw [hd] at hn
    clear hd
    go_enter Tryd.func30, Tryd.ntmps30
    go_wp2_with (go_at_call 53; refine hn.mono ?_; rintro e w' ⟨rfl, rfl⟩)
    go_ret
    exact ⟨rfl, rfl⟩
  | true =>
    rw [hd] at hn
    have hb := node_bd hd
    have hpb := par_node hd
    have hk : ∀ p, 0 ≤ p → p ≤ 2 * n - 2 → (kidL p == x || kidR p == x) = (par x n == p) := fun p h0 h1 => kids_par hd h0 h1
    have hpn : par x n = -1 ∨ par x n ≤ 2 * n - 2 := by
      rcases hpb with h | h
      · exact .inl h
      · have := node_bd h.1; omega
    have H := Lib.hid hk
    have hqb := (par_bd x n).1
    generalize par x n = q at *
    obtain ⟨N, hN⟩ := Int.eq_ofNat_of_zero_le (by omega : 0 ≤ n)
    subst hN
    clear hd hk hpb
    go_enter Tryd.func30, Tryd.ntmps30
    go_wp2_with (go_at_call 53; refine hn.mono ?_; rintro e w' ⟨rfl, rfl⟩)
    go_loop [5] (fun p => ∃ c : Nat, c ≤ 2 * N - 1 ∧ p = .int .i64 c ∧ (q = -1 ∨ (c : Int) ≤ q)) (fun p => 2 * N - (intOf p).toNat)
    case atStart => exact ⟨0, by omega, rfl, by omega⟩
    case round =>
      obtain ⟨c, hc, rfl, hq⟩ := hrel
      by_cases hlt : (c : Int) ≤ 2 * (N : Int) - 2
      · have hm := H.out c (by omega) hlt
        have hch := rchildren c (by unfold i64; omega) w
        generalize kidL c = l at *
        generalize kidR c = r at *
        by_cases hqc : q = c
        · subst hqc
          rw [show ((c : Int) == c) = true from beq_self_eq_true _] at hm
          cases hl : (l == x) with
          | true =>
            clear hm
            go_wp2_with (go_at_call 25; refine hch.mono ?_; rintro e w' ⟨rfl, rfl⟩)
            go_ret
            exact ⟨rfl, rfl⟩
          | false =>
            rw [hl, Bool.false_or] at hm
            go_wp2_with (go_at_call 25; refine hch.mono ?_; rintro e w' ⟨rfl, rfl⟩)
            go_ret
            exact ⟨rfl, rfl⟩
        · rw [show (q == (c : Int)) = false from beq_eq_false_iff_ne.2 hqc, Bool.or_eq_false_iff] at hm
          obtain ⟨hl, hr⟩ := hm
          go_wp2_with (go_at_call 25; refine hch.mono ?_; rintro e w' ⟨rfl, rfl⟩)
          go_round
          case rel => exact ⟨c + 1, by omega, by go_num, by omega⟩
          case measure => simp [intOf]; omega
      · have hq' : q = -1 := by omega
        have hd : decide ((c : Int) ≤ 2 * (N : Int) - 2) = false := decide_eq_false hlt
        have K := Lib.hid hq'
        clear hq' hq hpn
        go_wp2
        all_goals first | omega | (go_ret; exact ⟨by rw [K.out]; rfl, rfl⟩)

def sib (x n : Int) : Int := if x = kidL (par x n) then kidR (par x n) else kidL (par x n)
theorem sib_neg {x n : Int} (h : par x n = -1) : sib x n = -1 := by
  unfold sib
  rw [h]
  have h1 : kidL (-1) = -1 := by decide
  have h2 : kidR (-1) = -1 := by decide
  rw [h1, h2]
  split <;> rfl

theorem rsibling (x n : Int) (w : World) : Calls Tryd.prog 32 #[.int .i64 x, .int .i64 n] w fun e w' => e = .returned (.int .i64 (sib x n)) ∧ w = w' := by
  have h1 := rparent x n w
  have hb := par_bd x n
  by_cases hp : par x n = -1
  · rw [sib_neg hp]
    rw [hp] at h1
    clear hp hb
    go_enter Tryd.func32, Tryd.ntmps32
    go_wp2_with (go_at_call 30; refine h1.mono ?_; rintro e w' ⟨rfl, rfl⟩)
    go_ret
    exact ⟨rfl, rfl⟩
  · have h2 := rchildren (par x n) (by unfold i64; omega) w
    have hs : sib x n = if x = kidL (par x n) then kidR (par x n) else kidL (par x n) := rfl
    generalize sib x n = sv at *
    generalize par x n = p at *
    generalize kidL p = l at *
    generalize kidR p = r at *
    by_cases h : x = l
    · rw [if_pos h] at hs
      subst h
      subst hs
      go_enter Tryd.func32, Tryd.ntmps32
      go_wp2_with (first | (go_at_call 30; refine h1.mono ?_; rintro e w' ⟨rfl, rfl⟩) | (go_at_call 25; refine h2.mono ?_; rintro e w' ⟨rfl, rfl⟩))
      go_ret
      exact ⟨rfl, rfl⟩
    · rw [if_neg h] at hs
      subst hs
      have hq : (sv == x) = false := by rw [beq_eq_false_iff_ne]; exact fun hh => h hh.symm
      clear h
      go_enter Tryd.func32, Tryd.ntmps32
      go_wp2_with (first | (go_at_call 30; refine h1.mono ?_; rintro e w' ⟨rfl, rfl⟩) | (go_at_call 25; refine h2.mono ?_; rintro e w' ⟨rfl, rfl⟩))
      go_ret
      exact ⟨rfl, rfl⟩

/-! ### above, below, common -/
def abvF : Nat → Int → Int → Int → Bool
  | 0, _, _, _ => false
  | f + 1, x, p, n => if p < 0 then false else if p = x then true else abvF f x (par p n) n
def abv (x y n : Int) : Bool := isNode x n && isNode y n && abvF 7 x y n

theorem lv_node {x n : Int} (hd : isNode x n = true) : 0 ≤ lv x ∧ lv x ≤ 5 := by
  have hb := node_bd hd
  have := lv_small ⟨x.toNat, by omega⟩
  simp only at this
  unfold lv
  rw [if_neg (by omega)]
  omega

def msr (p : Int) : Nat := if p < 0 then 0 else 8 - (lv p).toNat
theorem msr_par {p n : Int} (h : isNode p n = true) : msr (par p n) < msr p := by
  have h1 := lv_node h
  have h2 := node_bd h
  have e : msr p = 8 - (lv p).toNat := by unfold msr; rw [if_neg (by omega)]
  rw [e]
  rcases par_node h with h3 | h3
  · rw [h3]; show 0 < _; omega
  · have h4 := node_bd h3.1
    unfold msr
    rw [if_neg (by omega)]
    omega

theorem rabove (x y n : Int) (w : World) : Calls Tryd.prog 54 #[.int .i64 x, .int .i64 y, .int .i64 n] w fun e w' => e = .returned (.bool (abv x y n)) ∧ w = w' := by
  have hn := rnode x n w
  have hm := rnode y n w
  cases hx : isNode x n with
  | false =>
    have e : abv x y n = false := by simp [abv, hx]
    rw [e]
    rw [hx] at hn
    clear hx e
    go_enter Tryd.func54, Tryd.ntmps54
    go_wp2_with (go_at_call 53; (with_reducible refine hn.mono ?_); rintro e w' ⟨rfl, rfl⟩)
    go_ret
    exact ⟨rfl, rfl⟩
  | true =>
    cases hy : isNode y n with
    | false =>
      have e : abv x y n = false := by simp [abv, hy]
      rw [e]
      rw [hx] at hn
      rw [hy] at hm
      clear hx hy e
      go_enter Tryd.func54, Tryd.ntmps54
      go_wp2_with (first | (go_at_call 53; (with_reducible refine hn.mono ?_); rintro e w' ⟨rfl, rfl⟩) | (go_at_call 53; (with_reducible refine hm.mono ?_); rintro e w' ⟨rfl, rfl⟩))
      go_ret
      exact ⟨rfl, rfl⟩
    | true =>
      have e : abv x y n = abvF 7 x y n := by simp [abv, hx, hy]
      rw [e]
      rw [hx] at hn
      rw [hy] at hm
      have hxb := node_bd hx
      have hyb := node_bd hy
      have HY := Lib.hid hy
      clear hx e hy
      go_enter Tryd.func54, Tryd.ntmps54
      go_wp2_with (first | (go_at_call 53; (with_reducible refine hn.mono ?_); rintro e w' ⟨rfl, rfl⟩) | (go_at_call 53; (with_reducible refine hm.mono ?_); rintro e w' ⟨rfl, rfl⟩))
      go_loop [7] (fun v => ∃ (p : Int) (f : Nat), v = .int .i64 p ∧ Hid (p = -1 ∨ (isNode p n = true ∧ 7 ≤ f + lv p)) ∧ Hid (abvF 7 x y n = abvF f x p n)) (fun v => msr (intOf v))
      case atStart => exact ⟨y, 7, rfl, .inr ⟨HY.out, by have := lv_node HY.out; omega⟩, rfl⟩
      case round =>
        obtain ⟨p, f, rfl, hp, hf⟩ := hrel
        by_cases h0 : p < 0
        · have hp1 : p = -1 := by rcases hp.out with h | h; exact h; have := node_bd h.1; omega
          subst hp1
          have K : Hid (abvF 7 x y n = false) := by rw [Hid, hf.out]; cases f <;> simp [abvF]
          go_wp2
          go_ret
          exact ⟨by rw [K.out]; rfl, rfl⟩
        · have hpn : isNode p n = true ∧ 7 ≤ f + lv p := by rcases hp.out with h | h; omega; exact h
          have hpb := node_bd hpn.1
          have hlp := lv_node hpn.1
          obtain ⟨g, rfl⟩ : ∃ g, f = g + 1 := ⟨f - 1, by omega⟩
          by_cases hpx : p = x
          · have K : Hid (abvF 7 x y n = true) := by rw [Hid, hf.out, hpx]; simp [abvF]; omega
            have hq : (p == x) = true := beq_iff_eq.2 hpx
            clear hpn hlp hpx
            go_wp2
            go_ret
            exact ⟨by rw [K.out]; rfl, rfl⟩
          · have K : Hid (abvF 7 x y n = abvF g x (par p n) n) := by rw [Hid, hf.out]; simp [abvF, h0, hpx]
            have hq : (p == x) = false := beq_eq_false_iff_ne.2 hpx
            have hpp := rparent p n w
            have hnext : Hid (par p n = -1 ∨ (isNode (par p n) n = true ∧ lv (par p n) = lv p + 1)) := par_node hpn.1
            have hg : Hid (7 ≤ g + 1 + lv p) := by have := hpn.2; rw [Hid]; omega
            have hms : Hid (msr (par p n) < msr p) := msr_par hpn.1
            clear hpn hpx
            go_wp2_with (go_at_call 30; refine hpp.mono ?_; rintro e w' ⟨rfl, rfl⟩)
            go_round
            case rel => exact ⟨par p n, g, rfl, by rcases hnext.out with h | h; exact .inl h; exact .inr ⟨h.1, by have := h.2; have := hg.out; omega⟩, K⟩
            case measure => exact hms.out
end Go.Proofs.YticjghmgbmjkiaaDoor.Seat
