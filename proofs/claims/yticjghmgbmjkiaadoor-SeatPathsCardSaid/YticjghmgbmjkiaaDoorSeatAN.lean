/- Package seat and its reference: the small functions. -/
import Derived.Test.YticjghmgbmjkiaaDoorBaseN
import Derived.Test.YticjghmgbmjkiaaDoorRows
import Derived.Lib.TrailingZeros
import Derived.Laws.Bits64b
namespace Go.Proofs.YticjghmgbmjkiaaDoor.Seat
set_option linter.unusedVariables false
open Go Go.RowKit
open Go.Proofs.YticjghmgbmjkiaaDoor.Rely

/-- the library's table, as its text lays it -/
def TabAt (w : World) : Prop := 2 < w.heap.size ∧ ∀ j, j < 64 → w.cell? ⟨2, j, none⟩ = some (.int .u8 (Lib.deBruijn64tab.getD j 0))
theorem TabAt.ext {w w' : World} (h : TabAt w) (e : Ext w w') : TabAt w' := ⟨Nat.lt_of_lt_of_le h.1 e.size, fun j hj => by rw [e.cell h.1]; exact h.2 j hj⟩

theorem tz64_core (x k idx : Nat) (w : World) (hx0 : ((x : Int) == 0) = false)
    (key : IntKind.u64.wrap (bits BinOp.and IntKind.u64 (x : Int) (IntKind.u64.wrap (-(x : Int))) * 285870213051353865) / 288230376151711744 = (idx : Int))
    (hi : idx < 64) (hk : k < 64) (hcell : w.cell? ⟨2, idx, none⟩ = some (.int .u8 k)) :
    Calls Tryd.prog 51 #[.int .u64 x] w fun e w' => e = .returned (.int .i64 k) ∧ w = w' := by
  go_enter Tryd.func51, Tryd.ntmps51
  go_wp2_with (simp only [key])
  go_ret
  exact ⟨rfl, rfl⟩
theorem tz64_key (x a : Nat) (hx : x < 18446744073709551616) (hx0 : x ≠ 0) (hlow : x &&& (18446744073709551616 - x) = a) :
    IntKind.u64.wrap (bits BinOp.and IntKind.u64 (x : Int) (IntKind.u64.wrap (-(x : Int))) * 285870213051353865) / 288230376151711744 = ((a * 285870213051353865 % 18446744073709551616 / 288230376151711744 : Nat) : Int) := by
  have e1 : IntKind.u64.wrap (-(x : Int)) = ((18446744073709551616 - x : Nat) : Int) := by rw [IntKind.wrap_u64]; omega
  rw [e1, bits_and_u64_nat x _ hx (by omega), hlow, IntKind.wrap_u64]
  omega
theorem tz64 (x : Nat) (hx : x < 18446744073709551616) (hx0 : x ≠ 0) (w : World) (hT : TabAt w) :
    Calls Tryd.prog 51 #[.int .u64 x] w fun e w' => e = .returned (.int .i64 (Lib.ctz 64 x)) ∧ w = w' := by
  obtain ⟨hlow, hk⟩ := Lib.lowest_bit 64 x hx0 hx
  obtain ⟨hi, htab⟩ := Lib.deBruijn64_at _ hk
  have hcell := hT.2 _ hi
  rw [htab] at hcell
  exact tz64_core x _ _ w (by simp; omega) (tz64_key x _ hx hx0 hlow) hi hk hcell

/-- is there a tree of n leaves? -/
def isTree (n : Int) : Bool := n == 1 || n == 2 || n == 4 || n == 8 || n == 16 || n == 32
def isNode (x n : Int) : Bool := isTree n && decide (0 ≤ x) && decide (x ≤ 2 * n - 2)
theorem isTree_cases {n : Int} (h : isTree n = true) : n = 1 ∨ n = 2 ∨ n = 4 ∨ n = 8 ∨ n = 16 ∨ n = 32 := by
  simp only [isTree, Bool.or_eq_true, beq_iff_eq] at h; omega

theorem tree_out (n : Int) (h : n < 1 ∨ 32 < n) (w : World) : Calls Tryd.prog 55 #[.int .i64 n] w fun e w' => e = .returned (.bool (isTree n)) ∧ w = w' := by
  have e : isTree n = false := by
    rw [Bool.eq_false_iff]; intro h'; have := isTree_cases h'; omega
  rw [e]
  rcases h with h | h
  · have h1 : decide (1 ≤ n) = false := decide_eq_false (by omega)
    go_enter Tryd.func55, Tryd.ntmps55
    go_wp2
    all_goals first | omega | (go_ret; exact ⟨rfl, rfl⟩)
  · have h1 : decide (1 ≤ n) = true := decide_eq_true (by omega)
    have h2 : decide (n ≤ 32) = false := decide_eq_false (by omega)
    go_enter Tryd.func55, Tryd.ntmps55
    go_wp2
    all_goals first | omega | (go_ret; exact ⟨rfl, rfl⟩)
theorem and_dec : ∀ k : Fin 33, (bits .and .i64 (k.val : Int) ((k.val : Int) - 1) == 0) = (k.val == 0 || isTree (k.val : Int)) := by decide +kernel
theorem tree_in (n : Int) (h1 : 1 ≤ n) (h2 : n ≤ 32) (w : World) : Calls Tryd.prog 55 #[.int .i64 n] w fun e w' => e = .returned (.bool (isTree n)) ∧ w = w' := by
  have key : (bits .and .i64 n (n - 1) == 0) = isTree n := by
    have := and_dec ⟨n.toNat, by omega⟩
    have e : ((n.toNat : Nat) : Int) = n := by omega
    simp only [e] at this
    rw [this]
    have : (n.toNat == 0) = false := by rw [beq_eq_false_iff_ne]; omega
    rw [this]; rfl
  have h3 : decide (1 ≤ n) = true := decide_eq_true h1
  have h4 : decide (n ≤ 32) = true := decide_eq_true h2
  go_enter Tryd.func55, Tryd.ntmps55
  go_wp2
  all_goals first | omega | (go_ret; exact ⟨rfl, rfl⟩)
theorem tree (n : Int) (w : World) : Calls Tryd.prog 55 #[.int .i64 n] w fun e w' => e = .returned (.bool (isTree n)) ∧ w = w' := by
  by_cases h : 1 ≤ n ∧ n ≤ 32
  · exact tree_in n h.1 h.2 w
  · exact tree_out n (by omega) w

def i64 (n : Int) : Prop := -9223372036854775808 ≤ n ∧ n ≤ 9223372036854775807

theorem node (x n : Int) (w : World) : Calls Tryd.prog 52 #[.int .i64 x, .int .i64 n] w fun e w' => e = .returned (.bool (isNode x n)) ∧ w = w' := by
  cases ht : isTree n with
  | false =>
    have e : isNode x n = false := by simp [isNode, ht]
    rw [e]
    have hn := tree n w
    rw [ht] at hn
    go_enter Tryd.func52, Tryd.ntmps52
    go_wp2_with (go_at_call 55; refine hn.mono ?_; rintro e w' ⟨rfl, rfl⟩)
    go_ret
    exact ⟨rfl, rfl⟩
  | true =>
    have hn := tree n w
    rw [ht] at hn
    have hc := isTree_cases ht
    have hb : 1 ≤ n ∧ n ≤ 32 := by omega
    clear hc
    by_cases hx : 0 ≤ x
    · have h1 : decide (0 ≤ x) = true := decide_eq_true hx
      by_cases hl : x < 2 * n - 1
      · have e : isNode x n = true := by simp [isNode, ht]; omega
        rw [e]
        have h2 : decide (x < 2 * n - 1) = true := decide_eq_true hl
        clear ht
        go_enter Tryd.func52, Tryd.ntmps52
        go_wp2_with (go_at_call 55; refine hn.mono ?_; rintro e w' ⟨rfl, rfl⟩)
        go_ret
        exact ⟨rfl, rfl⟩
      · have e : isNode x n = false := by simp [isNode, ht]; omega
        rw [e]
        have h2 : decide (x < 2 * n - 1) = false := decide_eq_false hl
        clear ht
        go_enter Tryd.func52, Tryd.ntmps52
        go_wp2_with (go_at_call 55; refine hn.mono ?_; rintro e w' ⟨rfl, rfl⟩)
        go_ret
        exact ⟨rfl, rfl⟩
    · have e : isNode x n = false := by simp [isNode, hx]
      rw [e]
      have h1 : decide (0 ≤ x) = false := decide_eq_false hx
      clear ht
      go_enter Tryd.func52, Tryd.ntmps52
      go_wp2_with (go_at_call 55; refine hn.mono ?_; rintro e w' ⟨rfl, rfl⟩)
      go_ret
      exact ⟨rfl, rfl⟩

/-- the level -/
def lvN (x : Nat) : Nat := Lib.ctz 64 (18446744073709551615 - x)
def lv (x : Int) : Int := if x < 0 then -1 else lvN x.toNat

theorem lvN_lt (x : Nat) (h : x ≤ 9223372036854775807) : lvN x < 64 := (Lib.lowest_bit 64 _ (by omega) (by omega)).2

theorem not_u64 (n : Nat) (h : n < 18446744073709551616) : bits .xor .u64 IntKind.u64.max (n : Int) = 18446744073709551615 - (n : Int) := by
  have e : IntKind.u64.max = ((18446744073709551615 : Nat) : Int) := by decide
  rw [e, u64_xor_nat _ n (by omega) h]
  have e2 : (18446744073709551615 : Nat) ^^^ n = 18446744073709551615 - n := by
    have := BitVec.toNat_not (x := BitVec.ofNat 64 n)
    have h1 : (BitVec.allOnes 64 ^^^ BitVec.ofNat 64 n) = ~~~ (BitVec.ofNat 64 n) := BitVec.allOnes_xor
    have h2 := congrArg BitVec.toNat h1
    rw [BitVec.toNat_xor, this, BitVec.toNat_allOnes, BitVec.toNat_ofNat, Nat.mod_eq_of_lt (by omega : n < 2 ^ 64)] at h2
    exact h2
  rw [e2]
  omega

theorem level (x : Int) (hx : i64 x) (w : World) (hT : TabAt w) : Calls Tryd.prog 27 #[.int .i64 x] w fun e w' => e = .returned (.int .i64 (lv x)) ∧ w = w' := by
  unfold i64 at hx
  by_cases h : x < 0
  · have e : lv x = -1 := by simp [lv, h]
    rw [e]
    go_enter Tryd.func27, Tryd.ntmps27
    go_wp2
    go_ret
    exact ⟨rfl, rfl⟩
  · have e : lv x = (lvN x.toNat : Int) := by simp [lv, h]
    rw [e]
    obtain ⟨n, rfl⟩ := Int.eq_ofNat_of_zero_le (by omega : 0 ≤ x)
    have hz := tz64 (18446744073709551615 - n) (by omega) (by omega) w hT
    have e2 : ((18446744073709551615 - n : Nat) : Int) = 18446744073709551615 - (n : Int) := by omega
    rw [e2, ← not_u64 n (by omega)] at hz
    rw [Int.toNat_natCast]
    have e3 : lvN n = Lib.ctz 64 (18446744073709551615 - n) := rfl
    rw [← e3] at hz
    generalize lvN n = c at *
    clear e e2 e3
    go_enter Tryd.func27, Tryd.ntmps27
    go_wp2_with (go_at_call 51; refine hz.mono ?_; rintro e w' ⟨rfl, rfl⟩)
    go_ret
    exact ⟨rfl, rfl⟩

/-- the distance of a child -/
def half (k : Int) : Int := wrap64 (2 ^ (k.toNat - 1))
def kidL (x : Int) : Int := if lv x ≤ 0 then -1 else wrap64 (x - half (lv x))
def kidR (x : Int) : Int := if lv x ≤ 0 then -1 else wrap64 (x + half (lv x))

theorem lv_bd (x : Int) (hx : i64 x) : -1 ≤ lv x ∧ lv x ≤ 63 := by
  unfold lv
  split
  · omega
  · have := lvN_lt x.toNat (by unfold i64 at hx; omega)
    omega
theorem children (x : Int) (hx : i64 x) (w : World) (hT : TabAt w) : Calls Tryd.prog 24 #[.int .i64 x] w fun e w' => e = .returned (.tuple #[.int .i64 (kidL x), .int .i64 (kidR x)]) ∧ w = w' := by
  have hl := level x hx w hT
  have hb := lv_bd x hx
  by_cases h : lv x ≤ 0
  · have e1 : kidL x = -1 := by simp [kidL, h]
    have e2 : kidR x = -1 := by simp [kidR, h]
    rw [e1, e2]
    generalize lv x = k at *
    clear e1 e2
    go_enter Tryd.func24, Tryd.ntmps24
    go_wp2_with (go_at_call 27; refine hl.mono ?_; rintro e w' ⟨rfl, rfl⟩)
    go_ret2
    exact ⟨rfl, rfl⟩
  · have e1 : kidL x = wrap64 (x - half (lv x)) := by simp [kidL, h]
    have e2 : kidR x = wrap64 (x + half (lv x)) := by simp [kidR, h]
    rw [e1, e2]
    generalize lv x = k at *
    clear e1 e2
    go_enter Tryd.func24, Tryd.ntmps24
    go_wp2_with (go_at_call 27; refine hl.mono ?_; rintro e w' ⟨rfl, rfl⟩)
    go_ret2
    exact ⟨rfl, rfl⟩

theorem root (n : Int) (w : World) : Calls Tryd.prog 36 #[.int .i64 n] w fun e w' => e = .returned (.int .i64 (if isTree n then n - 1 else -1)) ∧ w = w' := by
  have hn := tree n w
  cases ht : isTree n with
  | false =>
    rw [ht] at hn
    clear ht
    go_enter Tryd.func36, Tryd.ntmps36
    go_wp2_with (go_at_call 55; refine hn.mono ?_; rintro e w' ⟨rfl, rfl⟩)
    go_ret
    exact ⟨rfl, rfl⟩
  | true =>
    rw [ht] at hn
    have hc := isTree_cases ht
    have hb : 1 ≤ n ∧ n ≤ 32 := by omega
    clear hc ht
    go_enter Tryd.func36, Tryd.ntmps36
    go_wp2_with (go_at_call 55; refine hn.mono ?_; rintro e w' ⟨rfl, rfl⟩)
    go_ret
    exact ⟨rfl, rfl⟩

/-- the parent of a node; -1 of the root, and of what is no node -/
def up1 (x k : Int) : Int := if bits .and .i64 (x / 2 ^ (k + 1).toNat) 1 == 0 then wrap64 (x + wrap64 (2 ^ k.toNat)) else wrap64 (x - wrap64 (2 ^ k.toNat))
def par (x n : Int) : Int :=
  if isNode x n = false then -1 else if x = n - 1 then -1 else up1 x (lv x)

theorem lv_small : ∀ x : Fin 63, lvN x.val ≤ 5 := by decide +kernel
theorem parent (x n : Int) (hx : i64 x) (w : World) (hT : TabAt w) : Calls Tryd.prog 29 #[.int .i64 x, .int .i64 n] w fun e w' => e = .returned (.int .i64 (par x n)) ∧ w = w' := by
  have hn := node x n w
  cases hd : isNode x n with
  | false =>
    have e : par x n = -1 := by simp [par, hd]
    rw [e]
    rw [hd] at hn
    clear hd e
    go_enter Tryd.func29, Tryd.ntmps29
    go_wp2_with (go_at_call 52; refine hn.mono ?_; rintro e w' ⟨rfl, rfl⟩)
    go_ret
    exact ⟨rfl, rfl⟩
  | true =>
    rw [hd] at hn
    have ht : isTree n = true := by simp [isNode] at hd; exact hd.1.1
    have hb : 0 ≤ x ∧ x ≤ 2 * n - 2 := by simp [isNode] at hd; omega
    have hc : 1 ≤ n ∧ n ≤ 32 := by have := isTree_cases ht; omega
    have hr := root n w
    rw [ht] at hr
    simp only [if_true] at hr
    by_cases hq : x = n - 1
    · have e : par x n = -1 := by simp [par, hq]
      rw [e]
      subst hq
      clear hd ht
      go_enter Tryd.func29, Tryd.ntmps29
      go_wp2_with (first | (go_at_call 52; refine hn.mono ?_; rintro e w' ⟨rfl, rfl⟩) | (go_at_call 36; refine hr.mono ?_; rintro e w' ⟨rfl, rfl⟩))
      go_ret
      exact ⟨rfl, rfl⟩
    · have hl := level x hx w hT
      have hlv : 0 ≤ lv x ∧ lv x ≤ 5 := by
        have := lv_small ⟨x.toNat, by omega⟩
        simp only at this
        unfold lv
        rw [if_neg (by omega)]
        omega
      have e : par x n = up1 x (lv x) := by simp [par, hd, hq]
      rw [e]
      have hq' : (x == n - 1) = false := by rw [beq_eq_false_iff_ne]; exact hq
      generalize lv x = k at *
      clear hd ht e hq
      cases hbit : (bits .and .i64 (x / 2 ^ (k + 1).toNat) 1 == 0) with
      | true =>
        have e : up1 x k = wrap64 (x + wrap64 (2 ^ k.toNat)) := by simp [up1, hbit]
        rw [e]
        clear e
        go_enter Tryd.func29, Tryd.ntmps29
        go_wp2_with (first | (go_at_call 52; refine hn.mono ?_; rintro e w' ⟨rfl, rfl⟩) | (go_at_call 36; refine hr.mono ?_; rintro e w' ⟨rfl, rfl⟩) | (go_at_call 27; refine hl.mono ?_; rintro e w' ⟨rfl, rfl⟩))
        go_ret
        exact ⟨rfl, rfl⟩
      | false =>
        have e : up1 x k = wrap64 (x - wrap64 (2 ^ k.toNat)) := by simp [up1, hbit]
        rw [e]
        clear e
        go_enter Tryd.func29, Tryd.ntmps29
        go_wp2_with (first | (go_at_call 52; refine hn.mono ?_; rintro e w' ⟨rfl, rfl⟩) | (go_at_call 36; refine hr.mono ?_; rintro e w' ⟨rfl, rfl⟩) | (go_at_call 27; refine hl.mono ?_; rintro e w' ⟨rfl, rfl⟩))
        go_ret
        exact ⟨rfl, rfl⟩

theorem sibling (x n : Int) (hx : i64 x) (w : World) (hT : TabAt w) (hp : i64 (par x n)) : Calls Tryd.prog 31 #[.int .i64 x, .int .i64 n] w fun e w' => e = .returned (.int .i64 (if x = kidL (par x n) then kidR (par x n) else kidL (par x n))) ∧ w = w' := by
  have h1 := parent x n hx w hT
  have h2 := children (par x n) hp w hT
  generalize par x n = p at *
  generalize kidL p = l at *
  generalize kidR p = r at *
  by_cases h : x = l
  · rw [if_pos h]
    subst h
    go_enter Tryd.func31, Tryd.ntmps31
    go_wp2_with (first | (go_at_call 29; refine h1.mono ?_; rintro e w' ⟨rfl, rfl⟩) | (go_at_call 24; refine h2.mono ?_; rintro e w' ⟨rfl, rfl⟩))
    go_ret
    exact ⟨rfl, rfl⟩
  · rw [if_neg h]
    have hq : (x == l) = false := by rw [beq_eq_false_iff_ne]; exact h
    clear h
    go_enter Tryd.func31, Tryd.ntmps31
    go_wp2_with (first | (go_at_call 29; refine h1.mono ?_; rintro e w' ⟨rfl, rfl⟩) | (go_at_call 24; refine h2.mono ?_; rintro e w' ⟨rfl, rfl⟩))
    go_ret
    exact ⟨rfl, rfl⟩

def reach (k : Int) : Int := wrap64 (wrap64 (2 ^ k.toNat) - 1)
def bel (x n : Int) : Int × Int :=
  if isNode x n = false then (-1, -1) else (wrap64 ((wrap64 (x - reach (lv x))).tdiv 2), wrap64 ((wrap64 (x + reach (lv x))).tdiv 2))

theorem below (x n : Int) (hx : i64 x) (w : World) (hT : TabAt w) : Calls Tryd.prog 33 #[.int .i64 x, .int .i64 n] w fun e w' => e = .returned (.tuple #[.int .i64 (bel x n).1, .int .i64 (bel x n).2]) ∧ w = w' := by
  have hn := node x n w
  cases hd : isNode x n with
  | false =>
    have e : bel x n = (-1, -1) := by simp [bel, hd]
    rw [e]
    rw [hd] at hn
    clear hd e
    go_enter Tryd.func33, Tryd.ntmps33
    go_wp2_with (go_at_call 52; refine hn.mono ?_; rintro e w' ⟨rfl, rfl⟩)
    go_ret2
    exact ⟨rfl, rfl⟩
  | true =>
    rw [hd] at hn
    have hl := level x hx w hT
    have hb : 0 ≤ x ∧ x ≤ 62 := by
      simp [isNode] at hd
      have := isTree_cases hd.1.1
      omega
    have hlv : 0 ≤ lv x ∧ lv x ≤ 5 := by
      have := lv_small ⟨x.toNat, by omega⟩
      simp only at this
      unfold lv
      rw [if_neg (by omega)]
      omega
    have e : bel x n = (wrap64 ((wrap64 (x - reach (lv x))).tdiv 2), wrap64 ((wrap64 (x + reach (lv x))).tdiv 2)) := by simp [bel, hd]
    rw [e]
    generalize lv x = k at *
    clear hd e
    go_enter Tryd.func33, Tryd.ntmps33
    go_wp2_with (first | (go_at_call 52; refine hn.mono ?_; rintro e w' ⟨rfl, rfl⟩) | (go_at_call 27; refine hl.mono ?_; rintro e w' ⟨rfl, rfl⟩))
    go_ret2
    exact ⟨rfl, rfl⟩

def leaves (m : Int) : Int := if (m.tmod 2 != 1) = true then 0 else if isTree (wrap64 (m.tdiv 2 + 1)) then wrap64 (m.tdiv 2 + 1) else 0
theorem leavesC (m : Int) (hm : i64 m) (w : World) : Calls Tryd.prog 37 #[.int .i64 m] w fun e w' => e = .returned (.int .i64 (leaves m)) ∧ w = w' := by
  unfold i64 at hm
  have hn := tree (wrap64 (m.tdiv 2 + 1)) w
  cases h1 : (m.tmod 2 != 1) with
  | true =>
    have e : leaves m = 0 := by simp only [leaves, h1, if_true]
    rw [e]
    clear e
    go_enter Tryd.func37, Tryd.ntmps37
    go_wp2
    all_goals first | (go_ret; exact ⟨rfl, rfl⟩) | (exfalso; simp_all; done)
  | false =>
    cases h2 : isTree (wrap64 (m.tdiv 2 + 1)) with
    | true =>
      have e : leaves m = wrap64 (m.tdiv 2 + 1) := by simp only [leaves, h1, h2, if_true, Bool.false_eq_true, if_false]
      rw [e]
      rw [h2] at hn
      clear e h2
      go_enter Tryd.func37, Tryd.ntmps37
      go_wp2_with (go_at_call 55; refine hn.mono ?_; rintro e w' ⟨rfl, rfl⟩)
      all_goals first | (go_ret; exact ⟨rfl, rfl⟩) | (exfalso; simp_all; done)
    | false =>
      have e : leaves m = 0 := by simp only [leaves, h1, h2, Bool.false_eq_true, if_false]
      rw [e]
      rw [h2] at hn
      clear e h2
      go_enter Tryd.func37, Tryd.ntmps37
      go_wp2_with (go_at_call 55; refine hn.mono ?_; rintro e w' ⟨rfl, rfl⟩)
      all_goals first | (go_ret; exact ⟨rfl, rfl⟩) | (exfalso; simp_all; done)
end Go.Proofs.YticjghmgbmjkiaaDoor.Seat
