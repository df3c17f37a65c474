/- Sums and differences of numbers below the prime. -/
import Derived.Test.YtaojnmjmmfdfjaaFieldB
namespace Go.Proofs.Ytaojnmjmmfdfjaa.Field
open Go Go.RowKit
open Go.Proofs.Ytaojnmjmmfdfjaa.Rely
set_option linter.unusedVariables false

/-- below the prime -/
def isN (a : Int) : Prop := 0 ≤ a ∧ a < p
theorem isN_mod (a : Int) : isN (a % p) := ⟨Int.emod_nonneg _ (by unfold p; decide), Int.emod_lt_of_pos _ (by unfold p; decide)⟩
theorem num_open (a : Int) (h : isN a) : ∃ x0 x1 x2 x3 : Int, isW x0 ∧ isW x1 ∧ isW x2 ∧ isW x3 ∧ val x0 x1 x2 x3 = a ∧ num a = words x0 x1 x2 x3 := by
  refine ⟨a % 18446744073709551616, a / 18446744073709551616 % 18446744073709551616, a / 340282366920938463463374607431768211456 % 18446744073709551616, a / 6277101735386680763835789423207666416102355444464034512896 % 18446744073709551616, ?_, ?_, ?_, ?_, ?_, rfl⟩
  all_goals unfold isN p at h
  all_goals first | (unfold isW; omega) | (unfold val; omega)

/-- a number's cells -/
def numA (n : Int) : Array Value := #[.int .u64 (n % 18446744073709551616), .int .u64 (n / 18446744073709551616 % 18446744073709551616), .int .u64 (n / 340282366920938463463374607431768211456 % 18446744073709551616), .int .u64 (n / 6277101735386680763835789423207666416102355444464034512896 % 18446744073709551616)]
theorem num_agg (n : Int) : num n = .agg (numA n) := rfl
theorem infoNum : (Try.prog.info? 29).map (·.size) = some 4 := by kernel_rfl
theorem results_num {fn : Func} {tmps : Array Value} {W : World} {g : Nat} {t : Tmp} {n : Int} (h : fn.results = #[.cell t 29])
    (hp : tmps.getD t undef = .pointer (some ⟨g, 0, none⟩)) (hg : W.heap[g]? = some (.cells (numA n) 29)) :
    (results fn tmps).run Try.prog W = .ok (num n) W :=
  results_cell_row h tmps W g 29 _ (0, 0) _ hp hg Try.underlying29 rfl infoNum
theorem alloc3_new (w : World) (a b c : Obj) : (((w.alloc a).alloc b).alloc c).heap[w.heap.size + 2]? = some c := by
  have := heap_alloc_new ((w.alloc a).alloc b) c
  simpa using this
theorem below_setRow {B : Nat} {a w : World} (h : Below B a w) {g : Nat} (hp : B ≤ g) (cs : Array Value) : Below B a (w.setRow g cs) :=
  ⟨h.os, h.tape, h.output, by simpa using h.size, fun k hk => (setRow_other w g k cs (by omega)).trans (h.block k hk)⟩
theorem ext3 (w : World) (a b c : Obj) : Ext w (((w.alloc a).alloc b).alloc c) := Ext.trans (Ext.trans (ext_alloc _ _) (ext_alloc _ _)) (ext_alloc _ _)

theorem numA_one (n : Int) : (numA n).all (·.oneCell') = true := by simp [numA, Value.oneCell']

theorem add (a b : Int) (ha : isN a) (hb : isN b) (w : World) :
    Calls Try.prog 25 #[num a, num b] w (Ret w (num ((a + b) % p))) := by
  obtain ⟨x0, x1, x2, x3, wx0, wx1, wx2, wx3, ex, eX⟩ := num_open a ha
  obtain ⟨y0, y1, y2, y3, wy0, wy1, wy2, wy3, ey, eY⟩ := num_open b hb
  obtain ⟨v0, c0, wv0, wc0, e0, r0⟩ := add64 x0 y0 0 wx0 wy0 (by decide)
  obtain ⟨v1, c1, wv1, wc1, e1, r1⟩ := add64 x1 y1 c0 wx1 wy1 wc0
  obtain ⟨v2, c2, wv2, wc2, e2, r2⟩ := add64 x2 y2 c1 wx2 wy2 wc1
  have wv3 : isW (x3 + y3 + c2) := by unfold isN isW val p at *; omega
  have u3 := wrap64 _ wv3
  have u3' := wrap64 (x3 + y3) (by unfold isW at *; omega)
  have hs : val v0 v1 v2 (x3 + y3 + c2) = a + b := by unfold val at *; omega
  have C : ∀ w, Calls Try.prog 50 #[.int .u64 v0, .int .u64 v1, .int .u64 v2, .int .u64 (x3 + y3 + c2)] w (Ret w (num ((a + b) % p))) := fun w => by
    have := reduced v0 v1 v2 (x3 + y3 + c2) wv0 wv1 wv2 wv3 (by rw [hs]; unfold isN at *; omega) w
    rw [hs] at this
    exact this
  rw [eX, eY]
  generalize (a + b) % p = r at *
  have HC := Lib.hid C
  clear C hs e0 e1 e2 ex ey eX eY ha hb
  unfold words
  go_enter Try.func25, Try.ntmps25
  go_wp2_with first
    | (go_at_call 50
       (with_reducible refine (HC.out _).mono ?_)
       rintro e w' ⟨rfl, hw⟩)
    | (with_reducible show wpList _ _ _ ((⟨_, .store 29 _ _, _, _, _, _⟩ : Oper) :: _) _ _
       refine wpList_store_row rfl 29 _ _ rfl (w.heap.size + 2) (numA r) rfl rfl 29 _ ((hw.block _ (by simp)).trans (alloc3_new _ _ _ _)) infoNum rfl (numA_one _) ?_)
  exact bodyPost_ret (results_num (t := 4) rfl rfl (setRow_heap _ _ _ _ _ _ ((hw.block _ (by simp)).trans (alloc3_new _ _ _ _)))) rfl ⟨rfl, below_setRow (Ext.trans (ext3 _ _ _ _) hw) (by omega) _⟩
theorem xor_top (r : Nat) (h : r < 9223372036854775808) : (9223372036854775808 + r) ^^^ 9223372036854775808 = r := by
  have e : 9223372036854775808 + r = 9223372036854775808 ||| r := by
    have := Nat.two_pow_add_eq_or_of_lt (i := 63) (b := r) h 1
    simpa using this
  have h2 : (9223372036854775808 : Nat) = 2 ^ 63 := by decide
  rw [e]
  apply Nat.eq_of_testBit_eq
  intro i
  rw [Nat.testBit_xor, Nat.testBit_or, h2, Nat.testBit_two_pow]
  by_cases hi : 63 = i
  · subst hi
    rw [Nat.testBit_lt_two_pow (h2 ▸ h)]
    simp
  · simp [hi]
theorem xor_top' (a : Int) (h : 9223372036854775808 ≤ a ∧ a < 18446744073709551616) : bits .xor .u64 a 9223372036854775808 = a - 9223372036854775808 := by
  rw [u64_xor a _ (by omega) (by omega) (by omega) (by omega)]
  obtain ⟨A, rfl⟩ := Int.eq_ofNat_of_zero_le (show 0 ≤ a by omega)
  obtain ⟨r, rfl⟩ : ∃ r, A = 9223372036854775808 + r := ⟨A - 9223372036854775808, by omega⟩
  have := xor_top r (by omega)
  simp only [Int.toNat_natCast]
  have e : (9223372036854775808 : Int).toNat = 9223372036854775808 := rfl
  rw [e, this]
  omega
theorem xor_zero (a : Int) (h : isW a) : bits .xor .u64 a 0 = a := by
  rw [u64_xor a _ h.1 h.2 (by omega) (by omega)]
  simp
  have := h.1
  omega

theorem borrow19 (v0 v1 v2 v3 u0 u1 u2 d0 d1 d2 : Int) (f0 : u0 - 18446744073709551616 * d0 = v0 - 19 - 0) (f1 : u1 - 18446744073709551616 * d1 = v1 - 0 - d0) (f2 : u2 - 18446744073709551616 * d2 = v2 - 0 - d1) :
    val u0 u1 u2 (v3 - d2) = val v0 v1 v2 v3 - 19 := by unfold val; omega
theorem val_range (a b c d : Int) (ha : isW a) (hb : isW b) (hc : isW c) (hd : isW d) : 0 ≤ val a b c d ∧ val a b c d < 115792089237316195423570985008687907853269984665640564039457584007913129639936 := by unfold isW at *; unfold val; omega
theorem top_bounds (u0 u1 u2 t V : Int) (h0 : isW u0) (h1 : isW u1) (h2 : isW u2) (e : val u0 u1 u2 t = V)
    (l : 57896044618658097711785492504343953926634992332820282019728792003956564819968 ≤ V) (h : V < 115792089237316195423570985008687907853269984665640564039457584007913129639936) :
    9223372036854775808 ≤ t ∧ t < 18446744073709551616 := by unfold isW at *; unfold val at e; omega
theorem val_top (a b c d : Int) : val a b c (d - 9223372036854775808) = val a b c d - 57896044618658097711785492504343953926634992332820282019728792003956564819968 := by unfold val; omega

theorem sub (a b : Int) (ha : isN a) (hb : isN b) (w : World) :
    Calls Try.prog 27 #[num a, num b] w (Ret w (num ((a - b) % p))) := by
  obtain ⟨x0, x1, x2, x3, wx0, wx1, wx2, wx3, ex, eX⟩ := num_open a ha
  obtain ⟨y0, y1, y2, y3, wy0, wy1, wy2, wy3, ey, eY⟩ := num_open b hb
  obtain ⟨v0, c0, wv0, wc0, e0, r0⟩ := sub64 x0 y0 0 wx0 wy0 (by decide)
  obtain ⟨v1, c1, wv1, wc1, e1, r1⟩ := sub64 x1 y1 c0 wx1 wy1 wc0
  obtain ⟨v2, c2, wv2, wc2, e2, r2⟩ := sub64 x2 y2 c1 wx2 wy2 wc1
  obtain ⟨v3, c3, wv3, wc3, e3, r3⟩ := sub64 x3 y3 c2 wx3 wy3 wc2
  have hs : val v0 v1 v2 v3 = a - b + 115792089237316195423570985008687907853269984665640564039457584007913129639936 * c3 := by unfold val at *; omega
  rw [eX, eY]
  rcases (by omega : c3 = 0 ∨ c3 = 1) with rfl | rfl
  · obtain ⟨u0, d0, wu0, wd0, f0, s0⟩ := sub64 v0 0 0 wv0 zero_isW (by decide)
    obtain ⟨u1, d1, wu1, wd1, f1, s1⟩ := sub64 v1 0 d0 wv1 zero_isW wd0
    obtain ⟨u2, d2, wu2, wd2, f2, s2⟩ := sub64 v2 0 d1 wv2 zero_isW wd1
    have k0 : d0 = 0 := by unfold isW at *; omega
    subst k0
    have k1 : d1 = 0 := by unfold isW at *; omega
    subst k1
    have k2 : d2 = 0 := by unfold isW at *; omega
    subst k2
    have hr : num ((a - b) % p) = words u0 u1 u2 v3 := by
      rw [num_val _ _ _ _ wu0 wu1 wu2 wv3, Int.emod_eq_of_lt (by unfold isN isW val at *; omega) (by unfold isN isW val at *; omega)]
      congr 1
      unfold val at *
      omega
    have w3 := wrap64 v3 wv3
    have z3 := xor_zero v3 wv3
    rw [hr]
    clear hr hs e0 e1 e2 e3 f0 f1 f2 ex ey eX eY ha hb
    unfold words
    go_enter Try.func27, Try.ntmps27
    go_wp2_with fail
    exact bodyPost_ret (ret_num (t := 4) rfl rfl (alloc3_new _ _ _ _)) rfl ⟨rfl, ext3 _ _ _ _⟩
  · obtain ⟨u0, d0, wu0, wd0, f0, s0⟩ := sub64 v0 19 0 wv0 (by unfold isW; decide) (by decide)
    obtain ⟨u1, d1, wu1, wd1, f1, s1⟩ := sub64 v1 0 d0 wv1 zero_isW wd0
    obtain ⟨u2, d2, wu2, wd2, f2, s2⟩ := sub64 v2 0 d1 wv2 zero_isW wd1
    have hu := borrow19 v0 v1 v2 v3 u0 u1 u2 d0 d1 d2 f0 f1 f2
    have hlo := val_range v0 v1 v2 v3 wv0 wv1 wv2 wv3
    have hV : val u0 u1 u2 (v3 - d2) = a - b + 115792089237316195423570985008687907853269984665640564039457584007913129639917 := by rw [hu, hs]; omega
    have hb3 := top_bounds u0 u1 u2 (v3 - d2) _ wu0 wu1 wu2 hV (by have := ha.1; have := hb.2; unfold p at this; omega) (by rw [hs] at hlo; omega)
    have hr : num ((a - b) % p) = words u0 u1 u2 (v3 - d2 - 9223372036854775808) := by
      rw [num_val _ _ _ _ wu0 wu1 wu2 (by unfold isW; omega), ← Int.add_emod_right, Int.emod_eq_of_lt (by have := ha.1; have := hb.2; omega) (by rw [hs] at hlo; omega)]
      congr 1
      have e := val_top u0 u1 u2 (v3 - d2)
      rw [hV] at e
      rw [e]
      unfold p
      omega
    have w3 := wrap64 (v3 - d2) (by unfold isW; omega)
    have z3 := xor_top' (v3 - d2) hb3
    rw [hr]
    clear hr hs e0 e1 e2 e3 f0 f1 f2 ex ey eX eY ha hb hb3
    unfold words
    go_enter Try.func27, Try.ntmps27
    go_wp2_with fail
    exact bodyPost_ret (ret_num (t := 4) rfl rfl (alloc3_new _ _ _ _)) rfl ⟨rfl, ext3 _ _ _ _⟩
end Go.Proofs.Ytaojnmjmmfdfjaa.Field
