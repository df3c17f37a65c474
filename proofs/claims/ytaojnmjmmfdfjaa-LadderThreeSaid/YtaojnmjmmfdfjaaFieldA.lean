/- Words of 64 bits: sums and differences with a carry, products, and the residue of what is below twice the prime. -/
import Derived.Test.YtaojnmjmmfdfjaaArr
import Derived.Test.YtaojnmjmmfdfjaaRows
import Derived.Laws.Externs
import Derived.Shelf.Spec.BitsCarry
import Derived.Shelf.Bits.Mul64
import Derived.Laws.Bits64b
namespace Go.Proofs.Ytaojnmjmmfdfjaa.Field
open Go Go.RowKit
open Go.Proofs.Ytaojnmjmmfdfjaa.Rely
set_option linter.unusedVariables false

/-- a word -/
def isW (x : Int) : Prop := 0 ≤ x ∧ x < 18446744073709551616
theorem add64 (x y c : Int) (hx : isW x) (hy : isW y) (hc : 0 ≤ c ∧ c ≤ 1) :
    ∃ s d : Int, isW s ∧ (0 ≤ d ∧ d ≤ 1) ∧ s + 18446744073709551616 * d = x + y + c ∧
      ∀ W, (callFunc 52 #[.int .u64 x, .int .u64 y, .int .u64 c]).run Try.prog W = .ok (.value (.tuple #[.int .u64 s, .int .u64 d])) W := by
  unfold isW at hx hy
  refine ⟨(x + y + c) % 18446744073709551616, (x + y + c) / 18446744073709551616, ⟨by omega, by omega⟩, by omega, by omega, fun W => ?_⟩
  rw [run_callFunc_extern Try.func52 (by kernel_rfl) (by kernel_rfl) (by kernel_rfl) (e := add64Entry) (by kernel_rfl), run_add64 x y c hx.1 hy.1 hc.1 hc.2]
  rfl
theorem sub64 (x y c : Int) (hx : isW x) (hy : isW y) (hc : 0 ≤ c ∧ c ≤ 1) :
    ∃ s d : Int, isW s ∧ (0 ≤ d ∧ d ≤ 1) ∧ s - 18446744073709551616 * d = x - y - c ∧
      ∀ W, (callFunc 53 #[.int .u64 x, .int .u64 y, .int .u64 c]).run Try.prog W = .ok (.value (.tuple #[.int .u64 s, .int .u64 d])) W := by
  unfold isW at hx hy
  obtain ⟨X, rfl⟩ := Int.eq_ofNat_of_zero_le hx.1
  obtain ⟨Y, rfl⟩ := Int.eq_ofNat_of_zero_le hy.1
  obtain ⟨C, rfl⟩ := Int.eq_ofNat_of_zero_le hc.1
  refine ⟨(((X + 18446744073709551616 - Y - C) % 18446744073709551616 : Nat) : Int), ((if X < Y + C then 1 else 0 : Nat) : Int), ⟨by omega, by omega⟩, ?_, ?_, fun W => ?_⟩
  · split <;> simp
  · split <;> omega
  · rw [run_callFunc_extern Try.func53 (by kernel_rfl) (by kernel_rfl) (by kernel_rfl) (e := sub64Entry) (by kernel_rfl), run_sub64 X Y C (by omega)]
    rfl
theorem maskN (a : Int) (h : isW a) : bits .and .u64 a 4294967295 = a % 4294967296 := by
  obtain ⟨A, rfl⟩ := Int.eq_ofNat_of_zero_le h.1
  have h := bits_and_u64_nat A 4294967295 (by have := h.2; omega) (by omega)
  have e : A &&& 4294967295 = A % 4294967296 := Nat.and_two_pow_sub_one_eq_mod A 32
  rw [e] at h
  exact h

theorem wrap64 (a : Int) (h : isW a) : IntKind.u64.wrap a = a := by rw [IntKind.wrap_u64]; have := h.1; have := h.2; omega

theorem mul64 (x y : Int) (hx : isW x) (hy : isW y) :
    ∃ hi lo : Int, isW hi ∧ isW lo ∧ lo + 18446744073709551616 * hi = x * y ∧ ∀ w, Calls Try.prog 63 #[.int .u64 x, .int .u64 y] w (fun e w' => e = .returned (.tuple #[.int .u64 hi, .int .u64 lo]) ∧ w' = w) := by
  obtain ⟨X, rfl⟩ := Int.eq_ofNat_of_zero_le hx.1
  obtain ⟨Y, rfl⟩ := Int.eq_ofNat_of_zero_le hy.1
  have hX : X < 18446744073709551616 := by have := hx.2; omega
  have hY : Y < 18446744073709551616 := by have := hy.2; omega
  have hXY : X * Y < 18446744073709551616 * 18446744073709551616 := Nat.mul_lt_mul'' hX hY
  refine ⟨((X * Y / 18446744073709551616 : Nat) : Int), ((X * Y % 18446744073709551616 : Nat) : Int), ⟨by omega, by omega⟩, ⟨by omega, by omega⟩, ?_, fun w => ?_⟩
  · rw [← Int.natCast_mul]; omega
  obtain ⟨bd, bt, bw, hhi⟩ := Lib.mul64_hi X Y hX hY
  have ba := Lib.half_mul_le (a := X / 4294967296) (b := Y / 4294967296) (by omega) (by omega)
  have bb := Lib.half_mul_le (a := X / 4294967296) (b := Y % 4294967296) (by omega) (by omega)
  have bc := Lib.half_mul_le (a := X % 4294967296) (b := Y / 4294967296) (by omega) (by omega)
  have ba' : X / 4294967296 * (Y / 4294967296) < 18446744073709551616 := by omega
  have bb' : X / 4294967296 * (Y % 4294967296) < 18446744073709551616 := by omega
  have bc' : X % 4294967296 * (Y / 4294967296) < 18446744073709551616 := by omega
  have bh1 : X / 4294967296 * (Y / 4294967296) + (X / 4294967296 * (Y % 4294967296) + X % 4294967296 * (Y % 4294967296) / 4294967296) / 4294967296 < 18446744073709551616 := by omega
  have bh : X / 4294967296 * (Y / 4294967296) + (X / 4294967296 * (Y % 4294967296) + X % 4294967296 * (Y % 4294967296) / 4294967296) / 4294967296 + ((X / 4294967296 * (Y % 4294967296) + X % 4294967296 * (Y % 4294967296) / 4294967296) % 4294967296 + X % 4294967296 * (Y / 4294967296)) / 4294967296 < 18446744073709551616 := by omega
  go_enter Try.func63, Try.ntmps63
  go_wp2
  simp only [Mul64.maskN X hX, Mul64.maskN Y hY, Mul64.divN, Mul64.mulN, Mul64.addN, Mul64.wrapN _ bd, Mul64.wrapN _ bb', Mul64.wrapN _ bt, Mul64.maskN _ bt, Mul64.wrapN _ bc', Mul64.wrapN _ bw, Mul64.wrapN _ ba', Mul64.wrapN _ bh1, Mul64.wrapN _ bh, Mul64.wrapM (X * Y)]
  rw [hhi]
  go_ret2
  exact ⟨rfl, rfl⟩

theorem zero_isW : isW 0 := ⟨by decide, by decide⟩
theorem mulAdd (x y a b : Int) (hx : isW x) (hy : isW y) (ha : isW a) (hb : isW b) :
    ∃ lo hi : Int, isW lo ∧ isW hi ∧ lo + 18446744073709551616 * hi = x * y + a + b ∧ ∀ w, Calls Try.prog 56 #[.int .u64 x, .int .u64 y, .int .u64 a, .int .u64 b] w (fun e w' => e = .returned (.tuple #[.int .u64 lo, .int .u64 hi]) ∧ w' = w) := by
  obtain ⟨h0, l0, wh0, wl0, e0, c0⟩ := mul64 x y hx hy
  obtain ⟨l1, k1, wl1, wk1, e1, c1⟩ := add64 l0 a 0 wl0 ha (by decide)
  obtain ⟨l2, k2, wl2, wk2, e2, c2⟩ := add64 l1 b 0 wl1 hb (by decide)
  have hm : x * y ≤ 18446744073709551615 * 18446744073709551615 := Int.mul_le_mul (by have := hx.2; omega) (by have := hy.2; omega) hy.1 (by decide)
  have hn : 0 ≤ x * y := Int.mul_nonneg hx.1 hy.1
  generalize x * y = xy at *
  unfold isW at *
  have w1 := wrap64 (h0 + k1) (by unfold isW; omega)
  have w2 := wrap64 (h0 + k1 + k2) (by unfold isW; omega)
  refine ⟨l2, h0 + k1 + k2, wl2, by omega, by omega, fun w => ?_⟩
  have C0 := Lib.hid c0
  clear c0 hm hn hx hy ha hb wh0 wl0 wl1 wl2 wk1 wk2 e0 e1 e2
  go_enter Try.func56, Try.ntmps56
  go_wp2_with (go_at_call 63; (with_reducible refine (C0.out _).mono ?_); rintro e w' ⟨rfl, rfl⟩)
  go_ret2
  exact ⟨rfl, rfl⟩
end Go.Proofs.Ytaojnmjmmfdfjaa.Field
