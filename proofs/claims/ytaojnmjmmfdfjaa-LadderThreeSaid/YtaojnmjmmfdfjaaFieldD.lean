/- The product of two numbers below the prime. -/
import Derived.Test.YtaojnmjmmfdfjaaFieldC
namespace Go.Proofs.Ytaojnmjmmfdfjaa.Field
open Go Go.RowKit
open Go.Proofs.Ytaojnmjmmfdfjaa.Rely
set_option linter.unusedVariables false

theorem mul_sum (x0 x1 x2 x3 y0 y1 y2 y3 : Int) : val x0 x1 x2 x3 * val y0 y1 y2 y3 = (x0 * y0) + 18446744073709551616 * (x0 * y1) + 340282366920938463463374607431768211456 * (x0 * y2) + 6277101735386680763835789423207666416102355444464034512896 * (x0 * y3) + 18446744073709551616 * (x1 * y0) + 340282366920938463463374607431768211456 * (x1 * y1) + 6277101735386680763835789423207666416102355444464034512896 * (x1 * y2) + 115792089237316195423570985008687907853269984665640564039457584007913129639936 * (x1 * y3) + 340282366920938463463374607431768211456 * (x2 * y0) + 6277101735386680763835789423207666416102355444464034512896 * (x2 * y1) + 115792089237316195423570985008687907853269984665640564039457584007913129639936 * (x2 * y2) + 2135987035920910082395021706169552114602704522356652769947041607822219725780640550022962086936576 * (x2 * y3) + 6277101735386680763835789423207666416102355444464034512896 * (x3 * y0) + 115792089237316195423570985008687907853269984665640564039457584007913129639936 * (x3 * y1) + 2135987035920910082395021706169552114602704522356652769947041607822219725780640550022962086936576 * (x3 * y2) + 39402006196394479212279040100143613805079739270465446667948293404245721771497210611414266254884915640806627990306816 * (x3 * y3) := by
  unfold val
  grind

theorem mul_rows (p00 p01 p02 p03 p10 p11 p12 p13 p20 p21 p22 p23 p30 p31 p32 p33 l00 h00 l01 h01 l02 h02 l03 h03 l10 h10 l11 h11 l12 h12 l13 h13 l20 h20 l21 h21 l22 h22 l23 h23 l30 h30 l31 h31 l32 h32 l33 h33 : Int) (q00 : l00 + 18446744073709551616 * h00 = p00 + 0 + 0) (q01 : l01 + 18446744073709551616 * h01 = p01 + 0 + h00) (q02 : l02 + 18446744073709551616 * h02 = p02 + 0 + h01) (q03 : l03 + 18446744073709551616 * h03 = p03 + 0 + h02) (q10 : l10 + 18446744073709551616 * h10 = p10 + l01 + 0) (q11 : l11 + 18446744073709551616 * h11 = p11 + l02 + h10) (q12 : l12 + 18446744073709551616 * h12 = p12 + l03 + h11) (q13 : l13 + 18446744073709551616 * h13 = p13 + h03 + h12) (q20 : l20 + 18446744073709551616 * h20 = p20 + l11 + 0) (q21 : l21 + 18446744073709551616 * h21 = p21 + l12 + h20) (q22 : l22 + 18446744073709551616 * h22 = p22 + l13 + h21) (q23 : l23 + 18446744073709551616 * h23 = p23 + h13 + h22) (q30 : l30 + 18446744073709551616 * h30 = p30 + l21 + 0) (q31 : l31 + 18446744073709551616 * h31 = p31 + l22 + h30) (q32 : l32 + 18446744073709551616 * h32 = p32 + l23 + h31) (q33 : l33 + 18446744073709551616 * h33 = p33 + h23 + h32) :
    l00 + 18446744073709551616 * l10 + 340282366920938463463374607431768211456 * l20 + 6277101735386680763835789423207666416102355444464034512896 * l30 + 115792089237316195423570985008687907853269984665640564039457584007913129639936 * l31 + 2135987035920910082395021706169552114602704522356652769947041607822219725780640550022962086936576 * l32 + 39402006196394479212279040100143613805079739270465446667948293404245721771497210611414266254884915640806627990306816 * l33 + 726838724295606890549323807888004534353641360687318060281490199180639288113397923326191050713763565560762521606266177933534601628614656 * h33 = p00 + 18446744073709551616 * p01 + 340282366920938463463374607431768211456 * p02 + 6277101735386680763835789423207666416102355444464034512896 * p03 + 18446744073709551616 * p10 + 340282366920938463463374607431768211456 * p11 + 6277101735386680763835789423207666416102355444464034512896 * p12 + 115792089237316195423570985008687907853269984665640564039457584007913129639936 * p13 + 340282366920938463463374607431768211456 * p20 + 6277101735386680763835789423207666416102355444464034512896 * p21 + 115792089237316195423570985008687907853269984665640564039457584007913129639936 * p22 + 2135987035920910082395021706169552114602704522356652769947041607822219725780640550022962086936576 * p23 + 6277101735386680763835789423207666416102355444464034512896 * p30 + 115792089237316195423570985008687907853269984665640564039457584007913129639936 * p31 + 2135987035920910082395021706169552114602704522356652769947041607822219725780640550022962086936576 * p32 + 39402006196394479212279040100143613805079739270465446667948293404245721771497210611414266254884915640806627990306816 * p33 := by omega

theorem mul_fold (w0 w1 w2 w3 w4 w5 w6 w7 r0 r1 r2 r3 k0 k1 k2 k3 v0 v1 v2 c0 c1 c2 Z : Int) (hr3 : isW r3) (hz : w0 + 18446744073709551616 * w1 + 340282366920938463463374607431768211456 * w2 + 6277101735386680763835789423207666416102355444464034512896 * w3 + 115792089237316195423570985008687907853269984665640564039457584007913129639936 * w4 + 2135987035920910082395021706169552114602704522356652769947041607822219725780640550022962086936576 * w5 + 39402006196394479212279040100143613805079739270465446667948293404245721771497210611414266254884915640806627990306816 * w6 + 726838724295606890549323807888004534353641360687318060281490199180639288113397923326191050713763565560762521606266177933534601628614656 * w7 = Z)
    (g0 : r0 + 18446744073709551616 * k0 = w4 * 38 + w0 + 0) (g1 : r1 + 18446744073709551616 * k1 = w5 * 38 + w1 + k0) (g2 : r2 + 18446744073709551616 * k2 = w6 * 38 + w2 + k1) (g3 : r3 + 18446744073709551616 * k3 = w7 * 38 + w3 + k2)
    (f0 : v0 + 18446744073709551616 * c0 = r0 + 19 * (2 * k3 + r3 / 9223372036854775808) + 0) (f1 : v1 + 18446744073709551616 * c1 = r1 + 0 + c0) (f2 : v2 + 18446744073709551616 * c2 = r2 + 0 + c1) :
    val v0 v1 v2 (r3 % 9223372036854775808 + c2) = Z - p * (2 * (w4 + 18446744073709551616 * w5 + 340282366920938463463374607431768211456 * w6 + 6277101735386680763835789423207666416102355444464034512896 * w7) + (2 * k3 + r3 / 9223372036854775808)) := by
  have e := Int.emod_add_mul_ediv r3 9223372036854775808
  unfold val p
  omega

theorem mul_small (r0 r1 r2 r3 k3 v0 v1 v2 c0 c1 c2 : Int) (h0 : isW r0) (h1 : isW r1) (h2 : isW r2) (h3 : isW r3) (hk : 0 ≤ k3 ∧ k3 ≤ 39)
    (f0 : v0 + 18446744073709551616 * c0 = r0 + 19 * (2 * k3 + r3 / 9223372036854775808) + 0) (f1 : v1 + 18446744073709551616 * c1 = r1 + 0 + c0) (f2 : v2 + 18446744073709551616 * c2 = r2 + 0 + c1) :
    val v0 v1 v2 (r3 % 9223372036854775808 + c2) < 2 * p := by
  unfold isW at *
  unfold val p
  omega
theorem k3_small (w7 w3 k2 r3 k3 : Int) (h1 : isW w7) (h2 : isW w3) (h3 : isW k2) (h4 : isW k3) (h5 : isW r3) (g3 : r3 + 18446744073709551616 * k3 = w7 * 38 + w3 + k2) : 0 ≤ k3 ∧ k3 ≤ 39 := by unfold isW at *; omega
theorem top_bit (r : Int) (h : isW r) : 0 ≤ r / 9223372036854775808 ∧ r / 9223372036854775808 ≤ 1 := by unfold isW at *; omega
theorem low_add (r c : Int) (h : isW r) (hc : 0 ≤ c ∧ c ≤ 1) : isW (r % 9223372036854775808 + c) := by unfold isW at *; omega
theorem or_bit (k t : Int) (hk : 0 ≤ k ∧ k ≤ 39) (ht : 0 ≤ t ∧ t ≤ 1) : bits .or .u64 (k * 2) t = 2 * k + t := by
  have h : ∀ a : Fin 40, ∀ b : Fin 2, bits .or .u64 ((a.val : Int) * 2) (b.val : Int) = 2 * (a.val : Int) + (b.val : Int) := by decide +kernel
  have := h ⟨k.toNat, by omega⟩ ⟨t.toNat, by omega⟩
  simpa [Int.toNat_of_nonneg hk.1, Int.toNat_of_nonneg ht.1] using this

set_option maxRecDepth 100000 in
set_option maxHeartbeats 4000000 in
theorem mul (a b : Int) (ha : isN a) (hb : isN b) (w : World) :
    Calls Try.prog 30 #[num a, num b] w (Ret w (num ((a * b) % p))) := by
  obtain ⟨x0, x1, x2, x3, wx0, wx1, wx2, wx3, ex, eX⟩ := num_open a ha
  obtain ⟨y0, y1, y2, y3, wy0, wy1, wy2, wy3, ey, eY⟩ := num_open b hb
  obtain ⟨l00, h00, wl00, wh00, q00, C00⟩ := mulAdd x0 y0 0 0 wx0 wy0 zero_isW zero_isW
  obtain ⟨l01, h01, wl01, wh01, q01, C01⟩ := mulAdd x0 y1 0 h00 wx0 wy1 zero_isW wh00
  obtain ⟨l02, h02, wl02, wh02, q02, C02⟩ := mulAdd x0 y2 0 h01 wx0 wy2 zero_isW wh01
  obtain ⟨l03, h03, wl03, wh03, q03, C03⟩ := mulAdd x0 y3 0 h02 wx0 wy3 zero_isW wh02
  obtain ⟨l10, h10, wl10, wh10, q10, C10⟩ := mulAdd x1 y0 l01 0 wx1 wy0 wl01 zero_isW
  obtain ⟨l11, h11, wl11, wh11, q11, C11⟩ := mulAdd x1 y1 l02 h10 wx1 wy1 wl02 wh10
  obtain ⟨l12, h12, wl12, wh12, q12, C12⟩ := mulAdd x1 y2 l03 h11 wx1 wy2 wl03 wh11
  obtain ⟨l13, h13, wl13, wh13, q13, C13⟩ := mulAdd x1 y3 h03 h12 wx1 wy3 wh03 wh12
  obtain ⟨l20, h20, wl20, wh20, q20, C20⟩ := mulAdd x2 y0 l11 0 wx2 wy0 wl11 zero_isW
  obtain ⟨l21, h21, wl21, wh21, q21, C21⟩ := mulAdd x2 y1 l12 h20 wx2 wy1 wl12 wh20
  obtain ⟨l22, h22, wl22, wh22, q22, C22⟩ := mulAdd x2 y2 l13 h21 wx2 wy2 wl13 wh21
  obtain ⟨l23, h23, wl23, wh23, q23, C23⟩ := mulAdd x2 y3 h13 h22 wx2 wy3 wh13 wh22
  obtain ⟨l30, h30, wl30, wh30, q30, C30⟩ := mulAdd x3 y0 l21 0 wx3 wy0 wl21 zero_isW
  obtain ⟨l31, h31, wl31, wh31, q31, C31⟩ := mulAdd x3 y1 l22 h30 wx3 wy1 wl22 wh30
  obtain ⟨l32, h32, wl32, wh32, q32, C32⟩ := mulAdd x3 y2 l23 h31 wx3 wy2 wl23 wh31
  obtain ⟨l33, h33, wl33, wh33, q33, C33⟩ := mulAdd x3 y3 h23 h32 wx3 wy3 wh23 wh32
  obtain ⟨r0, k0, wr0, wk0, g0, D0⟩ := mulAdd l31 38 l00 0 wl31 (by unfold isW; decide) wl00 zero_isW
  obtain ⟨r1, k1, wr1, wk1, g1, D1⟩ := mulAdd l32 38 l10 k0 wl32 (by unfold isW; decide) wl10 wk0
  obtain ⟨r2, k2, wr2, wk2, g2, D2⟩ := mulAdd l33 38 l20 k1 wl33 (by unfold isW; decide) wl20 wk1
  obtain ⟨r3, k3, wr3, wk3, g3, D3⟩ := mulAdd h33 38 l30 k2 wh33 (by unfold isW; decide) wl30 wk2
  have hk3 := k3_small h33 l30 k2 r3 k3 wh33 wl30 wk2 wk3 wr3 g3
  have ht := top_bit r3 wr3
  have ob := or_bit k3 (r3 / 9223372036854775808) hk3 ht
  have u1 := wrap64 (k3 * 2) (by unfold isW; omega)
  have u2 := wrap64 (19 * (2 * k3 + r3 / 9223372036854775808)) (by unfold isW; omega)
  obtain ⟨v0, c0, wv0, wc0, f0, s0⟩ := add64 r0 (19 * (2 * k3 + r3 / 9223372036854775808)) 0 wr0 (by unfold isW; omega) (by decide)
  obtain ⟨v1, c1, wv1, wc1, f1, s1⟩ := add64 r1 0 c0 wr1 zero_isW wc0
  obtain ⟨v2, c2, wv2, wc2, f2, s2⟩ := add64 r2 0 c1 wr2 zero_isW wc1
  have to := top_off r3 wr3
  have wv3 : isW (r3 % 9223372036854775808 + c2) := low_add r3 c2 wr3 wc2
  have u3 := wrap64 _ wv3
  have Z := (mul_rows (x0 * y0) (x0 * y1) (x0 * y2) (x0 * y3) (x1 * y0) (x1 * y1) (x1 * y2) (x1 * y3) (x2 * y0) (x2 * y1) (x2 * y2) (x2 * y3) (x3 * y0) (x3 * y1) (x3 * y2) (x3 * y3) l00 h00 l01 h01 l02 h02 l03 h03 l10 h10 l11 h11 l12 h12 l13 h13 l20 h20 l21 h21 l22 h22 l23 h23 l30 h30 l31 h31 l32 h32 l33 h33 q00 q01 q02 q03 q10 q11 q12 q13 q20 q21 q22 q23 q30 q31 q32 q33).trans (mul_sum x0 x1 x2 x3 y0 y1 y2 y3).symm
  rw [ex, ey] at Z
  have F := mul_fold l00 l10 l20 l30 l31 l32 l33 h33 r0 r1 r2 r3 k0 k1 k2 k3 v0 v1 v2 c0 c1 c2 _ wr3 Z g0 g1 g2 g3 f0 f1 f2
  have C : ∀ w, Calls Try.prog 50 #[.int .u64 v0, .int .u64 v1, .int .u64 v2, .int .u64 (r3 % 9223372036854775808 + c2)] w (Ret w (num ((a * b) % p))) := fun w => by
    have := reduced v0 v1 v2 (r3 % 9223372036854775808 + c2) wv0 wv1 wv2 wv3 (mul_small r0 r1 r2 r3 k3 v0 v1 v2 c0 c1 c2 wr0 wr1 wr2 wr3 hk3 f0 f1 f2) w
    rw [F, Int.sub_mul_emod_self_left] at this
    exact this
  clear F Z
  rw [eX, eY]
  generalize (a * b) % p = r at *
  have HC00 := Lib.hid C00
  have HC01 := Lib.hid C01
  have HC02 := Lib.hid C02
  have HC03 := Lib.hid C03
  have HC10 := Lib.hid C10
  have HC11 := Lib.hid C11
  have HC12 := Lib.hid C12
  have HC13 := Lib.hid C13
  have HC20 := Lib.hid C20
  have HC21 := Lib.hid C21
  have HC22 := Lib.hid C22
  have HC23 := Lib.hid C23
  have HC30 := Lib.hid C30
  have HC31 := Lib.hid C31
  have HC32 := Lib.hid C32
  have HC33 := Lib.hid C33
  have HD0 := Lib.hid D0
  have HD1 := Lib.hid D1
  have HD2 := Lib.hid D2
  have HD3 := Lib.hid D3
  have HC := Lib.hid C
  clear C C00 C01 C02 C03 C10 C11 C12 C13 C20 C21 C22 C23 C30 C31 C32 C33 D0 D1 D2 D3 q00 q01 q02 q03 q10 q11 q12 q13 q20 q21 q22 q23 q30 q31 q32 q33 g0 g1 g2 g3 f0 f1 f2 ex ey eX eY ha hb
  unfold words
  go_enter Try.func30, Try.ntmps30
  go_wp2_with first
    | (go_at_call 56
       first
         | (with_reducible refine (HC00.out _).mono ?_)
         | (with_reducible refine (HC01.out _).mono ?_)
         | (with_reducible refine (HC02.out _).mono ?_)
         | (with_reducible refine (HC03.out _).mono ?_)
         | (with_reducible refine (HC10.out _).mono ?_)
         | (with_reducible refine (HC11.out _).mono ?_)
         | (with_reducible refine (HC12.out _).mono ?_)
         | (with_reducible refine (HC13.out _).mono ?_)
         | (with_reducible refine (HC20.out _).mono ?_)
         | (with_reducible refine (HC21.out _).mono ?_)
         | (with_reducible refine (HC22.out _).mono ?_)
         | (with_reducible refine (HC23.out _).mono ?_)
         | (with_reducible refine (HC30.out _).mono ?_)
         | (with_reducible refine (HC31.out _).mono ?_)
         | (with_reducible refine (HC32.out _).mono ?_)
         | (with_reducible refine (HC33.out _).mono ?_)
         | (with_reducible refine (HD0.out _).mono ?_)
         | (with_reducible refine (HD1.out _).mono ?_)
         | (with_reducible refine (HD2.out _).mono ?_)
         | (with_reducible refine (HD3.out _).mono ?_)
       rintro e w' ⟨rfl, rfl⟩)
    | (go_at_call 50
       (with_reducible refine (HC.out _).mono ?_)
       rintro e w' ⟨rfl, hw⟩)
    | (with_reducible show wpList _ _ _ ((⟨_, .store 29 _ _, _, _, _, _⟩ : Oper) :: _) _ _
       refine wpList_store_row rfl 29 _ _ rfl (w.heap.size + 2) (numA r) rfl rfl 29 _ ((hw.block _ (by simp)).trans (alloc3_new _ _ _ _)) infoNum rfl (numA_one _) ?_)
  exact bodyPost_ret (results_num (t := 4) rfl rfl (setRow_heap _ _ _ _ _ _ ((hw.block _ (by simp)).trans (alloc3_new _ _ _ _)))) rfl ⟨rfl, below_setRow (Ext.trans (ext3 _ _ _ _) hw) (by omega) _⟩
end Go.Proofs.Ytaojnmjmmfdfjaa.Field
