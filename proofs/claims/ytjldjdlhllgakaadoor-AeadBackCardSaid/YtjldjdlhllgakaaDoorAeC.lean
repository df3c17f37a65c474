/- Poly1305: multiply. -/
import Derived.Test.YtjldjdlhllgakaaDoorAeB
import Derived.Laws.Externs
import Derived.Shelf.Spec.BitsCarry
import Derived.Shelf.Bits.Mul64
import Derived.Laws.Bits64b
namespace Go.Proofs.YtjldjdlhllgakaaDoor.Ae
open Go Go.RowKit
open Go.Proofs.YtjldjdlhllgakaaDoor.Rely Go.Proofs.YtjldjdlhllgakaaDoor.Auto Go.Proofs.YtjldjdlhllgakaaDoor.Own Go.Proofs.YtjldjdlhllgakaaDoor.Sha
set_option linter.unusedVariables false
set_option linter.unusedSimpArgs false

open Go.Proofs.YtjldjdlhllgakaaDoor.Sha Go.Proofs.YtjldjdlhllgakaaDoor.Cha
/-- what is beyond 130 bits counts five times -/
def mulV (v : Int) : Int := v % 1361129467683753853853498429727072845824 + 5 * (v / 1361129467683753853853498429727072845824)
theorem shr2 (q : Int) (h : isW q) : q.fdiv (2 ^ min (2 : Int).toNat IntKind.u64.bits) = q / 4 := by
  have e : (2 : Int) ^ min (2 : Int).toNat IntKind.u64.bits = 4 := by decide
  rw [e, Int.fdiv_eq_ediv_of_nonneg _ (by decide)]
theorem shl62 (q : Int) (h : isW q) : IntKind.u64.wrap (q * 2 ^ min (62 : Int).toNat IntKind.u64.bits) = q % 4 * 4611686018427387904 := by
  have e : (2 : Int) ^ min (62 : Int).toNat IntKind.u64.bits = 4611686018427387904 := by decide
  have h3 : ∀ z : Int, IntKind.u64.wrap z = z % 18446744073709551616 := fun _ => rfl
  rw [e, h3]
  obtain ⟨h1, h2⟩ := h
  omega
theorem or62 (q r : Int) (hq : isW q) (hr : isW r) : bits .or .u64 (q / 4) (r % 4 * 4611686018427387904) = q / 4 + r % 4 * 4611686018427387904 := by
  obtain ⟨q0, q1⟩ := hq
  obtain ⟨r0, r1⟩ := hr
  obtain ⟨A, hA⟩ := Int.eq_ofNat_of_zero_le (show 0 ≤ q / 4 by omega)
  obtain ⟨C, hC⟩ := Int.eq_ofNat_of_zero_le (show 0 ≤ r % 4 by omega)
  rw [hA, hC]
  have hA2 : A < 2 ^ 62 := by omega
  have hC2 : C < 4 := by omega
  have e : ((C : Nat) : Int) * 4611686018427387904 = ((C * 4611686018427387904 : Nat) : Int) := by rw [Int.natCast_mul]; rfl
  rw [e, bits_or_u64_nat A (C * 4611686018427387904) (by omega) (by omega)]
  have h := Nat.shiftLeft_add_eq_or_of_lt hA2 C
  rw [Nat.shiftLeft_eq] at h
  rw [Nat.or_comm, ← show C * 2 ^ 62 = C * 4611686018427387904 from rfl, ← h]
  rw [Int.natCast_add]; omega
theorem and3 (q : Int) (h : isW q) : bits .and .u64 q 3 = q % 4 := by
  obtain ⟨A, rfl⟩ := Int.eq_ofNat_of_zero_le h.1
  have h := bits_and_u64_nat A 3 (by have := h.2; omega) (by omega)
  have e : A &&& 3 = A % 4 := Nat.and_two_pow_sub_one_eq_mod A 2
  rw [e] at h
  exact h
theorem mul_fin {a0 a1 a2 a3 a4 a5 e0 e1 f0 f1 f2 f3 f4 f5 v : Int} (ha0 : isW a0) (ha1 : isW a1) (ha2 : isW a2) (ha3 : isW a3) (ha4 : isW a4) (ha5 : isW a5) (hf0 : isW f0) (hf1 : isW f1) (hf2 : isW f2) (hf3 : isW f3) (hf4 : isW f4) (hf5 : isW f5)
    (ha : (a0 + 18446744073709551616 * a1 + 340282366920938463463374607431768211456 * a2 + 6277101735386680763835789423207666416102355444464034512896 * a3 + 115792089237316195423570985008687907853269984665640564039457584007913129639936 * a4 + 2135987035920910082395021706169552114602704522356652769947041607822219725780640550022962086936576 * a5) = v) (hv : v < 115792089237316195423570985008687907853269984665640564039457584007913129639936) (h0 : e0 = a2 / 4 + a3 % 4 * 4611686018427387904) (h1 : e1 = a3 / 4)
    (hf : (f0 + 18446744073709551616 * f1 + 340282366920938463463374607431768211456 * f2 + 6277101735386680763835789423207666416102355444464034512896 * f3 + 115792089237316195423570985008687907853269984665640564039457584007913129639936 * f4 + 2135987035920910082395021706169552114602704522356652769947041607822219725780640550022962086936576 * f5) = (a0 + 18446744073709551616 * a1 + 340282366920938463463374607431768211456 * (a2 % 4)) + 5 * e0 + 18446744073709551616 * (5 * e1)) : f0 + 18446744073709551616 * f1 + 340282366920938463463374607431768211456 * f2 = mulV v := by
  obtain ⟨a0a, a0b⟩ := ha0
  obtain ⟨a1a, a1b⟩ := ha1
  obtain ⟨a2a, a2b⟩ := ha2
  obtain ⟨a3a, a3b⟩ := ha3
  obtain ⟨a4a, -⟩ := ha4
  obtain ⟨a5a, -⟩ := ha5
  obtain ⟨f0a, f0b⟩ := hf0
  obtain ⟨f1a, f1b⟩ := hf1
  obtain ⟨f2a, f2b⟩ := hf2
  obtain ⟨f3a, -⟩ := hf3
  obtain ⟨f4a, -⟩ := hf4
  obtain ⟨f5a, -⟩ := hf5
  have z5 : a5 = 0 := by omega
  have z4 : a4 = 0 := by omega
  subst z5 z4
  have e3 : v = a0 + 18446744073709551616 * a1 + 340282366920938463463374607431768211456 * (a2 % 4) + 1361129467683753853853498429727072845824 * (a2 / 4 + 4611686018427387904 * a3) := by omega
  have hl : 0 ≤ a0 + 18446744073709551616 * a1 + 340282366920938463463374607431768211456 * (a2 % 4) ∧ a0 + 18446744073709551616 * a1 + 340282366920938463463374607431768211456 * (a2 % 4) < 1361129467683753853853498429727072845824 := by omega
  have hm : v % 1361129467683753853853498429727072845824 = a0 + 18446744073709551616 * a1 + 340282366920938463463374607431768211456 * (a2 % 4) := by omega
  have hd : v / 1361129467683753853853498429727072845824 = a2 / 4 + 4611686018427387904 * a3 := by omega
  have he : e0 + 18446744073709551616 * e1 = a2 / 4 + 4611686018427387904 * a3 := by omega
  have hlt : a2 / 4 + 4611686018427387904 * a3 < 85070591730234615865843651857942052864 := by omega
  have hsum : (f0 + 18446744073709551616 * f1 + 340282366920938463463374607431768211456 * f2 + 6277101735386680763835789423207666416102355444464034512896 * f3 + 115792089237316195423570985008687907853269984665640564039457584007913129639936 * f4 + 2135987035920910082395021706169552114602704522356652769947041607822219725780640550022962086936576 * f5) < 2722258935367507707706996859454145691648 := by omega
  have y5 : f5 = 0 := by omega
  have y4 : f4 = 0 := by omega
  have y3 : f3 = 0 := by omega
  subst y5 y4 y3
  unfold mulV
  rw [hm, hd]
  omega
theorem mul_bound {a b : Int} (ha : 0 ≤ a) (hb : 0 ≤ b) (ha2 : a < 5444517870735015415413993718908291383296) (hb2 : b < 21267647932558653966460912964485513216) : a * b < 115792089237316195423570985008687907853269984665640564039457584007913129639936 := by
  have h1 : a * b ≤ a * 21267647932558653966460912964485513216 := Int.mul_le_mul_of_nonneg_left (by omega) ha
  omega
set_option maxRecDepth 100000 in
set_option maxHeartbeats 4000000 in
theorem mulW (m0_ m1_ m2_ n0_ n1_ n2_ va vb : Int) (hm0_ : isW m0_) (hm1_ : isW m1_) (hm2_ : isW m2_) (hn0_ : isW n0_) (hn1_ : isW n1_) (hn2_ : isW n2_) (hva : (m0_ + 18446744073709551616 * m1_ + 340282366920938463463374607431768211456 * m2_) = va) (hvb : (n0_ + 18446744073709551616 * n1_ + 340282366920938463463374607431768211456 * n2_) = vb) (hal : va < 5444517870735015415413993718908291383296) (hbl : vb < 21267647932558653966460912964485513216) (w : World) :
    Calls Tryd.prog 47 #[.agg (ints .u64 [m0_, m1_, m2_]), .agg (ints .u64 [n0_, n1_, n2_])] w (Ret w (.agg (ints .u64 (nw3 (mulV (va * vb)))))) := by
  obtain ⟨p00, ep00⟩ : ∃ z, z = m0_ * n0_ := ⟨_, rfl⟩
  have hp00 : 0 ≤ p00 := by rw [ep00]; exact Int.mul_nonneg hm0_.1 hn0_.1
  obtain ⟨p01, ep01⟩ : ∃ z, z = m0_ * n1_ := ⟨_, rfl⟩
  have hp01 : 0 ≤ p01 := by rw [ep01]; exact Int.mul_nonneg hm0_.1 hn1_.1
  obtain ⟨p02, ep02⟩ : ∃ z, z = m0_ * n2_ := ⟨_, rfl⟩
  have hp02 : 0 ≤ p02 := by rw [ep02]; exact Int.mul_nonneg hm0_.1 hn2_.1
  obtain ⟨p10, ep10⟩ : ∃ z, z = m1_ * n0_ := ⟨_, rfl⟩
  have hp10 : 0 ≤ p10 := by rw [ep10]; exact Int.mul_nonneg hm1_.1 hn0_.1
  obtain ⟨p11, ep11⟩ : ∃ z, z = m1_ * n1_ := ⟨_, rfl⟩
  have hp11 : 0 ≤ p11 := by rw [ep11]; exact Int.mul_nonneg hm1_.1 hn1_.1
  obtain ⟨p12, ep12⟩ : ∃ z, z = m1_ * n2_ := ⟨_, rfl⟩
  have hp12 : 0 ≤ p12 := by rw [ep12]; exact Int.mul_nonneg hm1_.1 hn2_.1
  obtain ⟨p20, ep20⟩ : ∃ z, z = m2_ * n0_ := ⟨_, rfl⟩
  have hp20 : 0 ≤ p20 := by rw [ep20]; exact Int.mul_nonneg hm2_.1 hn0_.1
  obtain ⟨p21, ep21⟩ : ∃ z, z = m2_ * n1_ := ⟨_, rfl⟩
  have hp21 : 0 ≤ p21 := by rw [ep21]; exact Int.mul_nonneg hm2_.1 hn1_.1
  obtain ⟨p22, ep22⟩ : ∃ z, z = m2_ * n2_ := ⟨_, rfl⟩
  have hp22 : 0 ≤ p22 := by rw [ep22]; exact Int.mul_nonneg hm2_.1 hn2_.1
  have hT : 1 * p00 + 18446744073709551616 * p01 + 340282366920938463463374607431768211456 * p02 + 18446744073709551616 * p10 + 340282366920938463463374607431768211456 * p11 + 6277101735386680763835789423207666416102355444464034512896 * p12 + 340282366920938463463374607431768211456 * p20 + 6277101735386680763835789423207666416102355444464034512896 * p21 + 115792089237316195423570985008687907853269984665640564039457584007913129639936 * p22 = va * vb := by rw [ep00, ep01, ep02, ep10, ep11, ep12, ep20, ep21, ep22, ← hva, ← hvb]; grind
  have hTl : 1 * p00 + 18446744073709551616 * p01 + 340282366920938463463374607431768211456 * p02 + 18446744073709551616 * p10 + 340282366920938463463374607431768211456 * p11 + 6277101735386680763835789423207666416102355444464034512896 * p12 + 340282366920938463463374607431768211456 * p20 + 6277101735386680763835789423207666416102355444464034512896 * p21 + 115792089237316195423570985008687907853269984665640564039457584007913129639936 * p22 < 115792089237316195423570985008687907853269984665640564039457584007913129639936 := by
    rw [hT]
    obtain ⟨a0, a1⟩ := id hm0_; obtain ⟨a2, a3⟩ := id hm1_; obtain ⟨a4, a5⟩ := id hm2_; obtain ⟨c0, c1⟩ := id hn0_; obtain ⟨c2, c3⟩ := id hn1_; obtain ⟨c4, c5⟩ := id hn2_
    exact mul_bound (by omega) (by omega) hal hbl
  refine enter 70 [(0, .agg (ints .u64 ([m0_, m1_, m2_]))), (1, .agg (ints .u64 ([n0_, n1_, n2_])))] Tryd.func47 rfl rfl kj rfl ?_
  refine wp_seq_k fun K1 hK1 => ?_
  refine region_lit ?_
  refine seq_alloc (ints .u64 ([m0_, m1_, m2_])) 66 2 rfl kj kj fun g2 W1 l2 e1 r2_1 => ?_
  have x1 : Ext w W1 := Ext.tr (Rely.Ext.refl w) e1
  have b2 : w.heap.size ≤ g2 := Nat.le_trans (Rely.Ext.refl w).size l2
  refine seq_alloc (ints .u64 ([n0_, n1_, n2_])) 66 3 rfl kj kj fun g3 W2 l3 e2 r3_2 => ?_
  have x2 : Ext w W2 := Ext.tr x1 e2
  have b3 : w.heap.size ≤ g3 := Nat.le_trans x1.size l3
  refine seq_alloc (ints .u64 ([0, 0, 0])) 66 4 rfl kj kj fun g4 W3 l4 e3 r4_3 => ?_
  have x3 : Ext w W3 := Ext.tr x2 e3
  have b4 : w.heap.size ≤ g4 := Nat.le_trans x2.size l4
  refine seq_nil ?_
  refine hK1 _ _ ?_
  try clear hK1 K1
  refine wp_seq_k fun K5 hK5 => ?_
  refine region_lit ?_
  refine seq_alloc (ints .u64 ([0, 0, 0, 0, 0, 0])) 94 5 rfl kj kj fun g6 W4 l6 e4 r6_4 => ?_
  have x4 : Ext w W4 := Ext.tr x3 e4
  have b6 : w.heap.size ≤ g6 := Nat.le_trans x3.size l6
  refine seq_nil ?_
  refine hK5 _ _ ?_
  try clear hK5 K5
  refine wp_seq_k fun K7 hK7 => ?_
  refine region_lit ?_
  refine seq_val (.func (.func 55) #[] #[.pointer (some ⟨g6, 0, none⟩)]) 14 rfl kj kj ?_
  refine seq_val (.func (.func 55) #[] #[.pointer (some ⟨g6, 0, none⟩)]) 6 rfl kj kj ?_
  refine seq_nil ?_
  refine hK7 _ _ ?_
  try clear hK7 K7
  refine wp_seq_k fun K8 hK8 => ?_
  refine wp_seq_k fun K9 hK9 => ?_
  refine region_lit ?_
  have r2_2 := (row_ext r2_1 e2)
  have r2_3 := (row_ext r2_2 e3)
  have r2_4 := (row_ext r2_3 e4)
  refine seq_val (.agg (ints .u64 ([m0_, m1_, m2_]))) 15 rfl kj (run_load_row 66 _ g2 66 _ _ r2_4 rfl kj kj (isz (n := 3) kj kj)) ?_
  refine seq_val (.int .i64 0) 16 rfl kj kj ?_
  refine seq_nil ?_
  refine hK9 _ _ ?_
  try clear hK9 K9
  refine wp_block ?_
  refine wp_loop_rounds 4 ?_
  show Code.wp _ _ (Exit.then (Code.rounds _ _ _ 3) _) _ _
  refine wp_seq_k fun K10 hK10 => ?_
  refine region_lit ?_
  refine seq_val (.bool true) 17 rfl kj kj ?_
  refine seq_nil ?_
  refine hK10 _ _ ?_
  try clear hK10 K10
  refine wp_seq_k fun K11 hK11 => ?_
  refine cond_true kj ?_
  refine wp_skip ?_
  refine hK11 _ _ ?_
  try clear hK11 K11
  refine wp_seq_k fun K12 hK12 => ?_
  refine wp_block ?_
  refine wp_seq_k fun K13 hK13 => ?_
  refine region_lit ?_
  refine seq_val (.int .i64 0) 18 rfl kj kj ?_
  refine seq_val (.int .u64 m0_) 19 rfl kj (run_index_il 66 _ _ .i64 .u64 ([m0_, m1_, m2_]) 0 3 64 m0_ rfl kj kj kj kj kj rfl (by decide) rfl) ?_
  refine seq_val (.int .i64 0) 7 rfl kj kj ?_
  refine seq_val (.int .u64 m0_) 8 rfl kj kj ?_
  refine seq_nil ?_
  refine hK13 _ _ ?_
  try clear hK13 K13
  refine wp_seq_k fun K14 hK14 => ?_
  refine region_lit ?_
  have r3_3 := (row_ext r3_2 e3)
  have r3_4 := (row_ext r3_3 e4)
  refine seq_val (.agg (ints .u64 ([n0_, n1_, n2_]))) 20 rfl kj (run_load_row 66 _ g3 66 _ _ r3_4 rfl kj kj (isz (n := 3) kj kj)) ?_
  refine seq_val (.int .i64 0) 21 rfl kj kj ?_
  refine seq_nil ?_
  refine hK14 _ _ ?_
  try clear hK14 K14
  refine wp_block ?_
  refine wp_loop_rounds 4 ?_
  show Code.wp _ _ (Exit.then (Code.rounds _ _ _ 3) _) _ _
  refine wp_seq_k fun K15 hK15 => ?_
  refine region_lit ?_
  refine seq_val (.bool true) 22 rfl kj kj ?_
  refine seq_nil ?_
  refine hK15 _ _ ?_
  try clear hK15 K15
  refine wp_seq_k fun K16 hK16 => ?_
  refine cond_true kj ?_
  refine wp_skip ?_
  refine hK16 _ _ ?_
  try clear hK16 K16
  refine wp_seq_k fun K17 hK17 => ?_
  refine wp_block ?_
  refine wp_seq_k fun K18 hK18 => ?_
  refine region_lit ?_
  refine seq_val (.int .i64 0) 23 rfl kj kj ?_
  refine seq_val (.int .u64 n0_) 24 rfl kj (run_index_il 66 _ _ .i64 .u64 ([n0_, n1_, n2_]) 0 3 64 n0_ rfl kj kj kj kj kj rfl (by decide) rfl) ?_
  refine seq_val (.int .i64 0) 9 rfl kj kj ?_
  refine seq_val (.int .u64 n0_) 10 rfl kj kj ?_
  refine seq_nil ?_
  refine hK18 _ _ ?_
  try clear hK18 K18
  refine region_lit ?_
  refine seq_val (.func (.func 55) #[] #[.pointer (some ⟨g6, 0, none⟩)]) 25 rfl kj kj ?_
  refine seq_val (.int .i64 0) 26 rfl kj kj ?_
  refine seq_val (.int .i64 0) 27 rfl kj kj ?_
  refine seq_val (.int .i64 0) 28 rfl kj kj ?_
  refine seq_val (.int .u64 m0_) 29 rfl kj kj ?_
  refine seq_val (.int .u64 n0_) 30 rfl kj kj ?_
  refine seq_callR (fun v W' => v = .tuple #[] ∧ ∃ r0 r1 r2 r3 r4 r5 : Int, isW r0 ∧ isW r1 ∧ isW r2 ∧ isW r3 ∧ isW r4 ∧ isW r5 ∧ (r0 + 18446744073709551616 * r1 + 340282366920938463463374607431768211456 * r2 + 6277101735386680763835789423207666416102355444464034512896 * r3 + 115792089237316195423570985008687907853269984665640564039457584007913129639936 * r4 + 2135987035920910082395021706169552114602704522356652769947041607822219725780640550022962086936576 * r5) = (0 + 18446744073709551616 * 0 + 340282366920938463463374607431768211456 * 0 + 6277101735386680763835789423207666416102355444464034512896 * 0 + 115792089237316195423570985008687907853269984665640564039457584007913129639936 * 0 + 2135987035920910082395021706169552114602704522356652769947041607822219725780640550022962086936576 * 0) + 1 * p00 ∧ ExtB g6 W4 W' ∧ W'.heap[g6]? = some (.cells (ints .u64 [r0, r1, r2, r3, r4, r5]) 94)) 55 #[.int .i64 0, .int .u64 m0_, .int .u64 n0_, .pointer (some ⟨g6, 0, none⟩)] 31 rfl kj kj ((madd_0 g6 0 0 0 0 0 0 m0_ n0_ p00 zero_isW zero_isW zero_isW zero_isW zero_isW zero_isW hm0_ hn0_ ep00.symm (by omega) _ r6_4).mono fun e w' h => ⟨_, h.1, rfl, h.2⟩) fun v W5 h => ?_
  obtain ⟨rfl, z1w0, z1w1, z1w2, z1w3, z1w4, z1w5, hz1w0, hz1w1, hz1w2, hz1w3, hz1w4, hz1w5, hV1, q5, r6_5⟩ := h
  have x5 : Ext w W5 := ExtB.up x4 q5 b6
  have hS1 : (z1w0 + 18446744073709551616 * z1w1 + 340282366920938463463374607431768211456 * z1w2 + 6277101735386680763835789423207666416102355444464034512896 * z1w3 + 115792089237316195423570985008687907853269984665640564039457584007913129639936 * z1w4 + 2135987035920910082395021706169552114602704522356652769947041607822219725780640550022962086936576 * z1w5) = 1 * p00 := by omega
  refine seq_nil ?_
  refine hK17 _ _ ?_
  try clear hK17 K17
  refine region_lit ?_
  refine seq_val (.int .i64 1) 32 rfl kj kj ?_
  refine seq_val (.int .i64 1) 21 rfl kj kj ?_
  refine seq_nil ?_
  show Code.rounds _ _ _ 3 _ _
  show Code.wp _ _ (Exit.then (Code.rounds _ _ _ 2) _) _ _
  refine wp_seq_k fun K19 hK19 => ?_
  refine region_lit ?_
  refine seq_val (.bool true) 22 rfl kj kj ?_
  refine seq_nil ?_
  refine hK19 _ _ ?_
  try clear hK19 K19
  refine wp_seq_k fun K20 hK20 => ?_
  refine cond_true kj ?_
  refine wp_skip ?_
  refine hK20 _ _ ?_
  try clear hK20 K20
  refine wp_seq_k fun K21 hK21 => ?_
  refine wp_block ?_
  refine wp_seq_k fun K22 hK22 => ?_
  refine region_lit ?_
  refine seq_val (.int .i64 1) 23 rfl kj kj ?_
  refine seq_val (.int .u64 n1_) 24 rfl kj (run_index_il 66 _ _ .i64 .u64 ([n0_, n1_, n2_]) 1 3 64 n1_ rfl kj kj kj kj kj rfl (by decide) rfl) ?_
  refine seq_val (.int .i64 1) 9 rfl kj kj ?_
  refine seq_val (.int .u64 n1_) 10 rfl kj kj ?_
  refine seq_nil ?_
  refine hK22 _ _ ?_
  try clear hK22 K22
  refine region_lit ?_
  refine seq_val (.func (.func 55) #[] #[.pointer (some ⟨g6, 0, none⟩)]) 25 rfl kj kj ?_
  refine seq_val (.int .i64 0) 26 rfl kj kj ?_
  refine seq_val (.int .i64 1) 27 rfl kj kj ?_
  refine seq_val (.int .i64 1) 28 rfl kj kj ?_
  refine seq_val (.int .u64 m0_) 29 rfl kj kj ?_
  refine seq_val (.int .u64 n1_) 30 rfl kj kj ?_
  refine seq_callR (fun v W' => v = .tuple #[] ∧ ∃ r0 r1 r2 r3 r4 r5 : Int, isW r0 ∧ isW r1 ∧ isW r2 ∧ isW r3 ∧ isW r4 ∧ isW r5 ∧ (r0 + 18446744073709551616 * r1 + 340282366920938463463374607431768211456 * r2 + 6277101735386680763835789423207666416102355444464034512896 * r3 + 115792089237316195423570985008687907853269984665640564039457584007913129639936 * r4 + 2135987035920910082395021706169552114602704522356652769947041607822219725780640550022962086936576 * r5) = (z1w0 + 18446744073709551616 * z1w1 + 340282366920938463463374607431768211456 * z1w2 + 6277101735386680763835789423207666416102355444464034512896 * z1w3 + 115792089237316195423570985008687907853269984665640564039457584007913129639936 * z1w4 + 2135987035920910082395021706169552114602704522356652769947041607822219725780640550022962086936576 * z1w5) + 18446744073709551616 * p01 ∧ ExtB g6 W5 W' ∧ W'.heap[g6]? = some (.cells (ints .u64 [r0, r1, r2, r3, r4, r5]) 94)) 55 #[.int .i64 1, .int .u64 m0_, .int .u64 n1_, .pointer (some ⟨g6, 0, none⟩)] 31 rfl kj kj ((madd_1 g6 z1w0 z1w1 z1w2 z1w3 z1w4 z1w5 m0_ n1_ p01 hz1w0 hz1w1 hz1w2 hz1w3 hz1w4 hz1w5 hm0_ hn1_ ep01.symm (by rw [hS1]; omega) _ r6_5).mono fun e w' h => ⟨_, h.1, rfl, h.2⟩) fun v W6 h => ?_
  obtain ⟨rfl, z2w0, z2w1, z2w2, z2w3, z2w4, z2w5, hz2w0, hz2w1, hz2w2, hz2w3, hz2w4, hz2w5, hV2, q6, r6_6⟩ := h
  have x6 : Ext w W6 := ExtB.up x5 q6 b6
  have hS2 : (z2w0 + 18446744073709551616 * z2w1 + 340282366920938463463374607431768211456 * z2w2 + 6277101735386680763835789423207666416102355444464034512896 * z2w3 + 115792089237316195423570985008687907853269984665640564039457584007913129639936 * z2w4 + 2135987035920910082395021706169552114602704522356652769947041607822219725780640550022962086936576 * z2w5) = 1 * p00 + 18446744073709551616 * p01 := by omega
  refine seq_nil ?_
  refine hK21 _ _ ?_
  try clear hK21 K21
  refine region_lit ?_
  refine seq_val (.int .i64 2) 32 rfl kj kj ?_
  refine seq_val (.int .i64 2) 21 rfl kj kj ?_
  refine seq_nil ?_
  show Code.rounds _ _ _ 2 _ _
  show Code.wp _ _ (Exit.then (Code.rounds _ _ _ 1) _) _ _
  refine wp_seq_k fun K23 hK23 => ?_
  refine region_lit ?_
  refine seq_val (.bool true) 22 rfl kj kj ?_
  refine seq_nil ?_
  refine hK23 _ _ ?_
  try clear hK23 K23
  refine wp_seq_k fun K24 hK24 => ?_
  refine cond_true kj ?_
  refine wp_skip ?_
  refine hK24 _ _ ?_
  try clear hK24 K24
  refine wp_seq_k fun K25 hK25 => ?_
  refine wp_block ?_
  refine wp_seq_k fun K26 hK26 => ?_
  refine region_lit ?_
  refine seq_val (.int .i64 2) 23 rfl kj kj ?_
  refine seq_val (.int .u64 n2_) 24 rfl kj (run_index_il 66 _ _ .i64 .u64 ([n0_, n1_, n2_]) 2 3 64 n2_ rfl kj kj kj kj kj rfl (by decide) rfl) ?_
  refine seq_val (.int .i64 2) 9 rfl kj kj ?_
  refine seq_val (.int .u64 n2_) 10 rfl kj kj ?_
  refine seq_nil ?_
  refine hK26 _ _ ?_
  try clear hK26 K26
  refine region_lit ?_
  refine seq_val (.func (.func 55) #[] #[.pointer (some ⟨g6, 0, none⟩)]) 25 rfl kj kj ?_
  refine seq_val (.int .i64 0) 26 rfl kj kj ?_
  refine seq_val (.int .i64 2) 27 rfl kj kj ?_
  refine seq_val (.int .i64 2) 28 rfl kj kj ?_
  refine seq_val (.int .u64 m0_) 29 rfl kj kj ?_
  refine seq_val (.int .u64 n2_) 30 rfl kj kj ?_
  refine seq_callR (fun v W' => v = .tuple #[] ∧ ∃ r0 r1 r2 r3 r4 r5 : Int, isW r0 ∧ isW r1 ∧ isW r2 ∧ isW r3 ∧ isW r4 ∧ isW r5 ∧ (r0 + 18446744073709551616 * r1 + 340282366920938463463374607431768211456 * r2 + 6277101735386680763835789423207666416102355444464034512896 * r3 + 115792089237316195423570985008687907853269984665640564039457584007913129639936 * r4 + 2135987035920910082395021706169552114602704522356652769947041607822219725780640550022962086936576 * r5) = (z2w0 + 18446744073709551616 * z2w1 + 340282366920938463463374607431768211456 * z2w2 + 6277101735386680763835789423207666416102355444464034512896 * z2w3 + 115792089237316195423570985008687907853269984665640564039457584007913129639936 * z2w4 + 2135987035920910082395021706169552114602704522356652769947041607822219725780640550022962086936576 * z2w5) + 340282366920938463463374607431768211456 * p02 ∧ ExtB g6 W6 W' ∧ W'.heap[g6]? = some (.cells (ints .u64 [r0, r1, r2, r3, r4, r5]) 94)) 55 #[.int .i64 2, .int .u64 m0_, .int .u64 n2_, .pointer (some ⟨g6, 0, none⟩)] 31 rfl kj kj ((madd_2 g6 z2w0 z2w1 z2w2 z2w3 z2w4 z2w5 m0_ n2_ p02 hz2w0 hz2w1 hz2w2 hz2w3 hz2w4 hz2w5 hm0_ hn2_ ep02.symm (by rw [hS2]; omega) _ r6_6).mono fun e w' h => ⟨_, h.1, rfl, h.2⟩) fun v W7 h => ?_
  obtain ⟨rfl, z3w0, z3w1, z3w2, z3w3, z3w4, z3w5, hz3w0, hz3w1, hz3w2, hz3w3, hz3w4, hz3w5, hV3, q7, r6_7⟩ := h
  have x7 : Ext w W7 := ExtB.up x6 q7 b6
  have hS3 : (z3w0 + 18446744073709551616 * z3w1 + 340282366920938463463374607431768211456 * z3w2 + 6277101735386680763835789423207666416102355444464034512896 * z3w3 + 115792089237316195423570985008687907853269984665640564039457584007913129639936 * z3w4 + 2135987035920910082395021706169552114602704522356652769947041607822219725780640550022962086936576 * z3w5) = 1 * p00 + 18446744073709551616 * p01 + 340282366920938463463374607431768211456 * p02 := by omega
  refine seq_nil ?_
  refine hK25 _ _ ?_
  try clear hK25 K25
  refine region_lit ?_
  refine seq_val (.int .i64 3) 32 rfl kj kj ?_
  refine seq_val (.int .i64 3) 21 rfl kj kj ?_
  refine seq_nil ?_
  show Code.rounds _ _ _ 1 _ _
  show Code.wp _ _ (Exit.then (Code.rounds _ _ _ 0) _) _ _
  refine wp_seq_k fun K27 hK27 => ?_
  refine region_lit ?_
  refine seq_val (.bool false) 22 rfl kj kj ?_
  refine seq_nil ?_
  refine hK27 _ _ ?_
  try clear hK27 K27
  refine wp_seq_k fun K28 hK28 => ?_
  refine cond_false kj ?_
  refine wp_exit ?_
  refine hK12 _ _ ?_
  try clear hK12 K12
  refine region_lit ?_
  refine seq_val (.int .i64 1) 33 rfl kj kj ?_
  refine seq_val (.int .i64 1) 16 rfl kj kj ?_
  refine seq_nil ?_
  show Code.rounds _ _ _ 3 _ _
  show Code.wp _ _ (Exit.then (Code.rounds _ _ _ 2) _) _ _
  refine wp_seq_k fun K29 hK29 => ?_
  refine region_lit ?_
  refine seq_val (.bool true) 17 rfl kj kj ?_
  refine seq_nil ?_
  refine hK29 _ _ ?_
  try clear hK29 K29
  refine wp_seq_k fun K30 hK30 => ?_
  refine cond_true kj ?_
  refine wp_skip ?_
  refine hK30 _ _ ?_
  try clear hK30 K30
  refine wp_seq_k fun K31 hK31 => ?_
  refine wp_block ?_
  refine wp_seq_k fun K32 hK32 => ?_
  refine region_lit ?_
  refine seq_val (.int .i64 1) 18 rfl kj kj ?_
  refine seq_val (.int .u64 m1_) 19 rfl kj (run_index_il 66 _ _ .i64 .u64 ([m0_, m1_, m2_]) 1 3 64 m1_ rfl kj kj kj kj kj rfl (by decide) rfl) ?_
  refine seq_val (.int .i64 1) 7 rfl kj kj ?_
  refine seq_val (.int .u64 m1_) 8 rfl kj kj ?_
  refine seq_nil ?_
  refine hK32 _ _ ?_
  try clear hK32 K32
  refine wp_seq_k fun K33 hK33 => ?_
  refine region_lit ?_
  have r3_5 := (ExtB.row q5 r3_4 (ne_of_old r3_3 l6))
  have r3_6 := (ExtB.row q6 r3_5 (ne_of_old r3_3 l6))
  have r3_7 := (ExtB.row q7 r3_6 (ne_of_old r3_3 l6))
  refine seq_val (.agg (ints .u64 ([n0_, n1_, n2_]))) 20 rfl kj (run_load_row 66 _ g3 66 _ _ r3_7 rfl kj kj (isz (n := 3) kj kj)) ?_
  refine seq_val (.int .i64 0) 21 rfl kj kj ?_
  refine seq_nil ?_
  refine hK33 _ _ ?_
  try clear hK33 K33
  refine wp_block ?_
  refine wp_loop_rounds 4 ?_
  show Code.wp _ _ (Exit.then (Code.rounds _ _ _ 3) _) _ _
  refine wp_seq_k fun K34 hK34 => ?_
  refine region_lit ?_
  refine seq_val (.bool true) 22 rfl kj kj ?_
  refine seq_nil ?_
  refine hK34 _ _ ?_
  try clear hK34 K34
  refine wp_seq_k fun K35 hK35 => ?_
  refine cond_true kj ?_
  refine wp_skip ?_
  refine hK35 _ _ ?_
  try clear hK35 K35
  refine wp_seq_k fun K36 hK36 => ?_
  refine wp_block ?_
  refine wp_seq_k fun K37 hK37 => ?_
  refine region_lit ?_
  refine seq_val (.int .i64 0) 23 rfl kj kj ?_
  refine seq_val (.int .u64 n0_) 24 rfl kj (run_index_il 66 _ _ .i64 .u64 ([n0_, n1_, n2_]) 0 3 64 n0_ rfl kj kj kj kj kj rfl (by decide) rfl) ?_
  refine seq_val (.int .i64 0) 9 rfl kj kj ?_
  refine seq_val (.int .u64 n0_) 10 rfl kj kj ?_
  refine seq_nil ?_
  refine hK37 _ _ ?_
  try clear hK37 K37
  refine region_lit ?_
  refine seq_val (.func (.func 55) #[] #[.pointer (some ⟨g6, 0, none⟩)]) 25 rfl kj kj ?_
  refine seq_val (.int .i64 1) 26 rfl kj kj ?_
  refine seq_val (.int .i64 0) 27 rfl kj kj ?_
  refine seq_val (.int .i64 1) 28 rfl kj kj ?_
  refine seq_val (.int .u64 m1_) 29 rfl kj kj ?_
  refine seq_val (.int .u64 n0_) 30 rfl kj kj ?_
  refine seq_callR (fun v W' => v = .tuple #[] ∧ ∃ r0 r1 r2 r3 r4 r5 : Int, isW r0 ∧ isW r1 ∧ isW r2 ∧ isW r3 ∧ isW r4 ∧ isW r5 ∧ (r0 + 18446744073709551616 * r1 + 340282366920938463463374607431768211456 * r2 + 6277101735386680763835789423207666416102355444464034512896 * r3 + 115792089237316195423570985008687907853269984665640564039457584007913129639936 * r4 + 2135987035920910082395021706169552114602704522356652769947041607822219725780640550022962086936576 * r5) = (z3w0 + 18446744073709551616 * z3w1 + 340282366920938463463374607431768211456 * z3w2 + 6277101735386680763835789423207666416102355444464034512896 * z3w3 + 115792089237316195423570985008687907853269984665640564039457584007913129639936 * z3w4 + 2135987035920910082395021706169552114602704522356652769947041607822219725780640550022962086936576 * z3w5) + 18446744073709551616 * p10 ∧ ExtB g6 W7 W' ∧ W'.heap[g6]? = some (.cells (ints .u64 [r0, r1, r2, r3, r4, r5]) 94)) 55 #[.int .i64 1, .int .u64 m1_, .int .u64 n0_, .pointer (some ⟨g6, 0, none⟩)] 31 rfl kj kj ((madd_1 g6 z3w0 z3w1 z3w2 z3w3 z3w4 z3w5 m1_ n0_ p10 hz3w0 hz3w1 hz3w2 hz3w3 hz3w4 hz3w5 hm1_ hn0_ ep10.symm (by rw [hS3]; omega) _ r6_7).mono fun e w' h => ⟨_, h.1, rfl, h.2⟩) fun v W8 h => ?_
  obtain ⟨rfl, z4w0, z4w1, z4w2, z4w3, z4w4, z4w5, hz4w0, hz4w1, hz4w2, hz4w3, hz4w4, hz4w5, hV4, q8, r6_8⟩ := h
  have x8 : Ext w W8 := ExtB.up x7 q8 b6
  have hS4 : (z4w0 + 18446744073709551616 * z4w1 + 340282366920938463463374607431768211456 * z4w2 + 6277101735386680763835789423207666416102355444464034512896 * z4w3 + 115792089237316195423570985008687907853269984665640564039457584007913129639936 * z4w4 + 2135987035920910082395021706169552114602704522356652769947041607822219725780640550022962086936576 * z4w5) = 1 * p00 + 18446744073709551616 * p01 + 340282366920938463463374607431768211456 * p02 + 18446744073709551616 * p10 := by omega
  refine seq_nil ?_
  refine hK36 _ _ ?_
  try clear hK36 K36
  refine region_lit ?_
  refine seq_val (.int .i64 1) 32 rfl kj kj ?_
  refine seq_val (.int .i64 1) 21 rfl kj kj ?_
  refine seq_nil ?_
  show Code.rounds _ _ _ 3 _ _
  show Code.wp _ _ (Exit.then (Code.rounds _ _ _ 2) _) _ _
  refine wp_seq_k fun K38 hK38 => ?_
  refine region_lit ?_
  refine seq_val (.bool true) 22 rfl kj kj ?_
  refine seq_nil ?_
  refine hK38 _ _ ?_
  try clear hK38 K38
  refine wp_seq_k fun K39 hK39 => ?_
  refine cond_true kj ?_
  refine wp_skip ?_
  refine hK39 _ _ ?_
  try clear hK39 K39
  refine wp_seq_k fun K40 hK40 => ?_
  refine wp_block ?_
  refine wp_seq_k fun K41 hK41 => ?_
  refine region_lit ?_
  refine seq_val (.int .i64 1) 23 rfl kj kj ?_
  refine seq_val (.int .u64 n1_) 24 rfl kj (run_index_il 66 _ _ .i64 .u64 ([n0_, n1_, n2_]) 1 3 64 n1_ rfl kj kj kj kj kj rfl (by decide) rfl) ?_
  refine seq_val (.int .i64 1) 9 rfl kj kj ?_
  refine seq_val (.int .u64 n1_) 10 rfl kj kj ?_
  refine seq_nil ?_
  refine hK41 _ _ ?_
  try clear hK41 K41
  refine region_lit ?_
  refine seq_val (.func (.func 55) #[] #[.pointer (some ⟨g6, 0, none⟩)]) 25 rfl kj kj ?_
  refine seq_val (.int .i64 1) 26 rfl kj kj ?_
  refine seq_val (.int .i64 1) 27 rfl kj kj ?_
  refine seq_val (.int .i64 2) 28 rfl kj kj ?_
  refine seq_val (.int .u64 m1_) 29 rfl kj kj ?_
  refine seq_val (.int .u64 n1_) 30 rfl kj kj ?_
  refine seq_callR (fun v W' => v = .tuple #[] ∧ ∃ r0 r1 r2 r3 r4 r5 : Int, isW r0 ∧ isW r1 ∧ isW r2 ∧ isW r3 ∧ isW r4 ∧ isW r5 ∧ (r0 + 18446744073709551616 * r1 + 340282366920938463463374607431768211456 * r2 + 6277101735386680763835789423207666416102355444464034512896 * r3 + 115792089237316195423570985008687907853269984665640564039457584007913129639936 * r4 + 2135987035920910082395021706169552114602704522356652769947041607822219725780640550022962086936576 * r5) = (z4w0 + 18446744073709551616 * z4w1 + 340282366920938463463374607431768211456 * z4w2 + 6277101735386680763835789423207666416102355444464034512896 * z4w3 + 115792089237316195423570985008687907853269984665640564039457584007913129639936 * z4w4 + 2135987035920910082395021706169552114602704522356652769947041607822219725780640550022962086936576 * z4w5) + 340282366920938463463374607431768211456 * p11 ∧ ExtB g6 W8 W' ∧ W'.heap[g6]? = some (.cells (ints .u64 [r0, r1, r2, r3, r4, r5]) 94)) 55 #[.int .i64 2, .int .u64 m1_, .int .u64 n1_, .pointer (some ⟨g6, 0, none⟩)] 31 rfl kj kj ((madd_2 g6 z4w0 z4w1 z4w2 z4w3 z4w4 z4w5 m1_ n1_ p11 hz4w0 hz4w1 hz4w2 hz4w3 hz4w4 hz4w5 hm1_ hn1_ ep11.symm (by rw [hS4]; omega) _ r6_8).mono fun e w' h => ⟨_, h.1, rfl, h.2⟩) fun v W9 h => ?_
  obtain ⟨rfl, z5w0, z5w1, z5w2, z5w3, z5w4, z5w5, hz5w0, hz5w1, hz5w2, hz5w3, hz5w4, hz5w5, hV5, q9, r6_9⟩ := h
  have x9 : Ext w W9 := ExtB.up x8 q9 b6
  have hS5 : (z5w0 + 18446744073709551616 * z5w1 + 340282366920938463463374607431768211456 * z5w2 + 6277101735386680763835789423207666416102355444464034512896 * z5w3 + 115792089237316195423570985008687907853269984665640564039457584007913129639936 * z5w4 + 2135987035920910082395021706169552114602704522356652769947041607822219725780640550022962086936576 * z5w5) = 1 * p00 + 18446744073709551616 * p01 + 340282366920938463463374607431768211456 * p02 + 18446744073709551616 * p10 + 340282366920938463463374607431768211456 * p11 := by omega
  refine seq_nil ?_
  refine hK40 _ _ ?_
  try clear hK40 K40
  refine region_lit ?_
  refine seq_val (.int .i64 2) 32 rfl kj kj ?_
  refine seq_val (.int .i64 2) 21 rfl kj kj ?_
  refine seq_nil ?_
  show Code.rounds _ _ _ 2 _ _
  show Code.wp _ _ (Exit.then (Code.rounds _ _ _ 1) _) _ _
  refine wp_seq_k fun K42 hK42 => ?_
  refine region_lit ?_
  refine seq_val (.bool true) 22 rfl kj kj ?_
  refine seq_nil ?_
  refine hK42 _ _ ?_
  try clear hK42 K42
  refine wp_seq_k fun K43 hK43 => ?_
  refine cond_true kj ?_
  refine wp_skip ?_
  refine hK43 _ _ ?_
  try clear hK43 K43
  refine wp_seq_k fun K44 hK44 => ?_
  refine wp_block ?_
  refine wp_seq_k fun K45 hK45 => ?_
  refine region_lit ?_
  refine seq_val (.int .i64 2) 23 rfl kj kj ?_
  refine seq_val (.int .u64 n2_) 24 rfl kj (run_index_il 66 _ _ .i64 .u64 ([n0_, n1_, n2_]) 2 3 64 n2_ rfl kj kj kj kj kj rfl (by decide) rfl) ?_
  refine seq_val (.int .i64 2) 9 rfl kj kj ?_
  refine seq_val (.int .u64 n2_) 10 rfl kj kj ?_
  refine seq_nil ?_
  refine hK45 _ _ ?_
  try clear hK45 K45
  refine region_lit ?_
  refine seq_val (.func (.func 55) #[] #[.pointer (some ⟨g6, 0, none⟩)]) 25 rfl kj kj ?_
  refine seq_val (.int .i64 1) 26 rfl kj kj ?_
  refine seq_val (.int .i64 2) 27 rfl kj kj ?_
  refine seq_val (.int .i64 3) 28 rfl kj kj ?_
  refine seq_val (.int .u64 m1_) 29 rfl kj kj ?_
  refine seq_val (.int .u64 n2_) 30 rfl kj kj ?_
  refine seq_callR (fun v W' => v = .tuple #[] ∧ ∃ r0 r1 r2 r3 r4 r5 : Int, isW r0 ∧ isW r1 ∧ isW r2 ∧ isW r3 ∧ isW r4 ∧ isW r5 ∧ (r0 + 18446744073709551616 * r1 + 340282366920938463463374607431768211456 * r2 + 6277101735386680763835789423207666416102355444464034512896 * r3 + 115792089237316195423570985008687907853269984665640564039457584007913129639936 * r4 + 2135987035920910082395021706169552114602704522356652769947041607822219725780640550022962086936576 * r5) = (z5w0 + 18446744073709551616 * z5w1 + 340282366920938463463374607431768211456 * z5w2 + 6277101735386680763835789423207666416102355444464034512896 * z5w3 + 115792089237316195423570985008687907853269984665640564039457584007913129639936 * z5w4 + 2135987035920910082395021706169552114602704522356652769947041607822219725780640550022962086936576 * z5w5) + 6277101735386680763835789423207666416102355444464034512896 * p12 ∧ ExtB g6 W9 W' ∧ W'.heap[g6]? = some (.cells (ints .u64 [r0, r1, r2, r3, r4, r5]) 94)) 55 #[.int .i64 3, .int .u64 m1_, .int .u64 n2_, .pointer (some ⟨g6, 0, none⟩)] 31 rfl kj kj ((madd_3 g6 z5w0 z5w1 z5w2 z5w3 z5w4 z5w5 m1_ n2_ p12 hz5w0 hz5w1 hz5w2 hz5w3 hz5w4 hz5w5 hm1_ hn2_ ep12.symm (by rw [hS5]; omega) _ r6_9).mono fun e w' h => ⟨_, h.1, rfl, h.2⟩) fun v W10 h => ?_
  obtain ⟨rfl, z6w0, z6w1, z6w2, z6w3, z6w4, z6w5, hz6w0, hz6w1, hz6w2, hz6w3, hz6w4, hz6w5, hV6, q10, r6_10⟩ := h
  have x10 : Ext w W10 := ExtB.up x9 q10 b6
  have hS6 : (z6w0 + 18446744073709551616 * z6w1 + 340282366920938463463374607431768211456 * z6w2 + 6277101735386680763835789423207666416102355444464034512896 * z6w3 + 115792089237316195423570985008687907853269984665640564039457584007913129639936 * z6w4 + 2135987035920910082395021706169552114602704522356652769947041607822219725780640550022962086936576 * z6w5) = 1 * p00 + 18446744073709551616 * p01 + 340282366920938463463374607431768211456 * p02 + 18446744073709551616 * p10 + 340282366920938463463374607431768211456 * p11 + 6277101735386680763835789423207666416102355444464034512896 * p12 := by omega
  refine seq_nil ?_
  refine hK44 _ _ ?_
  try clear hK44 K44
  refine region_lit ?_
  refine seq_val (.int .i64 3) 32 rfl kj kj ?_
  refine seq_val (.int .i64 3) 21 rfl kj kj ?_
  refine seq_nil ?_
  show Code.rounds _ _ _ 1 _ _
  show Code.wp _ _ (Exit.then (Code.rounds _ _ _ 0) _) _ _
  refine wp_seq_k fun K46 hK46 => ?_
  refine region_lit ?_
  refine seq_val (.bool false) 22 rfl kj kj ?_
  refine seq_nil ?_
  refine hK46 _ _ ?_
  try clear hK46 K46
  refine wp_seq_k fun K47 hK47 => ?_
  refine cond_false kj ?_
  refine wp_exit ?_
  refine hK31 _ _ ?_
  try clear hK31 K31
  refine region_lit ?_
  refine seq_val (.int .i64 2) 33 rfl kj kj ?_
  refine seq_val (.int .i64 2) 16 rfl kj kj ?_
  refine seq_nil ?_
  show Code.rounds _ _ _ 2 _ _
  show Code.wp _ _ (Exit.then (Code.rounds _ _ _ 1) _) _ _
  refine wp_seq_k fun K48 hK48 => ?_
  refine region_lit ?_
  refine seq_val (.bool true) 17 rfl kj kj ?_
  refine seq_nil ?_
  refine hK48 _ _ ?_
  try clear hK48 K48
  refine wp_seq_k fun K49 hK49 => ?_
  refine cond_true kj ?_
  refine wp_skip ?_
  refine hK49 _ _ ?_
  try clear hK49 K49
  refine wp_seq_k fun K50 hK50 => ?_
  refine wp_block ?_
  refine wp_seq_k fun K51 hK51 => ?_
  refine region_lit ?_
  refine seq_val (.int .i64 2) 18 rfl kj kj ?_
  refine seq_val (.int .u64 m2_) 19 rfl kj (run_index_il 66 _ _ .i64 .u64 ([m0_, m1_, m2_]) 2 3 64 m2_ rfl kj kj kj kj kj rfl (by decide) rfl) ?_
  refine seq_val (.int .i64 2) 7 rfl kj kj ?_
  refine seq_val (.int .u64 m2_) 8 rfl kj kj ?_
  refine seq_nil ?_
  refine hK51 _ _ ?_
  try clear hK51 K51
  refine wp_seq_k fun K52 hK52 => ?_
  refine region_lit ?_
  have r3_8 := (ExtB.row q8 r3_7 (ne_of_old r3_3 l6))
  have r3_9 := (ExtB.row q9 r3_8 (ne_of_old r3_3 l6))
  have r3_10 := (ExtB.row q10 r3_9 (ne_of_old r3_3 l6))
  refine seq_val (.agg (ints .u64 ([n0_, n1_, n2_]))) 20 rfl kj (run_load_row 66 _ g3 66 _ _ r3_10 rfl kj kj (isz (n := 3) kj kj)) ?_
  refine seq_val (.int .i64 0) 21 rfl kj kj ?_
  refine seq_nil ?_
  refine hK52 _ _ ?_
  try clear hK52 K52
  refine wp_block ?_
  refine wp_loop_rounds 4 ?_
  show Code.wp _ _ (Exit.then (Code.rounds _ _ _ 3) _) _ _
  refine wp_seq_k fun K53 hK53 => ?_
  refine region_lit ?_
  refine seq_val (.bool true) 22 rfl kj kj ?_
  refine seq_nil ?_
  refine hK53 _ _ ?_
  try clear hK53 K53
  refine wp_seq_k fun K54 hK54 => ?_
  refine cond_true kj ?_
  refine wp_skip ?_
  refine hK54 _ _ ?_
  try clear hK54 K54
  refine wp_seq_k fun K55 hK55 => ?_
  refine wp_block ?_
  refine wp_seq_k fun K56 hK56 => ?_
  refine region_lit ?_
  refine seq_val (.int .i64 0) 23 rfl kj kj ?_
  refine seq_val (.int .u64 n0_) 24 rfl kj (run_index_il 66 _ _ .i64 .u64 ([n0_, n1_, n2_]) 0 3 64 n0_ rfl kj kj kj kj kj rfl (by decide) rfl) ?_
  refine seq_val (.int .i64 0) 9 rfl kj kj ?_
  refine seq_val (.int .u64 n0_) 10 rfl kj kj ?_
  refine seq_nil ?_
  refine hK56 _ _ ?_
  try clear hK56 K56
  refine region_lit ?_
  refine seq_val (.func (.func 55) #[] #[.pointer (some ⟨g6, 0, none⟩)]) 25 rfl kj kj ?_
  refine seq_val (.int .i64 2) 26 rfl kj kj ?_
  refine seq_val (.int .i64 0) 27 rfl kj kj ?_
  refine seq_val (.int .i64 2) 28 rfl kj kj ?_
  refine seq_val (.int .u64 m2_) 29 rfl kj kj ?_
  refine seq_val (.int .u64 n0_) 30 rfl kj kj ?_
  refine seq_callR (fun v W' => v = .tuple #[] ∧ ∃ r0 r1 r2 r3 r4 r5 : Int, isW r0 ∧ isW r1 ∧ isW r2 ∧ isW r3 ∧ isW r4 ∧ isW r5 ∧ (r0 + 18446744073709551616 * r1 + 340282366920938463463374607431768211456 * r2 + 6277101735386680763835789423207666416102355444464034512896 * r3 + 115792089237316195423570985008687907853269984665640564039457584007913129639936 * r4 + 2135987035920910082395021706169552114602704522356652769947041607822219725780640550022962086936576 * r5) = (z6w0 + 18446744073709551616 * z6w1 + 340282366920938463463374607431768211456 * z6w2 + 6277101735386680763835789423207666416102355444464034512896 * z6w3 + 115792089237316195423570985008687907853269984665640564039457584007913129639936 * z6w4 + 2135987035920910082395021706169552114602704522356652769947041607822219725780640550022962086936576 * z6w5) + 340282366920938463463374607431768211456 * p20 ∧ ExtB g6 W10 W' ∧ W'.heap[g6]? = some (.cells (ints .u64 [r0, r1, r2, r3, r4, r5]) 94)) 55 #[.int .i64 2, .int .u64 m2_, .int .u64 n0_, .pointer (some ⟨g6, 0, none⟩)] 31 rfl kj kj ((madd_2 g6 z6w0 z6w1 z6w2 z6w3 z6w4 z6w5 m2_ n0_ p20 hz6w0 hz6w1 hz6w2 hz6w3 hz6w4 hz6w5 hm2_ hn0_ ep20.symm (by rw [hS6]; omega) _ r6_10).mono fun e w' h => ⟨_, h.1, rfl, h.2⟩) fun v W11 h => ?_
  obtain ⟨rfl, z7w0, z7w1, z7w2, z7w3, z7w4, z7w5, hz7w0, hz7w1, hz7w2, hz7w3, hz7w4, hz7w5, hV7, q11, r6_11⟩ := h
  have x11 : Ext w W11 := ExtB.up x10 q11 b6
  have hS7 : (z7w0 + 18446744073709551616 * z7w1 + 340282366920938463463374607431768211456 * z7w2 + 6277101735386680763835789423207666416102355444464034512896 * z7w3 + 115792089237316195423570985008687907853269984665640564039457584007913129639936 * z7w4 + 2135987035920910082395021706169552114602704522356652769947041607822219725780640550022962086936576 * z7w5) = 1 * p00 + 18446744073709551616 * p01 + 340282366920938463463374607431768211456 * p02 + 18446744073709551616 * p10 + 340282366920938463463374607431768211456 * p11 + 6277101735386680763835789423207666416102355444464034512896 * p12 + 340282366920938463463374607431768211456 * p20 := by omega
  refine seq_nil ?_
  refine hK55 _ _ ?_
  try clear hK55 K55
  refine region_lit ?_
  refine seq_val (.int .i64 1) 32 rfl kj kj ?_
  refine seq_val (.int .i64 1) 21 rfl kj kj ?_
  refine seq_nil ?_
  show Code.rounds _ _ _ 3 _ _
  show Code.wp _ _ (Exit.then (Code.rounds _ _ _ 2) _) _ _
  refine wp_seq_k fun K57 hK57 => ?_
  refine region_lit ?_
  refine seq_val (.bool true) 22 rfl kj kj ?_
  refine seq_nil ?_
  refine hK57 _ _ ?_
  try clear hK57 K57
  refine wp_seq_k fun K58 hK58 => ?_
  refine cond_true kj ?_
  refine wp_skip ?_
  refine hK58 _ _ ?_
  try clear hK58 K58
  refine wp_seq_k fun K59 hK59 => ?_
  refine wp_block ?_
  refine wp_seq_k fun K60 hK60 => ?_
  refine region_lit ?_
  refine seq_val (.int .i64 1) 23 rfl kj kj ?_
  refine seq_val (.int .u64 n1_) 24 rfl kj (run_index_il 66 _ _ .i64 .u64 ([n0_, n1_, n2_]) 1 3 64 n1_ rfl kj kj kj kj kj rfl (by decide) rfl) ?_
  refine seq_val (.int .i64 1) 9 rfl kj kj ?_
  refine seq_val (.int .u64 n1_) 10 rfl kj kj ?_
  refine seq_nil ?_
  refine hK60 _ _ ?_
  try clear hK60 K60
  refine region_lit ?_
  refine seq_val (.func (.func 55) #[] #[.pointer (some ⟨g6, 0, none⟩)]) 25 rfl kj kj ?_
  refine seq_val (.int .i64 2) 26 rfl kj kj ?_
  refine seq_val (.int .i64 1) 27 rfl kj kj ?_
  refine seq_val (.int .i64 3) 28 rfl kj kj ?_
  refine seq_val (.int .u64 m2_) 29 rfl kj kj ?_
  refine seq_val (.int .u64 n1_) 30 rfl kj kj ?_
  refine seq_callR (fun v W' => v = .tuple #[] ∧ ∃ r0 r1 r2 r3 r4 r5 : Int, isW r0 ∧ isW r1 ∧ isW r2 ∧ isW r3 ∧ isW r4 ∧ isW r5 ∧ (r0 + 18446744073709551616 * r1 + 340282366920938463463374607431768211456 * r2 + 6277101735386680763835789423207666416102355444464034512896 * r3 + 115792089237316195423570985008687907853269984665640564039457584007913129639936 * r4 + 2135987035920910082395021706169552114602704522356652769947041607822219725780640550022962086936576 * r5) = (z7w0 + 18446744073709551616 * z7w1 + 340282366920938463463374607431768211456 * z7w2 + 6277101735386680763835789423207666416102355444464034512896 * z7w3 + 115792089237316195423570985008687907853269984665640564039457584007913129639936 * z7w4 + 2135987035920910082395021706169552114602704522356652769947041607822219725780640550022962086936576 * z7w5) + 6277101735386680763835789423207666416102355444464034512896 * p21 ∧ ExtB g6 W11 W' ∧ W'.heap[g6]? = some (.cells (ints .u64 [r0, r1, r2, r3, r4, r5]) 94)) 55 #[.int .i64 3, .int .u64 m2_, .int .u64 n1_, .pointer (some ⟨g6, 0, none⟩)] 31 rfl kj kj ((madd_3 g6 z7w0 z7w1 z7w2 z7w3 z7w4 z7w5 m2_ n1_ p21 hz7w0 hz7w1 hz7w2 hz7w3 hz7w4 hz7w5 hm2_ hn1_ ep21.symm (by rw [hS7]; omega) _ r6_11).mono fun e w' h => ⟨_, h.1, rfl, h.2⟩) fun v W12 h => ?_
  obtain ⟨rfl, z8w0, z8w1, z8w2, z8w3, z8w4, z8w5, hz8w0, hz8w1, hz8w2, hz8w3, hz8w4, hz8w5, hV8, q12, r6_12⟩ := h
  have x12 : Ext w W12 := ExtB.up x11 q12 b6
  have hS8 : (z8w0 + 18446744073709551616 * z8w1 + 340282366920938463463374607431768211456 * z8w2 + 6277101735386680763835789423207666416102355444464034512896 * z8w3 + 115792089237316195423570985008687907853269984665640564039457584007913129639936 * z8w4 + 2135987035920910082395021706169552114602704522356652769947041607822219725780640550022962086936576 * z8w5) = 1 * p00 + 18446744073709551616 * p01 + 340282366920938463463374607431768211456 * p02 + 18446744073709551616 * p10 + 340282366920938463463374607431768211456 * p11 + 6277101735386680763835789423207666416102355444464034512896 * p12 + 340282366920938463463374607431768211456 * p20 + 6277101735386680763835789423207666416102355444464034512896 * p21 := by omega
  refine seq_nil ?_
  refine hK59 _ _ ?_
  try clear hK59 K59
  refine region_lit ?_
  refine seq_val (.int .i64 2) 32 rfl kj kj ?_
  refine seq_val (.int .i64 2) 21 rfl kj kj ?_
  refine seq_nil ?_
  show Code.rounds _ _ _ 2 _ _
  show Code.wp _ _ (Exit.then (Code.rounds _ _ _ 1) _) _ _
  refine wp_seq_k fun K61 hK61 => ?_
  refine region_lit ?_
  refine seq_val (.bool true) 22 rfl kj kj ?_
  refine seq_nil ?_
  refine hK61 _ _ ?_
  try clear hK61 K61
  refine wp_seq_k fun K62 hK62 => ?_
  refine cond_true kj ?_
  refine wp_skip ?_
  refine hK62 _ _ ?_
  try clear hK62 K62
  refine wp_seq_k fun K63 hK63 => ?_
  refine wp_block ?_
  refine wp_seq_k fun K64 hK64 => ?_
  refine region_lit ?_
  refine seq_val (.int .i64 2) 23 rfl kj kj ?_
  refine seq_val (.int .u64 n2_) 24 rfl kj (run_index_il 66 _ _ .i64 .u64 ([n0_, n1_, n2_]) 2 3 64 n2_ rfl kj kj kj kj kj rfl (by decide) rfl) ?_
  refine seq_val (.int .i64 2) 9 rfl kj kj ?_
  refine seq_val (.int .u64 n2_) 10 rfl kj kj ?_
  refine seq_nil ?_
  refine hK64 _ _ ?_
  try clear hK64 K64
  refine region_lit ?_
  refine seq_val (.func (.func 55) #[] #[.pointer (some ⟨g6, 0, none⟩)]) 25 rfl kj kj ?_
  refine seq_val (.int .i64 2) 26 rfl kj kj ?_
  refine seq_val (.int .i64 2) 27 rfl kj kj ?_
  refine seq_val (.int .i64 4) 28 rfl kj kj ?_
  refine seq_val (.int .u64 m2_) 29 rfl kj kj ?_
  refine seq_val (.int .u64 n2_) 30 rfl kj kj ?_
  refine seq_callR (fun v W' => v = .tuple #[] ∧ ∃ r0 r1 r2 r3 r4 r5 : Int, isW r0 ∧ isW r1 ∧ isW r2 ∧ isW r3 ∧ isW r4 ∧ isW r5 ∧ (r0 + 18446744073709551616 * r1 + 340282366920938463463374607431768211456 * r2 + 6277101735386680763835789423207666416102355444464034512896 * r3 + 115792089237316195423570985008687907853269984665640564039457584007913129639936 * r4 + 2135987035920910082395021706169552114602704522356652769947041607822219725780640550022962086936576 * r5) = (z8w0 + 18446744073709551616 * z8w1 + 340282366920938463463374607431768211456 * z8w2 + 6277101735386680763835789423207666416102355444464034512896 * z8w3 + 115792089237316195423570985008687907853269984665640564039457584007913129639936 * z8w4 + 2135987035920910082395021706169552114602704522356652769947041607822219725780640550022962086936576 * z8w5) + 115792089237316195423570985008687907853269984665640564039457584007913129639936 * p22 ∧ ExtB g6 W12 W' ∧ W'.heap[g6]? = some (.cells (ints .u64 [r0, r1, r2, r3, r4, r5]) 94)) 55 #[.int .i64 4, .int .u64 m2_, .int .u64 n2_, .pointer (some ⟨g6, 0, none⟩)] 31 rfl kj kj ((madd_4 g6 z8w0 z8w1 z8w2 z8w3 z8w4 z8w5 m2_ n2_ p22 hz8w0 hz8w1 hz8w2 hz8w3 hz8w4 hz8w5 hm2_ hn2_ ep22.symm (by rw [hS8]; omega) _ r6_12).mono fun e w' h => ⟨_, h.1, rfl, h.2⟩) fun v W13 h => ?_
  obtain ⟨rfl, z9w0, z9w1, z9w2, z9w3, z9w4, z9w5, hz9w0, hz9w1, hz9w2, hz9w3, hz9w4, hz9w5, hV9, q13, r6_13⟩ := h
  have x13 : Ext w W13 := ExtB.up x12 q13 b6
  have hS9 : (z9w0 + 18446744073709551616 * z9w1 + 340282366920938463463374607431768211456 * z9w2 + 6277101735386680763835789423207666416102355444464034512896 * z9w3 + 115792089237316195423570985008687907853269984665640564039457584007913129639936 * z9w4 + 2135987035920910082395021706169552114602704522356652769947041607822219725780640550022962086936576 * z9w5) = 1 * p00 + 18446744073709551616 * p01 + 340282366920938463463374607431768211456 * p02 + 18446744073709551616 * p10 + 340282366920938463463374607431768211456 * p11 + 6277101735386680763835789423207666416102355444464034512896 * p12 + 340282366920938463463374607431768211456 * p20 + 6277101735386680763835789423207666416102355444464034512896 * p21 + 115792089237316195423570985008687907853269984665640564039457584007913129639936 * p22 := by omega
  refine seq_nil ?_
  refine hK63 _ _ ?_
  try clear hK63 K63
  refine region_lit ?_
  refine seq_val (.int .i64 3) 32 rfl kj kj ?_
  refine seq_val (.int .i64 3) 21 rfl kj kj ?_
  refine seq_nil ?_
  show Code.rounds _ _ _ 1 _ _
  show Code.wp _ _ (Exit.then (Code.rounds _ _ _ 0) _) _ _
  refine wp_seq_k fun K65 hK65 => ?_
  refine region_lit ?_
  refine seq_val (.bool false) 22 rfl kj kj ?_
  refine seq_nil ?_
  refine hK65 _ _ ?_
  try clear hK65 K65
  refine wp_seq_k fun K66 hK66 => ?_
  refine cond_false kj ?_
  refine wp_exit ?_
  refine hK50 _ _ ?_
  try clear hK50 K50
  refine region_lit ?_
  refine seq_val (.int .i64 3) 33 rfl kj kj ?_
  refine seq_val (.int .i64 3) 16 rfl kj kj ?_
  refine seq_nil ?_
  show Code.rounds _ _ _ 1 _ _
  show Code.wp _ _ (Exit.then (Code.rounds _ _ _ 0) _) _ _
  refine wp_seq_k fun K67 hK67 => ?_
  refine region_lit ?_
  refine seq_val (.bool false) 17 rfl kj kj ?_
  refine seq_nil ?_
  refine hK67 _ _ ?_
  try clear hK67 K67
  refine wp_seq_k fun K68 hK68 => ?_
  refine cond_false kj ?_
  refine wp_exit ?_
  refine hK8 _ _ ?_
  try clear hK8 K8
  refine wp_seq_k fun K69 hK69 => ?_
  refine region_lit ?_
  obtain ⟨e0_, ee0⟩ : ∃ z, z = z9w2 / 4 + z9w3 % 4 * 4611686018427387904 := ⟨_, rfl⟩
  obtain ⟨e1_, ee1⟩ : ∃ z, z = z9w3 / 4 := ⟨_, rfl⟩
  have he0 : isW e0_ := by obtain ⟨a1, a2⟩ := id hz9w2; obtain ⟨a3, a4⟩ := id hz9w3; exact ⟨by omega, by omega⟩
  have he1 : isW e1_ := by obtain ⟨a3, a4⟩ := id hz9w3; exact ⟨by omega, by omega⟩
  refine seq_val (.pointer (some ⟨g6, 2, none⟩)) 34 rfl kj kj ?_
  refine seq_val (.int .u64 z9w2) 35 rfl kj (run_loadC1 64 _ g6 2 94 _ (.int .u64 z9w2) _ r6_13 rfl kj kj kj) ?_
  refine seq_val (.int .u64 (z9w2 / 4)) 36 rfl kj (run_bin .shr _ _ _ _ .u64 .u64 _ _ _ rfl kj kj (b_shr _ _ _ _ _ _ (by decide) (shr2 _ hz9w2))) ?_
  refine seq_val (.pointer (some ⟨g6, 3, none⟩)) 37 rfl kj kj ?_
  refine seq_val (.int .u64 z9w3) 38 rfl kj (run_loadC1 64 _ g6 3 94 _ (.int .u64 z9w3) _ r6_13 rfl kj kj kj) ?_
  refine seq_val (.int .u64 (z9w3 % 4 * 4611686018427387904)) 39 rfl kj (run_bin .shl _ _ _ _ .u64 .u64 _ _ _ rfl kj kj (b_shl _ _ _ _ _ _ (by decide) (shl62 _ hz9w3))) ?_
  refine seq_val (.int .u64 (e0_)) 40 rfl kj (run_eq (u := .int .u64 (bits .or .u64 ((z9w2 / 4)) ((z9w3 % 4 * 4611686018427387904)))) kj (congrArg (Value.int .u64) ((or62 _ _ hz9w2 hz9w3).trans ee0.symm))) ?_
  refine seq_val (.pointer (some ⟨g6, 3, none⟩)) 41 rfl kj kj ?_
  refine seq_val (.int .u64 z9w3) 42 rfl kj (run_loadC1 64 _ g6 3 94 _ (.int .u64 z9w3) _ r6_13 rfl kj kj kj) ?_
  refine seq_val (.int .u64 (e1_)) 43 rfl kj (run_bin .shr _ _ _ _ .u64 .u64 _ _ _ rfl kj kj (b_shr _ _ _ _ _ _ (by decide) ((shr2 _ hz9w3).trans ee1.symm))) ?_
  refine seq_val (.agg (ints .u64 ([(e0_), (e1_)]))) 44 rfl kj kj ?_
  refine seq_alloc (ints .u64 ([0, 0])) 97 11 rfl kj kj fun g70 W14 l70 e14 r70_14 => ?_
  have x14 : Ext w W14 := Ext.tr x13 e14
  have b70 : w.heap.size ≤ g70 := Nat.le_trans x13.size l70
  refine seq_store g70 _ (ints .u64 ([(e0_), (e1_)])) 97 r70_14 rfl kj (run_store_row 97 _ _ g70 97 _ _ r70_14 rfl kj kj (isz (n := 2) kj kj) (eqsz (n := 2) kj kj) (ints_one _ _)) fun W15 p15 r70_15 => ?_
  have x15 : Ext w W15 := Puts.ext p15 x14 b70
  refine seq_nil ?_
  refine hK69 _ _ ?_
  try clear hK69 K69
  refine wp_seq_k fun K71 hK71 => ?_
  refine region_lit ?_
  refine seq_val (.pointer (some ⟨g6, 0, none⟩)) 45 rfl kj kj ?_
  have r6_14 := (row_ext r6_13 e14)
  have r6_15 := (Puts.row p15 r6_14 (ne_of_old r6_13 l70))
  refine seq_val (.int .u64 z9w0) 46 rfl kj (run_loadC1 64 _ g6 0 94 _ (.int .u64 z9w0) _ r6_15 rfl kj kj kj) ?_
  refine seq_val (.pointer (some ⟨g6, 1, none⟩)) 47 rfl kj kj ?_
  refine seq_val (.int .u64 z9w1) 48 rfl kj (run_loadC1 64 _ g6 1 94 _ (.int .u64 z9w1) _ r6_15 rfl kj kj kj) ?_
  refine seq_val (.pointer (some ⟨g6, 2, none⟩)) 49 rfl kj kj ?_
  refine seq_val (.int .u64 z9w2) 50 rfl kj (run_loadC1 64 _ g6 2 94 _ (.int .u64 z9w2) _ r6_15 rfl kj kj kj) ?_
  refine seq_val (.int .u64 (z9w2 % 4)) 51 rfl kj (run_eq (u := .int .u64 (bits .and .u64 (z9w2) (3))) kj (congrArg (Value.int .u64) (and3 _ hz9w2))) ?_
  refine seq_val (.agg (ints .u64 ([z9w0, z9w1, (z9w2 % 4), 0, 0, 0]))) 52 rfl kj kj ?_
  refine seq_store g6 _ (ints .u64 ([z9w0, z9w1, (z9w2 % 4), 0, 0, 0])) 94 r6_15 rfl kj (run_store_row 94 _ _ g6 94 _ _ r6_15 rfl kj kj (isz (n := 6) kj kj) (eqsz (n := 6) kj kj) (ints_one _ _)) fun W16 p16 r6_16 => ?_
  have x16 : Ext w W16 := Puts.ext p16 x15 b6
  obtain ⟨aq0, bq0⟩ := id hz9w0
  obtain ⟨aq1, bq1⟩ := id hz9w1
  obtain ⟨aq2, bq2⟩ := id hz9w2
  obtain ⟨aq3, bq3⟩ := id hz9w3
  obtain ⟨aq4, bq4⟩ := id hz9w4
  obtain ⟨aq5, bq5⟩ := id hz9w5
  obtain ⟨ae0, be0⟩ := id he0
  obtain ⟨ae1, be1⟩ := id he1
  refine seq_nil ?_
  refine hK71 _ _ ?_
  try clear hK71 K71
  refine wp_seq_k fun K72 hK72 => ?_
  refine wp_seq_k fun K73 hK73 => ?_
  refine region_lit ?_
  have r70_16 := (Puts.row p16 r70_15 (ne_of_new r6_13 l70))
  refine seq_val (.agg (ints .u64 ([(e0_), (e1_)]))) 53 rfl kj (run_load_row 97 _ g70 97 _ _ r70_16 rfl kj kj (isz (n := 2) kj kj)) ?_
  refine seq_val (.int .i64 0) 54 rfl kj kj ?_
  refine seq_nil ?_
  refine hK73 _ _ ?_
  try clear hK73 K73
  refine wp_block ?_
  refine wp_loop_rounds 3 ?_
  show Code.wp _ _ (Exit.then (Code.rounds _ _ _ 2) _) _ _
  refine wp_seq_k fun K74 hK74 => ?_
  refine region_lit ?_
  refine seq_val (.bool true) 55 rfl kj kj ?_
  refine seq_nil ?_
  refine hK74 _ _ ?_
  try clear hK74 K74
  refine wp_seq_k fun K75 hK75 => ?_
  refine cond_true kj ?_
  refine wp_skip ?_
  refine hK75 _ _ ?_
  try clear hK75 K75
  refine wp_seq_k fun K76 hK76 => ?_
  refine wp_block ?_
  refine wp_seq_k fun K77 hK77 => ?_
  refine region_lit ?_
  refine seq_val (.int .i64 0) 56 rfl kj kj ?_
  refine seq_val (.int .u64 (e0_)) 57 rfl kj (run_index_il 97 _ _ .i64 .u64 ([(e0_), (e1_)]) 0 2 64 (e0_) rfl kj kj kj kj kj rfl (by decide) rfl) ?_
  refine seq_val (.int .i64 0) 12 rfl kj kj ?_
  refine seq_val (.int .u64 (e0_)) 13 rfl kj kj ?_
  refine seq_nil ?_
  refine hK77 _ _ ?_
  try clear hK77 K77
  refine region_lit ?_
  refine seq_val (.func (.func 55) #[] #[.pointer (some ⟨g6, 0, none⟩)]) 58 rfl kj kj ?_
  refine seq_val (.int .i64 0) 59 rfl kj kj ?_
  refine seq_val (.int .u64 (e0_)) 60 rfl kj kj ?_
  refine seq_callR (fun v W' => v = .tuple #[] ∧ ∃ r0 r1 r2 r3 r4 r5 : Int, isW r0 ∧ isW r1 ∧ isW r2 ∧ isW r3 ∧ isW r4 ∧ isW r5 ∧ (r0 + 18446744073709551616 * r1 + 340282366920938463463374607431768211456 * r2 + 6277101735386680763835789423207666416102355444464034512896 * r3 + 115792089237316195423570985008687907853269984665640564039457584007913129639936 * r4 + 2135987035920910082395021706169552114602704522356652769947041607822219725780640550022962086936576 * r5) = (z9w0 + 18446744073709551616 * z9w1 + 340282366920938463463374607431768211456 * (z9w2 % 4) + 6277101735386680763835789423207666416102355444464034512896 * 0 + 115792089237316195423570985008687907853269984665640564039457584007913129639936 * 0 + 2135987035920910082395021706169552114602704522356652769947041607822219725780640550022962086936576 * 0) + 1 * (5 * e0_) ∧ ExtB g6 W16 W' ∧ W'.heap[g6]? = some (.cells (ints .u64 [r0, r1, r2, r3, r4, r5]) 94)) 55 #[.int .i64 0, .int .u64 (e0_), .int .u64 5, .pointer (some ⟨g6, 0, none⟩)] 61 rfl kj kj ((madd_0 g6 z9w0 z9w1 (z9w2 % 4) 0 0 0 e0_ 5 (5 * e0_) hz9w0 hz9w1 ⟨by omega, by omega⟩ zero_isW zero_isW zero_isW he0 ⟨by decide, by decide⟩ (by omega) (by omega) _ r6_16).mono fun e w' h => ⟨_, h.1, rfl, h.2⟩) fun v W17 h => ?_
  obtain ⟨rfl, z10w0, z10w1, z10w2, z10w3, z10w4, z10w5, hz10w0, hz10w1, hz10w2, hz10w3, hz10w4, hz10w5, hV10, q17, r6_17⟩ := h
  have x17 : Ext w W17 := ExtB.up x16 q17 b6
  have hS10 : (z10w0 + 18446744073709551616 * z10w1 + 340282366920938463463374607431768211456 * z10w2 + 6277101735386680763835789423207666416102355444464034512896 * z10w3 + 115792089237316195423570985008687907853269984665640564039457584007913129639936 * z10w4 + 2135987035920910082395021706169552114602704522356652769947041607822219725780640550022962086936576 * z10w5) = (z9w0 + 18446744073709551616 * z9w1 + 340282366920938463463374607431768211456 * (z9w2 % 4)) + 1 * (5 * e0_) := by omega
  refine seq_nil ?_
  refine hK76 _ _ ?_
  try clear hK76 K76
  refine region_lit ?_
  refine seq_val (.int .i64 1) 62 rfl kj kj ?_
  refine seq_val (.int .i64 1) 54 rfl kj kj ?_
  refine seq_nil ?_
  show Code.rounds _ _ _ 2 _ _
  show Code.wp _ _ (Exit.then (Code.rounds _ _ _ 1) _) _ _
  refine wp_seq_k fun K78 hK78 => ?_
  refine region_lit ?_
  refine seq_val (.bool true) 55 rfl kj kj ?_
  refine seq_nil ?_
  refine hK78 _ _ ?_
  try clear hK78 K78
  refine wp_seq_k fun K79 hK79 => ?_
  refine cond_true kj ?_
  refine wp_skip ?_
  refine hK79 _ _ ?_
  try clear hK79 K79
  refine wp_seq_k fun K80 hK80 => ?_
  refine wp_block ?_
  refine wp_seq_k fun K81 hK81 => ?_
  refine region_lit ?_
  refine seq_val (.int .i64 1) 56 rfl kj kj ?_
  refine seq_val (.int .u64 (e1_)) 57 rfl kj (run_index_il 97 _ _ .i64 .u64 ([(e0_), (e1_)]) 1 2 64 (e1_) rfl kj kj kj kj kj rfl (by decide) rfl) ?_
  refine seq_val (.int .i64 1) 12 rfl kj kj ?_
  refine seq_val (.int .u64 (e1_)) 13 rfl kj kj ?_
  refine seq_nil ?_
  refine hK81 _ _ ?_
  try clear hK81 K81
  refine region_lit ?_
  refine seq_val (.func (.func 55) #[] #[.pointer (some ⟨g6, 0, none⟩)]) 58 rfl kj kj ?_
  refine seq_val (.int .i64 1) 59 rfl kj kj ?_
  refine seq_val (.int .u64 (e1_)) 60 rfl kj kj ?_
  refine seq_callR (fun v W' => v = .tuple #[] ∧ ∃ r0 r1 r2 r3 r4 r5 : Int, isW r0 ∧ isW r1 ∧ isW r2 ∧ isW r3 ∧ isW r4 ∧ isW r5 ∧ (r0 + 18446744073709551616 * r1 + 340282366920938463463374607431768211456 * r2 + 6277101735386680763835789423207666416102355444464034512896 * r3 + 115792089237316195423570985008687907853269984665640564039457584007913129639936 * r4 + 2135987035920910082395021706169552114602704522356652769947041607822219725780640550022962086936576 * r5) = (z10w0 + 18446744073709551616 * z10w1 + 340282366920938463463374607431768211456 * z10w2 + 6277101735386680763835789423207666416102355444464034512896 * z10w3 + 115792089237316195423570985008687907853269984665640564039457584007913129639936 * z10w4 + 2135987035920910082395021706169552114602704522356652769947041607822219725780640550022962086936576 * z10w5) + 18446744073709551616 * (5 * e1_) ∧ ExtB g6 W17 W' ∧ W'.heap[g6]? = some (.cells (ints .u64 [r0, r1, r2, r3, r4, r5]) 94)) 55 #[.int .i64 1, .int .u64 (e1_), .int .u64 5, .pointer (some ⟨g6, 0, none⟩)] 61 rfl kj kj ((madd_1 g6 z10w0 z10w1 z10w2 z10w3 z10w4 z10w5 e1_ 5 (5 * e1_) hz10w0 hz10w1 hz10w2 hz10w3 hz10w4 hz10w5 he1 ⟨by decide, by decide⟩ (by omega) (by rw [hS10]; omega) _ r6_17).mono fun e w' h => ⟨_, h.1, rfl, h.2⟩) fun v W18 h => ?_
  obtain ⟨rfl, z11w0, z11w1, z11w2, z11w3, z11w4, z11w5, hz11w0, hz11w1, hz11w2, hz11w3, hz11w4, hz11w5, hV11, q18, r6_18⟩ := h
  have x18 : Ext w W18 := ExtB.up x17 q18 b6
  have hS11 : (z11w0 + 18446744073709551616 * z11w1 + 340282366920938463463374607431768211456 * z11w2 + 6277101735386680763835789423207666416102355444464034512896 * z11w3 + 115792089237316195423570985008687907853269984665640564039457584007913129639936 * z11w4 + 2135987035920910082395021706169552114602704522356652769947041607822219725780640550022962086936576 * z11w5) = (z9w0 + 18446744073709551616 * z9w1 + 340282366920938463463374607431768211456 * (z9w2 % 4)) + 1 * (5 * e0_) + 18446744073709551616 * (5 * e1_) := by omega
  refine seq_nil ?_
  refine hK80 _ _ ?_
  try clear hK80 K80
  refine region_lit ?_
  refine seq_val (.int .i64 2) 62 rfl kj kj ?_
  refine seq_val (.int .i64 2) 54 rfl kj kj ?_
  refine seq_nil ?_
  show Code.rounds _ _ _ 1 _ _
  show Code.wp _ _ (Exit.then (Code.rounds _ _ _ 0) _) _ _
  refine wp_seq_k fun K82 hK82 => ?_
  refine region_lit ?_
  refine seq_val (.bool false) 55 rfl kj kj ?_
  refine seq_nil ?_
  refine hK82 _ _ ?_
  try clear hK82 K82
  refine wp_seq_k fun K83 hK83 => ?_
  refine cond_false kj ?_
  refine wp_exit ?_
  refine hK72 _ _ ?_
  try clear hK72 K72
  refine wp_seq_k fun K84 hK84 => ?_
  refine region_lit ?_
  refine seq_val (.pointer (some ⟨g6, 0, none⟩)) 63 rfl kj kj ?_
  refine seq_val (.int .u64 z11w0) 64 rfl kj (run_loadC1 64 _ g6 0 94 _ (.int .u64 z11w0) _ r6_18 rfl kj kj kj) ?_
  refine seq_val (.pointer (some ⟨g6, 1, none⟩)) 65 rfl kj kj ?_
  refine seq_val (.int .u64 z11w1) 66 rfl kj (run_loadC1 64 _ g6 1 94 _ (.int .u64 z11w1) _ r6_18 rfl kj kj kj) ?_
  refine seq_val (.pointer (some ⟨g6, 2, none⟩)) 67 rfl kj kj ?_
  refine seq_val (.int .u64 z11w2) 68 rfl kj (run_loadC1 64 _ g6 2 94 _ (.int .u64 z11w2) _ r6_18 rfl kj kj kj) ?_
  refine seq_val (.agg (ints .u64 ([z11w0, z11w1, z11w2]))) 69 rfl kj kj ?_
  have r4_4 := (row_ext r4_3 e4)
  have r4_5 := (ExtB.row q5 r4_4 (ne_of_old r4_3 l6))
  have r4_6 := (ExtB.row q6 r4_5 (ne_of_old r4_3 l6))
  have r4_7 := (ExtB.row q7 r4_6 (ne_of_old r4_3 l6))
  have r4_8 := (ExtB.row q8 r4_7 (ne_of_old r4_3 l6))
  have r4_9 := (ExtB.row q9 r4_8 (ne_of_old r4_3 l6))
  have r4_10 := (ExtB.row q10 r4_9 (ne_of_old r4_3 l6))
  have r4_11 := (ExtB.row q11 r4_10 (ne_of_old r4_3 l6))
  have r4_12 := (ExtB.row q12 r4_11 (ne_of_old r4_3 l6))
  have r4_13 := (ExtB.row q13 r4_12 (ne_of_old r4_3 l6))
  have r4_14 := (row_ext r4_13 e14)
  have r4_15 := (Puts.row p15 r4_14 (ne_of_old r4_13 l70))
  have r4_16 := (Puts.row p16 r4_15 (ne_of_old r4_3 l6))
  have r4_17 := (ExtB.row q17 r4_16 (ne_of_old r4_3 l6))
  have r4_18 := (ExtB.row q18 r4_17 (ne_of_old r4_3 l6))
  refine seq_store g4 _ (ints .u64 ([z11w0, z11w1, z11w2])) 66 r4_18 rfl kj (run_store_row 66 _ _ g4 66 _ _ r4_18 rfl kj kj (isz (n := 3) kj kj) (eqsz (n := 3) kj kj) (ints_one _ _)) fun W19 p19 r4_19 => ?_
  have x19 : Ext w W19 := Puts.ext p19 x18 b4
  refine seq_nil ?_
  refine hK84 _ _ ?_
  try clear hK84 K84
  refine wp_ret ?_
  repeat (first | with_reducible refine goR1 ?_ | with_reducible refine goR2 ?_)
  exact (show bodyPost _ _ _ .ret _ _ from ret1 (.agg (ints .u64 ([z11w0, z11w1, z11w2]))) rfl (res_cell g4 66 _ r4_19 kj kj (isz (n := 3) kj kj)) ⟨by rw [nw3_of (v := mulV (va * vb)) hz11w0 hz11w1 hz11w2 (mul_fin hz9w0 hz9w1 hz9w2 hz9w3 hz9w4 hz9w5 hz11w0 hz11w1 hz11w2 hz11w3 hz11w4 hz11w5 (hS9.trans hT) (by rw [← hT]; exact hTl) ee0 ee1 (by rw [hS11]; omega))], x19⟩)
theorem multiplyC (a b : Int) (ha : 0 ≤ a) (hb : 0 ≤ b) (hal : a < 5444517870735015415413993718908291383296) (hbl : b < 21267647932558653966460912964485513216) (w : World) :
    Calls Tryd.prog 47 #[.agg (ints .u64 (nw3 a)), .agg (ints .u64 (nw3 b))] w (Ret w (.agg (ints .u64 (nw3 (mulV (a * b)))))) :=
  mulW _ _ _ _ _ _ a b (word_lo _) (word_lo _) (word_lo _) (word_lo _) (word_lo _) (word_lo _) (nw3_sum a ha (by omega)) (nw3_sum b hb (by omega)) hal hbl w

end Go.Proofs.YtjldjdlhllgakaaDoor.Ae
