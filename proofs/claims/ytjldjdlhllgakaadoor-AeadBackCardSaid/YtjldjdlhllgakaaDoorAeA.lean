/- Poly1305: words, sums, the number of some bytes. -/
import Derived.Test.YtjldjdlhllgakaaDoorAeU
import Derived.Laws.Externs
import Derived.Shelf.Spec.BitsCarry
import Derived.Shelf.Bits.Mul64
import Derived.Laws.Bits64b
namespace Go.Proofs.YtjldjdlhllgakaaDoor.Ae
open Go Go.RowKit
open Go.Proofs.YtjldjdlhllgakaaDoor.Rely Go.Proofs.YtjldjdlhllgakaaDoor.Auto Go.Proofs.YtjldjdlhllgakaaDoor.Own Go.Proofs.YtjldjdlhllgakaaDoor.Sha
set_option linter.unusedVariables false
set_option linter.unusedSimpArgs false

open Go.Proofs.YtjldjdlhllgakaaDoor.Sha Go.Proofs.YtjldjdlhllgakaaDoor.Cha
/-- a word -/
def isW (x : Int) : Prop := 0 ≤ x ∧ x < 18446744073709551616
theorem add64 (x y c : Int) (hx : isW x) (hy : isW y) (hc : 0 ≤ c ∧ c ≤ 1) :
    ∃ s d : Int, isW s ∧ (0 ≤ d ∧ d ≤ 1) ∧ s + 18446744073709551616 * d = x + y + c ∧
      ∀ W, (callFunc 48 #[.int .u64 x, .int .u64 y, .int .u64 c]).run Tryd.prog W = .ok (.value (.tuple #[.int .u64 s, .int .u64 d])) W := by
  unfold isW at hx hy
  refine ⟨(x + y + c) % 18446744073709551616, (x + y + c) / 18446744073709551616, ⟨by omega, by omega⟩, by omega, by omega, fun W => ?_⟩
  rw [run_callFunc_extern Tryd.func48 kj kj kj (e := add64Entry) kj, run_add64 x y c hx.1 hy.1 hc.1 hc.2]
  rfl
theorem maskN (a : Int) (h : isW a) : bits .and .u64 a 4294967295 = a % 4294967296 := by
  obtain ⟨A, rfl⟩ := Int.eq_ofNat_of_zero_le h.1
  have h := bits_and_u64_nat A 4294967295 (by have := h.2; omega) (by omega)
  have e : A &&& 4294967295 = A % 4294967296 := Nat.and_two_pow_sub_one_eq_mod A 32
  rw [e] at h
  exact h

theorem wrap64 (a : Int) (h : isW a) : IntKind.u64.wrap a = a := by rw [IntKind.wrap_u64]; have := h.1; have := h.2; omega

theorem mul64 (x y : Int) (hx : isW x) (hy : isW y) :
    ∃ hi lo : Int, isW hi ∧ isW lo ∧ lo + 18446744073709551616 * hi = x * y ∧ ∀ w, Calls Tryd.prog 56 #[.int .u64 x, .int .u64 y] w (fun e w' => e = .returned (.tuple #[.int .u64 hi, .int .u64 lo]) ∧ w' = w) := by
  obtain ⟨X, rfl⟩ := Int.eq_ofNat_of_zero_le hx.1
  obtain ⟨Y, rfl⟩ := Int.eq_ofNat_of_zero_le hy.1
  have hX : X < 18446744073709551616 := by have := hx.2; omega
  have hY : Y < 18446744073709551616 := by have := hy.2; omega
  have hXY : X * Y < 18446744073709551616 * 18446744073709551616 := Nat.mul_lt_mul'' hX hY
  refine ⟨((X * Y / 18446744073709551616 : Nat) : Int), ((X * Y % 18446744073709551616 : Nat) : Int), ⟨by omega, by omega⟩, ⟨by omega, by omega⟩, ?_, fun w => ?_⟩
  · rw [← Int.natCast_mul]; omega
  obtain ⟨bd, bt, bw, hhi⟩ := Lib.mul64_hi X Y hX hY
  have ba := Lib.half_mul_le (a := X / 4294967296) (b := Y / 4294967296) (by omega) (by omega)
  have bb := Lib.half_mul_le (a := X / 4294967296) (b := Y % 4294967296) (by omega) (by omega)
  have bc := Lib.half_mul_le (a := X % 4294967296) (b := Y / 4294967296) (by omega) (by omega)
  have ba' : X / 4294967296 * (Y / 4294967296) < 18446744073709551616 := by omega
  have bb' : X / 4294967296 * (Y % 4294967296) < 18446744073709551616 := by omega
  have bc' : X % 4294967296 * (Y / 4294967296) < 18446744073709551616 := by omega
  have bh1 : X / 4294967296 * (Y / 4294967296) + (X / 4294967296 * (Y % 4294967296) + X % 4294967296 * (Y % 4294967296) / 4294967296) / 4294967296 < 18446744073709551616 := by omega
  have bh : X / 4294967296 * (Y / 4294967296) + (X / 4294967296 * (Y % 4294967296) + X % 4294967296 * (Y % 4294967296) / 4294967296) / 4294967296 + ((X / 4294967296 * (Y % 4294967296) + X % 4294967296 * (Y % 4294967296) / 4294967296) % 4294967296 + X % 4294967296 * (Y / 4294967296)) / 4294967296 < 18446744073709551616 := by omega
  go_enter Tryd.func56, Tryd.ntmps56
  go_wp2
  simp only [Mul64.maskN X hX, Mul64.maskN Y hY, Mul64.divN, Mul64.mulN, Mul64.addN, Mul64.wrapN _ bd, Mul64.wrapN _ bb', Mul64.wrapN _ bt, Mul64.maskN _ bt, Mul64.wrapN _ bc', Mul64.wrapN _ bw, Mul64.wrapN _ ba', Mul64.wrapN _ bh1, Mul64.wrapN _ bh, Mul64.wrapM (X * Y)]
  rw [hhi]
  go_ret2
  exact ⟨rfl, rfl⟩

theorem zero_isW : isW 0 := ⟨by decide, by decide⟩
/-- three words -/
def nw3 (v : Int) : List Int := [v % 18446744073709551616, v / 18446744073709551616 % 18446744073709551616, v / 340282366920938463463374607431768211456 % 18446744073709551616]
theorem nw3_of {a b c v : Int} (ha : isW a) (hb : isW b) (hc : isW c) (h : a + 18446744073709551616 * b + 340282366920938463463374607431768211456 * c = v) : [a, b, c] = nw3 v := by
  obtain ⟨a0, a1⟩ := ha
  obtain ⟨b0, b1⟩ := hb
  obtain ⟨c0, c1⟩ := hc
  subst h
  unfold nw3
  have e1 : (a + 18446744073709551616 * b + 340282366920938463463374607431768211456 * c) % 18446744073709551616 = a := by omega
  have e2 : (a + 18446744073709551616 * b + 340282366920938463463374607431768211456 * c) / 18446744073709551616 % 18446744073709551616 = b := by omega
  have e3 : (a + 18446744073709551616 * b + 340282366920938463463374607431768211456 * c) / 340282366920938463463374607431768211456 % 18446744073709551616 = c := by omega
  rw [e1, e2, e3]
theorem word_lo (v : Int) : isW (v % 18446744073709551616) := ⟨by omega, by omega⟩
theorem nw3_sum (v : Int) (h0 : 0 ≤ v) (h : v < 6277101735386680763835789423207666416102355444464034512896) : v % 18446744073709551616 + 18446744073709551616 * (v / 18446744073709551616 % 18446744073709551616) + 340282366920938463463374607431768211456 * (v / 340282366920938463463374607431768211456 % 18446744073709551616) = v := by omega
theorem p8_lt (t : Nat) (ht : t < 8) : 0 < p256 t ∧ 256 * p256 t ≤ 18446744073709551616 := by
  have : ∀ t : Fin 8, 0 < p256 t.1 ∧ 256 * p256 t.1 ≤ 18446744073709551616 := by decide +kernel
  exact this ⟨t, ht⟩
theorem or_add (u x : Int) (t : Nat) (h0 : 0 ≤ u) (h1 : u < p256 t) (hx : 0 ≤ x ∧ x < 256) (ht : t < 8) : bits .or .u64 u (x * p256 t) = u + x * p256 t := by
  obtain ⟨U, rfl⟩ := Int.eq_ofNat_of_zero_le h0
  obtain ⟨X, rfl⟩ := Int.eq_ofNat_of_zero_le hx.1
  obtain ⟨q0, q1⟩ := p8_lt t ht
  have e : p256 t = ((2 ^ (8 * t) : Nat) : Int) := by unfold p256; rw [Nat.pow_mul]; simp
  have hX : X < 256 := by omega
  rw [e] at h1 q0 q1 ⊢
  have hU : U < 2 ^ (8 * t) := by omega
  have q2 : 256 * 2 ^ (8 * t) ≤ 18446744073709551616 := by omega
  have hm : X * 2 ^ (8 * t) + 2 ^ (8 * t) ≤ 18446744073709551616 := by
    have : (X + 1) * 2 ^ (8 * t) ≤ 256 * 2 ^ (8 * t) := Nat.mul_le_mul_right _ hX
    rw [Nat.succ_mul] at this; omega
  rw [← Int.natCast_mul, bits_or_u64_nat U (X * 2 ^ (8 * t)) (by omega) (by omega)]
  have h := Nat.shiftLeft_add_eq_or_of_lt hU X
  rw [Nat.shiftLeft_eq] at h
  rw [Nat.or_comm, ← h]
  rw [Int.natCast_add]; omega
theorem shl_x (x : Int) (t : Nat) (c : Int) (hc : c = ((8 * t : Nat) : Int)) (hx : 0 ≤ x ∧ x < 256) (ht : t < 8) : IntKind.u64.wrap (x * 2 ^ min c.toNat IntKind.u64.bits) = x * p256 t := by
  subst hc
  have hm : min (((8 * t : Nat) : Int)).toNat IntKind.u64.bits = 8 * t := by show min (((8 * t : Nat) : Int)).toNat 64 = 8 * t; omega
  have e : (2 : Int) ^ (8 * t) = p256 t := by unfold p256; rw [Int.pow_mul]; rfl
  obtain ⟨q0, q1⟩ := p8_lt t ht
  rw [hm, e]
  have h1 : 0 ≤ x * p256 t := Int.mul_nonneg hx.1 (by omega)
  have h2 : x * p256 t ≤ 255 * p256 t := Int.mul_le_mul_of_nonneg_right (by omega) (by omega)
  exact wrap64 _ ⟨h1, by omega⟩
theorem value_step (v x : Int) (i : Nat) (hi : i < 24) (h0 : 0 ≤ v) (h1 : v < p256 i) (hx : 0 ≤ x ∧ x < 256) :
    bits .or .u64 (nth (nw3 v) (i / 8)) (x * p256 (i % 8)) = nth (nw3 (v + x * p256 i)) (i / 8) ∧ (nw3 v).set (i / 8) (nth (nw3 (v + x * p256 i)) (i / 8)) = nw3 (v + x * p256 i) := by
  obtain ⟨t, et⟩ : ∃ t, t = i % 8 := ⟨_, rfl⟩
  have ht : t < 8 := by omega
  obtain ⟨q0, q1⟩ := p8_lt t ht
  obtain ⟨z, ez⟩ : ∃ z, z = x * p256 t := ⟨_, rfl⟩
  have hz0 : 0 ≤ z := by rw [ez]; exact Int.mul_nonneg hx.1 (by omega)
  have hz1 : z ≤ 255 * p256 t := by rw [ez]; exact Int.mul_le_mul_of_nonneg_right (by omega) (by omega)
  rw [← et]
  have hp8 : p256 8 = 18446744073709551616 := by decide +kernel
  have hp16 : p256 16 = 340282366920938463463374607431768211456 := p16
  rcases (show i = t ∨ i = 8 + t ∨ i = 16 + t by omega) with e | e | e
  · have hd : i / 8 = 0 := by omega
    have hv : v < p256 t := by rw [e] at h1; exact h1
    have hxp : x * p256 i = z := by rw [e, ez]
    rw [hd, hxp]
    have e1 : nth (nw3 v) 0 = v := by show v % _ = v; omega
    have e2 : nth (nw3 (v + z)) 0 = v + z := by show (v + z) % _ = v + z; omega
    rw [e1, e2]
    refine ⟨by rw [or_add v x t h0 hv hx ht, ez], ?_⟩
    show [v + z, v / 18446744073709551616 % 18446744073709551616, v / 340282366920938463463374607431768211456 % 18446744073709551616] = [(v + z) % 18446744073709551616, (v + z) / 18446744073709551616 % 18446744073709551616, (v + z) / 340282366920938463463374607431768211456 % 18446744073709551616]
    congr 1
    · omega
    · congr 1
      · omega
      · congr 1; omega
  · have hd : i / 8 = 1 := by omega
    have hpi : p256 i = 18446744073709551616 * p256 t := by rw [e, p256_add, hp8]
    have hv : v < 18446744073709551616 * p256 t := by rw [hpi] at h1; exact h1
    have hxp : x * p256 i = 18446744073709551616 * z := by rw [hpi, ez]; grind
    rw [hd, hxp]
    have e1 : nth (nw3 v) 1 = v / 18446744073709551616 := by show v / _ % _ = v / _; omega
    have e2 : nth (nw3 (v + 18446744073709551616 * z)) 1 = v / 18446744073709551616 + z := by show (v + _ * z) / _ % _ = _; omega
    rw [e1, e2]
    refine ⟨by rw [or_add (v / 18446744073709551616) x t (by omega) (by omega) hx ht, ez], ?_⟩
    show [v % 18446744073709551616, v / 18446744073709551616 + z, v / 340282366920938463463374607431768211456 % 18446744073709551616] = [(v + 18446744073709551616 * z) % 18446744073709551616, (v + 18446744073709551616 * z) / 18446744073709551616 % 18446744073709551616, (v + 18446744073709551616 * z) / 340282366920938463463374607431768211456 % 18446744073709551616]
    congr 1
    · omega
    · congr 1
      · omega
      · congr 1; omega
  · have hd : i / 8 = 2 := by omega
    have hpi : p256 i = 340282366920938463463374607431768211456 * p256 t := by rw [e, p256_add, hp16]
    have hv : v < 340282366920938463463374607431768211456 * p256 t := by rw [hpi] at h1; exact h1
    have hxp : x * p256 i = 340282366920938463463374607431768211456 * z := by rw [hpi, ez]; grind
    rw [hd, hxp]
    have e1 : nth (nw3 v) 2 = v / 340282366920938463463374607431768211456 := by show v / _ % _ = v / _; omega
    have e2 : nth (nw3 (v + 340282366920938463463374607431768211456 * z)) 2 = v / 340282366920938463463374607431768211456 + z := by show (v + _ * z) / _ % _ = _; omega
    rw [e1, e2]
    refine ⟨by rw [or_add (v / 340282366920938463463374607431768211456) x t (by omega) (by omega) hx ht, ez], ?_⟩
    show [v % 18446744073709551616, v / 18446744073709551616 % 18446744073709551616, v / 340282366920938463463374607431768211456 + z] = [(v + 340282366920938463463374607431768211456 * z) % 18446744073709551616, (v + 340282366920938463463374607431768211456 * z) / 18446744073709551616 % 18446744073709551616, (v + 340282366920938463463374607431768211456 * z) / 340282366920938463463374607431768211456 % 18446744073709551616]
    congr 1
    · omega
    · congr 1
      · omega
      · congr 1; omega
theorem nw3_len (v : Int) : (nw3 v).length = 3 := rfl
set_option maxHeartbeats 4000000 in
theorem plusW (m0_ m1_ m2_ n0_ n1_ n2_ v : Int) (hm0_ : isW m0_) (hm1_ : isW m1_) (hm2_ : isW m2_) (hn0_ : isW n0_) (hn1_ : isW n1_) (hn2_ : isW n2_) (hv : (m0_ + 18446744073709551616 * m1_ + 340282366920938463463374607431768211456 * m2_) + (n0_ + 18446744073709551616 * n1_ + 340282366920938463463374607431768211456 * n2_) = v) (hlt : v < 6277101735386680763835789423207666416102355444464034512896) (w : World) :
    Calls Tryd.prog 40 #[.agg (ints .u64 [m0_, m1_, m2_]), .agg (ints .u64 [n0_, n1_, n2_])] w (Ret w (.agg (ints .u64 (nw3 v)))) := by
  refine enter 25 [(0, .agg (ints .u64 ([m0_, m1_, m2_]))), (1, .agg (ints .u64 ([n0_, n1_, n2_])))] Tryd.func40 rfl rfl kj rfl ?_
  refine wp_seq_k fun K1 hK1 => ?_
  refine region_lit ?_
  refine seq_alloc (ints .u64 ([m0_, m1_, m2_])) 66 2 rfl kj kj fun g2 W1 l2 e1 r2_1 => ?_
  have x1 : Ext w W1 := Ext.tr (Rely.Ext.refl w) e1
  have b2 : w.heap.size ≤ g2 := Nat.le_trans (Rely.Ext.refl w).size l2
  refine seq_alloc (ints .u64 ([n0_, n1_, n2_])) 66 3 rfl kj kj fun g3 W2 l3 e2 r3_2 => ?_
  have x2 : Ext w W2 := Ext.tr x1 e2
  have b3 : w.heap.size ≤ g3 := Nat.le_trans x1.size l3
  refine seq_alloc (ints .u64 ([0, 0, 0])) 66 4 rfl kj kj fun g4 W3 l4 e3 r4_3 => ?_
  have x3 : Ext w W3 := Ext.tr x2 e3
  have b4 : w.heap.size ≤ g4 := Nat.le_trans x2.size l4
  refine seq_nil ?_
  refine hK1 _ _ ?_
  try clear hK1 K1
  refine wp_seq_k fun K5 hK5 => ?_
  refine region_lit ?_
  refine seq_val (.int .u64 0) 5 rfl kj kj ?_
  refine seq_nil ?_
  refine hK5 _ _ ?_
  try clear hK5 K5
  refine wp_seq_k fun K6 hK6 => ?_
  refine wp_seq_k fun K7 hK7 => ?_
  refine region_lit ?_
  refine seq_val (.int .i64 0) 7 rfl kj kj ?_
  refine seq_nil ?_
  refine hK7 _ _ ?_
  try clear hK7 K7
  refine wp_block ?_
  refine wp_loop_rounds 4 ?_
  show Code.wp _ _ (Exit.then (Code.rounds _ _ _ 3) _) _ _
  refine wp_seq_k fun K8 hK8 => ?_
  refine region_lit ?_
  refine seq_val (.bool true) 8 rfl kj kj ?_
  refine seq_nil ?_
  refine hK8 _ _ ?_
  try clear hK8 K8
  refine wp_seq_k fun K9 hK9 => ?_
  refine cond_true kj ?_
  refine wp_skip ?_
  refine hK9 _ _ ?_
  try clear hK9 K9
  refine wp_seq_k fun K10 hK10 => ?_
  refine wp_block ?_
  refine wp_seq_k fun K11 hK11 => ?_
  refine region_lit ?_
  refine seq_val (.int .i64 0) 9 rfl kj kj ?_
  refine seq_val (.int .i64 0) 6 rfl kj kj ?_
  refine seq_nil ?_
  refine hK11 _ _ ?_
  try clear hK11 K11
  refine any_regionT (fun W => True) [⟨none, [(6, none)]⟩, ⟨none, [(6, none)]⟩, ⟨none, [(2, none), (12, some 1)]⟩, ⟨none, [(13, some 2)]⟩, ⟨none, [(6, none)]⟩, ⟨none, [(3, none), (15, some 4)]⟩, ⟨none, [(16, some 5)]⟩, ⟨none, [(5, none)]⟩, ⟨none, [(14, some 3), (17, some 6), (18, some 7)]⟩, ⟨none, [(19, some 8)]⟩, ⟨none, [(10, some 9)]⟩, ⟨none, [(10, some 9)]⟩, ⟨none, [(2, none), (11, some 0)]⟩, ⟨none, [(22, some 12), (20, some 10)]⟩, ⟨none, [(21, some 11)]⟩] [] [11, 14] kj kj kj (fun W hR => trivial) fun F hF => ?_
  refine t_val (.int .i64 0) kj kj rfl (fun W => by kernel_rfl) ?_
  refine t_val (.int .i64 0) kj kj rfl (fun W => by kernel_rfl) ?_
  refine t_val (.pointer (some ⟨g2, 0, none⟩)) kj kj rfl (fun W => by kernel_rfl) ?_
  have r2_2 := (row_ext r2_1 e2)
  have r2_3 := (row_ext r2_2 e3)
  refine t_read (.int .u64 m0_) kj kj kj rfl (fun W hR => (run_loadC1 64 _ g2 0 66 _ (.int .u64 m0_) _ (row_ext (row_ext r2_3 (ext_drew _)) hR) rfl kj kj kj)) ?_
  refine t_val (.int .i64 0) kj kj rfl (fun W => by kernel_rfl) ?_
  refine t_val (.pointer (some ⟨g3, 0, none⟩)) kj kj rfl (fun W => by kernel_rfl) ?_
  have r3_3 := (row_ext r3_2 e3)
  refine t_read (.int .u64 n0_) kj kj kj rfl (fun W hR => (run_loadC1 64 _ g3 0 66 _ (.int .u64 n0_) _ (row_ext (row_ext r3_3 (ext_drew _)) hR) rfl kj kj kj)) ?_
  refine t_val (.int .u64 0) kj kj rfl (fun W => by kernel_rfl) ?_
  obtain ⟨s1, d1, hs1, hd1, he1, ra1⟩ := add64 (m0_) (n0_) (0) hm0_ hn0_ ⟨by decide, by decide⟩
  refine t_val (.tuple #[.int .u64 (s1), .int .u64 (d1)]) kj kj rfl (fun W => (run_extF (f := 48) (args := #[.int .u64 m0_, .int .u64 n0_, .int .u64 0]) _ _ _ rfl kj kj (ra1 _))) ?_
  refine t_val (.tuple #[.int .u64 (s1), .int .u64 (d1)]) kj kj rfl (fun W => by kernel_rfl) ?_
  refine t_val (.int .u64 (s1)) kj kj rfl (fun W => by kernel_rfl) ?_
  refine t_val (.int .u64 (d1)) kj kj rfl (fun W => by kernel_rfl) ?_
  refine t_val (.pointer (some ⟨g2, 0, none⟩)) kj kj rfl (fun W => by kernel_rfl) ?_
  refine t_store rfl ?_
  refine t_val (.int .u64 (d1)) kj kj rfl (fun W => by kernel_rfl) ?_
  refine t_nil (hF _ kj fun W4 e4 => ?_)
  simp only [List.nil_append, List.cons_append, fins, up]
  clear hF
  have x4 : Ext w W4 := Ext.tr x3 e4
  have r2_4 := (row_ext r2_3 e4)
  refine te_store _ g2 _ (ints .u64 ([(s1), m1_, m2_])) 66 r2_4 rfl (run_storeI 64 _ _ g2 0 66 _ _ r2_4 rfl kj kj kj (show 0 < 3 by decide)) (fun W hp => trivial) fun W5 p5 r2_5 => ?_
  have x5 : Ext w W5 := Puts.ext p5 x4 b2
  refine te_nil ?_
  refine hK10 _ _ ?_
  try clear hK10 K10
  refine region_lit ?_
  refine seq_val (.int .i64 1) 23 rfl kj kj ?_
  refine seq_val (.int .i64 1) 7 rfl kj kj ?_
  refine seq_nil ?_
  show Code.rounds _ _ _ 3 _ _
  show Code.wp _ _ (Exit.then (Code.rounds _ _ _ 2) _) _ _
  refine wp_seq_k fun K12 hK12 => ?_
  refine region_lit ?_
  refine seq_val (.bool true) 8 rfl kj kj ?_
  refine seq_nil ?_
  refine hK12 _ _ ?_
  try clear hK12 K12
  refine wp_seq_k fun K13 hK13 => ?_
  refine cond_true kj ?_
  refine wp_skip ?_
  refine hK13 _ _ ?_
  try clear hK13 K13
  refine wp_seq_k fun K14 hK14 => ?_
  refine wp_block ?_
  refine wp_seq_k fun K15 hK15 => ?_
  refine region_lit ?_
  refine seq_val (.int .i64 1) 9 rfl kj kj ?_
  refine seq_val (.int .i64 1) 6 rfl kj kj ?_
  refine seq_nil ?_
  refine hK15 _ _ ?_
  try clear hK15 K15
  refine any_regionT (fun W => True) [⟨none, [(6, none)]⟩, ⟨none, [(6, none)]⟩, ⟨none, [(2, none), (12, some 1)]⟩, ⟨none, [(13, some 2)]⟩, ⟨none, [(6, none)]⟩, ⟨none, [(3, none), (15, some 4)]⟩, ⟨none, [(16, some 5)]⟩, ⟨none, [(5, none)]⟩, ⟨none, [(14, some 3), (17, some 6), (18, some 7)]⟩, ⟨none, [(19, some 8)]⟩, ⟨none, [(10, some 9)]⟩, ⟨none, [(10, some 9)]⟩, ⟨none, [(2, none), (11, some 0)]⟩, ⟨none, [(22, some 12), (20, some 10)]⟩, ⟨none, [(21, some 11)]⟩] [] [11, 14] kj kj kj (fun W hR => trivial) fun F hF => ?_
  refine t_val (.int .i64 1) kj kj rfl (fun W => by kernel_rfl) ?_
  refine t_val (.int .i64 1) kj kj rfl (fun W => by kernel_rfl) ?_
  refine t_val (.pointer (some ⟨g2, 1, none⟩)) kj kj rfl (fun W => by kernel_rfl) ?_
  refine t_read (.int .u64 m1_) kj kj kj rfl (fun W hR => (run_loadC1 64 _ g2 1 66 _ (.int .u64 m1_) _ (row_ext (row_ext r2_5 (ext_drew _)) hR) rfl kj kj kj)) ?_
  refine t_val (.int .i64 1) kj kj rfl (fun W => by kernel_rfl) ?_
  refine t_val (.pointer (some ⟨g3, 1, none⟩)) kj kj rfl (fun W => by kernel_rfl) ?_
  have r3_4 := (row_ext r3_3 e4)
  have r3_5 := (Puts.row p5 r3_4 (ne_of_new r2_1 l3))
  refine t_read (.int .u64 n1_) kj kj kj rfl (fun W hR => (run_loadC1 64 _ g3 1 66 _ (.int .u64 n1_) _ (row_ext (row_ext r3_5 (ext_drew _)) hR) rfl kj kj kj)) ?_
  refine t_val (.int .u64 (d1)) kj kj rfl (fun W => by kernel_rfl) ?_
  obtain ⟨s2, d2, hs2, hd2, he2, ra2⟩ := add64 (m1_) (n1_) (d1) hm1_ hn1_ hd1
  refine t_val (.tuple #[.int .u64 (s2), .int .u64 (d2)]) kj kj rfl (fun W => (run_extF (f := 48) (args := #[.int .u64 m1_, .int .u64 n1_, .int .u64 (d1)]) _ _ _ rfl kj kj (ra2 _))) ?_
  refine t_val (.tuple #[.int .u64 (s2), .int .u64 (d2)]) kj kj rfl (fun W => by kernel_rfl) ?_
  refine t_val (.int .u64 (s2)) kj kj rfl (fun W => by kernel_rfl) ?_
  refine t_val (.int .u64 (d2)) kj kj rfl (fun W => by kernel_rfl) ?_
  refine t_val (.pointer (some ⟨g2, 1, none⟩)) kj kj rfl (fun W => by kernel_rfl) ?_
  refine t_store rfl ?_
  refine t_val (.int .u64 (d2)) kj kj rfl (fun W => by kernel_rfl) ?_
  refine t_nil (hF _ kj fun W6 e6 => ?_)
  simp only [List.nil_append, List.cons_append, fins, up]
  clear hF
  have x6 : Ext w W6 := Ext.tr x5 e6
  have r2_6 := (row_ext r2_5 e6)
  refine te_store _ g2 _ (ints .u64 ([(s1), (s2), m2_])) 66 r2_6 rfl (run_storeI 64 _ _ g2 1 66 _ _ r2_6 rfl kj kj kj (show 1 < 3 by decide)) (fun W hp => trivial) fun W7 p7 r2_7 => ?_
  have x7 : Ext w W7 := Puts.ext p7 x6 b2
  refine te_nil ?_
  refine hK14 _ _ ?_
  try clear hK14 K14
  refine region_lit ?_
  refine seq_val (.int .i64 2) 23 rfl kj kj ?_
  refine seq_val (.int .i64 2) 7 rfl kj kj ?_
  refine seq_nil ?_
  show Code.rounds _ _ _ 2 _ _
  show Code.wp _ _ (Exit.then (Code.rounds _ _ _ 1) _) _ _
  refine wp_seq_k fun K16 hK16 => ?_
  refine region_lit ?_
  refine seq_val (.bool true) 8 rfl kj kj ?_
  refine seq_nil ?_
  refine hK16 _ _ ?_
  try clear hK16 K16
  refine wp_seq_k fun K17 hK17 => ?_
  refine cond_true kj ?_
  refine wp_skip ?_
  refine hK17 _ _ ?_
  try clear hK17 K17
  refine wp_seq_k fun K18 hK18 => ?_
  refine wp_block ?_
  refine wp_seq_k fun K19 hK19 => ?_
  refine region_lit ?_
  refine seq_val (.int .i64 2) 9 rfl kj kj ?_
  refine seq_val (.int .i64 2) 6 rfl kj kj ?_
  refine seq_nil ?_
  refine hK19 _ _ ?_
  try clear hK19 K19
  refine any_regionT (fun W => True) [⟨none, [(6, none)]⟩, ⟨none, [(6, none)]⟩, ⟨none, [(2, none), (12, some 1)]⟩, ⟨none, [(13, some 2)]⟩, ⟨none, [(6, none)]⟩, ⟨none, [(3, none), (15, some 4)]⟩, ⟨none, [(16, some 5)]⟩, ⟨none, [(5, none)]⟩, ⟨none, [(14, some 3), (17, some 6), (18, some 7)]⟩, ⟨none, [(19, some 8)]⟩, ⟨none, [(10, some 9)]⟩, ⟨none, [(10, some 9)]⟩, ⟨none, [(2, none), (11, some 0)]⟩, ⟨none, [(22, some 12), (20, some 10)]⟩, ⟨none, [(21, some 11)]⟩] [] [11, 14] kj kj kj (fun W hR => trivial) fun F hF => ?_
  refine t_val (.int .i64 2) kj kj rfl (fun W => by kernel_rfl) ?_
  refine t_val (.int .i64 2) kj kj rfl (fun W => by kernel_rfl) ?_
  refine t_val (.pointer (some ⟨g2, 2, none⟩)) kj kj rfl (fun W => by kernel_rfl) ?_
  refine t_read (.int .u64 m2_) kj kj kj rfl (fun W hR => (run_loadC1 64 _ g2 2 66 _ (.int .u64 m2_) _ (row_ext (row_ext r2_7 (ext_drew _)) hR) rfl kj kj kj)) ?_
  refine t_val (.int .i64 2) kj kj rfl (fun W => by kernel_rfl) ?_
  refine t_val (.pointer (some ⟨g3, 2, none⟩)) kj kj rfl (fun W => by kernel_rfl) ?_
  have r3_6 := (row_ext r3_5 e6)
  have r3_7 := (Puts.row p7 r3_6 (ne_of_new r2_1 l3))
  refine t_read (.int .u64 n2_) kj kj kj rfl (fun W hR => (run_loadC1 64 _ g3 2 66 _ (.int .u64 n2_) _ (row_ext (row_ext r3_7 (ext_drew _)) hR) rfl kj kj kj)) ?_
  refine t_val (.int .u64 (d2)) kj kj rfl (fun W => by kernel_rfl) ?_
  obtain ⟨s3, d3, hs3, hd3, he3, ra3⟩ := add64 (m2_) (n2_) (d2) hm2_ hn2_ hd2
  refine t_val (.tuple #[.int .u64 (s3), .int .u64 (d3)]) kj kj rfl (fun W => (run_extF (f := 48) (args := #[.int .u64 m2_, .int .u64 n2_, .int .u64 (d2)]) _ _ _ rfl kj kj (ra3 _))) ?_
  refine t_val (.tuple #[.int .u64 (s3), .int .u64 (d3)]) kj kj rfl (fun W => by kernel_rfl) ?_
  refine t_val (.int .u64 (s3)) kj kj rfl (fun W => by kernel_rfl) ?_
  refine t_val (.int .u64 (d3)) kj kj rfl (fun W => by kernel_rfl) ?_
  refine t_val (.pointer (some ⟨g2, 2, none⟩)) kj kj rfl (fun W => by kernel_rfl) ?_
  refine t_store rfl ?_
  refine t_val (.int .u64 (d3)) kj kj rfl (fun W => by kernel_rfl) ?_
  refine t_nil (hF _ kj fun W8 e8 => ?_)
  simp only [List.nil_append, List.cons_append, fins, up]
  clear hF
  have x8 : Ext w W8 := Ext.tr x7 e8
  have r2_8 := (row_ext r2_7 e8)
  refine te_store _ g2 _ (ints .u64 ([(s1), (s2), (s3)])) 66 r2_8 rfl (run_storeI 64 _ _ g2 2 66 _ _ r2_8 rfl kj kj kj (show 2 < 3 by decide)) (fun W hp => trivial) fun W9 p9 r2_9 => ?_
  have x9 : Ext w W9 := Puts.ext p9 x8 b2
  refine te_nil ?_
  refine hK18 _ _ ?_
  try clear hK18 K18
  refine region_lit ?_
  refine seq_val (.int .i64 3) 23 rfl kj kj ?_
  refine seq_val (.int .i64 3) 7 rfl kj kj ?_
  refine seq_nil ?_
  show Code.rounds _ _ _ 1 _ _
  show Code.wp _ _ (Exit.then (Code.rounds _ _ _ 0) _) _ _
  refine wp_seq_k fun K20 hK20 => ?_
  refine region_lit ?_
  refine seq_val (.bool false) 8 rfl kj kj ?_
  refine seq_nil ?_
  refine hK20 _ _ ?_
  try clear hK20 K20
  refine wp_seq_k fun K21 hK21 => ?_
  refine cond_false kj ?_
  refine wp_exit ?_
  refine hK6 _ _ ?_
  try clear hK6 K6
  refine wp_seq_k fun K22 hK22 => ?_
  refine region_lit ?_
  refine seq_val (.agg (ints .u64 ([(s1), (s2), (s3)]))) 24 rfl kj (run_load_row 66 _ g2 66 _ _ r2_9 rfl kj kj (isz (n := 3) kj kj)) ?_
  have r4_4 := (row_ext r4_3 e4)
  have r4_5 := (Puts.row p5 r4_4 (ne_of_new r2_2 l4))
  have r4_6 := (row_ext r4_5 e6)
  have r4_7 := (Puts.row p7 r4_6 (ne_of_new r2_2 l4))
  have r4_8 := (row_ext r4_7 e8)
  have r4_9 := (Puts.row p9 r4_8 (ne_of_new r2_2 l4))
  refine seq_store g4 _ (ints .u64 ([(s1), (s2), (s3)])) 66 r4_9 rfl kj (run_store_row 66 _ _ g4 66 _ _ r4_9 rfl kj kj (isz (n := 3) kj kj) (eqsz (n := 3) kj kj) (ints_one _ _)) fun W10 p10 r4_10 => ?_
  have x10 : Ext w W10 := Puts.ext p10 x9 b4
  refine seq_nil ?_
  refine hK22 _ _ ?_
  try clear hK22 K22
  refine wp_ret ?_
  repeat (first | with_reducible refine goR1 ?_ | with_reducible refine goR2 ?_)
  exact (show bodyPost _ _ _ .ret _ _ from ret1 (.agg (ints .u64 ([(s1), (s2), (s3)]))) rfl (res_cell g4 66 _ r4_10 kj kj (isz (n := 3) kj kj)) ⟨by rw [nw3_of (v := v) hs1 hs2 hs3 (by obtain ⟨hs10, hs11⟩ := hs1; obtain ⟨hs20, hs21⟩ := hs2; obtain ⟨hs30, hs31⟩ := hs3; omega)], x10⟩)
theorem plusC (a b : Int) (ha : 0 ≤ a) (hb : 0 ≤ b) (ha2 : a < 6277101735386680763835789423207666416102355444464034512896) (hb2 : b < 6277101735386680763835789423207666416102355444464034512896) (hlt : a + b < 6277101735386680763835789423207666416102355444464034512896) (w : World) :
    Calls Tryd.prog 40 #[.agg (ints .u64 (nw3 a)), .agg (ints .u64 (nw3 b))] w (Ret w (.agg (ints .u64 (nw3 (a + b))))) :=
  plusW _ _ _ _ _ _ (a + b) (word_lo _) (word_lo _) (word_lo _) (word_lo _) (word_lo _) (word_lo _) (by rw [nw3_sum a ha ha2, nw3_sum b hb hb2]) hlt w
set_option maxHeartbeats 4000000 in
theorem valueC (b : List Int) (v : Value) (B : Nat) (w : World) (hb : RdK .u8 B b v w) (hl : b.length ≤ 24) (hbb : AreBytes b) : Calls Tryd.prog 38 #[v] w (Ret w (.agg (ints .u64 (nw3 (lev b))))) := by
  obtain ⟨a_b, c_b, rfl, -⟩ := id hb
  refine enter 27 [(0, .slice a_b b.length c_b)] Tryd.func38 rfl rfl kj rfl ?_
  refine wp_seq_k fun K1 hK1 => ?_
  refine region_lit ?_
  refine seq_alloc (ints .u64 ([0, 0, 0])) 66 2 rfl kj kj fun g2 W1 l2 e1 r2_1 => ?_
  have x1 : Ext w W1 := Ext.tr (Rely.Ext.refl w) e1
  have b2 : w.heap.size ≤ g2 := Nat.le_trans (Rely.Ext.refl w).size l2
  refine seq_nil ?_
  refine hK1 _ _ ?_
  try clear hK1 K1
  refine wp_seq_k fun K3 hK3 => ?_
  refine region_lit ?_
  refine seq_alloc (ints .u64 ([0, 0, 0])) 66 3 rfl kj kj fun g4 W2 l4 e2 r4_2 => ?_
  have x2 : Ext w W2 := Ext.tr x1 e2
  have b4 : w.heap.size ≤ g4 := Nat.le_trans x1.size l4
  refine seq_nil ?_
  refine hK3 _ _ ?_
  try clear hK3 K3
  refine wp_seq_k fun K5 hK5 => ?_
  refine wp_seq_k fun K6 hK6 => ?_
  refine region_lit ?_
  refine seq_val (.slice a_b b.length c_b) 6 rfl kj kj ?_
  refine seq_val (.int .i64 ((b.length : Nat) : Int)) 7 rfl kj kj ?_
  refine seq_val (.int .i64 0) 8 rfl kj kj ?_
  refine seq_nil ?_
  refine hK6 _ _ ?_
  try clear hK6 K6
  refine wp_block ?_
  have r4_2_7 : W2.heap[g4]? = some (.cells (ints .u64 (nw3 (lev (b.take 0)))) 66) := row_eq r4_2 (by rw [List.take_zero]; rfl)
  refine loop_auto (fun (s1 : Nat) => [(2, .pointer (some ⟨g2, 0, none⟩)), (3, .pointer (some ⟨g4, 0, none⟩)), (6, .slice a_b b.length c_b), (7, .int .i64 ((b.length : Nat) : Int)), (8, .int .i64 ((s1 : Nat) : Int))]) (fun (s1 : Nat) W => (s1 ≤ b.length) ∧ (W.heap[g4]? = some (.cells (ints .u64 (nw3 (lev (b.take s1)))) 66)) ∧ (Keeps [g4] W2 W) ∧ (Ext w W)) (fun (s1 : Nat) => b.length - s1) 0 ⟨rfl, rfl, rfl, rfl, rfl, trivial⟩ ⟨(Nat.zero_le _), r4_2_7, (Keeps.refl [g4] W2), x2⟩ fun s1 X1 V1 hI1 => ?_
  obtain ⟨i, hs1⟩ : ∃ z, z = s1 := ⟨_, rfl⟩
  subst hs1
  obtain ⟨hi, q4_1, kk1, xx1⟩ := hI1
  replace hi : i ≤ b.length := hi
  replace q4_1 : V1.heap[g4]? = some (.cells (ints .u64 (nw3 (lev (b.take i)))) 66) := q4_1
  replace kk1 : Keeps [g4] W2 V1 := kk1
  replace xx1 : Ext w V1 := xx1
  have q3 := kk1
  refine wp_seq_k fun K8 hK8 => ?_
  refine region_lit ?_
  refine seq_val (.bool (decide (((i : Nat) : Int) < ((b.length : Nat) : Int)))) 9 rfl kj kj ?_
  refine seq_nil ?_
  refine hK8 _ _ ?_
  try clear hK8 K8
  refine wp_seq_k fun K9 hK9 => ?_
  refine cond_split (t := decide (((i : Nat) : Int) < ((b.length : Nat) : Int))) kj (fun c10 => ?_) (fun c10 => ?_)
  · skip
    have hlt9 : i < b.length := by have := of_decide_eq_true c10; omega
    obtain ⟨grb11, orb11, harb11, -, hlrb11, hcrb11⟩ := rdK_at (RdK.ext hb xx1) (by omega)
    have hbi := bytes_nth hbb i
    have hn0 := lev_nonneg (bytes_take hbb i)
    have hn1 := lev_lt (bytes_take hbb i)
    rw [List.length_take, Nat.min_eq_left (by omega)] at hn1
    obtain ⟨hst1, hst2⟩ := value_step (lev (b.take i)) (nth b i) i (by omega) hn0 hn1 hbi
    rw [← lev_take_succ b i hlt9] at hst1 hst2
    refine wp_skip ?_
    refine hK9 _ _ ?_
    try clear hK9 K9
    refine wp_seq_k fun K12 hK12 => ?_
    refine wp_block ?_
    refine wp_seq_k fun K13 hK13 => ?_
    refine region_lit ?_
    refine seq_val (.int .i64 ((i : Nat) : Int)) 10 rfl kj kj ?_
    refine seq_val (.pointer (some ⟨grb11, orb11 + i, none⟩)) 11 rfl kj (run_indexA 24 _ _ .i64 i grb11 orb11 b.length c_b 5 a_b _ harb11 rfl rfl kj kj kj kj (Nat.lt_of_lt_of_eq (show i < (b).length by omega) (rfl : (b).length = (b).length).symm)) ?_
    refine seq_val (.int .u8 (nth (b) (i))) 12 rfl kj (run_loadCell 5 _ _ (.int .u8 (nth (b) (i))) (hcrb11 i (Nat.lt_of_lt_of_eq (show i < (b).length by omega) (rfl : (b).length = (b).length).symm)) rfl kj kj) ?_
    refine seq_val (.int .i64 ((i : Nat) : Int)) 4 rfl kj kj ?_
    refine seq_val (.int .u8 (nth (b) (i))) 5 rfl kj kj ?_
    refine seq_nil ?_
    refine hK13 _ _ ?_
    try clear hK13 K13
    refine any_regionE 10 [⟨none, [(4, none)]⟩, ⟨none, [(13, some 0)]⟩, ⟨none, [(3, none), (14, some 1)]⟩, ⟨none, [(15, some 2)]⟩, ⟨none, [(5, none)]⟩, ⟨none, [(17, some 4)]⟩, ⟨none, [(4, none)]⟩, ⟨none, [(19, some 6)]⟩, ⟨none, [(20, some 7)]⟩, ⟨none, [(18, some 5), (21, some 8)]⟩] kj kj fun F hF => ?_
    refine e_val (rl_ext _) (.int .i64 ((i : Nat) : Int)) kj kj (fun W => by kernel_rfl) ?_
    refine e_val (rl_ext _) (.int .i64 ((i / 8 : Nat) : Int)) kj kj (fun W => (run_eq (u := .int .i64 (IntKind.i64.wrap (Int.tdiv (((i : Nat) : Int)) (8)))) kj (congrArg (Value.int .i64) (i64_quo _ 8 (by omega))))) ?_
    refine e_val (rl_ext _) (.pointer (some ⟨g4, i / 8, none⟩)) kj kj (fun W => (run_index0 _ _ _ .i64 (i / 8) _ 3 64 rfl kj kj kj kj (by omega))) ?_
    refine e_read (rl_ext _) (.int .u64 (nth (nw3 (lev (b.take i))) (i / 8))) kj kj (fun W hR => (run_loadC1 64 _ g4 (i / 8) 66 _ (.int .u64 (nth (nw3 (lev (b.take i))) (i / 8))) _ (row_ext (row_ext q4_1 (ext_drew _)) hR) rfl kj (ints_get _ _ _ (Nat.lt_of_lt_of_eq (by omega) (nw3_len _).symm)) kj)) ?_
    refine e_val (rl_ext _) (.int .u8 (nth (b) (i))) kj kj (fun W => by kernel_rfl) ?_
    refine e_val (rl_ext _) (.int .u64 (nth b i)) kj kj (fun W => (run_eq (u := .int .u64 (IntKind.u64.wrap (nth (b) (i)))) kj (congrArg (Value.int .u64) (wrap64 _ ⟨hbi.1, by omega⟩)))) ?_
    refine e_val (rl_ext _) (.int .i64 ((i : Nat) : Int)) kj kj (fun W => by kernel_rfl) ?_
    refine e_val (rl_ext _) (.int .i64 ((i % 8 : Nat) : Int)) kj kj (fun W => (run_eq (u := .int .i64 (Int.tmod (((i : Nat) : Int)) (8))) kj (congrArg (Value.int .i64) (nat_rem _ 8)))) ?_
    refine e_val (rl_ext _) (.int .i64 ((8 * (i % 8) : Nat) : Int)) kj kj (fun W => (run_eq (u := .int .i64 (IntKind.i64.wrap (8 * ((i % 8 : Nat) : Int)))) kj (congrArg (Value.int .i64) (i64n _ _ (by omega) (by omega))))) ?_
    refine e_val (rl_ext _) (.int .u64 (nth b i * p256 (i % 8))) kj kj (fun W => (run_bin .shl _ _ _ _ .u64 .i64 _ _ _ rfl kj kj (b_shl _ _ _ _ _ _ (by omega) (shl_x _ (i % 8) _ rfl hbi (by omega))))) ?_
    refine e_nil (hF _ fun W4 e4 => ?_)
    simp only [List.nil_append, List.cons_append, List.take_succ_cons, List.take_zero, List.drop_succ_cons, List.drop_zero, finE, up]
    clear hF
    have x4 : Ext w W4 := Ext.tr xx1 e4
    refine seq_val (.int .u64 (nth (nw3 (lev (b.take (i + 1)))) (i / 8))) 23 rfl kj (run_eq (u := .int .u64 (bits .or .u64 ((nth (nw3 (lev (b.take i))) (i / 8))) ((nth b i * p256 (i % 8))))) kj (congrArg (Value.int .u64) hst1)) ?_
    refine seq_val (.pointer (some ⟨g4, i / 8, none⟩)) 24 rfl kj (run_index0 _ _ _ .i64 (i / 8) _ 3 64 rfl kj kj kj kj (by omega)) ?_
    have r4_4 := (row_ext q4_1 e4)
    refine seq_store g4 _ (ints .u64 ((nw3 (lev (b.take i))).set (i / 8) (nth (nw3 (lev (b.take (i + 1)))) (i / 8)))) 66 r4_4 rfl kj (run_storeI 64 _ _ g4 (i / 8) 66 _ _ r4_4 rfl kj kj kj (Nat.lt_of_lt_of_eq (by omega) (nw3_len _).symm)) fun W5 p5 r4_5 => ?_
    have x5 : Ext w W5 := Puts.ext p5 x4 b4
    refine seq_nil ?_
    refine hK12 _ _ ?_
    try clear hK12 K12
    refine region_lit ?_
    refine seq_val (.int .i64 ((i + 1 : Nat) : Int)) 25 rfl kj (run_eq (u := .int .i64 (IntKind.i64.wrap (((i : Nat) : Int) + 1))) kj (congrArg (Value.int .i64) (i64n _ _ (by omega) (by omega)))) ?_
    refine seq_val (.int .i64 ((i + 1 : Nat) : Int)) 8 rfl kj kj ?_
    refine seq_nil ?_
    repeat (first | with_reducible refine goX1 ?_ | with_reducible refine goX2 ?_ | with_reducible refine goX3 ?_)
    exact goes_then (i + 1) ⟨rfl, rfl, rfl, rfl, rfl, trivial⟩ ⟨(show i + 1 ≤ b.length by omega), (row_eq r4_5 hst2), (Keeps.puts (Keeps.step q3 e4) p5 (.inl (by simp))), x5⟩ (by show b.length - (i + 1) < b.length - i; omega)
  · skip
    have heq9 : i = b.length := by have := of_decide_eq_false c10; omega
    subst heq9
    have r4_3_14 : V1.heap[g4]? = some (.cells (ints .u64 (nw3 (lev b))) 66) := row_eq q4_1 (by rw [List.take_length])
    refine wp_exit ?_
    refine hK5 _ _ ?_
    try clear hK5 K5
    refine wp_seq_k fun K15 hK15 => ?_
    refine region_lit ?_
    refine seq_val (.agg (ints .u64 (nw3 (lev b)))) 26 rfl kj (run_load_row 66 _ g4 66 _ _ r4_3_14 rfl kj kj (isz (n := 3) kj ((ints_size _ _).trans (nw3_len _)))) ?_
    have r2_2 := (row_ext r2_1 e2)
    have r2_3 := (Keeps.row q3 r2_2 (nm_cons (ne_of_old r2_1 l4) nm_nil))
    refine seq_store g2 _ (ints .u64 (nw3 (lev b))) 66 r2_3 rfl kj (run_store_row 66 _ _ g2 66 _ _ r2_3 rfl kj kj (isz (n := 3) kj ((ints_size _ _).trans (nw3_len _))) (eqsz (n := 3) kj ((ints_size _ _).trans (nw3_len _))) (ints_one _ _)) fun W4 p4 r2_4 => ?_
    have x4 : Ext w W4 := Puts.ext p4 xx1 b2
    refine seq_nil ?_
    refine hK15 _ _ ?_
    try clear hK15 K15
    refine wp_ret ?_
    repeat (first | with_reducible refine goR1 ?_ | with_reducible refine goR2 ?_)
    exact (show bodyPost _ _ _ .ret _ _ from ret1 (.agg (ints .u64 (nw3 (lev b)))) rfl (res_cell g2 66 _ r2_4 kj kj (isz (n := 3) kj ((ints_size _ _).trans (nw3_len _)))) ⟨rfl, x4⟩)

end Go.Proofs.YtjldjdlhllgakaaDoor.Ae
