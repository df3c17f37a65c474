/- Texts of this claim, joined (Q4). -/
import Derived.Test.YtoiendjhplbjjaaDoorZQ3
import Derived.Laws.Externs
import Derived.Shelf.Spec.BitsCarry
import Derived.Shelf.Bits.Mul64
import Derived.Laws.Bits64b
import Derived.Laws.BitsAll
import Derived.Laws.IdiomStrings

section
namespace Go.Proofs.YtoiendjhplbjjaaDoor.Ae
open Go Go.RowKit
open Rely Auto Own Sha
set_option linter.unusedVariables false
set_option linter.unusedSimpArgs false
open Sha Cha
def QhX (b : List Int) : List Int :=
  let b1 := b.set 3 (nth b 3 % 16)
  let b2 := b1.set 7 (nth b1 7 % 16)
  let b3 := b2.set 11 (nth b2 11 % 16)
  let b4 := b3.set 15 (nth b3 15 % 16)
  let b5 := b4.set 4 (nth b4 4 / 4 * 4)
  let b6 := b5.set 8 (nth b5 8 / 4 * 4)
  let b7 := b6.set 12 (nth b6 12 / 4 * 4)
  b7
theorem Qgg : ∀ key : List Int, key.length = 32 → ((QhX key).drop 0).take (16 - 0) = QdU ((key.drop 0).take (16 - 0))
  | [a0, a1, a2, a3, a4, a5, a6, a7, a8, a9, a10, a11, a12, a13, a14, a15, a16, a17, a18, a19, a20, a21, a22, a23, a24, a25, a26, a27, a28, a29, a30, a31], _ => by kernel_rfl
theorem QiF (x : Int) (h : 0 ≤ x ∧ x < 256) : bits .and .u8 x 15 = x % 16 := by
  have : ∀ n : Fin 256, bits .and .u8 ((n.1 : Nat) : Int) 15 = ((n.1 : Nat) : Int) % 16 := by decide +kernel
  obtain ⟨X, rfl⟩ := Int.eq_ofNat_of_zero_le h.1
  exact this ⟨X, by omega⟩
theorem Qia (x : Int) (h : 0 ≤ x ∧ x < 256) : bits .and .u8 x 252 = x / 4 * 4 := by
  have : ∀ n : Fin 256, bits .and .u8 ((n.1 : Nat) : Int) 252 = ((n.1 : Nat) : Int) / 4 * 4 := by decide +kernel
  obtain ⟨X, rfl⟩ := Int.eq_ofNat_of_zero_le h.1
  exact this ⟨X, by omega⟩
theorem Qji {r : Int} {t : List Int} {q : Nat} (h : t.length = 16 * q + 0) : Qdn r t = QcS r t q := by unfold Qdn; rw [show (t.length + 15) / 16 = q by omega]
theorem Qky {r S : Int} {t : List Int} {q m : Nat} (hu : t.length = 16 * q + m) (h0 : 0 < m) (hm : m < 16) (hS : S % PP = QcS r t q) : Qel r S (t.drop (16 * q)) % PP = Qdn r t := by
  unfold Qdn
  rw [show (t.length + 15) / 16 = q + 1 by omega]
  unfold QcS Qel
  rw [List.take_of_length_le (by rw [List.length_drop]; omega)]
  exact Qe7 hS (Qgz _)
theorem geq4 (S : Int) (h0 : 0 ≤ S) (h : S < 2041694201525630780780247644590609268736) : decide (nth (nw3 (S + 5)) 2 ≥ 4) = decide (1361129467683753853853498429727072845824 ≤ S + 5) := by
  have e : nth (nw3 (S + 5)) 2 = (S + 5) / 340282366920938463463374607431768211456 % 18446744073709551616 := rfl
  rw [e]
  exact decide_eq_decide.2 (by omega)
theorem QgA (x : Int) : by16 (x + 1361129467683753853853498429727072845824) = by16 x := by
  unfold by16
  refine List.map_congr_left fun i hi => ?_
  rw [List.mem_range] at hi
  have h1 : (1361129467683753853853498429727072845824 : Int) = p256 i * (256 * (4 * p256 (15 - i))) := by
    have h2 : p256 16 = p256 i * p256 (16 - i) := by rw [← Qdb]; congr 1; omega
    rw [show 16 - i = (15 - i) + 1 by omega, Qdv (15 - i), p16] at h2
    grind
  rw [h1, Int.add_mul_ediv_left _ _ (Int.ne_of_gt (QcG i))]
  omega
theorem Qi8 (a : Int) (b c : Nat) : a / p256 b / p256 c = a / p256 (b + c) := by
  rw [Qdb, Int.ediv_ediv, if_neg (by have := QcG b; omega)]; exact Int.sub_zero _
theorem Qec (V : Int) (i : Nat) (hi : i < 16) : IntKind.u8.wrap (nth (nw3 V) (i / 8) / p256 (i % 8)) = nth (by16 V) i := by
  have h3 : ∀ z : Int, IntKind.u8.wrap z = z % 256 := fun _ => rfl
  have hp8 : p256 8 = 18446744073709551616 := by decide +kernel
  rw [h3, QiD _ _ hi]
  have hB : (18446744073709551616 : Int) = p256 (i % 8) * (256 * p256 (7 - i % 8)) := by
    have h2 : p256 8 = p256 (i % 8) * p256 (8 - i % 8) := by rw [← Qdb]; congr 1; omega
    rw [show 8 - i % 8 = (7 - i % 8) + 1 by omega, Qdv (7 - i % 8), hp8] at h2
    exact h2
  have key : ∀ x : Int, x % 18446744073709551616 / p256 (i % 8) % 256 = x / p256 (i % 8) % 256 := fun x => by
    have h5 : x = x % 18446744073709551616 + p256 (i % 8) * (256 * (p256 (7 - i % 8) * (x / 18446744073709551616))) := by
      have h6 : x = x % 18446744073709551616 + 18446744073709551616 * (x / 18446744073709551616) := (Int.emod_add_mul_ediv x _).symm
      have h7 : (18446744073709551616 : Int) * (x / 18446744073709551616) = p256 (i % 8) * (256 * (p256 (7 - i % 8) * (x / 18446744073709551616))) := by
        generalize x / 18446744073709551616 = y at *
        rw [hB]; grind
      omega
    have h8 : x / p256 (i % 8) = x % 18446744073709551616 / p256 (i % 8) + 256 * (p256 (7 - i % 8) * (x / 18446744073709551616)) := by
      have h9 := Int.add_mul_ediv_left (x % 18446744073709551616) (256 * (p256 (7 - i % 8) * (x / 18446744073709551616))) (Int.ne_of_gt (QcG (i % 8)))
      rw [← h5] at h9
      exact h9
    omega
  rcases (show i / 8 = 0 ∨ i / 8 = 1 by omega) with h | h
  · rw [h]
    show V % 18446744073709551616 / p256 (i % 8) % 256 = _
    rw [key, show i % 8 = i by omega]
  · rw [h]
    show V / 18446744073709551616 % 18446744073709551616 / p256 (i % 8) % 256 = _
    rw [key, ← hp8, Qi8, show 8 + i % 8 = i by omega]
theorem shr8 (q : Int) (t : Nat) (c : Int) (hc : c = ((8 * t : Nat) : Int)) (ht : t < 8) : q.fdiv (2 ^ min c.toNat IntKind.u64.bits) = q / p256 t := by
  subst hc
  have hm : min (((8 * t : Nat) : Int)).toNat IntKind.u64.bits = 8 * t := by show min (((8 * t : Nat) : Int)).toNat 64 = 8 * t; omega
  have e : (2 : Int) ^ (8 * t) = p256 t := by unfold p256; rw [Int.pow_mul]; rfl
  rw [hm, e, Int.fdiv_eq_ediv_of_nonneg _ (Int.le_of_lt (QcG t))]
theorem QgB {b : List Int} (h : Qaj b) (i : Nat) : Qaj (b.set i (nth b i % 16)) := QbB h _ (by omega) (by omega)
theorem Qj4 {b : List Int} (h : Qaj b) (i : Nat) : Qaj (b.set i (nth b i / 4 * 4)) := QbB h _ (by have := Qbb h i; omega) (by have := Qbb h i; omega)
theorem QeC (key : List Int) (hkl : key.length = 32) (hkb : Qaj key) : 0 ≤ rOf key ∧ rOf key < 21267647932558653966460912964485513216 := by
  unfold rOf
  obtain ⟨b0, e0⟩ : ∃ z, z = (key.drop 0).take (16 - 0) := ⟨_, rfl⟩
  have hl0 : b0.length = 16 := by rw [e0, List.length_take, List.length_drop, hkl]; rfl
  have hb0 : Qaj b0 := e0 ▸ QaW (Qb0 hkb 0) _
  rw [← e0]
  have hcb : Qaj (QdU b0) := by
    exact Qj4 (Qj4 (Qj4 (QgB (QgB (QgB (QgB hb0 3) 7) 11) 15) 4) 8) 12
  have hl : (QdU b0).length = 16 := by unfold QdU; simp only [List.length_set, hl0]
  have h15 : nth (QdU b0) 15 ≤ 15 := by
    obtain ⟨x15, e15⟩ : ∃ x, nth (QdU b0) 15 = x % 16 := by
      match b0, hl0 with
      | [a0, a1, a2, a3, a4, a5, a6, a7, a8, a9, a10, a11, a12, a13, a14, a15], _ => exact ⟨a15, rfl⟩
    rw [e15]; omega
  have h1 := Qdx (QdU b0) 15 (by omega)
  rw [List.take_of_length_le (by omega)] at h1
  have h2 := QfC (QaW hcb 15)
  have h3 := Qc4 hcb
  rw [List.length_take, Nat.min_eq_left (by omega)] at h2
  have hp15 : p256 15 = 1329227995784915872903807060280344576 := by decide +kernel
  rw [hp15] at h1 h2
  omega
theorem QjO (key : List Int) (hkl : key.length = 32) (hkb : Qaj key) : 0 ≤ sOf key ∧ sOf key < 340282366920938463463374607431768211456 := by
  unfold sOf
  have h1 := QfC (QaW (Qb0 hkb 16) (32 - 16))
  rw [List.length_take, List.length_drop, hkl] at h1
  exact ⟨Qc4 (QaW (Qb0 hkb 16) _), by rw [← p16]; exact h1⟩
set_option maxRecDepth 100000 in
set_option maxHeartbeats 4000000 in
theorem QgT (key : List Int) (w : World) (hkl : key.length = 32) (hkb : Qaj key) : Calls Tryd.prog 142 #[.agg (ints .u8 key)] w (QbT w (fun v W => ∃ g, v = .pointer (some ⟨g, 0, none⟩) ∧ w.heap.size ≤ g ∧ Mk g (rOf key) (sOf key) [] W)) := by
  refine enter 35 [(0, .agg (ints .u8 (key)))] Tryd.func142 rfl rfl kj rfl ?_
  refine wp_seq_k fun K1 hK1 => ?_
  refine Qab ?_
  refine Qaq (ints .u8 (key)) 23 1 rfl kj kj fun g2 W1 l2 e1 r2_1 => ?_
  have x1 : Ext w W1 := Ext.tr (Rely.Ext.refl w) e1
  have b2 : w.heap.size ≤ g2 := Nat.le_trans (Rely.Ext.refl w).size l2
  refine Qaa (.pointer none) 2 rfl kj kj ?_
  refine Qac ?_
  refine hK1 _ _ ?_
  refine wp_seq_k fun K3 hK3 => ?_
  refine Qab ?_
  refine Qaa (.slice (some ⟨g2, 0 + 16, none⟩) (32 - 16) (32 - 16)) 8 rfl kj (Qbe 23 _ _ _ 16 32 32 g2 0 5 rfl kj kj kj ⟨.i64, by kernel_rfl⟩ rfl (by omega) (by omega) (by omega)) ?_
  refine Qax (.agg (ints .u64 (nw3 (lev ((key.drop 16).take (32 - 16)))))) 157 #[.slice (some ⟨g2, 0 + 16, none⟩) (32 - 16) (32 - 16)] 9 rfl kj kj ((Qhh ((key.drop 16).take (32 - 16)) _ _ _ (Qhx (l := 16) (h := 32) hkl r2_1 (by decide) (by decide) (by decide)) (by rw [List.length_take]; omega) (QaW (Qb0 hkb 16) _))) fun W2 e2 => ?_
  have x2 : Ext w W2 := Ext.tr x1 e2
  refine Qaq (ints .u64 ([0, 0, 0])) 221 3 rfl kj kj fun g4 W3 l4 e3 r4_3 => ?_
  have x3 : Ext w W3 := Ext.tr x2 e3
  have b4 : w.heap.size ≤ g4 := Nat.le_trans x2.size l4
  refine Qah g4 _ (ints .u64 (nw3 (lev ((key.drop 16).take (32 - 16))))) 221 r4_3 rfl kj (Qam 221 _ _ g4 221 _ _ r4_3 rfl kj kj (isz (n := 3) kj ((Qaf _ _).trans (Qa2 _))) (eqsz (n := 3) kj ((Qaf _ _).trans (Qa2 _))) (Qay _ _)) fun W4 p4 r4_4 => ?_
  have x4 : Ext w W4 := Puts.ext p4 x3 b4
  refine Qac ?_
  refine hK3 _ _ ?_
  refine wp_seq_k fun K5 hK5 => ?_
  refine wp_seq_k fun K6 hK6 => ?_
  refine Qab ?_
  refine Qaa (.agg (ints .i64 ([3, 7, 11, 15]))) 10 rfl kj kj ?_
  refine Qaa (.int .i64 0) 11 rfl kj kj ?_
  refine Qac ?_
  refine hK6 _ _ ?_
  refine wp_block ?_
  refine wp_loop_rounds 5 ?_
  show Code.wp _ _ (Exit.then (Code.rounds _ _ _ 4) _) _ _
  refine wp_seq_k fun K7 hK7 => ?_
  refine Qab ?_
  refine Qaa (.bool true) 12 rfl kj kj ?_
  refine Qac ?_
  refine hK7 _ _ ?_
  refine wp_seq_k fun K8 hK8 => ?_
  refine cond_true kj ?_
  refine wp_skip ?_
  refine hK8 _ _ ?_
  refine wp_seq_k fun K9 hK9 => ?_
  refine wp_block ?_
  refine wp_seq_k fun K10 hK10 => ?_
  refine Qab ?_
  refine Qaa (.int .i64 3) 13 rfl kj (Qau 216 _ _ .i64 .i64 ([3, 7, 11, 15]) 0 4 3 3 rfl kj kj kj kj kj rfl (by decide) rfl) ?_
  refine Qaa (.int .i64 3) 5 rfl kj kj ?_
  refine Qac ?_
  refine hK10 _ _ ?_
  refine Qab ?_
  refine Qaa (.int .i64 3) 14 rfl kj kj ?_
  refine Qaa (.pointer (some ⟨g2, 3, none⟩)) 15 rfl kj kj ?_
  have r2_2 := (Qad r2_1 e2)
  have r2_3 := (Qad r2_2 e3)
  have r2_4 := (Puts.row p4 r2_3 (Qae r2_2 l4))
  refine Qaa (.int .u8 (nth (key) 3)) 16 rfl kj (Qag 5 _ g2 3 23 _ (.int .u8 (nth (key) 3)) _ r2_4 rfl kj (Qa1 _ _ _ (Nat.lt_of_lt_of_eq (by decide) hkl.symm)) kj) ?_
  refine Qaa (.int .u8 (nth key 3 % 16)) 17 rfl kj (Qal (u := .int .u8 (bits .and .u8 ((nth (key) 3)) (15))) kj (congrArg (Value.int .u8) (QiF _ (Qbb hkb 3)))) ?_
  refine Qaa (.pointer (some ⟨g2, 3, none⟩)) 18 rfl kj kj ?_
  refine Qah g2 _ (ints .u8 ((key).set 3 (nth key 3 % 16))) 23 r2_4 rfl kj (Qai 5 _ _ g2 3 23 _ _ r2_4 rfl kj kj kj (Nat.lt_of_lt_of_eq (show 3 < 32 by decide) hkl.symm)) fun W5 p5 r2_5 => ?_
  have x5 : Ext w W5 := Puts.ext p5 x4 b2
  obtain ⟨c1_, ec1_⟩ : ∃ z, z = (key).set 3 (nth key 3 % 16) := ⟨_, rfl⟩
  have hlc1_ : c1_.length = 32 := by rw [ec1_, List.length_set, hkl]
  have hxc1_ := Qbb hkb 3
  have hbc1_ : Qaj c1_ := ec1_ ▸ QbB hkb _ (by omega) (by omega)
  have r2_5_11 : W5.heap[g2]? = some (.cells (ints .u8 (c1_)) 23) := QaA r2_5 (by rw [ec1_])
  refine Qac ?_
  refine hK9 _ _ ?_
  refine Qab ?_
  refine Qaa (.int .i64 1) 19 rfl kj kj ?_
  refine Qaa (.int .i64 1) 11 rfl kj kj ?_
  refine Qac ?_
  show Code.rounds _ _ _ 4 _ _
  show Code.wp _ _ (Exit.then (Code.rounds _ _ _ 3) _) _ _
  refine wp_seq_k fun K12 hK12 => ?_
  refine Qab ?_
  refine Qaa (.bool true) 12 rfl kj kj ?_
  refine Qac ?_
  refine hK12 _ _ ?_
  refine wp_seq_k fun K13 hK13 => ?_
  refine cond_true kj ?_
  refine wp_skip ?_
  refine hK13 _ _ ?_
  refine wp_seq_k fun K14 hK14 => ?_
  refine wp_block ?_
  refine wp_seq_k fun K15 hK15 => ?_
  refine Qab ?_
  refine Qaa (.int .i64 7) 13 rfl kj (Qau 216 _ _ .i64 .i64 ([3, 7, 11, 15]) 1 4 3 7 rfl kj kj kj kj kj rfl (by decide) rfl) ?_
  refine Qaa (.int .i64 7) 5 rfl kj kj ?_
  refine Qac ?_
  refine hK15 _ _ ?_
  refine Qab ?_
  refine Qaa (.int .i64 7) 14 rfl kj kj ?_
  refine Qaa (.pointer (some ⟨g2, 7, none⟩)) 15 rfl kj kj ?_
  refine Qaa (.int .u8 (nth (c1_) 7)) 16 rfl kj (Qag 5 _ g2 7 23 _ (.int .u8 (nth (c1_) 7)) _ r2_5_11 rfl kj (Qa1 _ _ _ (Nat.lt_of_lt_of_eq (by decide) hlc1_.symm)) kj) ?_
  refine Qaa (.int .u8 (nth c1_ 7 % 16)) 17 rfl kj (Qal (u := .int .u8 (bits .and .u8 ((nth (c1_) 7)) (15))) kj (congrArg (Value.int .u8) (QiF _ (Qbb hbc1_ 7)))) ?_
  refine Qaa (.pointer (some ⟨g2, 7, none⟩)) 18 rfl kj kj ?_
  refine Qah g2 _ (ints .u8 ((c1_).set 7 (nth c1_ 7 % 16))) 23 r2_5_11 rfl kj (Qai 5 _ _ g2 7 23 _ _ r2_5_11 rfl kj kj kj (Nat.lt_of_lt_of_eq (show 7 < 32 by decide) hlc1_.symm)) fun W6 p6 r2_6 => ?_
  have x6 : Ext w W6 := Puts.ext p6 x5 b2
  obtain ⟨c2_, ec2_⟩ : ∃ z, z = (c1_).set 7 (nth c1_ 7 % 16) := ⟨_, rfl⟩
  have hlc2_ : c2_.length = 32 := by rw [ec2_, List.length_set, hlc1_]
  have hxc2_ := Qbb hbc1_ 7
  have hbc2_ : Qaj c2_ := ec2_ ▸ QbB hbc1_ _ (by omega) (by omega)
  have r2_6_16 : W6.heap[g2]? = some (.cells (ints .u8 (c2_)) 23) := QaA r2_6 (by rw [ec2_])
  refine Qac ?_
  refine hK14 _ _ ?_
  refine Qab ?_
  refine Qaa (.int .i64 2) 19 rfl kj kj ?_
  refine Qaa (.int .i64 2) 11 rfl kj kj ?_
  refine Qac ?_
  show Code.rounds _ _ _ 3 _ _
  show Code.wp _ _ (Exit.then (Code.rounds _ _ _ 2) _) _ _
  refine wp_seq_k fun K17 hK17 => ?_
  refine Qab ?_
  refine Qaa (.bool true) 12 rfl kj kj ?_
  refine Qac ?_
  refine hK17 _ _ ?_
  refine wp_seq_k fun K18 hK18 => ?_
  refine cond_true kj ?_
  refine wp_skip ?_
  refine hK18 _ _ ?_
  refine wp_seq_k fun K19 hK19 => ?_
  refine wp_block ?_
  refine wp_seq_k fun K20 hK20 => ?_
  refine Qab ?_
  refine Qaa (.int .i64 11) 13 rfl kj (Qau 216 _ _ .i64 .i64 ([3, 7, 11, 15]) 2 4 3 11 rfl kj kj kj kj kj rfl (by decide) rfl) ?_
  refine Qaa (.int .i64 11) 5 rfl kj kj ?_
  refine Qac ?_
  refine hK20 _ _ ?_
  refine Qab ?_
  refine Qaa (.int .i64 11) 14 rfl kj kj ?_
  refine Qaa (.pointer (some ⟨g2, 11, none⟩)) 15 rfl kj kj ?_
  refine Qaa (.int .u8 (nth (c2_) 11)) 16 rfl kj (Qag 5 _ g2 11 23 _ (.int .u8 (nth (c2_) 11)) _ r2_6_16 rfl kj (Qa1 _ _ _ (Nat.lt_of_lt_of_eq (by decide) hlc2_.symm)) kj) ?_
  refine Qaa (.int .u8 (nth c2_ 11 % 16)) 17 rfl kj (Qal (u := .int .u8 (bits .and .u8 ((nth (c2_) 11)) (15))) kj (congrArg (Value.int .u8) (QiF _ (Qbb hbc2_ 11)))) ?_
  refine Qaa (.pointer (some ⟨g2, 11, none⟩)) 18 rfl kj kj ?_
  refine Qah g2 _ (ints .u8 ((c2_).set 11 (nth c2_ 11 % 16))) 23 r2_6_16 rfl kj (Qai 5 _ _ g2 11 23 _ _ r2_6_16 rfl kj kj kj (Nat.lt_of_lt_of_eq (show 11 < 32 by decide) hlc2_.symm)) fun W7 p7 r2_7 => ?_
  have x7 : Ext w W7 := Puts.ext p7 x6 b2
  obtain ⟨c3_, ec3_⟩ : ∃ z, z = (c2_).set 11 (nth c2_ 11 % 16) := ⟨_, rfl⟩
  have hlc3_ : c3_.length = 32 := by rw [ec3_, List.length_set, hlc2_]
  have hxc3_ := Qbb hbc2_ 11
  have hbc3_ : Qaj c3_ := ec3_ ▸ QbB hbc2_ _ (by omega) (by omega)
  have r2_7_21 : W7.heap[g2]? = some (.cells (ints .u8 (c3_)) 23) := QaA r2_7 (by rw [ec3_])
  refine Qac ?_
  refine hK19 _ _ ?_
  refine Qab ?_
  refine Qaa (.int .i64 3) 19 rfl kj kj ?_
  refine Qaa (.int .i64 3) 11 rfl kj kj ?_
  refine Qac ?_
  show Code.rounds _ _ _ 2 _ _
  show Code.wp _ _ (Exit.then (Code.rounds _ _ _ 1) _) _ _
  refine wp_seq_k fun K22 hK22 => ?_
  refine Qab ?_
  refine Qaa (.bool true) 12 rfl kj kj ?_
  refine Qac ?_
  refine hK22 _ _ ?_
  refine wp_seq_k fun K23 hK23 => ?_
  refine cond_true kj ?_
  refine wp_skip ?_
  refine hK23 _ _ ?_
  refine wp_seq_k fun K24 hK24 => ?_
  refine wp_block ?_
  refine wp_seq_k fun K25 hK25 => ?_
  refine Qab ?_
  refine Qaa (.int .i64 15) 13 rfl kj (Qau 216 _ _ .i64 .i64 ([3, 7, 11, 15]) 3 4 3 15 rfl kj kj kj kj kj rfl (by decide) rfl) ?_
  refine Qaa (.int .i64 15) 5 rfl kj kj ?_
  refine Qac ?_
  refine hK25 _ _ ?_
  refine Qab ?_
  refine Qaa (.int .i64 15) 14 rfl kj kj ?_
  refine Qaa (.pointer (some ⟨g2, 15, none⟩)) 15 rfl kj kj ?_
  refine Qaa (.int .u8 (nth (c3_) 15)) 16 rfl kj (Qag 5 _ g2 15 23 _ (.int .u8 (nth (c3_) 15)) _ r2_7_21 rfl kj (Qa1 _ _ _ (Nat.lt_of_lt_of_eq (by decide) hlc3_.symm)) kj) ?_
  refine Qaa (.int .u8 (nth c3_ 15 % 16)) 17 rfl kj (Qal (u := .int .u8 (bits .and .u8 ((nth (c3_) 15)) (15))) kj (congrArg (Value.int .u8) (QiF _ (Qbb hbc3_ 15)))) ?_
  refine Qaa (.pointer (some ⟨g2, 15, none⟩)) 18 rfl kj kj ?_
  refine Qah g2 _ (ints .u8 ((c3_).set 15 (nth c3_ 15 % 16))) 23 r2_7_21 rfl kj (Qai 5 _ _ g2 15 23 _ _ r2_7_21 rfl kj kj kj (Nat.lt_of_lt_of_eq (show 15 < 32 by decide) hlc3_.symm)) fun W8 p8 r2_8 => ?_
  have x8 : Ext w W8 := Puts.ext p8 x7 b2
  obtain ⟨c4_, ec4_⟩ : ∃ z, z = (c3_).set 15 (nth c3_ 15 % 16) := ⟨_, rfl⟩
  have hlc4_ : c4_.length = 32 := by rw [ec4_, List.length_set, hlc3_]
  have hxc4_ := Qbb hbc3_ 15
  have hbc4_ : Qaj c4_ := ec4_ ▸ QbB hbc3_ _ (by omega) (by omega)
  have r2_8_26 : W8.heap[g2]? = some (.cells (ints .u8 (c4_)) 23) := QaA r2_8 (by rw [ec4_])
  refine Qac ?_
  refine hK24 _ _ ?_
  refine Qab ?_
  refine Qaa (.int .i64 4) 19 rfl kj kj ?_
  refine Qaa (.int .i64 4) 11 rfl kj kj ?_
  refine Qac ?_
  show Code.rounds _ _ _ 1 _ _
  show Code.wp _ _ (Exit.then (Code.rounds _ _ _ 0) _) _ _
  refine wp_seq_k fun K27 hK27 => ?_
  refine Qab ?_
  refine Qaa (.bool false) 12 rfl kj kj ?_
  refine Qac ?_
  refine hK27 _ _ ?_
  refine wp_seq_k fun K28 hK28 => ?_
  refine cond_false kj ?_
  refine wp_exit ?_
  refine hK5 _ _ ?_
  refine wp_seq_k fun K29 hK29 => ?_
  refine wp_seq_k fun K30 hK30 => ?_
  refine Qab ?_
  refine Qaa (.agg (ints .i64 ([4, 8, 12]))) 20 rfl kj kj ?_
  refine Qaa (.int .i64 0) 21 rfl kj kj ?_
  refine Qac ?_
  refine hK30 _ _ ?_
  refine wp_block ?_
  refine wp_loop_rounds 4 ?_
  show Code.wp _ _ (Exit.then (Code.rounds _ _ _ 3) _) _ _
  refine wp_seq_k fun K31 hK31 => ?_
  refine Qab ?_
  refine Qaa (.bool true) 22 rfl kj kj ?_
  refine Qac ?_
  refine hK31 _ _ ?_
  refine wp_seq_k fun K32 hK32 => ?_
  refine cond_true kj ?_
  refine wp_skip ?_
  refine hK32 _ _ ?_
  refine wp_seq_k fun K33 hK33 => ?_
  refine wp_block ?_
  refine wp_seq_k fun K34 hK34 => ?_
  refine Qab ?_
  refine Qaa (.int .i64 4) 23 rfl kj (Qau 223 _ _ .i64 .i64 ([4, 8, 12]) 0 3 3 4 rfl kj kj kj kj kj rfl (by decide) rfl) ?_
  refine Qaa (.int .i64 4) 7 rfl kj kj ?_
  refine Qac ?_
  refine hK34 _ _ ?_
  refine Qab ?_
  refine Qaa (.int .i64 4) 24 rfl kj kj ?_
  refine Qaa (.pointer (some ⟨g2, 4, none⟩)) 25 rfl kj kj ?_
  refine Qaa (.int .u8 (nth (c4_) 4)) 26 rfl kj (Qag 5 _ g2 4 23 _ (.int .u8 (nth (c4_) 4)) _ r2_8_26 rfl kj (Qa1 _ _ _ (Nat.lt_of_lt_of_eq (by decide) hlc4_.symm)) kj) ?_
  refine Qaa (.int .u8 (nth c4_ 4 / 4 * 4)) 27 rfl kj (Qal (u := .int .u8 (bits .and .u8 ((nth (c4_) 4)) (252))) kj (congrArg (Value.int .u8) (Qia _ (Qbb hbc4_ 4)))) ?_
  refine Qaa (.pointer (some ⟨g2, 4, none⟩)) 28 rfl kj kj ?_
  refine Qah g2 _ (ints .u8 ((c4_).set 4 (nth c4_ 4 / 4 * 4))) 23 r2_8_26 rfl kj (Qai 5 _ _ g2 4 23 _ _ r2_8_26 rfl kj kj kj (Nat.lt_of_lt_of_eq (show 4 < 32 by decide) hlc4_.symm)) fun W9 p9 r2_9 => ?_
  have x9 : Ext w W9 := Puts.ext p9 x8 b2
  obtain ⟨c5_, ec5_⟩ : ∃ z, z = (c4_).set 4 (nth c4_ 4 / 4 * 4) := ⟨_, rfl⟩
  have hlc5_ : c5_.length = 32 := by rw [ec5_, List.length_set, hlc4_]
  have hxc5_ := Qbb hbc4_ 4
  have hbc5_ : Qaj c5_ := ec5_ ▸ QbB hbc4_ _ (by omega) (by omega)
  have r2_9_35 : W9.heap[g2]? = some (.cells (ints .u8 (c5_)) 23) := QaA r2_9 (by rw [ec5_])
  refine Qac ?_
  refine hK33 _ _ ?_
  refine Qab ?_
  refine Qaa (.int .i64 1) 29 rfl kj kj ?_
  refine Qaa (.int .i64 1) 21 rfl kj kj ?_
  refine Qac ?_
  show Code.rounds _ _ _ 3 _ _
  show Code.wp _ _ (Exit.then (Code.rounds _ _ _ 2) _) _ _
  refine wp_seq_k fun K36 hK36 => ?_
  refine Qab ?_
  refine Qaa (.bool true) 22 rfl kj kj ?_
  refine Qac ?_
  refine hK36 _ _ ?_
  refine wp_seq_k fun K37 hK37 => ?_
  refine cond_true kj ?_
  refine wp_skip ?_
  refine hK37 _ _ ?_
  refine wp_seq_k fun K38 hK38 => ?_
  refine wp_block ?_
  refine wp_seq_k fun K39 hK39 => ?_
  refine Qab ?_
  refine Qaa (.int .i64 8) 23 rfl kj (Qau 223 _ _ .i64 .i64 ([4, 8, 12]) 1 3 3 8 rfl kj kj kj kj kj rfl (by decide) rfl) ?_
  refine Qaa (.int .i64 8) 7 rfl kj kj ?_
  refine Qac ?_
  refine hK39 _ _ ?_
  refine Qab ?_
  refine Qaa (.int .i64 8) 24 rfl kj kj ?_
  refine Qaa (.pointer (some ⟨g2, 8, none⟩)) 25 rfl kj kj ?_
  refine Qaa (.int .u8 (nth (c5_) 8)) 26 rfl kj (Qag 5 _ g2 8 23 _ (.int .u8 (nth (c5_) 8)) _ r2_9_35 rfl kj (Qa1 _ _ _ (Nat.lt_of_lt_of_eq (by decide) hlc5_.symm)) kj) ?_
  refine Qaa (.int .u8 (nth c5_ 8 / 4 * 4)) 27 rfl kj (Qal (u := .int .u8 (bits .and .u8 ((nth (c5_) 8)) (252))) kj (congrArg (Value.int .u8) (Qia _ (Qbb hbc5_ 8)))) ?_
  refine Qaa (.pointer (some ⟨g2, 8, none⟩)) 28 rfl kj kj ?_
  refine Qah g2 _ (ints .u8 ((c5_).set 8 (nth c5_ 8 / 4 * 4))) 23 r2_9_35 rfl kj (Qai 5 _ _ g2 8 23 _ _ r2_9_35 rfl kj kj kj (Nat.lt_of_lt_of_eq (show 8 < 32 by decide) hlc5_.symm)) fun W10 p10 r2_10 => ?_
  have x10 : Ext w W10 := Puts.ext p10 x9 b2
  obtain ⟨c6_, ec6_⟩ : ∃ z, z = (c5_).set 8 (nth c5_ 8 / 4 * 4) := ⟨_, rfl⟩
  have hlc6_ : c6_.length = 32 := by rw [ec6_, List.length_set, hlc5_]
  have hxc6_ := Qbb hbc5_ 8
  have hbc6_ : Qaj c6_ := ec6_ ▸ QbB hbc5_ _ (by omega) (by omega)
  have r2_10_40 : W10.heap[g2]? = some (.cells (ints .u8 (c6_)) 23) := QaA r2_10 (by rw [ec6_])
  refine Qac ?_
  refine hK38 _ _ ?_
  refine Qab ?_
  refine Qaa (.int .i64 2) 29 rfl kj kj ?_
  refine Qaa (.int .i64 2) 21 rfl kj kj ?_
  refine Qac ?_
  show Code.rounds _ _ _ 2 _ _
  show Code.wp _ _ (Exit.then (Code.rounds _ _ _ 1) _) _ _
  refine wp_seq_k fun K41 hK41 => ?_
  refine Qab ?_
  refine Qaa (.bool true) 22 rfl kj kj ?_
  refine Qac ?_
  refine hK41 _ _ ?_
  refine wp_seq_k fun K42 hK42 => ?_
  refine cond_true kj ?_
  refine wp_skip ?_
  refine hK42 _ _ ?_
  refine wp_seq_k fun K43 hK43 => ?_
  refine wp_block ?_
  refine wp_seq_k fun K44 hK44 => ?_
  refine Qab ?_
  refine Qaa (.int .i64 12) 23 rfl kj (Qau 223 _ _ .i64 .i64 ([4, 8, 12]) 2 3 3 12 rfl kj kj kj kj kj rfl (by decide) rfl) ?_
  refine Qaa (.int .i64 12) 7 rfl kj kj ?_
  refine Qac ?_
  refine hK44 _ _ ?_
  refine Qab ?_
  refine Qaa (.int .i64 12) 24 rfl kj kj ?_
  refine Qaa (.pointer (some ⟨g2, 12, none⟩)) 25 rfl kj kj ?_
  refine Qaa (.int .u8 (nth (c6_) 12)) 26 rfl kj (Qag 5 _ g2 12 23 _ (.int .u8 (nth (c6_) 12)) _ r2_10_40 rfl kj (Qa1 _ _ _ (Nat.lt_of_lt_of_eq (by decide) hlc6_.symm)) kj) ?_
  refine Qaa (.int .u8 (nth c6_ 12 / 4 * 4)) 27 rfl kj (Qal (u := .int .u8 (bits .and .u8 ((nth (c6_) 12)) (252))) kj (congrArg (Value.int .u8) (Qia _ (Qbb hbc6_ 12)))) ?_
  refine Qaa (.pointer (some ⟨g2, 12, none⟩)) 28 rfl kj kj ?_
  refine Qah g2 _ (ints .u8 ((c6_).set 12 (nth c6_ 12 / 4 * 4))) 23 r2_10_40 rfl kj (Qai 5 _ _ g2 12 23 _ _ r2_10_40 rfl kj kj kj (Nat.lt_of_lt_of_eq (show 12 < 32 by decide) hlc6_.symm)) fun W11 p11 r2_11 => ?_
  have x11 : Ext w W11 := Puts.ext p11 x10 b2
  obtain ⟨c7_, ec7_⟩ : ∃ z, z = (c6_).set 12 (nth c6_ 12 / 4 * 4) := ⟨_, rfl⟩
  have hlc7_ : c7_.length = 32 := by rw [ec7_, List.length_set, hlc6_]
  have hxc7_ := Qbb hbc6_ 12
  have hbc7_ : Qaj c7_ := ec7_ ▸ QbB hbc6_ _ (by omega) (by omega)
  have r2_11_45 : W11.heap[g2]? = some (.cells (ints .u8 (c7_)) 23) := QaA r2_11 (by rw [ec7_])
  refine Qac ?_
  refine hK43 _ _ ?_
  refine Qab ?_
  refine Qaa (.int .i64 3) 29 rfl kj kj ?_
  refine Qaa (.int .i64 3) 21 rfl kj kj ?_
  refine Qac ?_
  show Code.rounds _ _ _ 1 _ _
  show Code.wp _ _ (Exit.then (Code.rounds _ _ _ 0) _) _ _
  refine wp_seq_k fun K46 hK46 => ?_
  refine Qab ?_
  refine Qaa (.bool false) 22 rfl kj kj ?_
  refine Qac ?_
  refine hK46 _ _ ?_
  refine wp_seq_k fun K47 hK47 => ?_
  refine cond_false kj ?_
  refine wp_exit ?_
  refine hK29 _ _ ?_
  refine wp_seq_k fun K48 hK48 => ?_
  have hck : c7_ = QhX key := by unfold QhX; rw [ec7_, ec6_, ec5_, ec4_, ec3_, ec2_, ec1_]
  have hro : lev ((c7_.drop 0).take (16 - 0)) = rOf key := by unfold rOf; rw [hck, Qgg key hkl]
  refine QaY 3 [⟨none, [(1, none)]⟩, ⟨none, [(30, some 0)]⟩, ⟨none, [(3, none)]⟩] kj kj fun F hF => ?_
  refine QaB (Qav _) (.slice (some ⟨g2, 0 + 0, none⟩) (16 - 0) (32 - 0)) kj kj (fun W => (Qbe 23 _ _ _ 0 16 32 g2 0 5 rfl kj kj kj rfl ⟨.i64, by kernel_rfl⟩ (by omega) (by omega) (by omega))) ?_
  refine Qkd (Qav _) (.agg (ints .u64 (nw3 (lev ((c7_.drop 0).take (16 - 0)))))) 157 #[.slice (some ⟨g2, 0 + 0, none⟩) (16 - 0) (32 - 0)] kj kj (fun W => by kernel_rfl) (fun W hR => (Qhh ((c7_.drop 0).take (16 - 0)) _ _ W (Qhx (l := 0) (h := 16) hlc7_ (Qad (Qad r2_11_45 (Qak _)) hR) (by decide) (by decide) (by decide)) (by rw [List.length_take]; omega) (QaW (Qb0 hbc7_ 0) _))) ?_
  have r4_5 := (Puts.row p5 r4_4 (Qap r2_2 l4))
  have r4_6 := (Puts.row p6 r4_5 (Qap r2_2 l4))
  have r4_7 := (Puts.row p7 r4_6 (Qap r2_2 l4))
  have r4_8 := (Puts.row p8 r4_7 (Qap r2_2 l4))
  have r4_9 := (Puts.row p9 r4_8 (Qap r2_2 l4))
  have r4_10 := (Puts.row p10 r4_9 (Qap r2_2 l4))
  have r4_11 := (Puts.row p11 r4_10 (Qap r2_2 l4))
  refine QbG (Qav _) (.agg (ints .u64 (nw3 (lev ((key.drop 16).take (32 - 16)))))) kj kj (fun W hR => (Qas 221 _ g4 221 _ _ (Qad (Qad r4_11 (Qak _)) hR) rfl kj kj (isz (n := 3) kj ((Qaf _ _).trans (Qa2 _))))) ?_
  refine QcU (hF _ fun W12 e12 => ?_)
  simp only [List.nil_append, List.cons_append, List.take_succ_cons, List.take_zero, List.drop_succ_cons, List.drop_zero, finE, up]
  clear hF
  have x12 : Ext w W12 := Ext.tr x11 e12
  refine Qaa (.agg (cat [ints .u64 (nw3 (lev ((c7_.drop 0).take (16 - 0)))), ints .u64 (nw3 (lev ((key.drop 16).take (32 - 16)))), ints .u64 (nw3 (0)), ints .u8 (List.replicate 17 0), #[.int .i64 0]])) 33 rfl kj kj ?_
  refine Qaq (cat [ints .u64 (nw3 (lev ((c7_.drop 0).take (16 - 0)))), ints .u64 (nw3 (lev ((key.drop 16).take (32 - 16)))), ints .u64 (nw3 (0)), ints .u8 (List.replicate 17 0), #[.int .i64 0]]) 226 34 rfl kj kj fun g49 W13 l49 e13 r49_13 => ?_
  have x13 : Ext w W13 := Ext.tr x12 e13
  have b49 : w.heap.size ≤ g49 := Nat.le_trans x12.size l49
  refine Qaa (.pointer (some ⟨g49, 0, none⟩)) 2 rfl kj kj ?_
  refine Qac ?_
  refine hK48 _ _ ?_
  refine wp_ret ?_
  repeat (first | with_reducible refine goR1 ?_ | with_reducible refine goR2 ?_)
  exact (show bodyPost _ _ _ .ret _ _ from ret1 (.pointer (some ⟨g49, 0, none⟩)) rfl (Qa9 kj) ⟨_, rfl, x13, g49, rfl, b49, 0, List.replicate 17 0, 0, 0, rfl, (by decide), (by have h9 := r49_13; rw [hro] at h9; exact h9), rfl, ⟨by decide, by decide⟩, List.length_replicate .., (fun x hx => by rw [List.mem_replicate] at hx; omega), rfl⟩)
set_option maxRecDepth 100000 in
set_option maxHeartbeats 4000000 in
theorem endC (g : Nat) (r s : Int) (t : List Int) (w : World) (hr : 0 ≤ r ∧ r < 21267647932558653966460912964485513216) (hs : 0 ≤ s ∧ s < 340282366920938463463374607431768211456) (hM : Mk g r s t w) :
  Calls Tryd.prog 144 #[.pointer (some ⟨g, 0, none⟩)] w (fun e W => e = .returned (.agg (ints .u8 (tagV r s t))) ∧ ExtB g w W) := by
 obtain ⟨S, pl, q, m, hq, hm, hg, hSm, hS, hpl, hpb, hpt⟩ := hM
 refine enter 47 [(0, .pointer (some ⟨g, 0, none⟩))] Tryd.func144 rfl rfl kj rfl ?_
 refine wp_seq_k fun K2 hK2 => ?_
 refine Qab ?_
 refine Qaq (ints .u8 (List.replicate 16 0)) 157 2 rfl kj kj fun g3 W1 l3 e1 r3_1 => ?_
 have x1 : ExtB g w W1 := ExtB.ext (ExtB.refl g w) e1
 have b3 : w.heap.size ≤ g3 := Nat.le_trans (ExtB.refl g w).size l3
 refine Qac ?_
 refine hK2 _ _ ?_
 refine wp_seq_k fun K4 hK4 => ?_
 refine wp_seq_k fun K5 hK5 => ?_
 refine Qab ?_
 refine Qaa (.pointer (some ⟨g, 0, none⟩)) 7 rfl kj kj ?_
 refine Qaa (.pointer (some ⟨g, 0, none⟩)) 8 rfl kj kj ?_
 refine Qaa (.pointer (some ⟨g, 26, none⟩)) 9 rfl kj kj ?_
 have r1_1 := (Qad hg e1)
 refine Qaa (.int .i64 ((m : Nat) : Int)) 10 rfl kj (Qag 3 _ g 26 226 _ (.int .i64 ((m : Nat) : Int)) _ r1_1 rfl kj (QaE [ints .u64 (nw3 r), ints .u64 (nw3 s), ints .u64 (nw3 (S)), ints .u8 (pl)] [#[.int .i64 ((m : Nat) : Int)]] [] 26 (by rw [Qan, Qan, Qan, Qan]; simp only [Array.size_append, cat, ((Qaf _ _).trans (Qa2 _)), ((Qaf _ _).trans hpl)]; rfl) 0 _ rfl) kj) ?_
 refine Qaa (.bool (decide (((m : Nat) : Int) > 0))) 11 rfl kj kj ?_
 refine Qac ?_
 refine hK5 _ _ ?_
 refine Qa7 (t := decide (((m : Nat) : Int) > 0)) kj (fun c6 => ?_) (fun c6 => ?_)
 ·skip
  have hm0 : 0 < m := by have := of_decide_eq_true c6; omega
  refine Qab ?_
  refine Qaa (.pointer (some ⟨g, 0, none⟩)) 12 rfl kj kj ?_
  refine Qa0 (fun v W' => v = .tuple #[] ∧ ExtB g W1 W' ∧ W'.heap[g]? = some (.cells (cat [ints .u64 (nw3 r), ints .u64 (nw3 s), ints .u64 (nw3 (Qel r S (pl.take m))), ints .u8 (pl.set m 1), #[.int .i64 0]]) 226)) 158 #[.pointer (some ⟨g, 0, none⟩)] 13 rfl kj kj ((turnC g r s S pl m _ hr hS hpl hpb (by omega) r1_1).mono fun e w' h => ⟨_, h.1, rfl, h.2⟩) fun v W2 h => ?_
  obtain ⟨rfl, q2, r1_2⟩ := h
  have hpl2 : (pl.set m 1).length = 17 := by rw [List.length_set, hpl]
  have x2 : ExtB g w W2 := ExtB.trans x1 q2
  obtain ⟨SS, eSS⟩ : ∃ z, z = Qel r S (pl.take m) := ⟨_, rfl⟩
  have hSS : SS % PP = Qdn r t := by rw [eSS, hpt]; exact Qky hq (by omega) hm hSm
  have hSb : 0 ≤ SS ∧ SS < 2041694201525630780780247644590609268736 := eSS ▸ Qgm hS hr (QaW hpb m) (by rw [List.length_take]; omega)
  rw [← eSS] at r1_2
  refine Qac ?_
  refine hK4 _ _ ?_
  refine wp_seq_k fun K7 hK7 => ?_
  refine Qab ?_
  refine Qaa (.pointer (some ⟨g, 0, none⟩)) 14 rfl kj kj ?_
  refine Qaa (.pointer (some ⟨g, 0, none⟩)) 15 rfl kj kj ?_
  refine Qaa (.pointer (some ⟨g, 6, none⟩)) 16 rfl kj kj ?_
  refine Qaa (.agg (ints .u64 (nw3 (SS)))) 17 rfl kj (QaF 221 _ g 6 226 _ _ _ r1_2 rfl kj (QaE [ints .u64 (nw3 r), ints .u64 (nw3 s)] [ints .u64 (nw3 (SS))] [ints .u8 (pl.set m 1), #[.int .i64 0]] 6 (by rw [Qan, Qan]; simp only [Array.size_append, cat, ((Qaf _ _).trans (Qa2 _))]; rfl)) kj (isz (n := 3) kj ((Qaf _ _).trans (Qa2 _)))) ?_
  refine Qaq (ints .u64 ([0, 0, 0])) 221 3 rfl kj kj fun g8 W3 l8 e3 r8_3 => ?_
  have x3 : ExtB g w W3 := ExtB.ext x2 e3
  have b8 : w.heap.size ≤ g8 := Nat.le_trans x2.size l8
  refine Qah g8 _ (ints .u64 (nw3 (SS))) 221 r8_3 rfl kj (Qam 221 _ _ g8 221 _ _ r8_3 rfl kj kj (isz (n := 3) kj ((Qaf _ _).trans (Qa2 _))) (eqsz (n := 3) kj ((Qaf _ _).trans (Qa2 _))) (Qay _ _)) fun W4 p4 r8_4 => ?_
  have x4 : ExtB g w W4 := ExtB.putsN x3 p4 b8
  refine Qac ?_
  refine hK7 _ _ ?_
  refine wp_seq_k fun K9 hK9 => ?_
  refine wp_seq_k fun K10 hK10 => ?_
  refine Qab ?_
  refine Qaa (.agg (ints .u64 (nw3 (SS)))) 18 rfl kj (Qas 221 _ g8 221 _ _ r8_4 rfl kj kj (isz (n := 3) kj ((Qaf _ _).trans (Qa2 _)))) ?_
  refine Qaa (.agg (ints .u64 (nw3 5))) 19 rfl kj kj ?_
  refine Qax (.agg (ints .u64 (nw3 (SS + 5)))) 159 #[.agg (ints .u64 (nw3 (SS))), .agg (ints .u64 (nw3 5))] 20 rfl kj kj ((QfV SS 5 hSb.1 (by decide) (by omega) (by decide) (by omega)) _) fun W5 e5 => ?_
  have x5 : ExtB g w W5 := ExtB.ext x4 e5
  refine Qaq (ints .u64 ([0, 0, 0])) 221 4 rfl kj kj fun g11 W6 l11 e6 r11_6 => ?_
  have x6 : ExtB g w W6 := ExtB.ext x5 e6
  have b11 : w.heap.size ≤ g11 := Nat.le_trans x5.size l11
  refine Qah g11 _ (ints .u64 (nw3 (SS + 5))) 221 r11_6 rfl kj (Qam 221 _ _ g11 221 _ _ r11_6 rfl kj kj (isz (n := 3) kj ((Qaf _ _).trans (Qa2 _))) (eqsz (n := 3) kj ((Qaf _ _).trans (Qa2 _))) (Qay _ _)) fun W7 p7 r11_7 => ?_
  have x7 : ExtB g w W7 := ExtB.putsN x6 p7 b11
  refine Qac ?_
  refine hK10 _ _ ?_
  refine wp_seq_k fun K12 hK12 => ?_
  refine Qab ?_
  refine Qaa (.pointer (some ⟨g11, 2, none⟩)) 21 rfl kj kj ?_
  refine Qaa (.int .u64 (nth (nw3 (SS + 5)) 2)) 22 rfl kj (Qag 129 _ g11 2 221 _ (.int .u64 (nth (nw3 (SS + 5)) 2)) _ r11_7 rfl kj (Qa1 _ _ _ (Nat.lt_of_lt_of_eq (by decide) (Qa2 _).symm)) kj) ?_
  refine Qaa (.bool (decide (1361129467683753853853498429727072845824 ≤ SS + 5))) 23 rfl kj (Qal (u := .bool (decide ((nth (nw3 (SS + 5)) 2) ≥ 4))) kj (congrArg Value.bool (geq4 SS hSb.1 hSb.2))) ?_
  refine Qac ?_
  refine hK12 _ _ ?_
  refine Qa7 (t := decide (1361129467683753853853498429727072845824 ≤ SS + 5)) kj (fun c13 => ?_) (fun c13 => ?_)
  ·skip
   have hbig : 1361129467683753853853498429727072845824 ≤ SS + 5 := of_decide_eq_true c13
   have hfin : by16 (SS + 5 + s) = by16 (Qdn r t + s) := by
    have e : SS + 5 + s = (Qdn r t + s) + 1361129467683753853853498429727072845824 := by rw [← hSS]; unfold PP; omega
    rw [e, QgA]
   refine Qab ?_
   refine Qaa (.agg (ints .u64 (nw3 (SS + 5)))) 24 rfl kj (Qas 221 _ g11 221 _ _ r11_7 rfl kj kj (isz (n := 3) kj ((Qaf _ _).trans (Qa2 _)))) ?_
   have r8_5 := (Qad r8_4 e5)
   have r8_6 := (Qad r8_5 e6)
   have r8_7 := (Puts.row p7 r8_6 (Qae r8_5 l11))
   refine Qah g8 _ (ints .u64 (nw3 (SS + 5))) 221 r8_7 rfl kj (Qam 221 _ _ g8 221 _ _ r8_7 rfl kj kj (isz (n := 3) kj ((Qaf _ _).trans (Qa2 _))) (eqsz (n := 3) ((Qaf _ _).trans (Qa2 _)) ((Qaf _ _).trans (Qa2 _))) (Qay _ _)) fun W8 p8 r8_8 => ?_
   have x8 : ExtB g w W8 := ExtB.putsN x7 p8 b8
   refine Qac ?_
   refine hK9 _ _ ?_
   refine wp_seq_k fun K14 hK14 => ?_
   refine QaX 6 [⟨none, [(3, none)]⟩, ⟨none, [(0, none)]⟩, ⟨none, [(26, some 1)]⟩, ⟨none, [(27, some 2)]⟩, ⟨none, [(28, some 3)]⟩, ⟨none, [(25, some 0), (29, some 4)]⟩] kj kj fun F hF => ?_
   refine QaK (.agg (ints .u64 (nw3 (SS + 5)))) kj kj (fun W hR => (Qas 221 _ g8 221 _ _ (Qad (Qad r8_8 (Qak _)) hR) rfl kj kj (isz (n := 3) kj ((Qaf _ _).trans (Qa2 _))))) ?_
   refine Qao (.pointer (some ⟨g, 0, none⟩)) kj kj (fun W => by kernel_rfl) ?_
   refine Qao (.pointer (some ⟨g, 0, none⟩)) kj kj (fun W => by kernel_rfl) ?_
   refine Qao (.pointer (some ⟨g, 3, none⟩)) kj kj (fun W => by kernel_rfl) ?_
   have r1_3 := (Qad r1_2 e3)
   have r1_4 := (Puts.row p4 r1_3 (Qae r1_2 l8))
   have r1_5 := (Qad r1_4 e5)
   have r1_6 := (Qad r1_5 e6)
   have r1_7 := (Puts.row p7 r1_6 (Qae r1_5 l11))
   have r1_8 := (Puts.row p8 r1_7 (Qae r1_2 l8))
   refine QaK (.agg (ints .u64 (nw3 s))) kj kj (fun W hR => (QaF 221 _ g 3 226 _ _ _ (Qad (Qad r1_8 (Qak _)) hR) rfl kj (QaE [ints .u64 (nw3 r)] [ints .u64 (nw3 s)] [ints .u64 (nw3 (SS)), ints .u8 (pl.set m 1), #[.int .i64 0]] 3 ((Qaf _ _).trans (Qa2 _))) kj (isz (n := 3) kj ((Qaf _ _).trans (Qa2 _))))) ?_
   refine QcK (.agg (ints .u64 (nw3 (SS + 5 + s)))) 159 #[.agg (ints .u64 (nw3 (SS + 5))), .agg (ints .u64 (nw3 s))] kj kj (fun W => by kernel_rfl) (fun W hR => (QfV (SS + 5) s (by omega) hs.1 (by omega) (by omega) (by omega)) W) ?_
   refine Qbh (hF _ kj fun W9 e9 => ?_)
   simp only [ups, up, Kn.val, List.take_succ_cons, List.take_zero, List.drop_succ_cons, List.drop_zero, List.nil_append, List.cons_append]
   clear hF
   have x9 : ExtB g w W9 := ExtB.ext x8 e9
   have r8_9 := (Qad r8_8 e9)
   refine Qah g8 _ (ints .u64 (nw3 (SS + 5 + s))) 221 r8_9 rfl kj (Qam 221 _ _ g8 221 _ _ r8_9 rfl kj kj (isz (n := 3) kj ((Qaf _ _).trans (Qa2 _))) (eqsz (n := 3) ((Qaf _ _).trans (Qa2 _)) ((Qaf _ _).trans (Qa2 _))) (Qay _ _)) fun W10 p10 r8_10 => ?_
   have x10 : ExtB g w W10 := ExtB.putsN x9 p10 b8
   refine Qac ?_
   refine hK14 _ _ ?_
   refine wp_seq_k fun K15 hK15 => ?_
   refine Qab ?_
   refine Qaq (ints .u8 (List.replicate 16 0)) 157 5 rfl kj kj fun g16 W11 l16 e11 r16_11 => ?_
   have x11 : ExtB g w W11 := ExtB.ext x10 e11
   have b16 : w.heap.size ≤ g16 := Nat.le_trans x10.size l16
   refine Qac ?_
   refine hK15 _ _ ?_
   refine wp_seq_k fun K17 hK17 => ?_
   refine wp_seq_k fun K18 hK18 => ?_
   refine Qab ?_
   refine Qaa (.int .i64 0) 31 rfl kj kj ?_
   refine Qac ?_
   refine hK18 _ _ ?_
   refine wp_block ?_
   refine QaO (fun (s1 : Nat) => [(2, .pointer (some ⟨g3, 0, none⟩)), (3, .pointer (some ⟨g8, 0, none⟩)), (5, .pointer (some ⟨g16, 0, none⟩)), (31, .int .i64 ((s1 : Nat) : Int))]) (fun (s1 : Nat) W => (s1 ≤ 16) ∧ (W.heap[g16]? = some (.cells (ints .u8 (Qb9 (by16 (SS + 5 + s)) 16 s1)) 157)) ∧ (Qar [g16] W11 W) ∧ (ExtB g w W)) (fun (s1 : Nat) => 16 - s1) 0 ⟨rfl, rfl, rfl, rfl, trivial⟩ ⟨(Nat.zero_le _), (QaA r16_11 (QbZ _ 16)), (Qar.refl [g16] W11), x11⟩ fun s1 X1 V1 hI1 => ?_
   obtain ⟨i, hs1⟩ : ∃ z, z = s1 := ⟨_, rfl⟩
   subst hs1
   obtain ⟨hi, q16_1, kk1, xx1⟩ := hI1
   replace hi : i ≤ 16 := hi
   replace q16_1 : V1.heap[g16]? = some (.cells (ints .u8 (Qb9 (by16 (SS + 5 + s)) 16 i)) 157) := q16_1
   replace kk1 : Qar [g16] W11 V1 := kk1
   replace xx1 : ExtB g w V1 := xx1
   have q12 := kk1
   refine wp_seq_k fun K19 hK19 => ?_
   refine Qab ?_
   refine Qaa (.bool (decide (((i : Nat) : Int) < 16))) 32 rfl kj kj ?_
   refine Qac ?_
   refine hK19 _ _ ?_
   refine wp_seq_k fun K20 hK20 => ?_
   refine Qa7 (t := decide (((i : Nat) : Int) < 16)) kj (fun c21 => ?_) (fun c21 => ?_)
   ·skip
    have hlt32 : i < 16 := by have := of_decide_eq_true c21; omega
    refine wp_skip ?_
    refine hK20 _ _ ?_
    refine wp_seq_k fun K22 hK22 => ?_
    refine wp_block ?_
    refine wp_seq_k fun K23 hK23 => ?_
    refine Qab ?_
    refine Qaa (.int .i64 ((i : Nat) : Int)) 33 rfl kj kj ?_
    refine Qaa (.int .i64 ((i : Nat) : Int)) 6 rfl kj kj ?_
    refine Qac ?_
    refine hK23 _ _ ?_
    refine Qab ?_
    refine Qaa (.int .i64 ((i : Nat) : Int)) 34 rfl kj kj ?_
    refine Qaa (.int .i64 ((i : Nat) : Int)) 35 rfl kj kj ?_
    refine Qaa (.int .i64 ((i / 8 : Nat) : Int)) 36 rfl kj (Qal (u := .int .i64 (IntKind.i64.wrap (Int.tdiv (((i : Nat) : Int)) (8)))) kj (congrArg (Value.int .i64) (QdH _ 8 (by omega)))) ?_
    refine Qaa (.pointer (some ⟨g8, i / 8, none⟩)) 37 rfl kj (QaH _ _ _ .i64 (i / 8) _ 3 129 rfl kj kj kj kj (by omega)) ?_
    have r8_11 := (Qad r8_10 e11)
    have r8_12 := (Qar.row q12 r8_11 (Qa5 (Qae r8_10 l16) QaT))
    refine Qaa (.int .u64 (nth (nw3 (SS + 5 + s)) (i / 8))) 38 rfl kj (Qag 129 _ g8 (i / 8) 221 _ (.int .u64 (nth (nw3 (SS + 5 + s)) (i / 8))) _ r8_12 rfl kj (Qa1 _ _ _ (Nat.lt_of_lt_of_eq (by omega) (Qa2 _).symm)) kj) ?_
    refine Qaa (.int .i64 ((i : Nat) : Int)) 39 rfl kj kj ?_
    refine Qaa (.int .i64 ((i % 8 : Nat) : Int)) 40 rfl kj (Qal (u := .int .i64 (Int.tmod (((i : Nat) : Int)) (8))) kj (congrArg (Value.int .i64) (QbY _ 8))) ?_
    refine Qaa (.int .i64 ((8 * (i % 8) : Nat) : Int)) 41 rfl kj (Qal (u := .int .i64 (IntKind.i64.wrap (8 * ((i % 8 : Nat) : Int)))) kj (congrArg (Value.int .i64) (i64n _ _ (by omega) (by omega)))) ?_
    refine Qaa (.int .u64 (nth (nw3 (SS + 5 + s)) (i / 8) / p256 (i % 8))) 42 rfl kj (Qa3 .shr _ _ _ _ .u64 .i64 _ _ _ rfl kj kj (Qbg _ _ _ _ _ _ (by omega) (shr8 _ (i % 8) _ rfl (by omega)))) ?_
    refine Qaa (.int .u8 (nth (by16 (SS + 5 + s)) i)) 43 rfl kj (Qal (u := .int .u8 (IntKind.u8.wrap (nth (nw3 (SS + 5 + s)) (i / 8) / p256 (i % 8)))) kj (congrArg (Value.int .u8) (Qec _ i hlt32))) ?_
    refine Qaa (.pointer (some ⟨g16, i, none⟩)) 44 rfl kj (QaH _ _ _ .i64 (i) _ 16 5 rfl kj kj kj kj (by omega)) ?_
    refine Qah g16 _ (ints .u8 ((Qb9 (by16 (SS + 5 + s)) 16 i).set i (nth (by16 (SS + 5 + s)) i))) 157 q16_1 rfl kj (Qai 5 _ _ g16 i 157 _ _ q16_1 rfl kj kj kj (Nat.lt_of_lt_of_eq (by omega) (Qcn _ 16 _ (QaN _) hi).symm)) fun W13 p13 r16_13 => ?_
    have x13 : ExtB g w W13 := ExtB.putsN xx1 p13 b16
    refine Qac ?_
    refine hK22 _ _ ?_
    refine Qab ?_
    refine Qaa (.int .i64 ((i + 1 : Nat) : Int)) 45 rfl kj (Qal (u := .int .i64 (IntKind.i64.wrap (((i : Nat) : Int) + 1))) kj (congrArg (Value.int .i64) (i64n _ _ (by omega) (by omega)))) ?_
    refine Qaa (.int .i64 ((i + 1 : Nat) : Int)) 31 rfl kj kj ?_
    refine Qac ?_
    repeat (first | with_reducible refine goX1 ?_ | with_reducible refine goX2 ?_ | with_reducible refine goX3 ?_)
    exact QaI (i + 1) ⟨rfl, rfl, rfl, rfl, trivial⟩ ⟨(show i + 1 ≤ 16 by omega), (QaA r16_13 (Qca _ 16 i (QaN _) hlt32)), (Qar.puts q12 p13 (.inl (by simp))), x13⟩ (by show 16 - (i + 1) < 16 - i; omega)
   ·skip
    have heq32 : i = 16 := by have := of_decide_eq_false c21; omega
    subst heq32
    have r16_12_24 : V1.heap[g16]? = some (.cells (ints .u8 (by16 (SS + 5 + s))) 157) := QaA q16_1 (QbN _ 16 (QaN _))
    refine wp_exit ?_
    refine hK17 _ _ ?_
    refine wp_seq_k fun K25 hK25 => ?_
    refine Qab ?_
    refine Qaa (.agg (ints .u8 (by16 (SS + 5 + s)))) 46 rfl kj (Qas 157 _ g16 157 _ _ r16_12_24 rfl kj kj (isz (n := 16) kj ((Qaf _ _).trans (QaN _)))) ?_
    have r3_2 := (ExtB.row q2 r3_1 (Qap hg l3))
    have r3_3 := (Qad r3_2 e3)
    have r3_4 := (Puts.row p4 r3_3 (Qae r3_2 l8))
    have r3_5 := (Qad r3_4 e5)
    have r3_6 := (Qad r3_5 e6)
    have r3_7 := (Puts.row p7 r3_6 (Qae r3_5 l11))
    have r3_8 := (Puts.row p8 r3_7 (Qae r3_2 l8))
    have r3_9 := (Qad r3_8 e9)
    have r3_10 := (Puts.row p10 r3_9 (Qae r3_2 l8))
    have r3_11 := (Qad r3_10 e11)
    have r3_12 := (Qar.row q12 r3_11 (Qa5 (Qae r3_10 l16) QaT))
    refine Qah g3 _ (ints .u8 (by16 (SS + 5 + s))) 157 r3_12 rfl kj (Qam 157 _ _ g3 157 _ _ r3_12 rfl kj kj (isz (n := 16) kj ((Qaf _ _).trans (QaN _))) (eqsz (n := 16) ((Qaf _ _).trans (List.length_replicate (n := 16))) ((Qaf _ _).trans (QaN _))) (Qay _ _)) fun W13 p13 r3_13 => ?_
    have x13 : ExtB g w W13 := ExtB.putsN xx1 p13 b3
    refine Qac ?_
    refine hK25 _ _ ?_
    refine wp_ret ?_
    repeat (first | with_reducible refine goR1 ?_ | with_reducible refine goR2 ?_)
    exact (show bodyPost _ _ _ .ret _ _ from ret1 (.agg (ints .u8 (by16 (SS + 5 + s)))) rfl (QaU g3 157 _ r3_13 kj kj (isz (n := 16) kj ((Qaf _ _).trans (QaN _)))) ⟨by unfold tagV; rw [hfin], x13⟩)
  ·skip
   have hbig : ¬ 1361129467683753853853498429727072845824 ≤ SS + 5 := of_decide_eq_false c13
   have hfin : by16 (SS + s) = by16 (Qdn r t + s) := by
    have e : SS + s = Qdn r t + s := by rw [← hSS]; unfold PP; omega
    rw [e]
   refine wp_skip ?_
   refine hK9 _ _ ?_
   refine wp_seq_k fun K26 hK26 => ?_
   refine QaX 6 [⟨none, [(3, none)]⟩, ⟨none, [(0, none)]⟩, ⟨none, [(26, some 1)]⟩, ⟨none, [(27, some 2)]⟩, ⟨none, [(28, some 3)]⟩, ⟨none, [(25, some 0), (29, some 4)]⟩] kj kj fun F hF => ?_
   have r8_5 := (Qad r8_4 e5)
   have r8_6 := (Qad r8_5 e6)
   have r8_7 := (Puts.row p7 r8_6 (Qae r8_5 l11))
   refine QaK (.agg (ints .u64 (nw3 (SS)))) kj kj (fun W hR => (Qas 221 _ g8 221 _ _ (Qad (Qad r8_7 (Qak _)) hR) rfl kj kj (isz (n := 3) kj ((Qaf _ _).trans (Qa2 _))))) ?_
   refine Qao (.pointer (some ⟨g, 0, none⟩)) kj kj (fun W => by kernel_rfl) ?_
   refine Qao (.pointer (some ⟨g, 0, none⟩)) kj kj (fun W => by kernel_rfl) ?_
   refine Qao (.pointer (some ⟨g, 3, none⟩)) kj kj (fun W => by kernel_rfl) ?_
   have r1_3 := (Qad r1_2 e3)
   have r1_4 := (Puts.row p4 r1_3 (Qae r1_2 l8))
   have r1_5 := (Qad r1_4 e5)
   have r1_6 := (Qad r1_5 e6)
   have r1_7 := (Puts.row p7 r1_6 (Qae r1_5 l11))
   refine QaK (.agg (ints .u64 (nw3 s))) kj kj (fun W hR => (QaF 221 _ g 3 226 _ _ _ (Qad (Qad r1_7 (Qak _)) hR) rfl kj (QaE [ints .u64 (nw3 r)] [ints .u64 (nw3 s)] [ints .u64 (nw3 (SS)), ints .u8 (pl.set m 1), #[.int .i64 0]] 3 ((Qaf _ _).trans (Qa2 _))) kj (isz (n := 3) kj ((Qaf _ _).trans (Qa2 _))))) ?_
   refine QcK (.agg (ints .u64 (nw3 (SS + s)))) 159 #[.agg (ints .u64 (nw3 (SS))), .agg (ints .u64 (nw3 s))] kj kj (fun W => by kernel_rfl) (fun W hR => (QfV (SS) s (by omega) hs.1 (by omega) (by omega) (by omega)) W) ?_
   refine Qbh (hF _ kj fun W8 e8 => ?_)
   simp only [ups, up, Kn.val, List.take_succ_cons, List.take_zero, List.drop_succ_cons, List.drop_zero, List.nil_append, List.cons_append]
   clear hF
   have x8 : ExtB g w W8 := ExtB.ext x7 e8
   have r8_8 := (Qad r8_7 e8)
   refine Qah g8 _ (ints .u64 (nw3 (SS + s))) 221 r8_8 rfl kj (Qam 221 _ _ g8 221 _ _ r8_8 rfl kj kj (isz (n := 3) kj ((Qaf _ _).trans (Qa2 _))) (eqsz (n := 3) ((Qaf _ _).trans (Qa2 _)) ((Qaf _ _).trans (Qa2 _))) (Qay _ _)) fun W9 p9 r8_9 => ?_
   have x9 : ExtB g w W9 := ExtB.putsN x8 p9 b8
   refine Qac ?_
   refine hK26 _ _ ?_
   refine wp_seq_k fun K27 hK27 => ?_
   refine Qab ?_
   refine Qaq (ints .u8 (List.replicate 16 0)) 157 5 rfl kj kj fun g28 W10 l28 e10 r28_10 => ?_
   have x10 : ExtB g w W10 := ExtB.ext x9 e10
   have b28 : w.heap.size ≤ g28 := Nat.le_trans x9.size l28
   refine Qac ?_
   refine hK27 _ _ ?_
   refine wp_seq_k fun K29 hK29 => ?_
   refine wp_seq_k fun K30 hK30 => ?_
   refine Qab ?_
   refine Qaa (.int .i64 0) 31 rfl kj kj ?_
   refine Qac ?_
   refine hK30 _ _ ?_
   refine wp_block ?_
   refine QaO (fun (s2 : Nat) => [(2, .pointer (some ⟨g3, 0, none⟩)), (3, .pointer (some ⟨g8, 0, none⟩)), (5, .pointer (some ⟨g28, 0, none⟩)), (31, .int .i64 ((s2 : Nat) : Int))]) (fun (s2 : Nat) W => (s2 ≤ 16) ∧ (W.heap[g28]? = some (.cells (ints .u8 (Qb9 (by16 (SS + s)) 16 s2)) 157)) ∧ (Qar [g28] W10 W) ∧ (ExtB g w W)) (fun (s2 : Nat) => 16 - s2) 0 ⟨rfl, rfl, rfl, rfl, trivial⟩ ⟨(Nat.zero_le _), (QaA r28_10 (QbZ _ 16)), (Qar.refl [g28] W10), x10⟩ fun s2 X2 V2 hI2 => ?_
   obtain ⟨i, hs2⟩ : ∃ z, z = s2 := ⟨_, rfl⟩
   subst hs2
   obtain ⟨hi, q28_2, kk2, xx2⟩ := hI2
   replace hi : i ≤ 16 := hi
   replace q28_2 : V2.heap[g28]? = some (.cells (ints .u8 (Qb9 (by16 (SS + s)) 16 i)) 157) := q28_2
   replace kk2 : Qar [g28] W10 V2 := kk2
   replace xx2 : ExtB g w V2 := xx2
   have q11 := kk2
   refine wp_seq_k fun K31 hK31 => ?_
   refine Qab ?_
   refine Qaa (.bool (decide (((i : Nat) : Int) < 16))) 32 rfl kj kj ?_
   refine Qac ?_
   refine hK31 _ _ ?_
   refine wp_seq_k fun K32 hK32 => ?_
   refine Qa7 (t := decide (((i : Nat) : Int) < 16)) kj (fun c33 => ?_) (fun c33 => ?_)
   ·skip
    have hlt32 : i < 16 := by have := of_decide_eq_true c33; omega
    refine wp_skip ?_
    refine hK32 _ _ ?_
    refine wp_seq_k fun K34 hK34 => ?_
    refine wp_block ?_
    refine wp_seq_k fun K35 hK35 => ?_
    refine Qab ?_
    refine Qaa (.int .i64 ((i : Nat) : Int)) 33 rfl kj kj ?_
    refine Qaa (.int .i64 ((i : Nat) : Int)) 6 rfl kj kj ?_
    refine Qac ?_
    refine hK35 _ _ ?_
    refine Qab ?_
    refine Qaa (.int .i64 ((i : Nat) : Int)) 34 rfl kj kj ?_
    refine Qaa (.int .i64 ((i : Nat) : Int)) 35 rfl kj kj ?_
    refine Qaa (.int .i64 ((i / 8 : Nat) : Int)) 36 rfl kj (Qal (u := .int .i64 (IntKind.i64.wrap (Int.tdiv (((i : Nat) : Int)) (8)))) kj (congrArg (Value.int .i64) (QdH _ 8 (by omega)))) ?_
    refine Qaa (.pointer (some ⟨g8, i / 8, none⟩)) 37 rfl kj (QaH _ _ _ .i64 (i / 8) _ 3 129 rfl kj kj kj kj (by omega)) ?_
    have r8_10 := (Qad r8_9 e10)
    have r8_11 := (Qar.row q11 r8_10 (Qa5 (Qae r8_9 l28) QaT))
    refine Qaa (.int .u64 (nth (nw3 (SS + s)) (i / 8))) 38 rfl kj (Qag 129 _ g8 (i / 8) 221 _ (.int .u64 (nth (nw3 (SS + s)) (i / 8))) _ r8_11 rfl kj (Qa1 _ _ _ (Nat.lt_of_lt_of_eq (by omega) (Qa2 _).symm)) kj) ?_
    refine Qaa (.int .i64 ((i : Nat) : Int)) 39 rfl kj kj ?_
    refine Qaa (.int .i64 ((i % 8 : Nat) : Int)) 40 rfl kj (Qal (u := .int .i64 (Int.tmod (((i : Nat) : Int)) (8))) kj (congrArg (Value.int .i64) (QbY _ 8))) ?_
    refine Qaa (.int .i64 ((8 * (i % 8) : Nat) : Int)) 41 rfl kj (Qal (u := .int .i64 (IntKind.i64.wrap (8 * ((i % 8 : Nat) : Int)))) kj (congrArg (Value.int .i64) (i64n _ _ (by omega) (by omega)))) ?_
    refine Qaa (.int .u64 (nth (nw3 (SS + s)) (i / 8) / p256 (i % 8))) 42 rfl kj (Qa3 .shr _ _ _ _ .u64 .i64 _ _ _ rfl kj kj (Qbg _ _ _ _ _ _ (by omega) (shr8 _ (i % 8) _ rfl (by omega)))) ?_
    refine Qaa (.int .u8 (nth (by16 (SS + s)) i)) 43 rfl kj (Qal (u := .int .u8 (IntKind.u8.wrap (nth (nw3 (SS + s)) (i / 8) / p256 (i % 8)))) kj (congrArg (Value.int .u8) (Qec _ i hlt32))) ?_
    refine Qaa (.pointer (some ⟨g28, i, none⟩)) 44 rfl kj (QaH _ _ _ .i64 (i) _ 16 5 rfl kj kj kj kj (by omega)) ?_
    refine Qah g28 _ (ints .u8 ((Qb9 (by16 (SS + s)) 16 i).set i (nth (by16 (SS + s)) i))) 157 q28_2 rfl kj (Qai 5 _ _ g28 i 157 _ _ q28_2 rfl kj kj kj (Nat.lt_of_lt_of_eq (by omega) (Qcn _ 16 _ (QaN _) hi).symm)) fun W12 p12 r28_12 => ?_
    have x12 : ExtB g w W12 := ExtB.putsN xx2 p12 b28
    refine Qac ?_
    refine hK34 _ _ ?_
    refine Qab ?_
    refine Qaa (.int .i64 ((i + 1 : Nat) : Int)) 45 rfl kj (Qal (u := .int .i64 (IntKind.i64.wrap (((i : Nat) : Int) + 1))) kj (congrArg (Value.int .i64) (i64n _ _ (by omega) (by omega)))) ?_
    refine Qaa (.int .i64 ((i + 1 : Nat) : Int)) 31 rfl kj kj ?_
    refine Qac ?_
    repeat (first | with_reducible refine goX1 ?_ | with_reducible refine goX2 ?_ | with_reducible refine goX3 ?_)
    exact QaI (i + 1) ⟨rfl, rfl, rfl, rfl, trivial⟩ ⟨(show i + 1 ≤ 16 by omega), (QaA r28_12 (Qca _ 16 i (QaN _) hlt32)), (Qar.puts q11 p12 (.inl (by simp))), x12⟩ (by show 16 - (i + 1) < 16 - i; omega)
   ·skip
    have heq32 : i = 16 := by have := of_decide_eq_false c33; omega
    subst heq32
    have r28_11_36 : V2.heap[g28]? = some (.cells (ints .u8 (by16 (SS + s))) 157) := QaA q28_2 (QbN _ 16 (QaN _))
    refine wp_exit ?_
    refine hK29 _ _ ?_
    refine wp_seq_k fun K37 hK37 => ?_
    refine Qab ?_
    refine Qaa (.agg (ints .u8 (by16 (SS + s)))) 46 rfl kj (Qas 157 _ g28 157 _ _ r28_11_36 rfl kj kj (isz (n := 16) kj ((Qaf _ _).trans (QaN _)))) ?_
    have r3_2 := (ExtB.row q2 r3_1 (Qap hg l3))
    have r3_3 := (Qad r3_2 e3)
    have r3_4 := (Puts.row p4 r3_3 (Qae r3_2 l8))
    have r3_5 := (Qad r3_4 e5)
    have r3_6 := (Qad r3_5 e6)
    have r3_7 := (Puts.row p7 r3_6 (Qae r3_5 l11))
    have r3_8 := (Qad r3_7 e8)
    have r3_9 := (Puts.row p9 r3_8 (Qae r3_2 l8))
    have r3_10 := (Qad r3_9 e10)
    have r3_11 := (Qar.row q11 r3_10 (Qa5 (Qae r3_9 l28) QaT))
    refine Qah g3 _ (ints .u8 (by16 (SS + s))) 157 r3_11 rfl kj (Qam 157 _ _ g3 157 _ _ r3_11 rfl kj kj (isz (n := 16) kj ((Qaf _ _).trans (QaN _))) (eqsz (n := 16) ((Qaf _ _).trans (List.length_replicate (n := 16))) ((Qaf _ _).trans (QaN _))) (Qay _ _)) fun W12 p12 r3_12 => ?_
    have x12 : ExtB g w W12 := ExtB.putsN xx2 p12 b3
    refine Qac ?_
    refine hK37 _ _ ?_
    refine wp_ret ?_
    repeat (first | with_reducible refine goR1 ?_ | with_reducible refine goR2 ?_)
    exact (show bodyPost _ _ _ .ret _ _ from ret1 (.agg (ints .u8 (by16 (SS + s)))) rfl (QaU g3 157 _ r3_12 kj kj (isz (n := 16) kj ((Qaf _ _).trans (QaN _)))) ⟨by unfold tagV; rw [hfin], x12⟩)
 ·skip
  have hm0 : m = 0 := by have := of_decide_eq_false c6; omega
  obtain ⟨SS, eSS⟩ : ∃ z, z = S := ⟨_, rfl⟩
  have hSS : SS % PP = Qdn r t := by rw [eSS, Qji (hm0 ▸ hq)]; exact hSm
  have hSb : 0 ≤ SS ∧ SS < 2041694201525630780780247644590609268736 := eSS ▸ hS
  have r1_1_n := r1_1
  rw [← eSS] at r1_1_n
  refine wp_skip ?_
  refine hK4 _ _ ?_
  refine wp_seq_k fun K38 hK38 => ?_
  refine Qab ?_
  refine Qaa (.pointer (some ⟨g, 0, none⟩)) 14 rfl kj kj ?_
  refine Qaa (.pointer (some ⟨g, 0, none⟩)) 15 rfl kj kj ?_
  refine Qaa (.pointer (some ⟨g, 6, none⟩)) 16 rfl kj kj ?_
  refine Qaa (.agg (ints .u64 (nw3 (SS)))) 17 rfl kj (QaF 221 _ g 6 226 _ _ _ r1_1_n rfl kj (QaE [ints .u64 (nw3 r), ints .u64 (nw3 s)] [ints .u64 (nw3 (SS))] [ints .u8 (pl), #[.int .i64 ((m : Nat) : Int)]] 6 (by rw [Qan, Qan]; simp only [Array.size_append, cat, ((Qaf _ _).trans (Qa2 _))]; rfl)) kj (isz (n := 3) kj ((Qaf _ _).trans (Qa2 _)))) ?_
  refine Qaq (ints .u64 ([0, 0, 0])) 221 3 rfl kj kj fun g39 W2 l39 e2 r39_2 => ?_
  have x2 : ExtB g w W2 := ExtB.ext x1 e2
  have b39 : w.heap.size ≤ g39 := Nat.le_trans x1.size l39
  refine Qah g39 _ (ints .u64 (nw3 (SS))) 221 r39_2 rfl kj (Qam 221 _ _ g39 221 _ _ r39_2 rfl kj kj (isz (n := 3) kj ((Qaf _ _).trans (Qa2 _))) (eqsz (n := 3) kj ((Qaf _ _).trans (Qa2 _))) (Qay _ _)) fun W3 p3 r39_3 => ?_
  have x3 : ExtB g w W3 := ExtB.putsN x2 p3 b39
  refine Qac ?_
  refine hK38 _ _ ?_
  refine wp_seq_k fun K40 hK40 => ?_
  refine wp_seq_k fun K41 hK41 => ?_
  refine Qab ?_
  refine Qaa (.agg (ints .u64 (nw3 (SS)))) 18 rfl kj (Qas 221 _ g39 221 _ _ r39_3 rfl kj kj (isz (n := 3) kj ((Qaf _ _).trans (Qa2 _)))) ?_
  refine Qaa (.agg (ints .u64 (nw3 5))) 19 rfl kj kj ?_
  refine Qax (.agg (ints .u64 (nw3 (SS + 5)))) 159 #[.agg (ints .u64 (nw3 (SS))), .agg (ints .u64 (nw3 5))] 20 rfl kj kj ((QfV SS 5 hSb.1 (by decide) (by omega) (by decide) (by omega)) _) fun W4 e4 => ?_
  have x4 : ExtB g w W4 := ExtB.ext x3 e4
  refine Qaq (ints .u64 ([0, 0, 0])) 221 4 rfl kj kj fun g42 W5 l42 e5 r42_5 => ?_
  have x5 : ExtB g w W5 := ExtB.ext x4 e5
  have b42 : w.heap.size ≤ g42 := Nat.le_trans x4.size l42
  refine Qah g42 _ (ints .u64 (nw3 (SS + 5))) 221 r42_5 rfl kj (Qam 221 _ _ g42 221 _ _ r42_5 rfl kj kj (isz (n := 3) kj ((Qaf _ _).trans (Qa2 _))) (eqsz (n := 3) kj ((Qaf _ _).trans (Qa2 _))) (Qay _ _)) fun W6 p6 r42_6 => ?_
  have x6 : ExtB g w W6 := ExtB.putsN x5 p6 b42
  refine Qac ?_
  refine hK41 _ _ ?_
  refine wp_seq_k fun K43 hK43 => ?_
  refine Qab ?_
  refine Qaa (.pointer (some ⟨g42, 2, none⟩)) 21 rfl kj kj ?_
  refine Qaa (.int .u64 (nth (nw3 (SS + 5)) 2)) 22 rfl kj (Qag 129 _ g42 2 221 _ (.int .u64 (nth (nw3 (SS + 5)) 2)) _ r42_6 rfl kj (Qa1 _ _ _ (Nat.lt_of_lt_of_eq (by decide) (Qa2 _).symm)) kj) ?_
  refine Qaa (.bool (decide (1361129467683753853853498429727072845824 ≤ SS + 5))) 23 rfl kj (Qal (u := .bool (decide ((nth (nw3 (SS + 5)) 2) ≥ 4))) kj (congrArg Value.bool (geq4 SS hSb.1 hSb.2))) ?_
  refine Qac ?_
  refine hK43 _ _ ?_
  refine Qa7 (t := decide (1361129467683753853853498429727072845824 ≤ SS + 5)) kj (fun c44 => ?_) (fun c44 => ?_)
  ·skip
   have hbig : 1361129467683753853853498429727072845824 ≤ SS + 5 := of_decide_eq_true c44
   have hfin : by16 (SS + 5 + s) = by16 (Qdn r t + s) := by
    have e : SS + 5 + s = (Qdn r t + s) + 1361129467683753853853498429727072845824 := by rw [← hSS]; unfold PP; omega
    rw [e, QgA]
   refine Qab ?_
   refine Qaa (.agg (ints .u64 (nw3 (SS + 5)))) 24 rfl kj (Qas 221 _ g42 221 _ _ r42_6 rfl kj kj (isz (n := 3) kj ((Qaf _ _).trans (Qa2 _)))) ?_
   have r39_4 := (Qad r39_3 e4)
   have r39_5 := (Qad r39_4 e5)
   have r39_6 := (Puts.row p6 r39_5 (Qae r39_4 l42))
   refine Qah g39 _ (ints .u64 (nw3 (SS + 5))) 221 r39_6 rfl kj (Qam 221 _ _ g39 221 _ _ r39_6 rfl kj kj (isz (n := 3) kj ((Qaf _ _).trans (Qa2 _))) (eqsz (n := 3) ((Qaf _ _).trans (Qa2 _)) ((Qaf _ _).trans (Qa2 _))) (Qay _ _)) fun W7 p7 r39_7 => ?_
   have x7 : ExtB g w W7 := ExtB.putsN x6 p7 b39
   refine Qac ?_
   refine hK40 _ _ ?_
   refine wp_seq_k fun K45 hK45 => ?_
   refine QaX 6 [⟨none, [(3, none)]⟩, ⟨none, [(0, none)]⟩, ⟨none, [(26, some 1)]⟩, ⟨none, [(27, some 2)]⟩, ⟨none, [(28, some 3)]⟩, ⟨none, [(25, some 0), (29, some 4)]⟩] kj kj fun F hF => ?_
   refine QaK (.agg (ints .u64 (nw3 (SS + 5)))) kj kj (fun W hR => (Qas 221 _ g39 221 _ _ (Qad (Qad r39_7 (Qak _)) hR) rfl kj kj (isz (n := 3) kj ((Qaf _ _).trans (Qa2 _))))) ?_
   refine Qao (.pointer (some ⟨g, 0, none⟩)) kj kj (fun W => by kernel_rfl) ?_
   refine Qao (.pointer (some ⟨g, 0, none⟩)) kj kj (fun W => by kernel_rfl) ?_
   refine Qao (.pointer (some ⟨g, 3, none⟩)) kj kj (fun W => by kernel_rfl) ?_
   have r1_2 := (Qad r1_1_n e2)
   have r1_3 := (Puts.row p3 r1_2 (Qae r1_1_n l39))
   have r1_4 := (Qad r1_3 e4)
   have r1_5 := (Qad r1_4 e5)
   have r1_6 := (Puts.row p6 r1_5 (Qae r1_4 l42))
   have r1_7 := (Puts.row p7 r1_6 (Qae r1_1_n l39))
   refine QaK (.agg (ints .u64 (nw3 s))) kj kj (fun W hR => (QaF 221 _ g 3 226 _ _ _ (Qad (Qad r1_7 (Qak _)) hR) rfl kj (QaE [ints .u64 (nw3 r)] [ints .u64 (nw3 s)] [ints .u64 (nw3 (SS)), ints .u8 (pl), #[.int .i64 ((m : Nat) : Int)]] 3 ((Qaf _ _).trans (Qa2 _))) kj (isz (n := 3) kj ((Qaf _ _).trans (Qa2 _))))) ?_
   refine QcK (.agg (ints .u64 (nw3 (SS + 5 + s)))) 159 #[.agg (ints .u64 (nw3 (SS + 5))), .agg (ints .u64 (nw3 s))] kj kj (fun W => by kernel_rfl) (fun W hR => (QfV (SS + 5) s (by omega) hs.1 (by omega) (by omega) (by omega)) W) ?_
   refine Qbh (hF _ kj fun W8 e8 => ?_)
   simp only [ups, up, Kn.val, List.take_succ_cons, List.take_zero, List.drop_succ_cons, List.drop_zero, List.nil_append, List.cons_append]
   clear hF
   have x8 : ExtB g w W8 := ExtB.ext x7 e8
   have r39_8 := (Qad r39_7 e8)
   refine Qah g39 _ (ints .u64 (nw3 (SS + 5 + s))) 221 r39_8 rfl kj (Qam 221 _ _ g39 221 _ _ r39_8 rfl kj kj (isz (n := 3) kj ((Qaf _ _).trans (Qa2 _))) (eqsz (n := 3) ((Qaf _ _).trans (Qa2 _)) ((Qaf _ _).trans (Qa2 _))) (Qay _ _)) fun W9 p9 r39_9 => ?_
   have x9 : ExtB g w W9 := ExtB.putsN x8 p9 b39
   refine Qac ?_
   refine hK45 _ _ ?_
   refine wp_seq_k fun K46 hK46 => ?_
   refine Qab ?_
   refine Qaq (ints .u8 (List.replicate 16 0)) 157 5 rfl kj kj fun g47 W10 l47 e10 r47_10 => ?_
   have x10 : ExtB g w W10 := ExtB.ext x9 e10
   have b47 : w.heap.size ≤ g47 := Nat.le_trans x9.size l47
   refine Qac ?_
   refine hK46 _ _ ?_
   refine wp_seq_k fun K48 hK48 => ?_
   refine wp_seq_k fun K49 hK49 => ?_
   refine Qab ?_
   refine Qaa (.int .i64 0) 31 rfl kj kj ?_
   refine Qac ?_
   refine hK49 _ _ ?_
   refine wp_block ?_
   refine QaO (fun (s3 : Nat) => [(2, .pointer (some ⟨g3, 0, none⟩)), (3, .pointer (some ⟨g39, 0, none⟩)), (5, .pointer (some ⟨g47, 0, none⟩)), (31, .int .i64 ((s3 : Nat) : Int))]) (fun (s3 : Nat) W => (s3 ≤ 16) ∧ (W.heap[g47]? = some (.cells (ints .u8 (Qb9 (by16 (SS + 5 + s)) 16 s3)) 157)) ∧ (Qar [g47] W10 W) ∧ (ExtB g w W)) (fun (s3 : Nat) => 16 - s3) 0 ⟨rfl, rfl, rfl, rfl, trivial⟩ ⟨(Nat.zero_le _), (QaA r47_10 (QbZ _ 16)), (Qar.refl [g47] W10), x10⟩ fun s3 X3 V3 hI3 => ?_
   obtain ⟨i, hs3⟩ : ∃ z, z = s3 := ⟨_, rfl⟩
   subst hs3
   obtain ⟨hi, q47_3, kk3, xx3⟩ := hI3
   replace hi : i ≤ 16 := hi
   replace q47_3 : V3.heap[g47]? = some (.cells (ints .u8 (Qb9 (by16 (SS + 5 + s)) 16 i)) 157) := q47_3
   replace kk3 : Qar [g47] W10 V3 := kk3
   replace xx3 : ExtB g w V3 := xx3
   have q11 := kk3
   refine wp_seq_k fun K50 hK50 => ?_
   refine Qab ?_
   refine Qaa (.bool (decide (((i : Nat) : Int) < 16))) 32 rfl kj kj ?_
   refine Qac ?_
   refine hK50 _ _ ?_
   refine wp_seq_k fun K51 hK51 => ?_
   refine Qa7 (t := decide (((i : Nat) : Int) < 16)) kj (fun c52 => ?_) (fun c52 => ?_)
   ·skip
    have hlt32 : i < 16 := by have := of_decide_eq_true c52; omega
    refine wp_skip ?_
    refine hK51 _ _ ?_
    refine wp_seq_k fun K53 hK53 => ?_
    refine wp_block ?_
    refine wp_seq_k fun K54 hK54 => ?_
    refine Qab ?_
    refine Qaa (.int .i64 ((i : Nat) : Int)) 33 rfl kj kj ?_
    refine Qaa (.int .i64 ((i : Nat) : Int)) 6 rfl kj kj ?_
    refine Qac ?_
    refine hK54 _ _ ?_
    refine Qab ?_
    refine Qaa (.int .i64 ((i : Nat) : Int)) 34 rfl kj kj ?_
    refine Qaa (.int .i64 ((i : Nat) : Int)) 35 rfl kj kj ?_
    refine Qaa (.int .i64 ((i / 8 : Nat) : Int)) 36 rfl kj (Qal (u := .int .i64 (IntKind.i64.wrap (Int.tdiv (((i : Nat) : Int)) (8)))) kj (congrArg (Value.int .i64) (QdH _ 8 (by omega)))) ?_
    refine Qaa (.pointer (some ⟨g39, i / 8, none⟩)) 37 rfl kj (QaH _ _ _ .i64 (i / 8) _ 3 129 rfl kj kj kj kj (by omega)) ?_
    have r39_10 := (Qad r39_9 e10)
    have r39_11 := (Qar.row q11 r39_10 (Qa5 (Qae r39_9 l47) QaT))
    refine Qaa (.int .u64 (nth (nw3 (SS + 5 + s)) (i / 8))) 38 rfl kj (Qag 129 _ g39 (i / 8) 221 _ (.int .u64 (nth (nw3 (SS + 5 + s)) (i / 8))) _ r39_11 rfl kj (Qa1 _ _ _ (Nat.lt_of_lt_of_eq (by omega) (Qa2 _).symm)) kj) ?_
    refine Qaa (.int .i64 ((i : Nat) : Int)) 39 rfl kj kj ?_
    refine Qaa (.int .i64 ((i % 8 : Nat) : Int)) 40 rfl kj (Qal (u := .int .i64 (Int.tmod (((i : Nat) : Int)) (8))) kj (congrArg (Value.int .i64) (QbY _ 8))) ?_
    refine Qaa (.int .i64 ((8 * (i % 8) : Nat) : Int)) 41 rfl kj (Qal (u := .int .i64 (IntKind.i64.wrap (8 * ((i % 8 : Nat) : Int)))) kj (congrArg (Value.int .i64) (i64n _ _ (by omega) (by omega)))) ?_
    refine Qaa (.int .u64 (nth (nw3 (SS + 5 + s)) (i / 8) / p256 (i % 8))) 42 rfl kj (Qa3 .shr _ _ _ _ .u64 .i64 _ _ _ rfl kj kj (Qbg _ _ _ _ _ _ (by omega) (shr8 _ (i % 8) _ rfl (by omega)))) ?_
    refine Qaa (.int .u8 (nth (by16 (SS + 5 + s)) i)) 43 rfl kj (Qal (u := .int .u8 (IntKind.u8.wrap (nth (nw3 (SS + 5 + s)) (i / 8) / p256 (i % 8)))) kj (congrArg (Value.int .u8) (Qec _ i hlt32))) ?_
    refine Qaa (.pointer (some ⟨g47, i, none⟩)) 44 rfl kj (QaH _ _ _ .i64 (i) _ 16 5 rfl kj kj kj kj (by omega)) ?_
    refine Qah g47 _ (ints .u8 ((Qb9 (by16 (SS + 5 + s)) 16 i).set i (nth (by16 (SS + 5 + s)) i))) 157 q47_3 rfl kj (Qai 5 _ _ g47 i 157 _ _ q47_3 rfl kj kj kj (Nat.lt_of_lt_of_eq (by omega) (Qcn _ 16 _ (QaN _) hi).symm)) fun W12 p12 r47_12 => ?_
    have x12 : ExtB g w W12 := ExtB.putsN xx3 p12 b47
    refine Qac ?_
    refine hK53 _ _ ?_
    refine Qab ?_
    refine Qaa (.int .i64 ((i + 1 : Nat) : Int)) 45 rfl kj (Qal (u := .int .i64 (IntKind.i64.wrap (((i : Nat) : Int) + 1))) kj (congrArg (Value.int .i64) (i64n _ _ (by omega) (by omega)))) ?_
    refine Qaa (.int .i64 ((i + 1 : Nat) : Int)) 31 rfl kj kj ?_
    refine Qac ?_
    repeat (first | with_reducible refine goX1 ?_ | with_reducible refine goX2 ?_ | with_reducible refine goX3 ?_)
    exact QaI (i + 1) ⟨rfl, rfl, rfl, rfl, trivial⟩ ⟨(show i + 1 ≤ 16 by omega), (QaA r47_12 (Qca _ 16 i (QaN _) hlt32)), (Qar.puts q11 p12 (.inl (by simp))), x12⟩ (by show 16 - (i + 1) < 16 - i; omega)
   ·skip
    have heq32 : i = 16 := by have := of_decide_eq_false c52; omega
    subst heq32
    have r47_11_55 : V3.heap[g47]? = some (.cells (ints .u8 (by16 (SS + 5 + s))) 157) := QaA q47_3 (QbN _ 16 (QaN _))
    refine wp_exit ?_
    refine hK48 _ _ ?_
    refine wp_seq_k fun K56 hK56 => ?_
    refine Qab ?_
    refine Qaa (.agg (ints .u8 (by16 (SS + 5 + s)))) 46 rfl kj (Qas 157 _ g47 157 _ _ r47_11_55 rfl kj kj (isz (n := 16) kj ((Qaf _ _).trans (QaN _)))) ?_
    have r3_2 := (Qad r3_1 e2)
    have r3_3 := (Puts.row p3 r3_2 (Qae r3_1 l39))
    have r3_4 := (Qad r3_3 e4)
    have r3_5 := (Qad r3_4 e5)
    have r3_6 := (Puts.row p6 r3_5 (Qae r3_4 l42))
    have r3_7 := (Puts.row p7 r3_6 (Qae r3_1 l39))
    have r3_8 := (Qad r3_7 e8)
    have r3_9 := (Puts.row p9 r3_8 (Qae r3_1 l39))
    have r3_10 := (Qad r3_9 e10)
    have r3_11 := (Qar.row q11 r3_10 (Qa5 (Qae r3_9 l47) QaT))
    refine Qah g3 _ (ints .u8 (by16 (SS + 5 + s))) 157 r3_11 rfl kj (Qam 157 _ _ g3 157 _ _ r3_11 rfl kj kj (isz (n := 16) kj ((Qaf _ _).trans (QaN _))) (eqsz (n := 16) ((Qaf _ _).trans (List.length_replicate (n := 16))) ((Qaf _ _).trans (QaN _))) (Qay _ _)) fun W12 p12 r3_12 => ?_
    have x12 : ExtB g w W12 := ExtB.putsN xx3 p12 b3
    refine Qac ?_
    refine hK56 _ _ ?_
    refine wp_ret ?_
    repeat (first | with_reducible refine goR1 ?_ | with_reducible refine goR2 ?_)
    exact (show bodyPost _ _ _ .ret _ _ from ret1 (.agg (ints .u8 (by16 (SS + 5 + s)))) rfl (QaU g3 157 _ r3_12 kj kj (isz (n := 16) kj ((Qaf _ _).trans (QaN _)))) ⟨by unfold tagV; rw [hfin], x12⟩)
  ·skip
   have hbig : ¬ 1361129467683753853853498429727072845824 ≤ SS + 5 := of_decide_eq_false c44
   have hfin : by16 (SS + s) = by16 (Qdn r t + s) := by
    have e : SS + s = Qdn r t + s := by rw [← hSS]; unfold PP; omega
    rw [e]
   refine wp_skip ?_
   refine hK40 _ _ ?_
   refine wp_seq_k fun K57 hK57 => ?_
   refine QaX 6 [⟨none, [(3, none)]⟩, ⟨none, [(0, none)]⟩, ⟨none, [(26, some 1)]⟩, ⟨none, [(27, some 2)]⟩, ⟨none, [(28, some 3)]⟩, ⟨none, [(25, some 0), (29, some 4)]⟩] kj kj fun F hF => ?_
   have r39_4 := (Qad r39_3 e4)
   have r39_5 := (Qad r39_4 e5)
   have r39_6 := (Puts.row p6 r39_5 (Qae r39_4 l42))
   refine QaK (.agg (ints .u64 (nw3 (SS)))) kj kj (fun W hR => (Qas 221 _ g39 221 _ _ (Qad (Qad r39_6 (Qak _)) hR) rfl kj kj (isz (n := 3) kj ((Qaf _ _).trans (Qa2 _))))) ?_
   refine Qao (.pointer (some ⟨g, 0, none⟩)) kj kj (fun W => by kernel_rfl) ?_
   refine Qao (.pointer (some ⟨g, 0, none⟩)) kj kj (fun W => by kernel_rfl) ?_
   refine Qao (.pointer (some ⟨g, 3, none⟩)) kj kj (fun W => by kernel_rfl) ?_
   have r1_2 := (Qad r1_1_n e2)
   have r1_3 := (Puts.row p3 r1_2 (Qae r1_1_n l39))
   have r1_4 := (Qad r1_3 e4)
   have r1_5 := (Qad r1_4 e5)
   have r1_6 := (Puts.row p6 r1_5 (Qae r1_4 l42))
   refine QaK (.agg (ints .u64 (nw3 s))) kj kj (fun W hR => (QaF 221 _ g 3 226 _ _ _ (Qad (Qad r1_6 (Qak _)) hR) rfl kj (QaE [ints .u64 (nw3 r)] [ints .u64 (nw3 s)] [ints .u64 (nw3 (SS)), ints .u8 (pl), #[.int .i64 ((m : Nat) : Int)]] 3 ((Qaf _ _).trans (Qa2 _))) kj (isz (n := 3) kj ((Qaf _ _).trans (Qa2 _))))) ?_
   refine QcK (.agg (ints .u64 (nw3 (SS + s)))) 159 #[.agg (ints .u64 (nw3 (SS))), .agg (ints .u64 (nw3 s))] kj kj (fun W => by kernel_rfl) (fun W hR => (QfV (SS) s (by omega) hs.1 (by omega) (by omega) (by omega)) W) ?_
   refine Qbh (hF _ kj fun W7 e7 => ?_)
   simp only [ups, up, Kn.val, List.take_succ_cons, List.take_zero, List.drop_succ_cons, List.drop_zero, List.nil_append, List.cons_append]
   clear hF
   have x7 : ExtB g w W7 := ExtB.ext x6 e7
   have r39_7 := (Qad r39_6 e7)
   refine Qah g39 _ (ints .u64 (nw3 (SS + s))) 221 r39_7 rfl kj (Qam 221 _ _ g39 221 _ _ r39_7 rfl kj kj (isz (n := 3) kj ((Qaf _ _).trans (Qa2 _))) (eqsz (n := 3) ((Qaf _ _).trans (Qa2 _)) ((Qaf _ _).trans (Qa2 _))) (Qay _ _)) fun W8 p8 r39_8 => ?_
   have x8 : ExtB g w W8 := ExtB.putsN x7 p8 b39
   refine Qac ?_
   refine hK57 _ _ ?_
   refine wp_seq_k fun K58 hK58 => ?_
   refine Qab ?_
   refine Qaq (ints .u8 (List.replicate 16 0)) 157 5 rfl kj kj fun g59 W9 l59 e9 r59_9 => ?_
   have x9 : ExtB g w W9 := ExtB.ext x8 e9
   have b59 : w.heap.size ≤ g59 := Nat.le_trans x8.size l59
   refine Qac ?_
   refine hK58 _ _ ?_
   refine wp_seq_k fun K60 hK60 => ?_
   refine wp_seq_k fun K61 hK61 => ?_
   refine Qab ?_
   refine Qaa (.int .i64 0) 31 rfl kj kj ?_
   refine Qac ?_
   refine hK61 _ _ ?_
   refine wp_block ?_
   refine QaO (fun (s4 : Nat) => [(2, .pointer (some ⟨g3, 0, none⟩)), (3, .pointer (some ⟨g39, 0, none⟩)), (5, .pointer (some ⟨g59, 0, none⟩)), (31, .int .i64 ((s4 : Nat) : Int))]) (fun (s4 : Nat) W => (s4 ≤ 16) ∧ (W.heap[g59]? = some (.cells (ints .u8 (Qb9 (by16 (SS + s)) 16 s4)) 157)) ∧ (Qar [g59] W9 W) ∧ (ExtB g w W)) (fun (s4 : Nat) => 16 - s4) 0 ⟨rfl, rfl, rfl, rfl, trivial⟩ ⟨(Nat.zero_le _), (QaA r59_9 (QbZ _ 16)), (Qar.refl [g59] W9), x9⟩ fun s4 X4 V4 hI4 => ?_
   obtain ⟨i, hs4⟩ : ∃ z, z = s4 := ⟨_, rfl⟩
   subst hs4
   obtain ⟨hi, q59_4, kk4, xx4⟩ := hI4
   replace hi : i ≤ 16 := hi
   replace q59_4 : V4.heap[g59]? = some (.cells (ints .u8 (Qb9 (by16 (SS + s)) 16 i)) 157) := q59_4
   replace kk4 : Qar [g59] W9 V4 := kk4
   replace xx4 : ExtB g w V4 := xx4
   have q10 := kk4
   refine wp_seq_k fun K62 hK62 => ?_
   refine Qab ?_
   refine Qaa (.bool (decide (((i : Nat) : Int) < 16))) 32 rfl kj kj ?_
   refine Qac ?_
   refine hK62 _ _ ?_
   refine wp_seq_k fun K63 hK63 => ?_
   refine Qa7 (t := decide (((i : Nat) : Int) < 16)) kj (fun c64 => ?_) (fun c64 => ?_)
   ·skip
    have hlt32 : i < 16 := by have := of_decide_eq_true c64; omega
    refine wp_skip ?_
    refine hK63 _ _ ?_
    refine wp_seq_k fun K65 hK65 => ?_
    refine wp_block ?_
    refine wp_seq_k fun K66 hK66 => ?_
    refine Qab ?_
    refine Qaa (.int .i64 ((i : Nat) : Int)) 33 rfl kj kj ?_
    refine Qaa (.int .i64 ((i : Nat) : Int)) 6 rfl kj kj ?_
    refine Qac ?_
    refine hK66 _ _ ?_
    refine Qab ?_
    refine Qaa (.int .i64 ((i : Nat) : Int)) 34 rfl kj kj ?_
    refine Qaa (.int .i64 ((i : Nat) : Int)) 35 rfl kj kj ?_
    refine Qaa (.int .i64 ((i / 8 : Nat) : Int)) 36 rfl kj (Qal (u := .int .i64 (IntKind.i64.wrap (Int.tdiv (((i : Nat) : Int)) (8)))) kj (congrArg (Value.int .i64) (QdH _ 8 (by omega)))) ?_
    refine Qaa (.pointer (some ⟨g39, i / 8, none⟩)) 37 rfl kj (QaH _ _ _ .i64 (i / 8) _ 3 129 rfl kj kj kj kj (by omega)) ?_
    have r39_9 := (Qad r39_8 e9)
    have r39_10 := (Qar.row q10 r39_9 (Qa5 (Qae r39_8 l59) QaT))
    refine Qaa (.int .u64 (nth (nw3 (SS + s)) (i / 8))) 38 rfl kj (Qag 129 _ g39 (i / 8) 221 _ (.int .u64 (nth (nw3 (SS + s)) (i / 8))) _ r39_10 rfl kj (Qa1 _ _ _ (Nat.lt_of_lt_of_eq (by omega) (Qa2 _).symm)) kj) ?_
    refine Qaa (.int .i64 ((i : Nat) : Int)) 39 rfl kj kj ?_
    refine Qaa (.int .i64 ((i % 8 : Nat) : Int)) 40 rfl kj (Qal (u := .int .i64 (Int.tmod (((i : Nat) : Int)) (8))) kj (congrArg (Value.int .i64) (QbY _ 8))) ?_
    refine Qaa (.int .i64 ((8 * (i % 8) : Nat) : Int)) 41 rfl kj (Qal (u := .int .i64 (IntKind.i64.wrap (8 * ((i % 8 : Nat) : Int)))) kj (congrArg (Value.int .i64) (i64n _ _ (by omega) (by omega)))) ?_
    refine Qaa (.int .u64 (nth (nw3 (SS + s)) (i / 8) / p256 (i % 8))) 42 rfl kj (Qa3 .shr _ _ _ _ .u64 .i64 _ _ _ rfl kj kj (Qbg _ _ _ _ _ _ (by omega) (shr8 _ (i % 8) _ rfl (by omega)))) ?_
    refine Qaa (.int .u8 (nth (by16 (SS + s)) i)) 43 rfl kj (Qal (u := .int .u8 (IntKind.u8.wrap (nth (nw3 (SS + s)) (i / 8) / p256 (i % 8)))) kj (congrArg (Value.int .u8) (Qec _ i hlt32))) ?_
    refine Qaa (.pointer (some ⟨g59, i, none⟩)) 44 rfl kj (QaH _ _ _ .i64 (i) _ 16 5 rfl kj kj kj kj (by omega)) ?_
    refine Qah g59 _ (ints .u8 ((Qb9 (by16 (SS + s)) 16 i).set i (nth (by16 (SS + s)) i))) 157 q59_4 rfl kj (Qai 5 _ _ g59 i 157 _ _ q59_4 rfl kj kj kj (Nat.lt_of_lt_of_eq (by omega) (Qcn _ 16 _ (QaN _) hi).symm)) fun W11 p11 r59_11 => ?_
    have x11 : ExtB g w W11 := ExtB.putsN xx4 p11 b59
    refine Qac ?_
    refine hK65 _ _ ?_
    refine Qab ?_
    refine Qaa (.int .i64 ((i + 1 : Nat) : Int)) 45 rfl kj (Qal (u := .int .i64 (IntKind.i64.wrap (((i : Nat) : Int) + 1))) kj (congrArg (Value.int .i64) (i64n _ _ (by omega) (by omega)))) ?_
    refine Qaa (.int .i64 ((i + 1 : Nat) : Int)) 31 rfl kj kj ?_
    refine Qac ?_
    repeat (first | with_reducible refine goX1 ?_ | with_reducible refine goX2 ?_ | with_reducible refine goX3 ?_)
    exact QaI (i + 1) ⟨rfl, rfl, rfl, rfl, trivial⟩ ⟨(show i + 1 ≤ 16 by omega), (QaA r59_11 (Qca _ 16 i (QaN _) hlt32)), (Qar.puts q10 p11 (.inl (by simp))), x11⟩ (by show 16 - (i + 1) < 16 - i; omega)
   ·skip
    have heq32 : i = 16 := by have := of_decide_eq_false c64; omega
    subst heq32
    have r59_10_67 : V4.heap[g59]? = some (.cells (ints .u8 (by16 (SS + s))) 157) := QaA q59_4 (QbN _ 16 (QaN _))
    refine wp_exit ?_
    refine hK60 _ _ ?_
    refine wp_seq_k fun K68 hK68 => ?_
    refine Qab ?_
    refine Qaa (.agg (ints .u8 (by16 (SS + s)))) 46 rfl kj (Qas 157 _ g59 157 _ _ r59_10_67 rfl kj kj (isz (n := 16) kj ((Qaf _ _).trans (QaN _)))) ?_
    have r3_2 := (Qad r3_1 e2)
    have r3_3 := (Puts.row p3 r3_2 (Qae r3_1 l39))
    have r3_4 := (Qad r3_3 e4)
    have r3_5 := (Qad r3_4 e5)
    have r3_6 := (Puts.row p6 r3_5 (Qae r3_4 l42))
    have r3_7 := (Qad r3_6 e7)
    have r3_8 := (Puts.row p8 r3_7 (Qae r3_1 l39))
    have r3_9 := (Qad r3_8 e9)
    have r3_10 := (Qar.row q10 r3_9 (Qa5 (Qae r3_8 l59) QaT))
    refine Qah g3 _ (ints .u8 (by16 (SS + s))) 157 r3_10 rfl kj (Qam 157 _ _ g3 157 _ _ r3_10 rfl kj kj (isz (n := 16) kj ((Qaf _ _).trans (QaN _))) (eqsz (n := 16) ((Qaf _ _).trans (List.length_replicate (n := 16))) ((Qaf _ _).trans (QaN _))) (Qay _ _)) fun W11 p11 r3_11 => ?_
    have x11 : ExtB g w W11 := ExtB.putsN xx4 p11 b3
    refine Qac ?_
    refine hK68 _ _ ?_
    refine wp_ret ?_
    repeat (first | with_reducible refine goR1 ?_ | with_reducible refine goR2 ?_)
    exact (show bodyPost _ _ _ .ret _ _ from ret1 (.agg (ints .u8 (by16 (SS + s)))) rfl (QaU g3 157 _ r3_11 kj kj (isz (n := 16) kj ((Qaf _ _).trans (QaN _)))) ⟨by unfold tagV; rw [hfin], x11⟩)
end Go.Proofs.YtoiendjhplbjjaaDoor.Ae
end
section
namespace Go.Proofs.YtoiendjhplbjjaaDoor.Ae
open Go Go.RowKit
open Rely Auto Own Sha
set_option linter.unusedVariables false
set_option linter.unusedSimpArgs false
open Sha Cha
def by8 (n : Int) : List Int := (List.range 8).map fun i => n / p256 i % 256
theorem Qcy (n : Int) : (by8 n).length = 8 := by simp [by8]
theorem QfI (n : Int) : Qaj (by8 n) := fun x hx => by
  unfold by8 at hx
  obtain ⟨i, -, rfl⟩ := List.mem_map.1 hx
  omega
theorem Qj3 (n : Int) (i : Nat) (h : i < 8) : nth (by8 n) i = n / p256 i % 256 := by
  unfold by8 nth
  rw [List.getD_eq_getElem?_getD, List.getElem?_map, List.getElem?_range h]
  rfl
theorem Qgb (n : Int) (i : Nat) (h : i < 8) : IntKind.u8.wrap (n / p256 i) = nth (by8 n) i := by
  have h3 : ∀ z : Int, IntKind.u8.wrap z = z % 256 := fun _ => rfl
  rw [h3, Qj3 n i h]
theorem or8 (x y : Int) : bits .or .u8 x y = (((BitVec.ofInt 8 x) ||| (BitVec.ofInt 8 y)).toNat : Int) := by
  have h : bits .or .u8 x y = IntKind.u8.wrap (((BitVec.ofInt 8 x) ||| (BitVec.ofInt 8 y)).toNat : Int) := rfl
  have h3 : ∀ z : Int, IntKind.u8.wrap z = z % 256 := fun _ => rfl
  rw [h, h3]
  have := ((BitVec.ofInt 8 x) ||| (BitVec.ofInt 8 y)).isLt
  omega
theorem QjS (x y : Int) : 0 ≤ bits .or .u8 x y ∧ bits .or .u8 x y < 256 := by
  rw [or8]
  have := ((BitVec.ofInt 8 x) ||| (BitVec.ofInt 8 y)).isLt
  omega
theorem QiZ (x y : Int) : 0 ≤ bits .xor .u8 x y ∧ bits .xor .u8 x y < 256 := by
  rw [QhY]
  have := ((BitVec.ofInt 8 x) ^^^ (BitVec.ofInt 8 y)).isLt
  omega
theorem Qis (x y : Int) (hx : 0 ≤ x ∧ x < 256) (hy : 0 ≤ y ∧ y < 256) : bits .or .u8 x y = 0 ↔ x = 0 ∧ y = 0 := by
  rw [or8, BitVec.toNat_or, BitVec.toNat_ofInt, BitVec.toNat_ofInt]
  have h := @Nat.or_eq_zero_iff (x % ((2 ^ 8 : Nat) : Int)).toNat (y % ((2 ^ 8 : Nat) : Int)).toNat
  omega
theorem Qfk (y : Int) : bits .xor .u8 y y = 0 := by rw [QhY, BitVec.xor_self]; rfl
theorem Qhc (x y : Int) (hx : 0 ≤ x ∧ x ≤ 255) (hy : 0 ≤ y ∧ y ≤ 255) : bits .xor .u8 x y = 0 ↔ x = y := by
  constructor
  · intro h
    have h1 := QdI x y hx.1 hx.2
    have h2 := QdI y y hy.1 hy.2
    rw [Qfk] at h2
    rw [h] at h1
    exact h1.symm.trans h2
  · intro h; subst h; exact Qfk x
theorem Qjc (xs ys : List Int) (i : Nat) (h1 : i < xs.length) (h2 : i < ys.length) : xs.take (i + 1) = ys.take (i + 1) ↔ xs.take i = ys.take i ∧ nth xs i = nth ys i := by
  rw [Qem xs i h1, Qem ys i h2]
  constructor
  · intro h
    have h3 := List.append_inj h (by rw [List.length_take, List.length_take]; omega)
    exact ⟨h3.1, by simpa using h3.2⟩
  · rintro ⟨a, b⟩; rw [a, b]
theorem Qhs {xs ys : List Int} {i : Nat} {d : Int} (h1 : i < xs.length) (h2 : i < ys.length) (hx : Qaj xs) (hy : Qaj ys) (hd : 0 ≤ d ∧ d < 256) (h : d = 0 ↔ xs.take i = ys.take i) :
    bits .or .u8 d (bits .xor .u8 (nth xs i) (nth ys i)) = 0 ↔ xs.take (i + 1) = ys.take (i + 1) := by
  have bx := Qbb hx i
  have by_ := Qbb hy i
  rw [Qis _ _ hd (QiZ _ _), Qhc _ _ (by omega) (by omega), Qjc xs ys i h1 h2, h]
theorem Qj5 (d : Int) (p : Prop) [Decidable p] (h : d = 0 ↔ p) : (d == 0) = decide p := by
  by_cases e : d = 0
  · rw [decide_eq_true (h.1 e), e]; rfl
  · rw [decide_eq_false (fun hp => e (h.2 hp))]; exact beq_eq_false_iff_ne.2 e
theorem Mk.ext {g : Nat} {r s : Int} {t : List Int} {W W' : World} (h : Mk g r s t W) (e : Ext W W') : Mk g r s t W' := by
  obtain ⟨S, pl, q, m, h1, h2, h3, h4⟩ := h
  exact ⟨S, pl, q, m, h1, h2, Qad h3 e, h4⟩
set_option maxHeartbeats 4000000 in
theorem Qgc (n : Nat) (w : World) : Calls Tryd.prog 112 #[.int .i64 ((n : Nat) : Int)] w (QbT w (OwnN .u8 5 w.heap.size (by8 (n : Int)))) := by
 refine enter 21 [(0, .int .i64 ((n : Nat) : Int))] Tryd.func112 rfl rfl kj rfl ?_
 refine wp_seq_k fun K1 hK1 => ?_
 refine Qab ?_
 refine Qaa (.slice none 0 0) 2 rfl kj kj ?_
 refine Qac ?_
 refine hK1 _ _ ?_
 refine wp_seq_k fun K2 hK2 => ?_
 refine Qab ?_
 refine QaZ (ints .u8 (List.replicate 8 0)) 5 8 5 rfl kj (Qdt 33 _ _ .i64 .i64 8 5 rfl kj kj kj (.inr kj) (by decide)) fun g3 W1 l3 e1 r3_1 => ?_
 have x1 : Ext w W1 := Ext.tr (Rely.Ext.refl w) e1
 have b3 : w.heap.size ≤ g3 := Nat.le_trans (Rely.Ext.refl w).size l3
 refine Qaa (.slice (some ⟨g3, 0, none⟩) 8 8) 3 rfl kj kj ?_
 refine Qac ?_
 refine hK2 _ _ ?_
 refine wp_seq_k fun K4 hK4 => ?_
 refine wp_seq_k fun K5 hK5 => ?_
 refine Qab ?_
 refine Qaa (.slice (some ⟨g3, 0, none⟩) 8 8) 6 rfl kj kj ?_
 refine Qaa (.int .i64 8) 7 rfl kj kj ?_
 refine Qaa (.int .i64 0) 8 rfl kj kj ?_
 refine Qac ?_
 refine hK5 _ _ ?_
 refine wp_block ?_
 refine QaO (fun (s1 : Nat) => [(0, .int .i64 ((n : Nat) : Int)), (2, .slice none 0 0), (3, .slice (some ⟨g3, 0, none⟩) 8 8), (6, .slice (some ⟨g3, 0, none⟩) 8 8), (7, .int .i64 8), (8, .int .i64 ((s1 : Nat) : Int))]) (fun (s1 : Nat) W => (s1 ≤ 8) ∧ (W.heap[g3]? = some (.cells (ints .u8 (Qb9 (by8 (n : Int)) 8 s1)) 5)) ∧ (Qar [g3] W1 W) ∧ (Ext w W)) (fun (s1 : Nat) => 8 - s1) 0 ⟨rfl, rfl, rfl, rfl, rfl, rfl, trivial⟩ ⟨(Nat.zero_le _), (QaA r3_1 (QbZ _ 8)), (Qar.refl [g3] W1), x1⟩ fun s1 X1 V1 hI1 => ?_
 obtain ⟨i, hs1⟩ : ∃ z, z = s1 := ⟨_, rfl⟩
 subst hs1
 obtain ⟨hi, q3_1, kk1, xx1⟩ := hI1
 replace hi : i ≤ 8 := hi
 replace q3_1 : V1.heap[g3]? = some (.cells (ints .u8 (Qb9 (by8 (n : Int)) 8 i)) 5) := q3_1
 replace kk1 : Qar [g3] W1 V1 := kk1
 replace xx1 : Ext w V1 := xx1
 have q2 := kk1
 refine wp_seq_k fun K6 hK6 => ?_
 refine Qab ?_
 refine Qaa (.bool (decide (((i : Nat) : Int) < 8))) 9 rfl kj kj ?_
 refine Qac ?_
 refine hK6 _ _ ?_
 refine wp_seq_k fun K7 hK7 => ?_
 refine Qa7 (t := decide (((i : Nat) : Int) < 8)) kj (fun c8 => ?_) (fun c8 => ?_)
 ·skip
  have hlt9 : i < 8 := by have := of_decide_eq_true c8; omega
  refine wp_skip ?_
  refine hK7 _ _ ?_
  refine wp_seq_k fun K9 hK9 => ?_
  refine wp_block ?_
  refine wp_seq_k fun K10 hK10 => ?_
  refine Qab ?_
  refine Qaa (.int .i64 ((i : Nat) : Int)) 10 rfl kj kj ?_
  refine Qaa (.int .i64 ((i : Nat) : Int)) 4 rfl kj kj ?_
  refine Qac ?_
  refine hK10 _ _ ?_
  refine Qab ?_
  refine Qaa (.slice (some ⟨g3, 0, none⟩) 8 8) 11 rfl kj kj ?_
  refine Qaa (.int .i64 ((i : Nat) : Int)) 12 rfl kj kj ?_
  refine Qaa (.int .i64 ((n : Nat) : Int)) 13 rfl kj kj ?_
  refine Qaa (.int .i64 ((i : Nat) : Int)) 14 rfl kj kj ?_
  refine Qaa (.int .i64 ((8 * i : Nat) : Int)) 15 rfl kj (Qal (u := .int .i64 (IntKind.i64.wrap (8 * ((i : Nat) : Int)))) kj (congrArg (Value.int .i64) (i64n _ _ (by omega) (by omega)))) ?_
  refine Qaa (.int .i64 ((n : Int) / p256 i)) 16 rfl kj (Qa3 .shr _ _ _ _ .i64 .i64 _ _ _ rfl kj kj (Qbg _ _ _ _ _ _ (by omega) (shr8 _ i _ rfl (by omega)))) ?_
  refine Qaa (.int .u8 (nth (by8 (n : Int)) i)) 17 rfl kj (Qal (u := .int .u8 (IntKind.u8.wrap ((n : Int) / p256 i))) kj (congrArg (Value.int .u8) (Qgb _ i hlt9))) ?_
  refine Qaa (.pointer (some ⟨g3, i, none⟩)) 18 rfl kj (Qbu 33 _ _ .i64 (i) g3 8 8 5 rfl kj kj kj kj (by omega)) ?_
  refine Qah g3 _ (ints .u8 ((Qb9 (by8 (n : Int)) 8 i).set i (nth (by8 (n : Int)) i))) 5 q3_1 rfl kj (Qai 5 _ _ g3 i 5 _ _ q3_1 rfl kj kj kj (Nat.lt_of_lt_of_eq (by omega) (Qcn _ 8 _ (Qcy _) hi).symm)) fun W3 p3 r3_3 => ?_
  have x3 : Ext w W3 := Puts.ext p3 xx1 b3
  refine Qac ?_
  refine hK9 _ _ ?_
  refine Qab ?_
  refine Qaa (.int .i64 ((i + 1 : Nat) : Int)) 19 rfl kj (Qal (u := .int .i64 (IntKind.i64.wrap (((i : Nat) : Int) + 1))) kj (congrArg (Value.int .i64) (i64n _ _ (by omega) (by omega)))) ?_
  refine Qaa (.int .i64 ((i + 1 : Nat) : Int)) 8 rfl kj kj ?_
  refine Qac ?_
  repeat (first | with_reducible refine goX1 ?_ | with_reducible refine goX2 ?_ | with_reducible refine goX3 ?_)
  exact QaI (i + 1) ⟨rfl, rfl, rfl, rfl, rfl, rfl, trivial⟩ ⟨(show i + 1 ≤ 8 by omega), (QaA r3_3 (Qca _ 8 i (Qcy _) hlt9)), (Qar.puts q2 p3 (.inl (by simp))), x3⟩ (by show 8 - (i + 1) < 8 - i; omega)
 ·skip
  have heq9 : i = 8 := by have := of_decide_eq_false c8; omega
  subst heq9
  have r3_2_11 : V1.heap[g3]? = some (.cells (ints .u8 (by8 (n : Int))) 5) := QaA q3_1 (QbN _ 8 (Qcy _))
  refine wp_exit ?_
  refine hK4 _ _ ?_
  refine wp_seq_k fun K12 hK12 => ?_
  refine Qab ?_
  refine Qaa (.slice (some ⟨g3, 0, none⟩) 8 8) 20 rfl kj kj ?_
  refine Qaa (.slice (some ⟨g3, 0, none⟩) 8 8) 2 rfl kj kj ?_
  refine Qac ?_
  refine hK12 _ _ ?_
  refine wp_ret ?_
  repeat (first | with_reducible refine goR1 ?_ | with_reducible refine goR2 ?_)
  exact (show bodyPost _ _ _ .ret _ _ from ret1 (.slice (some ⟨g3, 0, none⟩) 8 8) rfl (Qa9 kj) ⟨_, rfl, xx1, Qci (xs := by8 (n : Int)) (Qcy _) b3 r3_2_11 (by decide)⟩)
set_option maxHeartbeats 4000000 in
theorem QjC (xs : List Int) (v : Value) (B : Nat) (w : World) (h : RdK .u8 B xs v w) : Calls Tryd.prog 126 #[v] w (QbT w (OwnN .u8 5 w.heap.size (List.replicate ((16 - xs.length % 16) % 16) 0))) := by
  obtain ⟨a_x, c_x, rfl, -⟩ := id h
  refine enter 9 [(0, .slice a_x xs.length c_x)] Tryd.func126 rfl rfl kj rfl ?_
  refine wp_seq_k fun K1 hK1 => ?_
  refine Qab ?_
  refine Qaa (.slice none 0 0) 2 rfl kj kj ?_
  refine Qac ?_
  refine hK1 _ _ ?_
  refine wp_seq_k fun K2 hK2 => ?_
  refine Qab ?_
  refine Qaa (.slice a_x xs.length c_x) 3 rfl kj kj ?_
  refine Qaa (.int .i64 ((xs.length : Nat) : Int)) 4 rfl kj kj ?_
  refine Qaa (.int .i64 ((xs.length % 16 : Nat) : Int)) 5 rfl kj (Qal (u := .int .i64 (Int.tmod (((xs.length : Nat) : Int)) (16))) kj (congrArg (Value.int .i64) (QbY _ 16))) ?_
  refine Qaa (.int .i64 ((16 - (xs.length % 16) : Nat) : Int)) 6 rfl kj (Qal (u := .int .i64 (IntKind.i64.wrap (16 - ((xs.length % 16 : Nat) : Int)))) kj (congrArg (Value.int .i64) (i64n _ _ (by omega) (by omega)))) ?_
  refine Qaa (.int .i64 (((16 - (xs.length % 16)) % 16 : Nat) : Int)) 7 rfl kj (Qal (u := .int .i64 (Int.tmod (((16 - (xs.length % 16) : Nat) : Int)) (16))) kj (congrArg (Value.int .i64) (QbY _ 16))) ?_
  refine QaZ (ints .u8 (List.replicate ((16 - (xs.length % 16)) % 16) 0)) 5 ((16 - (xs.length % 16)) % 16) 8 rfl kj (Qdt 33 _ _ .i64 .i64 ((16 - (xs.length % 16)) % 16) 5 rfl kj kj kj (.inr kj) (by omega)) fun g3 W1 l3 e1 r3_1 => ?_
  have x1 : Ext w W1 := Ext.tr (Rely.Ext.refl w) e1
  have b3 : w.heap.size ≤ g3 := Nat.le_trans (Rely.Ext.refl w).size l3
  refine Qaa (.slice (some ⟨g3, 0, none⟩) ((16 - (xs.length % 16)) % 16) ((16 - (xs.length % 16)) % 16)) 2 rfl kj kj ?_
  refine Qac ?_
  refine hK2 _ _ ?_
  refine wp_ret ?_
  repeat (first | with_reducible refine goR1 ?_ | with_reducible refine goR2 ?_)
  exact (show bodyPost _ _ _ .ret _ _ from ret1 (.slice (some ⟨g3, 0, none⟩) ((16 - (xs.length % 16)) % 16) ((16 - (xs.length % 16)) % 16)) rfl (Qa9 kj) ⟨_, rfl, x1, Qci (List.length_replicate ..) b3 r3_1 (by rw [maxLen]; omega)⟩)
set_option maxHeartbeats 4000000 in
theorem QjN (xs ys : List Int) (v v2 : Value) (B B2 : Nat) (w : World) (hx : RdK .u8 B xs v w) (hy : RdK .u8 B2 ys v2 w) (hxb : Qaj xs) (hyb : Qaj ys) (hl : ys.length = xs.length) (hxl : xs.length ≤ 2000000) : Calls Tryd.prog 107 #[v, v2] w (Ret w (.bool (decide (xs = ys)))) := by
 obtain ⟨a_x, c_x, rfl, -⟩ := id hx
 obtain ⟨a_y, c_y, rfl, -⟩ := id hy
 refine enter 26 [(0, .slice a_x xs.length c_x), (1, .slice a_y ys.length c_y)] Tryd.func107 rfl rfl kj rfl ?_
 refine wp_seq_k fun K1 hK1 => ?_
 refine Qab ?_
 refine Qaa (.bool false) 4 rfl kj kj ?_
 refine Qac ?_
 refine hK1 _ _ ?_
 refine wp_seq_k fun K2 hK2 => ?_
 refine Qab ?_
 refine Qaa (.int .u8 0) 5 rfl kj kj ?_
 refine Qac ?_
 refine hK2 _ _ ?_
 refine wp_seq_k fun K3 hK3 => ?_
 refine wp_seq_k fun K4 hK4 => ?_
 refine Qab ?_
 refine Qaa (.slice a_x xs.length c_x) 7 rfl kj kj ?_
 refine Qaa (.int .i64 ((xs.length : Nat) : Int)) 8 rfl kj kj ?_
 refine Qaa (.int .i64 0) 9 rfl kj kj ?_
 refine Qac ?_
 refine hK4 _ _ ?_
 refine wp_block ?_
 refine QaO (fun (s1 : Nat × Int) => [(0, .slice a_x xs.length c_x), (1, .slice a_y ys.length c_y), (4, .bool false), (5, .int .u8 (s1.2)), (7, .slice a_x xs.length c_x), (8, .int .i64 ((xs.length : Nat) : Int)), (9, .int .i64 ((s1.1 : Nat) : Int))]) (fun (s1 : Nat × Int) W => (s1.1 ≤ xs.length) ∧ (0 ≤ s1.2 ∧ s1.2 < 256) ∧ (s1.2 = 0 ↔ xs.take s1.1 = ys.take s1.1) ∧ (Ext w W) ∧ (Ext w W)) (fun (s1 : Nat × Int) => xs.length - s1.1) (0, 0) ⟨rfl, rfl, rfl, rfl, rfl, rfl, rfl, trivial⟩ ⟨(Nat.zero_le _), ⟨by decide, by decide⟩, (by simp), (Rely.Ext.refl w), (Rely.Ext.refl w)⟩ fun s1 X1 V1 hI1 => ?_
 obtain ⟨i, d⟩ := s1
 obtain ⟨hi, hdb, hd, kk1, xx1⟩ := hI1
 replace hi : i ≤ xs.length := hi
 replace hdb : 0 ≤ d ∧ d < 256 := hdb
 replace hd : d = 0 ↔ xs.take i = ys.take i := hd
 replace kk1 : Ext w V1 := kk1
 replace xx1 : Ext w V1 := xx1
 have e1 := kk1
 refine wp_seq_k fun K5 hK5 => ?_
 refine Qab ?_
 refine Qaa (.bool (decide (((i : Nat) : Int) < ((xs.length : Nat) : Int)))) 10 rfl kj kj ?_
 refine Qac ?_
 refine hK5 _ _ ?_
 refine wp_seq_k fun K6 hK6 => ?_
 refine Qa7 (t := decide (((i : Nat) : Int) < ((xs.length : Nat) : Int))) kj (fun c7 => ?_) (fun c7 => ?_)
 ·skip
  have hlt : i < xs.length := by have := of_decide_eq_true c7; omega
  obtain ⟨grx8, orx8, harx8, -, hlrx8, hcrx8⟩ := QeB (RdK.ext hx xx1) (by omega)
  obtain ⟨gry9, ory9, hary9, -, hlry9, hcry9⟩ := QeB (RdK.ext hy xx1) (by omega)
  refine wp_skip ?_
  refine hK6 _ _ ?_
  refine wp_seq_k fun K10 hK10 => ?_
  refine wp_block ?_
  refine wp_seq_k fun K11 hK11 => ?_
  refine Qab ?_
  refine Qaa (.int .i64 ((i : Nat) : Int)) 11 rfl kj kj ?_
  refine Qaa (.int .i64 ((i : Nat) : Int)) 6 rfl kj kj ?_
  refine Qac ?_
  refine hK11 _ _ ?_
  refine QaY 10 [⟨none, [(5, none)]⟩, ⟨none, [(0, none)]⟩, ⟨none, [(6, none)]⟩, ⟨none, [(13, some 1), (14, some 2)]⟩, ⟨none, [(15, some 3)]⟩, ⟨none, [(1, none)]⟩, ⟨none, [(6, none)]⟩, ⟨none, [(17, some 5), (18, some 6)]⟩, ⟨none, [(19, some 7)]⟩, ⟨none, [(16, some 4), (20, some 8)]⟩] kj kj fun F hF => ?_
  refine QaB (Qav _) (.int .u8 (d)) kj kj (fun W => by kernel_rfl) ?_
  refine QaB (Qav _) (.slice a_x xs.length c_x) kj kj (fun W => by kernel_rfl) ?_
  refine QaB (Qav _) (.int .i64 ((i : Nat) : Int)) kj kj (fun W => by kernel_rfl) ?_
  refine QaB (Qav _) (.pointer (some ⟨grx8, orx8 + i, none⟩)) kj kj (fun W => (QcY 33 _ _ .i64 i grx8 orx8 xs.length c_x 5 a_x _ harx8 rfl rfl kj kj kj kj (Nat.lt_of_lt_of_eq (show i < (xs).length by omega) (rfl : (xs).length = (xs).length).symm))) ?_
  refine QbG (Qav _) (.int .u8 (nth (xs) (i))) kj kj (fun W hR => (Qbl 5 _ _ (.int .u8 (nth (xs) (i))) ((Below.cell (Rely.Ext.trans (Qak _) hR) hlrx8).trans (hcrx8 i (Nat.lt_of_lt_of_eq (show i < (xs).length by omega) (rfl : (xs).length = (xs).length).symm))) rfl kj kj)) ?_
  refine QaB (Qav _) (.slice a_y ys.length c_y) kj kj (fun W => by kernel_rfl) ?_
  refine QaB (Qav _) (.int .i64 ((i : Nat) : Int)) kj kj (fun W => by kernel_rfl) ?_
  refine QaB (Qav _) (.pointer (some ⟨gry9, ory9 + i, none⟩)) kj kj (fun W => (QcY 33 _ _ .i64 i gry9 ory9 ys.length c_y 5 a_y _ hary9 rfl rfl kj kj kj kj (Nat.lt_of_lt_of_eq (show i < (ys).length by omega) (rfl : (ys).length = (ys).length).symm))) ?_
  refine QbG (Qav _) (.int .u8 (nth (ys) (i))) kj kj (fun W hR => (Qbl 5 _ _ (.int .u8 (nth (ys) (i))) ((Below.cell (Rely.Ext.trans (Qak _) hR) hlry9).trans (hcry9 i (Nat.lt_of_lt_of_eq (show i < (ys).length by omega) (rfl : (ys).length = (ys).length).symm))) rfl kj kj)) ?_
  refine QaB (Qav _) (.int .u8 (bits .xor .u8 ((nth (xs) (i))) ((nth (ys) (i))))) kj kj (fun W => by kernel_rfl) ?_
  refine QcU (hF _ fun W2 e2 => ?_)
  simp only [List.nil_append, List.cons_append, List.take_succ_cons, List.take_zero, List.drop_succ_cons, List.drop_zero, finE, up]
  clear hF
  have x2 : Ext w W2 := Ext.tr xx1 e2
  refine Qaa (.int .u8 (bits .or .u8 (d) ((bits .xor .u8 ((nth (xs) (i))) ((nth (ys) (i))))))) 22 rfl kj kj ?_
  refine Qaa (.int .u8 (bits .or .u8 (d) ((bits .xor .u8 ((nth (xs) (i))) ((nth (ys) (i))))))) 5 rfl kj kj ?_
  refine Qac ?_
  refine hK10 _ _ ?_
  refine Qab ?_
  refine Qaa (.int .i64 ((i + 1 : Nat) : Int)) 23 rfl kj (Qal (u := .int .i64 (IntKind.i64.wrap (((i : Nat) : Int) + 1))) kj (congrArg (Value.int .i64) (i64n _ _ (by omega) (by omega)))) ?_
  refine Qaa (.int .i64 ((i + 1 : Nat) : Int)) 9 rfl kj kj ?_
  refine Qac ?_
  have y0_2 : Ext w W2 := (Rely.Ext.trans e1 e2)
  repeat (first | with_reducible refine goX1 ?_ | with_reducible refine goX2 ?_ | with_reducible refine goX3 ?_)
  exact QaI ((i + 1), (bits .or .u8 (d) ((bits .xor .u8 ((nth (xs) (i))) ((nth (ys) (i))))))) ⟨rfl, rfl, rfl, rfl, rfl, rfl, rfl, trivial⟩ ⟨(by omega), (QjS _ _), (Qhs hlt (by omega) hxb hyb hdb hd), y0_2, x2⟩ (by show xs.length - (i + 1) < xs.length - i; omega)
 ·skip
  have hie : i = xs.length := by have := of_decide_eq_false c7; omega
  have hall : d = 0 ↔ xs = ys := by rw [hie, List.take_length, List.take_of_length_le (by omega)] at hd; exact hd
  refine wp_exit ?_
  refine hK3 _ _ ?_
  refine wp_seq_k fun K12 hK12 => ?_
  refine Qab ?_
  refine Qaa (.int .u8 (d)) 24 rfl kj kj ?_
  refine Qaa (.bool (decide (xs = ys))) 25 rfl kj (Qal (u := .bool ((d == 0))) kj (congrArg Value.bool (Qj5 _ _ hall))) ?_
  refine Qaa (.bool (decide (xs = ys))) 4 rfl kj kj ?_
  refine Qac ?_
  refine hK12 _ _ ?_
  refine wp_ret ?_
  repeat (first | with_reducible refine goR1 ?_ | with_reducible refine goR2 ?_)
  exact (show bodyPost _ _ _ .ret _ _ from ret1 (.bool (decide (xs = ys))) rfl (Qa9 kj) ⟨rfl, xx1⟩)
set_option maxRecDepth 100000 in
set_option maxHeartbeats 4000000 in
theorem QjX (key y0 y1 y2 y3 y4 : List Int) (v0 v1 v2 v3 v4 : Value) (gp B : Nat) (w : World) (hkl : key.length = 32) (hkb : Qaj key) (hB : B ≤ w.heap.size) (hy0 : RdK .u8 B y0 v0 w) (hb0 : Qaj y0) (hl0 : y0.length ≤ 3000000) (hy1 : RdK .u8 B y1 v1 w) (hb1 : Qaj y1) (hl1 : y1.length ≤ 3000000) (hy2 : RdK .u8 B y2 v2 w) (hb2 : Qaj y2) (hl2 : y2.length ≤ 3000000) (hy3 : RdK .u8 B y3 v3 w) (hb3 : Qaj y3) (hl3 : y3.length ≤ 3000000) (hy4 : RdK .u8 B y4 v4 w) (hb4 : Qaj y4) (hl4 : y4.length ≤ 3000000) (hp0 : w.heap[gp]? = some (.cells #[v0, v1, v2, v3, v4] 33)) :
    Calls Tryd.prog 125 #[.agg (ints .u8 key), .slice (some ⟨gp, 0, none⟩) 5 5] w (Ret w (.agg (ints .u8 (tagV (rOf key) (sOf key) (y0 ++ y1 ++ y2 ++ y3 ++ y4))))) := by
  obtain ⟨a_y0, c_y0, rfl, -⟩ := id hy0
  obtain ⟨a_y1, c_y1, rfl, -⟩ := id hy1
  obtain ⟨a_y2, c_y2, rfl, -⟩ := id hy2
  obtain ⟨a_y3, c_y3, rfl, -⟩ := id hy3
  obtain ⟨a_y4, c_y4, rfl, -⟩ := id hy4
  have hp : w.heap[gp]? = some (.cells (cat [#[.slice a_y0 y0.length c_y0], #[.slice a_y1 y1.length c_y1], #[.slice a_y2 y2.length c_y2], #[.slice a_y3 y3.length c_y3], #[.slice a_y4 y4.length c_y4]]) 33) := hp0
  refine enter 22 [(0, .agg (ints .u8 (key))), (1, .slice (some ⟨gp, 0, none⟩) 5 5)] Tryd.func125 rfl rfl kj rfl ?_
  refine wp_seq_k fun K2 hK2 => ?_
  refine Qab ?_
  refine Qaq (ints .u8 (key)) 23 2 rfl kj kj fun g3 W1 l3 e1 r3_1 => ?_
  have x1 : Ext w W1 := Ext.tr (Rely.Ext.refl w) e1
  have b3 : w.heap.size ≤ g3 := Nat.le_trans (Rely.Ext.refl w).size l3
  refine Qaq (ints .u8 (List.replicate 16 0)) 157 4 rfl kj kj fun g4 W2 l4 e2 r4_2 => ?_
  have x2 : Ext w W2 := Ext.tr x1 e2
  have b4 : w.heap.size ≤ g4 := Nat.le_trans x1.size l4
  refine Qac ?_
  refine hK2 _ _ ?_
  refine wp_seq_k fun K5 hK5 => ?_
  refine Qab ?_
  have r3_2 := (Qad r3_1 e2)
  refine Qaa (.agg (ints .u8 (key))) 8 rfl kj (Qas 23 _ g3 23 _ _ r3_2 rfl kj kj (isz (n := 32) kj ((Qaf _ _).trans hkl))) ?_
  refine Qa0 (fun v W' => (fun v W => ∃ g, v = .pointer (some ⟨g, 0, none⟩) ∧ W2.heap.size ≤ g ∧ Mk g (rOf key) (sOf key) [] W) v W' ∧ Ext W2 W') 142 #[.agg (ints .u8 (key))] 9 rfl kj kj ((QgT key _ hkl hkb).mono (by rintro e w' ⟨v, rfl, e1, hv⟩; exact ⟨v, rfl, hv, e1⟩)) fun vv6 W3 hh6 => ?_
  obtain ⟨hv6, e3⟩ := hh6
  have x3 : Ext w W3 := Ext.tr x2 e3
  obtain ⟨gm, rfl, lm, hM0⟩ := hv6
  have hgm : w.heap.size ≤ gm := Nat.le_trans x2.size lm
  refine Qaa (.pointer (some ⟨gm, 0, none⟩)) 5 rfl kj kj ?_
  refine Qac ?_
  refine hK5 _ _ ?_
  refine wp_seq_k fun K8 hK8 => ?_
  refine wp_seq_k fun K9 hK9 => ?_
  refine Qab ?_
  refine Qaa (.slice (some ⟨gp, 0, none⟩) 5 5) 10 rfl kj kj ?_
  refine Qaa (.int .i64 5) 11 rfl kj kj ?_
  refine Qaa (.int .i64 0) 12 rfl kj kj ?_
  refine Qac ?_
  refine hK9 _ _ ?_
  refine wp_block ?_
  refine wp_loop_rounds 6 ?_
  show Code.wp _ _ (Exit.then (Code.rounds _ _ _ 5) _) _ _
  refine wp_seq_k fun K10 hK10 => ?_
  refine Qab ?_
  refine Qaa (.bool true) 13 rfl kj kj ?_
  refine Qac ?_
  refine hK10 _ _ ?_
  refine wp_seq_k fun K11 hK11 => ?_
  refine cond_true kj ?_
  refine wp_skip ?_
  refine hK11 _ _ ?_
  refine wp_seq_k fun K12 hK12 => ?_
  refine wp_block ?_
  refine wp_seq_k fun K13 hK13 => ?_
  refine Qab ?_
  refine Qaa (.pointer (some ⟨gp, 0, none⟩)) 14 rfl kj (Qbu 47 _ _ .i64 (0) gp 5 5 33 rfl kj kj kj kj (by decide)) ?_
  have r1_1 := (Qad hp e1)
  have r1_2 := (Qad r1_1 e2)
  have r1_3 := (Qad r1_2 e3)
  refine Qaa (.slice a_y0 y0.length c_y0) 15 rfl kj (Qag 33 _ gp 0 33 _ (.slice a_y0 y0.length c_y0) _ r1_3 rfl kj kj kj) ?_
  refine Qaa (.slice a_y0 y0.length c_y0) 7 rfl kj kj ?_
  refine Qac ?_
  refine hK13 _ _ ?_
  refine Qab ?_
  refine Qaa (.pointer (some ⟨gm, 0, none⟩)) 16 rfl kj kj ?_
  refine Qaa (.slice a_y0 y0.length c_y0) 17 rfl kj kj ?_
  refine Qa0 (fun v W' => v = .tuple #[] ∧ ExtB gm W3 W' ∧ Mk gm (rOf key) (sOf key) (y0) W') 143 #[.pointer (some ⟨gm, 0, none⟩), .slice a_y0 y0.length c_y0] 18 rfl kj kj ((addC gm (rOf key) (sOf key) ([]) y0 _ B _ (QeC key hkl hkb) (Nat.le_trans hB hgm) (RdK.ext hy0 x3) hb0 hl0 hM0).mono fun e w' h => ⟨_, h.1, rfl, h.2⟩) fun v W4 h4 => ?_
  obtain ⟨rfl, q4, M4⟩ := h4
  have x4 : Ext w W4 := ExtB.up x3 q4 hgm
  refine Qac ?_
  refine hK12 _ _ ?_
  refine Qab ?_
  refine Qaa (.int .i64 1) 19 rfl kj kj ?_
  refine Qaa (.int .i64 1) 12 rfl kj kj ?_
  refine Qac ?_
  show Code.rounds _ _ _ 5 _ _
  show Code.wp _ _ (Exit.then (Code.rounds _ _ _ 4) _) _ _
  refine wp_seq_k fun K14 hK14 => ?_
  refine Qab ?_
  refine Qaa (.bool true) 13 rfl kj kj ?_
  refine Qac ?_
  refine hK14 _ _ ?_
  refine wp_seq_k fun K15 hK15 => ?_
  refine cond_true kj ?_
  refine wp_skip ?_
  refine hK15 _ _ ?_
  refine wp_seq_k fun K16 hK16 => ?_
  refine wp_block ?_
  refine wp_seq_k fun K17 hK17 => ?_
  refine Qab ?_
  refine Qaa (.pointer (some ⟨gp, 1, none⟩)) 14 rfl kj (Qbu 47 _ _ .i64 (1) gp 5 5 33 rfl kj kj kj kj (by decide)) ?_
  have r1_4 := (ExtB.row q4 r1_3 (Qae r1_2 lm))
  refine Qaa (.slice a_y1 y1.length c_y1) 15 rfl kj (Qag 33 _ gp 1 33 _ (.slice a_y1 y1.length c_y1) _ r1_4 rfl kj kj kj) ?_
  refine Qaa (.slice a_y1 y1.length c_y1) 7 rfl kj kj ?_
  refine Qac ?_
  refine hK17 _ _ ?_
  refine Qab ?_
  refine Qaa (.pointer (some ⟨gm, 0, none⟩)) 16 rfl kj kj ?_
  refine Qaa (.slice a_y1 y1.length c_y1) 17 rfl kj kj ?_
  refine Qa0 (fun v W' => v = .tuple #[] ∧ ExtB gm W4 W' ∧ Mk gm (rOf key) (sOf key) (y0 ++ y1) W') 143 #[.pointer (some ⟨gm, 0, none⟩), .slice a_y1 y1.length c_y1] 18 rfl kj kj ((addC gm (rOf key) (sOf key) (y0) y1 _ B _ (QeC key hkl hkb) (Nat.le_trans hB hgm) (RdK.ext hy1 x4) hb1 hl1 M4).mono fun e w' h => ⟨_, h.1, rfl, h.2⟩) fun v W5 h5 => ?_
  obtain ⟨rfl, q5, M5⟩ := h5
  have x5 : Ext w W5 := ExtB.up x4 q5 hgm
  refine Qac ?_
  refine hK16 _ _ ?_
  refine Qab ?_
  refine Qaa (.int .i64 2) 19 rfl kj kj ?_
  refine Qaa (.int .i64 2) 12 rfl kj kj ?_
  refine Qac ?_
  show Code.rounds _ _ _ 4 _ _
  show Code.wp _ _ (Exit.then (Code.rounds _ _ _ 3) _) _ _
  refine wp_seq_k fun K18 hK18 => ?_
  refine Qab ?_
  refine Qaa (.bool true) 13 rfl kj kj ?_
  refine Qac ?_
  refine hK18 _ _ ?_
  refine wp_seq_k fun K19 hK19 => ?_
  refine cond_true kj ?_
  refine wp_skip ?_
  refine hK19 _ _ ?_
  refine wp_seq_k fun K20 hK20 => ?_
  refine wp_block ?_
  refine wp_seq_k fun K21 hK21 => ?_
  refine Qab ?_
  refine Qaa (.pointer (some ⟨gp, 2, none⟩)) 14 rfl kj (Qbu 47 _ _ .i64 (2) gp 5 5 33 rfl kj kj kj kj (by decide)) ?_
  have r1_5 := (ExtB.row q5 r1_4 (Qae r1_2 lm))
  refine Qaa (.slice a_y2 y2.length c_y2) 15 rfl kj (Qag 33 _ gp 2 33 _ (.slice a_y2 y2.length c_y2) _ r1_5 rfl kj kj kj) ?_
  refine Qaa (.slice a_y2 y2.length c_y2) 7 rfl kj kj ?_
  refine Qac ?_
  refine hK21 _ _ ?_
  refine Qab ?_
  refine Qaa (.pointer (some ⟨gm, 0, none⟩)) 16 rfl kj kj ?_
  refine Qaa (.slice a_y2 y2.length c_y2) 17 rfl kj kj ?_
  refine Qa0 (fun v W' => v = .tuple #[] ∧ ExtB gm W5 W' ∧ Mk gm (rOf key) (sOf key) (y0 ++ y1 ++ y2) W') 143 #[.pointer (some ⟨gm, 0, none⟩), .slice a_y2 y2.length c_y2] 18 rfl kj kj ((addC gm (rOf key) (sOf key) (y0 ++ y1) y2 _ B _ (QeC key hkl hkb) (Nat.le_trans hB hgm) (RdK.ext hy2 x5) hb2 hl2 M5).mono fun e w' h => ⟨_, h.1, rfl, h.2⟩) fun v W6 h6 => ?_
  obtain ⟨rfl, q6, M6⟩ := h6
  have x6 : Ext w W6 := ExtB.up x5 q6 hgm
  refine Qac ?_
  refine hK20 _ _ ?_
  refine Qab ?_
  refine Qaa (.int .i64 3) 19 rfl kj kj ?_
  refine Qaa (.int .i64 3) 12 rfl kj kj ?_
  refine Qac ?_
  show Code.rounds _ _ _ 3 _ _
  show Code.wp _ _ (Exit.then (Code.rounds _ _ _ 2) _) _ _
  refine wp_seq_k fun K22 hK22 => ?_
  refine Qab ?_
  refine Qaa (.bool true) 13 rfl kj kj ?_
  refine Qac ?_
  refine hK22 _ _ ?_
  refine wp_seq_k fun K23 hK23 => ?_
  refine cond_true kj ?_
  refine wp_skip ?_
  refine hK23 _ _ ?_
  refine wp_seq_k fun K24 hK24 => ?_
  refine wp_block ?_
  refine wp_seq_k fun K25 hK25 => ?_
  refine Qab ?_
  refine Qaa (.pointer (some ⟨gp, 3, none⟩)) 14 rfl kj (Qbu 47 _ _ .i64 (3) gp 5 5 33 rfl kj kj kj kj (by decide)) ?_
  have r1_6 := (ExtB.row q6 r1_5 (Qae r1_2 lm))
  refine Qaa (.slice a_y3 y3.length c_y3) 15 rfl kj (Qag 33 _ gp 3 33 _ (.slice a_y3 y3.length c_y3) _ r1_6 rfl kj kj kj) ?_
  refine Qaa (.slice a_y3 y3.length c_y3) 7 rfl kj kj ?_
  refine Qac ?_
  refine hK25 _ _ ?_
  refine Qab ?_
  refine Qaa (.pointer (some ⟨gm, 0, none⟩)) 16 rfl kj kj ?_
  refine Qaa (.slice a_y3 y3.length c_y3) 17 rfl kj kj ?_
  refine Qa0 (fun v W' => v = .tuple #[] ∧ ExtB gm W6 W' ∧ Mk gm (rOf key) (sOf key) (y0 ++ y1 ++ y2 ++ y3) W') 143 #[.pointer (some ⟨gm, 0, none⟩), .slice a_y3 y3.length c_y3] 18 rfl kj kj ((addC gm (rOf key) (sOf key) (y0 ++ y1 ++ y2) y3 _ B _ (QeC key hkl hkb) (Nat.le_trans hB hgm) (RdK.ext hy3 x6) hb3 hl3 M6).mono fun e w' h => ⟨_, h.1, rfl, h.2⟩) fun v W7 h7 => ?_
  obtain ⟨rfl, q7, M7⟩ := h7
  have x7 : Ext w W7 := ExtB.up x6 q7 hgm
  refine Qac ?_
  refine hK24 _ _ ?_
  refine Qab ?_
  refine Qaa (.int .i64 4) 19 rfl kj kj ?_
  refine Qaa (.int .i64 4) 12 rfl kj kj ?_
  refine Qac ?_
  show Code.rounds _ _ _ 2 _ _
  show Code.wp _ _ (Exit.then (Code.rounds _ _ _ 1) _) _ _
  refine wp_seq_k fun K26 hK26 => ?_
  refine Qab ?_
  refine Qaa (.bool true) 13 rfl kj kj ?_
  refine Qac ?_
  refine hK26 _ _ ?_
  refine wp_seq_k fun K27 hK27 => ?_
  refine cond_true kj ?_
  refine wp_skip ?_
  refine hK27 _ _ ?_
  refine wp_seq_k fun K28 hK28 => ?_
  refine wp_block ?_
  refine wp_seq_k fun K29 hK29 => ?_
  refine Qab ?_
  refine Qaa (.pointer (some ⟨gp, 4, none⟩)) 14 rfl kj (Qbu 47 _ _ .i64 (4) gp 5 5 33 rfl kj kj kj kj (by decide)) ?_
  have r1_7 := (ExtB.row q7 r1_6 (Qae r1_2 lm))
  refine Qaa (.slice a_y4 y4.length c_y4) 15 rfl kj (Qag 33 _ gp 4 33 _ (.slice a_y4 y4.length c_y4) _ r1_7 rfl kj kj kj) ?_
  refine Qaa (.slice a_y4 y4.length c_y4) 7 rfl kj kj ?_
  refine Qac ?_
  refine hK29 _ _ ?_
  refine Qab ?_
  refine Qaa (.pointer (some ⟨gm, 0, none⟩)) 16 rfl kj kj ?_
  refine Qaa (.slice a_y4 y4.length c_y4) 17 rfl kj kj ?_
  refine Qa0 (fun v W' => v = .tuple #[] ∧ ExtB gm W7 W' ∧ Mk gm (rOf key) (sOf key) (y0 ++ y1 ++ y2 ++ y3 ++ y4) W') 143 #[.pointer (some ⟨gm, 0, none⟩), .slice a_y4 y4.length c_y4] 18 rfl kj kj ((addC gm (rOf key) (sOf key) (y0 ++ y1 ++ y2 ++ y3) y4 _ B _ (QeC key hkl hkb) (Nat.le_trans hB hgm) (RdK.ext hy4 x7) hb4 hl4 M7).mono fun e w' h => ⟨_, h.1, rfl, h.2⟩) fun v W8 h8 => ?_
  obtain ⟨rfl, q8, M8⟩ := h8
  have x8 : Ext w W8 := ExtB.up x7 q8 hgm
  refine Qac ?_
  refine hK28 _ _ ?_
  refine Qab ?_
  refine Qaa (.int .i64 5) 19 rfl kj kj ?_
  refine Qaa (.int .i64 5) 12 rfl kj kj ?_
  refine Qac ?_
  show Code.rounds _ _ _ 1 _ _
  show Code.wp _ _ (Exit.then (Code.rounds _ _ _ 0) _) _ _
  refine wp_seq_k fun K30 hK30 => ?_
  refine Qab ?_
  refine Qaa (.bool false) 13 rfl kj kj ?_
  refine Qac ?_
  refine hK30 _ _ ?_
  refine wp_seq_k fun K31 hK31 => ?_
  refine cond_false kj ?_
  refine wp_exit ?_
  refine hK8 _ _ ?_
  refine wp_seq_k fun K32 hK32 => ?_
  refine Qab ?_
  refine Qaa (.pointer (some ⟨gm, 0, none⟩)) 20 rfl kj kj ?_
  refine Qa0 (fun v W' => v = .agg (ints .u8 (tagV (rOf key) (sOf key) (y0 ++ y1 ++ y2 ++ y3 ++ y4))) ∧ ExtB gm W8 W') 144 #[.pointer (some ⟨gm, 0, none⟩)] 21 rfl kj kj ((endC gm (rOf key) (sOf key) (y0 ++ y1 ++ y2 ++ y3 ++ y4) _ (QeC key hkl hkb) (QjO key hkl hkb) M8).mono fun e w' h => ⟨_, h.1, rfl, h.2⟩) fun v W9 h9 => ?_
  obtain ⟨rfl, q9⟩ := h9
  have x9 : Ext w W9 := ExtB.up x8 q9 hgm
  have r4_3 := (Qad r4_2 e3)
  have r4_4 := (ExtB.row q4 r4_3 (Qae r4_2 lm))
  have r4_5 := (ExtB.row q5 r4_4 (Qae r4_2 lm))
  have r4_6 := (ExtB.row q6 r4_5 (Qae r4_2 lm))
  have r4_7 := (ExtB.row q7 r4_6 (Qae r4_2 lm))
  have r4_8 := (ExtB.row q8 r4_7 (Qae r4_2 lm))
  have r4_9 := (ExtB.row q9 r4_8 (Qae r4_2 lm))
  refine Qah g4 _ (ints .u8 (tagV (rOf key) (sOf key) (y0 ++ y1 ++ y2 ++ y3 ++ y4))) 157 r4_9 rfl kj (Qam 157 _ _ g4 157 _ _ r4_9 rfl kj kj (isz (n := 16) kj ((Qaf _ _).trans (QaN _))) (eqsz (n := 16) ((Qaf _ _).trans (List.length_replicate (n := 16))) ((Qaf _ _).trans (QaN _))) (Qay _ _)) fun W10 p10 r4_10 => ?_
  have x10 : Ext w W10 := Puts.ext p10 x9 b4
  refine Qac ?_
  refine hK32 _ _ ?_
  refine wp_ret ?_
  repeat (first | with_reducible refine goR1 ?_ | with_reducible refine goR2 ?_)
  exact (show bodyPost _ _ _ .ret _ _ from ret1 (.agg (ints .u8 (tagV (rOf key) (sOf key) (y0 ++ y1 ++ y2 ++ y3 ++ y4)))) rfl (QaU g4 157 _ r4_10 kj kj (isz (n := 16) kj ((Qaf _ _).trans (QaN _)))) ⟨rfl, x10⟩)
end Go.Proofs.YtoiendjhplbjjaaDoor.Ae
end
section
namespace Go.Proofs.YtoiendjhplbjjaaDoor.Ae
open Go Go.RowKit
open Rely Auto Own Sha
set_option linter.unusedVariables false
set_option linter.unusedSimpArgs false
open Sha Cha
theorem QjP {P : Program} {ρ : Operand → Value} {o : Oper} {w : World} (t : TypeId) (n : Nat) (parts : Array (Nat × Operand)) (vs : Array (Nat × Value)) (ho : o.op = .buildSlice t n parts) (hv : (parts.map fun (i, x) => (i, ρ x)) = vs) {s : Value} {w' : World} (h : (Instr.buildSlice t n vs).run P w = .ok s w') :
    (execOp ρ o).run P w = .ok (.value s) w' := by
  unfold execOp
  simp only [ho, hv, Sem.run_bind, h, Result.andThen_ok, Sem.run_pure]
theorem run_sap {P : Program} {ρ : Operand → Value} {o : Oper} {w : World} (t : TypeId) (x : Operand) (n : Nat) (e : TypeId) {a : Option Addr} {len cap : Nat} (ho : o.op = .sliceToArrayPointer t x) (hx : ρ x = .slice a len cap) (hu : P.underlying t = some (.array n e)) (h : n ≤ len) :
    (execOp ρ o).run P w = .ok (.value (.pointer a)) w := by
  unfold execOp
  simp [ho, hx, Instr.arrayAt, run_underlying hu, Nat.not_lt.2 h]
theorem Qiz {k : IntKind} {xs : List Int} {n : Nat} : ∀ j v, (ints k (xs.take n))[j]? = some v → (ints k xs)[0 + j]? = some v := fun j v hv => by
  rw [Nat.zero_add]
  have hj : j < (xs.take n).length := by
    have := (Array.getElem?_eq_some_iff.1 hv).1
    rwa [Qaf] at this
  have hj2 : j < n ∧ j < xs.length := by rw [List.length_take] at hj; omega
  rw [← hv, Qa1 _ _ _ hj, Qa1 _ _ _ hj2.2, Qfb _ _ _ hj2.1]
theorem Qf3 (ws : List Wd) (n : Int) : Qaj (Qbk ws n) := fun x hx => by
  unfold Qbk QbU at hx
  obtain ⟨i, -, rfl⟩ := List.mem_map.1 hx
  omega
def otk (key nonce : List Int) : List Int := (Qbk (QaQ key nonce) 0).take 32
theorem Qh2 (key nonce : List Int) : (otk key nonce).length = 32 := by unfold otk; rw [List.length_take, Qb7]; rfl
theorem Qh3 (key nonce : List Int) : Qaj (otk key nonce) := QaW (Qf3 _ _) 32
def padV (xs : List Int) : List Int := List.replicate ((16 - xs.length % 16) % 16) 0
theorem Qgt (xs : List Int) : (padV xs).length = (16 - xs.length % 16) % 16 := List.length_replicate
theorem QeF (xs : List Int) : Qaj (padV xs) := fun x hx => by
  have := List.eq_of_mem_replicate hx
  subst this
  exact ⟨by decide, by decide⟩
def QkF (ctx mixed : List Int) : List Int := ctx ++ padV ctx ++ mixed ++ padV mixed ++ (by8 ((ctx.length : Nat) : Int) ++ by8 ((mixed.length : Nat) : Int))
def Qcz (key nonce ctx mixed : List Int) : List Int := tagV (rOf (otk key nonce)) (sOf (otk key nonce)) (QkF ctx mixed)
theorem Qb1 (key nonce ctx mixed : List Int) : (Qcz key nonce ctx mixed).length = 16 := QaN _
theorem QiH (n0 : Nat) (xs : List Int) (v : Value) (B : Nat) (w : World) (h : RdK .u8 B xs v w) (hn0 : n0 ≤ w.heap.size) : Calls Tryd.prog 126 #[v] w (QbT w (OwnN .u8 5 n0 (padV xs))) :=
  (QjC xs v B w h).mono fun e W' hg => by
    obtain ⟨v', e1, e2, e3⟩ := hg
    exact ⟨v', e1, e2, e3.base hn0⟩
set_option maxRecDepth 100000 in
set_option maxHeartbeats 4000000 in
theorem QhA (key nonce ctx mixed : List Int) (v v2 v3 : Value) (B B2 B3 : Nat) (th tq : TypeId) (w : World) (hh : w.heap[2]? = some (.cells (ints .u32 [1634760805, 857760878, 2036477234, 1797285236]) th)) (hq : w.heap[3]? = some (.cells (ints .i64 [0, 4, 8, 12, 1, 5, 9, 13, 2, 6, 10, 14, 3, 7, 11, 15, 0, 5, 10, 15, 1, 6, 11, 12, 2, 7, 8, 13, 3, 4, 9, 14]) tq)) (hkl : key.length = 32) (hn : RdK .u8 B nonce v w) (hc : RdK .u8 B2 ctx v2 w) (hm : RdK .u8 B3 mixed v3 w) (h : nonce.length = 12) (hcb : Qaj ctx) (hmb : Qaj mixed) (hcl : ctx.length ≤ 2000000) (hml : mixed.length ≤ 2000000) :
  Calls Tryd.prog 104 #[.agg (ints .u8 key), v, v2, v3] w (Ret w (.tuple #[.agg (ints .u8 (Qcz key nonce ctx mixed)), .nilIface])) := by
 obtain ⟨a_n, c_n, rfl, -⟩ := id hn
 obtain ⟨a_c, c_c, rfl, -⟩ := id hc
 obtain ⟨a_m, c_m, rfl, -⟩ := id hm
 refine enter 42 [(0, .agg (ints .u8 (key))), (1, .slice a_n nonce.length c_n), (2, .slice a_c ctx.length c_c), (3, .slice a_m mixed.length c_m)] Tryd.func104 rfl rfl kj rfl ?_
 refine wp_seq_k fun K3 hK3 => ?_
 refine Qab ?_
 refine Qaq (ints .u8 (key)) 23 4 rfl kj kj fun g4 W1 l4 e1 r4_1 => ?_
 have x1 : Ext w W1 := Ext.tr (Rely.Ext.refl w) e1
 have b4 : w.heap.size ≤ g4 := Nat.le_trans (Rely.Ext.refl w).size l4
 refine Qaq (ints .u8 (List.replicate 16 0)) 157 8 rfl kj kj fun g5 W2 l5 e2 r5_2 => ?_
 have x2 : Ext w W2 := Ext.tr x1 e2
 have b5 : w.heap.size ≤ g5 := Nat.le_trans x1.size l5
 refine Qaa (.nilIface) 9 rfl kj kj ?_
 refine Qac ?_
 refine hK3 _ _ ?_
 refine wp_seq_k fun K6 hK6 => ?_
 refine Qab ?_
 have r4_2 := (Qad r4_1 e2)
 refine Qaa (.agg (ints .u8 (key))) 14 rfl kj (Qas 23 _ g4 23 _ _ r4_2 rfl kj kj (isz (n := 32) kj ((Qaf _ _).trans hkl))) ?_
 refine Qaa (.slice a_n nonce.length c_n) 15 rfl kj kj ?_
 have r2_1 := (Qad hh e1)
 have r2_2 := (Qad r2_1 e2)
 have r1_1 := (Qad hq e1)
 have r1_2 := (Qad r1_1 e2)
 refine Qax (.tuple #[.agg (ints .u8 (Qbk (QaQ key nonce) (0))), .nilIface]) 124 #[.agg (ints .u8 (key)), .slice a_n nonce.length c_n, .int .i64 0] 16 rfl kj kj ((Qj7 key nonce _ _ 0 th tq _ r2_2 r1_2 hkl (RdK.ext hn x2) h (by decide) (by decide))) fun W3 e3 => ?_
 have x3 : Ext w W3 := Ext.tr x2 e3
 refine Qaa (.tuple #[.agg (ints .u8 (Qbk (QaQ key nonce) (0))), .nilIface]) 13 rfl kj kj ?_
 refine Qaa (.agg (ints .u8 (Qbk (QaQ key nonce) (0)))) 17 rfl kj kj ?_
 refine Qaa (.nilIface) 18 rfl kj kj ?_
 refine Qaq (ints .u8 (List.replicate 64 0)) 164 10 rfl kj kj fun g7 W4 l7 e4 r7_4 => ?_
 have x4 : Ext w W4 := Ext.tr x3 e4
 have b7 : w.heap.size ≤ g7 := Nat.le_trans x3.size l7
 refine Qah g7 _ (ints .u8 (Qbk (QaQ key nonce) (0))) 164 r7_4 rfl kj (Qam 164 _ _ g7 164 _ _ r7_4 rfl kj kj (isz (n := 64) kj ((Qaf _ _).trans (Qb7 _ _))) (eqsz (n := 64) ((Qaf _ _).trans (List.length_replicate (n := 64))) ((Qaf _ _).trans (Qb7 _ _))) (Qay _ _)) fun W5 p5 r7_5 => ?_
 have x5 : Ext w W5 := Puts.ext p5 x4 b7
 refine Qaa (.nilIface) 11 rfl kj kj ?_
 refine Qac ?_
 refine hK6 _ _ ?_
 refine wp_seq_k fun K8 hK8 => ?_
 refine wp_seq_k fun K9 hK9 => ?_
 refine Qab ?_
 refine Qaa (.nilIface) 19 rfl kj kj ?_
 refine Qaa (.bool false) 20 rfl kj kj ?_
 refine Qac ?_
 refine hK9 _ _ ?_
 refine cond_false kj ?_
 refine wp_skip ?_
 refine hK8 _ _ ?_
 refine wp_seq_k fun K10 hK10 => ?_
 refine Qab ?_
 refine Qaa (.slice a_c ctx.length c_c) 23 rfl kj kj ?_
 refine Qaa (.int .i64 ((ctx.length : Nat) : Int)) 24 rfl kj kj ?_
 refine Qa0 (fun v W' => (OwnN .u8 5 W5.heap.size (by8 ((ctx.length : Nat) : Int))) v W' ∧ Ext W5 W') 112 #[.int .i64 ((ctx.length : Nat) : Int)] 25 rfl kj kj ((Qgc (ctx.length) _).mono (by rintro e w' ⟨v, rfl, e1, hv⟩; exact ⟨v, rfl, hv, e1⟩)) fun vv11 W6 hh11 => ?_
 obtain ⟨hv11, e6⟩ := hh11
 have x6 : Ext w W6 := Ext.tr x5 e6
 obtain ⟨a25_, c25_, rfl, -⟩ := id (OwnN.rd hv11)
 refine Qaa (.slice a_m mixed.length c_m) 26 rfl kj kj ?_
 refine Qaa (.int .i64 ((mixed.length : Nat) : Int)) 27 rfl kj kj ?_
 refine Qa0 (fun v W' => (OwnN .u8 5 W6.heap.size (by8 ((mixed.length : Nat) : Int))) v W' ∧ Ext W6 W') 112 #[.int .i64 ((mixed.length : Nat) : Int)] 28 rfl kj kj ((Qgc (mixed.length) _).mono (by rintro e w' ⟨v, rfl, e1, hv⟩; exact ⟨v, rfl, hv, e1⟩)) fun vv12 W7 hh12 => ?_
 obtain ⟨hv12, e7⟩ := hh12
 have x7 : Ext w W7 := Ext.tr x6 e7
 obtain ⟨a28_, c28_, rfl, -⟩ := id (OwnN.rd hv12)
 have f13_7 := (hv11.ext e7)
 have y5_6 : Ext W5 W6 := (Rely.Ext.trans (Rely.Ext.refl W5) e6)
 have y5_7 : Ext W5 W7 := (Rely.Ext.trans y5_6 e7)
 refine QcA (k := .u8) (T := 5) (xs := by8 ((ctx.length : Nat) : Int)) (ys := by8 ((mixed.length : Nat) : Int)) (V := W5) 1 (.tmp 25) (.tmp 28) 33 rfl kj kj (by decide) 29 rfl kj kj kj f13_7 (OwnN.rd hv12) (by rw [Qcy, Qcy]; decide) y5_7 fun zl W8 f14 y8 l8 => ?_
 have x8 : Ext w W8 := Ext.low x7 l8 x5.size
 obtain ⟨a29_, c29_, rfl, -⟩ := id (OwnN.rd f14)
 refine Qaa (.slice a29_ ((by8 ((ctx.length : Nat) : Int) ++ by8 ((mixed.length : Nat) : Int)).length) c29_) 12 rfl kj kj ?_
 refine Qac ?_
 refine hK10 _ _ ?_
 refine wp_seq_k fun K16 hK16 => ?_
 refine QaY 11 [⟨none, [(10, none)]⟩, ⟨none, [(30, some 0)]⟩, ⟨none, [(31, some 1)]⟩, ⟨none, [(2, none)]⟩, ⟨none, [(2, none)]⟩, ⟨none, [(34, some 4)]⟩, ⟨none, [(3, none)]⟩, ⟨none, [(3, none)]⟩, ⟨none, [(37, some 7)]⟩, ⟨none, [(12, none)]⟩, ⟨none, [(33, some 3), (35, some 5), (36, some 6), (38, some 8), (39, some 9)]⟩] kj kj fun F hF => ?_
 refine QaB (Qav _) (.slice (some ⟨g7, 0 + 0, none⟩) (32 - 0) (64 - 0)) kj kj (fun W => (Qbe 164 _ _ _ 0 32 64 g7 0 5 rfl kj kj kj rfl ⟨.i64, by kernel_rfl⟩ (by omega) (by omega) (by omega))) ?_
 refine QaB (Qav _) (.pointer (some ⟨g7, 0, none⟩)) kj kj (fun W => (run_sap 23 _ 32 5 (len := 32) (cap := 64) rfl kj kj (by decide))) ?_
 have r7_6 := (Qad r7_5 e6)
 have r7_7 := (Qad r7_6 e7)
 have r7_8 := (QhD l8 r7_7 (Qa8 r7_5))
 refine QbG (Qav _) (.agg (ints .u8 (otk key nonce))) kj kj (fun W hR => (QaF 23 _ g7 0 164 _ (ints .u8 (otk key nonce)) _ (Qad (Qad r7_8 (Qak _)) hR) rfl kj (Qiz (xs := Qbk (QaQ key nonce) (0)) (n := 32)) kj (isz (n := 32) kj ((Qaf _ _).trans (Qh2 _ _))))) ?_
 refine QaB (Qav _) (.slice a_c ctx.length c_c) kj kj (fun W => by kernel_rfl) ?_
 refine QaB (Qav _) (.slice a_c ctx.length c_c) kj kj (fun W => by kernel_rfl) ?_
 refine Qew (Qav _) (OwnN .u8 5 W8.heap.size (padV ctx)) (OwnN.stable _ _ _ _) 126 #[.slice a_c ctx.length c_c] kj kj (fun W => by kernel_rfl) (fun W hR => (QiH W8.heap.size ctx _ _ _ (RdK.ext (RdK.ext hc x8) (Rely.Ext.trans (Qak _) hR)) (Rely.Ext.trans (Qak _) hR).size)) ?_
 refine QaB (Qav _) (.slice a_m mixed.length c_m) kj kj (fun W => by kernel_rfl) ?_
 refine QaB (Qav _) (.slice a_m mixed.length c_m) kj kj (fun W => by kernel_rfl) ?_
 refine Qew (Qav _) (OwnN .u8 5 W8.heap.size (padV mixed)) (OwnN.stable _ _ _ _) 126 #[.slice a_m mixed.length c_m] kj kj (fun W => by kernel_rfl) (fun W hR => (QiH W8.heap.size mixed _ _ _ (RdK.ext (RdK.ext hm x8) (Rely.Ext.trans (Qak _) hR)) (Rely.Ext.trans (Qak _) hR).size)) ?_
 refine QaB (Qav _) (.slice a29_ ((by8 ((ctx.length : Nat) : Int) ++ by8 ((mixed.length : Nat) : Int)).length) c29_) kj kj (fun W => by kernel_rfl) ?_
 refine Qd3 (Qav _) (fun v W => ∃ g za35_19 za38_19, v = .slice (some ⟨g, 0, none⟩) 5 5 ∧ W8.heap.size ≤ g ∧ W.heap[g]? = some (.cells #[.slice a_c ctx.length c_c, za35_19, .slice a_m mixed.length c_m, za38_19, .slice a29_ ((by8 ((ctx.length : Nat) : Int) ++ by8 ((mixed.length : Nat) : Int)).length) c29_] 33) ∧ (OwnN .u8 5 W8.heap.size (padV ctx)) za35_19 W ∧ (OwnN .u8 5 W8.heap.size (padV mixed)) za38_19 W) (fun _ _ _ hR ⟨g, za35_19, za38_19, h1, h2, h3, qza35_19, qza38_19⟩ => ⟨g, za35_19, za38_19, h1, h2, Qad h3 hR, (OwnN.stable _ _ _ _) _ _ _ hR qza35_19, (OwnN.stable _ _ _ _) _ _ _ hR qza38_19⟩) (fun ρ W hR hh => ?_) ?_
 ·skip
  have e33 : ρ 33 = .slice a_c ctx.length c_c := hh.1
  obtain ⟨ar35, cr35, e35, -⟩ := id (OwnN.rd hh.2.1)
  have e36 : ρ 36 = .slice a_m mixed.length c_m := hh.2.2.1
  obtain ⟨ar38, cr38, e38, -⟩ := id (OwnN.rd hh.2.2.2.1)
  have e39 : ρ 39 = .slice a29_ ((by8 ((ctx.length : Nat) : Int) ++ by8 ((mixed.length : Nat) : Int)).length) c29_ := hh.2.2.2.2.1
  refine ⟨_, _, QjP 47 5 _ _ rfl (Eq.trans (b := #[(0, ρ 33), (1, ρ 35), (2, ρ 36), (3, ρ 38), (4, ρ 39)]) kj (by rw [e33, e35, e36, e38, e39])) (s := .slice (some ⟨W.heap.size, 0, none⟩) 5 5) (w' := W.alloc (.cells #[.slice a_c ctx.length c_c, .slice ar35 (padV ctx).length cr35, .slice a_m mixed.length c_m, .slice ar38 (padV mixed).length cr38, .slice a29_ ((by8 ((ctx.length : Nat) : Int) ++ by8 ((mixed.length : Nat) : Int)).length) c29_] 33)) kj, QbS _ _, ⟨W.heap.size, ρ 35, ρ 38, rfl, (Rely.Ext.trans (Qak _) hR).size, ?_, (OwnN.stable _ _ _ _) _ _ _ (QbS _ _) hh.2.1, (OwnN.stable _ _ _ _) _ _ _ (QbS _ _) hh.2.2.2.1⟩⟩
  rw [e35, e38]; exact heap_alloc_new _ _
 refine QcU (hF _ fun W9 e9 => ?_)
 simp only [List.nil_append, List.cons_append, List.take_succ_cons, List.take_zero, List.drop_succ_cons, List.drop_zero, finE, up]
 intro vv17 hv17 vv18 hv18 vv19 hv19
 clear hF
 have x9 : Ext w W9 := Ext.tr x8 e9
 obtain ⟨g20, za35_19, za38_19, rfl, l20, r20_9, qza35_19, qza38_19⟩ := hv19
 have b20 : w.heap.size ≤ g20 := Nat.le_trans x8.size l20
 obtain ⟨a35b_, c35b_, rfl, -⟩ := id (OwnN.rd qza35_19)
 obtain ⟨a38b_, c38b_, rfl, -⟩ := id (OwnN.rd qza38_19)
 have f21_9 := (f14.ext e9)
 refine Qax (.agg (ints .u8 (Qcz key nonce ctx mixed))) 125 #[.agg (ints .u8 (otk key nonce)), .slice (some ⟨g20, 0, none⟩) 5 5] 41 rfl kj kj ((QjX (otk key nonce) ctx (padV ctx) mixed (padV mixed) (by8 ((ctx.length : Nat) : Int) ++ by8 ((mixed.length : Nat) : Int)) _ _ _ _ _ _ _ _ (Qh2 _ _) (Qh3 _ _) (Nat.le_refl _) (RdK.here (RdK.ext hc x9)) hcb (by omega) (RdK.here (OwnN.rd qza35_19)) (QeF _) (by rw [Qgt]; omega) (RdK.here (RdK.ext hm x9)) hmb (by omega) (RdK.here (OwnN.rd qza38_19)) (QeF _) (by rw [Qgt]; omega) (RdK.here (OwnN.rd f21_9)) (bytes_app (QfI _) (QfI _)) (by rw [List.length_append, Qcy, Qcy]; decide) r20_9)) fun W10 e10 => ?_
 have x10 : Ext w W10 := Ext.tr x9 e10
 have r5_3 := (Qad r5_2 e3)
 have r5_4 := (Qad r5_3 e4)
 have r5_5 := (Puts.row p5 r5_4 (Qae r5_3 l7))
 have r5_6 := (Qad r5_5 e6)
 have r5_7 := (Qad r5_6 e7)
 have r5_8 := (QhD l8 r5_7 (Qa8 r5_5))
 have r5_9 := (Qad r5_8 e9)
 have r5_10 := (Qad r5_9 e10)
 refine Qah g5 _ (ints .u8 (Qcz key nonce ctx mixed)) 157 r5_10 rfl kj (Qam 157 _ _ g5 157 _ _ r5_10 rfl kj kj (isz (n := 16) kj ((Qaf _ _).trans (Qb1 _ _ _ _))) (eqsz (n := 16) ((Qaf _ _).trans (List.length_replicate (n := 16))) ((Qaf _ _).trans (Qb1 _ _ _ _))) (Qay _ _)) fun W11 p11 r5_11 => ?_
 have x11 : Ext w W11 := Puts.ext p11 x10 b5
 refine Qaa (.nilIface) 9 rfl kj kj ?_
 refine Qac ?_
 refine hK16 _ _ ?_
 refine wp_ret ?_
 repeat (first | with_reducible refine goR1 ?_ | with_reducible refine goR2 ?_)
 exact (show bodyPost _ _ _ .ret _ _ from ret2 (.agg (ints .u8 (Qcz key nonce ctx mixed))) (.nilIface) rfl (QaU g5 157 _ r5_11 kj kj (isz (n := 16) kj ((Qaf _ _).trans (Qb1 _ _ _ _)))) (Qa9 kj) ⟨rfl, x11⟩)
end Go.Proofs.YtoiendjhplbjjaaDoor.Ae
end
section
namespace Go.Proofs.YtoiendjhplbjjaaDoor.Ae
open Go Go.RowKit
open Rely Auto Own Sha
set_option linter.unusedVariables false
set_option linter.unusedSimpArgs false
open Sha Cha
def Qcx (key nonce ctx text : List Int) : List Int := mixV (QaQ key nonce) 1 text ++ Qcz key nonce ctx (mixV (QaQ key nonce) 1 text)
theorem Qck (key nonce ctx text : List Int) : (Qcx key nonce ctx text).length = text.length + 16 := by unfold Qcx; rw [List.length_append, QbE, Qb1]
theorem Qil (xs ys : List Int) (v v2 : Value) (B B2 : Nat) (w : World) (e : xs = ys) (hx : RdK .u8 B xs v w) (hy : RdK .u8 B2 ys v2 w) (hxb : Qaj xs) (hyb : Qaj ys) (hl : ys.length = xs.length) (hxl : xs.length ≤ 2000000) : Calls Tryd.prog 107 #[v, v2] w (Ret w (.bool true)) := by
  have h := QjN xs ys v v2 B B2 w hx hy hxb hyb hl hxl
  rw [decide_eq_true e] at h
  exact h
theorem Qe2 (key nonce ctx mixed : List Int) : Qaj (Qcz key nonce ctx mixed) := Qha _
theorem QcB (key nonce ctx text : List Int) : Qaj (Qcx key nonce ctx text) := bytes_app (QeG _ _ _) (Qe2 _ _ _ _)
theorem MixE (key nonce text fm : List Int) (v v2 : Value) (B B2 : Nat) (th tq : TypeId) (w : World) (hh : w.heap[2]? = some (.cells (ints .u32 [1634760805, 857760878, 2036477234, 1797285236]) th)) (hq : w.heap[3]? = some (.cells (ints .i64 [0, 4, 8, 12, 1, 5, 9, 13, 2, 6, 10, 14, 3, 7, 11, 15, 0, 5, 10, 15, 1, 6, 11, 12, 2, 7, 8, 13, 3, 4, 9, 14]) tq)) (hkl : key.length = 32) (hn : RdK .u8 B nonce v w) (ht : RdK .u8 B2 text v2 w) (h : nonce.length = 12) (hl : text.length ≤ 2000000) (em : mixV (QaQ key nonce) 1 text = fm) :
    Calls Tryd.prog 103 #[.agg (ints .u8 key), v, .int .i64 1, v2] w (QbT w (MixR w.heap.size fm)) := by
  subst em
  exact MixG w.heap.size key nonce text v v2 B B2 1 th tq w hh hq hkl hn ht h 4294967295 (by decide) (by decide) (by decide) (by omega) hl (Nat.le_refl _)
set_option maxRecDepth 100000 in
set_option maxHeartbeats 4000000 in
theorem Qkm (key nonce ctx text : List Int) (v v2 v3 : Value) (B B2 B3 : Nat) (th tq : TypeId) (w : World) (hh : w.heap[2]? = some (.cells (ints .u32 [1634760805, 857760878, 2036477234, 1797285236]) th)) (hq : w.heap[3]? = some (.cells (ints .i64 [0, 4, 8, 12, 1, 5, 9, 13, 2, 6, 10, 14, 3, 7, 11, 15, 0, 5, 10, 15, 1, 6, 11, 12, 2, 7, 8, 13, 3, 4, 9, 14]) tq)) (hkl : key.length = 32) (hn : RdK .u8 B nonce v w) (hc : RdK .u8 B2 ctx v2 w) (ht : RdK .u8 B3 text v3 w) (hcb : Qaj ctx) (h : nonce.length = 12) (hcl : ctx.length ≤ 1048576) (hxl : text.length ≤ 1048576) :
    Calls Tryd.prog 71 #[.agg (ints .u8 key), v, v2, v3] w (QbT w (MixR w.heap.size (Qcx key nonce ctx text))) := by
  obtain ⟨a_n, c_n, rfl, -⟩ := id hn
  obtain ⟨a_c, c_c, rfl, -⟩ := id hc
  obtain ⟨a_t, c_t, rfl, -⟩ := id ht
  obtain ⟨fm, em⟩ : ∃ z : List Int, mixV (QaQ key nonce) 1 text = z := ⟨_, rfl⟩
  have lfm : fm.length = text.length := by rw [← em, QbE]
  have hfb : Qaj fm := by rw [← em]; exact QeG _ _ _
  refine enter 51 [(0, .agg (ints .u8 (key))), (1, .slice a_n nonce.length c_n), (2, .slice a_c ctx.length c_c), (3, .slice a_t text.length c_t)] Tryd.func71 rfl rfl kj rfl ?_
  refine wp_seq_k fun K3 hK3 => ?_
  refine Qab ?_
  refine Qaq (ints .u8 (key)) 23 4 rfl kj kj fun g4 W1 l4 e1 r4_1 => ?_
  have x1 : Ext w W1 := Ext.tr (Rely.Ext.refl w) e1
  have b4 : w.heap.size ≤ g4 := Nat.le_trans (Rely.Ext.refl w).size l4
  refine Qaa (.slice none 0 0) 8 rfl kj kj ?_
  refine Qaa (.nilIface) 9 rfl kj kj ?_
  refine Qac ?_
  refine hK3 _ _ ?_
  refine wp_seq_k fun K5 hK5 => ?_
  refine wp_seq_k fun K6 hK6 => ?_
  refine Qab ?_
  refine Qaa (.slice a_n nonce.length c_n) 13 rfl kj kj ?_
  refine Qaa (.int .i64 ((nonce.length : Nat) : Int)) 14 rfl kj kj ?_
  refine Qaa (.bool false) 15 rfl kj (Qal (u := .bool ((((nonce.length : Nat) : Int) != 12))) kj (congrArg Value.bool (by rw [h]; rfl))) ?_
  refine Qaa (.bool false) 16 rfl kj kj ?_
  refine Qaa (.slice a_c ctx.length c_c) 17 rfl kj kj ?_
  refine Qaa (.int .i64 ((ctx.length : Nat) : Int)) 18 rfl kj kj ?_
  refine Qaa (.bool false) 19 rfl kj (Qal (u := .bool (decide (((ctx.length : Nat) : Int) > 1048576))) kj (congrArg Value.bool (decide_eq_false (by omega)))) ?_
  refine Qaa (.bool false) 20 rfl kj kj ?_
  refine Qaa (.bool false) 21 rfl kj kj ?_
  refine Qaa (.slice a_t text.length c_t) 22 rfl kj kj ?_
  refine Qaa (.int .i64 ((text.length : Nat) : Int)) 23 rfl kj kj ?_
  refine Qaa (.bool false) 24 rfl kj (Qal (u := .bool (decide (((text.length : Nat) : Int) > 1048576))) kj (congrArg Value.bool (decide_eq_false (by omega)))) ?_
  refine Qaa (.bool false) 25 rfl kj kj ?_
  refine Qac ?_
  refine hK6 _ _ ?_
  refine cond_false kj ?_
  refine wp_skip ?_
  refine hK5 _ _ ?_
  refine wp_seq_k fun K7 hK7 => ?_
  refine Qab ?_
  refine Qaa (.agg (ints .u8 (key))) 28 rfl kj (Qas 23 _ g4 23 _ _ r4_1 rfl kj kj (isz (n := 32) kj ((Qaf _ _).trans hkl))) ?_
  refine Qaa (.slice a_n nonce.length c_n) 29 rfl kj kj ?_
  refine Qaa (.slice a_t text.length c_t) 30 rfl kj kj ?_
  have r2_1 := (Qad hh e1)
  have r1_1 := (Qad hq e1)
  refine Qa0 (fun v W' => (MixR W1.heap.size (fm)) v W' ∧ Ext W1 W') 103 #[.agg (ints .u8 (key)), .slice a_n nonce.length c_n, .int .i64 1, .slice a_t text.length c_t] 31 rfl kj kj ((MixE key nonce (text) (fm) _ _ _ _ th tq _ r2_1 r1_1 hkl (RdK.ext hn x1) (RdK.ext ht x1) h (by omega) em).mono (by rintro e w' ⟨v, rfl, e1, hv⟩; exact ⟨v, rfl, hv, e1⟩)) fun vv8 W2 hh8 => ?_
  obtain ⟨hv8, e2⟩ := hh8
  have x2 : Ext w W2 := Ext.tr x1 e2
  obtain ⟨u31_, rfl, hu31_⟩ := hv8
  obtain ⟨a31_, c31_, rfl, -⟩ := id (OwnN.rd hu31_)
  refine Qaa (.tuple #[.slice a31_ ((fm).length) c31_, .nilIface]) 27 rfl kj kj ?_
  refine Qaa (.slice a31_ ((fm).length) c31_) 32 rfl kj kj ?_
  refine Qaa (.nilIface) 33 rfl kj kj ?_
  refine Qaa (.slice a31_ ((fm).length) c31_) 10 rfl kj kj ?_
  refine Qaa (.nilIface) 11 rfl kj kj ?_
  refine Qac ?_
  refine hK7 _ _ ?_
  refine wp_seq_k fun K9 hK9 => ?_
  refine wp_seq_k fun K10 hK10 => ?_
  refine Qab ?_
  refine Qaa (.nilIface) 34 rfl kj kj ?_
  refine Qaa (.bool false) 35 rfl kj kj ?_
  refine Qac ?_
  refine hK10 _ _ ?_
  refine cond_false kj ?_
  refine wp_skip ?_
  refine hK9 _ _ ?_
  refine wp_seq_k fun K11 hK11 => ?_
  refine Qab ?_
  have r4_2 := (Qad r4_1 e2)
  refine Qaa (.agg (ints .u8 (key))) 38 rfl kj (Qas 23 _ g4 23 _ _ r4_2 rfl kj kj (isz (n := 32) kj ((Qaf _ _).trans hkl))) ?_
  refine Qaa (.slice a_n nonce.length c_n) 39 rfl kj kj ?_
  refine Qaa (.slice a_c ctx.length c_c) 40 rfl kj kj ?_
  refine Qaa (.slice a31_ ((fm).length) c31_) 41 rfl kj kj ?_
  have r2_2 := (Qad r2_1 e2)
  have r1_2 := (Qad r1_1 e2)
  refine Qax (.tuple #[.agg (ints .u8 (Qcz key nonce ctx fm)), .nilIface]) 104 #[.agg (ints .u8 (key)), .slice a_n nonce.length c_n, .slice a_c ctx.length c_c, .slice a31_ ((fm).length) c31_] 42 rfl kj kj ((QhA key nonce ctx fm _ _ _ _ _ _ th tq _ r2_2 r1_2 hkl (RdK.ext hn x2) (RdK.ext hc x2) (OwnN.rd hu31_) h hcb hfb (by omega) (by omega))) fun W3 e3 => ?_
  have x3 : Ext w W3 := Ext.tr x2 e3
  refine Qaa (.tuple #[.agg (ints .u8 (Qcz key nonce ctx fm)), .nilIface]) 37 rfl kj kj ?_
  refine Qaa (.agg (ints .u8 (Qcz key nonce ctx fm))) 43 rfl kj kj ?_
  refine Qaa (.nilIface) 44 rfl kj kj ?_
  refine Qaq (ints .u8 (List.replicate 16 0)) 157 12 rfl kj kj fun g12 W4 l12 e4 r12_4 => ?_
  have x4 : Ext w W4 := Ext.tr x3 e4
  have b12 : w.heap.size ≤ g12 := Nat.le_trans x3.size l12
  refine Qah g12 _ (ints .u8 (Qcz key nonce ctx fm)) 157 r12_4 rfl kj (Qam 157 _ _ g12 157 _ _ r12_4 rfl kj kj (isz (n := 16) kj ((Qaf _ _).trans (Qb1 _ _ _ _))) (eqsz (n := 16) ((Qaf _ _).trans (List.length_replicate (n := 16))) ((Qaf _ _).trans (Qb1 _ _ _ _))) (Qay _ _)) fun W5 p5 r12_5 => ?_
  have x5 : Ext w W5 := Puts.ext p5 x4 b12
  refine Qaa (.nilIface) 11 rfl kj kj ?_
  refine Qac ?_
  refine hK11 _ _ ?_
  refine wp_seq_k fun K13 hK13 => ?_
  refine wp_seq_k fun K14 hK14 => ?_
  refine Qab ?_
  refine Qaa (.nilIface) 45 rfl kj kj ?_
  refine Qaa (.bool false) 46 rfl kj kj ?_
  refine Qac ?_
  refine hK14 _ _ ?_
  refine cond_false kj ?_
  refine wp_skip ?_
  refine hK13 _ _ ?_
  refine wp_seq_k fun K15 hK15 => ?_
  refine Qab ?_
  refine Qaa (.slice a31_ ((fm).length) c31_) 48 rfl kj kj ?_
  refine Qaa (.slice (some ⟨g12, 0, none⟩) 16 16) 49 rfl kj kj ?_
  have f16_3 := (hu31_.ext e3)
  have f17_4 := (f16_3.ext e4)
  have f18_5 := (f17_4.puts p5 (QjV f16_3 l12))
  have y1_2 : Ext W1 W2 := (Rely.Ext.trans (Rely.Ext.refl W1) e2)
  have y1_3 : Ext W1 W3 := (Rely.Ext.trans y1_2 e3)
  have y1_4 : Ext W1 W4 := (Rely.Ext.trans y1_3 e4)
  have y1_5 : Ext W1 W5 := (Puts.ext p5 y1_4 (Nat.le_trans y1_3.size l12))
  refine QcA (k := .u8) (T := 5) (xs := fm) (ys := Qcz key nonce ctx fm) (V := W1) 1 (.tmp 48) (.tmp 49) 33 rfl kj kj (by decide) 50 rfl kj kj kj f18_5 (Qbp (xs := Qcz key nonce ctx fm) (n := 16) (Qb1 _ _ _ _) r12_5 (Qa8 r12_5) (show 16 ≤ maxLen from by decide)) (by rw [Qb1]; omega) y1_5 fun zs W6 f19 y6 l6 => ?_
  have x6 : Ext w W6 := Ext.low x5 l6 x1.size
  refine Qaa (zs) 8 rfl kj kj ?_
  refine Qaa (.nilIface) 9 rfl kj kj ?_
  refine Qac ?_
  refine hK15 _ _ ?_
  refine wp_ret ?_
  repeat (first | with_reducible refine goR1 ?_ | with_reducible refine goR2 ?_)
  exact (show bodyPost _ _ _ .ret _ _ from ret2 (zs) (.nilIface) rfl (Qa9 kj) (Qa9 kj) ⟨_, rfl, x6, zs, rfl, by unfold Qcx; rw [em]; exact OwnN.base x1.size f19⟩)
end Go.Proofs.YtoiendjhplbjjaaDoor.Ae
end
section
namespace Go.Proofs.YtoiendjhplbjjaaDoor.Ae
open Go Go.RowKit
open Rely Auto Own Sha
set_option linter.unusedVariables false
set_option linter.unusedSimpArgs false
open Sha Cha
theorem QfF (n : Nat) (h : 16 ≤ n) (hm : n ≤ maxLen) : IntKind.i64.wrap (((n : Nat) : Int) - 16) = ((n - 16 : Nat) : Int) := by
  rw [show ((n : Nat) : Int) - 16 = ((n - 16 : Nat) : Int) by omega]
  exact IntWalk.i64_in _ (by rw [maxLen] at hm; omega)
set_option maxRecDepth 100000 in
set_option maxHeartbeats 4000000 in
theorem Qkn (key nonce ctx sl : List Int) (v v2 v3 : Value) (B B2 B3 : Nat) (th tq : TypeId) (w : World) (hh : w.heap[2]? = some (.cells (ints .u32 [1634760805, 857760878, 2036477234, 1797285236]) th)) (hq : w.heap[3]? = some (.cells (ints .i64 [0, 4, 8, 12, 1, 5, 9, 13, 2, 6, 10, 14, 3, 7, 11, 15, 0, 5, 10, 15, 1, 6, 11, 12, 2, 7, 8, 13, 3, 4, 9, 14]) tq)) (hkl : key.length = 32) (hn : RdK .u8 B nonce v w) (hc : RdK .u8 B2 ctx v2 w) (ht : RdK .u8 B3 sl v3 w) (hcb : Qaj ctx) (htb : Qaj sl) (h : nonce.length = 12) (hcl : ctx.length ≤ 1048592) (hxl : sl.length ≤ 1048592) (hsh : 16 ≤ sl.length) (hne : Qcz key nonce ctx (sl.take (sl.length - 16)) = sl.drop (sl.length - 16)) :
    Calls Tryd.prog 74 #[.agg (ints .u8 key), v, v2, v3] w (QbT w (MixR w.heap.size (mixV (QaQ key nonce) 1 (sl.take (sl.length - 16))))) := by
  obtain ⟨a_n, c_n, rfl, -⟩ := id hn
  obtain ⟨a_c, c_c, rfl, -⟩ := id hc
  obtain ⟨a_t, c_t, rfl, -⟩ := id ht
  have ctk : sl.length ≤ c_t := by
    obtain ⟨_, _, e, q2, _⟩ := id ht
    simp only [Value.slice.injEq] at e
    obtain ⟨-, -, rfl⟩ := e
    exact q2
  have htm : sl.length ≤ maxLen := RdK.len ht
  have hlt_ : (sl.take (sl.length - 16)).length = sl.length - 16 := by rw [List.length_take]; omega
  obtain ⟨fm, em⟩ : ∃ z : List Int, mixV (QaQ key nonce) 1 (sl.take (sl.length - 16)) = z := ⟨_, rfl⟩
  refine enter 64 [(0, .agg (ints .u8 (key))), (1, .slice a_n nonce.length c_n), (2, .slice a_c ctx.length c_c), (3, .slice a_t sl.length c_t)] Tryd.func74 rfl rfl kj rfl ?_
  refine wp_seq_k fun K3 hK3 => ?_
  refine Qab ?_
  refine Qaq (ints .u8 (key)) 23 4 rfl kj kj fun g4 W1 l4 e1 r4_1 => ?_
  have x1 : Ext w W1 := Ext.tr (Rely.Ext.refl w) e1
  have b4 : w.heap.size ≤ g4 := Nat.le_trans (Rely.Ext.refl w).size l4
  refine Qaa (.slice none 0 0) 8 rfl kj kj ?_
  refine Qaa (.nilIface) 9 rfl kj kj ?_
  refine Qac ?_
  refine hK3 _ _ ?_
  refine wp_seq_k fun K5 hK5 => ?_
  refine wp_seq_k fun K6 hK6 => ?_
  refine Qab ?_
  refine Qaa (.slice a_n nonce.length c_n) 14 rfl kj kj ?_
  refine Qaa (.int .i64 ((nonce.length : Nat) : Int)) 15 rfl kj kj ?_
  refine Qaa (.bool false) 16 rfl kj (Qal (u := .bool ((((nonce.length : Nat) : Int) != 12))) kj (congrArg Value.bool (by rw [h]; rfl))) ?_
  refine Qaa (.bool false) 17 rfl kj kj ?_
  refine Qaa (.slice a_c ctx.length c_c) 18 rfl kj kj ?_
  refine Qaa (.int .i64 ((ctx.length : Nat) : Int)) 19 rfl kj kj ?_
  refine Qaa (.bool false) 20 rfl kj (Qal (u := .bool (decide (((ctx.length : Nat) : Int) > 1048592))) kj (congrArg Value.bool (decide_eq_false (by omega)))) ?_
  refine Qaa (.bool false) 21 rfl kj kj ?_
  refine Qaa (.bool false) 22 rfl kj kj ?_
  refine Qaa (.slice a_t sl.length c_t) 23 rfl kj kj ?_
  refine Qaa (.int .i64 ((sl.length : Nat) : Int)) 24 rfl kj kj ?_
  refine Qaa (.bool false) 25 rfl kj (Qal (u := .bool (decide (((sl.length : Nat) : Int) > 1048592))) kj (congrArg Value.bool (decide_eq_false (by omega)))) ?_
  refine Qaa (.bool false) 26 rfl kj kj ?_
  refine Qac ?_
  refine hK6 _ _ ?_
  refine cond_false kj ?_
  refine wp_skip ?_
  refine hK5 _ _ ?_
  refine wp_seq_k fun K7 hK7 => ?_
  refine wp_seq_k fun K8 hK8 => ?_
  refine Qab ?_
  refine Qaa (.slice a_t sl.length c_t) 28 rfl kj kj ?_
  refine Qaa (.int .i64 ((sl.length : Nat) : Int)) 29 rfl kj kj ?_
  refine Qaa (.bool false) 30 rfl kj (Qal (u := .bool (decide (((sl.length : Nat) : Int) < 16))) kj (congrArg Value.bool (decide_eq_false (by omega)))) ?_
  refine Qac ?_
  refine hK8 _ _ ?_
  refine cond_false kj ?_
  refine wp_skip ?_
  refine hK7 _ _ ?_
  refine wp_seq_k fun K9 hK9 => ?_
  refine QaY 11 [⟨none, [(3, none)]⟩, ⟨none, [(3, none)]⟩, ⟨none, [(33, some 1)]⟩, ⟨none, [(34, some 2)]⟩, ⟨none, [(32, some 0), (35, some 3)]⟩, ⟨none, [(3, none)]⟩, ⟨none, [(3, none)]⟩, ⟨none, [(38, some 6)]⟩, ⟨none, [(39, some 7)]⟩, ⟨none, [(37, some 5), (40, some 8)]⟩, ⟨none, [(36, some 4)]⟩] kj kj fun F hF => ?_
  refine QaB (Qav _) (.slice a_t sl.length c_t) kj kj (fun W => by kernel_rfl) ?_
  refine QaB (Qav _) (.slice a_t sl.length c_t) kj kj (fun W => by kernel_rfl) ?_
  refine QaB (Qav _) (.int .i64 ((sl.length : Nat) : Int)) kj kj (fun W => by kernel_rfl) ?_
  refine QaB (Qav _) (.int .i64 (((sl.length - 16 : Nat) : Int))) kj kj (fun W => (Qal (u := .int .i64 (IntKind.i64.wrap (((sl.length : Nat) : Int) - 16))) kj (congrArg (Value.int .i64) (QfF _ hsh htm)))) ?_
  refine QaB (Qav _) (.slice a_t (sl.length - 16) c_t) kj kj (fun W => (Qe9 (len := sl.length) 33 _ _ (sl.length - 16) 5 rfl kj kj kj .i64 kj (Nat.le_trans (Nat.sub_le _ _) ctk))) ?_
  refine QaB (Qav _) (.slice a_t sl.length c_t) kj kj (fun W => by kernel_rfl) ?_
  refine QaB (Qav _) (.slice a_t sl.length c_t) kj kj (fun W => by kernel_rfl) ?_
  refine QaB (Qav _) (.int .i64 ((sl.length : Nat) : Int)) kj kj (fun W => by kernel_rfl) ?_
  refine QaB (Qav _) (.int .i64 (((sl.length - 16 : Nat) : Int))) kj kj (fun W => (Qal (u := .int .i64 (IntKind.i64.wrap (((sl.length : Nat) : Int) - 16))) kj (congrArg (Value.int .i64) (QfF _ hsh htm)))) ?_
  refine QaB (Qav _) (.slice (Qdl a_t c_t (sl.length - 16)) (sl.length - (sl.length - 16)) (c_t - (sl.length - 16))) kj kj (fun W => (QdA 33 _ _ (sl.length - 16) 5 rfl kj kj kj .i64 kj (Nat.sub_le _ _) ctk)) ?_
  refine QaB (Qav _) (.slice a_t (sl.length - 16) c_t) kj kj (fun W => by kernel_rfl) ?_
  refine QcU (hF _ fun W2 e2 => ?_)
  simp only [List.nil_append, List.cons_append, List.take_succ_cons, List.take_zero, List.drop_succ_cons, List.drop_zero, finE, up]
  clear hF
  have x2 : Ext w W2 := Ext.tr x1 e2
  refine Qaa (.slice (Qdl a_t c_t (sl.length - 16)) (sl.length - (sl.length - 16)) (c_t - (sl.length - 16))) 11 rfl kj kj ?_
  refine Qac ?_
  refine hK9 _ _ ?_
  refine wp_seq_k fun K10 hK10 => ?_
  refine Qab ?_
  have r4_2 := (Qad r4_1 e2)
  refine Qaa (.agg (ints .u8 (key))) 43 rfl kj (Qas 23 _ g4 23 _ _ r4_2 rfl kj kj (isz (n := 32) kj ((Qaf _ _).trans hkl))) ?_
  refine Qaa (.slice a_n nonce.length c_n) 44 rfl kj kj ?_
  refine Qaa (.slice a_c ctx.length c_c) 45 rfl kj kj ?_
  refine Qaa (.slice a_t (sl.length - 16) c_t) 46 rfl kj kj ?_
  have r2_1 := (Qad hh e1)
  have r2_2 := (Qad r2_1 e2)
  have r1_1 := (Qad hq e1)
  have r1_2 := (Qad r1_1 e2)
  refine Qax (.tuple #[.agg (ints .u8 (Qcz key nonce ctx (sl.take (sl.length - 16)))), .nilIface]) 104 #[.agg (ints .u8 (key)), .slice a_n nonce.length c_n, .slice a_c ctx.length c_c, .slice a_t (sl.length - 16) c_t] 47 rfl kj kj ((QhA key nonce ctx (sl.take (sl.length - 16)) _ _ _ _ _ _ th tq _ r2_2 r1_2 hkl (RdK.ext hn x2) (RdK.ext hc x2) (Qgp (RdK.ext ht x2) (sl.length - 16) (Nat.sub_le _ _)) h hcb (QaW htb _) (by omega) (by omega))) fun W3 e3 => ?_
  have x3 : Ext w W3 := Ext.tr x2 e3
  refine Qaa (.tuple #[.agg (ints .u8 (Qcz key nonce ctx (sl.take (sl.length - 16)))), .nilIface]) 42 rfl kj kj ?_
  refine Qaa (.agg (ints .u8 (Qcz key nonce ctx (sl.take (sl.length - 16))))) 48 rfl kj kj ?_
  refine Qaa (.nilIface) 49 rfl kj kj ?_
  refine Qaq (ints .u8 (List.replicate 16 0)) 157 12 rfl kj kj fun g11 W4 l11 e4 r11_4 => ?_
  have x4 : Ext w W4 := Ext.tr x3 e4
  have b11 : w.heap.size ≤ g11 := Nat.le_trans x3.size l11
  refine Qah g11 _ (ints .u8 (Qcz key nonce ctx (sl.take (sl.length - 16)))) 157 r11_4 rfl kj (Qam 157 _ _ g11 157 _ _ r11_4 rfl kj kj (isz (n := 16) kj ((Qaf _ _).trans (Qb1 _ _ _ _))) (eqsz (n := 16) ((Qaf _ _).trans (List.length_replicate (n := 16))) ((Qaf _ _).trans (Qb1 _ _ _ _))) (Qay _ _)) fun W5 p5 r11_5 => ?_
  have x5 : Ext w W5 := Puts.ext p5 x4 b11
  refine Qaa (.nilIface) 13 rfl kj kj ?_
  refine Qac ?_
  refine hK10 _ _ ?_
  refine wp_seq_k fun K12 hK12 => ?_
  refine wp_seq_k fun K13 hK13 => ?_
  refine Qab ?_
  refine Qaa (.nilIface) 50 rfl kj kj ?_
  refine Qaa (.bool false) 51 rfl kj kj ?_
  refine Qac ?_
  refine hK13 _ _ ?_
  refine cond_false kj ?_
  refine wp_skip ?_
  refine hK12 _ _ ?_
  refine wp_seq_k fun K14 hK14 => ?_
  refine wp_seq_k fun K15 hK15 => ?_
  refine Qab ?_
  refine Qaa (.slice (some ⟨g11, 0, none⟩) 16 16) 53 rfl kj kj ?_
  refine Qaa (.slice (Qdl a_t c_t (sl.length - 16)) (sl.length - (sl.length - 16)) (c_t - (sl.length - 16))) 54 rfl kj kj ?_
  refine Qax (.bool true) 107 #[.slice (some ⟨g11, 0, none⟩) 16 16, .slice (Qdl a_t c_t (sl.length - 16)) (sl.length - (sl.length - 16)) (c_t - (sl.length - 16))] 55 rfl kj kj ((Qil (Qcz key nonce ctx (sl.take (sl.length - 16))) (sl.drop (sl.length - 16)) _ _ W5.heap.size _ W5 hne (Qbp (xs := Qcz key nonce ctx (sl.take (sl.length - 16))) (n := 16) (Qb1 _ _ _ _) r11_5 (Qa8 r11_5) (show 16 ≤ maxLen from by decide)) (QeV (RdK.ext ht x5) (sl.length - 16) (Nat.sub_le _ _)) (Qe2 _ _ _ _) (Qb0 htb _) (by rw [List.length_drop, Qb1]; omega) (by rw [Qb1]; decide))) fun W6 e6 => ?_
  have x6 : Ext w W6 := Ext.tr x5 e6
  refine Qaa (.bool false) 56 rfl kj kj ?_
  refine Qac ?_
  refine hK15 _ _ ?_
  refine cond_false kj ?_
  refine wp_skip ?_
  refine hK14 _ _ ?_
  refine wp_seq_k fun K16 hK16 => ?_
  refine Qab ?_
  have r4_3 := (Qad r4_2 e3)
  have r4_4 := (Qad r4_3 e4)
  have r4_5 := (Puts.row p5 r4_4 (Qae r4_3 l11))
  have r4_6 := (Qad r4_5 e6)
  refine Qaa (.agg (ints .u8 (key))) 58 rfl kj (Qas 23 _ g4 23 _ _ r4_6 rfl kj kj (isz (n := 32) kj ((Qaf _ _).trans hkl))) ?_
  refine Qaa (.slice a_n nonce.length c_n) 59 rfl kj kj ?_
  refine Qaa (.slice a_t (sl.length - 16) c_t) 60 rfl kj kj ?_
  have r2_3 := (Qad r2_2 e3)
  have r2_4 := (Qad r2_3 e4)
  have r2_5 := (Puts.row p5 r2_4 (Qae r2_3 l11))
  have r2_6 := (Qad r2_5 e6)
  have r1_3 := (Qad r1_2 e3)
  have r1_4 := (Qad r1_3 e4)
  have r1_5 := (Puts.row p5 r1_4 (Qae r1_3 l11))
  have r1_6 := (Qad r1_5 e6)
  refine Qa0 (fun v W' => (MixR W6.heap.size (fm)) v W' ∧ Ext W6 W') 103 #[.agg (ints .u8 (key)), .slice a_n nonce.length c_n, .int .i64 1, .slice a_t (sl.length - 16) c_t] 61 rfl kj kj ((MixE key nonce (sl.take (sl.length - 16)) (fm) _ _ _ _ th tq _ r2_6 r1_6 hkl (RdK.ext hn x6) (Qgp (RdK.ext ht x6) (sl.length - 16) (Nat.sub_le _ _)) h (by omega) em).mono (by rintro e w' ⟨v, rfl, e1, hv⟩; exact ⟨v, rfl, hv, e1⟩)) fun vv17 W7 hh17 => ?_
  obtain ⟨hv17, e7⟩ := hh17
  have x7 : Ext w W7 := Ext.tr x6 e7
  obtain ⟨u61_, rfl, hu61_⟩ := hv17
  refine Qaa (u61_) 62 rfl kj kj ?_
  refine Qaa (.nilIface) 63 rfl kj kj ?_
  refine Qaa (u61_) 8 rfl kj kj ?_
  refine Qaa (.nilIface) 9 rfl kj kj ?_
  refine Qac ?_
  refine hK16 _ _ ?_
  refine wp_ret ?_
  repeat (first | with_reducible refine goR1 ?_ | with_reducible refine goR2 ?_)
  exact (show bodyPost _ _ _ .ret _ _ from ret2 (u61_) (.nilIface) rfl (Qa9 kj) (Qa9 kj) ⟨_, rfl, x7, u61_, rfl, by rw [em]; exact OwnN.base x6.size hu61_⟩)
end Go.Proofs.YtoiendjhplbjjaaDoor.Ae
end
section
namespace Go.Proofs.YtoiendjhplbjjaaDoor.Ae
open Go Go.RowKit
open Rely Auto Own Sha
set_option linter.unusedVariables false
set_option linter.unusedSimpArgs false
open Sha Cha
set_option maxHeartbeats 4000000 in
theorem Qjs (n0 n : Nat) (w : World) (hn0 : n0 ≤ w.heap.size) : Calls Tryd.prog 112 #[.int .i64 ((n : Nat) : Int)] w (QbT w (OwnN .u8 5 n0 (by8 ((n : Nat) : Int)))) :=
  (Qgc n w).mono fun e W' hg => by
    obtain ⟨v', e1, e2, e3⟩ := hg
    exact ⟨v', e1, e2, e3.base hn0⟩
theorem QjU (n : Nat) (w : World) : Calls Tryd.prog 86 #[.int .i64 ((n : Nat) : Int)] w (QbT w (OwnN .u8 5 w.heap.size ([0, 0, 0, 0] ++ by8 ((n : Nat) : Int)))) := by
  refine enter 7 [(0, .int .i64 ((n : Nat) : Int))] Tryd.func86 rfl rfl kj rfl ?_
  refine wp_seq_k fun K1 hK1 => ?_
  refine Qab ?_
  refine Qaa (.slice none 0 0) 2 rfl kj kj ?_
  refine Qac ?_
  refine hK1 _ _ ?_
  refine wp_seq_k fun K2 hK2 => ?_
  refine QaY 3 [⟨none, []⟩, ⟨none, [(0, none)]⟩, ⟨none, [(4, some 1)]⟩] kj kj fun F hF => ?_
  refine QiX (Qav _) (ints .u8 ([0, 0, 0, 0])) 5 4 (NewS.stable _ _ _ _) kj kj (fun W => by kernel_rfl) ?_
  refine QaB (Qav _) (.int .i64 ((n : Nat) : Int)) kj kj (fun W => by kernel_rfl) ?_
  refine Qew (Qav _) (OwnN .u8 5 w.heap.size (by8 ((n : Nat) : Int))) (OwnN.stable _ _ _ _) 112 #[.int .i64 ((n : Nat) : Int)] kj kj (fun W => by kernel_rfl) (fun W hR => (Qjs w.heap.size n _ (Rely.Ext.trans (Qak _) hR).size)) ?_
  refine QcU (hF _ fun W1 e1 => ?_)
  simp only [List.nil_append, List.cons_append, List.take_succ_cons, List.take_zero, List.drop_succ_cons, List.drop_zero, finE, up]
  intro vv3 hv3 vv4 hv4
  clear hF
  have x1 : Ext w W1 := Ext.tr (Rely.Ext.refl w) e1
  obtain ⟨g3, rfl, l3, r3_1⟩ := hv3
  have b3 : w.heap.size ≤ g3 := Nat.le_trans (Rely.Ext.refl w).size l3
  obtain ⟨a5_, c5_, rfl, -⟩ := id (OwnN.rd hv4)
  have y0_1 : Ext w W1 := (Rely.Ext.trans (Rely.Ext.refl w) e1)
  refine QcA (k := .u8) (T := 5) (xs := [0, 0, 0, 0]) (ys := by8 ((n : Nat) : Int)) (V := w) 1 (.tmp 3) (.tmp 5) 33 rfl kj kj (by decide) 6 rfl kj kj kj (Qci (xs := [0, 0, 0, 0]) rfl l3 r3_1 (by decide)) (OwnN.rd hv4) (by rw [Qcy]; decide) y0_1 fun zn W2 f5 y2 l2 => ?_
  have x2 : Ext w W2 := Ext.low x1 l2 (Rely.Ext.refl w).size
  refine Qaa (zn) 2 rfl kj kj ?_
  refine Qac ?_
  refine hK2 _ _ ?_
  refine wp_ret ?_
  repeat (first | with_reducible refine goR1 ?_ | with_reducible refine goR2 ?_)
  exact (show bodyPost _ _ _ .ret _ _ from ret1 (zn) rfl (Qa9 kj) ⟨zn, rfl, x2, OwnN.base (Nat.le_refl _) f5⟩)
theorem Qfs (key nonce ctx text : List Int) : (Qcx key nonce ctx text).take ((Qcx key nonce ctx text).length - 16) = mixV (QaQ key nonce) 1 text := by
  rw [Qck]; unfold Qcx
  rw [List.take_append_of_le_length (by rw [QbE]; omega), List.take_of_length_le (by rw [QbE]; omega)]
theorem Qhr (key nonce ctx text : List Int) : (Qcx key nonce ctx text).drop ((Qcx key nonce ctx text).length - 16) = Qcz key nonce ctx (mixV (QaQ key nonce) 1 text) := by
  rw [Qck]; unfold Qcx
  rw [List.drop_append_of_le_length (by rw [QbE]; omega), List.drop_of_length_le (by rw [QbE]; omega), List.nil_append]
theorem Qib (key nonce ctx text : List Int) (v v2 v3 : Value) (B B2 B3 : Nat) (th tq : TypeId) (w : World) (hh : w.heap[2]? = some (.cells (ints .u32 [1634760805, 857760878, 2036477234, 1797285236]) th)) (hq : w.heap[3]? = some (.cells (ints .i64 [0, 4, 8, 12, 1, 5, 9, 13, 2, 6, 10, 14, 3, 7, 11, 15, 0, 5, 10, 15, 1, 6, 11, 12, 2, 7, 8, 13, 3, 4, 9, 14]) tq)) (hkl : key.length = 32) (hn : RdK .u8 B nonce v w) (hc : RdK .u8 B2 ctx v2 w) (ht : RdK .u8 B3 (Qcx key nonce ctx text) v3 w) (hcb : Qaj ctx) (htb : Qaj text) (h : nonce.length = 12) (hcl : ctx.length ≤ 1048576) (hxl : text.length ≤ 1048576) :
    Calls Tryd.prog 74 #[.agg (ints .u8 key), v, v2, v3] w (QbT w (MixR w.heap.size text)) := by
  have h1 := Qkn key nonce ctx (Qcx key nonce ctx text) v v2 v3 B B2 B3 th tq w hh hq hkl hn hc ht hcb (QcB _ _ _ _) h (by omega) (by rw [Qck]; omega) (by rw [Qck]; omega) (by rw [Qfs, Qhr])
  rw [Qfs, Qjq _ _ _ htb] at h1
  exact h1
end Go.Proofs.YtoiendjhplbjjaaDoor.Ae
end
section
namespace Go.Proofs.YtoiendjhplbjjaaDoor.Ll
open Go Go.RowKit
open Rely Auto Own Sha Sha
set_option linter.unusedVariables false
set_option linter.unusedSimpArgs false
open Cha Ae
theorem QdP {k : IntKind} {T : TypeId} {base g : Nat} {xs : List Int} {v : Value} {W : World} (h : OwnN k T base xs v W) (hg : g < base) : v.ownBlock ≠ some g := fun e => by
  have := h.ge e
  omega
theorem Qdc {k : IntKind} {T : TypeId} {b g : Nat} {xs : List Int} {v : Value} {W W' : World} (h : OwnN k T b xs v W) (q : ExtB g W W') (hn : v.ownBlock ≠ some g) : OwnN k T b xs v W' := h.keep fun k hk => q.2.2.2.2 k (h.lt hk) (fun e => hn (by rw [hk, e]))
theorem run_storeQ {P : Program} {ρ : Operand → Value} {o : Oper} {w : World} (ty : TypeId) (x y : Operand) (g off : Nat) (t : TypeId) (pre post : List (Array Value)) (u v : Value) (hg : w.heap[g]? = some (.cells (cat (pre ++ ([#[u]] ++ post))) t))
    (ho : o.op = .store ty x y) (hx : ρ x = .pointer (some ⟨g, off, none⟩)) (hy : ρ y = v) (hi : (P.info? ty).map (·.size) = some 1) (hp : (cat pre).size = off) (h1 : v.oneCell' = true) (hcs : v.cells = #[v]) :
    (execOp ρ o).run P w = .ok .skip (w.setRow g (cat (pre ++ ([#[v]] ++ post)))) := by
  subst hp
  have hs : Nat.blt (cat pre).size (cat (pre ++ ([#[u]] ++ post))).size = true := by
    have : (cat pre).size < (cat (pre ++ ([#[u]] ++ post))).size := by
      rw [Qa4, Qa4, Array.size_append, Array.size_append]
      have e1 : (cat [#[u]]).size = 1 := rfl
      omega
    simpa using this
  have e : (cat (pre ++ ([#[u]] ++ post))).setIfInBounds (cat pre).size v = cat (pre ++ ([#[v]] ++ post)) := by
    rw [Qa4, Qa4, Qa4, Qa4]
    have e1 : ∀ z, cat [#[z]] = #[z] := fun z => rfl
    rw [e1, e1, Array.setIfInBounds_append_right (Nat.le_refl _), Nat.sub_self, Array.setIfInBounds_append_left (by simp)]
    rfl
  rw [← e]
  exact Qby ty x y g _ t _ v hg ho hx hy hi hs h1 hcs
theorem Qkb (v : Int) (h : -5000000000 ≤ v ∧ v ≤ 5000000000) : IntKind.i64.wrap v = v := IntWalk.i64_in _ (by omega)
theorem wrapN (m : Nat) : IntKind.u64.wrap ((m : Nat) : Int) = ((m % 18446744073709551616 : Nat) : Int) := by rw [IntKind.wrap_u64]; omega
set_option maxHeartbeats 4000000 in
theorem Qi3 (g : Nat) (nx : Int) (B : Nat) (hnx : 0 ≤ nx ∧ nx ≤ 4294967295) (hB : B < 18446744073709551616) (sk rk : List Int) (next : Nat) (hsk : sk.length = 32) (hrk : rk.length = 32) (w : World) (hg : w.heap[g]? = some (.cells (cat [#[.int .i64 nx], #[.int .u64 ((B : Nat) : Int)], ints .u8 (sk), ints .u8 (rk), #[.int .i64 ((next : Nat) : Int)]]) 136)) : Calls Tryd.prog 85 #[.pointer (some ⟨g, 0, none⟩)] w (Ret w (.int .i64 (nx - 1))) := by
  refine enter 8 [(0, .pointer (some ⟨g, 0, none⟩))] Tryd.func85 rfl rfl kj rfl ?_
  refine wp_seq_k fun K2 hK2 => ?_
  refine Qab ?_
  refine Qaa (.int .i64 0) 2 rfl kj kj ?_
  refine Qac ?_
  refine hK2 _ _ ?_
  refine wp_seq_k fun K3 hK3 => ?_
  refine Qab ?_
  refine Qaa (.pointer (some ⟨g, 0, none⟩)) 3 rfl kj kj ?_
  refine Qaa (.pointer (some ⟨g, 0, none⟩)) 4 rfl kj kj ?_
  refine Qaa (.pointer (some ⟨g, 0, none⟩)) 5 rfl kj kj ?_
  refine Qaa (.int .i64 nx) 6 rfl kj (Qag 3 _ g 0 136 _ (.int .i64 nx) _ hg rfl kj (QaE [] [#[.int .i64 nx]] [#[.int .u64 ((B : Nat) : Int)], ints .u8 (sk), ints .u8 (rk), #[.int .i64 ((next : Nat) : Int)]] 0 kj 0 _ rfl) kj) ?_
  refine Qaa (.int .i64 (nx - 1)) 7 rfl kj (Qal (u := .int .i64 (IntKind.i64.wrap (nx - 1))) kj (congrArg (Value.int .i64) (Qkb _ (by omega)))) ?_
  refine Qaa (.int .i64 (nx - 1)) 2 rfl kj kj ?_
  refine Qac ?_
  refine hK3 _ _ ?_
  refine wp_ret ?_
  repeat (first | with_reducible refine goR1 ?_ | with_reducible refine goR2 ?_)
  exact (show bodyPost _ _ _ .ret _ _ from ret1 (.int .i64 (nx - 1)) rfl (Qa9 kj) ⟨rfl, (Rely.Ext.refl w)⟩)
set_option maxHeartbeats 4000000 in
theorem check_D (g : Nat) (nx : Int) (B : Nat) (n : Int) (hnx : 0 ≤ nx ∧ nx ≤ 4294967295) (hB : B < 18446744073709551616) (sk rk : List Int) (next : Nat) (hsk : sk.length = 32) (hrk : rk.length = 32) (w : World) (hg : w.heap[g]? = some (.cells (cat [#[.int .i64 nx], #[.int .u64 ((B : Nat) : Int)], ints .u8 (sk), ints .u8 (rk), #[.int .i64 ((next : Nat) : Int)]]) 136)) (hn : 0 ≤ n ∧ n < 4294967295) (hc : nx - 1 - n = 0) : Calls Tryd.prog 88 #[.pointer (some ⟨g, 0, none⟩), .int .i64 n] w (Ret w (.iface 60 (.int .i64 7))) := by
  refine enter 38 [(0, .pointer (some ⟨g, 0, none⟩)), (1, .int .i64 n)] Tryd.func88 rfl rfl kj rfl ?_
  refine wp_seq_k fun K2 hK2 => ?_
  refine Qab ?_
  refine Qaa (.nilIface) 4 rfl kj kj ?_
  refine Qac ?_
  refine hK2 _ _ ?_
  refine wp_seq_k fun K3 hK3 => ?_
  refine wp_seq_k fun K4 hK4 => ?_
  refine Qab ?_
  refine Qaa (.int .i64 n) 6 rfl kj kj ?_
  refine Qaa (.bool false) 7 rfl kj (Qal (u := .bool (decide (n < 0))) kj (congrArg Value.bool (decide_eq_false (by omega)))) ?_
  refine Qaa (.bool false) 8 rfl kj kj ?_
  refine Qaa (.int .i64 n) 9 rfl kj kj ?_
  refine Qaa (.bool false) 10 rfl kj (Qal (u := .bool (decide (n ≥ 4294967295))) kj (congrArg Value.bool (decide_eq_false (by omega)))) ?_
  refine Qaa (.bool false) 11 rfl kj kj ?_
  refine Qac ?_
  refine hK4 _ _ ?_
  refine cond_false kj ?_
  refine wp_skip ?_
  refine hK3 _ _ ?_
  refine wp_seq_k fun K5 hK5 => ?_
  refine Qab ?_
  refine Qaa (.pointer (some ⟨g, 0, none⟩)) 13 rfl kj kj ?_
  refine Qax (.int .i64 (nx - 1)) 85 #[.pointer (some ⟨g, 0, none⟩)] 14 rfl kj kj (Qi3 g nx B hnx hB sk rk next hsk hrk _ hg) fun W1 e1 => ?_
  have x1 : Ext w W1 := Ext.tr (Rely.Ext.refl w) e1
  refine Qaa (.int .i64 n) 15 rfl kj kj ?_
  refine Qaa (.int .i64 (nx - 1 - n)) 16 rfl kj (Qal (u := .int .i64 (IntKind.i64.wrap ((nx - 1) - n))) kj (congrArg (Value.int .i64) (Qkb _ (by omega)))) ?_
  refine Qaa (.int .i64 (nx - 1 - n)) 5 rfl kj kj ?_
  refine Qac ?_
  refine hK5 _ _ ?_
  refine wp_seq_k fun K6 hK6 => ?_
  refine wp_seq_k fun K7 hK7 => ?_
  refine Qab ?_
  refine Qaa (.int .i64 (nx - 1 - n)) 17 rfl kj kj ?_
  refine Qaa (.bool false) 18 rfl kj (Qal (u := .bool (decide ((nx - 1 - n) > 64))) kj (congrArg Value.bool (decide_eq_false (by omega)))) ?_
  refine Qac ?_
  refine hK7 _ _ ?_
  refine cond_false kj ?_
  refine wp_skip ?_
  refine hK6 _ _ ?_
  refine wp_seq_k fun K8 hK8 => ?_
  refine wp_seq_k fun K9 hK9 => ?_
  refine Qab ?_
  refine Qaa (.int .i64 (nx - 1 - n)) 20 rfl kj kj ?_
  refine Qaa (.bool true) 21 rfl kj (Qal (u := .bool (((nx - 1 - n) == 0))) kj (congrArg Value.bool (by simp; omega))) ?_
  refine Qaa (.bool true) 22 rfl kj kj ?_
  refine Qbm 23 rfl kj ?_
  refine Qbm 24 rfl kj ?_
  refine Qbm 25 rfl kj ?_
  refine Qbm 26 rfl kj ?_
  refine Qbm 27 rfl kj ?_
  refine Qbm 28 rfl kj ?_
  refine Qbm 29 rfl kj ?_
  refine Qbm 30 rfl kj ?_
  refine Qbm 31 rfl kj ?_
  refine Qbm 32 rfl kj ?_
  refine Qbm 33 rfl kj ?_
  refine Qbm 34 rfl kj ?_
  refine Qbm 35 rfl kj ?_
  refine Qaa (.bool true) 36 rfl kj kj ?_
  refine Qac ?_
  refine hK9 _ _ ?_
  refine cond_true kj ?_
  refine wp_seq_k fun K10 hK10 => ?_
  refine Qab ?_
  refine Qaa (.iface 60 (.int .i64 7)) 37 rfl kj kj ?_
  refine Qaa (.iface 60 (.int .i64 7)) 4 rfl kj kj ?_
  refine Qac ?_
  refine hK10 _ _ ?_
  refine wp_ret ?_
  repeat (first | with_reducible refine goR1 ?_ | with_reducible refine goR2 ?_)
  exact (show bodyPost _ _ _ .ret _ _ from ret1 (.iface 60 (.int .i64 7)) rfl (Qa9 kj) ⟨rfl, x1⟩)
end Go.Proofs.YtoiendjhplbjjaaDoor.Ll
end
section
namespace Go.Proofs.YtoiendjhplbjjaaDoor.Ll
open Go Go.RowKit
open Rely Auto Own Sha Sha
set_option linter.unusedVariables false
set_option linter.unusedSimpArgs false
def hiT (ts : List Int) : Int := ts.foldl (fun a x => if x > a then x else a) (-1)
structure WInv (nx : Int) (B : Nat) (ts : List Int) : Prop where
  hnx : 0 ≤ nx ∧ nx ≤ 4294967295
  hB : B < 18446744073709551616
  hhi : hiT ts = nx - 1
  hrng : ∀ m ∈ ts, 0 ≤ m ∧ m < 4294967295
  hbits : ∀ k : Nat, k < 64 → 0 ≤ nx - 2 - k → (B.testBit k = true ↔ (nx - 2 - k) ∈ ts)
end Go.Proofs.YtoiendjhplbjjaaDoor.Ll
end
section
namespace Go.Proofs.YtoiendjhplbjjaaDoor.Ll
open Go Go.RowKit
open Rely Auto Own Sha Sha
set_option linter.unusedVariables false
set_option linter.unusedSimpArgs false
open Cha Ae
theorem Qg8 (pl : Nat → Option (Nat × Nat)) : ∀ (ps : List (Nat × Nat × Value × Array Value)) (pre : List (Array Value)) (rest : Array Value) (off : Nat), (cat pre).size = off → okPl pl off ps → tot ps ≤ rest.size →
    Instr.fill pl (cat pre ++ rest) (ps.map fun x => (x.1, x.2.2.1)) = some (cat (pre ++ ps.map fun x => x.2.2.2) ++ rest.extract (tot ps) rest.size)
  | [], pre, rest, off, _, _, ht => by
    simp [Instr.fill, tot]
  | (i, n, v, p) :: r, pre, rest, off, hoff, ⟨h1, h2, h3, h4⟩, ht => by
    subst h2
    have hn : n ≤ rest.size := by rw [tot] at ht; omega
    simp only [List.map_cons, Instr.fill, h1, h3]
    rw [if_neg (by simp; omega)]
    have hz : (v.cells.zipIdx.foldl (fun cs (x : Value × Nat) => cs.setIfInBounds (off + x.2) x.1) (cat pre ++ rest)) = cat (pre ++ [v.cells]) ++ rest.extract n rest.size := by
      have e1 : v.cells.zipIdx = (v.cells.toList.zipIdx 0).toArray := by
        apply Array.ext'
        simp
      rw [e1, List.foldl_toArray', QdR]
      · have e2 : rest = rest.extract 0 n ++ rest.extract n rest.size := by
          rw [Array.extract_append_extract, Nat.max_eq_right hn]
          simp
        have e3 : (cat pre ++ rest) = cat (pre ++ ([rest.extract 0 n] ++ [rest.extract n rest.size])) := by
          rw [Qa4]
          congr 1
        rw [Nat.add_zero, e3]
        have := QeL pre [rest.extract 0 n] [v.cells] [rest.extract n rest.size] off hoff (by show v.cells.size = (rest.extract 0 n).size; simp; omega)
        rw [show (cat [v.cells]).toList = v.cells.toList from rfl] at this
        rw [this, ← List.append_assoc, Qa4 (pre ++ [v.cells])]
        rfl
      · rfl
    have key := Qg8 pl r (pre ++ [v.cells]) (rest.extract n rest.size) (off + n) (by rw [Qa4]; show (cat pre ++ v.cells).size = _; simp; omega) h4 (by rw [tot] at ht; simp; omega)
    rw [← hz] at key
    rw [List.append_assoc] at key
    rw [key, tot]
    congr 2
    rw [Array.extract_extract]
    simp
    congr 1
    rw [tot] at ht
    omega
theorem QdB {P : Program} {ρ : Operand → Value} {o : Oper} {w : World} (t : TypeId) (parts : Array (Nat × Operand)) (z : Value) (places : Array (Nat × Nat)) (off : Nat) (pre : List (Array Value)) (rest0 : Array Value) (ps : List (Nat × Nat × Value × Array Value)) (rest : List (Array Value))
    (ho : o.op = .build t parts) (hv : (parts.map fun (i, x) => (i, ρ x)).toList = ps.map fun x => (x.1, x.2.2.1)) (hoff : (cat pre).size = off) (hp : okPl (fun i => places[i]?) off ps) (hz0 : z.cells = cat pre ++ rest0) (ht : tot ps ≤ rest0.size) (hr : rest0.extract (tot ps) rest0.size = cat rest)
    (hz : (zeroValue t).run P w = .ok z w) (hu : P.underlying t = some (.struct (P.fieldsOf t))) (hm : ((P.fieldsOf t).mapM fun f => do pure (f.offset, ← sizeOf f.type) : Sem (Array (Nat × Nat))).run P w = .ok places w) :
    (execOp ρ o).run P w = .ok (.value (.agg (cat (pre ++ (ps.map fun x => x.2.2.2) ++ rest)))) w := by
  have := Qg8 (fun i => places[i]?) ps pre rest0 off hoff hp ht
  rw [← hz0, hr, ← Qa4] at this
  rw [← hv] at this
  have hB : (Instr.build t (parts.map fun (i, x) => (i, ρ x))).run P w = .ok (.agg (cat (pre ++ (ps.map fun x => x.2.2.2) ++ rest))) w := by
    unfold Instr.build
    rw [Sem.run_bind, hz, Result.andThen_ok, Sem.run_bind, run_underlying hu w, Result.andThen_ok]
    show (Sem.run P _ w) = _
    rw [Sem.run_bind, hm, Result.andThen_ok]
    simp only [this]
    rfl
  unfold execOp
  simp only [ho, Sem.run_bind, hB, Result.andThen_ok, Sem.run_pure]
def nonV (n : Nat) : List Int := [0, 0, 0, 0] ++ by8 ((n : Nat) : Int)
theorem Qgx (n : Nat) : (nonV n).length = 12 := by unfold nonV; rw [List.length_append, Qcy]; rfl
theorem QiS (n0 n : Nat) (w : World) (h0 : n0 ≤ w.heap.size) : Calls Tryd.prog 86 #[.int .i64 ((n : Nat) : Int)] w (QbT w (OwnN .u8 5 n0 (nonV n))) :=
  (QjU n w).mono fun e W' hg => by
    obtain ⟨v', e1, e2, e3⟩ := hg
    exact ⟨v', e1, e2, e3.base h0⟩
theorem or_byte (a b c : Nat) (hb : b < 256) (hc : a * 256 + b = c) (hs : c < 4611686018427387904) : bits .or .i64 ((a * 256 : Nat) : Int) ((b : Nat) : Int) = ((c : Nat) : Int) := by
  have h : bits .or .i64 ((a * 256 : Nat) : Int) ((b : Nat) : Int) = IntKind.i64.wrap (((BitVec.ofInt 64 ((a * 256 : Nat) : Int)) ||| (BitVec.ofInt 64 ((b : Nat) : Int))).toNat : Int) := rfl
  rw [h, BitVec.toNat_or, BitVec.toNat_ofInt, BitVec.toNat_ofInt]
  have e1 : (((a * 256 : Nat) : Int) % ((2 ^ 64 : Nat) : Int)).toNat = 2 ^ 8 * a := by omega
  have e2 : (((b : Nat) : Int) % ((2 ^ 64 : Nat) : Int)).toNat = b := by omega
  rw [e1, e2, ← Nat.two_pow_add_eq_or_of_lt (i := 8) (by omega) a, show 2 ^ 8 * a + b = c by omega]
  exact IntWalk.i64_in _ (by omega)
section
variable {ds : List Deferred} {P : Program} {ops : Array Oper} {Q : Exit → Act → World → Prop} {rest : List Oper} {o : Oper} {N : Nat} {L : Env} {W : World}
end
theorem Qj9 (key nonce ctx text fs : List Int) (es : Qcx key nonce ctx text = fs) (v v2 v3 : Value) (B B2 B3 : Nat) (th tq : TypeId) (w : World) (hh : w.heap[2]? = some (.cells (ints .u32 [1634760805, 857760878, 2036477234, 1797285236]) th)) (hq : w.heap[3]? = some (.cells (ints .i64 [0, 4, 8, 12, 1, 5, 9, 13, 2, 6, 10, 14, 3, 7, 11, 15, 0, 5, 10, 15, 1, 6, 11, 12, 2, 7, 8, 13, 3, 4, 9, 14]) tq)) (hkl : key.length = 32) (hn : RdK .u8 B nonce v w) (hc : RdK .u8 B2 ctx v2 w) (ht : RdK .u8 B3 fs v3 w) (hcb : Qaj ctx) (htb : Qaj text) (h : nonce.length = 12) (hcl : ctx.length ≤ 1048576) (hxl : text.length ≤ 1048576) :
    Calls Tryd.prog 74 #[.agg (ints .u8 key), v, v2, v3] w (QbT w (MixR w.heap.size text)) := by
  subst es
  exact Qib key nonce ctx text v v2 v3 B B2 B3 th tq w hh hq hkl hn hc ht hcb htb h hcl hxl
set_option maxHeartbeats 4000000 in
def NewL (base : Nat) (sk rk : List Int) : Value → World → Prop := fun v W => ∃ g, v = .pointer (some ⟨g, 0, none⟩) ∧ base ≤ g ∧ W.heap[g]? = some (.cells (cat [#[.int .i64 0], #[.int .u64 0], ints .u8 (sk), ints .u8 (rk), #[.int .i64 0]]) 136)
set_option maxHeartbeats 4000000 in
theorem newC (sk rk : List Int) (w : World) (hsk : sk.length = 32) (hrk : rk.length = 32) : Calls Tryd.prog 43 #[.agg (ints .u8 sk), .agg (ints .u8 rk)] w (QbT w (NewL w.heap.size sk rk)) := by
  refine enter 9 [(0, .agg (ints .u8 (sk))), (1, .agg (ints .u8 (rk)))] Tryd.func43 rfl rfl kj rfl ?_
  refine wp_seq_k fun K1 hK1 => ?_
  refine Qab ?_
  refine Qaq (ints .u8 (sk)) 23 2 rfl kj kj fun g2 W1 l2 e1 r2_1 => ?_
  have x1 : Ext w W1 := Ext.tr (Rely.Ext.refl w) e1
  have b2 : w.heap.size ≤ g2 := Nat.le_trans (Rely.Ext.refl w).size l2
  refine Qaq (ints .u8 (rk)) 23 3 rfl kj kj fun g3 W2 l3 e2 r3_2 => ?_
  have x2 : Ext w W2 := Ext.tr x1 e2
  have b3 : w.heap.size ≤ g3 := Nat.le_trans x1.size l3
  refine Qaa (.pointer none) 4 rfl kj kj ?_
  refine Qac ?_
  refine hK1 _ _ ?_
  refine wp_seq_k fun K4 hK4 => ?_
  refine Qab ?_
  have r2_2 := (Qad r2_1 e2)
  refine Qaa (.agg (ints .u8 (sk))) 5 rfl kj (Qas 23 _ g2 23 _ _ r2_2 rfl kj kj (isz (n := 32) kj ((Qaf _ _).trans hsk))) ?_
  refine Qaa (.agg (ints .u8 (rk))) 6 rfl kj (Qas 23 _ g3 23 _ _ r3_2 rfl kj kj (isz (n := 32) kj ((Qaf _ _).trans hrk))) ?_
  refine Qaa (.agg (cat [#[.int .i64 0], #[.int .u64 0], ints .u8 (sk), ints .u8 (rk), #[.int .i64 0]])) 7 rfl kj (QdB 136 _ (.agg (cat [#[.int .i64 0], #[.int .u64 0], ints .u8 (List.replicate 32 0), ints .u8 (List.replicate 32 0), #[.int .i64 0]])) #[(0, 2), (2, 32), (34, 32), (66, 1)] 2 [#[.int .i64 0], #[.int .u64 0]] (cat [ints .u8 (List.replicate 32 0), ints .u8 (List.replicate 32 0), #[.int .i64 0]]) [(1, 32, .agg (ints .u8 (sk)), ints .u8 (sk)), (2, 32, .agg (ints .u8 (rk)), ints .u8 (rk))] [#[.int .i64 0]] rfl kj rfl ⟨kj, rfl, ((Qaf _ _).trans hsk), kj, rfl, ((Qaf _ _).trans hrk), trivial⟩ kj (Nat.le_of_ble_eq_true kj) kj kj kj kj) ?_
  refine Qaq (cat [#[.int .i64 0], #[.int .u64 0], ints .u8 (sk), ints .u8 (rk), #[.int .i64 0]]) 136 8 rfl kj kj fun g5 W3 l5 e3 r5_3 => ?_
  have x3 : Ext w W3 := Ext.tr x2 e3
  have b5 : w.heap.size ≤ g5 := Nat.le_trans x2.size l5
  refine Qaa (.pointer (some ⟨g5, 0, none⟩)) 4 rfl kj kj ?_
  refine Qac ?_
  refine hK4 _ _ ?_
  refine wp_ret ?_
  repeat (first | with_reducible refine goR1 ?_ | with_reducible refine goR2 ?_)
  exact (show bodyPost _ _ _ .ret _ _ from ret1 (.pointer (some ⟨g5, 0, none⟩)) rfl (Qa9 kj) ⟨_, rfl, x3, g5, rfl, b5, r5_3⟩)
end Go.Proofs.YtoiendjhplbjjaaDoor.Ll
end
section
namespace Go.Proofs.YtoiendjhplbjjaaDoor.Ci
open Go Go.RowKit
open Rely Auto Own Sha Sha
set_option linter.unusedVariables false
set_option linter.unusedSimpArgs false
open Cha Ae
open Ll hiding newC
theorem Qi0 (k : IntKind) (a b : List Int) : ints k (a ++ b) = ints k a ++ ints k b := by
  apply Array.ext'
  simp [ints]
theorem Qj0 {k : IntKind} {cur : Array Value} {xs : List Int} (n : Nat) (h : cur.toList.take xs.length = xs.map (Value.int k)) : cur = cat [ints k (xs.take n), ints k (xs.drop n), (cur.toList.drop xs.length).toArray] := by
  apply Array.ext'
  have e : (cat [ints k (xs.take n), ints k (xs.drop n), (cur.toList.drop xs.length).toArray]).toList = xs.map (Value.int k) ++ cur.toList.drop xs.length := by
    have : ints k (xs.take n) ++ ints k (xs.drop n) = ints k xs := by rw [← Qi0, List.take_append_drop]
    rw [Qan, Qan, Qan, ← Array.append_assoc, this]
    simp [cat, ints]
  rw [e, ← h, List.take_append_drop]
theorem QfO {P : Program} {ρ : Operand → Value} {o : Oper} {w : World} (t : TypeId) (x z : Operand) (l g len cap : Nat) (e : TypeId) (ho : o.op = .slice t x (some z) none none) (hx : ρ x = .slice (some ⟨g, 0, none⟩) len cap)
    (hu : P.underlying t = some (.slice e)) (hs : (P.info? e).map (·.size) = some 1) (kz : IntKind) (hz : ρ z = .int kz (l : Int)) (h1 : l ≤ len) (h2 : len ≤ cap) (h3 : cap ≠ l) :
    (execOp ρ o).run P w = .ok (.value (.slice (some ⟨g, l, none⟩) (len - l) (cap - l))) w := by
  have h := Qe8 (w := w) t x z l g len cap e ho hx hu hs kz hz h1 h2
  rwa [if_neg h3] at h
theorem Qd6 {z : List Int} (h : z.length = 64) : (z.take 32).length = 32 := by rw [List.length_take, h]; rfl
theorem Qek {z : List Int} (h : z.length = 64) : (z.drop 32).length = 32 := by rw [List.length_drop, h]
def twA (z : List Int) : List Int := (kx z [] 64).take 32
def twB (z : List Int) : List Int := (kx z [] 64).drop 32
theorem Qb8 (z : List Int) : (twA z).length = 32 := Qd6 (QhG z [] 64)
theorem Qb3 (z : List Int) : (twB z).length = 32 := Qek (QhG z [] 64)
theorem Qhi (z : List Int) : Qaj (twA z) := fun x hx => Qiv z [] 64 x (List.mem_of_mem_take hx)
theorem Qjh (W : World) : RdK .u8 W.heap.size [] (.slice none 0 0) W := OwnN.rd (QeY .u8 5 W.heap.size W)
set_option maxHeartbeats 4000000 in
theorem Qdd (g : Nat) (key chain hash : List Int) (has : Bool) (num : Int) (gp n : Nat) (Tp : TypeId) (ps : List (Value × List Int)) (hn : ps.length = n) (hn9 : n ≤ 1000000) (tc tq : TypeId) (w : World) (hkl : key.length = 32) (hcl : chain.length = 32) (hhl : hash.length = 32) (hhb : Qaj hash) (hc : w.heap[1]? = some (.cells (ints .u64 Qbi) tc)) (hq : w.heap[0]? = some (.cells (ints .u64 Qat) tq)) (hg : w.heap[g]? = some (.cells (cat [ints .u8 (key), #[.bool has], #[.int .i64 num], ints .u8 (chain), ints .u8 (hash)]) 123)) (hrow : w.heap[gp]? = some (.cells (ps.map Prod.fst).toArray Tp)) (hps : ∀ p ∈ ps, RdK .u8 w.heap.size p.2 p.1 w ∧ Qaj p.2) (hlen : ((ps.map Prod.snd).flatten).length ≤ 800000000) :
  Calls Tryd.prog 31 #[.pointer (some ⟨g, 0, none⟩), .slice (some ⟨gp, 0, none⟩) n n] w (fun e W => e = .returned (.tuple #[]) ∧ ExtB g w W ∧ W.heap[g]? = some (.cells (cat [ints .u8 (key), #[.bool has], #[.int .i64 num], ints .u8 (chain), ints .u8 (dig (hash ++ (ps.map Prod.snd).flatten))]) 123)) := by
 refine enter 31 [(0, .pointer (some ⟨g, 0, none⟩)), (1, .slice (some ⟨gp, 0, none⟩) n n)] Tryd.func31 rfl rfl kj rfl ?_
 refine wp_seq_k fun K5 hK5 => ?_
 refine wp_seq_k fun K6 hK6 => ?_
 refine Qab ?_
 refine Qaa (.pointer (some ⟨g, 0, none⟩)) 7 rfl kj kj ?_
 refine Qaa (.bool false) 8 rfl kj kj ?_
 refine Qac ?_
 refine hK6 _ _ ?_
 refine cond_false kj ?_
 refine wp_skip ?_
 refine hK5 _ _ ?_
 refine wp_seq_k fun K7 hK7 => ?_
 refine Qab ?_
 refine Qa0 (fun v W' => (fun v W => ∃ g, v = .pointer (some ⟨g, 0, none⟩) ∧ w.heap.size ≤ g ∧ HasD g [] W) v W' ∧ Ext w W') 77 #[] 9 rfl kj kj ((newC tq _ hq).mono (by rintro e w' ⟨v, rfl, e1, hv⟩; exact ⟨v, rfl, hv, e1⟩)) fun vv8 W1 hh8 => ?_
 obtain ⟨hv8, e1⟩ := hh8
 have x1 : Ext w W1 := Ext.tr (Rely.Ext.refl w) e1
 obtain ⟨gd9, rfl, ld9, hD9⟩ := hv8
 have b9 : w.heap.size ≤ gd9 := Nat.le_trans (Rely.Ext.refl w).size ld9
 refine Qaa (.pointer (some ⟨gd9, 0, none⟩)) 4 rfl kj kj ?_
 refine Qac ?_
 refine hK7 _ _ ?_
 refine wp_seq_k fun K10 hK10 => ?_
 refine Qab ?_
 refine Qaa (.pointer (some ⟨gd9, 0, none⟩)) 10 rfl kj kj ?_
 refine Qaa (.pointer (some ⟨g, 0, none⟩)) 11 rfl kj kj ?_
 refine Qaa (.pointer (some ⟨g, 0, none⟩)) 12 rfl kj kj ?_
 refine Qaa (.pointer (some ⟨g, 66, none⟩)) 13 rfl kj kj ?_
 refine Qaa (.slice (some ⟨g, 66, none⟩) 32 32) 14 rfl kj kj ?_
 have r1_1 := (Qad hc e1)
 have r4_1 := (Qad hg e1)
 refine Qa0 (fun v W' => v = .tuple #[] ∧ ExtB gd9 W1 W' ∧ HasD gd9 hash W') 78 #[.pointer (some ⟨gd9, 0, none⟩), .slice (some ⟨g, 66, none⟩) 32 32] 15 rfl kj kj ((addC gd9 _ [] hash (.slice (some ⟨g, 66, none⟩) 32 32) tc _ r1_1 (Nat.ne_of_lt (Nat.lt_of_lt_of_le (Qa8 hc) b9)) (.inr (fun e => (Qae hg ld9) (Option.some.inj e))) hhb (by rw [hhl]; decide) (hD9) (Qdm 66 hhl r4_1 (fun i hi => QbF [ints .u8 (key), #[.bool has], #[.int .i64 num], ints .u8 (chain)] [] hash 66 i (66 + i) (by rw [Qan, Qan, Qan, Qan]; simp only [Array.size_append, cat, ((Qaf _ _).trans hcl), ((Qaf _ _).trans hkl)]; rfl) rfl (by rw [hhl]; exact hi)) (Qa8 r4_1) (Nat.le_refl _) (by decide))).mono fun e w' h => ⟨_, h.1, rfl, h.2⟩) fun v W2 h => ?_
 obtain ⟨rfl, q2, hDp⟩ := h
 have x2 : Ext w W2 := ExtB.up x1 q2 b9
 refine Qac ?_
 refine hK10 _ _ ?_
 refine wp_seq_k fun K11 hK11 => ?_
 refine wp_seq_k fun K12 hK12 => ?_
 refine Qab ?_
 refine Qaa (.slice (some ⟨gp, 0, none⟩) n n) 16 rfl kj kj ?_
 refine Qaa (.int .i64 ((n : Nat) : Int)) 17 rfl kj kj ?_
 refine Qaa (.int .i64 0) 18 rfl kj kj ?_
 refine Qac ?_
 refine hK12 _ _ ?_
 refine wp_block ?_
 refine QaO (fun (s1 : Nat) => [(16, .slice (some ⟨gp, 0, none⟩) n n), (17, .int .i64 ((n : Nat) : Int)), (18, .int .i64 ((s1 : Nat) : Int)), (4, .pointer (some ⟨gd9, 0, none⟩)), (0, .pointer (some ⟨g, 0, none⟩))]) (fun (s1 : Nat) W => (s1 ≤ n) ∧ (HasD gd9 (hash ++ flat ps s1) W) ∧ (Qar [gd9] W2 W) ∧ (Ext w W)) (fun (s1 : Nat) => n - s1) 0 ⟨rfl, rfl, rfl, rfl, rfl, trivial⟩ ⟨(Nat.zero_le _), (show HasD _ (hash ++ flat ps 0) _ from (List.append_nil hash).symm ▸ hDp), (Qar.refl [gd9] W2), x2⟩ fun s1 X1 V1 hI1 => ?_
 obtain ⟨i, hs1⟩ : ∃ z, z = s1 := ⟨_, rfl⟩
 subst hs1
 obtain ⟨hi, hDi, kk1, xx1⟩ := hI1
 replace hi : i ≤ n := hi
 replace hDi : HasD gd9 (hash ++ flat ps i) V1 := hDi
 replace kk1 : Qar [gd9] W2 V1 := kk1
 replace xx1 : Ext w V1 := xx1
 have q3 := kk1
 refine wp_seq_k fun K13 hK13 => ?_
 refine Qab ?_
 refine Qaa (.bool (decide (((i : Nat) : Int) < ((n : Nat) : Int)))) 19 rfl kj kj ?_
 refine Qac ?_
 refine hK13 _ _ ?_
 refine wp_seq_k fun K14 hK14 => ?_
 refine Qa7 (t := decide (((i : Nat) : Int) < ((n : Nat) : Int))) kj (fun c15 => ?_) (fun c15 => ?_)
 ·skip
  have hlt19 : i < n := by have := of_decide_eq_true c15; omega
  refine wp_skip ?_
  refine hK14 _ _ ?_
  refine wp_seq_k fun K16 hK16 => ?_
  refine wp_block ?_
  refine wp_seq_k fun K17 hK17 => ?_
  refine Qab ?_
  have hi2 : i < ps.length := by omega
  refine Qaa (.pointer (some ⟨gp, i, none⟩)) 20 rfl kj (Qbu 47 _ _ .i64 i gp n n 33 rfl kj kj kj kj hlt19) ?_
  have r3_1 := (Qad hrow e1)
  have r3_2 := (ExtB.row q2 r3_1 (Qae hrow ld9))
  have r3_3 := (Qar.row q3 r3_2 (Qa5 (Qae hrow ld9) QaT))
  refine Qaa ((pat ps i).1) 21 rfl kj (Qbl 33 _ _ ((pat ps i).1) (QcD r3_3 (Qhz hi2)) rfl kj kj) ?_
  refine Qaa ((pat ps i).1) 6 rfl kj kj ?_
  refine Qac ?_
  refine hK17 _ _ ?_
  refine Qab ?_
  refine Qaa (.pointer (some ⟨gd9, 0, none⟩)) 22 rfl kj kj ?_
  refine Qaa ((pat ps i).1) 23 rfl kj kj ?_
  have r1_2 := (ExtB.row q2 r1_1 (Qae hc ld9))
  have r1_3 := (Qar.row q3 r1_2 (Qa5 (Qae hc ld9) QaT))
  have hp6 := (hps _ (QdD hi2)).1.ext xx1
  have hl6 := Qge hi2
  refine Qa0 (fun v W' => v = .tuple #[] ∧ ExtB gd9 V1 W' ∧ HasD gd9 ((hash ++ flat ps i) ++ (pat ps i).2) W') 78 #[.pointer (some ⟨gd9, 0, none⟩), (pat ps i).1] 24 rfl kj kj ((addC gd9 _ _ _ _ tc _ r1_3 (Nat.ne_of_lt (Nat.lt_of_lt_of_le (Qa8 hc) b9)) (hp6.nb b9) (hps _ (QdD hi2)).2 (by rw [List.length_append, hhl]; omega) hDi hp6).mono fun e w' h => ⟨_, h.1, rfl, h.2⟩) fun v W4 h => ?_
  obtain ⟨rfl, q4, hDn⟩ := h
  have x4 : Ext w W4 := ExtB.up xx1 q4 b9
  refine Qac ?_
  refine hK16 _ _ ?_
  refine Qab ?_
  refine Qaa (.int .i64 ((i + 1 : Nat) : Int)) 25 rfl kj (Qal (u := .int .i64 (IntKind.i64.wrap (((i : Nat) : Int) + 1))) kj (congrArg (Value.int .i64) (i64n _ _ (by omega) (by omega)))) ?_
  refine Qaa (.int .i64 ((i + 1 : Nat) : Int)) 18 rfl kj kj ?_
  refine Qac ?_
  repeat (first | with_reducible refine goX1 ?_ | with_reducible refine goX2 ?_ | with_reducible refine goX3 ?_)
  exact QaI (i + 1) ⟨rfl, rfl, rfl, rfl, rfl, trivial⟩ ⟨(by omega), (by rw [Qd0 hi2, ← List.append_assoc]; exact hDn), (Qar.but q3 q4 (.inl (by simp))), x4⟩ (by omega)
 ·skip
  have heq19 : i = n := by have := of_decide_eq_false c15; omega
  refine wp_exit ?_
  refine hK11 _ _ ?_
  refine Qab ?_
  refine Qaa (.pointer (some ⟨g, 0, none⟩)) 26 rfl kj kj ?_
  refine Qaa (.pointer (some ⟨gd9, 0, none⟩)) 27 rfl kj kj ?_
  have r1_2 := (ExtB.row q2 r1_1 (Qae hc ld9))
  have r1_3 := (Qar.row q3 r1_2 (Qa5 (Qae hc ld9) QaT))
  refine Qax (.agg (ints .u8 (dig (hash ++ flat ps i)))) 79 #[.pointer (some ⟨gd9, 0, none⟩)] 28 rfl kj kj (sumC gd9 _ tc _ r1_3 (by rw [heq19, Qc5 hn, List.length_append, hhl]; omega) hDi) fun W4 e4 => ?_
  have x4 : Ext w W4 := Ext.tr xx1 e4
  refine Qaa (.pointer (some ⟨g, 0, none⟩)) 29 rfl kj kj ?_
  refine Qaa (.pointer (some ⟨g, 66, none⟩)) 30 rfl kj kj ?_
  have xb4 : ExtB g w W4 := ExtB.ext (ExtB.refl g w) x4
  have r4_2 := (ExtB.row q2 r4_1 (Qae hg ld9))
  have r4_3 := (Qar.row q3 r4_2 (Qa5 (Qae hg ld9) QaT))
  have r4_4 := (Qad r4_3 e4)
  refine Qah g _ (cat [ints .u8 (key), #[.bool has], #[.int .i64 num], ints .u8 (chain), ints .u8 (dig (hash ++ flat ps i))]) 123 r4_4 rfl kj (Qcg 29 _ _ g 66 123 [ints .u8 (key), #[.bool has], #[.int .i64 num], ints .u8 (chain)] [ints .u8 (hash)] [ints .u8 (dig (hash ++ flat ps i))] [] r4_4 rfl kj kj (isz (n := 32) kj ((Qaf _ _).trans (QaJ _))) (by rw [Qan, Qan, Qan, Qan]; simp only [Array.size_append, cat, ((Qaf _ _).trans hcl), ((Qaf _ _).trans hkl)]; rfl) (eqsz (n := 32) ((Qaf _ _).trans (QaJ _)) ((Qaf _ _).trans hhl)) (Qay _ _)) fun W5 p5 r4_5 => ?_
  have x5 : ExtB g w W5 := ExtB.puts xb4 p5
  refine Qac ?_
  repeat (first | with_reducible refine goX1 ?_ | with_reducible refine goX2 ?_ | with_reducible refine goX3 ?_)
  exact (show bodyPost _ _ _ .normal _ _ from end0 rfl ⟨rfl, x5, by have h := r4_5; rw [heq19, Qc5 hn] at h; exact h⟩)
end Go.Proofs.YtoiendjhplbjjaaDoor.Ci
end
section
namespace Go.Proofs.YtoiendjhplbjjaaDoor.Ci
open Go Go.RowKit
open Rely Auto Own Sha Sha
set_option linter.unusedVariables false
set_option linter.unusedSimpArgs false
open Cha Ae
open Ll hiding newC
theorem run_sap {P : Program} {ρ : Operand → Value} {o : Oper} {w : World} (t : TypeId) (x : Operand) (n : Nat) (e : TypeId) {a : Option Addr} {len cap : Nat} (ho : o.op = .sliceToArrayPointer t x) (hx : ρ x = .slice a len cap) (hu : P.underlying t = some (.array n e)) (h : n ≤ len) :
    (execOp ρ o).run P w = .ok (.value (.pointer a)) w := by
  unfold execOp
  simp [ho, hx, Instr.arrayAt, run_underlying hu, Nat.not_lt.2 h]
set_option maxHeartbeats 4000000 in
theorem twoC (z : List Int) (tc tq : TypeId) (w : World) (hzl : z.length = 32) (hzb : Qaj z) (hc : w.heap[1]? = some (.cells (ints .u64 Qbi) tc)) (hq : w.heap[0]? = some (.cells (ints .u64 Qat) tq)) : Calls Tryd.prog 81 #[.agg (ints .u8 z)] w (Ret w (.tuple #[.agg (ints .u8 (twA z)), .agg (ints .u8 (twB z))])) := by
  refine enter 23 [(0, .agg (ints .u8 (z)))] Tryd.func81 rfl rfl kj rfl ?_
  refine wp_seq_k fun K3 hK3 => ?_
  refine Qab ?_
  refine Qaq (ints .u8 (z)) 29 1 rfl kj kj fun g4 W1 l4 e1 r4_1 => ?_
  have x1 : Ext w W1 := Ext.tr (Rely.Ext.refl w) e1
  have b4 : w.heap.size ≤ g4 := Nat.le_trans (Rely.Ext.refl w).size l4
  refine Qaq (ints .u8 (List.replicate 32 0)) 23 2 rfl kj kj fun g5 W2 l5 e2 r5_2 => ?_
  have x2 : Ext w W2 := Ext.tr x1 e2
  have b5 : w.heap.size ≤ g5 := Nat.le_trans x1.size l5
  refine Qaq (ints .u8 (List.replicate 32 0)) 23 3 rfl kj kj fun g6 W3 l6 e3 r6_3 => ?_
  have x3 : Ext w W3 := Ext.tr x2 e3
  have b6 : w.heap.size ≤ g6 := Nat.le_trans x2.size l6
  refine Qac ?_
  refine hK3 _ _ ?_
  refine wp_seq_k fun K7 hK7 => ?_
  refine Qab ?_
  refine Qaa (.slice (some ⟨g4, 0, none⟩) 32 32) 7 rfl kj kj ?_
  have r1_1 := (Qad hc e1)
  have r1_2 := (Qad r1_1 e2)
  have r1_3 := (Qad r1_2 e3)
  have r2_1 := (Qad hq e1)
  have r2_2 := (Qad r2_1 e2)
  have r2_3 := (Qad r2_2 e3)
  have r4_2 := (Qad r4_1 e2)
  have r4_3 := (Qad r4_2 e3)
  refine Qa0 (fun v W' => (fun v W => ∃ u, v = .tuple #[u, .nilIface] ∧ OwnN .u8 5 W3.heap.size (kx z [] 64) u W) v W' ∧ Ext W3 W') 111 #[.slice (some ⟨g4, 0, none⟩) 32 32, .slice none 0 0, .int .i64 64] 8 rfl kj kj ((Qix z [] _ _ _ _ 64 tc tq _ r1_3 r2_3 (by decide) (by rw [hzl]; decide) (by decide) hzb (fun x hx => by cases hx) (Qbp (xs := z) (n := 32) hzl r4_3 (Qa8 r4_3) (show 32 ≤ maxLen from by decide)) (Qjh _)).mono (by rintro e w' ⟨v, rfl, e1, hv⟩; exact ⟨v, rfl, hv, e1⟩)) fun vv9 W4 hh9 => ?_
  obtain ⟨hv9, e4⟩ := hh9
  have x4 : Ext w W4 := Ext.tr x3 e4
  obtain ⟨u, rfl, hu⟩ := hv9
  have hl0 := QhG z [] 64
  obtain ⟨ek, hek⟩ : ∃ y, y = kx z [] 64 := ⟨_, rfl⟩
  rw [← hek] at hu hl0
  obtain ⟨gk, ck, cur, ev, lk, rk0, zk, nk, mk_, tk⟩ := Qh1 hu (by rw [hl0]; decide)
  rw [hl0] at ev nk
  subst ev
  obtain ⟨rst, hrst⟩ : ∃ y, y = (cur.toList.drop ek.length).toArray := ⟨_, rfl⟩
  have rk : W4.heap[gk]? = some (.cells (cat [ints .u8 (ek.take 32), ints .u8 (ek.drop 32), rst]) 5) := by rw [hrst, ← Qj0 32 tk]; exact rk0
  have bk : w.heap.size ≤ gk := Nat.le_trans x3.size lk
  refine Qaa (.tuple #[.slice (some ⟨gk, 0, none⟩) 64 ck, .nilIface]) 6 rfl kj kj ?_
  refine Qaa (.slice (some ⟨gk, 0, none⟩) 64 ck) 9 rfl kj kj ?_
  refine Qaa (.nilIface) 10 rfl kj kj ?_
  refine Qaa (.slice (some ⟨gk, 0, none⟩) 64 ck) 4 rfl kj kj ?_
  refine Qaa (.nilIface) 5 rfl kj kj ?_
  refine Qac ?_
  refine hK7 _ _ ?_
  refine wp_seq_k fun K11 hK11 => ?_
  refine wp_seq_k fun K12 hK12 => ?_
  refine Qab ?_
  refine Qaa (.nilIface) 11 rfl kj kj ?_
  refine Qaa (.bool false) 12 rfl kj kj ?_
  refine Qac ?_
  refine hK12 _ _ ?_
  refine cond_false kj ?_
  refine wp_skip ?_
  refine hK11 _ _ ?_
  refine wp_seq_k fun K13 hK13 => ?_
  refine Qbd (fun W => W.heap[gk]? = some (.cells (cat [ints .u8 (ek.take 32), ints .u8 (ek.drop 32), rst]) 5)) [⟨none, [(4, none)]⟩, ⟨none, [(15, some 0)]⟩, ⟨none, [(16, some 1)]⟩, ⟨none, [(17, some 2)]⟩, ⟨none, [(4, none)]⟩, ⟨none, [(19, some 4)]⟩, ⟨none, [(20, some 5)]⟩, ⟨none, [(21, some 6)]⟩, ⟨none, [(2, none), (18, some 3)]⟩, ⟨none, [(3, none), (22, some 7)]⟩] [] [4, 5, 6, 7] kj kj kj (fun W hR => Qad rk hR) fun F hF => ?_
  refine Qaw (.slice (some ⟨gk, 0, none⟩) 64 ck) kj kj rfl (fun W => by kernel_rfl) ?_
  refine Qaw (.slice (some ⟨gk, 0, none⟩) 32 ck) kj kj rfl (fun W => (Qe9 (len := 64) 33 _ _ 32 5 rfl kj kj kj .i64 kj (Nat.le_trans (by decide) nk))) ?_
  refine Qaw (.pointer (some ⟨gk, 0, none⟩)) kj kj rfl (fun W => (run_sap (len := 32) (cap := ck) (a := some ⟨gk, 0, none⟩) 23 _ 32 5 rfl kj kj (by decide))) ?_
  refine Qa6 (.agg (ints .u8 (ek.take 32))) kj kj kj rfl (fun W hR => (QaF 23 _ gk 0 5 _ _ _ (Qad (Qad rk (Qak _)) hR) rfl kj (QaE [] [ints .u8 (ek.take 32)] [ints .u8 (ek.drop 32), rst] 0 kj) kj (isz (n := 32) kj ((Qaf _ _).trans (Qd6 hl0))))) ?_
  refine Qaw (.slice (some ⟨gk, 0, none⟩) 64 ck) kj kj rfl (fun W => by kernel_rfl) ?_
  refine Qaw (.slice (some ⟨gk, 32, none⟩) (64 - 32) (ck - 32)) kj kj rfl (fun W => (QfO 33 _ _ 32 gk 64 ck 5 rfl kj kj kj .i64 kj (by decide) nk (by omega))) ?_
  refine Qaw (.pointer (some ⟨gk, 32, none⟩)) kj kj rfl (fun W => (run_sap (len := 64 - 32) (cap := ck - 32) (a := some ⟨gk, 32, none⟩) 23 _ 32 5 rfl kj kj (by decide))) ?_
  refine Qbj (.agg (ints .u8 (ek.drop 32))) kj kj kj rfl (fun W hW => (QaF 23 _ gk 32 5 _ _ _ hW rfl kj (QaE [ints .u8 (ek.take 32)] [ints .u8 (ek.drop 32)] [rst] 32 ((Qaf _ _).trans (Qd6 hl0))) kj (isz (n := 32) kj ((Qaf _ _).trans (Qek hl0))))) ?_
  refine QaL rfl ?_
  refine QaL rfl ?_
  refine Qds (hF _ kj fun W5 e5 => ?_)
  simp only [List.nil_append, List.cons_append, fins, up]
  clear hF
  have x5 : Ext w W5 := Ext.tr x4 e5
  have r5_3 := (Qad r5_2 e3)
  have r5_4 := (Qad r5_3 e4)
  have r5_5 := (Qad r5_4 e5)
  have r10_5 := (Qad rk e5)
  refine QaG _ g5 _ (ints .u8 (ek.take 32)) 23 r5_5 rfl (Qam 23 _ _ g5 23 _ _ r5_5 rfl kj kj (isz (n := 32) kj ((Qaf _ _).trans (Qd6 hl0))) (eqsz (n := 32) ((Qaf _ _).trans (List.length_replicate (n := 32))) ((Qaf _ _).trans (Qd6 hl0))) (Qay _ _)) (fun W hp => Puts.row hp r10_5 (Qap r5_3 lk)) fun W6 p6 r5_6 => ?_
  have x6 : Ext w W6 := Puts.ext p6 x5 b5
  have r6_4 := (Qad r6_3 e4)
  have r6_5 := (Qad r6_4 e5)
  have r6_6 := (Puts.row p6 r6_5 (Qap r5_2 l6))
  have r10_6 := (Puts.row p6 r10_5 (Qap r5_3 lk))
  refine QaG _ g6 _ (ints .u8 (ek.drop 32)) 23 r6_6 rfl (Qam 23 _ _ g6 23 _ _ r6_6 rfl kj kj (isz (n := 32) kj ((Qaf _ _).trans (Qek hl0))) (eqsz (n := 32) ((Qaf _ _).trans (List.length_replicate (n := 32))) ((Qaf _ _).trans (Qek hl0))) (Qay _ _)) (fun W hp => Puts.row hp r10_6 (Qap r6_3 lk)) fun W7 p7 r6_7 => ?_
  have x7 : Ext w W7 := Puts.ext p7 x6 b6
  refine Qcr ?_
  refine hK13 _ _ ?_
  refine wp_ret ?_
  repeat (first | with_reducible refine goR1 ?_ | with_reducible refine goR2 ?_)
  have r5_7 := (Puts.row p7 r5_6 (Qae r5_2 l6))
  exact (show bodyPost _ _ _ .ret _ _ from ret2 (.agg (ints .u8 (ek.take 32))) (.agg (ints .u8 (ek.drop 32))) rfl (QaU g5 23 _ r5_7 kj kj (isz (n := 32) kj ((Qaf _ _).trans (Qd6 hl0)))) (QaU g6 23 _ r6_7 kj kj (isz (n := 32) kj ((Qaf _ _).trans (Qek hl0)))) ⟨by rw [hek]; rfl, x7⟩)
set_option maxHeartbeats 4000000 in
theorem Qde (g : Nat) (key chain hash : List Int) (has : Bool) (num : Int) (sec : List Int) (v : Value) (B : Nat) (tc tq : TypeId) (w : World) (hkl : key.length = 32) (hcl : chain.length = 32) (hhl : hash.length = 32) (hcb : Qaj chain) (hsb : Qaj sec) (hsl : sec.length ≤ 800000000) (hc : w.heap[1]? = some (.cells (ints .u64 Qbi) tc)) (hq : w.heap[0]? = some (.cells (ints .u64 Qat) tq)) (hg : w.heap[g]? = some (.cells (cat [ints .u8 (key), #[.bool has], #[.int .i64 num], ints .u8 (chain), ints .u8 (hash)]) 123)) (hs : RdK .u8 B sec v w) :
    Calls Tryd.prog 32 #[.pointer (some ⟨g, 0, none⟩), v] w (fun e W => e = .returned (.tuple #[]) ∧ ExtB g w W ∧ W.heap[g]? = some (.cells (cat [ints .u8 (twB (hmac chain sec)), #[.bool true], #[.int .i64 0], ints .u8 (twA (hmac chain sec)), ints .u8 (hash)]) 123)) := by
  obtain ⟨a_s, c_s, rfl, -⟩ := id hs
  refine enter 29 [(0, .pointer (some ⟨g, 0, none⟩)), (1, .slice a_s sec.length c_s)] Tryd.func32 rfl rfl kj rfl ?_
  refine wp_seq_k fun K4 hK4 => ?_
  refine wp_seq_k fun K5 hK5 => ?_
  refine Qab ?_
  refine Qaa (.pointer (some ⟨g, 0, none⟩)) 7 rfl kj kj ?_
  refine Qaa (.bool false) 8 rfl kj kj ?_
  refine Qac ?_
  refine hK5 _ _ ?_
  refine cond_false kj ?_
  refine wp_skip ?_
  refine hK4 _ _ ?_
  refine wp_seq_k fun K6 hK6 => ?_
  refine Qab ?_
  refine Qaa (.pointer (some ⟨g, 0, none⟩)) 9 rfl kj kj ?_
  refine Qaa (.pointer (some ⟨g, 0, none⟩)) 10 rfl kj kj ?_
  refine Qaa (.pointer (some ⟨g, 34, none⟩)) 11 rfl kj kj ?_
  refine Qaa (.slice (some ⟨g, 34, none⟩) 32 32) 12 rfl kj kj ?_
  refine Qaa (.slice a_s sec.length c_s) 13 rfl kj kj ?_
  refine Qax (.agg (ints .u8 (hmac chain sec))) 80 #[.slice (some ⟨g, 34, none⟩) 32 32, .slice a_s sec.length c_s] 14 rfl kj kj (Qi6 chain sec _ _ _ _ tc tq _ hc hq (by rw [hcl]; decide) hsl hcb hsb (Qdm 34 hcl hg (fun i hi => QbF [ints .u8 (key), #[.bool has], #[.int .i64 num]] [ints .u8 (hash)] chain 34 i (34 + i) (by rw [Qan, Qan, Qan]; simp only [Array.size_append, cat, ((Qaf _ _).trans hkl)]; rfl) rfl (by rw [hcl]; exact hi)) (Qa8 hg) (Nat.le_refl _) (by decide)) (RdK.ext hs (Rely.Ext.refl w))) fun W1 e1 => ?_
  have x1 : Ext w W1 := Ext.tr (Rely.Ext.refl w) e1
  refine Qaq (ints .u8 (List.replicate 32 0)) 29 4 rfl kj kj fun g7 W2 l7 e2 r7_2 => ?_
  have x2 : Ext w W2 := Ext.tr x1 e2
  have b7 : w.heap.size ≤ g7 := Nat.le_trans x1.size l7
  refine Qah g7 _ (ints .u8 (hmac chain sec)) 29 r7_2 rfl kj (Qam 29 _ _ g7 29 _ _ r7_2 rfl kj kj (isz (n := 32) kj ((Qaf _ _).trans (Qbw _ _))) (eqsz (n := 32) ((Qaf _ _).trans (List.length_replicate (n := 32))) ((Qaf _ _).trans (Qbw _ _))) (Qay _ _)) fun W3 p3 r7_3 => ?_
  have x3 : Ext w W3 := Puts.ext p3 x2 b7
  refine Qac ?_
  refine hK6 _ _ ?_
  refine wp_seq_k fun K8 hK8 => ?_
  refine Qab ?_
  refine Qaa (.agg (ints .u8 (hmac chain sec))) 16 rfl kj (Qas 29 _ g7 29 _ _ r7_3 rfl kj kj (isz (n := 32) kj ((Qaf _ _).trans (Qbw _ _)))) ?_
  have r1_1 := (Qad hc e1)
  have r1_2 := (Qad r1_1 e2)
  have r1_3 := (Puts.row p3 r1_2 (Qae r1_1 l7))
  have r2_1 := (Qad hq e1)
  have r2_2 := (Qad r2_1 e2)
  have r2_3 := (Puts.row p3 r2_2 (Qae r2_1 l7))
  refine Qax (.tuple #[.agg (ints .u8 (twA (hmac chain sec))), .agg (ints .u8 (twB (hmac chain sec)))]) 81 #[.agg (ints .u8 (hmac chain sec))] 17 rfl kj kj (twoC (hmac chain sec) tc tq _ (Qbw _ _) (QeJ _ _) r1_3 r2_3) fun W4 e4 => ?_
  have x4 : Ext w W4 := Ext.tr x3 e4
  refine Qaa (.tuple #[.agg (ints .u8 (twA (hmac chain sec))), .agg (ints .u8 (twB (hmac chain sec)))]) 15 rfl kj kj ?_
  refine Qaa (.agg (ints .u8 (twA (hmac chain sec)))) 18 rfl kj kj ?_
  refine Qaa (.agg (ints .u8 (twB (hmac chain sec)))) 19 rfl kj kj ?_
  refine Qaq (ints .u8 (List.replicate 32 0)) 23 5 rfl kj kj fun g9 W5 l9 e5 r9_5 => ?_
  have x5 : Ext w W5 := Ext.tr x4 e5
  have b9 : w.heap.size ≤ g9 := Nat.le_trans x4.size l9
  refine Qaq (ints .u8 (List.replicate 32 0)) 23 6 rfl kj kj fun g10 W6 l10 e6 r10_6 => ?_
  have x6 : Ext w W6 := Ext.tr x5 e6
  have b10 : w.heap.size ≤ g10 := Nat.le_trans x5.size l10
  have r9_6 := (Qad r9_5 e6)
  refine Qah g9 _ (ints .u8 (twA (hmac chain sec))) 23 r9_6 rfl kj (Qam 23 _ _ g9 23 _ _ r9_6 rfl kj kj (isz (n := 32) kj ((Qaf _ _).trans (Qb8 _))) (eqsz (n := 32) ((Qaf _ _).trans (List.length_replicate (n := 32))) ((Qaf _ _).trans (Qb8 _))) (Qay _ _)) fun W7 p7 r9_7 => ?_
  have x7 : Ext w W7 := Puts.ext p7 x6 b9
  have r10_7 := (Puts.row p7 r10_6 (Qap r9_5 l10))
  refine Qah g10 _ (ints .u8 (twB (hmac chain sec))) 23 r10_7 rfl kj (Qam 23 _ _ g10 23 _ _ r10_7 rfl kj kj (isz (n := 32) kj ((Qaf _ _).trans (Qb3 _))) (eqsz (n := 32) ((Qaf _ _).trans (List.length_replicate (n := 32))) ((Qaf _ _).trans (Qb3 _))) (Qay _ _)) fun W8 p8 r10_8 => ?_
  have x8 : Ext w W8 := Puts.ext p8 x7 b10
  refine Qac ?_
  refine hK8 _ _ ?_
  refine wp_seq_k fun K11 hK11 => ?_
  refine Qab ?_
  refine Qaa (.pointer (some ⟨g, 0, none⟩)) 20 rfl kj kj ?_
  have r9_8 := (Puts.row p8 r9_7 (Qae r9_5 l10))
  refine Qaa (.agg (ints .u8 (twA (hmac chain sec)))) 21 rfl kj (Qas 23 _ g9 23 _ _ r9_8 rfl kj kj (isz (n := 32) kj ((Qaf _ _).trans (Qb8 _)))) ?_
  refine Qaa (.pointer (some ⟨g, 0, none⟩)) 22 rfl kj kj ?_
  refine Qaa (.pointer (some ⟨g, 34, none⟩)) 23 rfl kj kj ?_
  have xb8 : ExtB g w W8 := ExtB.ext (ExtB.refl g w) x8
  have r3_1 := (Qad hg e1)
  have r3_2 := (Qad r3_1 e2)
  have r3_3 := (Puts.row p3 r3_2 (Qae r3_1 l7))
  have r3_4 := (Qad r3_3 e4)
  have r3_5 := (Qad r3_4 e5)
  have r3_6 := (Qad r3_5 e6)
  have r3_7 := (Puts.row p7 r3_6 (Qae r3_4 l9))
  have r3_8 := (Puts.row p8 r3_7 (Qae r3_5 l10))
  refine Qah g _ (cat [ints .u8 (key), #[.bool has], #[.int .i64 num], ints .u8 (twA (hmac chain sec)), ints .u8 (hash)]) 123 r3_8 rfl kj (Qcg 29 _ _ g 34 123 [ints .u8 (key), #[.bool has], #[.int .i64 num]] [ints .u8 (chain)] [ints .u8 (twA (hmac chain sec))] [ints .u8 (hash)] r3_8 rfl kj kj (isz (n := 32) kj ((Qaf _ _).trans (Qb8 _))) (by rw [Qan, Qan, Qan]; simp only [Array.size_append, cat, ((Qaf _ _).trans hkl)]; rfl) (eqsz (n := 32) ((Qaf _ _).trans (Qb8 _)) ((Qaf _ _).trans hcl)) (Qay _ _)) fun W9 p9 r3_9 => ?_
  have x9 : ExtB g w W9 := ExtB.puts xb8 p9
  refine Qac ?_
  refine hK11 _ _ ?_
  refine Qab ?_
  refine Qaa (.pointer (some ⟨g, 0, none⟩)) 24 rfl kj kj ?_
  have r10_9 := (Puts.row p9 r10_8 (Qap r3_5 l10))
  refine Qaa (.agg (ints .u8 (twB (hmac chain sec)))) 25 rfl kj (Qas 23 _ g10 23 _ _ r10_9 rfl kj kj (isz (n := 32) kj ((Qaf _ _).trans (Qb3 _)))) ?_
  refine Qaa (.agg (cat [ints .u8 (twB (hmac chain sec)), #[.bool true], #[.int .i64 0]])) 26 rfl kj (QdB 113 _ (.agg (cat [ints .u8 (List.replicate 32 0), #[.bool false], #[.int .i64 0]])) #[(0, 32), (32, 1), (33, 1)] 0 [] (cat [ints .u8 (List.replicate 32 0), #[.bool false], #[.int .i64 0]]) [(0, 32, .agg (ints .u8 (twB (hmac chain sec))), ints .u8 (twB (hmac chain sec))), (1, 1, .bool true, #[.bool true])] [#[.int .i64 0]] rfl kj rfl ⟨kj, rfl, ((Qaf _ _).trans (Qb3 _)), kj, rfl, kj, trivial⟩ kj (Nat.le_of_ble_eq_true kj) kj kj kj kj) ?_
  refine Qaa (.pointer (some ⟨g, 0, none⟩)) 27 rfl kj kj ?_
  refine Qaa (.pointer (some ⟨g, 0, none⟩)) 28 rfl kj kj ?_
  refine Qah g _ (cat [ints .u8 (twB (hmac chain sec)), #[.bool true], #[.int .i64 0], ints .u8 (twA (hmac chain sec)), ints .u8 (hash)]) 123 r3_9 rfl kj (Qcg 113 _ _ g 0 123 [] [ints .u8 (key), #[.bool has], #[.int .i64 num]] [ints .u8 (twB (hmac chain sec)), #[.bool true], #[.int .i64 0]] [ints .u8 (twA (hmac chain sec)), ints .u8 (hash)] r3_9 rfl kj kj (isz (n := 34) kj (by rw [Qan, Qan, Qan]; simp only [Array.size_append, cat, ((Qaf _ _).trans (Qb3 _))]; rfl)) kj (eqsz (n := 34) (by rw [Qan, Qan, Qan]; simp only [Array.size_append, cat, ((Qaf _ _).trans (Qb3 _))]; rfl) (by rw [Qan, Qan, Qan]; simp only [Array.size_append, cat, ((Qaf _ _).trans hkl)]; rfl)) (Qgh _ (by intro a ha; simp only [List.mem_cons, List.not_mem_nil, or_false] at ha; rcases ha with rfl | rfl | rfl; exact (Qay _ _); exact (QeZ _ rfl); exact (QeZ _ rfl)))) fun W10 p10 r3_10 => ?_
  have x10 : ExtB g w W10 := ExtB.puts x9 p10
  refine Qac ?_
  repeat (first | with_reducible refine goX1 ?_ | with_reducible refine goX2 ?_ | with_reducible refine goX3 ?_)
  exact (show bodyPost _ _ _ .normal _ _ from end0 rfl ⟨rfl, x10, r3_10⟩)
end Go.Proofs.YtoiendjhplbjjaaDoor.Ci
end
section
namespace Go.Proofs.YtoiendjhplbjjaaDoor.Ci
open Go Go.RowKit
open Rely Auto Own Sha Sha
set_option linter.unusedVariables false
set_option linter.unusedSimpArgs false
open Cha
open Ae hiding run_storeQ
open Ll hiding newC run_storeQ
theorem QhW {P : Program} {ρ ρ' : Tmp → Value} {o : Oper} {W : World} {r : Result Next} (h : (execOp (Rely.look ρ) o).run P W = (execOp (Rely.look ρ') o).run P W) (h2 : (execOp (Rely.look ρ') o).run P W = r) : (execOp (Rely.look ρ) o).run P W = r := h.trans h2
set_option maxRecDepth 100000 in
set_option maxHeartbeats 4000000 in
theorem QjE (g : Nat) (key chain hash : List Int) (num : Nat) (ctx text fs : List Int) (es : Qcx key (nonV num) ctx text = fs) (v2 v3 : Value) (B2 B3 : Nat) (th tq : TypeId) (w : World) (hkl : key.length = 32) (hcl : chain.length = 32) (hhl : hash.length = 32) (hh : w.heap[2]? = some (.cells (ints .u32 [1634760805, 857760878, 2036477234, 1797285236]) th)) (hq : w.heap[3]? = some (.cells (ints .i64 [0, 4, 8, 12, 1, 5, 9, 13, 2, 6, 10, 14, 3, 7, 11, 15, 0, 5, 10, 15, 1, 6, 11, 12, 2, 7, 8, 13, 3, 4, 9, 14]) tq)) (hg : w.heap[g]? = some (.cells (cat [ints .u8 (key), #[.bool true], #[.int .i64 ((num : Nat) : Int)], ints .u8 (chain), ints .u8 (hash)]) 123)) (hn : num < 4294967295) (hxb : Qaj ctx) (hxl : ctx.length ≤ 1048576) (htl : text.length ≤ 1048576) (hx : RdK .u8 B2 ctx v2 w) (ht : RdK .u8 B3 text v3 w) :
  Calls Tryd.prog 70 #[.pointer (some ⟨g, 0, none⟩), .func (.func 71) #[] #[], v2, v3] w (fun e W => ∃ u, e = .returned (.tuple #[u, .nilIface]) ∧ OwnN .u8 5 w.heap.size (fs) u W ∧ ExtB g w W ∧ W.heap[g]? = some (.cells (cat [ints .u8 (key), #[.bool true], #[.int .i64 ((num + 1 : Nat) : Int)], ints .u8 (chain), ints .u8 (hash)]) 123)) := by
 obtain ⟨a_c, c_c, rfl, -⟩ := id hx
 obtain ⟨a_t, c_t, rfl, -⟩ := id ht
 refine enter 52 [(0, .pointer (some ⟨g, 0, none⟩)), (1, .func (.func 71) #[] #[]), (2, .slice a_c ctx.length c_c), (3, .slice a_t text.length c_t)] Tryd.func70 rfl rfl kj rfl ?_
 refine wp_seq_k fun K4 hK4 => ?_
 refine Qab ?_
 refine Qaa (.slice none 0 0) 8 rfl kj kj ?_
 refine Qaa (.nilIface) 9 rfl kj kj ?_
 refine Qac ?_
 refine hK4 _ _ ?_
 refine wp_seq_k fun K5 hK5 => ?_
 refine wp_seq_k fun K6 hK6 => ?_
 refine Qab ?_
 refine Qaa (.pointer (some ⟨g, 0, none⟩)) 12 rfl kj kj ?_
 refine Qaa (.pointer (some ⟨g, 0, none⟩)) 13 rfl kj kj ?_
 refine Qaa (.pointer (some ⟨g, 32, none⟩)) 14 rfl kj kj ?_
 refine Qaa (.bool true) 15 rfl kj (Qag 4 _ g 32 123 _ (.bool true) _ hg rfl kj (QaE [ints .u8 (key)] [#[.bool true]] [#[.int .i64 ((num : Nat) : Int)], ints .u8 (chain), ints .u8 (hash)] 32 ((Qaf _ _).trans hkl) 0 _ rfl) kj) ?_
 refine Qaa (.bool false) 16 rfl kj kj ?_
 refine Qac ?_
 refine hK6 _ _ ?_
 refine cond_false kj ?_
 refine wp_skip ?_
 refine hK5 _ _ ?_
 refine wp_seq_k fun K7 hK7 => ?_
 refine wp_seq_k fun K8 hK8 => ?_
 refine Qab ?_
 refine Qaa (.pointer (some ⟨g, 0, none⟩)) 19 rfl kj kj ?_
 refine Qaa (.pointer (some ⟨g, 0, none⟩)) 20 rfl kj kj ?_
 refine Qaa (.pointer (some ⟨g, 33, none⟩)) 21 rfl kj kj ?_
 refine Qaa (.int .i64 ((num : Nat) : Int)) 22 rfl kj (Qag 3 _ g 33 123 _ (.int .i64 ((num : Nat) : Int)) _ hg rfl kj (QaE [ints .u8 (key), #[.bool true]] [#[.int .i64 ((num : Nat) : Int)]] [ints .u8 (chain), ints .u8 (hash)] 33 (by rw [Qan, Qan]; simp only [Array.size_append, cat, ((Qaf _ _).trans hkl)]; rfl) 0 _ rfl) kj) ?_
 refine Qaa (.bool false) 23 rfl kj (Qal (u := .bool ((((num : Nat) : Int) == 4294967295))) kj (congrArg Value.bool (beq_eq_false_iff_ne.2 (by omega)))) ?_
 refine Qac ?_
 refine hK8 _ _ ?_
 refine cond_false kj ?_
 refine wp_skip ?_
 refine hK7 _ _ ?_
 refine wp_seq_k fun K9 hK9 => ?_
 refine QaY 17 [⟨none, [(1, none)]⟩, ⟨none, [(0, none)]⟩, ⟨none, [(27, some 1)]⟩, ⟨none, [(28, some 2)]⟩, ⟨none, [(29, some 3)]⟩, ⟨none, [(0, none)]⟩, ⟨none, [(31, some 5)]⟩, ⟨none, [(32, some 6)]⟩, ⟨none, [(33, some 7)]⟩, ⟨none, [(34, some 8)]⟩, ⟨none, [(2, none)]⟩, ⟨none, [(3, none)]⟩, ⟨none, [(26, some 0), (30, some 4), (35, some 9), (36, some 10), (37, some 11)]⟩, ⟨none, [(38, some 12)]⟩, ⟨none, [(25, some 13)]⟩, ⟨none, [(25, some 13)]⟩, ⟨none, [(39, some 14)]⟩] kj kj fun F hF => ?_
 refine QaB (Qav _) (.func (.func 71) #[] #[]) kj kj (fun W => by kernel_rfl) ?_
 refine QaB (Qav _) (.pointer (some ⟨g, 0, none⟩)) kj kj (fun W => by kernel_rfl) ?_
 refine QaB (Qav _) (.pointer (some ⟨g, 0, none⟩)) kj kj (fun W => by kernel_rfl) ?_
 refine QaB (Qav _) (.pointer (some ⟨g, 0, none⟩)) kj kj (fun W => by kernel_rfl) ?_
 refine QbG (Qav _) (.agg (ints .u8 (key))) kj kj (fun W hR => (QaF 23 _ g 0 123 _ _ _ (Qad (Qad hg (Qak _)) hR) rfl kj (QaE [] [ints .u8 (key)] [#[.bool true], #[.int .i64 ((num : Nat) : Int)], ints .u8 (chain), ints .u8 (hash)] 0 kj) kj (isz (n := 32) kj ((Qaf _ _).trans hkl)))) ?_
 refine QaB (Qav _) (.pointer (some ⟨g, 0, none⟩)) kj kj (fun W => by kernel_rfl) ?_
 refine QaB (Qav _) (.pointer (some ⟨g, 0, none⟩)) kj kj (fun W => by kernel_rfl) ?_
 refine QaB (Qav _) (.pointer (some ⟨g, 33, none⟩)) kj kj (fun W => by kernel_rfl) ?_
 refine QbG (Qav _) (.int .i64 ((num : Nat) : Int)) kj kj (fun W hR => (Qag 3 _ g 33 123 _ (.int .i64 ((num : Nat) : Int)) _ (Qad (Qad hg (Qak _)) hR) rfl kj (QaE [ints .u8 (key), #[.bool true]] [#[.int .i64 ((num : Nat) : Int)]] [ints .u8 (chain), ints .u8 (hash)] 33 (by rw [Qan, Qan]; simp only [Array.size_append, cat, ((Qaf _ _).trans hkl)]; rfl) 0 _ rfl) kj)) ?_
 refine Qew (Qav _) (OwnN .u8 5 w.heap.size (nonV num)) (OwnN.stable _ _ _ _) 86 #[.int .i64 ((num : Nat) : Int)] kj kj (fun W => by kernel_rfl) (fun W hR => (QiS w.heap.size num _ (Rely.Ext.trans (Qak _) hR).size)) ?_
 refine QaB (Qav _) (.slice a_c ctx.length c_c) kj kj (fun W => by kernel_rfl) ?_
 refine QaB (Qav _) (.slice a_t text.length c_t) kj kj (fun W => by kernel_rfl) ?_
 refine Qg9 (Qav _) (MixR w.heap.size fs) (QcH _ _) 71 (fun ρ W hR hX => ?_) ?_
 ·skip
  have e30_ : ρ 30 = .agg (ints .u8 (key)) := hX.2.1
  have q35_ : (OwnN .u8 5 w.heap.size (nonV num)) (ρ 35) W := hX.2.2.1
  obtain ⟨ar35, cr35, e35_, -⟩ := id (OwnN.rd q35_)
  have rd35_ := OwnN.rd q35_
  rw [e35_] at rd35_
  have e36_ : ρ 36 = .slice a_c ctx.length c_c := hX.2.2.2.1
  have e37_ : ρ 37 = .slice a_t text.length c_t := hX.2.2.2.2.1
  have e26_ : ρ 26 = .func (.func 71) #[] #[] := hX.1
  refine ⟨#[.agg (ints .u8 (key)), .slice ar35 ((nonV num).length) cr35, .slice a_c ctx.length c_c, .slice a_t text.length c_t], QhW (ρ' := fun t => if t = 26 then ρ 26 else if t = 30 then ρ 30 else if t = 35 then ρ 35 else if t = 36 then ρ 36 else if t = 37 then ρ 37 else ρ t) kj ?_, ?_⟩
  ·rw [e26_, e30_, e35_, e36_, e37_]; kernel_rfl
  exact ((Qkm key (nonV num) ctx text _ _ _ _ _ _ th tq W (Qad (Qad hh (Qak _)) hR) (Qad (Qad hq (Qak _)) hR) hkl rd35_ (RdK.ext (RdK.ext hx (Rely.Ext.refl w)) (Rely.Ext.trans (Qak _) hR)) (RdK.ext (RdK.ext ht (Rely.Ext.refl w)) (Rely.Ext.trans (Qak _) hR)) hxb (Qgx _) hxl htl).mono fun e W2 hg => by obtain ⟨v2, e1, e2, u, e3, e4⟩ := hg; rw [es] at e4; exact ⟨v2, e1, e2, u, e3, e4.base (Rely.Ext.trans (Qak _) hR).size⟩)
 refine Qd3 (Qav _) (MixR w.heap.size fs) (QcH _ _) (fun ρ W hR hh => ⟨ρ 38, W, by kernel_rfl, Rely.Ext.refl _, (show (MixR w.heap.size fs) (ρ 38) W from hh.1)⟩) ?_
 refine Qd3 (Qav _) (OwnN .u8 5 w.heap.size fs) (OwnN.stable _ _ _ _) (fun ρ W hR hh => ?_) ?_
 ·obtain ⟨u, e, h⟩ := (show (MixR w.heap.size fs) (ρ 25) W from hh.1)
  exact ⟨_, W, Qct (.tmp 25) 0 #[u, .nilIface] _ rfl e rfl, Rely.Ext.refl _, h⟩
 refine Qd3 (Qav _) (fun v W => v = .nilIface) (fun _ _ _ _ h => h) (fun ρ W hR hh => ?_) ?_
 ·obtain ⟨u, e, h⟩ := (show (MixR w.heap.size fs) (ρ 25) W from hh.1)
  exact ⟨_, W, Qct (.tmp 25) 1 #[u, .nilIface] _ rfl e rfl, Rely.Ext.refl _, rfl⟩
 refine Qd3 (Qav _) (OwnN .u8 5 w.heap.size fs) (OwnN.stable _ _ _ _) (fun ρ W hR hh => ⟨ρ 39, W, by kernel_rfl, Rely.Ext.refl _, (show (OwnN .u8 5 w.heap.size fs) (ρ 39) W from hh.1)⟩) ?_
 refine QcU (hF _ fun W1 e1 => ?_)
 simp only [List.nil_append, List.cons_append, List.take_succ_cons, List.take_zero, List.drop_succ_cons, List.drop_zero, finE, up]
 intro vv10 hv10 vv11 hv11 vv12 hv12 vv13 hv13 vv14 hv14 vv15 hv15
 clear hF
 have x1 : Ext w W1 := Ext.tr (Rely.Ext.refl w) e1
 obtain ⟨a16_, c16_, rfl, -⟩ := id (OwnN.rd hv10)
 obtain ⟨a17_, c17_, rfl, -⟩ := id (OwnN.rd hv13)
 subst hv14
 obtain ⟨a18_, c18_, rfl, -⟩ := id (OwnN.rd hv15)
 refine Qaa (.nilIface) 11 rfl kj kj ?_
 refine Qac ?_
 refine hK9 _ _ ?_
 refine wp_seq_k fun K19 hK19 => ?_
 refine wp_seq_k fun K20 hK20 => ?_
 refine Qab ?_
 refine Qaa (.nilIface) 41 rfl kj kj ?_
 refine Qaa (.bool false) 42 rfl kj kj ?_
 refine Qac ?_
 refine hK20 _ _ ?_
 refine cond_false kj ?_
 refine wp_skip ?_
 refine hK19 _ _ ?_
 refine wp_seq_k fun K21 hK21 => ?_
 refine Qab ?_
 refine Qaa (.pointer (some ⟨g, 0, none⟩)) 44 rfl kj kj ?_
 refine Qaa (.pointer (some ⟨g, 0, none⟩)) 45 rfl kj kj ?_
 refine Qaa (.pointer (some ⟨g, 33, none⟩)) 46 rfl kj kj ?_
 have r3_1 := (Qad hg e1)
 refine Qaa (.int .i64 ((num : Nat) : Int)) 47 rfl kj (Qag 3 _ g 33 123 _ (.int .i64 ((num : Nat) : Int)) _ r3_1 rfl kj (QaE [ints .u8 (key), #[.bool true]] [#[.int .i64 ((num : Nat) : Int)]] [ints .u8 (chain), ints .u8 (hash)] 33 (by rw [Qan, Qan]; simp only [Array.size_append, cat, ((Qaf _ _).trans hkl)]; rfl) 0 _ rfl) kj) ?_
 refine Qaa (.int .i64 ((num + 1 : Nat) : Int)) 48 rfl kj (Qal (u := .int .i64 (IntKind.i64.wrap (((num : Nat) : Int) + 1))) kj (congrArg (Value.int .i64) (i64n _ _ (by omega) (by omega)))) ?_
 refine Qaa (.pointer (some ⟨g, 0, none⟩)) 49 rfl kj kj ?_
 refine Qaa (.pointer (some ⟨g, 33, none⟩)) 50 rfl kj kj ?_
 have xb1 : ExtB g w W1 := ExtB.ext (ExtB.refl g w) x1
 refine Qah g _ (cat [ints .u8 (key), #[.bool true], #[.int .i64 ((num + 1 : Nat) : Int)], ints .u8 (chain), ints .u8 (hash)]) 123 r3_1 rfl kj (run_storeQ 3 _ _ g 33 123 [ints .u8 (key), #[.bool true]] [ints .u8 (chain), ints .u8 (hash)] _ (.int .i64 ((num + 1 : Nat) : Int)) r3_1 rfl kj kj kj (by rw [Qan, Qan]; simp only [Array.size_append, cat, ((Qaf _ _).trans hkl)]; rfl) rfl rfl) fun W2 p2 r3_2 => ?_
 have x2 : ExtB g w W2 := ExtB.puts xb1 p2
 refine Qac ?_
 refine hK21 _ _ ?_
 refine wp_seq_k fun K22 hK22 => ?_
 refine Qab ?_
 refine Qaa (.slice a18_ ((fs).length) c18_) 51 rfl kj kj ?_
 refine Qaa (.slice a18_ ((fs).length) c18_) 8 rfl kj kj ?_
 refine Qaa (.nilIface) 9 rfl kj kj ?_
 refine Qac ?_
 refine hK22 _ _ ?_
 refine wp_ret ?_
 repeat (first | with_reducible refine goR1 ?_ | with_reducible refine goR2 ?_)
 have f23_2 := (hv15.puts p2 (QdP hv15 (Qa8 hg)))
 exact (show bodyPost _ _ _ .ret _ _ from ret2 (.slice a18_ ((fs).length) c18_) (.nilIface) rfl (Qa9 kj) (Qa9 kj) ⟨_, rfl, OwnN.base (Rely.Ext.refl w).size f23_2, x2, r3_2⟩)
set_option maxRecDepth 100000 in
set_option maxHeartbeats 4000000 in
theorem QjF (g : Nat) (key chain hash : List Int) (num : Nat) (ctx text fs : List Int) (es : Qcx key (nonV num) ctx text = fs) (v2 v3 : Value) (B2 B3 : Nat) (th tq : TypeId) (w : World) (hkl : key.length = 32) (hcl : chain.length = 32) (hhl : hash.length = 32) (hh : w.heap[2]? = some (.cells (ints .u32 [1634760805, 857760878, 2036477234, 1797285236]) th)) (hq : w.heap[3]? = some (.cells (ints .i64 [0, 4, 8, 12, 1, 5, 9, 13, 2, 6, 10, 14, 3, 7, 11, 15, 0, 5, 10, 15, 1, 6, 11, 12, 2, 7, 8, 13, 3, 4, 9, 14]) tq)) (hg : w.heap[g]? = some (.cells (cat [ints .u8 (key), #[.bool true], #[.int .i64 ((num : Nat) : Int)], ints .u8 (chain), ints .u8 (hash)]) 123)) (hn : num < 4294967295) (hxb : Qaj ctx) (htb : Qaj text) (hxl : ctx.length ≤ 1048576) (htl : text.length ≤ 1048576) (hx : RdK .u8 B2 ctx v2 w) (ht : RdK .u8 B3 fs v3 w) :
  Calls Tryd.prog 70 #[.pointer (some ⟨g, 0, none⟩), .func (.func 74) #[] #[], v2, v3] w (fun e W => ∃ u, e = .returned (.tuple #[u, .nilIface]) ∧ OwnN .u8 5 w.heap.size (text) u W ∧ ExtB g w W ∧ W.heap[g]? = some (.cells (cat [ints .u8 (key), #[.bool true], #[.int .i64 ((num + 1 : Nat) : Int)], ints .u8 (chain), ints .u8 (hash)]) 123)) := by
 obtain ⟨a_c, c_c, rfl, -⟩ := id hx
 obtain ⟨a_t, c_t, rfl, -⟩ := id ht
 refine enter 52 [(0, .pointer (some ⟨g, 0, none⟩)), (1, .func (.func 74) #[] #[]), (2, .slice a_c ctx.length c_c), (3, .slice a_t fs.length c_t)] Tryd.func70 rfl rfl kj rfl ?_
 refine wp_seq_k fun K4 hK4 => ?_
 refine Qab ?_
 refine Qaa (.slice none 0 0) 8 rfl kj kj ?_
 refine Qaa (.nilIface) 9 rfl kj kj ?_
 refine Qac ?_
 refine hK4 _ _ ?_
 refine wp_seq_k fun K5 hK5 => ?_
 refine wp_seq_k fun K6 hK6 => ?_
 refine Qab ?_
 refine Qaa (.pointer (some ⟨g, 0, none⟩)) 12 rfl kj kj ?_
 refine Qaa (.pointer (some ⟨g, 0, none⟩)) 13 rfl kj kj ?_
 refine Qaa (.pointer (some ⟨g, 32, none⟩)) 14 rfl kj kj ?_
 refine Qaa (.bool true) 15 rfl kj (Qag 4 _ g 32 123 _ (.bool true) _ hg rfl kj (QaE [ints .u8 (key)] [#[.bool true]] [#[.int .i64 ((num : Nat) : Int)], ints .u8 (chain), ints .u8 (hash)] 32 ((Qaf _ _).trans hkl) 0 _ rfl) kj) ?_
 refine Qaa (.bool false) 16 rfl kj kj ?_
 refine Qac ?_
 refine hK6 _ _ ?_
 refine cond_false kj ?_
 refine wp_skip ?_
 refine hK5 _ _ ?_
 refine wp_seq_k fun K7 hK7 => ?_
 refine wp_seq_k fun K8 hK8 => ?_
 refine Qab ?_
 refine Qaa (.pointer (some ⟨g, 0, none⟩)) 19 rfl kj kj ?_
 refine Qaa (.pointer (some ⟨g, 0, none⟩)) 20 rfl kj kj ?_
 refine Qaa (.pointer (some ⟨g, 33, none⟩)) 21 rfl kj kj ?_
 refine Qaa (.int .i64 ((num : Nat) : Int)) 22 rfl kj (Qag 3 _ g 33 123 _ (.int .i64 ((num : Nat) : Int)) _ hg rfl kj (QaE [ints .u8 (key), #[.bool true]] [#[.int .i64 ((num : Nat) : Int)]] [ints .u8 (chain), ints .u8 (hash)] 33 (by rw [Qan, Qan]; simp only [Array.size_append, cat, ((Qaf _ _).trans hkl)]; rfl) 0 _ rfl) kj) ?_
 refine Qaa (.bool false) 23 rfl kj (Qal (u := .bool ((((num : Nat) : Int) == 4294967295))) kj (congrArg Value.bool (beq_eq_false_iff_ne.2 (by omega)))) ?_
 refine Qac ?_
 refine hK8 _ _ ?_
 refine cond_false kj ?_
 refine wp_skip ?_
 refine hK7 _ _ ?_
 refine wp_seq_k fun K9 hK9 => ?_
 refine QaY 17 [⟨none, [(1, none)]⟩, ⟨none, [(0, none)]⟩, ⟨none, [(27, some 1)]⟩, ⟨none, [(28, some 2)]⟩, ⟨none, [(29, some 3)]⟩, ⟨none, [(0, none)]⟩, ⟨none, [(31, some 5)]⟩, ⟨none, [(32, some 6)]⟩, ⟨none, [(33, some 7)]⟩, ⟨none, [(34, some 8)]⟩, ⟨none, [(2, none)]⟩, ⟨none, [(3, none)]⟩, ⟨none, [(26, some 0), (30, some 4), (35, some 9), (36, some 10), (37, some 11)]⟩, ⟨none, [(38, some 12)]⟩, ⟨none, [(25, some 13)]⟩, ⟨none, [(25, some 13)]⟩, ⟨none, [(39, some 14)]⟩] kj kj fun F hF => ?_
 refine QaB (Qav _) (.func (.func 74) #[] #[]) kj kj (fun W => by kernel_rfl) ?_
 refine QaB (Qav _) (.pointer (some ⟨g, 0, none⟩)) kj kj (fun W => by kernel_rfl) ?_
 refine QaB (Qav _) (.pointer (some ⟨g, 0, none⟩)) kj kj (fun W => by kernel_rfl) ?_
 refine QaB (Qav _) (.pointer (some ⟨g, 0, none⟩)) kj kj (fun W => by kernel_rfl) ?_
 refine QbG (Qav _) (.agg (ints .u8 (key))) kj kj (fun W hR => (QaF 23 _ g 0 123 _ _ _ (Qad (Qad hg (Qak _)) hR) rfl kj (QaE [] [ints .u8 (key)] [#[.bool true], #[.int .i64 ((num : Nat) : Int)], ints .u8 (chain), ints .u8 (hash)] 0 kj) kj (isz (n := 32) kj ((Qaf _ _).trans hkl)))) ?_
 refine QaB (Qav _) (.pointer (some ⟨g, 0, none⟩)) kj kj (fun W => by kernel_rfl) ?_
 refine QaB (Qav _) (.pointer (some ⟨g, 0, none⟩)) kj kj (fun W => by kernel_rfl) ?_
 refine QaB (Qav _) (.pointer (some ⟨g, 33, none⟩)) kj kj (fun W => by kernel_rfl) ?_
 refine QbG (Qav _) (.int .i64 ((num : Nat) : Int)) kj kj (fun W hR => (Qag 3 _ g 33 123 _ (.int .i64 ((num : Nat) : Int)) _ (Qad (Qad hg (Qak _)) hR) rfl kj (QaE [ints .u8 (key), #[.bool true]] [#[.int .i64 ((num : Nat) : Int)]] [ints .u8 (chain), ints .u8 (hash)] 33 (by rw [Qan, Qan]; simp only [Array.size_append, cat, ((Qaf _ _).trans hkl)]; rfl) 0 _ rfl) kj)) ?_
 refine Qew (Qav _) (OwnN .u8 5 w.heap.size (nonV num)) (OwnN.stable _ _ _ _) 86 #[.int .i64 ((num : Nat) : Int)] kj kj (fun W => by kernel_rfl) (fun W hR => (QiS w.heap.size num _ (Rely.Ext.trans (Qak _) hR).size)) ?_
 refine QaB (Qav _) (.slice a_c ctx.length c_c) kj kj (fun W => by kernel_rfl) ?_
 refine QaB (Qav _) (.slice a_t fs.length c_t) kj kj (fun W => by kernel_rfl) ?_
 refine Qg9 (Qav _) (MixR w.heap.size text) (QcH _ _) 74 (fun ρ W hR hX => ?_) ?_
 ·skip
  have e30_ : ρ 30 = .agg (ints .u8 (key)) := hX.2.1
  have q35_ : (OwnN .u8 5 w.heap.size (nonV num)) (ρ 35) W := hX.2.2.1
  obtain ⟨ar35, cr35, e35_, -⟩ := id (OwnN.rd q35_)
  have rd35_ := OwnN.rd q35_
  rw [e35_] at rd35_
  have e36_ : ρ 36 = .slice a_c ctx.length c_c := hX.2.2.2.1
  have e37_ : ρ 37 = .slice a_t fs.length c_t := hX.2.2.2.2.1
  have e26_ : ρ 26 = .func (.func 74) #[] #[] := hX.1
  refine ⟨#[.agg (ints .u8 (key)), .slice ar35 ((nonV num).length) cr35, .slice a_c ctx.length c_c, .slice a_t fs.length c_t], QhW (ρ' := fun t => if t = 26 then ρ 26 else if t = 30 then ρ 30 else if t = 35 then ρ 35 else if t = 36 then ρ 36 else if t = 37 then ρ 37 else ρ t) kj ?_, ?_⟩
  ·rw [e26_, e30_, e35_, e36_, e37_]; kernel_rfl
  exact ((Qj9 key (nonV num) ctx text fs es _ _ _ _ _ _ th tq W (Qad (Qad hh (Qak _)) hR) (Qad (Qad hq (Qak _)) hR) hkl rd35_ (RdK.ext (RdK.ext hx (Rely.Ext.refl w)) (Rely.Ext.trans (Qak _) hR)) (RdK.ext (RdK.ext ht (Rely.Ext.refl w)) (Rely.Ext.trans (Qak _) hR)) hxb htb (Qgx _) hxl htl).mono fun e W2 hg => by obtain ⟨v2, e1, e2, u, e3, e4⟩ := hg; exact ⟨v2, e1, e2, u, e3, e4.base (Rely.Ext.trans (Qak _) hR).size⟩)
 refine Qd3 (Qav _) (MixR w.heap.size text) (QcH _ _) (fun ρ W hR hh => ⟨ρ 38, W, by kernel_rfl, Rely.Ext.refl _, (show (MixR w.heap.size text) (ρ 38) W from hh.1)⟩) ?_
 refine Qd3 (Qav _) (OwnN .u8 5 w.heap.size text) (OwnN.stable _ _ _ _) (fun ρ W hR hh => ?_) ?_
 ·obtain ⟨u, e, h⟩ := (show (MixR w.heap.size text) (ρ 25) W from hh.1)
  exact ⟨_, W, Qct (.tmp 25) 0 #[u, .nilIface] _ rfl e rfl, Rely.Ext.refl _, h⟩
 refine Qd3 (Qav _) (fun v W => v = .nilIface) (fun _ _ _ _ h => h) (fun ρ W hR hh => ?_) ?_
 ·obtain ⟨u, e, h⟩ := (show (MixR w.heap.size text) (ρ 25) W from hh.1)
  exact ⟨_, W, Qct (.tmp 25) 1 #[u, .nilIface] _ rfl e rfl, Rely.Ext.refl _, rfl⟩
 refine Qd3 (Qav _) (OwnN .u8 5 w.heap.size text) (OwnN.stable _ _ _ _) (fun ρ W hR hh => ⟨ρ 39, W, by kernel_rfl, Rely.Ext.refl _, (show (OwnN .u8 5 w.heap.size text) (ρ 39) W from hh.1)⟩) ?_
 refine QcU (hF _ fun W1 e1 => ?_)
 simp only [List.nil_append, List.cons_append, List.take_succ_cons, List.take_zero, List.drop_succ_cons, List.drop_zero, finE, up]
 intro vv10 hv10 vv11 hv11 vv12 hv12 vv13 hv13 vv14 hv14 vv15 hv15
 clear hF
 have x1 : Ext w W1 := Ext.tr (Rely.Ext.refl w) e1
 obtain ⟨a16_, c16_, rfl, -⟩ := id (OwnN.rd hv10)
 obtain ⟨a17_, c17_, rfl, -⟩ := id (OwnN.rd hv13)
 subst hv14
 obtain ⟨a18_, c18_, rfl, -⟩ := id (OwnN.rd hv15)
 refine Qaa (.nilIface) 11 rfl kj kj ?_
 refine Qac ?_
 refine hK9 _ _ ?_
 refine wp_seq_k fun K19 hK19 => ?_
 refine wp_seq_k fun K20 hK20 => ?_
 refine Qab ?_
 refine Qaa (.nilIface) 41 rfl kj kj ?_
 refine Qaa (.bool false) 42 rfl kj kj ?_
 refine Qac ?_
 refine hK20 _ _ ?_
 refine cond_false kj ?_
 refine wp_skip ?_
 refine hK19 _ _ ?_
 refine wp_seq_k fun K21 hK21 => ?_
 refine Qab ?_
 refine Qaa (.pointer (some ⟨g, 0, none⟩)) 44 rfl kj kj ?_
 refine Qaa (.pointer (some ⟨g, 0, none⟩)) 45 rfl kj kj ?_
 refine Qaa (.pointer (some ⟨g, 33, none⟩)) 46 rfl kj kj ?_
 have r3_1 := (Qad hg e1)
 refine Qaa (.int .i64 ((num : Nat) : Int)) 47 rfl kj (Qag 3 _ g 33 123 _ (.int .i64 ((num : Nat) : Int)) _ r3_1 rfl kj (QaE [ints .u8 (key), #[.bool true]] [#[.int .i64 ((num : Nat) : Int)]] [ints .u8 (chain), ints .u8 (hash)] 33 (by rw [Qan, Qan]; simp only [Array.size_append, cat, ((Qaf _ _).trans hkl)]; rfl) 0 _ rfl) kj) ?_
 refine Qaa (.int .i64 ((num + 1 : Nat) : Int)) 48 rfl kj (Qal (u := .int .i64 (IntKind.i64.wrap (((num : Nat) : Int) + 1))) kj (congrArg (Value.int .i64) (i64n _ _ (by omega) (by omega)))) ?_
 refine Qaa (.pointer (some ⟨g, 0, none⟩)) 49 rfl kj kj ?_
 refine Qaa (.pointer (some ⟨g, 33, none⟩)) 50 rfl kj kj ?_
 have xb1 : ExtB g w W1 := ExtB.ext (ExtB.refl g w) x1
 refine Qah g _ (cat [ints .u8 (key), #[.bool true], #[.int .i64 ((num + 1 : Nat) : Int)], ints .u8 (chain), ints .u8 (hash)]) 123 r3_1 rfl kj (run_storeQ 3 _ _ g 33 123 [ints .u8 (key), #[.bool true]] [ints .u8 (chain), ints .u8 (hash)] _ (.int .i64 ((num + 1 : Nat) : Int)) r3_1 rfl kj kj kj (by rw [Qan, Qan]; simp only [Array.size_append, cat, ((Qaf _ _).trans hkl)]; rfl) rfl rfl) fun W2 p2 r3_2 => ?_
 have x2 : ExtB g w W2 := ExtB.puts xb1 p2
 refine Qac ?_
 refine hK21 _ _ ?_
 refine wp_seq_k fun K22 hK22 => ?_
 refine Qab ?_
 refine Qaa (.slice a18_ ((text).length) c18_) 51 rfl kj kj ?_
 refine Qaa (.slice a18_ ((text).length) c18_) 8 rfl kj kj ?_
 refine Qaa (.nilIface) 9 rfl kj kj ?_
 refine Qac ?_
 refine hK22 _ _ ?_
 refine wp_ret ?_
 repeat (first | with_reducible refine goR1 ?_ | with_reducible refine goR2 ?_)
 have f23_2 := (hv15.puts p2 (QdP hv15 (Qa8 hg)))
 exact (show bodyPost _ _ _ .ret _ _ from ret2 (.slice a18_ ((text).length) c18_) (.nilIface) rfl (Qa9 kj) (Qa9 kj) ⟨_, rfl, OwnN.base (Rely.Ext.refl w).size f23_2, x2, r3_2⟩)
end Go.Proofs.YtoiendjhplbjjaaDoor.Ci
end
section
namespace Go.Proofs.YtoiendjhplbjjaaDoor.Wk
open Go Go.RowKit
open Rely Auto Own Sha
set_option linter.unusedVariables false
set_option linter.unusedSimpArgs false
structure WA (P : Program) (ops : Array Oper) (Q : Exit → Act → World → Prop) (fuel : Nat) (listed : Array Bool) (a : Act) (w : World) : Prop where
  out : wpAny P .any ops Q fuel listed a w
section
variable {P : Program} {ops : Array Oper} {Q : Exit → Act → World → Prop} {o : Oper} {N : Nat} {L : Env} {w : World} {ds : List Deferred} {fuel : Nat} {listed : Array Bool}
theorem QcE {id : Nat} {l : List Oper} (hm : P.follows .mixedOrders = true) (h : ∀ W, Ext w W → WA P l.toArray Q l.length (Array.replicate l.length false) (Qaz ds N L) W) : (Code.region id l.toArray true).wp P Q (Qaz ds N L) w := by
  refine wp_region_any hm ?_
  have := (h w.drew (Qak w)).out
  simpa using this
theorem QaP (k : Nat) (v : Value) (d : Nat) (ho : ops[k]? = some o) (hd : o.dst = some d) (hg : QbJ ops o N L = some true) (hc : (Region.noSelect ops && Region.free .any ops listed k && (Region.ready .any ops listed).contains k) = true)
    (hQ : ∀ c a w, Q (.panic c) (a.put o.dst v) w → Q (.panic c) a w) (h : ∀ W, (execOp (Rely.look (envN N L)) o).run P W = .ok (.value v) W) (kk : WA P ops Q fuel (listed.setIfInBounds k true) (Qaz ds N ((d, v) :: L)) w) : WA P ops Q (fuel + 1) listed (Qaz ds N L) w := by
  simp only [Bool.and_eq_true] at hc
  refine ⟨wpAny_take ho hc.1.1 hc.1.2 hc.2 hQ (.inl ⟨QcP hg, fun W => ?_⟩) ?_⟩
  · rw [Qbz]; exact h W
  · rw [hd, Qbn]; exact kk.out
theorem Qea (k : Nat) (ho : ops[k]? = some o) (hr : Region.ready .any ops listed = [k]) (R : Value → World → Prop) (f : FuncId) (args : Array Value) (d : Nat) (hd : o.dst = some d) (hg : QbJ ops o N L = some true)
    (h : (execOp (Rely.look (envN N L)) o).run P w = .ok (.enter f args) w) (hc : Calls P f args w fun e w' => ∃ v, e = .returned v ∧ R v w') (kk : ∀ (v : Value) (W : World), R v W → WA P ops Q fuel (listed.setIfInBounds k true) (Qaz ds N ((d, v) :: L)) W) : WA P ops Q (fuel + 1) listed (Qaz ds N L) w := by
  refine ⟨wpAny_all hr (by simp) fun i hi => ?_⟩
  obtain rfl : i = k := by simpa using hi
  unfold wpOp
  rw [ho]
  simp only [QcP hg, if_true]
  refine .inl ?_
  unfold Oper.wp
  rw [Qbz, h]
  refine hc.mono ?_
  rintro e w' ⟨v, rfl, hw⟩
  show wpAny _ _ _ _ _ _ _ _
  rw [hd, Qbn]
  exact (kk v w' hw).out
theorem Qgl (hr : Region.ready .any ops listed = []) (h : Q .normal (Qaz ds N L) w) : WA P ops Q fuel listed (Qaz ds N L) w := ⟨wpAny_done hr h fuel⟩
end
end Go.Proofs.YtoiendjhplbjjaaDoor.Wk
end
section
namespace Go.Proofs.YtoiendjhplbjjaaDoor.Ci
open Go Go.RowKit
open Rely Auto Own Sha Sha
set_option linter.unusedVariables false
set_option linter.unusedSimpArgs false
open Cha
open Ae hiding run_storeQ
open Ll hiding newC run_storeQ
open Wk
set_option maxRecDepth 100000 in
set_option maxHeartbeats 4000000 in
theorem Qkc (g : Nat) (key chain hash : List Int) (num : Nat) (text fs : List Int) (es : Qcx key (nonV num) hash text = fs) (v : Value) (B : Nat) (th tq tsc tsq : TypeId) (w : World) (hkl : key.length = 32) (hcl : chain.length = 32) (hhl : hash.length = 32) (hhb : Qaj hash) (hh : w.heap[2]? = some (.cells (ints .u32 [1634760805, 857760878, 2036477234, 1797285236]) th)) (hq : w.heap[3]? = some (.cells (ints .i64 [0, 4, 8, 12, 1, 5, 9, 13, 2, 6, 10, 14, 3, 7, 11, 15, 0, 5, 10, 15, 1, 6, 11, 12, 2, 7, 8, 13, 3, 4, 9, 14]) tq)) (hsc : w.heap[1]? = some (.cells (ints .u64 Qbi) tsc)) (hsq : w.heap[0]? = some (.cells (ints .u64 Qat) tsq)) (hnh : 2 ≠ g) (hnq : 3 ≠ g) (hnc : 1 ≠ g) (hns : 0 ≠ g) (hg : w.heap[g]? = some (.cells (cat [ints .u8 (key), #[.bool true], #[.int .i64 ((num : Nat) : Int)], ints .u8 (chain), ints .u8 (hash)]) 123)) (hn : num < 4294967295) (hfb : Qaj fs) (lfs : fs.length = text.length + 16) (htl : text.length ≤ 1048576) (ht : RdK .u8 B text v w) :
    Calls Tryd.prog 33 #[.pointer (some ⟨g, 0, none⟩), v] w (fun e W => ∃ u, e = .returned (.tuple #[u, .nilIface]) ∧ OwnN .u8 5 w.heap.size (fs) u W ∧ ExtB g w W ∧ W.heap[g]? = some (.cells (cat [ints .u8 (key), #[.bool true], #[.int .i64 ((num + 1 : Nat) : Int)], ints .u8 (chain), ints .u8 (dig (hash ++ fs))]) 123)) := by
  obtain ⟨a_t, c_t, rfl, -⟩ := id (ht)
  refine enter 31 [(0, .pointer (some ⟨g, 0, none⟩)), (1, .slice a_t text.length c_t)] Tryd.func33 rfl rfl kj rfl ?_
  refine wp_seq_k fun K6 hK6 => ?_
  refine Qab ?_
  refine Qaa (.slice none 0 0) 4 rfl kj kj ?_
  refine Qaa (.nilIface) 5 rfl kj kj ?_
  refine Qac ?_
  refine hK6 _ _ ?_
  refine wp_seq_k fun K7 hK7 => ?_
  refine wp_seq_k fun K8 hK8 => ?_
  refine Qab ?_
  refine Qaa (.pointer (some ⟨g, 0, none⟩)) 8 rfl kj kj ?_
  refine Qaa (.bool false) 9 rfl kj kj ?_
  refine Qac ?_
  refine hK8 _ _ ?_
  refine cond_false kj ?_
  refine wp_skip ?_
  refine hK7 _ _ ?_
  refine wp_seq_k fun K9 hK9 => ?_
  refine QcE kj fun W1 e1 => ?_
  have x1 : Ext w W1 := Ext.tr (Rely.Ext.refl w) e1
  refine QaP 0 (.pointer (some ⟨g, 0, none⟩)) 12 rfl rfl kj kj (fun _ _ _ h => h) (fun W => by kernel_rfl) ?_
  refine QaP 1 (.pointer (some ⟨g, 0, none⟩)) 13 rfl rfl kj kj (fun _ _ _ h => h) (fun W => by kernel_rfl) ?_
  refine QaP 2 (.pointer (some ⟨g, 0, none⟩)) 14 rfl rfl kj kj (fun _ _ _ h => h) (fun W => by kernel_rfl) ?_
  refine QaP 3 (.pointer (some ⟨g, 0, none⟩)) 15 rfl rfl kj kj (fun _ _ _ h => h) (fun W => by kernel_rfl) ?_
  refine QaP 4 (.pointer (some ⟨g, 0, none⟩)) 16 rfl rfl kj kj (fun _ _ _ h => h) (fun W => by kernel_rfl) ?_
  refine QaP 5 (.pointer (some ⟨g, 66, none⟩)) 17 rfl rfl kj kj (fun _ _ _ h => h) (fun W => by kernel_rfl) ?_
  refine QaP 6 (.slice (some ⟨g, 66, none⟩) 32 32) 18 rfl rfl kj kj (fun _ _ _ h => h) (fun W => by kernel_rfl) ?_
  refine QaP 7 (.slice a_t text.length c_t) 19 rfl rfl kj kj (fun _ _ _ h => h) (fun W => by kernel_rfl) ?_
  have r1_1 := (Qad hg e1)
  have r3_1 := (Qad hh e1)
  have r2_1 := (Qad hq e1)
  have xb1 : ExtB g w W1 := ExtB.ext (ExtB.refl g w) x1
  refine Qea 8 rfl kj (fun v W' => ∃ u, v = .tuple #[u, .nilIface] ∧ OwnN .u8 5 W1.heap.size (fs) u W' ∧ ExtB g W1 W' ∧ W'.heap[g]? = some (.cells (cat [ints .u8 (key), #[.bool true], #[.int .i64 ((num + 1 : Nat) : Int)], ints .u8 (chain), ints .u8 (hash)]) 123)) 70 #[.pointer (some ⟨g, 0, none⟩), .func (.func 71) #[] #[], .slice (some ⟨g, 66, none⟩) 32 32, .slice a_t text.length c_t] 20 rfl kj kj ((QjE g key chain hash num hash text fs es _ _ _ _ th tq _ hkl hcl hhl r3_1 r2_1 r1_1 hn hhb (by rw [hhl]; decide) htl (Qdm 66 hhl r1_1 (fun i hi => QbF [ints .u8 (key), #[.bool true], #[.int .i64 ((num : Nat) : Int)], ints .u8 (chain)] [] hash 66 i (66 + i) (by rw [Qan, Qan, Qan, Qan]; simp only [Array.size_append, cat, ((Qaf _ _).trans hcl), ((Qaf _ _).trans hkl)]; rfl) rfl (by rw [hhl]; exact hi)) (Qa8 r1_1) (Nat.le_refl _) (by decide)) (RdK.ext ht x1)).mono (by rintro e w' ⟨u, rfl, h1, h2, h3⟩; exact ⟨_, rfl, u, rfl, h1, h2, h3⟩)) fun v W2 h10 => ?_
  obtain ⟨u10_, rfl, hu10_, q2, r1_2⟩ := h10
  have x2 : ExtB g w W2 := ExtB.trans xb1 q2
  obtain ⟨a10_, c10_, rfl, -⟩ := id (OwnN.rd hu10_)
  refine QaP 9 (.tuple #[.slice a10_ ((fs).length) c10_, .nilIface]) 11 rfl rfl kj kj (fun _ _ _ h => h) (fun W => by kernel_rfl) ?_
  refine QaP 10 (.slice a10_ ((fs).length) c10_) 21 rfl rfl kj kj (fun _ _ _ h => h) (fun W => by kernel_rfl) ?_
  refine QaP 11 (.nilIface) 22 rfl rfl kj kj (fun _ _ _ h => h) (fun W => by kernel_rfl) ?_
  refine QaP 12 (.slice a10_ ((fs).length) c10_) 6 rfl rfl kj kj (fun _ _ _ h => h) (fun W => by kernel_rfl) ?_
  refine QaP 13 (.nilIface) 7 rfl rfl kj kj (fun _ _ _ h => h) (fun W => by kernel_rfl) ?_
  refine Qgl kj ?_
  refine hK9 _ _ ?_
  refine wp_seq_k fun K11 hK11 => ?_
  refine wp_seq_k fun K12 hK12 => ?_
  refine Qab ?_
  refine Qaa (.nilIface) 23 rfl kj kj ?_
  refine Qaa (.bool false) 24 rfl kj kj ?_
  refine Qac ?_
  refine hK12 _ _ ?_
  refine cond_false kj ?_
  refine wp_skip ?_
  refine hK11 _ _ ?_
  refine wp_seq_k fun K13 hK13 => ?_
  refine Qab ?_
  refine Qaa (.pointer (some ⟨g, 0, none⟩)) 26 rfl kj kj ?_
  refine Qaa (.slice a10_ ((fs).length) c10_) 27 rfl kj kj ?_
  refine QaZ (#[.slice a10_ ((fs).length) c10_]) 33 1 28 rfl kj kj fun g14 W3 l14 e3 r14_3 => ?_
  have x3 : ExtB g w W3 := ExtB.ext x2 e3
  have b14 : w.heap.size ≤ g14 := Nat.le_trans x2.2.2.2.1 l14
  have f15_3 := (hu10_.ext e3)
  have hps16 : ∀ p ∈ ([(.slice a10_ ((fs).length) c10_, fs)] : List (Value × List Int)), RdK .u8 W3.heap.size p.2 p.1 W3 ∧ Qaj p.2 := by
    intro p hp
    simp only [List.mem_cons, List.not_mem_nil, or_false] at hp
    rcases hp with rfl
    · exact ⟨RdK.here (OwnN.rd f15_3), hfb⟩
  have r4_1 := (Qad hsc e1)
  have r4_2 := (ExtB.row q2 r4_1 hnc)
  have r4_3 := (Qad r4_2 e3)
  have r5_1 := (Qad hsq e1)
  have r5_2 := (ExtB.row q2 r5_1 hns)
  have r5_3 := (Qad r5_2 e3)
  have r1_3 := (Qad r1_2 e3)
  have hmx16 := Qdd g (key) (chain) (hash) true ((num + 1 : Nat) : Int) g14 1 _ ([(.slice a10_ ((fs).length) c10_, fs)] : List (Value × List Int)) rfl (by decide) tsc tsq W3 hkl hcl hhl hhb r4_3 r5_3 r1_3 r14_3 hps16 (by simp only [List.map_cons, List.map_nil, List.flatten_cons, List.flatten_nil, List.append_nil, List.length_append, lfs]; omega)
  rw [show ((List.map Prod.snd ([(.slice a10_ ((fs).length) c10_, fs)] : List (Value × List Int))).flatten) = fs by simp only [List.map_cons, List.map_nil, List.flatten_cons, List.flatten_nil, List.append_nil]] at hmx16
  refine Qa0 (fun v W' => v = .tuple #[] ∧ ExtB g W3 W' ∧ W'.heap[g]? = some (.cells (cat [ints .u8 (key), #[.bool true], #[.int .i64 ((num + 1 : Nat) : Int)], ints .u8 (chain), ints .u8 (dig (hash ++ fs))]) 123)) 31 #[.pointer (some ⟨g, 0, none⟩), .slice (some ⟨g14, 0, none⟩) 1 1] 29 rfl kj kj (hmx16.mono fun e w' h => ⟨_, h.1, rfl, h.2⟩) fun v W4 h16 => ?_
  obtain ⟨rfl, q4, r1_4⟩ := h16
  have x4 : ExtB g w W4 := ExtB.trans x3 q4
  refine Qac ?_
  refine hK13 _ _ ?_
  refine wp_seq_k fun K17 hK17 => ?_
  refine Qab ?_
  refine Qaa (.slice a10_ ((fs).length) c10_) 30 rfl kj kj ?_
  refine Qaa (.slice a10_ ((fs).length) c10_) 4 rfl kj kj ?_
  refine Qaa (.nilIface) 5 rfl kj kj ?_
  refine Qac ?_
  refine hK17 _ _ ?_
  refine wp_ret ?_
  have f18_4 := (Qdc f15_3 q4 (QdP hu10_ (Qa8 r1_1)))
  exact (show bodyPost _ _ _ .ret _ _ from ret2 (.slice a10_ ((fs).length) c10_) (.nilIface) rfl (Qa9 kj) (Qa9 kj) ⟨_, rfl, OwnN.base xb1.2.2.2.1 f18_4, x4, r1_4⟩)
set_option maxRecDepth 100000 in
set_option maxHeartbeats 4000000 in
theorem QjL (g : Nat) (key chain hash : List Int) (num : Nat) (text fs : List Int) (es : Qcx key (nonV num) hash text = fs) (v : Value) (th tq tsc tsq : TypeId) (w : World) (hkl : key.length = 32) (hcl : chain.length = 32) (hhl : hash.length = 32) (hhb : Qaj hash) (hh : w.heap[2]? = some (.cells (ints .u32 [1634760805, 857760878, 2036477234, 1797285236]) th)) (hq : w.heap[3]? = some (.cells (ints .i64 [0, 4, 8, 12, 1, 5, 9, 13, 2, 6, 10, 14, 3, 7, 11, 15, 0, 5, 10, 15, 1, 6, 11, 12, 2, 7, 8, 13, 3, 4, 9, 14]) tq)) (hsc : w.heap[1]? = some (.cells (ints .u64 Qbi) tsc)) (hsq : w.heap[0]? = some (.cells (ints .u64 Qat) tsq)) (hnh : 2 ≠ g) (hnq : 3 ≠ g) (hnc : 1 ≠ g) (hns : 0 ≠ g) (hg : w.heap[g]? = some (.cells (cat [ints .u8 (key), #[.bool true], #[.int .i64 ((num : Nat) : Int)], ints .u8 (chain), ints .u8 (hash)]) 123)) (hn : num < 4294967295) (hfb : Qaj fs) (lfs : fs.length = text.length + 16) (htb : Qaj text) (htl : text.length ≤ 1048576) (hst : ∀ W, ExtB g w W → RdK .u8 W.heap.size fs v W) :
    Calls Tryd.prog 34 #[.pointer (some ⟨g, 0, none⟩), v] w (fun e W => ∃ u, e = .returned (.tuple #[u, .nilIface]) ∧ OwnN .u8 5 w.heap.size (text) u W ∧ ExtB g w W ∧ W.heap[g]? = some (.cells (cat [ints .u8 (key), #[.bool true], #[.int .i64 ((num + 1 : Nat) : Int)], ints .u8 (chain), ints .u8 (dig (hash ++ fs))]) 123)) := by
  obtain ⟨a_t, c_t, rfl, -⟩ := id (hst _ (ExtB.refl g w))
  refine enter 31 [(0, .pointer (some ⟨g, 0, none⟩)), (1, .slice a_t fs.length c_t)] Tryd.func34 rfl rfl kj rfl ?_
  refine wp_seq_k fun K6 hK6 => ?_
  refine Qab ?_
  refine Qaa (.slice none 0 0) 4 rfl kj kj ?_
  refine Qaa (.nilIface) 5 rfl kj kj ?_
  refine Qac ?_
  refine hK6 _ _ ?_
  refine wp_seq_k fun K7 hK7 => ?_
  refine wp_seq_k fun K8 hK8 => ?_
  refine Qab ?_
  refine Qaa (.pointer (some ⟨g, 0, none⟩)) 8 rfl kj kj ?_
  refine Qaa (.bool false) 9 rfl kj kj ?_
  refine Qac ?_
  refine hK8 _ _ ?_
  refine cond_false kj ?_
  refine wp_skip ?_
  refine hK7 _ _ ?_
  refine wp_seq_k fun K9 hK9 => ?_
  refine QcE kj fun W1 e1 => ?_
  have x1 : Ext w W1 := Ext.tr (Rely.Ext.refl w) e1
  refine QaP 0 (.pointer (some ⟨g, 0, none⟩)) 12 rfl rfl kj kj (fun _ _ _ h => h) (fun W => by kernel_rfl) ?_
  refine QaP 1 (.pointer (some ⟨g, 0, none⟩)) 13 rfl rfl kj kj (fun _ _ _ h => h) (fun W => by kernel_rfl) ?_
  refine QaP 2 (.pointer (some ⟨g, 0, none⟩)) 14 rfl rfl kj kj (fun _ _ _ h => h) (fun W => by kernel_rfl) ?_
  refine QaP 3 (.pointer (some ⟨g, 0, none⟩)) 15 rfl rfl kj kj (fun _ _ _ h => h) (fun W => by kernel_rfl) ?_
  refine QaP 4 (.pointer (some ⟨g, 0, none⟩)) 16 rfl rfl kj kj (fun _ _ _ h => h) (fun W => by kernel_rfl) ?_
  refine QaP 5 (.pointer (some ⟨g, 66, none⟩)) 17 rfl rfl kj kj (fun _ _ _ h => h) (fun W => by kernel_rfl) ?_
  refine QaP 6 (.slice (some ⟨g, 66, none⟩) 32 32) 18 rfl rfl kj kj (fun _ _ _ h => h) (fun W => by kernel_rfl) ?_
  refine QaP 7 (.slice a_t fs.length c_t) 19 rfl rfl kj kj (fun _ _ _ h => h) (fun W => by kernel_rfl) ?_
  have r1_1 := (Qad hg e1)
  have r3_1 := (Qad hh e1)
  have r2_1 := (Qad hq e1)
  have xb1 : ExtB g w W1 := ExtB.ext (ExtB.refl g w) x1
  refine Qea 8 rfl kj (fun v W' => ∃ u, v = .tuple #[u, .nilIface] ∧ OwnN .u8 5 W1.heap.size (text) u W' ∧ ExtB g W1 W' ∧ W'.heap[g]? = some (.cells (cat [ints .u8 (key), #[.bool true], #[.int .i64 ((num + 1 : Nat) : Int)], ints .u8 (chain), ints .u8 (hash)]) 123)) 70 #[.pointer (some ⟨g, 0, none⟩), .func (.func 74) #[] #[], .slice (some ⟨g, 66, none⟩) 32 32, .slice a_t fs.length c_t] 20 rfl kj kj ((QjF g key chain hash num hash text fs es _ _ _ _ th tq _ hkl hcl hhl r3_1 r2_1 r1_1 hn hhb htb (by rw [hhl]; decide) htl (Qdm 66 hhl r1_1 (fun i hi => QbF [ints .u8 (key), #[.bool true], #[.int .i64 ((num : Nat) : Int)], ints .u8 (chain)] [] hash 66 i (66 + i) (by rw [Qan, Qan, Qan, Qan]; simp only [Array.size_append, cat, ((Qaf _ _).trans hcl), ((Qaf _ _).trans hkl)]; rfl) rfl (by rw [hhl]; exact hi)) (Qa8 r1_1) (Nat.le_refl _) (by decide)) (hst _ (ExtB.ext (ExtB.refl g w) x1))).mono (by rintro e w' ⟨u, rfl, h1, h2, h3⟩; exact ⟨_, rfl, u, rfl, h1, h2, h3⟩)) fun v W2 h10 => ?_
  obtain ⟨u10_, rfl, hu10_, q2, r1_2⟩ := h10
  have x2 : ExtB g w W2 := ExtB.trans xb1 q2
  obtain ⟨a10_, c10_, rfl, -⟩ := id (OwnN.rd hu10_)
  refine QaP 9 (.tuple #[.slice a10_ ((text).length) c10_, .nilIface]) 11 rfl rfl kj kj (fun _ _ _ h => h) (fun W => by kernel_rfl) ?_
  refine QaP 10 (.slice a10_ ((text).length) c10_) 21 rfl rfl kj kj (fun _ _ _ h => h) (fun W => by kernel_rfl) ?_
  refine QaP 11 (.nilIface) 22 rfl rfl kj kj (fun _ _ _ h => h) (fun W => by kernel_rfl) ?_
  refine QaP 12 (.slice a10_ ((text).length) c10_) 6 rfl rfl kj kj (fun _ _ _ h => h) (fun W => by kernel_rfl) ?_
  refine QaP 13 (.nilIface) 7 rfl rfl kj kj (fun _ _ _ h => h) (fun W => by kernel_rfl) ?_
  refine Qgl kj ?_
  refine hK9 _ _ ?_
  refine wp_seq_k fun K11 hK11 => ?_
  refine wp_seq_k fun K12 hK12 => ?_
  refine Qab ?_
  refine Qaa (.nilIface) 23 rfl kj kj ?_
  refine Qaa (.bool false) 24 rfl kj kj ?_
  refine Qac ?_
  refine hK12 _ _ ?_
  refine cond_false kj ?_
  refine wp_skip ?_
  refine hK11 _ _ ?_
  refine wp_seq_k fun K13 hK13 => ?_
  refine Qab ?_
  refine Qaa (.pointer (some ⟨g, 0, none⟩)) 26 rfl kj kj ?_
  refine Qaa (.slice a_t fs.length c_t) 27 rfl kj kj ?_
  refine QaZ (#[.slice a_t fs.length c_t]) 33 1 28 rfl kj kj fun g14 W3 l14 e3 r14_3 => ?_
  have x3 : ExtB g w W3 := ExtB.ext x2 e3
  have b14 : w.heap.size ≤ g14 := Nat.le_trans x2.2.2.2.1 l14
  have hps15 : ∀ p ∈ ([(.slice a_t fs.length c_t, fs)] : List (Value × List Int)), RdK .u8 W3.heap.size p.2 p.1 W3 ∧ Qaj p.2 := by
    intro p hp
    simp only [List.mem_cons, List.not_mem_nil, or_false] at hp
    rcases hp with rfl
    · exact ⟨RdK.here (hst _ x3), hfb⟩
  have r4_1 := (Qad hsc e1)
  have r4_2 := (ExtB.row q2 r4_1 hnc)
  have r4_3 := (Qad r4_2 e3)
  have r5_1 := (Qad hsq e1)
  have r5_2 := (ExtB.row q2 r5_1 hns)
  have r5_3 := (Qad r5_2 e3)
  have r1_3 := (Qad r1_2 e3)
  have hmx15 := Qdd g (key) (chain) (hash) true ((num + 1 : Nat) : Int) g14 1 _ ([(.slice a_t fs.length c_t, fs)] : List (Value × List Int)) rfl (by decide) tsc tsq W3 hkl hcl hhl hhb r4_3 r5_3 r1_3 r14_3 hps15 (by simp only [List.map_cons, List.map_nil, List.flatten_cons, List.flatten_nil, List.append_nil, List.length_append, lfs]; omega)
  rw [show ((List.map Prod.snd ([(.slice a_t fs.length c_t, fs)] : List (Value × List Int))).flatten) = fs by simp only [List.map_cons, List.map_nil, List.flatten_cons, List.flatten_nil, List.append_nil]] at hmx15
  refine Qa0 (fun v W' => v = .tuple #[] ∧ ExtB g W3 W' ∧ W'.heap[g]? = some (.cells (cat [ints .u8 (key), #[.bool true], #[.int .i64 ((num + 1 : Nat) : Int)], ints .u8 (chain), ints .u8 (dig (hash ++ fs))]) 123)) 31 #[.pointer (some ⟨g, 0, none⟩), .slice (some ⟨g14, 0, none⟩) 1 1] 29 rfl kj kj (hmx15.mono fun e w' h => ⟨_, h.1, rfl, h.2⟩) fun v W4 h15 => ?_
  obtain ⟨rfl, q4, r1_4⟩ := h15
  have x4 : ExtB g w W4 := ExtB.trans x3 q4
  refine Qac ?_
  refine hK13 _ _ ?_
  refine wp_seq_k fun K16 hK16 => ?_
  refine Qab ?_
  refine Qaa (.slice a10_ ((text).length) c10_) 30 rfl kj kj ?_
  refine Qaa (.slice a10_ ((text).length) c10_) 4 rfl kj kj ?_
  refine Qaa (.nilIface) 5 rfl kj kj ?_
  refine Qac ?_
  refine hK16 _ _ ?_
  refine wp_ret ?_
  have f17_3 := (hu10_.ext e3)
  have f18_4 := (Qdc f17_3 q4 (QdP hu10_ (Qa8 r1_1)))
  exact (show bodyPost _ _ _ .ret _ _ from ret2 (.slice a10_ ((text).length) c10_) (.nilIface) rfl (Qa9 kj) (Qa9 kj) ⟨_, rfl, OwnN.base xb1.2.2.2.1 f18_4, x4, r1_4⟩)
end Go.Proofs.YtoiendjhplbjjaaDoor.Ci
end
section
namespace Go.Proofs.YtoiendjhplbjjaaDoor.Ci
open Go Go.RowKit
open Rely Auto Own Sha Sha
set_option linter.unusedVariables false
set_option linter.unusedSimpArgs false
open Cha
open Ae hiding run_storeQ
open Ll hiding newC run_storeQ
def strB (s : ByteArray) : List Int := s.data.toList.map fun b => (b.toNat : Int)
theorem QeQ (s : ByteArray) : (strB s).length = s.size := by unfold strB; rw [List.length_map, Array.length_toList]; rfl
theorem strB_bytes (s : ByteArray) : Qaj (strB s) := fun x hx => by
  unfold strB at hx
  obtain ⟨b, -, rfl⟩ := List.mem_map.1 hx
  have := b.toNat_lt
  omega
theorem QfH (s : ByteArray) (cap i : Nat) (hi : i < (strB s).length) : (bytesRow s cap)[i]? = some (.int .u8 (nth (strB s) i)) := by
  have h1 : i < s.data.size := by rw [QeQ] at hi; exact hi
  unfold bytesRow
  rw [Array.getElem?_append_left (by simpa using h1), Array.getElem?_map, Array.getElem?_eq_getElem h1]
  simp only [nth, strB, List.getD_eq_getElem?_getD, List.getElem?_map, Array.getElem?_toList]
  rw [Array.getElem?_eq_getElem h1]; rfl
section
variable {ds : List Deferred} {P : Program} {ops : Array Oper} {Q : Exit → Act → World → Prop} {rest : List Oper} {o : Oper} {N : Nat} {L : Env} {W : World}
theorem Qik (s : ByteArray) (xs : List Int) (src dst e : TypeId) (x : Operand) (d : Nat) (ho : o.op = .convert src dst x) (hd : o.dst = some d) (hg : QbJ ops o N L = some true) (hx : Rely.look (envN N L) x = .string s) (hxs : strB s = xs)
    (hs : P.underlying src = some .string) (ht : P.underlying dst = some (.slice e)) (he : P.underlying e = some (.int .u8)) (hm : xs.length ≤ maxLen)
    (k : ∀ (g c : Nat) (W' : World), Ext W W' → RdK .u8 W'.heap.size xs (.slice (some ⟨g, 0, none⟩) xs.length c) W' → WL P ops Q rest (Qaz ds N ((d, .slice (some ⟨g, 0, none⟩) xs.length c) :: L)) W') : WL P ops Q (o :: rest) (Qaz ds N L) W := by
  subst hxs
  have hsz := QeQ s
  have hc := grownCap_ge W s.size 0 e
  have hc2 := grownCap_le_maxLen W s.size 0 e (by omega)
  have hrun : (execOp (Rely.look (envN N L)) o).run P W = .ok (.value (.slice (some ⟨W.heap.size, 0, none⟩) (strB s).length (grownCap W s.size 0 e))) (W.drew.alloc (.cells (bytesRow s (grownCap W s.size 0 e)) e ((bytesRow s (grownCap W s.size 0 e)).size, (bytesRow s (grownCap W s.size 0 e)).size + 1))) := by
    unfold execOp
    simp only [ho, hx, Sem.run_bind, run_bytes_of_string W src dst e s hs ht he, Result.andThen_ok, Sem.run_pure, hsz]
  refine QbO _ _ d hd hg hrun (k _ _ _ (Rely.Ext.trans (Qak W) (QbS _ _)) ?_)
  have r := heap_alloc_new W.drew (.cells (bytesRow s (grownCap W s.size 0 e)) e ((bytesRow s (grownCap W s.size 0 e)).size, (bytesRow s (grownCap W s.size 0 e)).size + 1))
  refine ⟨_, _, rfl, by omega, hc2, (fun h => by cases h), .inr ⟨W.heap.size, 0, rfl, Qa8 r, Qa8 r, fun i hi => ?_⟩⟩
  rw [Nat.zero_add]
  exact (cell_of_row _ _ i _ e _ r).trans (QfH s _ i hi)
end
def BegL (base : Nat) (nm : List Int) : Value → World → Prop := fun v W => ∃ g, v = .pointer (some ⟨g, 0, none⟩) ∧ base ≤ g ∧ W.heap[g]? = some (.cells (cat [ints .u8 (List.replicate 32 0), #[.bool false], #[.int .i64 0], ints .u8 (dig nm), ints .u8 (dig nm)]) 123)
set_option maxHeartbeats 4000000 in
theorem QgC (s : ByteArray) (nm : List Int) (hs : strB s = nm) (hnb : Qaj nm) (hnl : nm.length ≤ 800000000) (tc tq : TypeId) (w : World) (hc : w.heap[1]? = some (.cells (ints .u64 Qbi) tc)) (hq : w.heap[0]? = some (.cells (ints .u64 Qat) tq)) : Calls Tryd.prog 30 #[.string s] w (QbT w (BegL w.heap.size nm)) := by
  refine enter 12 [(0, .string s)] Tryd.func30 rfl rfl kj rfl ?_
  refine wp_seq_k fun K3 hK3 => ?_
  refine Qab ?_
  refine Qaa (.pointer none) 2 rfl kj kj ?_
  refine Qac ?_
  refine hK3 _ _ ?_
  refine wp_seq_k fun K4 hK4 => ?_
  refine Qab ?_
  refine Qaa (.string s) 4 rfl kj kj ?_
  refine Qik s nm 9 33 5 (.tmp 4) 5 rfl rfl kj kj hs kj kj kj (Nat.le_trans hnl (by decide)) fun gs5 cs5 W1 e1 fs5 => ?_
  have x1 : Ext w W1 := Ext.tr (Rely.Ext.refl w) e1
  refine QaZ (#[.slice (some ⟨gs5, 0, none⟩) ((nm).length) cs5]) 33 1 6 rfl kj kj fun g6 W2 l6 e2 r6_2 => ?_
  have x2 : Ext w W2 := Ext.tr x1 e2
  have b6 : w.heap.size ≤ g6 := Nat.le_trans x1.size l6
  have f7_2 := (fs5.ext e2)
  have r1_1 := (Qad hc e1)
  have r1_2 := (Qad r1_1 e2)
  have r2_1 := (Qad hq e1)
  have r2_2 := (Qad r2_1 e2)
  have hps8 : ∀ p ∈ ([(.slice (some ⟨gs5, 0, none⟩) ((nm).length) cs5, nm)] : List (Value × List Int)), RdK .u8 W2.heap.size p.2 p.1 W2 ∧ Qaj p.2 := by
    intro p hp
    simp only [List.mem_cons, List.not_mem_nil, or_false] at hp
    rcases hp with rfl
    · exact ⟨RdK.here f7_2, hnb⟩
  have hsh8 := Qhm g6 1 _ ([(.slice (some ⟨gs5, 0, none⟩) ((nm).length) cs5, nm)] : List (Value × List Int)) rfl (by decide) tc tq W2 r1_2 r2_2 r6_2 hps8 (by simp only [List.map_cons, List.map_nil, List.flatten_cons, List.flatten_nil, List.append_nil, List.length_append]; omega)
  rw [show ((List.map Prod.snd ([(.slice (some ⟨gs5, 0, none⟩) ((nm).length) cs5, nm)] : List (Value × List Int))).flatten) = nm by simp only [List.map_cons, List.map_nil, List.flatten_cons, List.flatten_nil, List.append_nil]] at hsh8
  refine Qax (.agg (ints .u8 (dig (nm)))) 76 #[.slice (some ⟨g6, 0, none⟩) 1 1] 7 rfl kj kj hsh8 fun W3 e3 => ?_
  have x3 : Ext w W3 := Ext.tr x2 e3
  refine Qaq (ints .u8 (List.replicate 32 0)) 29 3 rfl kj kj fun g9 W4 l9 e4 r9_4 => ?_
  have x4 : Ext w W4 := Ext.tr x3 e4
  have b9 : w.heap.size ≤ g9 := Nat.le_trans x3.size l9
  refine Qah g9 _ (ints .u8 (dig (nm))) 29 r9_4 rfl kj (Qam 29 _ _ g9 29 _ _ r9_4 rfl kj kj (isz (n := 32) kj ((Qaf _ _).trans (QaJ _))) (eqsz (n := 32) ((Qaf _ _).trans (List.length_replicate (n := 32))) ((Qaf _ _).trans (QaJ _))) (Qay _ _)) fun W5 p5 r9_5 => ?_
  have x5 : Ext w W5 := Puts.ext p5 x4 b9
  refine Qac ?_
  refine hK4 _ _ ?_
  refine wp_seq_k fun K10 hK10 => ?_
  refine Qab ?_
  refine Qaa (.agg (ints .u8 (dig (nm)))) 8 rfl kj (Qas 29 _ g9 29 _ _ r9_5 rfl kj kj (isz (n := 32) kj ((Qaf _ _).trans (QaJ _)))) ?_
  refine Qaa (.agg (ints .u8 (dig (nm)))) 9 rfl kj (Qas 29 _ g9 29 _ _ r9_5 rfl kj kj (isz (n := 32) kj ((Qaf _ _).trans (QaJ _)))) ?_
  refine Qaa (.agg (cat [ints .u8 (List.replicate 32 0), #[.bool false], #[.int .i64 0], ints .u8 (dig (nm)), ints .u8 (dig (nm))])) 10 rfl kj (QdB 123 _ (.agg (cat [ints .u8 (List.replicate 32 0), #[.bool false], #[.int .i64 0], ints .u8 (List.replicate 32 0), ints .u8 (List.replicate 32 0)])) #[(0, 34), (34, 32), (66, 32)] 34 [ints .u8 (List.replicate 32 0), #[.bool false], #[.int .i64 0]] (cat [ints .u8 (List.replicate 32 0), ints .u8 (List.replicate 32 0)]) [(1, 32, .agg (ints .u8 (dig (nm))), ints .u8 (dig (nm))), (2, 32, .agg (ints .u8 (dig (nm))), ints .u8 (dig (nm)))] [] rfl kj (by rw [Qan, Qan, Qan]; simp only [Array.size_append, cat, ((Qaf _ _).trans (List.length_replicate (n := 32)))]; rfl) ⟨kj, rfl, ((Qaf _ _).trans (QaJ _)), kj, rfl, ((Qaf _ _).trans (QaJ _)), trivial⟩ kj (Nat.le_of_ble_eq_true kj) kj kj kj kj) ?_
  refine Qaq (cat [ints .u8 (List.replicate 32 0), #[.bool false], #[.int .i64 0], ints .u8 (dig (nm)), ints .u8 (dig (nm))]) 123 11 rfl kj kj fun g11 W6 l11 e6 r11_6 => ?_
  have x6 : Ext w W6 := Ext.tr x5 e6
  have b11 : w.heap.size ≤ g11 := Nat.le_trans x5.size l11
  refine Qaa (.pointer (some ⟨g11, 0, none⟩)) 2 rfl kj kj ?_
  refine Qac ?_
  refine hK10 _ _ ?_
  refine wp_ret ?_
  repeat (first | with_reducible refine goR1 ?_ | with_reducible refine goR2 ?_)
  exact (show bodyPost _ _ _ .ret _ _ from ret1 (.pointer (some ⟨g11, 0, none⟩)) rfl (Qa9 kj) ⟨_, rfl, x6, g11, rfl, b11, r11_6⟩)
set_option maxHeartbeats 4000000 in
theorem Qfg (g : Nat) (key chain hash : List Int) (has : Bool) (num : Int) (w : World) (hkl : key.length = 32) (hcl : chain.length = 32) (hhl : hash.length = 32) (hg : w.heap[g]? = some (.cells (cat [ints .u8 (key), #[.bool has], #[.int .i64 num], ints .u8 (chain), ints .u8 (hash)]) 123)) : Calls Tryd.prog 35 #[.pointer (some ⟨g, 0, none⟩)] w (Ret w (.agg (ints .u8 hash))) := by
  refine enter 10 [(0, .pointer (some ⟨g, 0, none⟩))] Tryd.func35 rfl rfl kj rfl ?_
  refine wp_seq_k fun K2 hK2 => ?_
  refine Qab ?_
  refine Qaq (ints .u8 (List.replicate 32 0)) 29 2 rfl kj kj fun g3 W1 l3 e1 r3_1 => ?_
  have x1 : Ext w W1 := Ext.tr (Rely.Ext.refl w) e1
  have b3 : w.heap.size ≤ g3 := Nat.le_trans (Rely.Ext.refl w).size l3
  refine Qac ?_
  refine hK2 _ _ ?_
  refine wp_seq_k fun K4 hK4 => ?_
  refine wp_seq_k fun K5 hK5 => ?_
  refine Qab ?_
  refine Qaa (.pointer (some ⟨g, 0, none⟩)) 3 rfl kj kj ?_
  refine Qaa (.bool false) 4 rfl kj kj ?_
  refine Qac ?_
  refine hK5 _ _ ?_
  refine cond_false kj ?_
  refine wp_skip ?_
  refine hK4 _ _ ?_
  refine wp_seq_k fun K6 hK6 => ?_
  refine Qab ?_
  refine Qaa (.pointer (some ⟨g, 0, none⟩)) 6 rfl kj kj ?_
  refine Qaa (.pointer (some ⟨g, 0, none⟩)) 7 rfl kj kj ?_
  refine Qaa (.pointer (some ⟨g, 66, none⟩)) 8 rfl kj kj ?_
  have r1_1 := (Qad hg e1)
  refine Qaa (.agg (ints .u8 (hash))) 9 rfl kj (QaF 29 _ g 66 123 _ _ _ r1_1 rfl kj (QaE [ints .u8 (key), #[.bool has], #[.int .i64 num], ints .u8 (chain)] [ints .u8 (hash)] [] 66 (by rw [Qan, Qan, Qan, Qan]; simp only [Array.size_append, cat, ((Qaf _ _).trans hcl), ((Qaf _ _).trans hkl)]; rfl)) kj (isz (n := 32) kj ((Qaf _ _).trans hhl))) ?_
  refine Qah g3 _ (ints .u8 (hash)) 29 r3_1 rfl kj (Qam 29 _ _ g3 29 _ _ r3_1 rfl kj kj (isz (n := 32) kj ((Qaf _ _).trans hhl)) (eqsz (n := 32) ((Qaf _ _).trans (List.length_replicate (n := 32))) ((Qaf _ _).trans hhl)) (Qay _ _)) fun W2 p2 r3_2 => ?_
  have x2 : Ext w W2 := Puts.ext p2 x1 b3
  refine Qac ?_
  refine hK6 _ _ ?_
  refine wp_ret ?_
  repeat (first | with_reducible refine goR1 ?_ | with_reducible refine goR2 ?_)
  exact (show bodyPost _ _ _ .ret _ _ from ret1 (.agg (ints .u8 (hash))) rfl (QaU g3 29 _ r3_2 kj kj (isz (n := 32) kj ((Qaf _ _).trans hhl))) ⟨rfl, x2⟩)
end Go.Proofs.YtoiendjhplbjjaaDoor.Ci
end
section
namespace Go.Proofs.YtoiendjhplbjjaaDoor.Ci
open Go Go.RowKit
open Rely Auto Own Sha Sha
set_option linter.unusedVariables false
set_option linter.unusedSimpArgs false
open Cha
open Ae hiding run_storeQ
open Ll hiding newC run_storeQ
theorem Qkl : nth (dig (dig [110, 97, 109, 101] ++ Qcx (twB (hmac (dig [110, 97, 109, 101]) [1])) (nonV 0) (dig [110, 97, 109, 101]) [116, 101, 120, 116])) 0 ≠ 0 := by decide +kernel
theorem Qe0 (l : List Int) (h : (l.all fun x => decide (0 ≤ x) && decide (x ≤ 255)) = true) : Qaj l := fun x hx => by
  have := List.all_eq_true.1 h x hx
  simpa using this
set_option maxRecDepth 100000 in
set_option maxHeartbeats 4000000 in
theorem Qgj (th tq tsc tsq : TypeId) (w : World) (hh : w.heap[2]? = some (.cells (ints .u32 [1634760805, 857760878, 2036477234, 1797285236]) th)) (hq : w.heap[3]? = some (.cells (ints .i64 [0, 4, 8, 12, 1, 5, 9, 13, 2, 6, 10, 14, 3, 7, 11, 15, 0, 5, 10, 15, 1, 6, 11, 12, 2, 7, 8, 13, 3, 4, 9, 14]) tq)) (hsc : w.heap[1]? = some (.cells (ints .u64 Qbi) tsc)) (hsq : w.heap[0]? = some (.cells (ints .u64 Qat) tsq)) : Calls Tryd.prog 15 #[] w (Ret w (.bool true)) := by
  have hnb : Qaj [110, 97, 109, 101] := Qe0 _ (by decide)
  have htb : Qaj [116, 101, 120, 116] := Qe0 _ (by decide)
  have h1b : Qaj [1] := Qe0 _ (by decide)
  have hA := Qkl
  obtain ⟨ch, ech⟩ : ∃ z, z = dig [110, 97, 109, 101] := ⟨_, rfl⟩
  have hchl : ch.length = 32 := by rw [ech]; exact QaJ _
  have hchb : Qaj ch := by rw [ech]; exact Qc6 _
  rw [← ech] at hA
  obtain ⟨k1, ek1⟩ : ∃ z, z = twB (hmac ch [1]) := ⟨_, rfl⟩
  obtain ⟨c1, ec1⟩ : ∃ z, z = twA (hmac ch [1]) := ⟨_, rfl⟩
  have hk1 : k1.length = 32 := by rw [ek1]; exact Qb3 _
  have hc1 : c1.length = 32 := by rw [ec1]; exact Qb8 _
  rw [← ek1] at hA
  have lfs0 := Qck k1 (nonV 0) ch [116, 101, 120, 116]
  have hfb0 := QcB k1 (nonV 0) ch [116, 101, 120, 116]
  obtain ⟨fs, es⟩ : ∃ z : List Int, Qcx k1 (nonV 0) ch [116, 101, 120, 116] = z := ⟨_, rfl⟩
  rw [es] at hA lfs0 hfb0
  have lfs : fs.length = List.length [116, 101, 120, 116] + 16 := lfs0
  have hfb : Qaj fs := hfb0
  have hne : dig (ch ++ fs) ≠ List.replicate 32 0 := fun e => hA (by rw [e]; rfl)
  refine enter 54 [] Tryd.func15 rfl rfl kj rfl ?_
  refine wp_seq_k fun K5 hK5 => ?_
  refine Qab ?_
  refine Qaa (.bool false) 0 rfl kj kj ?_
  refine Qac ?_
  refine hK5 _ _ ?_
  refine wp_seq_k fun K6 hK6 => ?_
  refine Qab ?_
  refine Qa0 (fun v W' => (BegL w.heap.size ([110, 97, 109, 101])) v W' ∧ Ext w W') 30 #[.string ⟨#[110, 97, 109, 101]⟩] 6 rfl kj kj ((QgC _ ([110, 97, 109, 101]) rfl hnb (by decide) tsc tsq _ hsc hsq).mono (by rintro e w' ⟨v, rfl, e1, hv⟩; exact ⟨v, rfl, hv, e1⟩)) fun vv7 W1 hh7 => ?_
  obtain ⟨hv7, e1⟩ := hh7
  have x1 : Ext w W1 := Ext.tr (Rely.Ext.refl w) e1
  obtain ⟨gs8, rfl, ls8, rs8⟩ := hv7
  have bs8 : w.heap.size ≤ gs8 := Nat.le_trans (Rely.Ext.refl w).size ls8
  rw [← ech] at rs8
  have r3_1 := (Qad hsc e1)
  have r4_1 := (Qad hsq e1)
  refine Qa0 (fun v W' => (BegL W1.heap.size ([110, 97, 109, 101])) v W' ∧ Ext W1 W') 30 #[.string ⟨#[110, 97, 109, 101]⟩] 7 rfl kj kj ((QgC _ ([110, 97, 109, 101]) rfl hnb (by decide) tsc tsq _ r3_1 r4_1).mono (by rintro e w' ⟨v, rfl, e1, hv⟩; exact ⟨v, rfl, hv, e1⟩)) fun vv9 W2 hh9 => ?_
  obtain ⟨hv9, e2⟩ := hh9
  have x2 : Ext w W2 := Ext.tr x1 e2
  obtain ⟨gs10, rfl, ls10, rs10⟩ := hv9
  have bs10 : w.heap.size ≤ gs10 := Nat.le_trans x1.size ls10
  rw [← ech] at rs10
  refine Qaa (.pointer (some ⟨gs8, 0, none⟩)) 1 rfl kj kj ?_
  refine Qaa (.pointer (some ⟨gs10, 0, none⟩)) 2 rfl kj kj ?_
  refine Qac ?_
  refine hK6 _ _ ?_
  refine wp_seq_k fun K11 hK11 => ?_
  refine Qab ?_
  refine Qaa (.pointer (some ⟨gs8, 0, none⟩)) 8 rfl kj kj ?_
  refine QaZ (ints .u8 ([1])) 5 1 9 rfl kj kj fun g12 W3 l12 e3 r12_3 => ?_
  have x3 : Ext w W3 := Ext.tr x2 e3
  have b12 : w.heap.size ≤ g12 := Nat.le_trans x2.size l12
  have r3_2 := (Qad r3_1 e2)
  have r3_3 := (Qad r3_2 e3)
  have r4_2 := (Qad r4_1 e2)
  have r4_3 := (Qad r4_2 e3)
  have r8_2 := (Qad rs8 e2)
  have r8_3 := (Qad r8_2 e3)
  refine Qa0 (fun v W' => v = .tuple #[] ∧ ExtB gs8 W3 W' ∧ W'.heap[gs8]? = some (.cells (cat [ints .u8 (k1), #[.bool true], #[.int .i64 ((0 : Nat) : Int)], ints .u8 (c1), ints .u8 (ch)]) 123)) 32 #[.pointer (some ⟨gs8, 0, none⟩), .slice (some ⟨g12, 0, none⟩) 1 1] 10 rfl kj kj ((Qde gs8 (List.replicate 32 0) ch ch false 0 [1] _ _ tsc tsq _ (List.length_replicate (n := 32)) hchl hchl hchb h1b (by decide) r3_3 r4_3 r8_3 (Qbp (xs := [1]) (n := 1) rfl r12_3 (Qa8 r12_3) (show 1 ≤ maxLen from by decide))).mono (by intro e w' h; exact ⟨_, h.1, rfl, h.2.1, (by rw [ek1, ec1]; exact h.2.2)⟩)) fun v W4 h13 => ?_
  obtain ⟨rfl, q4, r8_4⟩ := h13
  have x4 : Ext w W4 := ExtB.up x3 q4 bs8
  refine Qac ?_
  refine hK11 _ _ ?_
  refine wp_seq_k fun K14 hK14 => ?_
  refine Qab ?_
  refine Qaa (.pointer (some ⟨gs10, 0, none⟩)) 11 rfl kj kj ?_
  refine QaZ (ints .u8 ([1])) 5 1 12 rfl kj kj fun g15 W5 l15 e5 r15_5 => ?_
  have x5 : Ext w W5 := Ext.tr x4 e5
  have b15 : w.heap.size ≤ g15 := Nat.le_trans x4.size l15
  have r3_4 := (ExtB.row q4 r3_3 (Qae hsc ls8))
  have r3_5 := (Qad r3_4 e5)
  have r4_4 := (ExtB.row q4 r4_3 (Qae hsq ls8))
  have r4_5 := (Qad r4_4 e5)
  have r10_3 := (Qad rs10 e3)
  have r10_4 := (ExtB.row q4 r10_3 (Qap rs8 ls10))
  have r10_5 := (Qad r10_4 e5)
  refine Qa0 (fun v W' => v = .tuple #[] ∧ ExtB gs10 W5 W' ∧ W'.heap[gs10]? = some (.cells (cat [ints .u8 (k1), #[.bool true], #[.int .i64 ((0 : Nat) : Int)], ints .u8 (c1), ints .u8 (ch)]) 123)) 32 #[.pointer (some ⟨gs10, 0, none⟩), .slice (some ⟨g15, 0, none⟩) 1 1] 13 rfl kj kj ((Qde gs10 (List.replicate 32 0) ch ch false 0 [1] _ _ tsc tsq _ (List.length_replicate (n := 32)) hchl hchl hchb h1b (by decide) r3_5 r4_5 r10_5 (Qbp (xs := [1]) (n := 1) rfl r15_5 (Qa8 r15_5) (show 1 ≤ maxLen from by decide))).mono (by intro e w' h; exact ⟨_, h.1, rfl, h.2.1, (by rw [ek1, ec1]; exact h.2.2)⟩)) fun v W6 h16 => ?_
  obtain ⟨rfl, q6, r10_6⟩ := h16
  have x6 : Ext w W6 := ExtB.up x5 q6 bs10
  refine Qac ?_
  refine hK14 _ _ ?_
  refine wp_seq_k fun K17 hK17 => ?_
  refine Qab ?_
  refine Qaa (.pointer (some ⟨gs8, 0, none⟩)) 15 rfl kj kj ?_
  refine QaZ (ints .u8 ([116, 101, 120, 116])) 5 4 16 rfl kj kj fun g18 W7 l18 e7 r18_7 => ?_
  have x7 : Ext w W7 := Ext.tr x6 e7
  have b18 : w.heap.size ≤ g18 := Nat.le_trans x6.size l18
  refine Qhq (xs := [116, 101, 120, 116]) 33 5 (.tmp 16) 17 rfl rfl kj kj kj kj rfl (show 4 ≤ maxLen by decide) r18_7 fun W8 p8 r18_8 rd19 => ?_
  have x8 : Ext w W8 := Puts.ext p8 x7 b18
  have r2_1 := (Qad hh e1)
  have r2_2 := (Qad r2_1 e2)
  have r2_3 := (Qad r2_2 e3)
  have r2_4 := (ExtB.row q4 r2_3 (Qae hh ls8))
  have r2_5 := (Qad r2_4 e5)
  have r2_6 := (ExtB.row q6 r2_5 (Qae r2_1 ls10))
  have r2_7 := (Qad r2_6 e7)
  have r2_8 := (Puts.row p8 r2_7 (Qae r2_6 l18))
  have r1_1 := (Qad hq e1)
  have r1_2 := (Qad r1_1 e2)
  have r1_3 := (Qad r1_2 e3)
  have r1_4 := (ExtB.row q4 r1_3 (Qae hq ls8))
  have r1_5 := (Qad r1_4 e5)
  have r1_6 := (ExtB.row q6 r1_5 (Qae r1_1 ls10))
  have r1_7 := (Qad r1_6 e7)
  have r1_8 := (Puts.row p8 r1_7 (Qae r1_6 l18))
  have r3_6 := (ExtB.row q6 r3_5 (Qae r3_1 ls10))
  have r3_7 := (Qad r3_6 e7)
  have r3_8 := (Puts.row p8 r3_7 (Qae r3_6 l18))
  have r4_6 := (ExtB.row q6 r4_5 (Qae r4_1 ls10))
  have r4_7 := (Qad r4_6 e7)
  have r4_8 := (Puts.row p8 r4_7 (Qae r4_6 l18))
  have r8_5 := (Qad r8_4 e5)
  have r8_6 := (ExtB.row q6 r8_5 (Qae rs8 ls10))
  have r8_7 := (Qad r8_6 e7)
  have r8_8 := (Puts.row p8 r8_7 (Qae r8_6 l18))
  refine Qa0 (fun v W' => ∃ u, v = .tuple #[u, .nilIface] ∧ OwnN .u8 5 W8.heap.size (fs) u W' ∧ ExtB gs8 W8 W' ∧ W'.heap[gs8]? = some (.cells (cat [ints .u8 (k1), #[.bool true], #[.int .i64 ((0 + 1 : Nat) : Int)], ints .u8 (c1), ints .u8 (dig (ch ++ fs))]) 123)) 33 #[.pointer (some ⟨gs8, 0, none⟩), .slice (some ⟨g18, 0, none⟩) 4 4] 18 rfl kj kj ((Qkc gs8 k1 c1 ch 0 [116, 101, 120, 116] fs es _ _ th tq tsc tsq _ hk1 hc1 hchl hchb r2_8 r1_8 r3_8 r4_8 (Qae hh ls8) (Qae hq ls8) (Qae hsc ls8) (Qae hsq ls8) r8_8 (by decide) hfb lfs (by decide) rd19).mono (by rintro e w' ⟨u, rfl, h1, h2, h3⟩; exact ⟨_, rfl, u, rfl, h1, h2, h3⟩)) fun v W9 h20 => ?_
  obtain ⟨u20_, rfl, hu20_, q9, r8_9⟩ := h20
  have x9 : Ext w W9 := ExtB.up x8 q9 bs8
  obtain ⟨a20_, c20_, rfl, -⟩ := id (OwnN.rd hu20_)
  refine Qaa (.tuple #[.slice a20_ ((fs).length) c20_, .nilIface]) 14 rfl kj kj ?_
  refine Qaa (.slice a20_ ((fs).length) c20_) 19 rfl kj kj ?_
  refine Qaa (.nilIface) 20 rfl kj kj ?_
  refine Qaa (.slice a20_ ((fs).length) c20_) 3 rfl kj kj ?_
  refine Qaa (.nilIface) 4 rfl kj kj ?_
  refine Qac ?_
  refine hK17 _ _ ?_
  refine wp_seq_k fun K21 hK21 => ?_
  refine wp_seq_k fun K22 hK22 => ?_
  refine Qab ?_
  refine Qaa (.nilIface) 21 rfl kj kj ?_
  refine Qaa (.bool false) 22 rfl kj kj ?_
  refine Qaa (.bool false) 23 rfl kj kj ?_
  refine Qaa (.slice a20_ ((fs).length) c20_) 24 rfl kj kj ?_
  refine Qaa (.int .i64 (((fs).length : Nat) : Int)) 25 rfl kj kj ?_
  refine Qaa (.bool false) 26 rfl kj (Qal (u := .bool (((((fs).length : Nat) : Int) != 20))) kj (congrArg Value.bool (bne_eq_false_iff_eq.2 (by rw [lfs]; rfl)))) ?_
  refine Qaa (.bool false) 27 rfl kj kj ?_
  refine Qac ?_
  refine hK22 _ _ ?_
  refine cond_false kj ?_
  refine wp_skip ?_
  refine hK21 _ _ ?_
  refine wp_seq_k fun K23 hK23 => ?_
  refine Qab ?_
  refine Qaa (.pointer (some ⟨gs10, 0, none⟩)) 29 rfl kj kj ?_
  refine Qaa (.slice a20_ ((fs).length) c20_) 30 rfl kj kj ?_
  have r2_9 := (ExtB.row q9 r2_8 (Qae hh ls8))
  have r1_9 := (ExtB.row q9 r1_8 (Qae hq ls8))
  have r3_9 := (ExtB.row q9 r3_8 (Qae hsc ls8))
  have r4_9 := (ExtB.row q9 r4_8 (Qae hsq ls8))
  have r10_7 := (Qad r10_6 e7)
  have r10_8 := (Puts.row p8 r10_7 (Qae r10_6 l18))
  have r10_9 := (ExtB.row q9 r10_8 (Qap rs8 ls10))
  refine Qa0 (fun v W' => ∃ u, v = .tuple #[u, .nilIface] ∧ OwnN .u8 5 W9.heap.size ([116, 101, 120, 116]) u W' ∧ ExtB gs10 W9 W' ∧ W'.heap[gs10]? = some (.cells (cat [ints .u8 (k1), #[.bool true], #[.int .i64 ((0 + 1 : Nat) : Int)], ints .u8 (c1), ints .u8 (dig (ch ++ fs))]) 123)) 34 #[.pointer (some ⟨gs10, 0, none⟩), .slice a20_ ((fs).length) c20_] 31 rfl kj kj ((QjL gs10 k1 c1 ch 0 [116, 101, 120, 116] fs es _ th tq tsc tsq _ hk1 hc1 hchl hchb r2_9 r1_9 r3_9 r4_9 (Qae r2_1 ls10) (Qae r1_1 ls10) (Qae r3_1 ls10) (Qae r4_1 ls10) r10_9 (by decide) hfb lfs htb (by decide) (fun W e => OwnN.rd (Qdc hu20_ e (QdP hu20_ (Qa8 r10_8))))).mono (by rintro e w' ⟨u, rfl, h1, h2, h3⟩; exact ⟨_, rfl, u, rfl, h1, h2, h3⟩)) fun v W10 h24 => ?_
  obtain ⟨u24_, rfl, hu24_, q10, r10_10⟩ := h24
  have x10 : Ext w W10 := ExtB.up x9 q10 bs10
  obtain ⟨a24_, c24_, rfl, -⟩ := id (OwnN.rd hu24_)
  refine Qaa (.tuple #[.slice a24_ (([116, 101, 120, 116]).length) c24_, .nilIface]) 28 rfl kj kj ?_
  refine Qaa (.slice a24_ (([116, 101, 120, 116]).length) c24_) 32 rfl kj kj ?_
  refine Qaa (.nilIface) 33 rfl kj kj ?_
  refine Qaa (.slice a24_ (([116, 101, 120, 116]).length) c24_) 5 rfl kj kj ?_
  refine Qaa (.nilIface) 4 rfl kj kj ?_
  refine Qac ?_
  refine hK23 _ _ ?_
  refine wp_seq_k fun K25 hK25 => ?_
  refine Qab ?_
  refine Qaa (.nilIface) 34 rfl kj kj ?_
  refine Qaa (.bool true) 35 rfl kj kj ?_
  refine Qaa (.bool true) 36 rfl kj kj ?_
  refine Qaa (.slice a24_ (([116, 101, 120, 116]).length) c24_) 37 rfl kj kj ?_
  refine Qaa (.string (Qdj [116, 101, 120, 116])) 38 rfl kj (Qeo (.tmp 37) (.slice a24_ (([116, 101, 120, 116]).length) c24_) rfl rfl [116, 101, 120, 116] (RdK.bytes (OwnN.rd hu24_) htb)) ?_
  refine Qaa (.bool true) 39 rfl kj kj ?_
  refine Qaa (.bool true) 40 rfl kj kj ?_
  refine Qaa (.bool true) 41 rfl kj kj ?_
  refine Qaa (.pointer (some ⟨gs8, 0, none⟩)) 42 rfl kj kj ?_
  have r8_10 := (ExtB.row q10 r8_9 (Qae rs8 ls10))
  refine Qax (.agg (ints .u8 (dig (ch ++ fs)))) 35 #[.pointer (some ⟨gs8, 0, none⟩)] 43 rfl kj kj (Qfg gs8 k1 c1 (dig (ch ++ fs)) true ((0 + 1 : Nat) : Int) _ hk1 hc1 (QaJ _) r8_10) fun W11 e11 => ?_
  have x11 : Ext w W11 := Ext.tr x10 e11
  refine Qaa (.pointer (some ⟨gs10, 0, none⟩)) 44 rfl kj kj ?_
  have r10_11 := (Qad r10_10 e11)
  refine Qax (.agg (ints .u8 (dig (ch ++ fs)))) 35 #[.pointer (some ⟨gs10, 0, none⟩)] 45 rfl kj kj (Qfg gs10 k1 c1 (dig (ch ++ fs)) true ((0 + 1 : Nat) : Int) _ hk1 hc1 (QaJ _) r10_11) fun W12 e12 => ?_
  have x12 : Ext w W12 := Ext.tr x11 e12
  refine Qaa (.bool true) 46 rfl kj (Qdk 29 _ _ _ _ _ (.bool true) rfl kj kj kj (Qev 29 (e := 5) (k := .u8) (dig (ch ++ fs)) (dig (ch ++ fs)) (decide_eq_true rfl) (QaJ _) (QaJ _) kj kj kj _)) ?_
  refine Qaa (.bool true) 47 rfl kj kj ?_
  refine Qaa (.bool true) 48 rfl kj kj ?_
  refine Qaa (.pointer (some ⟨gs8, 0, none⟩)) 49 rfl kj kj ?_
  have r8_11 := (Qad r8_10 e11)
  have r8_12 := (Qad r8_11 e12)
  refine Qax (.agg (ints .u8 (dig (ch ++ fs)))) 35 #[.pointer (some ⟨gs8, 0, none⟩)] 50 rfl kj kj (Qfg gs8 k1 c1 (dig (ch ++ fs)) true ((0 + 1 : Nat) : Int) _ hk1 hc1 (QaJ _) r8_12) fun W13 e13 => ?_
  have x13 : Ext w W13 := Ext.tr x12 e13
  refine Qaa (.agg (ints .u8 (List.replicate 32 0))) 51 rfl kj kj ?_
  refine Qaa (.bool true) 52 rfl kj (QcC 29 _ _ _ _ _ (.bool true) rfl kj kj kj (Qdw 29 (e := 5) (k := .u8) (dig (ch ++ fs)) (List.replicate 32 0) (decide_eq_false hne) (QaJ _) (List.length_replicate (n := 32)) kj kj kj _)) ?_
  refine Qaa (.bool true) 53 rfl kj kj ?_
  refine Qaa (.bool true) 0 rfl kj kj ?_
  refine Qac ?_
  refine hK25 _ _ ?_
  refine wp_ret ?_
  repeat (first | with_reducible refine goR1 ?_ | with_reducible refine goR2 ?_)
  exact (show bodyPost _ _ _ .ret _ _ from ret1 (.bool true) rfl (Qa9 kj) ⟨rfl, x13⟩)
end Go.Proofs.YtoiendjhplbjjaaDoor.Ci
end
