/- Poly1305: the marker, and its end. -/
import Derived.Test.YtjldjdlhllgakaaDoorAeE
import Derived.Laws.Externs
import Derived.Shelf.Spec.BitsCarry
import Derived.Shelf.Bits.Mul64
import Derived.Laws.Bits64b
namespace Go.Proofs.YtjldjdlhllgakaaDoor.Ae
open Go Go.RowKit
open Go.Proofs.YtjldjdlhllgakaaDoor.Rely Go.Proofs.YtjldjdlhllgakaaDoor.Auto Go.Proofs.YtjldjdlhllgakaaDoor.Own Go.Proofs.YtjldjdlhllgakaaDoor.Sha
set_option linter.unusedVariables false
set_option linter.unusedSimpArgs false

open Go.Proofs.YtjldjdlhllgakaaDoor.Sha Go.Proofs.YtjldjdlhllgakaaDoor.Cha
/-- the same, of a whole key -/
def clampK (b : List Int) : List Int :=
  let b1 := b.set 3 (nth b 3 % 16)
  let b2 := b1.set 7 (nth b1 7 % 16)
  let b3 := b2.set 11 (nth b2 11 % 16)
  let b4 := b3.set 15 (nth b3 15 % 16)
  let b5 := b4.set 4 (nth b4 4 / 4 * 4)
  let b6 := b5.set 8 (nth b5 8 / 4 * 4)
  let b7 := b6.set 12 (nth b6 12 / 4 * 4)
  b7
theorem clampK_take : ∀ key : List Int, key.length = 32 → ((clampK key).drop 0).take (16 - 0) = clampR ((key.drop 0).take (16 - 0))
  | [a0, a1, a2, a3, a4, a5, a6, a7, a8, a9, a10, a11, a12, a13, a14, a15, a16, a17, a18, a19, a20, a21, a22, a23, a24, a25, a26, a27, a28, a29, a30, a31], _ => by kernel_rfl
theorem and15 (x : Int) (h : 0 ≤ x ∧ x < 256) : bits .and .u8 x 15 = x % 16 := by
  have : ∀ n : Fin 256, bits .and .u8 ((n.1 : Nat) : Int) 15 = ((n.1 : Nat) : Int) % 16 := by decide +kernel
  obtain ⟨X, rfl⟩ := Int.eq_ofNat_of_zero_le h.1
  exact this ⟨X, by omega⟩
theorem and252 (x : Int) (h : 0 ≤ x ∧ x < 256) : bits .and .u8 x 252 = x / 4 * 4 := by
  have : ∀ n : Fin 256, bits .and .u8 ((n.1 : Nat) : Int) 252 = ((n.1 : Nat) : Int) / 4 * 4 := by decide +kernel
  obtain ⟨X, rfl⟩ := Int.eq_ofNat_of_zero_le h.1
  exact this ⟨X, by omega⟩
theorem polyT_0 {r : Int} {t : List Int} {q : Nat} (h : t.length = 16 * q + 0) : polyT r t = polyN r t q := by unfold polyT; rw [show (t.length + 15) / 16 = q by omega]
theorem stepE {r S : Int} {t : List Int} {q m : Nat} (hu : t.length = 16 * q + m) (h0 : 0 < m) (hm : m < 16) (hS : S % PP = polyN r t q) : turnV r S (t.drop (16 * q)) % PP = polyT r t := by
  unfold polyT
  rw [show (t.length + 15) / 16 = q + 1 by omega]
  unfold polyN turnV
  rw [List.take_of_length_le (by rw [List.length_drop]; omega)]
  exact small_next hS (mulV_mod _)
theorem geq4 (S : Int) (h0 : 0 ≤ S) (h : S < 2041694201525630780780247644590609268736) : decide (nth (nw3 (S + 5)) 2 ≥ 4) = decide (1361129467683753853853498429727072845824 ≤ S + 5) := by
  have e : nth (nw3 (S + 5)) 2 = (S + 5) / 340282366920938463463374607431768211456 % 18446744073709551616 := rfl
  rw [e]
  exact decide_eq_decide.2 (by omega)
theorem by16_add (x : Int) : by16 (x + 1361129467683753853853498429727072845824) = by16 x := by
  unfold by16
  refine List.map_congr_left fun i hi => ?_
  rw [List.mem_range] at hi
  have h1 : (1361129467683753853853498429727072845824 : Int) = p256 i * (256 * (4 * p256 (15 - i))) := by
    have h2 : p256 16 = p256 i * p256 (16 - i) := by rw [← p256_add]; congr 1; omega
    rw [show 16 - i = (15 - i) + 1 by omega, p256_succ (15 - i), p16] at h2
    grind
  rw [h1, Int.add_mul_ediv_left _ _ (Int.ne_of_gt (p256_pos i))]
  omega
theorem ediv_mul (a : Int) (b c : Nat) : a / p256 b / p256 c = a / p256 (b + c) := by
  rw [p256_add, Int.ediv_ediv, if_neg (by have := p256_pos b; omega)]; exact Int.sub_zero _
theorem out_byte (V : Int) (i : Nat) (hi : i < 16) : IntKind.u8.wrap (nth (nw3 V) (i / 8) / p256 (i % 8)) = nth (by16 V) i := by
  have h3 : ∀ z : Int, IntKind.u8.wrap z = z % 256 := fun _ => rfl
  have hp8 : p256 8 = 18446744073709551616 := by decide +kernel
  rw [h3, by16_nth _ _ hi]
  have hB : (18446744073709551616 : Int) = p256 (i % 8) * (256 * p256 (7 - i % 8)) := by
    have h2 : p256 8 = p256 (i % 8) * p256 (8 - i % 8) := by rw [← p256_add]; congr 1; omega
    rw [show 8 - i % 8 = (7 - i % 8) + 1 by omega, p256_succ (7 - i % 8), hp8] at h2
    exact h2
  have key : ∀ x : Int, x % 18446744073709551616 / p256 (i % 8) % 256 = x / p256 (i % 8) % 256 := fun x => by
    have h5 : x = x % 18446744073709551616 + p256 (i % 8) * (256 * (p256 (7 - i % 8) * (x / 18446744073709551616))) := by
      have h6 : x = x % 18446744073709551616 + 18446744073709551616 * (x / 18446744073709551616) := (Int.emod_add_mul_ediv x _).symm
      have h7 : (18446744073709551616 : Int) * (x / 18446744073709551616) = p256 (i % 8) * (256 * (p256 (7 - i % 8) * (x / 18446744073709551616))) := by
        generalize x / 18446744073709551616 = y at *
        rw [hB]; grind
      omega
    have h8 : x / p256 (i % 8) = x % 18446744073709551616 / p256 (i % 8) + 256 * (p256 (7 - i % 8) * (x / 18446744073709551616)) := by
      have h9 := Int.add_mul_ediv_left (x % 18446744073709551616) (256 * (p256 (7 - i % 8) * (x / 18446744073709551616))) (Int.ne_of_gt (p256_pos (i % 8)))
      rw [← h5] at h9
      exact h9
    omega
  rcases (show i / 8 = 0 ∨ i / 8 = 1 by omega) with h | h
  · rw [h]
    show V % 18446744073709551616 / p256 (i % 8) % 256 = _
    rw [key, show i % 8 = i by omega]
  · rw [h]
    show V / 18446744073709551616 % 18446744073709551616 / p256 (i % 8) % 256 = _
    rw [key, ← hp8, ediv_mul, show 8 + i % 8 = i by omega]
theorem shr8 (q : Int) (t : Nat) (c : Int) (hc : c = ((8 * t : Nat) : Int)) (ht : t < 8) : q.fdiv (2 ^ min c.toNat IntKind.u64.bits) = q / p256 t := by
  subst hc
  have hm : min (((8 * t : Nat) : Int)).toNat IntKind.u64.bits = 8 * t := by show min (((8 * t : Nat) : Int)).toNat 64 = 8 * t; omega
  have e : (2 : Int) ^ (8 * t) = p256 t := by unfold p256; rw [Int.pow_mul]; rfl
  rw [hm, e, Int.fdiv_eq_ediv_of_nonneg _ (Int.le_of_lt (p256_pos t))]
theorem bset16 {b : List Int} (h : AreBytes b) (i : Nat) : AreBytes (b.set i (nth b i % 16)) := bytes_set h _ (by omega) (by omega)
theorem bset4 {b : List Int} (h : AreBytes b) (i : Nat) : AreBytes (b.set i (nth b i / 4 * 4)) := bytes_set h _ (by have := bytes_nth h i; omega) (by have := bytes_nth h i; omega)
theorem rOf_lt (key : List Int) (hkl : key.length = 32) (hkb : AreBytes key) : 0 ≤ rOf key ∧ rOf key < 21267647932558653966460912964485513216 := by
  unfold rOf
  obtain ⟨b0, e0⟩ : ∃ z, z = (key.drop 0).take (16 - 0) := ⟨_, rfl⟩
  have hl0 : b0.length = 16 := by rw [e0, List.length_take, List.length_drop, hkl]; rfl
  have hb0 : AreBytes b0 := e0 ▸ bytes_take (bytes_drop hkb 0) _
  rw [← e0]
  have hcb : AreBytes (clampR b0) := by
    exact bset4 (bset4 (bset4 (bset16 (bset16 (bset16 (bset16 hb0 3) 7) 11) 15) 4) 8) 12
  have hl : (clampR b0).length = 16 := by unfold clampR; simp only [List.length_set, hl0]
  have h15 : nth (clampR b0) 15 ≤ 15 := by
    obtain ⟨x15, e15⟩ : ∃ x, nth (clampR b0) 15 = x % 16 := by
      match b0, hl0 with
      | [a0, a1, a2, a3, a4, a5, a6, a7, a8, a9, a10, a11, a12, a13, a14, a15], _ => exact ⟨a15, rfl⟩
    rw [e15]; omega
  have h1 := lev_take_succ (clampR b0) 15 (by omega)
  rw [List.take_of_length_le (by omega)] at h1
  have h2 := lev_lt (bytes_take hcb 15)
  have h3 := lev_nonneg hcb
  rw [List.length_take, Nat.min_eq_left (by omega)] at h2
  have hp15 : p256 15 = 1329227995784915872903807060280344576 := by decide +kernel
  rw [hp15] at h1 h2
  omega
theorem sOf_lt (key : List Int) (hkl : key.length = 32) (hkb : AreBytes key) : 0 ≤ sOf key ∧ sOf key < 340282366920938463463374607431768211456 := by
  unfold sOf
  have h1 := lev_lt (bytes_take (bytes_drop hkb 16) (32 - 16))
  rw [List.length_take, List.length_drop, hkl] at h1
  exact ⟨lev_nonneg (bytes_take (bytes_drop hkb 16) _), by rw [← p16]; exact h1⟩
set_option maxRecDepth 100000 in
set_option maxHeartbeats 4000000 in
theorem newMarkerC (key : List Int) (w : World) (hkl : key.length = 32) (hkb : AreBytes key) : Calls Tryd.prog 24 #[.agg (ints .u8 key)] w (Gives w (fun v W => ∃ g, v = .pointer (some ⟨g, 0, none⟩) ∧ w.heap.size ≤ g ∧ Mk g (rOf key) (sOf key) [] W)) := by
  refine enter 35 [(0, .agg (ints .u8 (key)))] Tryd.func24 rfl rfl kj rfl ?_
  refine wp_seq_k fun K1 hK1 => ?_
  refine region_lit ?_
  refine seq_alloc (ints .u8 (key)) 23 1 rfl kj kj fun g2 W1 l2 e1 r2_1 => ?_
  have x1 : Ext w W1 := Ext.tr (Rely.Ext.refl w) e1
  have b2 : w.heap.size ≤ g2 := Nat.le_trans (Rely.Ext.refl w).size l2
  refine seq_val (.pointer none) 2 rfl kj kj ?_
  refine seq_nil ?_
  refine hK1 _ _ ?_
  try clear hK1 K1
  refine wp_seq_k fun K3 hK3 => ?_
  refine region_lit ?_
  refine seq_val (.slice (some ⟨g2, 0 + 16, none⟩) (32 - 16) (32 - 16)) 8 rfl kj (run_sliceA 23 _ _ _ 16 32 32 g2 0 5 rfl kj kj kj ⟨.i64, by kernel_rfl⟩ rfl (by omega) (by omega) (by omega)) ?_
  refine seq_call (.agg (ints .u64 (nw3 (lev ((key.drop 16).take (32 - 16)))))) 38 #[.slice (some ⟨g2, 0 + 16, none⟩) (32 - 16) (32 - 16)] 9 rfl kj kj ((valueC ((key.drop 16).take (32 - 16)) _ _ _ (rdK_arr (l := 16) (h := 32) hkl r2_1 (by decide) (by decide) (by decide)) (by rw [List.length_take]; omega) (bytes_take (bytes_drop hkb 16) _))) fun W2 e2 => ?_
  have x2 : Ext w W2 := Ext.tr x1 e2
  refine seq_alloc (ints .u64 ([0, 0, 0])) 66 3 rfl kj kj fun g4 W3 l4 e3 r4_3 => ?_
  have x3 : Ext w W3 := Ext.tr x2 e3
  have b4 : w.heap.size ≤ g4 := Nat.le_trans x2.size l4
  refine seq_store g4 _ (ints .u64 (nw3 (lev ((key.drop 16).take (32 - 16))))) 66 r4_3 rfl kj (run_store_row 66 _ _ g4 66 _ _ r4_3 rfl kj kj (isz (n := 3) kj ((ints_size _ _).trans (nw3_len _))) (eqsz (n := 3) kj ((ints_size _ _).trans (nw3_len _))) (ints_one _ _)) fun W4 p4 r4_4 => ?_
  have x4 : Ext w W4 := Puts.ext p4 x3 b4
  refine seq_nil ?_
  refine hK3 _ _ ?_
  try clear hK3 K3
  refine wp_seq_k fun K5 hK5 => ?_
  refine wp_seq_k fun K6 hK6 => ?_
  refine region_lit ?_
  refine seq_val (.agg (ints .i64 ([3, 7, 11, 15]))) 10 rfl kj kj ?_
  refine seq_val (.int .i64 0) 11 rfl kj kj ?_
  refine seq_nil ?_
  refine hK6 _ _ ?_
  try clear hK6 K6
  refine wp_block ?_
  refine wp_loop_rounds 5 ?_
  show Code.wp _ _ (Exit.then (Code.rounds _ _ _ 4) _) _ _
  refine wp_seq_k fun K7 hK7 => ?_
  refine region_lit ?_
  refine seq_val (.bool true) 12 rfl kj kj ?_
  refine seq_nil ?_
  refine hK7 _ _ ?_
  try clear hK7 K7
  refine wp_seq_k fun K8 hK8 => ?_
  refine cond_true kj ?_
  refine wp_skip ?_
  refine hK8 _ _ ?_
  try clear hK8 K8
  refine wp_seq_k fun K9 hK9 => ?_
  refine wp_block ?_
  refine wp_seq_k fun K10 hK10 => ?_
  refine region_lit ?_
  refine seq_val (.int .i64 3) 13 rfl kj (run_index_il 68 _ _ .i64 .i64 ([3, 7, 11, 15]) 0 4 3 3 rfl kj kj kj kj kj rfl (by decide) rfl) ?_
  refine seq_val (.int .i64 3) 5 rfl kj kj ?_
  refine seq_nil ?_
  refine hK10 _ _ ?_
  try clear hK10 K10
  refine region_lit ?_
  refine seq_val (.int .i64 3) 14 rfl kj kj ?_
  refine seq_val (.pointer (some ⟨g2, 3, none⟩)) 15 rfl kj kj ?_
  have r2_2 := (row_ext r2_1 e2)
  have r2_3 := (row_ext r2_2 e3)
  have r2_4 := (Puts.row p4 r2_3 (ne_of_old r2_2 l4))
  refine seq_val (.int .u8 (nth (key) 3)) 16 rfl kj (run_loadC1 5 _ g2 3 23 _ (.int .u8 (nth (key) 3)) _ r2_4 rfl kj (ints_get _ _ _ (Nat.lt_of_lt_of_eq (by decide) hkl.symm)) kj) ?_
  refine seq_val (.int .u8 (nth key 3 % 16)) 17 rfl kj (run_eq (u := .int .u8 (bits .and .u8 ((nth (key) 3)) (15))) kj (congrArg (Value.int .u8) (and15 _ (bytes_nth hkb 3)))) ?_
  refine seq_val (.pointer (some ⟨g2, 3, none⟩)) 18 rfl kj kj ?_
  refine seq_store g2 _ (ints .u8 ((key).set 3 (nth key 3 % 16))) 23 r2_4 rfl kj (run_storeI 5 _ _ g2 3 23 _ _ r2_4 rfl kj kj kj (Nat.lt_of_lt_of_eq (show 3 < 32 by decide) hkl.symm)) fun W5 p5 r2_5 => ?_
  have x5 : Ext w W5 := Puts.ext p5 x4 b2
  obtain ⟨c1_, ec1_⟩ : ∃ z, z = (key).set 3 (nth key 3 % 16) := ⟨_, rfl⟩
  have hlc1_ : c1_.length = 32 := by rw [ec1_, List.length_set, hkl]
  have hxc1_ := bytes_nth hkb 3
  have hbc1_ : AreBytes c1_ := ec1_ ▸ bytes_set hkb _ (by omega) (by omega)
  have r2_5_11 : W5.heap[g2]? = some (.cells (ints .u8 (c1_)) 23) := row_eq r2_5 (by rw [ec1_])
  refine seq_nil ?_
  refine hK9 _ _ ?_
  try clear hK9 K9
  refine region_lit ?_
  refine seq_val (.int .i64 1) 19 rfl kj kj ?_
  refine seq_val (.int .i64 1) 11 rfl kj kj ?_
  refine seq_nil ?_
  show Code.rounds _ _ _ 4 _ _
  show Code.wp _ _ (Exit.then (Code.rounds _ _ _ 3) _) _ _
  refine wp_seq_k fun K12 hK12 => ?_
  refine region_lit ?_
  refine seq_val (.bool true) 12 rfl kj kj ?_
  refine seq_nil ?_
  refine hK12 _ _ ?_
  try clear hK12 K12
  refine wp_seq_k fun K13 hK13 => ?_
  refine cond_true kj ?_
  refine wp_skip ?_
  refine hK13 _ _ ?_
  try clear hK13 K13
  refine wp_seq_k fun K14 hK14 => ?_
  refine wp_block ?_
  refine wp_seq_k fun K15 hK15 => ?_
  refine region_lit ?_
  refine seq_val (.int .i64 7) 13 rfl kj (run_index_il 68 _ _ .i64 .i64 ([3, 7, 11, 15]) 1 4 3 7 rfl kj kj kj kj kj rfl (by decide) rfl) ?_
  refine seq_val (.int .i64 7) 5 rfl kj kj ?_
  refine seq_nil ?_
  refine hK15 _ _ ?_
  try clear hK15 K15
  refine region_lit ?_
  refine seq_val (.int .i64 7) 14 rfl kj kj ?_
  refine seq_val (.pointer (some ⟨g2, 7, none⟩)) 15 rfl kj kj ?_
  refine seq_val (.int .u8 (nth (c1_) 7)) 16 rfl kj (run_loadC1 5 _ g2 7 23 _ (.int .u8 (nth (c1_) 7)) _ r2_5_11 rfl kj (ints_get _ _ _ (Nat.lt_of_lt_of_eq (by decide) hlc1_.symm)) kj) ?_
  refine seq_val (.int .u8 (nth c1_ 7 % 16)) 17 rfl kj (run_eq (u := .int .u8 (bits .and .u8 ((nth (c1_) 7)) (15))) kj (congrArg (Value.int .u8) (and15 _ (bytes_nth hbc1_ 7)))) ?_
  refine seq_val (.pointer (some ⟨g2, 7, none⟩)) 18 rfl kj kj ?_
  refine seq_store g2 _ (ints .u8 ((c1_).set 7 (nth c1_ 7 % 16))) 23 r2_5_11 rfl kj (run_storeI 5 _ _ g2 7 23 _ _ r2_5_11 rfl kj kj kj (Nat.lt_of_lt_of_eq (show 7 < 32 by decide) hlc1_.symm)) fun W6 p6 r2_6 => ?_
  have x6 : Ext w W6 := Puts.ext p6 x5 b2
  obtain ⟨c2_, ec2_⟩ : ∃ z, z = (c1_).set 7 (nth c1_ 7 % 16) := ⟨_, rfl⟩
  have hlc2_ : c2_.length = 32 := by rw [ec2_, List.length_set, hlc1_]
  have hxc2_ := bytes_nth hbc1_ 7
  have hbc2_ : AreBytes c2_ := ec2_ ▸ bytes_set hbc1_ _ (by omega) (by omega)
  have r2_6_16 : W6.heap[g2]? = some (.cells (ints .u8 (c2_)) 23) := row_eq r2_6 (by rw [ec2_])
  refine seq_nil ?_
  refine hK14 _ _ ?_
  try clear hK14 K14
  refine region_lit ?_
  refine seq_val (.int .i64 2) 19 rfl kj kj ?_
  refine seq_val (.int .i64 2) 11 rfl kj kj ?_
  refine seq_nil ?_
  show Code.rounds _ _ _ 3 _ _
  show Code.wp _ _ (Exit.then (Code.rounds _ _ _ 2) _) _ _
  refine wp_seq_k fun K17 hK17 => ?_
  refine region_lit ?_
  refine seq_val (.bool true) 12 rfl kj kj ?_
  refine seq_nil ?_
  refine hK17 _ _ ?_
  try clear hK17 K17
  refine wp_seq_k fun K18 hK18 => ?_
  refine cond_true kj ?_
  refine wp_skip ?_
  refine hK18 _ _ ?_
  try clear hK18 K18
  refine wp_seq_k fun K19 hK19 => ?_
  refine wp_block ?_
  refine wp_seq_k fun K20 hK20 => ?_
  refine region_lit ?_
  refine seq_val (.int .i64 11) 13 rfl kj (run_index_il 68 _ _ .i64 .i64 ([3, 7, 11, 15]) 2 4 3 11 rfl kj kj kj kj kj rfl (by decide) rfl) ?_
  refine seq_val (.int .i64 11) 5 rfl kj kj ?_
  refine seq_nil ?_
  refine hK20 _ _ ?_
  try clear hK20 K20
  refine region_lit ?_
  refine seq_val (.int .i64 11) 14 rfl kj kj ?_
  refine seq_val (.pointer (some ⟨g2, 11, none⟩)) 15 rfl kj kj ?_
  refine seq_val (.int .u8 (nth (c2_) 11)) 16 rfl kj (run_loadC1 5 _ g2 11 23 _ (.int .u8 (nth (c2_) 11)) _ r2_6_16 rfl kj (ints_get _ _ _ (Nat.lt_of_lt_of_eq (by decide) hlc2_.symm)) kj) ?_
  refine seq_val (.int .u8 (nth c2_ 11 % 16)) 17 rfl kj (run_eq (u := .int .u8 (bits .and .u8 ((nth (c2_) 11)) (15))) kj (congrArg (Value.int .u8) (and15 _ (bytes_nth hbc2_ 11)))) ?_
  refine seq_val (.pointer (some ⟨g2, 11, none⟩)) 18 rfl kj kj ?_
  refine seq_store g2 _ (ints .u8 ((c2_).set 11 (nth c2_ 11 % 16))) 23 r2_6_16 rfl kj (run_storeI 5 _ _ g2 11 23 _ _ r2_6_16 rfl kj kj kj (Nat.lt_of_lt_of_eq (show 11 < 32 by decide) hlc2_.symm)) fun W7 p7 r2_7 => ?_
  have x7 : Ext w W7 := Puts.ext p7 x6 b2
  obtain ⟨c3_, ec3_⟩ : ∃ z, z = (c2_).set 11 (nth c2_ 11 % 16) := ⟨_, rfl⟩
  have hlc3_ : c3_.length = 32 := by rw [ec3_, List.length_set, hlc2_]
  have hxc3_ := bytes_nth hbc2_ 11
  have hbc3_ : AreBytes c3_ := ec3_ ▸ bytes_set hbc2_ _ (by omega) (by omega)
  have r2_7_21 : W7.heap[g2]? = some (.cells (ints .u8 (c3_)) 23) := row_eq r2_7 (by rw [ec3_])
  refine seq_nil ?_
  refine hK19 _ _ ?_
  try clear hK19 K19
  refine region_lit ?_
  refine seq_val (.int .i64 3) 19 rfl kj kj ?_
  refine seq_val (.int .i64 3) 11 rfl kj kj ?_
  refine seq_nil ?_
  show Code.rounds _ _ _ 2 _ _
  show Code.wp _ _ (Exit.then (Code.rounds _ _ _ 1) _) _ _
  refine wp_seq_k fun K22 hK22 => ?_
  refine region_lit ?_
  refine seq_val (.bool true) 12 rfl kj kj ?_
  refine seq_nil ?_
  refine hK22 _ _ ?_
  try clear hK22 K22
  refine wp_seq_k fun K23 hK23 => ?_
  refine cond_true kj ?_
  refine wp_skip ?_
  refine hK23 _ _ ?_
  try clear hK23 K23
  refine wp_seq_k fun K24 hK24 => ?_
  refine wp_block ?_
  refine wp_seq_k fun K25 hK25 => ?_
  refine region_lit ?_
  refine seq_val (.int .i64 15) 13 rfl kj (run_index_il 68 _ _ .i64 .i64 ([3, 7, 11, 15]) 3 4 3 15 rfl kj kj kj kj kj rfl (by decide) rfl) ?_
  refine seq_val (.int .i64 15) 5 rfl kj kj ?_
  refine seq_nil ?_
  refine hK25 _ _ ?_
  try clear hK25 K25
  refine region_lit ?_
  refine seq_val (.int .i64 15) 14 rfl kj kj ?_
  refine seq_val (.pointer (some ⟨g2, 15, none⟩)) 15 rfl kj kj ?_
  refine seq_val (.int .u8 (nth (c3_) 15)) 16 rfl kj (run_loadC1 5 _ g2 15 23 _ (.int .u8 (nth (c3_) 15)) _ r2_7_21 rfl kj (ints_get _ _ _ (Nat.lt_of_lt_of_eq (by decide) hlc3_.symm)) kj) ?_
  refine seq_val (.int .u8 (nth c3_ 15 % 16)) 17 rfl kj (run_eq (u := .int .u8 (bits .and .u8 ((nth (c3_) 15)) (15))) kj (congrArg (Value.int .u8) (and15 _ (bytes_nth hbc3_ 15)))) ?_
  refine seq_val (.pointer (some ⟨g2, 15, none⟩)) 18 rfl kj kj ?_
  refine seq_store g2 _ (ints .u8 ((c3_).set 15 (nth c3_ 15 % 16))) 23 r2_7_21 rfl kj (run_storeI 5 _ _ g2 15 23 _ _ r2_7_21 rfl kj kj kj (Nat.lt_of_lt_of_eq (show 15 < 32 by decide) hlc3_.symm)) fun W8 p8 r2_8 => ?_
  have x8 : Ext w W8 := Puts.ext p8 x7 b2
  obtain ⟨c4_, ec4_⟩ : ∃ z, z = (c3_).set 15 (nth c3_ 15 % 16) := ⟨_, rfl⟩
  have hlc4_ : c4_.length = 32 := by rw [ec4_, List.length_set, hlc3_]
  have hxc4_ := bytes_nth hbc3_ 15
  have hbc4_ : AreBytes c4_ := ec4_ ▸ bytes_set hbc3_ _ (by omega) (by omega)
  have r2_8_26 : W8.heap[g2]? = some (.cells (ints .u8 (c4_)) 23) := row_eq r2_8 (by rw [ec4_])
  refine seq_nil ?_
  refine hK24 _ _ ?_
  try clear hK24 K24
  refine region_lit ?_
  refine seq_val (.int .i64 4) 19 rfl kj kj ?_
  refine seq_val (.int .i64 4) 11 rfl kj kj ?_
  refine seq_nil ?_
  show Code.rounds _ _ _ 1 _ _
  show Code.wp _ _ (Exit.then (Code.rounds _ _ _ 0) _) _ _
  refine wp_seq_k fun K27 hK27 => ?_
  refine region_lit ?_
  refine seq_val (.bool false) 12 rfl kj kj ?_
  refine seq_nil ?_
  refine hK27 _ _ ?_
  try clear hK27 K27
  refine wp_seq_k fun K28 hK28 => ?_
  refine cond_false kj ?_
  refine wp_exit ?_
  refine hK5 _ _ ?_
  try clear hK5 K5
  refine wp_seq_k fun K29 hK29 => ?_
  refine wp_seq_k fun K30 hK30 => ?_
  refine region_lit ?_
  refine seq_val (.agg (ints .i64 ([4, 8, 12]))) 20 rfl kj kj ?_
  refine seq_val (.int .i64 0) 21 rfl kj kj ?_
  refine seq_nil ?_
  refine hK30 _ _ ?_
  try clear hK30 K30
  refine wp_block ?_
  refine wp_loop_rounds 4 ?_
  show Code.wp _ _ (Exit.then (Code.rounds _ _ _ 3) _) _ _
  refine wp_seq_k fun K31 hK31 => ?_
  refine region_lit ?_
  refine seq_val (.bool true) 22 rfl kj kj ?_
  refine seq_nil ?_
  refine hK31 _ _ ?_
  try clear hK31 K31
  refine wp_seq_k fun K32 hK32 => ?_
  refine cond_true kj ?_
  refine wp_skip ?_
  refine hK32 _ _ ?_
  try clear hK32 K32
  refine wp_seq_k fun K33 hK33 => ?_
  refine wp_block ?_
  refine wp_seq_k fun K34 hK34 => ?_
  refine region_lit ?_
  refine seq_val (.int .i64 4) 23 rfl kj (run_index_il 69 _ _ .i64 .i64 ([4, 8, 12]) 0 3 3 4 rfl kj kj kj kj kj rfl (by decide) rfl) ?_
  refine seq_val (.int .i64 4) 7 rfl kj kj ?_
  refine seq_nil ?_
  refine hK34 _ _ ?_
  try clear hK34 K34
  refine region_lit ?_
  refine seq_val (.int .i64 4) 24 rfl kj kj ?_
  refine seq_val (.pointer (some ⟨g2, 4, none⟩)) 25 rfl kj kj ?_
  refine seq_val (.int .u8 (nth (c4_) 4)) 26 rfl kj (run_loadC1 5 _ g2 4 23 _ (.int .u8 (nth (c4_) 4)) _ r2_8_26 rfl kj (ints_get _ _ _ (Nat.lt_of_lt_of_eq (by decide) hlc4_.symm)) kj) ?_
  refine seq_val (.int .u8 (nth c4_ 4 / 4 * 4)) 27 rfl kj (run_eq (u := .int .u8 (bits .and .u8 ((nth (c4_) 4)) (252))) kj (congrArg (Value.int .u8) (and252 _ (bytes_nth hbc4_ 4)))) ?_
  refine seq_val (.pointer (some ⟨g2, 4, none⟩)) 28 rfl kj kj ?_
  refine seq_store g2 _ (ints .u8 ((c4_).set 4 (nth c4_ 4 / 4 * 4))) 23 r2_8_26 rfl kj (run_storeI 5 _ _ g2 4 23 _ _ r2_8_26 rfl kj kj kj (Nat.lt_of_lt_of_eq (show 4 < 32 by decide) hlc4_.symm)) fun W9 p9 r2_9 => ?_
  have x9 : Ext w W9 := Puts.ext p9 x8 b2
  obtain ⟨c5_, ec5_⟩ : ∃ z, z = (c4_).set 4 (nth c4_ 4 / 4 * 4) := ⟨_, rfl⟩
  have hlc5_ : c5_.length = 32 := by rw [ec5_, List.length_set, hlc4_]
  have hxc5_ := bytes_nth hbc4_ 4
  have hbc5_ : AreBytes c5_ := ec5_ ▸ bytes_set hbc4_ _ (by omega) (by omega)
  have r2_9_35 : W9.heap[g2]? = some (.cells (ints .u8 (c5_)) 23) := row_eq r2_9 (by rw [ec5_])
  refine seq_nil ?_
  refine hK33 _ _ ?_
  try clear hK33 K33
  refine region_lit ?_
  refine seq_val (.int .i64 1) 29 rfl kj kj ?_
  refine seq_val (.int .i64 1) 21 rfl kj kj ?_
  refine seq_nil ?_
  show Code.rounds _ _ _ 3 _ _
  show Code.wp _ _ (Exit.then (Code.rounds _ _ _ 2) _) _ _
  refine wp_seq_k fun K36 hK36 => ?_
  refine region_lit ?_
  refine seq_val (.bool true) 22 rfl kj kj ?_
  refine seq_nil ?_
  refine hK36 _ _ ?_
  try clear hK36 K36
  refine wp_seq_k fun K37 hK37 => ?_
  refine cond_true kj ?_
  refine wp_skip ?_
  refine hK37 _ _ ?_
  try clear hK37 K37
  refine wp_seq_k fun K38 hK38 => ?_
  refine wp_block ?_
  refine wp_seq_k fun K39 hK39 => ?_
  refine region_lit ?_
  refine seq_val (.int .i64 8) 23 rfl kj (run_index_il 69 _ _ .i64 .i64 ([4, 8, 12]) 1 3 3 8 rfl kj kj kj kj kj rfl (by decide) rfl) ?_
  refine seq_val (.int .i64 8) 7 rfl kj kj ?_
  refine seq_nil ?_
  refine hK39 _ _ ?_
  try clear hK39 K39
  refine region_lit ?_
  refine seq_val (.int .i64 8) 24 rfl kj kj ?_
  refine seq_val (.pointer (some ⟨g2, 8, none⟩)) 25 rfl kj kj ?_
  refine seq_val (.int .u8 (nth (c5_) 8)) 26 rfl kj (run_loadC1 5 _ g2 8 23 _ (.int .u8 (nth (c5_) 8)) _ r2_9_35 rfl kj (ints_get _ _ _ (Nat.lt_of_lt_of_eq (by decide) hlc5_.symm)) kj) ?_
  refine seq_val (.int .u8 (nth c5_ 8 / 4 * 4)) 27 rfl kj (run_eq (u := .int .u8 (bits .and .u8 ((nth (c5_) 8)) (252))) kj (congrArg (Value.int .u8) (and252 _ (bytes_nth hbc5_ 8)))) ?_
  refine seq_val (.pointer (some ⟨g2, 8, none⟩)) 28 rfl kj kj ?_
  refine seq_store g2 _ (ints .u8 ((c5_).set 8 (nth c5_ 8 / 4 * 4))) 23 r2_9_35 rfl kj (run_storeI 5 _ _ g2 8 23 _ _ r2_9_35 rfl kj kj kj (Nat.lt_of_lt_of_eq (show 8 < 32 by decide) hlc5_.symm)) fun W10 p10 r2_10 => ?_
  have x10 : Ext w W10 := Puts.ext p10 x9 b2
  obtain ⟨c6_, ec6_⟩ : ∃ z, z = (c5_).set 8 (nth c5_ 8 / 4 * 4) := ⟨_, rfl⟩
  have hlc6_ : c6_.length = 32 := by rw [ec6_, List.length_set, hlc5_]
  have hxc6_ := bytes_nth hbc5_ 8
  have hbc6_ : AreBytes c6_ := ec6_ ▸ bytes_set hbc5_ _ (by omega) (by omega)
  have r2_10_40 : W10.heap[g2]? = some (.cells (ints .u8 (c6_)) 23) := row_eq r2_10 (by rw [ec6_])
  refine seq_nil ?_
  refine hK38 _ _ ?_
  try clear hK38 K38
  refine region_lit ?_
  refine seq_val (.int .i64 2) 29 rfl kj kj ?_
  refine seq_val (.int .i64 2) 21 rfl kj kj ?_
  refine seq_nil ?_
  show Code.rounds _ _ _ 2 _ _
  show Code.wp _ _ (Exit.then (Code.rounds _ _ _ 1) _) _ _
  refine wp_seq_k fun K41 hK41 => ?_
  refine region_lit ?_
  refine seq_val (.bool true) 22 rfl kj kj ?_
  refine seq_nil ?_
  refine hK41 _ _ ?_
  try clear hK41 K41
  refine wp_seq_k fun K42 hK42 => ?_
  refine cond_true kj ?_
  refine wp_skip ?_
  refine hK42 _ _ ?_
  try clear hK42 K42
  refine wp_seq_k fun K43 hK43 => ?_
  refine wp_block ?_
  refine wp_seq_k fun K44 hK44 => ?_
  refine region_lit ?_
  refine seq_val (.int .i64 12) 23 rfl kj (run_index_il 69 _ _ .i64 .i64 ([4, 8, 12]) 2 3 3 12 rfl kj kj kj kj kj rfl (by decide) rfl) ?_
  refine seq_val (.int .i64 12) 7 rfl kj kj ?_
  refine seq_nil ?_
  refine hK44 _ _ ?_
  try clear hK44 K44
  refine region_lit ?_
  refine seq_val (.int .i64 12) 24 rfl kj kj ?_
  refine seq_val (.pointer (some ⟨g2, 12, none⟩)) 25 rfl kj kj ?_
  refine seq_val (.int .u8 (nth (c6_) 12)) 26 rfl kj (run_loadC1 5 _ g2 12 23 _ (.int .u8 (nth (c6_) 12)) _ r2_10_40 rfl kj (ints_get _ _ _ (Nat.lt_of_lt_of_eq (by decide) hlc6_.symm)) kj) ?_
  refine seq_val (.int .u8 (nth c6_ 12 / 4 * 4)) 27 rfl kj (run_eq (u := .int .u8 (bits .and .u8 ((nth (c6_) 12)) (252))) kj (congrArg (Value.int .u8) (and252 _ (bytes_nth hbc6_ 12)))) ?_
  refine seq_val (.pointer (some ⟨g2, 12, none⟩)) 28 rfl kj kj ?_
  refine seq_store g2 _ (ints .u8 ((c6_).set 12 (nth c6_ 12 / 4 * 4))) 23 r2_10_40 rfl kj (run_storeI 5 _ _ g2 12 23 _ _ r2_10_40 rfl kj kj kj (Nat.lt_of_lt_of_eq (show 12 < 32 by decide) hlc6_.symm)) fun W11 p11 r2_11 => ?_
  have x11 : Ext w W11 := Puts.ext p11 x10 b2
  obtain ⟨c7_, ec7_⟩ : ∃ z, z = (c6_).set 12 (nth c6_ 12 / 4 * 4) := ⟨_, rfl⟩
  have hlc7_ : c7_.length = 32 := by rw [ec7_, List.length_set, hlc6_]
  have hxc7_ := bytes_nth hbc6_ 12
  have hbc7_ : AreBytes c7_ := ec7_ ▸ bytes_set hbc6_ _ (by omega) (by omega)
  have r2_11_45 : W11.heap[g2]? = some (.cells (ints .u8 (c7_)) 23) := row_eq r2_11 (by rw [ec7_])
  refine seq_nil ?_
  refine hK43 _ _ ?_
  try clear hK43 K43
  refine region_lit ?_
  refine seq_val (.int .i64 3) 29 rfl kj kj ?_
  refine seq_val (.int .i64 3) 21 rfl kj kj ?_
  refine seq_nil ?_
  show Code.rounds _ _ _ 1 _ _
  show Code.wp _ _ (Exit.then (Code.rounds _ _ _ 0) _) _ _
  refine wp_seq_k fun K46 hK46 => ?_
  refine region_lit ?_
  refine seq_val (.bool false) 22 rfl kj kj ?_
  refine seq_nil ?_
  refine hK46 _ _ ?_
  try clear hK46 K46
  refine wp_seq_k fun K47 hK47 => ?_
  refine cond_false kj ?_
  refine wp_exit ?_
  refine hK29 _ _ ?_
  try clear hK29 K29
  refine wp_seq_k fun K48 hK48 => ?_
  have hck : c7_ = clampK key := by unfold clampK; rw [ec7_, ec6_, ec5_, ec4_, ec3_, ec2_, ec1_]
  have hro : lev ((c7_.drop 0).take (16 - 0)) = rOf key := by unfold rOf; rw [hck, clampK_take key hkl]
  refine any_regionE 3 [⟨none, [(1, none)]⟩, ⟨none, [(30, some 0)]⟩, ⟨none, [(3, none)]⟩] kj kj fun F hF => ?_
  refine e_val (rl_ext _) (.slice (some ⟨g2, 0 + 0, none⟩) (16 - 0) (32 - 0)) kj kj (fun W => (run_sliceA 23 _ _ _ 0 16 32 g2 0 5 rfl kj kj kj rfl ⟨.i64, by kernel_rfl⟩ (by omega) (by omega) (by omega))) ?_
  refine e_call (rl_ext _) (.agg (ints .u64 (nw3 (lev ((c7_.drop 0).take (16 - 0)))))) 38 #[.slice (some ⟨g2, 0 + 0, none⟩) (16 - 0) (32 - 0)] kj kj (fun W => by kernel_rfl) (fun W hR => (valueC ((c7_.drop 0).take (16 - 0)) _ _ W (rdK_arr (l := 0) (h := 16) hlc7_ (row_ext (row_ext r2_11_45 (ext_drew _)) hR) (by decide) (by decide) (by decide)) (by rw [List.length_take]; omega) (bytes_take (bytes_drop hbc7_ 0) _))) ?_
  have r4_5 := (Puts.row p5 r4_4 (ne_of_new r2_2 l4))
  have r4_6 := (Puts.row p6 r4_5 (ne_of_new r2_2 l4))
  have r4_7 := (Puts.row p7 r4_6 (ne_of_new r2_2 l4))
  have r4_8 := (Puts.row p8 r4_7 (ne_of_new r2_2 l4))
  have r4_9 := (Puts.row p9 r4_8 (ne_of_new r2_2 l4))
  have r4_10 := (Puts.row p10 r4_9 (ne_of_new r2_2 l4))
  have r4_11 := (Puts.row p11 r4_10 (ne_of_new r2_2 l4))
  refine e_read (rl_ext _) (.agg (ints .u64 (nw3 (lev ((key.drop 16).take (32 - 16)))))) kj kj (fun W hR => (run_load_row 66 _ g4 66 _ _ (row_ext (row_ext r4_11 (ext_drew _)) hR) rfl kj kj (isz (n := 3) kj ((ints_size _ _).trans (nw3_len _))))) ?_
  refine e_nil (hF _ fun W12 e12 => ?_)
  simp only [List.nil_append, List.cons_append, List.take_succ_cons, List.take_zero, List.drop_succ_cons, List.drop_zero, finE, up]
  clear hF
  have x12 : Ext w W12 := Ext.tr x11 e12
  refine seq_val (.agg (cat [ints .u64 (nw3 (lev ((c7_.drop 0).take (16 - 0)))), ints .u64 (nw3 (lev ((key.drop 16).take (32 - 16)))), ints .u64 (nw3 (0)), ints .u8 (List.replicate 17 0), #[.int .i64 0]])) 33 rfl kj kj ?_
  refine seq_alloc (cat [ints .u64 (nw3 (lev ((c7_.drop 0).take (16 - 0)))), ints .u64 (nw3 (lev ((key.drop 16).take (32 - 16)))), ints .u64 (nw3 (0)), ints .u8 (List.replicate 17 0), #[.int .i64 0]]) 72 34 rfl kj kj fun g49 W13 l49 e13 r49_13 => ?_
  have x13 : Ext w W13 := Ext.tr x12 e13
  have b49 : w.heap.size ≤ g49 := Nat.le_trans x12.size l49
  refine seq_val (.pointer (some ⟨g49, 0, none⟩)) 2 rfl kj kj ?_
  refine seq_nil ?_
  refine hK48 _ _ ?_
  try clear hK48 K48
  refine wp_ret ?_
  repeat (first | with_reducible refine goR1 ?_ | with_reducible refine goR2 ?_)
  exact (show bodyPost _ _ _ .ret _ _ from ret1 (.pointer (some ⟨g49, 0, none⟩)) rfl (res_tmp kj) ⟨_, rfl, x13, g49, rfl, b49, 0, List.replicate 17 0, 0, 0, rfl, (by decide), (by have h9 := r49_13; rw [hro] at h9; exact h9), rfl, ⟨by decide, by decide⟩, List.length_replicate .., (fun x hx => by rw [List.mem_replicate] at hx; omega), rfl⟩)
set_option maxRecDepth 100000 in
set_option maxHeartbeats 4000000 in
theorem endC (g : Nat) (r s : Int) (t : List Int) (w : World) (hr : 0 ≤ r ∧ r < 21267647932558653966460912964485513216) (hs : 0 ≤ s ∧ s < 340282366920938463463374607431768211456) (hM : Mk g r s t w) :
    Calls Tryd.prog 26 #[.pointer (some ⟨g, 0, none⟩)] w (fun e W => e = .returned (.agg (ints .u8 (tagV r s t))) ∧ ExtB g w W) := by
  obtain ⟨S, pl, q, m, hq, hm, hg, hSm, hS, hpl, hpb, hpt⟩ := hM
  refine enter 47 [(0, .pointer (some ⟨g, 0, none⟩))] Tryd.func26 rfl rfl kj rfl ?_
  refine wp_seq_k fun K2 hK2 => ?_
  refine region_lit ?_
  refine seq_alloc (ints .u8 (List.replicate 16 0)) 27 2 rfl kj kj fun g3 W1 l3 e1 r3_1 => ?_
  have x1 : ExtB g w W1 := ExtB.ext (ExtB.refl g w) e1
  have b3 : w.heap.size ≤ g3 := Nat.le_trans (ExtB.refl g w).size l3
  refine seq_nil ?_
  refine hK2 _ _ ?_
  try clear hK2 K2
  refine wp_seq_k fun K4 hK4 => ?_
  refine wp_seq_k fun K5 hK5 => ?_
  refine region_lit ?_
  refine seq_val (.pointer (some ⟨g, 0, none⟩)) 7 rfl kj kj ?_
  refine seq_val (.pointer (some ⟨g, 0, none⟩)) 8 rfl kj kj ?_
  refine seq_val (.pointer (some ⟨g, 26, none⟩)) 9 rfl kj kj ?_
  have r1_1 := (row_ext hg e1)
  refine seq_val (.int .i64 ((m : Nat) : Int)) 10 rfl kj (run_loadC1 3 _ g 26 72 _ (.int .i64 ((m : Nat) : Int)) _ r1_1 rfl kj (cat_part [ints .u64 (nw3 r), ints .u64 (nw3 s), ints .u64 (nw3 (S)), ints .u8 (pl)] [#[.int .i64 ((m : Nat) : Int)]] [] 26 (by rw [cat_cons, cat_cons, cat_cons, cat_cons]; simp only [Array.size_append, cat, ((ints_size _ _).trans (nw3_len _)), ((ints_size _ _).trans hpl)]; rfl) 0 _ rfl) kj) ?_
  refine seq_val (.bool (decide (((m : Nat) : Int) > 0))) 11 rfl kj kj ?_
  refine seq_nil ?_
  refine hK5 _ _ ?_
  try clear hK5 K5
  refine cond_split (t := decide (((m : Nat) : Int) > 0)) kj (fun c6 => ?_) (fun c6 => ?_)
  · skip
    have hm0 : 0 < m := by have := of_decide_eq_true c6; omega
    refine region_lit ?_
    refine seq_val (.pointer (some ⟨g, 0, none⟩)) 12 rfl kj kj ?_
    refine seq_callR (fun v W' => v = .tuple #[] ∧ ExtB g W1 W' ∧ W'.heap[g]? = some (.cells (cat [ints .u64 (nw3 r), ints .u64 (nw3 s), ints .u64 (nw3 (turnV r S (pl.take m))), ints .u8 (pl.set m 1), #[.int .i64 0]]) 72)) 39 #[.pointer (some ⟨g, 0, none⟩)] 13 rfl kj kj ((turnC g r s S pl m _ hr hS hpl hpb (by omega) r1_1).mono fun e w' h => ⟨_, h.1, rfl, h.2⟩) fun v W2 h => ?_
    obtain ⟨rfl, q2, r1_2⟩ := h
    have hpl2 : (pl.set m 1).length = 17 := by rw [List.length_set, hpl]
    have x2 : ExtB g w W2 := ExtB.trans x1 q2
    obtain ⟨SS, eSS⟩ : ∃ z, z = turnV r S (pl.take m) := ⟨_, rfl⟩
    have hSS : SS % PP = polyT r t := by rw [eSS, hpt]; exact stepE hq (by omega) hm hSm
    have hSb : 0 ≤ SS ∧ SS < 2041694201525630780780247644590609268736 := eSS ▸ turnV_lt hS hr (bytes_take hpb m) (by rw [List.length_take]; omega)
    rw [← eSS] at r1_2
    refine seq_nil ?_
    refine hK4 _ _ ?_
    try clear hK4 K4
    refine wp_seq_k fun K7 hK7 => ?_
    refine region_lit ?_
    refine seq_val (.pointer (some ⟨g, 0, none⟩)) 14 rfl kj kj ?_
    refine seq_val (.pointer (some ⟨g, 0, none⟩)) 15 rfl kj kj ?_
    refine seq_val (.pointer (some ⟨g, 6, none⟩)) 16 rfl kj kj ?_
    refine seq_val (.agg (ints .u64 (nw3 (SS)))) 17 rfl kj (run_load_part 66 _ g 6 72 _ _ _ r1_2 rfl kj (cat_part [ints .u64 (nw3 r), ints .u64 (nw3 s)] [ints .u64 (nw3 (SS))] [ints .u8 (pl.set m 1), #[.int .i64 0]] 6 (by rw [cat_cons, cat_cons]; simp only [Array.size_append, cat, ((ints_size _ _).trans (nw3_len _))]; rfl)) kj (isz (n := 3) kj ((ints_size _ _).trans (nw3_len _)))) ?_
    refine seq_alloc (ints .u64 ([0, 0, 0])) 66 3 rfl kj kj fun g8 W3 l8 e3 r8_3 => ?_
    have x3 : ExtB g w W3 := ExtB.ext x2 e3
    have b8 : w.heap.size ≤ g8 := Nat.le_trans x2.size l8
    refine seq_store g8 _ (ints .u64 (nw3 (SS))) 66 r8_3 rfl kj (run_store_row 66 _ _ g8 66 _ _ r8_3 rfl kj kj (isz (n := 3) kj ((ints_size _ _).trans (nw3_len _))) (eqsz (n := 3) kj ((ints_size _ _).trans (nw3_len _))) (ints_one _ _)) fun W4 p4 r8_4 => ?_
    have x4 : ExtB g w W4 := ExtB.putsN x3 p4 b8
    refine seq_nil ?_
    refine hK7 _ _ ?_
    try clear hK7 K7
    refine wp_seq_k fun K9 hK9 => ?_
    refine wp_seq_k fun K10 hK10 => ?_
    refine region_lit ?_
    refine seq_val (.agg (ints .u64 (nw3 (SS)))) 18 rfl kj (run_load_row 66 _ g8 66 _ _ r8_4 rfl kj kj (isz (n := 3) kj ((ints_size _ _).trans (nw3_len _)))) ?_
    refine seq_val (.agg (ints .u64 (nw3 5))) 19 rfl kj kj ?_
    refine seq_call (.agg (ints .u64 (nw3 (SS + 5)))) 40 #[.agg (ints .u64 (nw3 (SS))), .agg (ints .u64 (nw3 5))] 20 rfl kj kj ((plusC SS 5 hSb.1 (by decide) (by omega) (by decide) (by omega)) _) fun W5 e5 => ?_
    have x5 : ExtB g w W5 := ExtB.ext x4 e5
    refine seq_alloc (ints .u64 ([0, 0, 0])) 66 4 rfl kj kj fun g11 W6 l11 e6 r11_6 => ?_
    have x6 : ExtB g w W6 := ExtB.ext x5 e6
    have b11 : w.heap.size ≤ g11 := Nat.le_trans x5.size l11
    refine seq_store g11 _ (ints .u64 (nw3 (SS + 5))) 66 r11_6 rfl kj (run_store_row 66 _ _ g11 66 _ _ r11_6 rfl kj kj (isz (n := 3) kj ((ints_size _ _).trans (nw3_len _))) (eqsz (n := 3) kj ((ints_size _ _).trans (nw3_len _))) (ints_one _ _)) fun W7 p7 r11_7 => ?_
    have x7 : ExtB g w W7 := ExtB.putsN x6 p7 b11
    refine seq_nil ?_
    refine hK10 _ _ ?_
    try clear hK10 K10
    refine wp_seq_k fun K12 hK12 => ?_
    refine region_lit ?_
    refine seq_val (.pointer (some ⟨g11, 2, none⟩)) 21 rfl kj kj ?_
    refine seq_val (.int .u64 (nth (nw3 (SS + 5)) 2)) 22 rfl kj (run_loadC1 64 _ g11 2 66 _ (.int .u64 (nth (nw3 (SS + 5)) 2)) _ r11_7 rfl kj (ints_get _ _ _ (Nat.lt_of_lt_of_eq (by decide) (nw3_len _).symm)) kj) ?_
    refine seq_val (.bool (decide (1361129467683753853853498429727072845824 ≤ SS + 5))) 23 rfl kj (run_eq (u := .bool (decide ((nth (nw3 (SS + 5)) 2) ≥ 4))) kj (congrArg Value.bool (geq4 SS hSb.1 hSb.2))) ?_
    refine seq_nil ?_
    refine hK12 _ _ ?_
    try clear hK12 K12
    refine cond_split (t := decide (1361129467683753853853498429727072845824 ≤ SS + 5)) kj (fun c13 => ?_) (fun c13 => ?_)
    · skip
      have hbig : 1361129467683753853853498429727072845824 ≤ SS + 5 := of_decide_eq_true c13
      have hfin : by16 (SS + 5 + s) = by16 (polyT r t + s) := by
        have e : SS + 5 + s = (polyT r t + s) + 1361129467683753853853498429727072845824 := by rw [← hSS]; unfold PP; omega
        rw [e, by16_add]
      refine region_lit ?_
      refine seq_val (.agg (ints .u64 (nw3 (SS + 5)))) 24 rfl kj (run_load_row 66 _ g11 66 _ _ r11_7 rfl kj kj (isz (n := 3) kj ((ints_size _ _).trans (nw3_len _)))) ?_
      have r8_5 := (row_ext r8_4 e5)
      have r8_6 := (row_ext r8_5 e6)
      have r8_7 := (Puts.row p7 r8_6 (ne_of_old r8_5 l11))
      refine seq_store g8 _ (ints .u64 (nw3 (SS + 5))) 66 r8_7 rfl kj (run_store_row 66 _ _ g8 66 _ _ r8_7 rfl kj kj (isz (n := 3) kj ((ints_size _ _).trans (nw3_len _))) (eqsz (n := 3) ((ints_size _ _).trans (nw3_len _)) ((ints_size _ _).trans (nw3_len _))) (ints_one _ _)) fun W8 p8 r8_8 => ?_
      have x8 : ExtB g w W8 := ExtB.putsN x7 p8 b8
      refine seq_nil ?_
      refine hK9 _ _ ?_
      try clear hK9 K9
      refine wp_seq_k fun K14 hK14 => ?_
      refine any_region 6 [⟨none, [(3, none)]⟩, ⟨none, [(0, none)]⟩, ⟨none, [(26, some 1)]⟩, ⟨none, [(27, some 2)]⟩, ⟨none, [(28, some 3)]⟩, ⟨none, [(25, some 0), (29, some 4)]⟩] kj kj fun F hF => ?_
      refine any_read (.agg (ints .u64 (nw3 (SS + 5)))) kj kj (fun W hR => (run_load_row 66 _ g8 66 _ _ (row_ext (row_ext r8_8 (ext_drew _)) hR) rfl kj kj (isz (n := 3) kj ((ints_size _ _).trans (nw3_len _))))) ?_
      refine any_val (.pointer (some ⟨g, 0, none⟩)) kj kj (fun W => by kernel_rfl) ?_
      refine any_val (.pointer (some ⟨g, 0, none⟩)) kj kj (fun W => by kernel_rfl) ?_
      refine any_val (.pointer (some ⟨g, 3, none⟩)) kj kj (fun W => by kernel_rfl) ?_
      have r1_3 := (row_ext r1_2 e3)
      have r1_4 := (Puts.row p4 r1_3 (ne_of_old r1_2 l8))
      have r1_5 := (row_ext r1_4 e5)
      have r1_6 := (row_ext r1_5 e6)
      have r1_7 := (Puts.row p7 r1_6 (ne_of_old r1_5 l11))
      have r1_8 := (Puts.row p8 r1_7 (ne_of_old r1_2 l8))
      refine any_read (.agg (ints .u64 (nw3 s))) kj kj (fun W hR => (run_load_part 66 _ g 3 72 _ _ _ (row_ext (row_ext r1_8 (ext_drew _)) hR) rfl kj (cat_part [ints .u64 (nw3 r)] [ints .u64 (nw3 s)] [ints .u64 (nw3 (SS)), ints .u8 (pl.set m 1), #[.int .i64 0]] 3 ((ints_size _ _).trans (nw3_len _))) kj (isz (n := 3) kj ((ints_size _ _).trans (nw3_len _))))) ?_
      refine any_call (.agg (ints .u64 (nw3 (SS + 5 + s)))) 40 #[.agg (ints .u64 (nw3 (SS + 5))), .agg (ints .u64 (nw3 s))] kj kj (fun W => by kernel_rfl) (fun W hR => (plusC (SS + 5) s (by omega) hs.1 (by omega) (by omega) (by omega)) W) ?_
      refine steps_nil (hF _ kj fun W9 e9 => ?_)
      simp only [ups, up, Kn.val, List.take_succ_cons, List.take_zero, List.drop_succ_cons, List.drop_zero, List.nil_append, List.cons_append]
      clear hF
      have x9 : ExtB g w W9 := ExtB.ext x8 e9
      have r8_9 := (row_ext r8_8 e9)
      refine seq_store g8 _ (ints .u64 (nw3 (SS + 5 + s))) 66 r8_9 rfl kj (run_store_row 66 _ _ g8 66 _ _ r8_9 rfl kj kj (isz (n := 3) kj ((ints_size _ _).trans (nw3_len _))) (eqsz (n := 3) ((ints_size _ _).trans (nw3_len _)) ((ints_size _ _).trans (nw3_len _))) (ints_one _ _)) fun W10 p10 r8_10 => ?_
      have x10 : ExtB g w W10 := ExtB.putsN x9 p10 b8
      refine seq_nil ?_
      refine hK14 _ _ ?_
      try clear hK14 K14
      refine wp_seq_k fun K15 hK15 => ?_
      refine region_lit ?_
      refine seq_alloc (ints .u8 (List.replicate 16 0)) 27 5 rfl kj kj fun g16 W11 l16 e11 r16_11 => ?_
      have x11 : ExtB g w W11 := ExtB.ext x10 e11
      have b16 : w.heap.size ≤ g16 := Nat.le_trans x10.size l16
      refine seq_nil ?_
      refine hK15 _ _ ?_
      try clear hK15 K15
      refine wp_seq_k fun K17 hK17 => ?_
      refine wp_seq_k fun K18 hK18 => ?_
      refine region_lit ?_
      refine seq_val (.int .i64 0) 31 rfl kj kj ?_
      refine seq_nil ?_
      refine hK18 _ _ ?_
      try clear hK18 K18
      refine wp_block ?_
      refine loop_auto (fun (s1 : Nat) => [(2, .pointer (some ⟨g3, 0, none⟩)), (3, .pointer (some ⟨g8, 0, none⟩)), (5, .pointer (some ⟨g16, 0, none⟩)), (31, .int .i64 ((s1 : Nat) : Int))]) (fun (s1 : Nat) W => (s1 ≤ 16) ∧ (W.heap[g16]? = some (.cells (ints .u8 (fillL (by16 (SS + 5 + s)) 16 s1)) 27)) ∧ (Keeps [g16] W11 W) ∧ (ExtB g w W)) (fun (s1 : Nat) => 16 - s1) 0 ⟨rfl, rfl, rfl, rfl, trivial⟩ ⟨(Nat.zero_le _), (row_eq r16_11 (fillL_zero _ 16)), (Keeps.refl [g16] W11), x11⟩ fun s1 X1 V1 hI1 => ?_
      obtain ⟨i, hs1⟩ : ∃ z, z = s1 := ⟨_, rfl⟩
      subst hs1
      obtain ⟨hi, q16_1, kk1, xx1⟩ := hI1
      replace hi : i ≤ 16 := hi
      replace q16_1 : V1.heap[g16]? = some (.cells (ints .u8 (fillL (by16 (SS + 5 + s)) 16 i)) 27) := q16_1
      replace kk1 : Keeps [g16] W11 V1 := kk1
      replace xx1 : ExtB g w V1 := xx1
      have q12 := kk1
      refine wp_seq_k fun K19 hK19 => ?_
      refine region_lit ?_
      refine seq_val (.bool (decide (((i : Nat) : Int) < 16))) 32 rfl kj kj ?_
      refine seq_nil ?_
      refine hK19 _ _ ?_
      try clear hK19 K19
      refine wp_seq_k fun K20 hK20 => ?_
      refine cond_split (t := decide (((i : Nat) : Int) < 16)) kj (fun c21 => ?_) (fun c21 => ?_)
      · skip
        have hlt32 : i < 16 := by have := of_decide_eq_true c21; omega
        refine wp_skip ?_
        refine hK20 _ _ ?_
        try clear hK20 K20
        refine wp_seq_k fun K22 hK22 => ?_
        refine wp_block ?_
        refine wp_seq_k fun K23 hK23 => ?_
        refine region_lit ?_
        refine seq_val (.int .i64 ((i : Nat) : Int)) 33 rfl kj kj ?_
        refine seq_val (.int .i64 ((i : Nat) : Int)) 6 rfl kj kj ?_
        refine seq_nil ?_
        refine hK23 _ _ ?_
        try clear hK23 K23
        refine region_lit ?_
        refine seq_val (.int .i64 ((i : Nat) : Int)) 34 rfl kj kj ?_
        refine seq_val (.int .i64 ((i : Nat) : Int)) 35 rfl kj kj ?_
        refine seq_val (.int .i64 ((i / 8 : Nat) : Int)) 36 rfl kj (run_eq (u := .int .i64 (IntKind.i64.wrap (Int.tdiv (((i : Nat) : Int)) (8)))) kj (congrArg (Value.int .i64) (i64_quo _ 8 (by omega)))) ?_
        refine seq_val (.pointer (some ⟨g8, i / 8, none⟩)) 37 rfl kj (run_index0 _ _ _ .i64 (i / 8) _ 3 64 rfl kj kj kj kj (by omega)) ?_
        have r8_11 := (row_ext r8_10 e11)
        have r8_12 := (Keeps.row q12 r8_11 (nm_cons (ne_of_old r8_10 l16) nm_nil))
        refine seq_val (.int .u64 (nth (nw3 (SS + 5 + s)) (i / 8))) 38 rfl kj (run_loadC1 64 _ g8 (i / 8) 66 _ (.int .u64 (nth (nw3 (SS + 5 + s)) (i / 8))) _ r8_12 rfl kj (ints_get _ _ _ (Nat.lt_of_lt_of_eq (by omega) (nw3_len _).symm)) kj) ?_
        refine seq_val (.int .i64 ((i : Nat) : Int)) 39 rfl kj kj ?_
        refine seq_val (.int .i64 ((i % 8 : Nat) : Int)) 40 rfl kj (run_eq (u := .int .i64 (Int.tmod (((i : Nat) : Int)) (8))) kj (congrArg (Value.int .i64) (nat_rem _ 8))) ?_
        refine seq_val (.int .i64 ((8 * (i % 8) : Nat) : Int)) 41 rfl kj (run_eq (u := .int .i64 (IntKind.i64.wrap (8 * ((i % 8 : Nat) : Int)))) kj (congrArg (Value.int .i64) (i64n _ _ (by omega) (by omega)))) ?_
        refine seq_val (.int .u64 (nth (nw3 (SS + 5 + s)) (i / 8) / p256 (i % 8))) 42 rfl kj (run_bin .shr _ _ _ _ .u64 .i64 _ _ _ rfl kj kj (b_shr _ _ _ _ _ _ (by omega) (shr8 _ (i % 8) _ rfl (by omega)))) ?_
        refine seq_val (.int .u8 (nth (by16 (SS + 5 + s)) i)) 43 rfl kj (run_eq (u := .int .u8 (IntKind.u8.wrap (nth (nw3 (SS + 5 + s)) (i / 8) / p256 (i % 8)))) kj (congrArg (Value.int .u8) (out_byte _ i hlt32))) ?_
        refine seq_val (.pointer (some ⟨g16, i, none⟩)) 44 rfl kj (run_index0 _ _ _ .i64 (i) _ 16 5 rfl kj kj kj kj (by omega)) ?_
        refine seq_store g16 _ (ints .u8 ((fillL (by16 (SS + 5 + s)) 16 i).set i (nth (by16 (SS + 5 + s)) i))) 27 q16_1 rfl kj (run_storeI 5 _ _ g16 i 27 _ _ q16_1 rfl kj kj kj (Nat.lt_of_lt_of_eq (by omega) (fillL_len _ 16 _ (by16_len _) hi).symm)) fun W13 p13 r16_13 => ?_
        have x13 : ExtB g w W13 := ExtB.putsN xx1 p13 b16
        refine seq_nil ?_
        refine hK22 _ _ ?_
        try clear hK22 K22
        refine region_lit ?_
        refine seq_val (.int .i64 ((i + 1 : Nat) : Int)) 45 rfl kj (run_eq (u := .int .i64 (IntKind.i64.wrap (((i : Nat) : Int) + 1))) kj (congrArg (Value.int .i64) (i64n _ _ (by omega) (by omega)))) ?_
        refine seq_val (.int .i64 ((i + 1 : Nat) : Int)) 31 rfl kj kj ?_
        refine seq_nil ?_
        repeat (first | with_reducible refine goX1 ?_ | with_reducible refine goX2 ?_ | with_reducible refine goX3 ?_)
        exact goes_then (i + 1) ⟨rfl, rfl, rfl, rfl, trivial⟩ ⟨(show i + 1 ≤ 16 by omega), (row_eq r16_13 (fillL_step _ 16 i (by16_len _) hlt32)), (Keeps.puts q12 p13 (.inl (by simp))), x13⟩ (by show 16 - (i + 1) < 16 - i; omega)
      · skip
        have heq32 : i = 16 := by have := of_decide_eq_false c21; omega
        subst heq32
        have r16_12_24 : V1.heap[g16]? = some (.cells (ints .u8 (by16 (SS + 5 + s))) 27) := row_eq q16_1 (fillL_full _ 16 (by16_len _))
        refine wp_exit ?_
        refine hK17 _ _ ?_
        try clear hK17 K17
        refine wp_seq_k fun K25 hK25 => ?_
        refine region_lit ?_
        refine seq_val (.agg (ints .u8 (by16 (SS + 5 + s)))) 46 rfl kj (run_load_row 27 _ g16 27 _ _ r16_12_24 rfl kj kj (isz (n := 16) kj ((ints_size _ _).trans (by16_len _)))) ?_
        have r3_2 := (ExtB.row q2 r3_1 (ne_of_new hg l3))
        have r3_3 := (row_ext r3_2 e3)
        have r3_4 := (Puts.row p4 r3_3 (ne_of_old r3_2 l8))
        have r3_5 := (row_ext r3_4 e5)
        have r3_6 := (row_ext r3_5 e6)
        have r3_7 := (Puts.row p7 r3_6 (ne_of_old r3_5 l11))
        have r3_8 := (Puts.row p8 r3_7 (ne_of_old r3_2 l8))
        have r3_9 := (row_ext r3_8 e9)
        have r3_10 := (Puts.row p10 r3_9 (ne_of_old r3_2 l8))
        have r3_11 := (row_ext r3_10 e11)
        have r3_12 := (Keeps.row q12 r3_11 (nm_cons (ne_of_old r3_10 l16) nm_nil))
        refine seq_store g3 _ (ints .u8 (by16 (SS + 5 + s))) 27 r3_12 rfl kj (run_store_row 27 _ _ g3 27 _ _ r3_12 rfl kj kj (isz (n := 16) kj ((ints_size _ _).trans (by16_len _))) (eqsz (n := 16) ((ints_size _ _).trans (List.length_replicate (n := 16))) ((ints_size _ _).trans (by16_len _))) (ints_one _ _)) fun W13 p13 r3_13 => ?_
        have x13 : ExtB g w W13 := ExtB.putsN xx1 p13 b3
        refine seq_nil ?_
        refine hK25 _ _ ?_
        try clear hK25 K25
        refine wp_ret ?_
        repeat (first | with_reducible refine goR1 ?_ | with_reducible refine goR2 ?_)
        exact (show bodyPost _ _ _ .ret _ _ from ret1 (.agg (ints .u8 (by16 (SS + 5 + s)))) rfl (res_cell g3 27 _ r3_13 kj kj (isz (n := 16) kj ((ints_size _ _).trans (by16_len _)))) ⟨by unfold tagV; rw [hfin], x13⟩)
    · skip
      have hbig : ¬ 1361129467683753853853498429727072845824 ≤ SS + 5 := of_decide_eq_false c13
      have hfin : by16 (SS + s) = by16 (polyT r t + s) := by
        have e : SS + s = polyT r t + s := by rw [← hSS]; unfold PP; omega
        rw [e]
      refine wp_skip ?_
      refine hK9 _ _ ?_
      try clear hK9 K9
      refine wp_seq_k fun K26 hK26 => ?_
      refine any_region 6 [⟨none, [(3, none)]⟩, ⟨none, [(0, none)]⟩, ⟨none, [(26, some 1)]⟩, ⟨none, [(27, some 2)]⟩, ⟨none, [(28, some 3)]⟩, ⟨none, [(25, some 0), (29, some 4)]⟩] kj kj fun F hF => ?_
      have r8_5 := (row_ext r8_4 e5)
      have r8_6 := (row_ext r8_5 e6)
      have r8_7 := (Puts.row p7 r8_6 (ne_of_old r8_5 l11))
      refine any_read (.agg (ints .u64 (nw3 (SS)))) kj kj (fun W hR => (run_load_row 66 _ g8 66 _ _ (row_ext (row_ext r8_7 (ext_drew _)) hR) rfl kj kj (isz (n := 3) kj ((ints_size _ _).trans (nw3_len _))))) ?_
      refine any_val (.pointer (some ⟨g, 0, none⟩)) kj kj (fun W => by kernel_rfl) ?_
      refine any_val (.pointer (some ⟨g, 0, none⟩)) kj kj (fun W => by kernel_rfl) ?_
      refine any_val (.pointer (some ⟨g, 3, none⟩)) kj kj (fun W => by kernel_rfl) ?_
      have r1_3 := (row_ext r1_2 e3)
      have r1_4 := (Puts.row p4 r1_3 (ne_of_old r1_2 l8))
      have r1_5 := (row_ext r1_4 e5)
      have r1_6 := (row_ext r1_5 e6)
      have r1_7 := (Puts.row p7 r1_6 (ne_of_old r1_5 l11))
      refine any_read (.agg (ints .u64 (nw3 s))) kj kj (fun W hR => (run_load_part 66 _ g 3 72 _ _ _ (row_ext (row_ext r1_7 (ext_drew _)) hR) rfl kj (cat_part [ints .u64 (nw3 r)] [ints .u64 (nw3 s)] [ints .u64 (nw3 (SS)), ints .u8 (pl.set m 1), #[.int .i64 0]] 3 ((ints_size _ _).trans (nw3_len _))) kj (isz (n := 3) kj ((ints_size _ _).trans (nw3_len _))))) ?_
      refine any_call (.agg (ints .u64 (nw3 (SS + s)))) 40 #[.agg (ints .u64 (nw3 (SS))), .agg (ints .u64 (nw3 s))] kj kj (fun W => by kernel_rfl) (fun W hR => (plusC (SS) s (by omega) hs.1 (by omega) (by omega) (by omega)) W) ?_
      refine steps_nil (hF _ kj fun W8 e8 => ?_)
      simp only [ups, up, Kn.val, List.take_succ_cons, List.take_zero, List.drop_succ_cons, List.drop_zero, List.nil_append, List.cons_append]
      clear hF
      have x8 : ExtB g w W8 := ExtB.ext x7 e8
      have r8_8 := (row_ext r8_7 e8)
      refine seq_store g8 _ (ints .u64 (nw3 (SS + s))) 66 r8_8 rfl kj (run_store_row 66 _ _ g8 66 _ _ r8_8 rfl kj kj (isz (n := 3) kj ((ints_size _ _).trans (nw3_len _))) (eqsz (n := 3) ((ints_size _ _).trans (nw3_len _)) ((ints_size _ _).trans (nw3_len _))) (ints_one _ _)) fun W9 p9 r8_9 => ?_
      have x9 : ExtB g w W9 := ExtB.putsN x8 p9 b8
      refine seq_nil ?_
      refine hK26 _ _ ?_
      try clear hK26 K26
      refine wp_seq_k fun K27 hK27 => ?_
      refine region_lit ?_
      refine seq_alloc (ints .u8 (List.replicate 16 0)) 27 5 rfl kj kj fun g28 W10 l28 e10 r28_10 => ?_
      have x10 : ExtB g w W10 := ExtB.ext x9 e10
      have b28 : w.heap.size ≤ g28 := Nat.le_trans x9.size l28
      refine seq_nil ?_
      refine hK27 _ _ ?_
      try clear hK27 K27
      refine wp_seq_k fun K29 hK29 => ?_
      refine wp_seq_k fun K30 hK30 => ?_
      refine region_lit ?_
      refine seq_val (.int .i64 0) 31 rfl kj kj ?_
      refine seq_nil ?_
      refine hK30 _ _ ?_
      try clear hK30 K30
      refine wp_block ?_
      refine loop_auto (fun (s2 : Nat) => [(2, .pointer (some ⟨g3, 0, none⟩)), (3, .pointer (some ⟨g8, 0, none⟩)), (5, .pointer (some ⟨g28, 0, none⟩)), (31, .int .i64 ((s2 : Nat) : Int))]) (fun (s2 : Nat) W => (s2 ≤ 16) ∧ (W.heap[g28]? = some (.cells (ints .u8 (fillL (by16 (SS + s)) 16 s2)) 27)) ∧ (Keeps [g28] W10 W) ∧ (ExtB g w W)) (fun (s2 : Nat) => 16 - s2) 0 ⟨rfl, rfl, rfl, rfl, trivial⟩ ⟨(Nat.zero_le _), (row_eq r28_10 (fillL_zero _ 16)), (Keeps.refl [g28] W10), x10⟩ fun s2 X2 V2 hI2 => ?_
      obtain ⟨i, hs2⟩ : ∃ z, z = s2 := ⟨_, rfl⟩
      subst hs2
      obtain ⟨hi, q28_2, kk2, xx2⟩ := hI2
      replace hi : i ≤ 16 := hi
      replace q28_2 : V2.heap[g28]? = some (.cells (ints .u8 (fillL (by16 (SS + s)) 16 i)) 27) := q28_2
      replace kk2 : Keeps [g28] W10 V2 := kk2
      replace xx2 : ExtB g w V2 := xx2
      have q11 := kk2
      refine wp_seq_k fun K31 hK31 => ?_
      refine region_lit ?_
      refine seq_val (.bool (decide (((i : Nat) : Int) < 16))) 32 rfl kj kj ?_
      refine seq_nil ?_
      refine hK31 _ _ ?_
      try clear hK31 K31
      refine wp_seq_k fun K32 hK32 => ?_
      refine cond_split (t := decide (((i : Nat) : Int) < 16)) kj (fun c33 => ?_) (fun c33 => ?_)
      · skip
        have hlt32 : i < 16 := by have := of_decide_eq_true c33; omega
        refine wp_skip ?_
        refine hK32 _ _ ?_
        try clear hK32 K32
        refine wp_seq_k fun K34 hK34 => ?_
        refine wp_block ?_
        refine wp_seq_k fun K35 hK35 => ?_
        refine region_lit ?_
        refine seq_val (.int .i64 ((i : Nat) : Int)) 33 rfl kj kj ?_
        refine seq_val (.int .i64 ((i : Nat) : Int)) 6 rfl kj kj ?_
        refine seq_nil ?_
        refine hK35 _ _ ?_
        try clear hK35 K35
        refine region_lit ?_
        refine seq_val (.int .i64 ((i : Nat) : Int)) 34 rfl kj kj ?_
        refine seq_val (.int .i64 ((i : Nat) : Int)) 35 rfl kj kj ?_
        refine seq_val (.int .i64 ((i / 8 : Nat) : Int)) 36 rfl kj (run_eq (u := .int .i64 (IntKind.i64.wrap (Int.tdiv (((i : Nat) : Int)) (8)))) kj (congrArg (Value.int .i64) (i64_quo _ 8 (by omega)))) ?_
        refine seq_val (.pointer (some ⟨g8, i / 8, none⟩)) 37 rfl kj (run_index0 _ _ _ .i64 (i / 8) _ 3 64 rfl kj kj kj kj (by omega)) ?_
        have r8_10 := (row_ext r8_9 e10)
        have r8_11 := (Keeps.row q11 r8_10 (nm_cons (ne_of_old r8_9 l28) nm_nil))
        refine seq_val (.int .u64 (nth (nw3 (SS + s)) (i / 8))) 38 rfl kj (run_loadC1 64 _ g8 (i / 8) 66 _ (.int .u64 (nth (nw3 (SS + s)) (i / 8))) _ r8_11 rfl kj (ints_get _ _ _ (Nat.lt_of_lt_of_eq (by omega) (nw3_len _).symm)) kj) ?_
        refine seq_val (.int .i64 ((i : Nat) : Int)) 39 rfl kj kj ?_
        refine seq_val (.int .i64 ((i % 8 : Nat) : Int)) 40 rfl kj (run_eq (u := .int .i64 (Int.tmod (((i : Nat) : Int)) (8))) kj (congrArg (Value.int .i64) (nat_rem _ 8))) ?_
        refine seq_val (.int .i64 ((8 * (i % 8) : Nat) : Int)) 41 rfl kj (run_eq (u := .int .i64 (IntKind.i64.wrap (8 * ((i % 8 : Nat) : Int)))) kj (congrArg (Value.int .i64) (i64n _ _ (by omega) (by omega)))) ?_
        refine seq_val (.int .u64 (nth (nw3 (SS + s)) (i / 8) / p256 (i % 8))) 42 rfl kj (run_bin .shr _ _ _ _ .u64 .i64 _ _ _ rfl kj kj (b_shr _ _ _ _ _ _ (by omega) (shr8 _ (i % 8) _ rfl (by omega)))) ?_
        refine seq_val (.int .u8 (nth (by16 (SS + s)) i)) 43 rfl kj (run_eq (u := .int .u8 (IntKind.u8.wrap (nth (nw3 (SS + s)) (i / 8) / p256 (i % 8)))) kj (congrArg (Value.int .u8) (out_byte _ i hlt32))) ?_
        refine seq_val (.pointer (some ⟨g28, i, none⟩)) 44 rfl kj (run_index0 _ _ _ .i64 (i) _ 16 5 rfl kj kj kj kj (by omega)) ?_
        refine seq_store g28 _ (ints .u8 ((fillL (by16 (SS + s)) 16 i).set i (nth (by16 (SS + s)) i))) 27 q28_2 rfl kj (run_storeI 5 _ _ g28 i 27 _ _ q28_2 rfl kj kj kj (Nat.lt_of_lt_of_eq (by omega) (fillL_len _ 16 _ (by16_len _) hi).symm)) fun W12 p12 r28_12 => ?_
        have x12 : ExtB g w W12 := ExtB.putsN xx2 p12 b28
        refine seq_nil ?_
        refine hK34 _ _ ?_
        try clear hK34 K34
        refine region_lit ?_
        refine seq_val (.int .i64 ((i + 1 : Nat) : Int)) 45 rfl kj (run_eq (u := .int .i64 (IntKind.i64.wrap (((i : Nat) : Int) + 1))) kj (congrArg (Value.int .i64) (i64n _ _ (by omega) (by omega)))) ?_
        refine seq_val (.int .i64 ((i + 1 : Nat) : Int)) 31 rfl kj kj ?_
        refine seq_nil ?_
        repeat (first | with_reducible refine goX1 ?_ | with_reducible refine goX2 ?_ | with_reducible refine goX3 ?_)
        exact goes_then (i + 1) ⟨rfl, rfl, rfl, rfl, trivial⟩ ⟨(show i + 1 ≤ 16 by omega), (row_eq r28_12 (fillL_step _ 16 i (by16_len _) hlt32)), (Keeps.puts q11 p12 (.inl (by simp))), x12⟩ (by show 16 - (i + 1) < 16 - i; omega)
      · skip
        have heq32 : i = 16 := by have := of_decide_eq_false c33; omega
        subst heq32
        have r28_11_36 : V2.heap[g28]? = some (.cells (ints .u8 (by16 (SS + s))) 27) := row_eq q28_2 (fillL_full _ 16 (by16_len _))
        refine wp_exit ?_
        refine hK29 _ _ ?_
        try clear hK29 K29
        refine wp_seq_k fun K37 hK37 => ?_
        refine region_lit ?_
        refine seq_val (.agg (ints .u8 (by16 (SS + s)))) 46 rfl kj (run_load_row 27 _ g28 27 _ _ r28_11_36 rfl kj kj (isz (n := 16) kj ((ints_size _ _).trans (by16_len _)))) ?_
        have r3_2 := (ExtB.row q2 r3_1 (ne_of_new hg l3))
        have r3_3 := (row_ext r3_2 e3)
        have r3_4 := (Puts.row p4 r3_3 (ne_of_old r3_2 l8))
        have r3_5 := (row_ext r3_4 e5)
        have r3_6 := (row_ext r3_5 e6)
        have r3_7 := (Puts.row p7 r3_6 (ne_of_old r3_5 l11))
        have r3_8 := (row_ext r3_7 e8)
        have r3_9 := (Puts.row p9 r3_8 (ne_of_old r3_2 l8))
        have r3_10 := (row_ext r3_9 e10)
        have r3_11 := (Keeps.row q11 r3_10 (nm_cons (ne_of_old r3_9 l28) nm_nil))
        refine seq_store g3 _ (ints .u8 (by16 (SS + s))) 27 r3_11 rfl kj (run_store_row 27 _ _ g3 27 _ _ r3_11 rfl kj kj (isz (n := 16) kj ((ints_size _ _).trans (by16_len _))) (eqsz (n := 16) ((ints_size _ _).trans (List.length_replicate (n := 16))) ((ints_size _ _).trans (by16_len _))) (ints_one _ _)) fun W12 p12 r3_12 => ?_
        have x12 : ExtB g w W12 := ExtB.putsN xx2 p12 b3
        refine seq_nil ?_
        refine hK37 _ _ ?_
        try clear hK37 K37
        refine wp_ret ?_
        repeat (first | with_reducible refine goR1 ?_ | with_reducible refine goR2 ?_)
        exact (show bodyPost _ _ _ .ret _ _ from ret1 (.agg (ints .u8 (by16 (SS + s)))) rfl (res_cell g3 27 _ r3_12 kj kj (isz (n := 16) kj ((ints_size _ _).trans (by16_len _)))) ⟨by unfold tagV; rw [hfin], x12⟩)
  · skip
    have hm0 : m = 0 := by have := of_decide_eq_false c6; omega
    obtain ⟨SS, eSS⟩ : ∃ z, z = S := ⟨_, rfl⟩
    have hSS : SS % PP = polyT r t := by rw [eSS, polyT_0 (hm0 ▸ hq)]; exact hSm
    have hSb : 0 ≤ SS ∧ SS < 2041694201525630780780247644590609268736 := eSS ▸ hS
    have r1_1_n := r1_1
    rw [← eSS] at r1_1_n
    refine wp_skip ?_
    refine hK4 _ _ ?_
    try clear hK4 K4
    refine wp_seq_k fun K38 hK38 => ?_
    refine region_lit ?_
    refine seq_val (.pointer (some ⟨g, 0, none⟩)) 14 rfl kj kj ?_
    refine seq_val (.pointer (some ⟨g, 0, none⟩)) 15 rfl kj kj ?_
    refine seq_val (.pointer (some ⟨g, 6, none⟩)) 16 rfl kj kj ?_
    refine seq_val (.agg (ints .u64 (nw3 (SS)))) 17 rfl kj (run_load_part 66 _ g 6 72 _ _ _ r1_1_n rfl kj (cat_part [ints .u64 (nw3 r), ints .u64 (nw3 s)] [ints .u64 (nw3 (SS))] [ints .u8 (pl), #[.int .i64 ((m : Nat) : Int)]] 6 (by rw [cat_cons, cat_cons]; simp only [Array.size_append, cat, ((ints_size _ _).trans (nw3_len _))]; rfl)) kj (isz (n := 3) kj ((ints_size _ _).trans (nw3_len _)))) ?_
    refine seq_alloc (ints .u64 ([0, 0, 0])) 66 3 rfl kj kj fun g39 W2 l39 e2 r39_2 => ?_
    have x2 : ExtB g w W2 := ExtB.ext x1 e2
    have b39 : w.heap.size ≤ g39 := Nat.le_trans x1.size l39
    refine seq_store g39 _ (ints .u64 (nw3 (SS))) 66 r39_2 rfl kj (run_store_row 66 _ _ g39 66 _ _ r39_2 rfl kj kj (isz (n := 3) kj ((ints_size _ _).trans (nw3_len _))) (eqsz (n := 3) kj ((ints_size _ _).trans (nw3_len _))) (ints_one _ _)) fun W3 p3 r39_3 => ?_
    have x3 : ExtB g w W3 := ExtB.putsN x2 p3 b39
    refine seq_nil ?_
    refine hK38 _ _ ?_
    try clear hK38 K38
    refine wp_seq_k fun K40 hK40 => ?_
    refine wp_seq_k fun K41 hK41 => ?_
    refine region_lit ?_
    refine seq_val (.agg (ints .u64 (nw3 (SS)))) 18 rfl kj (run_load_row 66 _ g39 66 _ _ r39_3 rfl kj kj (isz (n := 3) kj ((ints_size _ _).trans (nw3_len _)))) ?_
    refine seq_val (.agg (ints .u64 (nw3 5))) 19 rfl kj kj ?_
    refine seq_call (.agg (ints .u64 (nw3 (SS + 5)))) 40 #[.agg (ints .u64 (nw3 (SS))), .agg (ints .u64 (nw3 5))] 20 rfl kj kj ((plusC SS 5 hSb.1 (by decide) (by omega) (by decide) (by omega)) _) fun W4 e4 => ?_
    have x4 : ExtB g w W4 := ExtB.ext x3 e4
    refine seq_alloc (ints .u64 ([0, 0, 0])) 66 4 rfl kj kj fun g42 W5 l42 e5 r42_5 => ?_
    have x5 : ExtB g w W5 := ExtB.ext x4 e5
    have b42 : w.heap.size ≤ g42 := Nat.le_trans x4.size l42
    refine seq_store g42 _ (ints .u64 (nw3 (SS + 5))) 66 r42_5 rfl kj (run_store_row 66 _ _ g42 66 _ _ r42_5 rfl kj kj (isz (n := 3) kj ((ints_size _ _).trans (nw3_len _))) (eqsz (n := 3) kj ((ints_size _ _).trans (nw3_len _))) (ints_one _ _)) fun W6 p6 r42_6 => ?_
    have x6 : ExtB g w W6 := ExtB.putsN x5 p6 b42
    refine seq_nil ?_
    refine hK41 _ _ ?_
    try clear hK41 K41
    refine wp_seq_k fun K43 hK43 => ?_
    refine region_lit ?_
    refine seq_val (.pointer (some ⟨g42, 2, none⟩)) 21 rfl kj kj ?_
    refine seq_val (.int .u64 (nth (nw3 (SS + 5)) 2)) 22 rfl kj (run_loadC1 64 _ g42 2 66 _ (.int .u64 (nth (nw3 (SS + 5)) 2)) _ r42_6 rfl kj (ints_get _ _ _ (Nat.lt_of_lt_of_eq (by decide) (nw3_len _).symm)) kj) ?_
    refine seq_val (.bool (decide (1361129467683753853853498429727072845824 ≤ SS + 5))) 23 rfl kj (run_eq (u := .bool (decide ((nth (nw3 (SS + 5)) 2) ≥ 4))) kj (congrArg Value.bool (geq4 SS hSb.1 hSb.2))) ?_
    refine seq_nil ?_
    refine hK43 _ _ ?_
    try clear hK43 K43
    refine cond_split (t := decide (1361129467683753853853498429727072845824 ≤ SS + 5)) kj (fun c44 => ?_) (fun c44 => ?_)
    · skip
      have hbig : 1361129467683753853853498429727072845824 ≤ SS + 5 := of_decide_eq_true c44
      have hfin : by16 (SS + 5 + s) = by16 (polyT r t + s) := by
        have e : SS + 5 + s = (polyT r t + s) + 1361129467683753853853498429727072845824 := by rw [← hSS]; unfold PP; omega
        rw [e, by16_add]
      refine region_lit ?_
      refine seq_val (.agg (ints .u64 (nw3 (SS + 5)))) 24 rfl kj (run_load_row 66 _ g42 66 _ _ r42_6 rfl kj kj (isz (n := 3) kj ((ints_size _ _).trans (nw3_len _)))) ?_
      have r39_4 := (row_ext r39_3 e4)
      have r39_5 := (row_ext r39_4 e5)
      have r39_6 := (Puts.row p6 r39_5 (ne_of_old r39_4 l42))
      refine seq_store g39 _ (ints .u64 (nw3 (SS + 5))) 66 r39_6 rfl kj (run_store_row 66 _ _ g39 66 _ _ r39_6 rfl kj kj (isz (n := 3) kj ((ints_size _ _).trans (nw3_len _))) (eqsz (n := 3) ((ints_size _ _).trans (nw3_len _)) ((ints_size _ _).trans (nw3_len _))) (ints_one _ _)) fun W7 p7 r39_7 => ?_
      have x7 : ExtB g w W7 := ExtB.putsN x6 p7 b39
      refine seq_nil ?_
      refine hK40 _ _ ?_
      try clear hK40 K40
      refine wp_seq_k fun K45 hK45 => ?_
      refine any_region 6 [⟨none, [(3, none)]⟩, ⟨none, [(0, none)]⟩, ⟨none, [(26, some 1)]⟩, ⟨none, [(27, some 2)]⟩, ⟨none, [(28, some 3)]⟩, ⟨none, [(25, some 0), (29, some 4)]⟩] kj kj fun F hF => ?_
      refine any_read (.agg (ints .u64 (nw3 (SS + 5)))) kj kj (fun W hR => (run_load_row 66 _ g39 66 _ _ (row_ext (row_ext r39_7 (ext_drew _)) hR) rfl kj kj (isz (n := 3) kj ((ints_size _ _).trans (nw3_len _))))) ?_
      refine any_val (.pointer (some ⟨g, 0, none⟩)) kj kj (fun W => by kernel_rfl) ?_
      refine any_val (.pointer (some ⟨g, 0, none⟩)) kj kj (fun W => by kernel_rfl) ?_
      refine any_val (.pointer (some ⟨g, 3, none⟩)) kj kj (fun W => by kernel_rfl) ?_
      have r1_2 := (row_ext r1_1_n e2)
      have r1_3 := (Puts.row p3 r1_2 (ne_of_old r1_1_n l39))
      have r1_4 := (row_ext r1_3 e4)
      have r1_5 := (row_ext r1_4 e5)
      have r1_6 := (Puts.row p6 r1_5 (ne_of_old r1_4 l42))
      have r1_7 := (Puts.row p7 r1_6 (ne_of_old r1_1_n l39))
      refine any_read (.agg (ints .u64 (nw3 s))) kj kj (fun W hR => (run_load_part 66 _ g 3 72 _ _ _ (row_ext (row_ext r1_7 (ext_drew _)) hR) rfl kj (cat_part [ints .u64 (nw3 r)] [ints .u64 (nw3 s)] [ints .u64 (nw3 (SS)), ints .u8 (pl), #[.int .i64 ((m : Nat) : Int)]] 3 ((ints_size _ _).trans (nw3_len _))) kj (isz (n := 3) kj ((ints_size _ _).trans (nw3_len _))))) ?_
      refine any_call (.agg (ints .u64 (nw3 (SS + 5 + s)))) 40 #[.agg (ints .u64 (nw3 (SS + 5))), .agg (ints .u64 (nw3 s))] kj kj (fun W => by kernel_rfl) (fun W hR => (plusC (SS + 5) s (by omega) hs.1 (by omega) (by omega) (by omega)) W) ?_
      refine steps_nil (hF _ kj fun W8 e8 => ?_)
      simp only [ups, up, Kn.val, List.take_succ_cons, List.take_zero, List.drop_succ_cons, List.drop_zero, List.nil_append, List.cons_append]
      clear hF
      have x8 : ExtB g w W8 := ExtB.ext x7 e8
      have r39_8 := (row_ext r39_7 e8)
      refine seq_store g39 _ (ints .u64 (nw3 (SS + 5 + s))) 66 r39_8 rfl kj (run_store_row 66 _ _ g39 66 _ _ r39_8 rfl kj kj (isz (n := 3) kj ((ints_size _ _).trans (nw3_len _))) (eqsz (n := 3) ((ints_size _ _).trans (nw3_len _)) ((ints_size _ _).trans (nw3_len _))) (ints_one _ _)) fun W9 p9 r39_9 => ?_
      have x9 : ExtB g w W9 := ExtB.putsN x8 p9 b39
      refine seq_nil ?_
      refine hK45 _ _ ?_
      try clear hK45 K45
      refine wp_seq_k fun K46 hK46 => ?_
      refine region_lit ?_
      refine seq_alloc (ints .u8 (List.replicate 16 0)) 27 5 rfl kj kj fun g47 W10 l47 e10 r47_10 => ?_
      have x10 : ExtB g w W10 := ExtB.ext x9 e10
      have b47 : w.heap.size ≤ g47 := Nat.le_trans x9.size l47
      refine seq_nil ?_
      refine hK46 _ _ ?_
      try clear hK46 K46
      refine wp_seq_k fun K48 hK48 => ?_
      refine wp_seq_k fun K49 hK49 => ?_
      refine region_lit ?_
      refine seq_val (.int .i64 0) 31 rfl kj kj ?_
      refine seq_nil ?_
      refine hK49 _ _ ?_
      try clear hK49 K49
      refine wp_block ?_
      refine loop_auto (fun (s3 : Nat) => [(2, .pointer (some ⟨g3, 0, none⟩)), (3, .pointer (some ⟨g39, 0, none⟩)), (5, .pointer (some ⟨g47, 0, none⟩)), (31, .int .i64 ((s3 : Nat) : Int))]) (fun (s3 : Nat) W => (s3 ≤ 16) ∧ (W.heap[g47]? = some (.cells (ints .u8 (fillL (by16 (SS + 5 + s)) 16 s3)) 27)) ∧ (Keeps [g47] W10 W) ∧ (ExtB g w W)) (fun (s3 : Nat) => 16 - s3) 0 ⟨rfl, rfl, rfl, rfl, trivial⟩ ⟨(Nat.zero_le _), (row_eq r47_10 (fillL_zero _ 16)), (Keeps.refl [g47] W10), x10⟩ fun s3 X3 V3 hI3 => ?_
      obtain ⟨i, hs3⟩ : ∃ z, z = s3 := ⟨_, rfl⟩
      subst hs3
      obtain ⟨hi, q47_3, kk3, xx3⟩ := hI3
      replace hi : i ≤ 16 := hi
      replace q47_3 : V3.heap[g47]? = some (.cells (ints .u8 (fillL (by16 (SS + 5 + s)) 16 i)) 27) := q47_3
      replace kk3 : Keeps [g47] W10 V3 := kk3
      replace xx3 : ExtB g w V3 := xx3
      have q11 := kk3
      refine wp_seq_k fun K50 hK50 => ?_
      refine region_lit ?_
      refine seq_val (.bool (decide (((i : Nat) : Int) < 16))) 32 rfl kj kj ?_
      refine seq_nil ?_
      refine hK50 _ _ ?_
      try clear hK50 K50
      refine wp_seq_k fun K51 hK51 => ?_
      refine cond_split (t := decide (((i : Nat) : Int) < 16)) kj (fun c52 => ?_) (fun c52 => ?_)
      · skip
        have hlt32 : i < 16 := by have := of_decide_eq_true c52; omega
        refine wp_skip ?_
        refine hK51 _ _ ?_
        try clear hK51 K51
        refine wp_seq_k fun K53 hK53 => ?_
        refine wp_block ?_
        refine wp_seq_k fun K54 hK54 => ?_
        refine region_lit ?_
        refine seq_val (.int .i64 ((i : Nat) : Int)) 33 rfl kj kj ?_
        refine seq_val (.int .i64 ((i : Nat) : Int)) 6 rfl kj kj ?_
        refine seq_nil ?_
        refine hK54 _ _ ?_
        try clear hK54 K54
        refine region_lit ?_
        refine seq_val (.int .i64 ((i : Nat) : Int)) 34 rfl kj kj ?_
        refine seq_val (.int .i64 ((i : Nat) : Int)) 35 rfl kj kj ?_
        refine seq_val (.int .i64 ((i / 8 : Nat) : Int)) 36 rfl kj (run_eq (u := .int .i64 (IntKind.i64.wrap (Int.tdiv (((i : Nat) : Int)) (8)))) kj (congrArg (Value.int .i64) (i64_quo _ 8 (by omega)))) ?_
        refine seq_val (.pointer (some ⟨g39, i / 8, none⟩)) 37 rfl kj (run_index0 _ _ _ .i64 (i / 8) _ 3 64 rfl kj kj kj kj (by omega)) ?_
        have r39_10 := (row_ext r39_9 e10)
        have r39_11 := (Keeps.row q11 r39_10 (nm_cons (ne_of_old r39_9 l47) nm_nil))
        refine seq_val (.int .u64 (nth (nw3 (SS + 5 + s)) (i / 8))) 38 rfl kj (run_loadC1 64 _ g39 (i / 8) 66 _ (.int .u64 (nth (nw3 (SS + 5 + s)) (i / 8))) _ r39_11 rfl kj (ints_get _ _ _ (Nat.lt_of_lt_of_eq (by omega) (nw3_len _).symm)) kj) ?_
        refine seq_val (.int .i64 ((i : Nat) : Int)) 39 rfl kj kj ?_
        refine seq_val (.int .i64 ((i % 8 : Nat) : Int)) 40 rfl kj (run_eq (u := .int .i64 (Int.tmod (((i : Nat) : Int)) (8))) kj (congrArg (Value.int .i64) (nat_rem _ 8))) ?_
        refine seq_val (.int .i64 ((8 * (i % 8) : Nat) : Int)) 41 rfl kj (run_eq (u := .int .i64 (IntKind.i64.wrap (8 * ((i % 8 : Nat) : Int)))) kj (congrArg (Value.int .i64) (i64n _ _ (by omega) (by omega)))) ?_
        refine seq_val (.int .u64 (nth (nw3 (SS + 5 + s)) (i / 8) / p256 (i % 8))) 42 rfl kj (run_bin .shr _ _ _ _ .u64 .i64 _ _ _ rfl kj kj (b_shr _ _ _ _ _ _ (by omega) (shr8 _ (i % 8) _ rfl (by omega)))) ?_
        refine seq_val (.int .u8 (nth (by16 (SS + 5 + s)) i)) 43 rfl kj (run_eq (u := .int .u8 (IntKind.u8.wrap (nth (nw3 (SS + 5 + s)) (i / 8) / p256 (i % 8)))) kj (congrArg (Value.int .u8) (out_byte _ i hlt32))) ?_
        refine seq_val (.pointer (some ⟨g47, i, none⟩)) 44 rfl kj (run_index0 _ _ _ .i64 (i) _ 16 5 rfl kj kj kj kj (by omega)) ?_
        refine seq_store g47 _ (ints .u8 ((fillL (by16 (SS + 5 + s)) 16 i).set i (nth (by16 (SS + 5 + s)) i))) 27 q47_3 rfl kj (run_storeI 5 _ _ g47 i 27 _ _ q47_3 rfl kj kj kj (Nat.lt_of_lt_of_eq (by omega) (fillL_len _ 16 _ (by16_len _) hi).symm)) fun W12 p12 r47_12 => ?_
        have x12 : ExtB g w W12 := ExtB.putsN xx3 p12 b47
        refine seq_nil ?_
        refine hK53 _ _ ?_
        try clear hK53 K53
        refine region_lit ?_
        refine seq_val (.int .i64 ((i + 1 : Nat) : Int)) 45 rfl kj (run_eq (u := .int .i64 (IntKind.i64.wrap (((i : Nat) : Int) + 1))) kj (congrArg (Value.int .i64) (i64n _ _ (by omega) (by omega)))) ?_
        refine seq_val (.int .i64 ((i + 1 : Nat) : Int)) 31 rfl kj kj ?_
        refine seq_nil ?_
        repeat (first | with_reducible refine goX1 ?_ | with_reducible refine goX2 ?_ | with_reducible refine goX3 ?_)
        exact goes_then (i + 1) ⟨rfl, rfl, rfl, rfl, trivial⟩ ⟨(show i + 1 ≤ 16 by omega), (row_eq r47_12 (fillL_step _ 16 i (by16_len _) hlt32)), (Keeps.puts q11 p12 (.inl (by simp))), x12⟩ (by show 16 - (i + 1) < 16 - i; omega)
      · skip
        have heq32 : i = 16 := by have := of_decide_eq_false c52; omega
        subst heq32
        have r47_11_55 : V3.heap[g47]? = some (.cells (ints .u8 (by16 (SS + 5 + s))) 27) := row_eq q47_3 (fillL_full _ 16 (by16_len _))
        refine wp_exit ?_
        refine hK48 _ _ ?_
        try clear hK48 K48
        refine wp_seq_k fun K56 hK56 => ?_
        refine region_lit ?_
        refine seq_val (.agg (ints .u8 (by16 (SS + 5 + s)))) 46 rfl kj (run_load_row 27 _ g47 27 _ _ r47_11_55 rfl kj kj (isz (n := 16) kj ((ints_size _ _).trans (by16_len _)))) ?_
        have r3_2 := (row_ext r3_1 e2)
        have r3_3 := (Puts.row p3 r3_2 (ne_of_old r3_1 l39))
        have r3_4 := (row_ext r3_3 e4)
        have r3_5 := (row_ext r3_4 e5)
        have r3_6 := (Puts.row p6 r3_5 (ne_of_old r3_4 l42))
        have r3_7 := (Puts.row p7 r3_6 (ne_of_old r3_1 l39))
        have r3_8 := (row_ext r3_7 e8)
        have r3_9 := (Puts.row p9 r3_8 (ne_of_old r3_1 l39))
        have r3_10 := (row_ext r3_9 e10)
        have r3_11 := (Keeps.row q11 r3_10 (nm_cons (ne_of_old r3_9 l47) nm_nil))
        refine seq_store g3 _ (ints .u8 (by16 (SS + 5 + s))) 27 r3_11 rfl kj (run_store_row 27 _ _ g3 27 _ _ r3_11 rfl kj kj (isz (n := 16) kj ((ints_size _ _).trans (by16_len _))) (eqsz (n := 16) ((ints_size _ _).trans (List.length_replicate (n := 16))) ((ints_size _ _).trans (by16_len _))) (ints_one _ _)) fun W12 p12 r3_12 => ?_
        have x12 : ExtB g w W12 := ExtB.putsN xx3 p12 b3
        refine seq_nil ?_
        refine hK56 _ _ ?_
        try clear hK56 K56
        refine wp_ret ?_
        repeat (first | with_reducible refine goR1 ?_ | with_reducible refine goR2 ?_)
        exact (show bodyPost _ _ _ .ret _ _ from ret1 (.agg (ints .u8 (by16 (SS + 5 + s)))) rfl (res_cell g3 27 _ r3_12 kj kj (isz (n := 16) kj ((ints_size _ _).trans (by16_len _)))) ⟨by unfold tagV; rw [hfin], x12⟩)
    · skip
      have hbig : ¬ 1361129467683753853853498429727072845824 ≤ SS + 5 := of_decide_eq_false c44
      have hfin : by16 (SS + s) = by16 (polyT r t + s) := by
        have e : SS + s = polyT r t + s := by rw [← hSS]; unfold PP; omega
        rw [e]
      refine wp_skip ?_
      refine hK40 _ _ ?_
      try clear hK40 K40
      refine wp_seq_k fun K57 hK57 => ?_
      refine any_region 6 [⟨none, [(3, none)]⟩, ⟨none, [(0, none)]⟩, ⟨none, [(26, some 1)]⟩, ⟨none, [(27, some 2)]⟩, ⟨none, [(28, some 3)]⟩, ⟨none, [(25, some 0), (29, some 4)]⟩] kj kj fun F hF => ?_
      have r39_4 := (row_ext r39_3 e4)
      have r39_5 := (row_ext r39_4 e5)
      have r39_6 := (Puts.row p6 r39_5 (ne_of_old r39_4 l42))
      refine any_read (.agg (ints .u64 (nw3 (SS)))) kj kj (fun W hR => (run_load_row 66 _ g39 66 _ _ (row_ext (row_ext r39_6 (ext_drew _)) hR) rfl kj kj (isz (n := 3) kj ((ints_size _ _).trans (nw3_len _))))) ?_
      refine any_val (.pointer (some ⟨g, 0, none⟩)) kj kj (fun W => by kernel_rfl) ?_
      refine any_val (.pointer (some ⟨g, 0, none⟩)) kj kj (fun W => by kernel_rfl) ?_
      refine any_val (.pointer (some ⟨g, 3, none⟩)) kj kj (fun W => by kernel_rfl) ?_
      have r1_2 := (row_ext r1_1_n e2)
      have r1_3 := (Puts.row p3 r1_2 (ne_of_old r1_1_n l39))
      have r1_4 := (row_ext r1_3 e4)
      have r1_5 := (row_ext r1_4 e5)
      have r1_6 := (Puts.row p6 r1_5 (ne_of_old r1_4 l42))
      refine any_read (.agg (ints .u64 (nw3 s))) kj kj (fun W hR => (run_load_part 66 _ g 3 72 _ _ _ (row_ext (row_ext r1_6 (ext_drew _)) hR) rfl kj (cat_part [ints .u64 (nw3 r)] [ints .u64 (nw3 s)] [ints .u64 (nw3 (SS)), ints .u8 (pl), #[.int .i64 ((m : Nat) : Int)]] 3 ((ints_size _ _).trans (nw3_len _))) kj (isz (n := 3) kj ((ints_size _ _).trans (nw3_len _))))) ?_
      refine any_call (.agg (ints .u64 (nw3 (SS + s)))) 40 #[.agg (ints .u64 (nw3 (SS))), .agg (ints .u64 (nw3 s))] kj kj (fun W => by kernel_rfl) (fun W hR => (plusC (SS) s (by omega) hs.1 (by omega) (by omega) (by omega)) W) ?_
      refine steps_nil (hF _ kj fun W7 e7 => ?_)
      simp only [ups, up, Kn.val, List.take_succ_cons, List.take_zero, List.drop_succ_cons, List.drop_zero, List.nil_append, List.cons_append]
      clear hF
      have x7 : ExtB g w W7 := ExtB.ext x6 e7
      have r39_7 := (row_ext r39_6 e7)
      refine seq_store g39 _ (ints .u64 (nw3 (SS + s))) 66 r39_7 rfl kj (run_store_row 66 _ _ g39 66 _ _ r39_7 rfl kj kj (isz (n := 3) kj ((ints_size _ _).trans (nw3_len _))) (eqsz (n := 3) ((ints_size _ _).trans (nw3_len _)) ((ints_size _ _).trans (nw3_len _))) (ints_one _ _)) fun W8 p8 r39_8 => ?_
      have x8 : ExtB g w W8 := ExtB.putsN x7 p8 b39
      refine seq_nil ?_
      refine hK57 _ _ ?_
      try clear hK57 K57
      refine wp_seq_k fun K58 hK58 => ?_
      refine region_lit ?_
      refine seq_alloc (ints .u8 (List.replicate 16 0)) 27 5 rfl kj kj fun g59 W9 l59 e9 r59_9 => ?_
      have x9 : ExtB g w W9 := ExtB.ext x8 e9
      have b59 : w.heap.size ≤ g59 := Nat.le_trans x8.size l59
      refine seq_nil ?_
      refine hK58 _ _ ?_
      try clear hK58 K58
      refine wp_seq_k fun K60 hK60 => ?_
      refine wp_seq_k fun K61 hK61 => ?_
      refine region_lit ?_
      refine seq_val (.int .i64 0) 31 rfl kj kj ?_
      refine seq_nil ?_
      refine hK61 _ _ ?_
      try clear hK61 K61
      refine wp_block ?_
      refine loop_auto (fun (s4 : Nat) => [(2, .pointer (some ⟨g3, 0, none⟩)), (3, .pointer (some ⟨g39, 0, none⟩)), (5, .pointer (some ⟨g59, 0, none⟩)), (31, .int .i64 ((s4 : Nat) : Int))]) (fun (s4 : Nat) W => (s4 ≤ 16) ∧ (W.heap[g59]? = some (.cells (ints .u8 (fillL (by16 (SS + s)) 16 s4)) 27)) ∧ (Keeps [g59] W9 W) ∧ (ExtB g w W)) (fun (s4 : Nat) => 16 - s4) 0 ⟨rfl, rfl, rfl, rfl, trivial⟩ ⟨(Nat.zero_le _), (row_eq r59_9 (fillL_zero _ 16)), (Keeps.refl [g59] W9), x9⟩ fun s4 X4 V4 hI4 => ?_
      obtain ⟨i, hs4⟩ : ∃ z, z = s4 := ⟨_, rfl⟩
      subst hs4
      obtain ⟨hi, q59_4, kk4, xx4⟩ := hI4
      replace hi : i ≤ 16 := hi
      replace q59_4 : V4.heap[g59]? = some (.cells (ints .u8 (fillL (by16 (SS + s)) 16 i)) 27) := q59_4
      replace kk4 : Keeps [g59] W9 V4 := kk4
      replace xx4 : ExtB g w V4 := xx4
      have q10 := kk4
      refine wp_seq_k fun K62 hK62 => ?_
      refine region_lit ?_
      refine seq_val (.bool (decide (((i : Nat) : Int) < 16))) 32 rfl kj kj ?_
      refine seq_nil ?_
      refine hK62 _ _ ?_
      try clear hK62 K62
      refine wp_seq_k fun K63 hK63 => ?_
      refine cond_split (t := decide (((i : Nat) : Int) < 16)) kj (fun c64 => ?_) (fun c64 => ?_)
      · skip
        have hlt32 : i < 16 := by have := of_decide_eq_true c64; omega
        refine wp_skip ?_
        refine hK63 _ _ ?_
        try clear hK63 K63
        refine wp_seq_k fun K65 hK65 => ?_
        refine wp_block ?_
        refine wp_seq_k fun K66 hK66 => ?_
        refine region_lit ?_
        refine seq_val (.int .i64 ((i : Nat) : Int)) 33 rfl kj kj ?_
        refine seq_val (.int .i64 ((i : Nat) : Int)) 6 rfl kj kj ?_
        refine seq_nil ?_
        refine hK66 _ _ ?_
        try clear hK66 K66
        refine region_lit ?_
        refine seq_val (.int .i64 ((i : Nat) : Int)) 34 rfl kj kj ?_
        refine seq_val (.int .i64 ((i : Nat) : Int)) 35 rfl kj kj ?_
        refine seq_val (.int .i64 ((i / 8 : Nat) : Int)) 36 rfl kj (run_eq (u := .int .i64 (IntKind.i64.wrap (Int.tdiv (((i : Nat) : Int)) (8)))) kj (congrArg (Value.int .i64) (i64_quo _ 8 (by omega)))) ?_
        refine seq_val (.pointer (some ⟨g39, i / 8, none⟩)) 37 rfl kj (run_index0 _ _ _ .i64 (i / 8) _ 3 64 rfl kj kj kj kj (by omega)) ?_
        have r39_9 := (row_ext r39_8 e9)
        have r39_10 := (Keeps.row q10 r39_9 (nm_cons (ne_of_old r39_8 l59) nm_nil))
        refine seq_val (.int .u64 (nth (nw3 (SS + s)) (i / 8))) 38 rfl kj (run_loadC1 64 _ g39 (i / 8) 66 _ (.int .u64 (nth (nw3 (SS + s)) (i / 8))) _ r39_10 rfl kj (ints_get _ _ _ (Nat.lt_of_lt_of_eq (by omega) (nw3_len _).symm)) kj) ?_
        refine seq_val (.int .i64 ((i : Nat) : Int)) 39 rfl kj kj ?_
        refine seq_val (.int .i64 ((i % 8 : Nat) : Int)) 40 rfl kj (run_eq (u := .int .i64 (Int.tmod (((i : Nat) : Int)) (8))) kj (congrArg (Value.int .i64) (nat_rem _ 8))) ?_
        refine seq_val (.int .i64 ((8 * (i % 8) : Nat) : Int)) 41 rfl kj (run_eq (u := .int .i64 (IntKind.i64.wrap (8 * ((i % 8 : Nat) : Int)))) kj (congrArg (Value.int .i64) (i64n _ _ (by omega) (by omega)))) ?_
        refine seq_val (.int .u64 (nth (nw3 (SS + s)) (i / 8) / p256 (i % 8))) 42 rfl kj (run_bin .shr _ _ _ _ .u64 .i64 _ _ _ rfl kj kj (b_shr _ _ _ _ _ _ (by omega) (shr8 _ (i % 8) _ rfl (by omega)))) ?_
        refine seq_val (.int .u8 (nth (by16 (SS + s)) i)) 43 rfl kj (run_eq (u := .int .u8 (IntKind.u8.wrap (nth (nw3 (SS + s)) (i / 8) / p256 (i % 8)))) kj (congrArg (Value.int .u8) (out_byte _ i hlt32))) ?_
        refine seq_val (.pointer (some ⟨g59, i, none⟩)) 44 rfl kj (run_index0 _ _ _ .i64 (i) _ 16 5 rfl kj kj kj kj (by omega)) ?_
        refine seq_store g59 _ (ints .u8 ((fillL (by16 (SS + s)) 16 i).set i (nth (by16 (SS + s)) i))) 27 q59_4 rfl kj (run_storeI 5 _ _ g59 i 27 _ _ q59_4 rfl kj kj kj (Nat.lt_of_lt_of_eq (by omega) (fillL_len _ 16 _ (by16_len _) hi).symm)) fun W11 p11 r59_11 => ?_
        have x11 : ExtB g w W11 := ExtB.putsN xx4 p11 b59
        refine seq_nil ?_
        refine hK65 _ _ ?_
        try clear hK65 K65
        refine region_lit ?_
        refine seq_val (.int .i64 ((i + 1 : Nat) : Int)) 45 rfl kj (run_eq (u := .int .i64 (IntKind.i64.wrap (((i : Nat) : Int) + 1))) kj (congrArg (Value.int .i64) (i64n _ _ (by omega) (by omega)))) ?_
        refine seq_val (.int .i64 ((i + 1 : Nat) : Int)) 31 rfl kj kj ?_
        refine seq_nil ?_
        repeat (first | with_reducible refine goX1 ?_ | with_reducible refine goX2 ?_ | with_reducible refine goX3 ?_)
        exact goes_then (i + 1) ⟨rfl, rfl, rfl, rfl, trivial⟩ ⟨(show i + 1 ≤ 16 by omega), (row_eq r59_11 (fillL_step _ 16 i (by16_len _) hlt32)), (Keeps.puts q10 p11 (.inl (by simp))), x11⟩ (by show 16 - (i + 1) < 16 - i; omega)
      · skip
        have heq32 : i = 16 := by have := of_decide_eq_false c64; omega
        subst heq32
        have r59_10_67 : V4.heap[g59]? = some (.cells (ints .u8 (by16 (SS + s))) 27) := row_eq q59_4 (fillL_full _ 16 (by16_len _))
        refine wp_exit ?_
        refine hK60 _ _ ?_
        try clear hK60 K60
        refine wp_seq_k fun K68 hK68 => ?_
        refine region_lit ?_
        refine seq_val (.agg (ints .u8 (by16 (SS + s)))) 46 rfl kj (run_load_row 27 _ g59 27 _ _ r59_10_67 rfl kj kj (isz (n := 16) kj ((ints_size _ _).trans (by16_len _)))) ?_
        have r3_2 := (row_ext r3_1 e2)
        have r3_3 := (Puts.row p3 r3_2 (ne_of_old r3_1 l39))
        have r3_4 := (row_ext r3_3 e4)
        have r3_5 := (row_ext r3_4 e5)
        have r3_6 := (Puts.row p6 r3_5 (ne_of_old r3_4 l42))
        have r3_7 := (row_ext r3_6 e7)
        have r3_8 := (Puts.row p8 r3_7 (ne_of_old r3_1 l39))
        have r3_9 := (row_ext r3_8 e9)
        have r3_10 := (Keeps.row q10 r3_9 (nm_cons (ne_of_old r3_8 l59) nm_nil))
        refine seq_store g3 _ (ints .u8 (by16 (SS + s))) 27 r3_10 rfl kj (run_store_row 27 _ _ g3 27 _ _ r3_10 rfl kj kj (isz (n := 16) kj ((ints_size _ _).trans (by16_len _))) (eqsz (n := 16) ((ints_size _ _).trans (List.length_replicate (n := 16))) ((ints_size _ _).trans (by16_len _))) (ints_one _ _)) fun W11 p11 r3_11 => ?_
        have x11 : ExtB g w W11 := ExtB.putsN xx4 p11 b3
        refine seq_nil ?_
        refine hK68 _ _ ?_
        try clear hK68 K68
        refine wp_ret ?_
        repeat (first | with_reducible refine goR1 ?_ | with_reducible refine goR2 ?_)
        exact (show bodyPost _ _ _ .ret _ _ from ret1 (.agg (ints .u8 (by16 (SS + s)))) rfl (res_cell g3 27 _ r3_11 kj kj (isz (n := 16) kj ((ints_size _ _).trans (by16_len _)))) ⟨by unfold tagV; rw [hfin], x11⟩)

end Go.Proofs.YtjldjdlhllgakaaDoor.Ae
